import PyProof.Rows.All
import Wide.All
import OpenK.AllK
import Wide.FinOn
import HandS.ForMost
import KE.KExcInit
import KE.KTryMore
import HandS.Exc
import HandS.ExcOwn
import HandS.ExcInit
import HandS.ExcIs
import HandS.ExcValue
import HandS.TryMany
import HandS.IsInst
import PyProof.ReprRoads
import PyProof.ReprLen
import PyProof.CallFns
import OpenK.KMeth
import OpenK.KOps
import KE.KOpsOwn
import KE.KCallOwn
import PyProof.InstNe
import HandS.OwnEq
import HandS.Small
import KE.KEqDict
import KE.KDictKeyed
import HandS.DictComp
import HandS.Walk
import KE.KSortTupAny
import KE.KDictSum
import HandS.SortOrd
import HandS.Conv
import HandS.StrMore
import HandS.Zip
import HandS.Codes
import HandS.TupAny
import KE.KItemsList
import HandS.DictTup
import KE.KDictDisplayH
import HandS.TupMul
import PyProof.EqAt
import KE.GoesEnum
import KE.LtSeq
import PyProof.EqKinds
import HandS.Deep
import KE.KEqNest
import HandS.TupSets
import HandS.Strs
import HandS.More
import HandS.Dict
import HandS.Comp
import PyProof.NeKinds
import HandS.ListItems
import PyProof.Rows.EqNone
import KE.KRevSl
import HandS.List
import HandS.Style
import PyProof.ZipIter
import PyProof.Draws
import HandS.Base
import HandS.Call
import HandS.Iter
import HandS.Wide
import HandS.WordsExc
import HandS.Defaults
import HandS.MakeKwOnly
import HandS.Property
import HandS.FStr
import HandS.TupLen
import HandS.WordsDict
import KE.KxText
import PySem.Challenge.RW_dealtrows_k04_ways_and_parts_left_out
set_option Elab.async false
set_option linter.all false
set_option maxRecDepth 100000
/-! Dice of the scripts: what a draw leaves. -/
namespace Dt
open PySem PySem.Spec PyProof.Rows L2
def Die (H : Hp) (a : Addr) : Prop := ∃ x y z : Int, H a = some (.lst [.int x, .int y, .int z])
structure Rolled (a : Addr) (H H' : Hp) : Prop where
  die : Die H' a
  keep : ∀ b o, b ≠ a → H b = some o → H' b = some o
section
variable {K : PySem.W.Frag} {H H1 H2 : Hp} {a p : Addr} {o : HO} {xs : List V}
theorem Rolled.refl (h : Die H a) : Rolled a H H := ⟨h, fun _ _ _ e => e⟩
theorem Rolled.trans (r : Rolled a H H1) (q : Rolled a H1 H2) : Rolled a H H2 := ⟨q.die, fun b o hb e => q.keep b o hb (r.keep b o hb e)⟩
theorem Die.ne (h : Die H a) (hp : H p = none) : p ≠ a := fun z => by
  obtain ⟨x, y, w, e⟩ := h
  rw [z, e] at hp
  cases hp
theorem Die.new (h : Die H a) (hp : H p = none) : Die (upd H p o) a := by
  have n := h.ne hp
  obtain ⟨x, y, w, e⟩ := h
  exact ⟨x, y, w, by rw [upd_ne (Ne.symm n)]; exact e⟩
theorem Die.off (h : Die H a) (hp : p ≠ a) : Die (upd H p o) a := by
  obtain ⟨x, y, w, e⟩ := h
  exact ⟨x, y, w, by rw [upd_ne (Ne.symm hp)]; exact e⟩
/-- a new object is laid -/
theorem Rolled.new (r : Rolled a H H1) (hp : H1 p = none) : Rolled a H (upd H1 p o) := ⟨r.die.new hp, fun b u hb e => by
  have q := r.keep b u hb e
  rw [upd_ne (ne_of_none q hp)]
  exact q⟩
/-- an object that was not there at first is changed -/
theorem Rolled.mut (r : Rolled a H H1) (hp : H p = none) (hn : p ≠ a) : Rolled a H (upd H1 p o) := ⟨r.die.off hn, fun b u hb e => by
  rw [upd_ne (ne_of_none e hp)]
  exact r.keep b u hb e⟩
theorem Rolled.free (r : Rolled a H H1) (hp : H1 p = none) : H p = none := by
  cases q : H p with
  | none => rfl
  | some u =>
    have n := r.die.ne hp
    rw [r.keep p u n q] at hp
    cases hp
theorem Rolled.rd {u : HO} (r : Rolled a H H1) (n : p ≠ a) (h : Rd H p u) : Rd H1 p u := by
  rcases h with h | ⟨o, h⟩
  · exact .inl (r.keep _ _ n h)
  · exact .inr ⟨o, r.keep _ _ n h⟩
theorem Rolled.sqL (r : Rolled a H H1) (n : p ≠ a) (h : SqL K H p xs) : SqL K H1 p xs := by
  rcases h with h | h
  · exact .inl (r.rd n h)
  · exact .inr h
theorem Rolled.sqT (r : Rolled a H H1) (n : p ≠ a) (h : SqT K H p xs) : SqT K H1 p xs := by
  rcases h with h | h
  · exact .inl (r.rd n h)
  · exact .inr h
end
theorem atI_ok {α : Type} {xs : List α} {r : Int} (h0 : 0 ≤ r) (h : r < xs.length) : ∃ v, atI xs r = some v ∧ v ∈ xs := by
  obtain ⟨j, rfl⟩ := Int.eq_ofNat_of_zero_le h0
  have hj : j < xs.length := by omega
  exact ⟨xs[j], atI_nat (by simp [hj]), List.getElem_mem hj⟩
theorem sameNew {H : Hp} {p : Addr} {o : HO} (n : H p = none) : Same H (upd H p o) := fun b u e => by
  rw [upd_ne (ne_of_none e n)]
  exact e
/-- a new object, its heap by a name -/
theorem newL {H : Hp} {o : HO} {Q : VK} (h : ∀ p H1, H p = none → H1 p = some o → Same H H1 → Q (.ref p) H1) : ∀ p, H p = none → Q (.ref p) (upd H p o) := fun p n => h p _ n upd_same (sameNew n)
theorem sameT {K : PySem.W.Frag} {H H1 : Hp} {a : Addr} {xs : List V} (S : Same H H1) (h : SqT K H a xs) : SqT K H1 a xs := by
  rcases h with (h | ⟨o, h⟩) | h
  · exact .inl (.inl (S _ _ h))
  · exact .inl (.inr ⟨o, S _ _ h⟩)
  · exact .inr h
/-- both ways of a test -/
theorem iteB {c : Bool} {A B : Prop} (h1 : c = true → A) (h2 : c = false → B) : if c = true then A else B := by
  cases c with
  | true => exact iteT (h1 rfl)
  | false => exact iteF (h2 rfl)
theorem iteD {p : Prop} [Decidable p] {A B : Prop} (h1 : p → A) (h2 : ¬ p → B) : if decide p = true then A else B := iteB (fun c => h1 (of_decide_eq_true c)) fun c => h2 (of_decide_eq_false c)
/-- powers of any base -/
def CPowG (i j : Int) : Prop := 0 ≤ j ∧ (Builtin.Int.intBits i : Int) * j ≤ 2 ^ 27
theorem op_powG {X : Cx} : OpR X (binaryOp .Pow) (rI CPowG fun i j => .int (i ^ j.toNat)) := opI fun _ _ _ _ _ _ _ hc q => pow_int hc.1 hc.2 q
/-! what a roll, a pick promise -/
def spRoll : Sp := fun vs H Q _ => ∃ (a : Addr) (n : Int), vs = [.ref a, .int n] ∧ Die H a ∧ 0 < n ∧ n < 1073741824 ∧ ∀ (r : Int) H', 0 ≤ r → r < n → Rolled a H H' → Q (.int r) H'
/-- what can be picked from: a text, a list, a tuple, with its items -/
def Pool (K : PySem.W.Frag) (H : Hp) (a : Addr) : V → List V → Prop
  | .str z, xs => xs = z.cps.toList.map fun c => V.str ⟨#[c]⟩
  | .ref p, xs => p ≠ a ∧ (SqL K H p xs ∨ SqT K H p xs)
  | _, _ => False
def spPick (K : PySem.W.Frag) : Sp := fun vs H Q _ => ∃ (a : Addr) (y : V) (xs : List V), vs = [.ref a, y] ∧ Die H a ∧ Pool K H a y xs ∧ 0 < xs.length ∧ xs.length < 1000000 ∧
  ∀ v H', v ∈ xs → Rolled a H H' → Q v H'
def spDice (K : PySem.W.Frag) : Sp := fun vs H Q _ => ∃ (s : Addr) (ns : List Int) (i : Nat), vs = [.ref s, .int i] ∧ SqL K H s (ns.map V.int) ∧ ns.length ≤ 63 ∧ i ≤ 1000 ∧ ∀ p H', H p = none → Die H' p → (∀ b o, H b = some o → H' b = some o) → Q (.ref p) H'
end Dt

set_option Elab.async false
set_option linter.all false
set_option maxRecDepth 100000
set_option maxHeartbeats 4000000
/-! Exception classes of the program's own, over any built-in base: made, kept as values, asked, raised. -/
namespace Exs
open PySem PySem.Spec PyProof.Rows L2
open Builtin Builtin.ObjectAttr

/-- own classes first, then the built-in ones -/
def endsIn (t : List Value) : List Value → Bool
  | .ref _ :: r => endsIn t r
  | l => l == t
theorem endsIn_two (t : List Value) (l : List Value) (e : endsIn t l = true) : l = t ∨ ∃ c r, l = .ref c :: r ∧ endsIn t r = true := by
  cases l with
  | nil => exact .inl (beq_iff_eq.mp e)
  | cons a r =>
    cases a with
    | ref c => exact .inr ⟨c, r, rfl, e⟩
    | _ => exact .inl (beq_iff_eq.mp e)
theorem endsIn_has {t : List Value} (Y : String) : ∀ l : List Value, endsIn t l = true → l.contains (.type Y) = t.contains (.type Y) := by
  intro l
  induction l with
  | nil =>
    intro e
    rw [← beq_iff_eq.mp (show ([] == t) = true from e)]
  | cons a r ih =>
    intro e
    rcases endsIn_two t _ e with z | ⟨c, r', z, h⟩
    · rw [z]
    · cases z
      rw [List.contains_cons, ih h]
      rfl
/-- a built-in tail lets a store pass -/
def Lets (t : List Value) : Prop := ∀ self : Value, refuseLoop self "__setattr__" t = pure ()
theorem endsIn_lets {t : List Value} (p : Lets t) (self : Value) : ∀ l : List Value, endsIn t l = true → refuseLoop self "__setattr__" l = pure () := by
  intro l
  induction l with
  | nil =>
    intro e
    rw [beq_iff_eq.mp (show ([] == t) = true from e)]
    exact p self
  | cons a r ih =>
    intro e
    rcases endsIn_two t _ e with z | ⟨c, r', z, h⟩
    · rw [z]
      exact p self
    · cases z
      rw [refuseLoop_ref]
      exact ih h
section
variable {prog : Program} {w : World} {A : Around} {R : Result → Shared → Prop} {s : Shared} {K : W.Frag} {C x : Addr} {cd : ClassData} {t : List Value} {f : Str} {k : Tok} {v : Value} {fv : Array Value}
/-- the first store into an exception: its dict is made -/
theorem first_store (X : K.In s.heap) (ho : s.heap.get? x = some { cls := .ref C, data := .fields fv }) (hc : W.clsIn K C = some cd) (hm : endsIn t cd.mro = true) (hp : Lets t) (hb : t.contains (.type "object") = true) (ht : t ≠ [])
    (hd : cd.hasDict = true) (hn : W.findIn K (.ref C) f = some none)
    (q : ∀ s' dx, (∀ b o, b ≠ x → s.heap.get? b = some o → s'.heap.get? b = some o) → s.heap.objs.size ≤ dx → dx ≠ x → s'.heap.get? x = some { cls := .ref C, dict := some dx, data := .fields fv } →
      s'.heap.Ns1 dx (fun y => if y = f then some v else none) → s' = { s with heap := s'.heap, toks := s'.toks } → R (.ok (.ret .none)) s') :
    codeAny (model prog w) A (.call (.builtin "object.__setattr__") ⟨[.ref x, .str f k, v], []⟩) R s := by
  obtain ⟨hp0, ge, dr, tk, os⟩ := s
  have me : cd.mro.isEmpty = false := by
    cases e : cd.mro with
    | nil =>
      rw [e] at hm
      exact absurd (beq_iff_eq.mp (show (([] : List Value) == t) = true from hm)).symm ht
    | cons _ _ => rfl
  have mo : cd.mro.contains (.type "object") = true := by rw [endsIn_has _ _ hm]; exact hb
  have J : W.InstAt hp0 x { cls := .ref C, data := .fields fv } C none := ⟨ho, rfl, rfl, trivial⟩
  have nx : hp0.objs.size ≠ x := Nat.ne_of_gt (Heap.lt_size ho)
  have isO : W.Looks (model prog w) hp0 (isInstance (.ref x) (.type "object")) true := by
    refine J.type.andThen (W.looks_mroIn X ?_)
    unfold W.mroIn
    rw [hc, Option.bind_some, if_neg (by rw [me]; decide), mo]
  have mr : W.Looks (model prog w) hp0 (mroOf (.ref C)) cd.mro := (W.looks_clsIn X hc).andThen .now
  have ta : W.Looks (model prog w) hp0 (storeTaker? none) none := .now
  have cl : W.Looks (model prog w) hp0 (classData C) cd := W.looks_clsIn X hc
  refine codeAny_call_builtin PySem.F.store_object.slot.plain PySem.F.store_object.entry ?_
  refine @W.check_slot (model prog w) _ _ ⟨hp0, ge, dr, tk, os⟩ "object.__setattr__" "object" "__setattr__" (.ref x) [.str f k, v] [] _
    PySem.F.store_object.kind PySem.F.store_object.split isO (PySem.F.store_object.args (.ref x) (.str f k) v) ?_
  rw [W.osa_eq, refuse_eq]
  refine wpAny_bind (wpAny_bind (J.type.at ?_))
  refine wpAny_bind (mr.at ?_)
  rw [endsIn_lets hp _ _ hm]
  refine wpAny_pure (wpAny_bind (J.type.at ?_))
  refine wpAny_bind ((W.looks_findIn X hn).at ?_)
  refine wpAny_bind (ta.at ?_)
  show wpAny _ _ (storeInOwnDict (.ref x) (.ref C) (.str f k) f v false) _ _ _
  obtain ⟨c1, c2, c3, c4, c5, c6, c7, c8, c9, c10, c11⟩ := cd
  dsimp only at hd
  subst hd
  unfold storeInOwnDict ownDictForStores
  repeat (first
    | with_reducible refine HandSPX.store_in_new ?_ ?_
    | with_reducible refine wpAny_loadPart_at ho ?_
    | with_reducible refine cl.at ?_
    | wp_step)
  · refine ⟨_, #[], _, (Heap.get?_update_ne _ _ _ _ nx).trans (Heap.get?_push_at rfl rfl), rfl, fun e he => ?_, fun _ => rfl⟩
    exact absurd he (by simp)
  · intro h' tk' hn' hs
    have ho1 : (hp0.push { cls := .type "dict", data := .dict #[] }).get? x = some { cls := .ref C, data := .fields fv } := Heap.get?_push_of_some _ ho
    refine q ⟨h', ge, dr, tk', os⟩ hp0.objs.size (fun b o hbx hbo => ?_) (Nat.le_refl _) nx ?_ hn' rfl
    · refine (hs.2 b (Nat.ne_of_lt (Heap.lt_size hbo))).trans ?_
      exact (Heap.get?_update_ne _ _ _ _ hbx).trans (Heap.get?_push_of_some _ hbo)
    · exact (hs.2 x (Ne.symm nx)).trans (Heap.get?_update_self _ ho1 rfl)
end

/-! ### the call of an exception class with an __init__ of its own: what its chain must hold -/
section
variable {h : Heap} {g : Array GenState} {d : Drawn} {t : Nat} {os : OsState} {nm q : Str} {C N : Addr} {bs bm bmB : List Value} {hdct : Bool} {sn : List Str} {sub : List Value} {ab : Bool} {col : Option Bool} {dd : Option Addr} {k0 k1 k2 k3 k5 : Option Value}
  {B newId initId : String} {rest : List Value}
theorem chk_new {M : Model} {A : Around} {E : Value → Shared → Prop} {Q : Unit → Shared → Prop} (F : ExcBaseFacts B newId initId bmB) (hB : bm.contains (.type B) = true)
    (hC : h.get? C = some (excClassObj nm q C N bs bm hdct sn sub ab col dd k0 k1 k2 k3 k5 newId)) (z : Q () ⟨h, g, d, t, os⟩) : wpAny M A (checkBuiltinCall newId ⟨.ref C :: rest, []⟩) Q E ⟨h, g, d, t, os⟩ := by
  have has : (Value.ref C :: bm).contains (.type B) = true := by rw [List.contains_cons, hB, Bool.or_true]
  have ns := F.noStar
  simp only [checkBuiltinCall, F.newKind, F.newSplit, F.newRow]
  repeat (first
    | refine wpAny_loadPart_at hC ?_
    | (refine wpAny_isSubtype_exc hC ?_; rw [has])
    | refine wpAny_staticBase_exc hC ?_
    | refine wpAny_madeBy_exc hC ?_
    | simp only [bne_self_eq_false, Bool.false_eq_true, if_false]
    | wp_step)
  exact z
theorem new_run {prog : Program} {w : World} {A : Around} {R : Result → Shared → Prop} (F : ExcBaseFacts B newId initId bmB) (hB : bm.contains (.type B) = true) (hA : bm.contains (.type "AttributeError") = false) (hN : bm.contains (.type "NameError") = false)
    (hC : h.get? C = some (excClassObj nm q C N bs bm hdct sn sub ab col dd k0 k1 k2 k3 k5 newId)) (hz : rest.length ≤ sizeLine)
    (z : R (.ok (.ret (.ref (h.objs.size + 1)))) ⟨(h.push { cls := .type "tuple", data := .seq rest.toArray }).push { cls := .ref C, data := .fields #[.ref h.objs.size, .none, .none, .none, .bool false, .none] }, g, d, t, os⟩) :
    codeAny (model prog w) A (.builtin newId ⟨.ref C :: rest, []⟩) R ⟨h, g, d, t, os⟩ := by
  have e1 := F.ends
  have c1 : (Value.ref C :: bm).contains (.type B) = true := by rw [List.contains_cons, hB, Bool.or_true]
  have c2 : (Value.ref C :: bm).contains (.type "AttributeError") = false := by rw [List.contains_cons, hA]; rfl
  have c3 : (Value.ref C :: bm).contains (.type "NameError") = false := by rw [List.contains_cons, hN]; rfl
  refine codeAny_builtinAt F.entry ?_
  unfold Builtin.«BaseException.__new__»
  refine PySem.wpAt_bind ?_
  show PySem.wpAt _ _ _ (stack >>= _) _ _ _
  refine PySem.wpAt_bind (PySem.wpAt_stack fun p below => PySem.wpAt_of_wpAny ?_)
  wp_walk
  refine PySem.wpAt_of_wpAny ?_
  rw [F.owner]
  repeat (first
    | with_reducible refine wpAny_madeHere_exc F.canon hC ?_
    | with_reducible refine wpAny_loadPart_at hC ?_
    | (with_reducible refine wpAny_isSubtype_exc hC ?_; first | rw [c1] | rw [c2] | rw [c3])
    | wp_step)
  show R _ _
  rw [Heap.size_push]
  exact z
theorem type_run {prog : Program} {w : World} {A : Around} {E : Value → Shared → Prop} {fI : Addr} {Q : Fin → Shared → Prop} (F : ExcBaseFacts B newId initId bmB) (hB : bm.contains (.type B) = true) (hA : bm.contains (.type "AttributeError") = false) (hN : bm.contains (.type "NameError") = false)
    (hC : h.get? C = some (excClassObj nm q C N bs bm hdct sn sub ab col dd k0 k1 k2 k3 k5 newId)) (hi : W.Looks (model prog w) h (typeLookup (.ref C) "__init__") (some (.ref fI))) (hb : ∀ self, W.Looks (model prog w) h (bindSpecial (.ref fI) self) (.ref fI, [self]))
    (hz : rest.length ≤ sizeLine)
    (z : codeAny (model prog w) A (.call (.ref fI) ⟨.ref (h.objs.size + 1) :: rest, []⟩)
      (fun r s' => match r with | .ok (.ret v) => v = .none ∧ Q (.done (.ret (.ref (h.objs.size + 1)))) s' | .ok _ => False | .error e => E e s') ⟨(h.push (W.kdv_tup rest)).push (HandSPX.excO C h.objs.size), g, d, t, os⟩) :
    wpAny (model prog w) A (Builtin.«type.__call__» ⟨.ref C :: rest, []⟩) Q E ⟨h, g, d, t, os⟩ := by
  repeat (first
    | with_reducible refine wpAny_loadPart_at hC ?_
    | with_reducible refine wpAny_madeBy_exc hC ?_
    | wp_step)
  refine codeAny_call_builtin_code (Code.quiet_builtin _ F.quiet) (chk_new F hB hC ?_)
  refine new_run F hB hA hN hC hz ?_
  show wpAny _ _ _ _ _ _
  have kp : ∀ b o, h.get? b = some o → ((h.push (W.kdv_tup rest)).push (HandSPX.excO C h.objs.size)).get? b = some o := fun b o e => Heap.get?_push_of_some _ (Heap.get?_push_of_some _ e)
  have hC1 := kp _ _ hC
  have he : ((h.push (W.kdv_tup rest)).push (HandSPX.excO C h.objs.size)).get? (h.objs.size + 1) = some (HandSPX.excO C h.objs.size) := by heap_get
  have cc : (Value.ref C :: bm).contains (.ref C) = true := by simp
  have i1 := hi.keeps kp
  have b1 := (hb (.ref (h.objs.size + 1))).keeps kp
  unfold isInstance
  repeat (first
    | with_reducible refine wpAny_loadPart_at he ?_
    | (with_reducible refine wpAny_isSubtype_exc hC1 ?_; rw [cc])
    | wp_step)
  show wpAny _ _ (typeLookup (.ref C) _) _ _ _
  refine i1.at (wpAny_holding (wpAny_bind (b1.at ?_)))
  refine wpAny_bind (wpAny_call (codeAny_mono z fun r s' y => ?_))
  rcases r with e | (v | _ | _ | _) <;> first | exact y | exact y.elim | skip
  obtain ⟨rfl, y⟩ := y
  first
    | exact wpAny_pure (wpAny_pure y)
    | (wp_walk; exact y)
theorem call_run {prog : Program} {w : World} {A : Around} {R : Result → Shared → Prop} {fI : Addr} (F : ExcBaseFacts B newId initId bmB) (hB : bm.contains (.type B) = true) (hA : bm.contains (.type "AttributeError") = false) (hN : bm.contains (.type "NameError") = false)
    (hC : h.get? C = some (excClassObj nm q C N bs bm hdct sn sub ab col dd k0 k1 k2 k3 k5 newId)) (hi : W.Looks (model prog w) h (typeLookup (.ref C) "__init__") (some (.ref fI))) (hb : ∀ self, W.Looks (model prog w) h (bindSpecial (.ref fI) self) (.ref fI, [self]))
    (hz : rest.length ≤ sizeLine)
    (z : codeAny (model prog w) (A.under (.builtin "type.__call__" ⟨.ref C :: rest, []⟩)) (.call (.ref fI) ⟨.ref (h.objs.size + 1) :: rest, []⟩) (W.InitBack (h.objs.size + 1) R) ⟨(h.push (W.kdv_tup rest)).push (HandSPX.excO C h.objs.size), g, d, t, os⟩) :
    codeAny (model prog w) A (.call (.ref C) ⟨rest, []⟩) R ⟨h, g, d, t, os⟩ := by
  have l1 := tc_lookup
  have l2 := tc_bind (.ref C)
  have l3 : (⟨h, g, d, t, os⟩ : Shared).TypeIs (.ref C) "type" := ⟨_, hC, rfl⟩
  refine codeAny_of_tree ?_
  show wpAny _ _ (callAny (.ref C) _) _ _ _
  repeat (any_goals (first
    | assumption
    | with_reducible refine wpAny_loadPart_at hC ?_
    | wp_step))
  refine ⟨rfl, codeAny_call_builtin_at (Code.quiet_builtin _ (by decide +kernel)) entry_typeCall (wpAny_check_type_call_sub hC (type_run F hB hA hN hC hi hb hz ?_))⟩
  exact codeAny_mono z fun r s' y => by
    rcases r with e | (v | _ | _ | _) <;> exact y
end

/-- what the written part says of an exception class with an __init__ of its own -/
structure Cls1 (K : W.Frag) (C : Addr) : Prop where
  cls : ∃ nm q N bs bm sn sub ab col dd k0 k1 k2 k3 k5 B newId initId t0 t, K.lookup C = some (excClassObj nm q C N bs bm true sn sub ab col dd k0 k1 k2 k3 k5 newId) ∧
    ExcBaseFacts B newId initId t0 ∧ (bm.contains (.type B) = true ∧ bm.contains (.type "AttributeError") = false ∧ bm.contains (.type "NameError") = false) ∧ endsIn t bm = true ∧ Lets t ∧ t.contains (.type "object") = true ∧ t ≠ []
  sa : W.findIn K (.ref C) "__setattr__" = some (some (.builtin "object.__setattr__"))
  exC : W.subIn K (.ref C) (.type "BaseException") = some true
  tyC : W.typeIn K (.ref C) = some (.type "type")
  kC : W.keepIn K (.ref C) = true
section
variable {X : Cx} {pins : List (Addr × Obj)} {σ : L2.St} {H : Hp} {s : Shared} {a C : Addr} {f : Str} {y : V} {u : Value} {A : Around} {E : Value → Shared → Prop}
theorem put1 {Q : Unit → Shared → Prop} (T : Cls1 X.K C) (I : Inv X pins σ H s) (e : H a = some (exo a C none)) (hn : W.findIn X.K (.ref C) f = some none) (ry : RelV y u)
    (q : ∀ dx s', H dx = none → dx ≠ a → Inv X pins σ (upd (upd H dx (exd dx [(f, y)])) a (exo a C (some dx))) s' → Q () s') : wpAny (model X.prog X.w) A (setAttr (.ref a) f u) Q E s := by
  obtain ⟨nm, qn, N, bs, bm, sn, sub, ab, col, dd, k0, k1, k2, k3, k5, B, newId, initId, t0, t, hC, _, _, hbm, hl, hob, hne⟩ := T.cls
  have hcl : W.clsIn X.K C = some { name := nm, bases := bs, mro := .ref C :: bm, ns := N, qualname := qn, hasDict := true, slotNames := sn, subclasses := sub, abstract := ab, collection := col, hasDel := false } := by
    unfold W.clsIn
    rw [hC] <;> rfl
  obtain ⟨t1, ho⟩ := exo_at I.hok e
  refine W.set_plain I.kIn (ox := { cls := .ref C, dict := none, data := .fields #[.ref t1, .none, .none, .none, .bool false, .none] }) (od := none) ⟨ho, rfl, rfl, trivial⟩ T.sa ?_
  refine first_store I.kIn ho hcl (show endsIn t (.ref C :: bm) = true from hbm) hl hob hne rfl hn (fun s' dx kp dn dne hx hns es => ?_)
  obtain ⟨h', g', dr', tk', os'⟩ := s'
  cases es
  have hd : H dx = none := I.hok.fresh dn
  have nd : ∀ {b : Addr} {o : Obj}, s.heap.get? b = some o → b ≠ dx := fun {b o} z => Nat.ne_of_lt (Nat.lt_of_lt_of_le (Heap.lt_size z) dn)
  have na : ∀ {b : Addr}, H b = none → b ≠ a := fun {b} n z => by rw [z, e] at n; cases n
  have ba : ∀ {b : Addr} {o : HO}, H b = some o → (exo a C none) ≠ o → b ≠ a := fun {b o} z d w => by
    rw [w, e] at z
    exact d (Option.some.inj z)
  have bd : ∀ {b : Addr} {o : HO}, H b = some o → b ≠ dx := fun {b o} z => ne_of_none z hd
  have two : ∀ {b : Addr}, b ≠ a → b ≠ dx → upd (upd H dx (exd dx [(f, y)])) a (exo a C (some dx)) b = H b := fun {b} n1 n2 => by rw [upd_ne n1, upd_ne n2]
  have U : Un X.fs [] H (upd (upd H dx (exd dx [(f, y)])) a (exo a C (some dx))) s.heap h' := by
    refine ⟨fun b o z n _ _ => kp b o (na n) z, fun b o z n _ _ => ⟨o.slots, kp b o (na n) z⟩, fun b o z n _ => ?_, fun b o z _ => ?_, fun b xs z => ?_, fun b o v z => ?_, fun b ps z => ⟨#[], ?_⟩⟩
    · rw [two (na n) (nd z)]
      exact n
    · by_cases hb : b = a
      · exact ⟨_, by rw [hb]; exact hx⟩
      · exact ⟨o, kp b o hb z⟩
    · rw [two (ba z exo_tup) (bd z)]
      exact z
    · rw [two (ba z exo_frz) (bd z)]
      exact z
    · rw [two (ba z exo_tbl) (bd z), z]
      simp
  refine q dx _ hd dne (I.un (t' := tk') U fun b o z => ?_)
  by_cases hb : b = a
  · rw [hb, upd_same] at z
    cases z
    rw [hb]
    exact exo_ok hx
  · rw [upd_ne hb] at z
    by_cases hdx : b = dx
    · rw [hdx, upd_same] at z
      cases z
      rw [hdx]
      exact exd_ok hns (relO_put (fs := []) ry fun g => True.intro)
    · rw [upd_ne hdx] at z
      refine (I.hok b o z).stay (fun c v hc w => kp c v ?_ w) (fun c hc => ?_) fun c xs hc => ?_
      · rcases hc with hc | hc
        · rw [hc]
          exact hb
        · exact ba hc exo_own
      · rw [two (ba hc exo_own) (bd hc)]
        exact hc
      · rw [two (ba hc exo_tup) (bd hc)]
        exact hc
end
section
variable {X : Cx} {o e : Expr} {es : List Expr} {to te : TE} {ta : TA} {f x : Str} {p p' pos : Pos} {C fI : Addr} {k : Nat} {fd : FuncData} {ps : List Str} {sp : Sp} {CX : CXT}
/-- self.f = e, self an exception that is being made -/
def tPut1 (K : W.Frag) (f : Str) (to te : TE) : TS := fun D σ H => te σ H fun y H1 => to σ H1 fun x H2 => ∃ a C : Addr, x = .ref a ∧ Cls1 K C ∧ W.findIn K (.ref C) f = some none ∧ H2 a = some (exo a C none) ∧
  ∀ dx, H2 dx = none → dx ≠ a → D.nx σ (upd (upd H2 dx (exd dx [(f, y)])) a (exo a C (some dx)))
theorem ps_put1 (ho : PE X o to) (he : PE X e te) (hs : swapsWith e (some (.Attribute o f p')) pos.line X.env = pure false := by rfl) : PS X (.Assign [.Attribute o f p'] e pos) (tPut1 X.K f to te) := by
  refine ⟨fun pins s σ H D I h => plainObj_wpAny_Assign_Attribute (thn (he.run pins s σ H _ I h) ?_) hs⟩
  rintro v s1 ⟨y, H1, I1, r1, q1⟩
  refine thn (ho.run pins s1 σ H1 _ I1 q1) ?_
  rintro u s2 ⟨z, H2, I2, r2, a, C, rfl, T, hn, ea, q⟩
  cases r2
  exact put1 T I2 ea hn r1 fun dx s' n ne J => ⟨σ, _, J, q dx n ne⟩
/-- X(e, ..), the exception kept as a value -/
def tExv (C : Addr) (sp : Sp) (ta : TA) : TE := fun σ H Q => ta σ H fun vs H1 => vs.length ≤ 1000 ∧ ∀ a, H1 a = none → sp (.ref a :: vs) (upd H1 a (exo a C none)) (fun v H2 => v = .non ∧ Q (.ref a) H2) (fun _ _ _ => False)
/-- X(e, ..), to be raised -/
def tExr (C : Addr) (sp : Sp) (ta : TA) : L2.St → Hp → XK → Prop := fun σ H Q => ta σ H fun vs H1 => vs.length ≤ 1000 ∧ ∀ a, H1 a = none → sp (.ref a :: vs) (upd H1 a (exo a C none))
  (fun v H2 => v = .non ∧ ∃ (d : Addr) (fs : List (Str × V)), H2 a = some (exo a C (some d)) ∧ H2 d = some (exd d fs) ∧ H1 d = none ∧ Q (.ref C) (some d) (upd (del H2 a) d (.xd fs))) (fun _ _ _ => False)
/-- the call, told twice: what is wanted of its end is R -/
theorem exc_run {pins : List (Addr × Obj)} {σ : L2.St} {H1 : Hp} {s1 : Shared} {us : List Value} {vs : List V} {Q2 : VK} {R : Value → Shared → Prop} (T : Cls1 X.K C) (iC : W.findIn X.K (.ref C) "__init__" = some (some (.ref fI)))
    (tI : W.typeIn X.K (.ref fI) = some (.type "function")) (F1 : FnOk X.prog X.w X.K X.mg X.base CX k fI fd ps sp) (hr : Room (k + 1) X.A) (hb : Binds X.K fd ps []) (hx : Passes CX X (fun _ _ _ => False)) (I1 : Inv X pins σ H1 s1) (r1 : Vals vs us) (hz : vs.length ≤ 1000)
    (hq : sp (.ref (s1.heap.objs.size + 1) :: vs) (upd H1 (s1.heap.objs.size + 1) (exo (s1.heap.objs.size + 1) C none)) Q2 (fun _ _ _ => False))
    (fin : ∀ hp u s', Inv X pins σ (upd H1 (s1.heap.objs.size + 1) (exo (s1.heap.objs.size + 1) C none)) { s1 with heap := hp } → (∀ b o, s1.heap.get? b = some o → hp.get? b = some o) →
      CE X.stack X.prog X.w (upd H1 (s1.heap.objs.size + 1) (exo (s1.heap.objs.size + 1) C none)) { s1 with heap := hp } Q2 u s' → u = .none ∧ R (.ref (s1.heap.objs.size + 1)) s') :
    wpAny (model X.prog X.w) X.A (call (.ref C) us) R X.xe s1 := by
  obtain ⟨nm, qn, N, bs, bm, sn, sub, ab, col, dd, k0, k1, k2, k3, k5, B, newId, initId, t0, t, hC, FB, ⟨q1, q2, q3⟩, hbm, hl, hob, hne⟩ := T.cls
  obtain ⟨hp, g, dr, tk, os⟩ := s1
  let h2 : Heap := (hp.push (W.kdv_tup us)).push (HandSPX.excO C hp.objs.size)
  have kk : ∀ b o, hp.get? b = some o → h2.get? b = some o := fun b o z => Heap.get?_push_of_some _ (Heap.get?_push_of_some _ z)
  have hg : h2.get? (hp.objs.size + 1) = some (HandSPX.excO C hp.objs.size) := by
    show ((hp.push (W.kdv_tup us)).push (HandSPX.excO C hp.objs.size)).get? (hp.objs.size + 1) = _
    heap_get
  have I2 : Inv X pins σ (upd H1 (hp.objs.size + 1) (exo (hp.objs.size + 1) C none)) ⟨h2, g, dr, tk, os⟩ :=
    I1.laid (t' := tk) kk (Nat.le_succ _) (exo_ok hg)
  have r2 : Vals (V.ref (hp.objs.size + 1) :: vs) (Value.ref (hp.objs.size + 1) :: us) := .cons rfl r1
  have hlen : (Value.ref (hp.objs.size + 1) :: us ++ []).length = ps.length := by
    rw [List.append_nil, ← r2.length]
    exact F1.len _ _ _ _ hq
  have hus : us.length ≤ sizeLine := by
    rw [← Paired.length r1, sizeLine_eq]
    omega
  have hbt := hb ⟨h2, g, dr, tk, os⟩ (Value.ref (hp.objs.size + 1) :: us) I2.kIn hlen
  rw [List.append_nil] at hbt
  refine wpAny_call (call_run FB q1 q2 q3 (I1.kIn _ _ hC) (W.looks_findIn I1.kIn iC) (fun self => W.bind_fn I1.kIn self tI) hus ?_)
  refine codeAny_mono (F1.run _ X.stack _ _ ⟨Value.ref (hp.objs.size + 1) :: us, []⟩ _ _ _ (fun _ _ _ => False) (hr.make C us []) (I2.env0.make C us []) hbt r2 hq) fun r s' z => ?_
  cases r with
  | error er => exact hx pins σ _ _ er s' I2 z
  | ok fl =>
    cases fl with
    | ret u => exact fin h2 u s' I2 kk z
    | next => exact False.elim z
    | brk => exact False.elim z
    | cont => exact False.elim z
theorem pe_exv (T : Cls1 X.K C) (iC : W.findIn X.K (.ref C) "__init__" = some (some (.ref fI))) (tI : W.typeIn X.K (.ref fI) = some (.type "function")) (F1 : FnOk X.prog X.w X.K X.mg X.base CX k fI fd ps sp) (hr : Room (k + 1) X.A)
    (hb : Binds X.K fd ps []) (hx : Passes CX X (fun _ _ _ => False)) (hg : Gl X x) (hm : X.mg x = some (.ref C)) (ha : PA X (e :: es) ta)
    (hdb : (x == ("__debug__" : Str)) = false := by decide) (he : starEach (e :: es) X.env = (false, eval e X.env) :: starEach es X.env := by rfl) (hpl : (backTo pos (starEach es X.env)).any (·.1) = false := by rfl) :
    PE X (.Call (.Name x p) (e :: es) [] pos) (tExv C sp ta) := by
  refine ⟨fun pins s σ H Q I h => wpAny_Call_Name_kw (ld_glob I hg hm ?_ hdb)⟩
  refine W.callWith_K (h₀ := X.base) I.ok.mod.kin T.kC (thn (ha.run pos pins s σ H _ I h) ?_) he hpl
  rintro us s1 ⟨vs, H1, I1, r1, hz, q1⟩
  refine ⟨I1.kIn, exc_run T iC tI F1 hr hb hx I1 r1 hz (q1 _ (I1.hok.fresh (Nat.le_succ _))) fun hp u s' I2 kk z => ?_⟩
  obtain ⟨v, H2, I3, rv, ev, q2⟩ := I2.after z
  subst ev
  exact ⟨rv, .ref _, H2, I3, rfl, q2⟩
theorem pmk_exr (T : Cls1 X.K C) (iC : W.findIn X.K (.ref C) "__init__" = some (some (.ref fI))) (tI : W.typeIn X.K (.ref fI) = some (.type "function")) (F1 : FnOk X.prog X.w X.K X.mg X.base CX k fI fd ps sp) (hr : Room (k + 1) X.A)
    (hb : Binds X.K fd ps []) (hx : Passes CX X (fun _ _ _ => False)) (hg : Gl X x) (hm : X.mg x = some (.ref C)) (ha : PA X (e :: es) ta)
    (hdb : (x == ("__debug__" : Str)) = false := by decide) (he : starEach (e :: es) X.env = (false, eval e X.env) :: starEach es X.env := by rfl) (hpl : (backTo pos (starEach es X.env)).any (·.1) = false := by rfl) :
    PMk X (.Call (.Name x p) (e :: es) [] pos) (tExr C sp ta) := by
  intro pins s σ H Q I h
  refine wpAny_Call_Name_kw (ld_glob I hg hm ?_ hdb)
  refine W.callWith_K (h₀ := X.base) I.ok.mod.kin T.kC (thn (ha.run pos pins s σ H _ I h) ?_) he hpl
  rintro us s1 ⟨vs, H1, I1, r1, hz, q1⟩
  refine ⟨I1.kIn, exc_run T iC tI F1 hr hb hx I1 r1 hz (q1 _ (I1.hok.fresh (Nat.le_succ _))) fun hp u s' I2 kk z => ?_⟩
  obtain ⟨v, H2, os2, bare2, un2, hok2, rv, ev, d, fs, ea, ed, hd1, q2⟩ := z
  subst ev
  obtain ⟨h0, g0, d0, t0, o0⟩ := s1
  obtain ⟨h2, g2, d2, t2, o2⟩ := s'
  exact ⟨rv, mk_end (raises_own T.exC T.tyC) I1 (Nat.le_succ _) kk un2 hok2 os2 bare2 ea ed hd1 q2⟩
end

section
variable {prog : Program} {w : World} {A : Around} {E : Value → Shared → Prop} {s : Shared} {K : W.Frag} {x D : Addr} {ox : Obj} {od : Option Obj}
theorem data_found {a g : Value} {f : Str} (hc : (W.clsIn K D).isSome = true) (ha : W.findIn K (.ref D) f = some (some a)) (hg : W.specialIn K a "__get__" = some (some g)) (ht : W.takesIn K a = some true) : W.findObj K D od f = some (.bind g a) := by
  obtain ⟨c, e⟩ := Option.isSome_iff_exists.mp hc
  unfold W.findObj
  rw [e, Option.bind_some, ha, Option.bind_some]
  simp [hg, ht]
theorem cls_some (c : ExcC K D) : (W.clsIn K D).isSome = true := by
  obtain ⟨cd, h, _⟩ := W.any_some c.hd
  rw [h]
  rfl
/-- an exception's __class__ -/
theorem ask_class {Q : Option Value → Shared → Prop} (c : ExcC K D) (X : K.In s.heap) (I : W.InstAt s.heap x ox D od) (q : Q (some (.ref D)) { s with toks := s.toks + 1 }) : wpAny (model prog w) A (getAttr? (.ref x) "__class__") Q E s := by
  have hf : W.findObj K D od "__class__" = some (.bind (.builtin "getset_descriptor.__get__") (.builtin "object.__class__")) := data_found (cls_some c) c.ha c.hn c.ht
  obtain ⟨hp, ge, dr, tk, os⟩ := s
  have isB : W.Looks (model prog w) hp (isInstance (.ref x) (.type "BaseException")) true := I.type.andThen (W.looks_subIn X c.hs)
  have g1 := W.looks_findIn (M := model prog w) X c.hg
  have g2 := W.looks_findIn (M := model prog w) X c.hk
  have g3 := W.looks_find (M := model prog w) X I hf
  have n1 : (onTheHeap (Value.ref D) && Value.builtin "BaseException.__getattribute__" == Value.builtin "object.__getattribute__") = false := by
    rw [show (Value.builtin "BaseException.__getattribute__" == Value.builtin "object.__getattribute__") = false by decide +kernel]
    rfl
  unfold getAttr? getAttrBy? getAttrBy
  refine wpAny_bind (wpAny_mkText (wpAny_bind (wpAny_attempt (wpAny_holding (wpAny_bind ?_)))))
  refine I.type.at (wpAny_bind (g1.at ?_))
  show wpAny _ _ (if (onTheHeap (Value.ref D) && Value.builtin "BaseException.__getattribute__" == Value.builtin "object.__getattribute__") = true then _ else _) _ _ _
  rw [n1, if_neg Bool.false_ne_true]
  unfold getAttrByItsOwn hookBefore
  refine wpAny_bind ?_
  rw [if_pos (show onTheHeap (Value.ref D) = true from rfl)]
  refine g2.at (wpAny_bind (wpAny_attempt (wpAny_holding ?_)))
  unfold callGetattribute
  rw [show (false && onTheHeap (Value.builtin "BaseException.__getattribute__")) = false from rfl, if_neg Bool.false_ne_true]
  unfold boundAndCalled
  rw [PySem.F.excAttr_ValueError.ga.bind (.ref x)]
  refine wpAny_bind (wpAny_pure ?_)
  show wpAny _ _ (call (.builtin "BaseException.__getattribute__") [.ref x, .str "__class__" tk]) _ _ _
  refine wpAny_call (codeAny_call_builtin PySem.F.excAttr_ValueError.ga.plain PySem.F.entry_bexc_ga ?_)
  refine @W.check_slot (model prog w) _ _ ⟨hp, ge, dr, tk + 1, os⟩ "BaseException.__getattribute__" "BaseException" "__getattribute__" (.ref x) [.str "__class__" tk] [] _
    (by decide +kernel) (by decide +kernel) isB (PySem.F.args_bexc_ga (.ref x) (.str "__class__" tk)) ?_
  unfold Builtin.«object.__getattribute__»
  refine wpAny_bind (wpAny_of_eq (a := ((Value.ref x : Value), [Value.str "__class__" tk])) (by first | rfl | (simp only [slotArgs]; rfl)) ?_)
  refine wpAny_bind (wpAny_pure (wpAny_bind (I.type.at (wpAny_bind (g3.at ?_)))))
  show wpAny _ _ (holding [Value.builtin "object.__class__"] (call (.builtin "getset_descriptor.__get__") [.builtin "object.__class__", .ref x, .ref D]) >>= ret) _ _ _
  refine wpAny_bind (wpAny_holding (wpAny_call (W.class_get (s := ⟨hp, ge, dr, tk + 1, os⟩) (ox := ox) (od := od) X I c.hm ?_)))
  refine wpAny_pure ?_
  show wpAny _ _ (handedOut (.ref D)) _ _ _
  rw [W.handedOut_of (v := .ref D) rfl]
  first
    | exact wpAny_pure (wpAny_pure q)
    | exact wpAny_pure q
    | exact wpAny_pure (wpAny_bind (wpAny_pure (wpAny_pure q)))
theorem kit_exc (c : ExcC K D) : W.KitX K (.ref x) (.ref D) (fun h => ∃ ox od, W.InstAt h x ox D od) where
  ty := fun _ _ _ ⟨_, _, I⟩ => I.type
  it := fun _ _ X _ => by
    obtain ⟨cd, hcd, _⟩ := W.any_some c.hd
    unfold W.clsIn at hcd
    split at hcd
    · rename_i c' d' cd' sl' ho
      intro A' Q' E' s' k q
      unfold isType loadHead
      exact wpAny_bind (wpAny_loadPart (k _ _ (X _ _ ho)) (wpAny_pure q))
    · cases hcd
  ne := fun h tp dd its n sl X htp => by
    obtain ⟨cd, hcd, _⟩ := W.any_some c.hd
    refine Bool.eq_false_iff.mpr fun z => ?_
    have e : D = tp := Value.ref.inj (beq_iff_eq.mp z)
    unfold W.clsIn at hcd
    split at hcd
    · rename_i c' d' cd' sl' ho
      have z := X _ _ ho
      rw [e, htp] at z
      cases z
    · cases hcd
  ca := fun X ⟨_, _, I⟩ k => ask_class c X I k
end
section
variable {X : Cx} {pins : List (Addr × Obj)} {σ : L2.St} {H : Hp} {s : Shared} {a C d : Addr} {dx : Option Addr}
/-- an exception that stands, with its dict where it has one -/
def ExAt (H : Hp) (a C : Addr) : Option Addr → Prop
  | none => H a = some (exo a C none)
  | some d => H a = some (exo a C (some d)) ∧ ∃ fs, H d = some (exd d fs)
theorem ExAt.inst (I : Inv X pins σ H s) (h : ExAt H a C dx) : ∃ ox od, W.InstAt s.heap a ox C od := by
  cases dx with
  | none =>
    obtain ⟨t, e⟩ := exo_at I.hok h
    exact ⟨_, none, e, rfl, rfl, trivial⟩
  | some d =>
    obtain ⟨h1, fs, h2⟩ := h
    obtain ⟨t, e⟩ := exo_at I.hok h1
    obtain ⟨m, hn, _⟩ := exd_at I.hok h2
    obtain ⟨o, es, ep, ho, _⟩ := hn
    exact ⟨_, some o, e, rfl, rfl, ho⟩
theorem ExAt.same {H1 : Hp} (S : Same H H1) (h : ExAt H a C dx) : ExAt H1 a C dx := by
  cases dx with
  | none => exact S _ _ h
  | some d =>
    obtain ⟨h1, fs, h2⟩ := h
    exact ⟨S _ _ h1, fs, S _ _ h2⟩
/-- isinstance(e, c), e an exception that stands -/
def rIsX (K : W.Frag) : List V → Hp → VK → Prop := fun xs H Q => ∃ (a D : Addr) (dx : Option Addr) (c : V) (cv : Value) (b : Bool), xs = [.ref a, c] ∧ ExAt H a D dx ∧ ExcC K D ∧ ClsV c cv ∧ W.kitOne K (.ref D) cv = some b ∧ Q (.bl b) H
theorem call_isX : CallR X (.builtin "isinstance") (rIsX X.K) := by
  intro pins s σ H xs us Q I r h
  obtain ⟨a, D, dx, c, cv, b, rfl, hE, hC, hv, e, q⟩ := h
  obtain ⟨u1, u2, rfl, r1, r2⟩ := vals2 r
  cases r1
  have ec := hv.eq r2
  subst ec
  exact W.kia_one (kit_exc hC) I.kIn (hE.inst I) e (fun z => nomatch z) fun tk => ⟨.bl b, H, I.kept (t' := tk) fun _ _ z => z, rfl, q⟩
/-- e.f, e an exception that stands with its dict -/
def tGetX (K : W.Frag) (f : Str) (te : TE) : TE := fun σ H Q => te σ H fun x H1 => ∃ (a C d : Addr) (fs : List (Str × V)) (v : V), x = .ref a ∧ H1 a = some (exo a C (some d)) ∧ H1 d = some (exd d fs) ∧ ExcC K C ∧ W.findIn K (.ref C) f = some none ∧ fs.lookup f = some v ∧ Q v H1
theorem pe_getX {e : Expr} {te : TE} {f : Str} {pos : Pos} (he : PE X e te) (hb : attributeBase e f X.env (eval e X.env) = eval e X.env := by rfl) : PE X (.Attribute e f pos) (tGetX X.K f te) := by
  refine ⟨fun pins s σ H Q I h => attr_of hb (thn (he.run pins s σ H _ I h) ?_)⟩
  rintro u s1 ⟨x, H1, I1, rx, a, C, d, fs, v, rfl, ea, ed, hC, hn, hl, q⟩
  cases rx
  obtain ⟨t, ho⟩ := exo_at I1.hok ea
  obtain ⟨mA, hns, hr⟩ := exd_at I1.hok ed
  obtain ⟨od, hod, hlk⟩ := lookIn_ns hns
  obtain ⟨u, hu, ru⟩ := RelO.some_of (v := v) (o := mA f) (by rw [← hl]; exact hr f)
  have J : W.InstAt s1.heap a { cls := .ref C, dict := some d, data := .fields #[.ref t, .none, .none, .none, .bool false, .none] } C (some od) := ⟨ho, rfl, rfl, hod⟩
  exact HandSPX.exc_get I1.kIn J hC.hg hC.hk hC.hs (W.findObj_own hC.hd hn rfl (by rw [hlk, hu])) (handed_of ru) ⟨v, H1, I1.tok _, ru, q⟩
/-- X(e), X without an __init__ of its own, kept as a value -/
theorem pe_exn {bmB : List Value} {B newId initId : String} {x : Str} {e : Expr} {te : TE} {p pos : Pos} (F : ExcBaseFacts B newId initId bmB) (q : W.excIn X.K C bmB newId = true) (gC : X.mg x = some (.ref C)) (kC : W.keepIn X.K (.ref C) = true) (hg : Gl X x)
    (he : PE X e te) (hs : starEach [e] X.env = (false, eval e X.env) :: starEach [] X.env := by rfl) (hdb : (x == ("__debug__" : Str)) = false := by decide) :
    PE X (.Call (.Name x p) [e] [] pos) (fun σ H Q => te σ H fun _ H1 => ∀ a, H1 a = none → Q (.ref a) (upd H1 a (exo a C none))) := by
  refine ⟨fun pins s σ H Q I h => wpAny_Call_Name_kw (ld_glob I hg gC ?_ hdb)⟩
  refine W.callWith_K (h₀ := X.base) I.ok.mod.kin kC ?_ hs (by rfl)
  rw [hs]
  show wpAny _ _ (spliced ((false, eval e X.env) :: backTo pos (starEach [] X.env))) _ _ s
  refine Calls.spliced_cons (thn (he.run pins s σ H _ I h) ?_)
  rintro u s1 ⟨v, H1, I1, r1, q1⟩
  refine Calls.spliced_nil ⟨I1.kIn, ?_⟩
  show wpAny _ _ (call (.ref C) [u]) _ _ _
  obtain ⟨bm, N, nm, qn, bs, hdct, sn, sub, ab, col, dd, k0, k1, k2, k3, k5, mN, hC, hN, hni, T⟩ := exc_obj I1.kIn q
  refine wpAny_call_exc_subT F T hC hN hni (fun h' a hm => ?_) (by show 1 ≤ sizeLine; rw [sizeLine_eq]; omega)
  have hn : H1 a = none := I1.hok.gone hm.new
  obtain ⟨t, ht, _, _⟩ := hm.there
  exact ⟨.ref a, _, I1.laidN hm.keeps hm.new hn (exo_ok ht), rfl, q1 a hn⟩
end

/-! ### try .. except with several clauses, each with one class or with three -/
theorem flying_kept {B : Heap} {l : List Env} {e : Addr} {Z : Obj → Prop} {h h' : Heap} (F : HandSPX.FlyingZ B l e Z h) (k : ∀ b o, h.get? b = some o → h'.get? b = some o) : HandSPX.FlyingZ B l e Z h' := by
  obtain ⟨f1, f2, f3, oe, vs, T, oT, ts, he, hz, hd, h1, hn, hT, hg, hdT, h3⟩ := F
  exact ⟨fun b o q => k b o (f1 b o q), f2, f3.of_keeps fun b o q _ => ⟨o, k b o q, rfl⟩, oe, vs, T, oT, ts, k _ _ he, hz, hd, h1, hn, hT, k _ _ hg, hdT, h3⟩
/-- a clause's test: what is asked of the exception's class -/
def Asks (X : Cx) (e : Expr) (g : Value → Option Bool) : Prop :=
  ∀ (a : Addr) (oe : Obj) (pn : List (Addr × Obj)) (σ : L2.St) (H : Hp) (s : Shared) (b : Bool), Inv (X.suite a ((a, oe) :: pn)) [] σ H s → s.heap.get? a = some oe → g oe.cls = some b →
    ∀ (Q : Bool → Shared → Prop) (E : Value → Shared → Prop), (∀ h' t', (∀ c u, s.heap.get? c = some u → h'.get? c = some u) → Q b { s with heap := h', toks := t' }) →
      wpAny (model X.prog X.w) (X.A.mark (some (.ref a))) (eval e X.env) (fun c s1 => wpAny (model X.prog X.w) (X.A.mark (some (.ref a))) (excMatches (.ref a) c) Q E s1) E s
section
variable {X : Cx}
theorem looks_cls {M : Model} {h : Heap} {a : Addr} {oe : Obj} (e : h.get? a = some oe) : W.Looks M h (typeOf (.ref a)) oe.cls := fun A Q E s k q => wpAny_typeOf_ref (k _ _ e) q
theorem ld_named {a : Addr} {oe : Obj} {pn : List (Addr × Obj)} {σ : L2.St} {H : Hp} {s : Shared} {x : Str} {c : Value} {np : Pos} {Q : Value → Shared → Prop} {E : Value → Shared → Prop} (hc : Names X x c) (I : Inv (X.suite a ((a, oe) :: pn)) [] σ H s) (q : Q c s) :
    wpAny (model X.prog X.w) (X.A.mark (some (.ref a))) (eval (.Name x np) X.env) Q E s := by
  obtain ⟨hg, hdb, hm | ⟨hm, hv, hnn⟩⟩ := hc
  · exact ld_glob (X := X.suite a ((a, oe) :: pn)) I hg hm q hdb
  · exact ld_blt (X := X.suite a ((a, oe) :: pn)) I hg hm hv q hnn hdb
theorem asks_one {x : Str} {c : Value} {np : Pos} (hc : Names X x c) : Asks X (.Name x np) (fun cls => W.exmOne X.K cls c) := by
  intro a oe pn σ H s b I ha hb Q E q
  refine ld_named hc I ?_
  exact (W.exm_one (M := model X.prog X.w) I.kIn (looks_cls ha) hb).here (q s.heap s.toks fun _ _ z => z)
theorem asks_three {x1 x2 x3 : Str} {c1 c2 c3 : Value} {n1 n2 n3 tpos : Pos} {kt : Nat} (h1 : Names X x1 c1) (h2 : Names X x2 c2) (h3 : Names X x3 c3) :
    Asks X (.Tuple [.Name x1 n1, .Name x2 n2, .Name x3 n3] kt tpos) (fun cls => W.exmAny X.K cls [c1, c2, c3]) := by
  intro a oe pn σ H s b I ha hb Q E q
  refine Tuple_ ?_
  show wpAny _ _ (spliced ((false, eval (.Name x1 n1) X.env) :: (false, eval (.Name x2 n2) X.env) :: (false, eval (.Name x3 n3) X.env) :: [])) _ _ s
  refine Calls.spliced_cons (ld_named h1 I (Calls.spliced_cons (ld_named h2 I (Calls.spliced_cons (ld_named h3 I (Calls.spliced_nil ?_))))))
  refine wpAny_newObj_type ?_ (by show 3 ≤ sizeLine; decide)
  have hp := Heap.get?_push_size s.heap (o := { cls := .type "tuple", data := .seq [c1, c2, c3].toArray }) rfl
  have kp : ∀ c u, s.heap.get? c = some u → (s.heap.push { cls := .type "tuple", data := .seq [c1, c2, c3].toArray }).get? c = some u := fun c u z => Heap.get?_push_of_some _ z
  exact (W.exm_tup3 (M := model X.prog X.w) (h := s.heap.push { cls := .type "tuple", data := .seq [c1, c2, c3].toArray }) (I.kIn.keeps kp) (looks_cls (kp _ _ ha)) hp hb).here (q _ s.toks kp)
/-- what the clauses wish of an exception of the body -/
def wCl (Wout : WX) (D : Ends) : List ((Value → Option Bool) × (Addr → Value → Option Addr → TS)) → WX
  | [] => Wout
  | (g, ts) :: r => fun cls d σ H => ∃ b, g cls = some b ∧ (b = true → ∀ a, H a = none → ts a cls d D σ H) ∧ (b = false → wCl Wout D r cls d σ H)
inductive Clauses (X : Cx) : List ExceptHandler → List ((Value → Option Bool) × (Addr → Value → Option Addr → TS)) → Prop
  | nil : Clauses X [] []
  | cons {e : Expr} {g : Value → Option Bool} {ts : Addr → Value → Option Addr → TS} {b₀ : Stmt} {suite : List Stmt} {p : Pos} {hds : List ExceptHandler} {l : List ((Value → Option Bool) × (Addr → Value → Option Addr → TS))} (hc : Asks X e g)
      (hs : ∀ (a : Addr) (oe : Obj) (cls : Value) (d : Option Addr) (pn : List (Addr × Obj)), Zc cls d oe → (∃ vs, oe.data = .fields vs) → PSs (X.suite a ((a, oe) :: pn)) (b₀ :: suite) (ts a cls d)) (r : Clauses X hds l) :
      Clauses X (.ExceptHandler (some e) none (b₀ :: suite) p :: hds) ((g, ts) :: l)
theorem ps_try_cl {body : List Stmt} {h₀ : ExceptHandler} {hds : List ExceptHandler} {l : List ((Value → Option Bool) × (Addr → Value → Option Addr → TS))} {pos : Pos} {tb : WX → TS} {Wout : WX} (hs : X.stack = X.env :: X.outer) (hf : X.env.frame = some X.env.locals) (tk : Takes X Wout)
    (hb : ∀ (W : WX) (pn : List (Addr × Obj)) (xe : Value → Shared → Prop), Takes (X.tr pn xe) W → PassesOwn (model X.prog X.w) X.A X.env xe → PSs (X.tr pn xe) body (tb W))
    (hh : Clauses X (h₀ :: hds) l) : PS X (.Try body (h₀ :: hds) [] [] pos) (fun D σ H => tb (wCl Wout D l) D σ H) := by
  refine ⟨fun pins s σ H D I h => ?_⟩
  have ok := I.ok
  have hfr : X.A.frames = some (X.env :: X.outer) := by rw [ok.frames, hs]
  refine wpAny_Try_except (wpAny_mono ((hb (wCl Wout D l) (X.pn ++ pins) (fun e s1 => wpAny (model X.prog X.w) X.A (noteFrame e X.env) (fun _ s2 => wpAny (model X.prog X.w) X.A (setFlight e none) (fun _ s3 =>
    wpAny (model X.prog X.w) X.A (handleBy e X.env (h₀ :: hds)) (SP X pins D) X.xe s3) X.xe s2) X.xe s1) (fun u s' xx => ?_) PassesOwn.looking).run [] s σ H D (I.toTry _) h) (fun f s1 hsp => ?_) (fun e s1 he => he))
  · obtain ⟨a, B, sI, pins', σ', H', cls, d, rfl, J', nb, up, sky, na, os, ag, w0⟩ := xx
    have J : Inv X pins σ' H' sI := J'.ofTry ok
    have sky' : Sky B (X.env :: X.outer) a (Zc cls d) X.env.locals s'.heap := by rw [← hs]; exact sky
    show wpAny (model X.prog X.w) X.A (noteFrame (.ref a) X.env) _ _ _
    refine Sky.land Zc.steady hfr hf sky' fun h3 fl3 up3 => ?_
    -- where the flight stands at a heap h4: the suite's invariant there
    have at4 : ∀ {h4 : Heap} {t4 : Nat}, HandSPX.FlyingZ B (X.env :: X.outer) a (Zc cls d) h4 → s'.heap.UpToSlots h4 →
        Inv X pins σ' H' { s' with heap := h4, toks := t4 } ∧ ∃ oe, h4.get? a = some oe ∧ Zc cls d oe ∧ (∃ vs, oe.data = .fields vs) ∧ Inv (X.suite a ((a, oe) :: (X.pn ++ pins))) [] σ' H' { s' with heap := h4, toks := t4 } := by
      intro h4 t4 fl u4
      have J4 : Inv X pins σ' H' { s' with heap := h4 } := J.landed nb fl.1 (up.trans u4) os ag
      have J5 := J4.tok t4
      obtain ⟨oe, vs, he, hz, hd⟩ := fl.there
      have nfr : a ∉ frs (X.env :: X.outer) := fun hm => by
        obtain ⟨_, o', e', hnf⟩ := fl.2.2.1.mem hm
        rw [he] at e'
        cases e'
        exact hnf _ hd
      have nL : a ≠ X.env.locals := fun z => nfr (List.mem_filterMap.mpr ⟨X.env, List.mem_cons_self, by rw [hf, z]⟩)
      have nF : a ∉ X.fs := fun hm => by
        obtain ⟨e, he, q⟩ := List.mem_filterMap.mp hm
        exact nfr (List.mem_filterMap.mpr ⟨e, List.mem_cons_of_mem _ he, q⟩)
      exact ⟨J5, oe, he, hz, ⟨vs, hd⟩, J5.suite he hd na nL nF⟩
    have go : ∀ {hs' : List ExceptHandler} {l' : List ((Value → Option Bool) × (Addr → Value → Option Addr → TS))}, Clauses X hs' l' → wCl Wout D l' cls d σ' H' → ∀ (h4 : Heap) (t4 : Nat), HandSPX.FlyingZ B (X.env :: X.outer) a (Zc cls d) h4 → s'.heap.UpToSlots h4 →
        wpAny (model X.prog X.w) X.A (handleBy (.ref a) X.env hs') (SP X pins D) X.xe { s' with heap := h4, toks := t4 } := by
      intro hs' l' hk
      induction hk with
      | nil =>
        intro w1 h4 t4 fl u4
        refine wpAny_handleBy_nil ?_
        obtain ⟨k1, k2, k3, oe, vs, T, oT, ts', he, hz, hd, h1, hr⟩ := id fl
        unfold PySem.passOn
        refine wpAny_bind (wpAny_field he hd h1 ?_)
        rw [if_neg (show ¬ ((Value.ref T == Value.none) = true) from by simp)]
        have fin : wpAny (model X.prog X.w) X.A (setFlight (.ref a) X.env.frame) (fun _ s4 => wpAny (model X.prog X.w) X.A (throw (.ref a) : Sem Flow) (SP X pins D) X.xe s4) X.xe { s' with heap := h4, toks := t4 } := by
          rw [hf]
          refine HandSPX.setFlight_upZ fl fun h5 hh5 up5 => wpAny_throw (tk _ _ ?_)
          exact ⟨a, B, sI, pins, σ', H', cls, d, rfl, J, nb, (up.trans u4).trans up5, .inr (.inr (by rw [hs]; exact hh5)), na, os, ag, w1⟩
        first
          | exact wpAny_bind (wpAny_pure (wpAny_bind fin))
          | exact wpAny_bind fin
      | @cons e g ts b₀ suite p hds2 l2 hc hsu r ih =>
        intro w1 h4 t4 fl u4
        obtain ⟨b, hb1, hyes, hno⟩ := w1
        obtain ⟨J4, oe, he, hz, hd, S4⟩ := at4 (t4 := t4) fl u4
        refine wpAny_handleBy_cons (codeAny_handlers_test ?_) (by intro q; cases q)
        refine hc a oe (X.pn ++ pins) σ' H' _ b S4 he (by rw [hz.1]; exact hb1) _ _ fun h5 t5 k5 => ?_
        have fl5 := flying_kept fl k5
        have u5 : s'.heap.UpToSlots h5 := u4.trans (.of_keeps k5)
        cases b with
        | true =>
          refine codeAny_handlers_suite ?_
          refine HandSPX.lands_againZ fl5 fun h6 fl6 up6 => ?_
          obtain ⟨J6, oe6, he6, hz6, hd6, S6⟩ := at4 (t4 := t5) fl6 (u5.trans up6)
          refine wpAny_mono ((hsu a oe6 cls d (X.pn ++ pins) hz6 hd6).run [] _ _ H' _ S6 (hyes rfl a na)) (fun f s7 hsp => ?_) (fun _ _ z => False.elim z)
          cases f with
          | ret u =>
            obtain ⟨v7, σ7, H7, S7, r7, q7⟩ := hsp
            exact ⟨_, _, _, S7.unsuite ok, r7, q7⟩
          | next =>
            obtain ⟨σ7, H7, S7, q7⟩ := hsp
            exact ⟨_, _, S7.unsuite ok, q7⟩
          | brk =>
            obtain ⟨σ7, H7, S7, q7⟩ := hsp
            exact ⟨_, _, S7.unsuite ok, q7⟩
          | cont =>
            obtain ⟨σ7, H7, S7, q7⟩ := hsp
            exact ⟨_, _, S7.unsuite ok, q7⟩
        | false =>
          show wpAny _ X.A (handleBy (.ref a) X.env hds2) _ _ _
          exact ih (hno rfl) h5 t5 fl5 u5
    exact go hh w0 h3 s'.toks fl3 up3
  · cases f with
    | ret u =>
      obtain ⟨v, σ', H', J', r, q⟩ := hsp
      exact ⟨v, σ', H', J'.ofTry ok, r, q⟩
    | next =>
      obtain ⟨σ', H', J', q⟩ := hsp
      exact wpAny_execs_nil ⟨σ', H', J'.ofTry ok, q⟩
    | brk =>
      obtain ⟨σ', H', J', q⟩ := hsp
      exact ⟨σ', H', J'.ofTry ok, q⟩
    | cont =>
      obtain ⟨σ', H', J', q⟩ := hsp
      exact ⟨σ', H', J'.ofTry ok, q⟩
end

/-! ### facts of a class from its object -/
section
variable {K : W.Frag} {C D : Addr} {nm q : Str} {N : Addr} {bs bm : List Value} {sn : List Str} {sub : List Value} {ab : Bool} {col : Option Bool} {dd : Option Addr} {k0 k1 k2 k3 k5 : Option Value} {newId B initId : String} {t : List Value}
/-- the class object of an exception class: its chain and its maker -/
def XObj (K : W.Frag) (C : Addr) (bm : List Value) (newId : String) : Prop := ∃ nm q N bs sn sub ab col dd k0 k1 k2 k3 k5, K.lookup C = some (excClassObj nm q C N bs bm true sn sub ab col dd k0 k1 k2 k3 k5 newId)
theorem XObj.mk (x : K.lookup C = some (excClassObj nm q C N bs bm true sn sub ab col dd k0 k1 k2 k3 k5 newId)) : XObj K C bm newId := ⟨_, _, _, _, _, _, _, _, _, _, _, _, _, _, x⟩
theorem XObj.cls (x : XObj K C bm newId) : ∃ cd, W.clsIn K C = some cd ∧ cd.mro = .ref C :: bm ∧ cd.hasDict = true := by
  obtain ⟨_, _, _, _, _, _, _, _, _, _, _, _, _, _, e⟩ := x
  unfold W.clsIn
  rw [e]
  exact ⟨_, rfl, rfl, rfl⟩
theorem XObj.ty (x : XObj K C bm newId) : W.typeIn K (.ref C) = some (.type "type") := by
  obtain ⟨_, _, _, _, _, _, _, _, _, _, _, _, _, _, e⟩ := x
  show (K.lookup C).map (·.cls) = _
  rw [e]
  rfl
theorem XObj.mroIn (x : XObj K C bm newId) (b : Value) : W.mroIn K C b = some ((Value.ref C :: bm).contains b) := by
  obtain ⟨cd, e, m, _⟩ := x.cls
  unfold W.mroIn
  rw [e, Option.bind_some, m]
  rfl
theorem XObj.dict (x : XObj K C bm newId) : W.hasDictIn K C = true := by
  obtain ⟨cd, e, _, d⟩ := x.cls
  unfold W.hasDictIn
  rw [e]
  exact d
theorem has_cons {b : String} (h : bm.contains (.type b) = true) : (Value.ref C :: bm).contains (.type b) = true := by
  rw [List.contains_cons, h, Bool.or_true]
theorem XObj.excC (x : XObj K C bm newId) (hb : bm.contains (.type "BaseException") = true) (ho : bm.contains (.type "object") = true)
    (hg : W.findIn K (.ref C) "__getattribute__" = some (some (.builtin "BaseException.__getattribute__"))) (hk : W.findIn K (.ref C) "__getattr__" = some none) (ha : W.findIn K (.ref C) "__class__" = some (some (.builtin "object.__class__")))
    (hn : W.specialIn K (.builtin "object.__class__") "__get__" = some (some (.builtin "getset_descriptor.__get__"))) (ht : W.takesIn K (.builtin "object.__class__") = some true) : ExcC K C :=
  ⟨hg, hk, (x.mroIn _).trans (congrArg some (has_cons hb)), x.dict, ha, hn, ht, (x.mroIn _).trans (congrArg some (has_cons ho))⟩
theorem XObj.cls1 {t0 : List Value} (x : XObj K C bm newId) (F : ExcBaseFacts B newId initId t0) (h3 : bm.contains (.type B) = true ∧ bm.contains (.type "AttributeError") = false ∧ bm.contains (.type "NameError") = false) (hm : endsIn t bm = true) (hl : Lets t) (ho : t.contains (.type "object") = true) (hne : t ≠ []) (hb : bm.contains (.type "BaseException") = true)
    (sa : W.findIn K (.ref C) "__setattr__" = some (some (.builtin "object.__setattr__"))) (kC : W.keepIn K (.ref C) = true) : Cls1 K C := by
  have ty := x.ty
  have ex : W.subIn K (.ref C) (.type "BaseException") = some true := (x.mroIn _).trans (congrArg some (has_cons hb))
  obtain ⟨a1, a2, a3, a4, a5, a6, a7, a8, a9, b0, b1, b2, b3, b5, e⟩ := x
  exact ⟨⟨_, _, _, _, _, _, _, _, _, _, _, _, _, _, _, B, newId, initId, t0, t, e, F, h3, hm, hl, ho, hne⟩, sa, ex, ty, kC⟩
theorem XObj.kit {bm' : List Value} {n' : String} (x : XObj K D bm newId) (y : XObj K C bm' n') : W.kitOne K (.ref D) (.ref C) = some ((Value.ref D :: bm).contains (.ref C)) := by
  obtain ⟨cd, e, _⟩ := y.cls
  unfold W.kitOne W.kitCls
  by_cases h : D = C
  · subst h
    simp
  · have h1 : (Value.ref D == Value.ref C) = false := by simpa using h
    have h2 : ((W.clsIn K C).isSome && W.typeIn K (.ref C) == some (.type "type")) = true := by
      rw [e, y.ty]
      rfl
    rw [if_neg (by rw [h1]; decide)]
    dsimp only
    rw [if_pos h2]
    exact x.mroIn _
theorem XObj.kitT {T : String} (x : XObj K D bm newId) (h : W.kitMeta T = true) : W.kitOne K (.ref D) (.type T) = some (bm.contains (.type T)) := by
  unfold W.kitOne W.kitCls
  rw [if_neg (by simp)]
  dsimp only
  rw [if_pos h]
  refine (x.mroIn _).trans (congrArg some ?_)
  rw [List.contains_cons]
  rfl
theorem XObj.exm {bm' : List Value} {n' : String} (x : XObj K D bm newId) (y : XObj K C bm' n') (hb : bm'.contains (.type "BaseException") = true) : W.exmOne K (.ref D) (.ref C) = some ((Value.ref D :: bm).contains (.ref C)) := by
  have h1 : (W.subIn K (.ref C) (.type "BaseException") == some true) = true := by
    rw [show W.subIn K (.ref C) (.type "BaseException") = some true from (y.mroIn _).trans (congrArg some (has_cons hb))]
    rfl
  obtain ⟨cd, e, _⟩ := y.cls
  have h2 : ((W.clsIn K C).isSome && W.typeIn K (.ref C) == some (.type "type")) = true := by
    rw [e, y.ty]
    rfl
  unfold W.exmOne W.kitCls
  rw [if_pos h1]
  dsimp only
  rw [if_pos h2]
  exact x.mroIn _
theorem XObj.exmT {T : String} (x : XObj K D bm newId) (h : W.kitMeta T = true) (hb : (fastBuiltinMro T).map (·.contains (.type "BaseException")) = some true) : W.exmOne K (.ref D) (.type T) = some (bm.contains (.type T)) := by
  unfold W.exmOne W.kitCls
  rw [if_pos (by show ((fastBuiltinMro T).map (·.contains (.type "BaseException")) == some true) = true; rw [hb]; rfl)]
  dsimp only
  rw [if_pos h]
  refine (x.mroIn _).trans (congrArg some ?_)
  rw [List.contains_cons]
  rfl
end
end Exs

set_option Elab.async false
set_option linter.all false
set_option maxRecDepth 100000
set_option maxHeartbeats 4000000
/-! repr of data; calls where it is known that no repr is under way. -/
namespace Rp
open PySem PySem.Spec PyProof.Rows L2
/-- a key of a dict as data -/
def kD : Key → PyData
  | .inl i => .int i
  | .inr x => .str x
mutual
/-- no list, no dict -/
def flatT : PyData → Bool
  | .none | .bool _ | .int _ | .str _ => true
  | .tuple xs => flatsT xs
  | .list _ | .dict _ => false
def flatsT : List PyData → Bool
  | [] => true
  | x :: xs => flatT x && flatsT xs
end
mutual
/-- what is read as data; a dict stands alone, its values flat or tuples -/
inductive Dat (K : W.Frag) (H : Hp) : V → PyData → Prop
  | non : Dat K H .non .none
  | bl (b : Bool) : Dat K H (.bl b) (.bool b)
  | int (i : Int) : Dat K H (.int i) (.int i)
  | str (x : Str) : Dat K H (.str x) (.str x)
  | lst {a : Addr} {xs : List V} {ds : List PyData} : SqL K H a xs → DatAll K H xs ds → PyData.hasDictAll ds = false → Dat K H (.ref a) (.list ds)
  | tup {a : Addr} {xs : List V} {ds : List PyData} : SqT K H a xs → DatAll K H xs ds → PyData.hasDictAll ds = false → Dat K H (.ref a) (.tuple ds)
  | dic {a : Addr} {ks : List (Key × V)} {ds : List PyData} : Rd H a (.dK ks) → DatAll K H (ks.map (·.2)) ds → flatsT ds = true → Dat K H (.ref a) (.dict ((ks.map fun p => kD p.1).zip ds))
inductive DatAll (K : W.Frag) (H : Hp) : List V → List PyData → Prop
  | nil : DatAll K H [] []
  | cons {v : V} {vs : List V} {d : PyData} {ds : List PyData} : Dat K H v d → DatAll K H vs ds → DatAll K H (v :: vs) (d :: ds)
end
theorem DatAll.len {K : W.Frag} {H : Hp} : ∀ {vs : List V} {ds : List PyData}, DatAll K H vs ds → vs.length = ds.length
  | _, _, .nil => rfl
  | _, _, .cons _ t => congrArg (· + 1) (DatAll.len t)
theorem pairs_vals {P : Program} {w : World} : ∀ {es : List DictEntry} {kvs : List (Key × Value)}, Pairs (mixKind P w) es kvs → es.map (·.val) = kvs.map (·.2)
  | _, _, .nil => rfl
  | _, _, .cons _ h t => by rw [List.map_cons, List.map_cons, pairs_vals t, h]
theorem kvs_vals : ∀ {ks : List (Key × V)} {vs : List (Key × Value)}, KV ks vs → Vals (ks.map (·.2)) (vs.map (·.2))
  | _, _, .nil => .nil
  | _, _, .cons r t => .cons r.2 (kvs_vals t)
theorem key_reads {h : Heap} {k : Key} {v : Value} (e : keyIs k v = true) : Reads h v (kD k) [] := by
  rcases keyIs_shape e with ⟨i, t, rfl, rfl⟩ | ⟨x, t, rfl, rfl⟩
  · exact .int i t
  · exact .str x t
theorem keys_reads {P : Program} {w : World} {h : Heap} : ∀ {es : List DictEntry} {vs : List (Key × Value)} {ks : List (Key × V)}, Pairs (mixKind P w) es vs → KV ks vs → ReadsAll h (es.map (·.key)) (ks.map fun p => kD p.1) []
  | _, _, _, .nil, .nil => .nil
  | _, _, _, .cons hk _ t, .cons r t' => by
    have e := r.1
    have q := keys_reads (h := h) t t'
    exact ReadsAll.cons (as := []) (bs := []) (key_reads (by rw [e]; exact hk)) q
theorem zip_fst {α β : Type} : ∀ {l : List α} {m : List β}, l.length = m.length → (l.zip m).map (·.1) = l
  | [], [], _ => rfl
  | a :: l, b :: m, h => by rw [List.zip_cons_cons, List.map_cons, zip_fst (Nat.succ.inj h)]
theorem zip_snd {α β : Type} : ∀ {l : List α} {m : List β}, l.length = m.length → (l.zip m).map (·.2) = m
  | [], [], _ => rfl
  | a :: l, b :: m, h => by rw [List.zip_cons_cons, List.map_cons, zip_snd (Nat.succ.inj h)]
mutual
theorem flat_none {h : Heap} : ∀ {d : PyData} {u : Value} {as : List Addr}, Reads h u d as → flatT d = true → as = []
  | _, _, _, .none, _ => rfl
  | _, _, _, .bool _, _ => rfl
  | _, _, _, .int _ _, _ => rfl
  | _, _, _, .str _ _, _ => rfl
  | _, _, _, .tuple _ _ _ t, f => flats_none t (by rw [flatT] at f; exact f)
  | _, _, _, .list _ _ _ _, f => by rw [flatT] at f; cases f
  | _, _, _, .dict _ _ _ _ _, f => by rw [flatT] at f; cases f
theorem flats_none {h : Heap} : ∀ {ds : List PyData} {us : List Value} {as : List Addr}, ReadsAll h us ds as → flatsT ds = true → as = []
  | _, _, _, .nil, _ => rfl
  | _, _, _, .cons r t, f => by
    rw [flatsT, Bool.and_eq_true] at f
    rw [flat_none r f.1, flats_none t f.2]
    rfl
end
section
variable {X : Cx} {pins : List (Addr × Obj)} {σ : L2.St} {H : Hp} {s : Shared}
mutual
theorem Dat.reads (I : Inv X pins σ H s) : ∀ (d : PyData) (v : V) (u : Value), Dat X.K H v d → RelV v u → ∃ as, Reads s.heap u d as ∧ (d.hasDict = true → sysModules ∉ as)
  | _, _, _, .non, r => by cases r; exact ⟨_, .none, fun z => by cases z⟩
  | _, _, _, .bl b, r => by cases r; exact ⟨_, .bool b, fun z => by cases z⟩
  | _, _, _, .int i, r => by obtain ⟨t, rfl⟩ := r; exact ⟨_, .int i t, fun z => by cases z⟩
  | _, _, _, .str x, r => by obtain ⟨t, rfl⟩ := r; exact ⟨_, .str x t, fun z => by cases z⟩
  | _, _, _, .lst (ds := ds) hs ha hn, r => by
    cases r
    obtain ⟨its, rv, ⟨o, n, ho, hc, _, hd⟩, _⟩ := I.list hs
    obtain ⟨as, hr⟩ := DatAll.reads I ds _ its ha rv
    exact ⟨_, .list ho hc hd hr, fun z => by rw [PyData.hasDict, hn] at z; cases z⟩
  | _, _, _, .tup (ds := ds) hs ha hn, r => by
    cases r
    obtain ⟨its, rv, ⟨o, ho, hc, n, hd⟩, _⟩ := I.tuple hs
    obtain ⟨as, hr⟩ := DatAll.reads I ds _ its ha rv
    exact ⟨_, .tuple ho hc hd hr, fun z => by rw [PyData.hasDict, hn] at z; cases z⟩
  | _, _, _, .dic (ks := ks) (ds := ds) hs ha hn, r => by
    cases r
    obtain ⟨_, hm, vs, rv, o, es, ep, ho, hx, hd, _, hp, _⟩ := hs.ok I.hok
    have hl : (ks.map fun p => kD p.1).length = ds.length := by
      rw [List.length_map, ← ha.len, List.length_map]
    obtain ⟨bs, hr⟩ := DatAll.reads I ds _ _ ha (kvs_vals rv)
    have h1 : ReadsAll s.heap (es.toList.map (·.key)) (((ks.map fun p => kD p.1).zip ds).map (·.1)) [] := by
      rw [zip_fst hl]
      exact keys_reads hp rv
    have h2 : ReadsAll s.heap (es.toList.map (·.val)) (((ks.map fun p => kD p.1).zip ds).map (·.2)) bs := by
      rw [zip_snd hl, pairs_vals hp]
      exact hr
    have hb : bs = [] := flats_none hr hn
    subst hb
    refine ⟨_, .dict ho hx.1 hd h1 h2, fun _ z => ?_⟩
    rcases List.mem_append.mp z with z | z
    · rw [← List.mem_singleton.mp z] at hm
      exact absurd hm (by decide)
    · cases z
theorem DatAll.reads (I : Inv X pins σ H s) : ∀ (ds : List PyData) (vs : List V) (us : List Value), DatAll X.K H vs ds → Vals vs us → ∃ as, ReadsAll s.heap us ds as
  | _, _, _, .nil, r => by cases r; exact ⟨_, .nil⟩
  | _, _, _, .cons h t, r => by
    cases r with
    | cons r1 r2 =>
      obtain ⟨as, q1, _⟩ := Dat.reads I _ _ _ h r1
      obtain ⟨bs, q2⟩ := DatAll.reads I _ _ _ t r2
      exact ⟨_, .cons q1 q2⟩
end
end
/-- what can be shown, and is not too long -/
def Fits (d : PyData) : Prop := d.showable = true ∧ d.depth ≤ 60 ∧ ∃ B, 8 ≤ B ∧ d.leavesShort B = true ∧ (B + 2) * d.weight + B ≤ sizeLine
theorem Fits.len {d : PyData} (h : Fits d) : d.shown.length ≤ sizeLine := by
  obtain ⟨_, _, B, hB, hl, hw⟩ := h
  exact Nat.le_trans (PyData.shown_le B hB d hl) hw
/-- repr(x) -/
def rRepr (K : W.Frag) : List V → Hp → VK → Prop := fun xs H Q => ∃ x d, xs = [x] ∧ Dat K H x d ∧ Fits d ∧ Q (.str d.shown) H
theorem call_repr {X : Cx} (hg : X.A.guards = some []) (hu : X.A.units + 64 < cLine) : CallR X (.builtin "repr") (rRepr X.K) := by
  intro pins s σ H xs us Q I r h
  obtain ⟨x, d, rfl, hd, hf, q⟩ := h
  obtain ⟨u, rfl, r1⟩ := vals1 r
  obtain ⟨as, hr, hm⟩ := Dat.reads I d x u hd r1
  have hz := hf.len
  have fin : ∀ h' t tk, (∀ b o, s.heap.get? b = some o → h'.get? b = some o) → EP X pins σ Q (.str d.shown t) { s with heap := h', toks := tk } := fun h' t tk k => ⟨.str d.shown, H, I.kept k, ⟨t, rfl⟩, q⟩
  have keep : ∀ b o, s.heap.get? b = some o → s.heap.get? b = some o := fun _ _ z => z
  obtain ⟨hs, hdp, _⟩ := hf
  have ref : ∀ {a : Addr}, u = .ref a → wpAny (model X.prog X.w) X.A (call (.builtin "repr") [u]) (EP X pins σ Q) X.xe s := by
    rintro a rfl
    exact repr_of_reads' hr hs hm hg (by omega) keep (fun h' t tk k => fin h' t tk k) hz
  cases hd with
  | non => cases r1; exact PySem.P.repr_of_none (fin s.heap _ _ keep)
  | bl b => cases r1; exact PySem.P.repr_of_bool (fin s.heap _ _ keep)
  | int i =>
    obtain ⟨t, rfl⟩ := r1
    exact PySem.P.repr_of_int (by simpa [PyData.showable] using hs) (fin s.heap _ _ keep)
  | str y =>
    obtain ⟨t, rfl⟩ := r1
    exact PySem.P.repr_of_str (fin s.heap _ _ keep) hz
  | lst _ _ _ => cases r1; exact ref rfl
  | tup _ _ _ => cases r1; exact ref rfl
  | dic _ _ _ => cases r1; exact ref rfl
end Rp

/-! ### calls where no repr is under way -/
namespace Rp
open PySem PySem.Spec PyProof.Rows L2
/-- a def's promise, wherever no repr is under way -/
structure FnG (P : Program) (w : World) (K : W.Frag) (mg : Str → Option Value) (base : Heap) (CX : CXT) (k : Nat) (f : Addr) (fd : FuncData) (ps : List Str) (sp : Sp) : Prop where
  len : ∀ vs H Q E, sp vs H Q E → vs.length = ps.length
  run : ∀ (A : Around) (outer : List Env) (s : Shared) (H : Hp) (args : Args) (us : List Value) (vs : List V) (Q : VK) (E : XK), Room k A → A.guards = some [] → Env0 P w K mg base A outer s H → BindsTo s fd args (ps.zip us) → Vals vs us → sp vs H Q E →
    codeAny (model P w) A (.call (.ref f) args) (CR CX outer P w H s Q E) s
section
variable {P : Program} {w : World} {K : W.Frag} {mg : Str → Option Value} {base : Heap} {CX : CXT} {k j : Nat} {f : Addr} {fd : FuncData} {N ps : List Str} {sp : Sp} {x qual : Str} {st : Stmt}
theorem FnG.of (F : FnOk P w K mg base CX k f fd ps sp) : FnG P w K mg base CX k f fd ps sp := ⟨F.len, fun A outer s H args us vs Q E hr _ => F.run A outer s H args us vs Q E hr⟩
theorem FnG.mono (F : FnG P w K mg base CX j f fd ps sp) (h : j ≤ k) : FnG P w K mg base CX k f fd ps sp := ⟨F.len, fun A outer s H args us vs Q E hr => F.run A outer s H args us vs Q E (hr.mono h)⟩
/-- a def by its body -/
theorem okG (F : Fun K x qual st f fd) (S : FnScope N ps (defScope st)) (len : ∀ vs H Q E, sp vs H Q E → vs.length = ps.length)
    (hbody : ∀ (cdv : Value) (A : Around) (outer : List Env) (s : Shared) (H : Hp) (vs : List V) (Q : VK) (E : XK), Room k (A.deeper (envOfC qual (defScope st) s.heap.objs.size f cdv)) → A.guards = some [] → sp vs H Q E →
      ∃ t, PSs (cxOf CX0 P w K mg base N qual (defScope st) f cdv A outer s H E).nox (defBody st) t ∧ t { nx := fun _ H' => Q .non H', rt := Q } (L2.start N vs) H) : FnG P w K mg base CX0 (k + 1) f fd ps sp := by
  obtain ⟨oc, od, kV, doc, pm, an, cdv, ct, osl, rfl, lk, hcd⟩ := F.ex
  refine ⟨len, fun A outer s H args us vs Q E hr hg e0 hb r hsp => ?_⟩
  have inK : K.In s.heap := e0.mod.kin.keeps fun b o z => (e0.bs b o z).1
  have noL : s.heap.NoLimit := e0.mod.nolimit.keeps fun b o z => (e0.bs b o z).1
  have kinds : ∀ y ∈ ps.zip us, (defScope st).names.lookup y.1 = some .local ∨ ((defScope st).names.lookup y.1 = some .cell ∧ ((cellsFrom (s.heap.objs.size + 1) (defScope st).names []).lookup y.1).isSome = true) := by
    rintro ⟨n, v⟩ hy
    rcases S.par n (List.of_mem_zip hy).1 with q | q
    · exact .inl q
    · exact .inr ⟨q, W.cellsFrom_some _ _ _ (.inl q)⟩
  refine codeAny_call_function hr.depth (inK _ _ lk) rfl S.co S.gen rfl (W.codeRec_of inK hcd) (hb _ _ _ _ ?_)
  refine wpAny_newFunctionEnv_cells S.kind kinds fun env he s1 z => ?_
  subst he
  refine ⟨noL.keeps z.toInCall.keep, codeAny_func ?_⟩
  obtain ⟨t, ht, q⟩ := hbody cdv A outer s H vs Q E (hr.deeper _) hg hsp
  have I : Inv (cxOf CX0 P w K mg base N qual (defScope st) f cdv A outer s H E) [] (L2.start N vs) H s1 := inv_start S hr.hd e0 (len _ _ _ _ hsp) r z
  refine wpAny_mono (ht.nox.run [] s1 (L2.start N vs) H _ I q) (fun fl s' hs => ?_) fun _ _ hs => hs
  cases fl with
  | next =>
    obtain ⟨σ', H', J, q⟩ := hs
    exact ⟨V.non, H', J.os, J.bare, J.base, J.hok, rfl, q⟩
  | ret u =>
    obtain ⟨v, σ', H', J, rv, q⟩ := hs
    exact ⟨v, H', J.os, J.bare, J.base, J.hok, rv, q⟩
  | brk =>
    obtain ⟨_, _, _, q⟩ := hs
    exact q.elim
  | cont =>
    obtain ⟨_, _, _, q⟩ := hs
    exact q.elim
end
section
variable {X : Cx} {CX : CXT} {k : Nat} {f : Addr} {fd : FuncData} {ps : List Str} {sp : Sp} {E : XK} {x : Str} {p pos : Pos} {e : Expr} {es : List Expr} {t : TA}
theorem pe_callG (F : FnG X.prog X.w X.K X.mg X.base CX k f fd ps sp) (hr : Room k X.A) (hG : X.A.guards = some []) (hg : Gl X x) (hm : X.mg x = some (.ref f)) (hk : W.keepIn X.K (.ref f) = true) (hb : Binds X.K fd ps []) (hx : Passes CX X E)
    (ha : PA X (e :: es) t) (hdb : (x == ("__debug__" : Str)) = false := by decide) (he : starEach (e :: es) X.env = (false, eval e X.env) :: starEach es X.env := by rfl) (hpl : (backTo pos (starEach es X.env)).any (·.1) = false := by rfl) :
    PE X (.Call (.Name x p) (e :: es) [] pos) (tCall sp [] E t) := by
  refine ⟨fun pins s σ H Q I h => wpAny_Call_Name_kw (ld_glob I hg hm ?_ hdb)⟩
  refine W.callWith_K (h₀ := X.base) I.ok.mod.kin hk (thn (ha.run pos pins s σ H _ I h) ?_) he hpl
  rintro us s1 ⟨vs, H1, I1, r, q⟩
  rw [List.append_nil] at q
  have b := hb s1 us I1.kIn (by rw [List.append_nil, ← r.length]; exact F.len _ _ _ _ q)
  rw [List.append_nil] at b
  refine ⟨I1.kIn, wpAny_call (codeAny_mono (F.run X.A X.stack s1 H1 ⟨us, []⟩ us vs Q E hr hG I1.env0 b r q) fun r s' z => ?_)⟩
  cases r with
  | error e => exact hx pins σ H1 s1 e s' I1 z
  | ok fl =>
    cases fl with
    | ret u => exact I1.after z
    | next => exact z.elim
    | brk => exact z.elim
    | cont => exact z.elim
end
/-- the end of a law: its promise from the heap behind the top -/
theorem law_callG {P : Program} {w : World} {K : W.Frag} {mg mb : Str → Option Value} {k : Nat} {fa a : Addr} {fd : FuncData} {x : Str} {sp : Sp} {s₁ : Shared} {vs : List Value} {ns : List Int}
    (KX : K.In s₁.heap) (hns : s₁.heap.Ns mainGlobals mg) (hb : s₁.heap.Ns builtinsNs mb) (hbb : ∀ x : Str, x ≠ "__name__" → mb x = bootBuiltins x) (hlim : s₁.heap.NoLimit) (hg : s₁.gens = #[])
    (ha : s₁.heap.get? a = some { cls := .type "list", data := .seq vs.toArray }) (hi : IntsAre vs ns) (hl : ns.length ≤ sizeLine) (hr : Room k callerA)
    (F : ∀ base : Heap, K.In base → base.Ns mainGlobals mg → FnG P w K mg base CX0 k fa fd [x] sp) (hbind : ∀ (s : Shared) (u : Value), BindsTo s fd ⟨[u], []⟩ [(x, u)])
    (hsp : ∀ H : Hp, SqL K H a (ns.map V.int) → sp [.ref a] H (fun v _ => v = .bl true) fun _ _ _ => False) :
    codeAny (model P w) callerA (.call (.ref fa) ⟨[.ref a], []⟩) (fun r s' => r = .ok (.ret (.bool true)) ∧ OldK s₁.heap s'.heap ∧ s'.os = s₁.os ∧ AllBare s'.gens) s₁ := by
  have rv := vals_ints hi
  let oS : Obj := { cls := .type "list", data := .seq vs.toArray }
  -- H0 tracks the script, or nothing
  have go : ∀ H0 : Hp, (∀ b u, H0 b = some u → b = a ∧ ∃ zs, u = .frz oS (.lst zs) ∧ zs.length ≤ sizeLine ∧ Vals zs vs) → (∀ o, K.lookup a = some o → H0 a = none) → SqL K H0 a (ns.map V.int) →
      codeAny (model P w) callerA (.call (.ref fa) ⟨[.ref a], []⟩) (fun r s' => r = .ok (.ret (.bool true)) ∧ OldK s₁.heap s'.heap ∧ s'.os = s₁.os ∧ AllBare s'.gens) s₁ := by
    intro H0 hA hK hS
    have ok : HOk P w H0 s₁.heap := fun b u z => by
      obtain ⟨rfl, zs, rfl, h1, h2⟩ := hA b u z
      exact ⟨ha, h1, vs, _, h2, ha⟩
    have low : ∀ {b : Addr} {o : Obj}, s₁.heap.get? b = some o → o.cls ≠ .type "list" → H0 b = none := fun {b o} z hc => by
      cases e : H0 b with
      | none => rfl
      | some u =>
        obtain ⟨rfl, _⟩ := hA b u e
        rw [ha] at z
        cases z
        exact absurd rfl hc
    have ns0 : ∀ {b : Addr} {m : Str → Option Value}, s₁.heap.Ns b m → (hidT s₁.heap H0).Ns b m := by
      rintro b m ⟨o, es, ep, z, d, r⟩
      refine ⟨o, es, ep, hidT_get z ?_, d, r⟩
      cases e : H0 b with
      | none => rfl
      | some u =>
        obtain ⟨rfl, _⟩ := hA b u e
        rw [ha] at z
        cases z
        cases d
    have kIn : K.In (hidT s₁.heap H0) := fun b o z => by
      refine hidT_get (KX b o z) ?_
      cases e : H0 b with
      | none => rfl
      | some u =>
        obtain ⟨rfl, _⟩ := hA b u e
        rw [hK o z] at e
        cases e
    have M : Mod K mg (hidT s₁.heap H0) := by
      obtain ⟨mc, h1, h2⟩ := hlim
      exact ⟨kIn, ns0 hns, ⟨mb, ns0 hb, hbb⟩, mc, ns0 h1, h2⟩
    have nofr : ∀ b, b ∉ frs [] := fun b z => by cases z
    have e0 : Env0 P w K mg (hidT s₁.heap H0) callerA [] s₁ H0 := ⟨rfl, M, fun b o z => of_hidT z, Nat.le_of_eq (hidT_size _ _), trivial, fun b z => absurd z (nofr b), ok, .of_eq hg⟩
    refine codeAny_mono ((F _ kIn (ns0 hns)).run callerA [] s₁ H0 ⟨[.ref a], []⟩ [.ref a] [.ref a] _ _ hr rfl e0 (hbind s₁ (.ref a)) (.cons rfl .nil) (hsp H0 hS)) fun r s' z => ?_
    cases r with
    | error e => exact False.elim z
    | ok fl =>
      cases fl with
      | next => exact z.elim
      | brk => exact z.elim
      | cont => exact z.elim
      | ret u =>
        obtain ⟨v, H', os, bare, un, ok', r', rfl⟩ := z
        cases r'
        refine ⟨rfl, .of_keep fun b o z => ?_, os, bare⟩
        cases e : H0 b with
        | none => exact un.keep b o z e (nofr b) (by simp)
        | some u =>
          obtain ⟨rfl, zs, rfl, _⟩ := hA b u e
          obtain ⟨y, _⟩ := ok' b _ (un.frzs b _ _ e)
          rw [ha] at z
          cases z
          exact y
  cases hk : K.lookup a with
  | some o =>
    have z := KX a o hk
    rw [ha] at z
    cases z
    exact go (fun _ => none) (fun b u z => by cases z) (fun _ _ => rfl) (.inr ⟨_, vs.toArray, _, hk, rfl, rfl, rfl, by rw [List.size_toArray, hi.length]; exact hl, by simpa using rv⟩)
  | none =>
    refine go (fun b => if b = a then some (.frz oS (.lst (ns.map V.int))) else none) (fun b u z => ?_) (fun o z => by rw [hk] at z; cases z) (.inl (.inr ⟨oS, if_pos rfl⟩))
    by_cases hb : b = a
    · have z' := (if_pos hb).symm.trans z
      cases z'
      exact ⟨hb, _, rfl, by rw [List.length_map]; exact hl, rv⟩
    · have z' := (if_neg hb).symm.trans z
      cases z'
theorem walk_ofG {l : W.OpenLaw} {n k : Nat} {q : Program} {loose : List Str} {XP : (Str → Option Value) → Heap → Prop} {YP : World → Heap → Prop} {d : DefRec} {K : Params → W.Frag} {sp : W.Frag → Sp} {x : Str}
    (hn : l.most = some n) (hn2 : n ≤ sizeLine) (hdf : d.params.defaults = []) (hr : Room k callerA) (hY : ∀ (w : World) (h : Heap), YP w h → (K w.params).In h)
    (F : ∀ (w : World) (mg : Str → Option Value) (fa : Addr) (h : Heap), (K w.params).In h → h.Ns mainGlobals mg → mg d.name = some (.ref fa) →
      ∃ fd : FuncData, (∀ (s : Shared) (u : Value), BindsTo s fd ⟨[u], []⟩ [(x, u)]) ∧ ∀ base : Heap, (K w.params).In base → base.Ns mainGlobals mg → FnG l.prog w (K w.params) mg base CX0 k fa fd [x] (sp (K w.params)))
    (hsp : ∀ (K : W.Frag) (H : Hp) (a : Addr) (ns : List Int), ns.length ≤ n → SqL K H a (ns.map V.int) → sp K [.ref a] H (fun v _ => v = .bl true) fun _ _ _ => False) :
    W.WalkO q loose XP YP l.row.toRowW d [] (fun f vs => PySem.call f vs) := by
  refine Att.attach_call hn hdf fun w s₀ s₁ mg mb fa o pm cd doc a vs ns G Y ho hd hcd hmg hobj hints hlen hg => ?_
  obtain ⟨fd, hb, hF⟩ := F w mg fa _ (hY w _ Y) G.T.g hmg
  exact law_callG (hY w _ Y) G.T.g G.T.b G.T.builtins G.T.nolimit hg hobj hints (Nat.le_trans hlen hn2) hr hF hb fun H hS => hsp _ H a ns hlen hS
end Rp

set_option Elab.async false
set_option linter.all false
set_option maxRecDepth 100000
set_option maxHeartbeats 2000000
/-! Operators, subscripts, truth, len, str of own instances by the text's own defs. -/
namespace Ow
open PySem PySem.Spec PyProof.Rows L2
section
variable {X : Cx} {CX : CXT} {n : Nat} {f C : Addr} {fd : FuncData} {ps : List Str} {sp : Sp} {E : XK} {pins : List (Addr × Obj)} {σ : L2.St} {H : Hp} {s : Shared} {A : Around}
/-- a def called from somewhere below the running body -/
theorem run_at {Q : VK} {us : List Value} {vs : List V} (F : FnOk X.prog X.w X.K X.mg X.base CX n f fd ps sp) (sb : Sub X n A) (hb : Binds X.K fd ps []) (hx : Passes CX X E) (I : Inv X pins σ H s) (r : Vals vs us) (h : sp vs H Q E) :
    wpAny (model X.prog X.w) A (call (.ref f) us) (EP X pins σ Q) X.xe s := by
  have hl : (us ++ []).length = ps.length := by
    rw [List.append_nil, ← r.length]
    exact F.len _ _ _ _ h
  have e0 : Env0 X.prog X.w X.K X.mg X.base A X.stack s H := by
    have e := I.env0
    exact ⟨by rw [sb.fr]; exact e.frames, e.mod, e.bs, e.bsz, e.funs, e.frf, e.hok, e.bare⟩
  have hbt := hb s us I.kIn hl
  rw [List.append_nil] at hbt
  refine wpAny_call (codeAny_mono (F.run A X.stack s H ⟨us, []⟩ us vs Q E sb.room e0 hbt r h) fun r s' hq => ?_)
  cases r with
  | error e => exact hx pins σ H s e s' I hq
  | ok fl =>
    cases fl with
    | ret u => exact I.after hq
    | next => exact False.elim hq
    | brk => exact False.elim hq
    | cont => exact False.elim hq
/-- the def behind a name of an own class -/
structure Dun (X : Cx) (CX : CXT) (n : Nat) (C f : Addr) (name : Str) (fd : FuncData) (ps : List Str) (sp : Sp) : Prop where
  at_ : W.findIn X.K (.ref C) name = some (some (.ref f))
  fn : W.isFn X.K (.ref f) = true
  F : FnOk X.prog X.w X.K X.mg X.base CX n f fd ps sp
  b : Binds X.K fd ps []
/-- an own instance stands there -/
def Own (H : Hp) (C a : Addr) : Prop := ∃ dx fs, H a = some (.ins C dx fs)
theorem own_at (I : Inv X pins σ H s) {a : Addr} (h : Own H C a) : ∃ ox od, W.InstAt s.heap a ox C od := by
  obtain ⟨dx, fs, h⟩ := h
  obtain ⟨mA, J, _⟩ := ins_get I.hok h
  obtain ⟨od, J, _⟩ := J.look
  exact ⟨_, _, J⟩
/-! x in o, x not in o -/
def rInO (C : Addr) (sp : Sp) (E : XK) (neg : Bool) : R2 := fun x y H Q => ∃ a, y = .ref a ∧ Own H C a ∧ sp [.ref a, x] H (fun z H' => ∃ b, z = .bl b ∧ Q (.bl (if neg then !b else b)) H') E
theorem op_inO (D : Dun X CX n C f "__contains__" fd ps sp) (hr : Room n X.A) (hx : Passes CX X E) : OpR X (compareOp .In) (rInO C sp E false) := by
  intro pins s σ H x y v u Q I rx ry h
  obtain ⟨a, rfl, ha, q⟩ := h
  cases ry
  obtain ⟨ox, od, J⟩ := own_at I ha
  obtain ⟨m, hF⟩ := I.fr
  refine W.in_K hF I.ok.mod.kin J D.at_ D.fn (wpAny_mono (run_at D.F ⟨hr, rfl⟩ D.b hx I (vs := [.ref _, _]) (.cons rfl (.cons rx .nil)) q) (fun r s' z => ?_) fun _ _ z => z)
  obtain ⟨w, H', I', rw', b, rfl, q⟩ := z
  cases rw'
  exact wpAny_truthy_bool ⟨.bl b, H', I', rfl, q⟩
theorem op_notInO (D : Dun X CX n C f "__contains__" fd ps sp) (hr : Room n X.A) (hx : Passes CX X E) : OpR X (compareOp .NotIn) (rInO C sp E true) := by
  intro pins s σ H x y v u Q I rx ry h
  obtain ⟨a, rfl, ha, q⟩ := h
  cases ry
  obtain ⟨ox, od, J⟩ := own_at I ha
  obtain ⟨m, hF⟩ := I.fr
  refine W.notIn_K hF I.ok.mod.kin J D.at_ D.fn (wpAny_mono (run_at D.F ⟨hr, rfl⟩ D.b hx I (vs := [.ref _, _]) (.cons rfl (.cons rx .nil)) q) (fun r s' z => ?_) fun _ _ z => z)
  obtain ⟨w, H', I', rw', b, rfl, q⟩ := z
  cases rw'
  exact wpAny_truthy_bool ⟨.bl (!b), H', I', rfl, q⟩
/-! o[i] -/
def rGetO (C : Addr) (sp : Sp) (E : XK) : R2 := fun x y H Q => ∃ a, x = .ref a ∧ Own H C a ∧ sp [.ref a, y] H Q E
theorem pe_ixO {a b : Expr} {ta tb : TE} {pos : Pos} (D : Dun X CX n C f "__getitem__" fd ps sp) (hfn : W.fnIn X.K f = true) (hr : Room (n + 1) X.A) (hx : Passes CX X E) (ha : PE X a ta) (hb : PE X b tb)
    (hsl : ∀ (x : Addr) (i : Value), subscripted b true (.ref x) i = runValue (.builtin "lifetime.subscript" ⟨[.ref x, i], []⟩) := by intro _ _; with_unfolding_all rfl) : PE X (.Subscript a b pos) (tOp (rGetO C sp E) ta tb) := by
  refine ⟨fun pins s σ H Q I h => ?_⟩
  refine Subscript_ (binT ha hb I h fun v u s2 x y H2 I2 rx ry q => ?_)
  obtain ⟨p, rfl, hp, q⟩ := q
  cases rx
  obtain ⟨ox, od, J⟩ := own_at I2 hp
  obtain ⟨m, hF⟩ := I2.fr
  exact W.sub_K hF I2.ok.mod.kin J D.at_ hfn D.fn (run_at D.F ⟨hr.in1, rfl⟩ D.b hx I2 (vs := [.ref _, _]) (.cons rfl (.cons ry .nil)) q) (hsl p u)
/-! len(o), bool(o), str(o), the truth of o -/
def rLenO (C : Addr) (sp : Sp) (E : XK) : List V → Hp → VK → Prop := fun xs H Q => ∃ a, xs = [.ref a] ∧ Own H C a ∧ sp [.ref a] H (fun z H' => ∃ k : Int, z = .int k ∧ (0 ≤ k ∧ k < 2 ^ 63) ∧ Q (.int k) H') E
theorem call_lenO (D : Dun X CX n C f "__len__" fd ps sp) (hr : Room (n + 1) X.A) (hx : Passes CX X E) : CallR X (.builtin "len") (rLenO C sp E) := by
  intro pins s σ H xs us Q I r h
  obtain ⟨a, rfl, ha, q⟩ := h
  obtain rfl := Vals.ref1 r
  obtain ⟨ox, od, J⟩ := own_at I ha
  obtain ⟨m, hF⟩ := I.fr
  refine W.len_K hF I.ok.mod.kin J D.at_ D.fn (wpAny_mono (run_at D.F ⟨hr.in1, rfl⟩ D.b hx I (vs := [.ref _]) (.cons rfl .nil) q) (fun r s' z => ?_) fun _ _ z => z)
  obtain ⟨w, H', I', rw', k, rfl, hk, q⟩ := z
  obtain ⟨t, rfl⟩ := rw'
  exact ⟨hk, ⟨.int k, H', I'.tok _, ⟨_, rfl⟩, q⟩⟩
def rStrO (C : Addr) (sp : Sp) (E : XK) : List V → Hp → VK → Prop := fun xs H Q => ∃ a, xs = [.ref a] ∧ Own H C a ∧ sp [.ref a] H (fun z H' => ∃ y : Str, z = .str y ∧ Q (.str y) H') E
theorem call_strO (D : Dun X CX n C f "__str__" fd ps sp) (hr : Room (n + 2) X.A) (hx : Passes CX X E) : CallR X (.type "str") (rStrO C sp E) := by
  intro pins s σ H xs us Q I r h
  obtain ⟨a, rfl, ha, q⟩ := h
  obtain rfl := Vals.ref1 r
  obtain ⟨ox, od, J⟩ := own_at I ha
  refine W.kso_call hr.in1.in1.units0 I.kIn J D.at_ D.fn (wpAny_mono (run_at D.F ⟨hr.in1.in1, rfl⟩ D.b hx I (vs := [.ref _]) (.cons rfl .nil) q) (fun r s' z => ?_) fun _ _ z => z)
  obtain ⟨w, H', I', rw', y, rfl, q⟩ := z
  obtain ⟨t, rfl⟩ := rw'
  exact ⟨.str y, H', I', ⟨_, rfl⟩, q⟩
/-! o == y -/
def rEqO (K : W.Frag) (C : Addr) (sp : Sp) (E : XK) : R2 := fun x y H Q => ∃ a t, x = .ref a ∧ Own H C a ∧ TyX K H y t ∧ W.notFirst K C t = true ∧ sp [.ref a, y] H (fun z H' => ∃ b, z = .bl b ∧ Q (.bl b) H') E
theorem op_eqO (D : Dun X CX n C f "__eq__" fd ps sp) (hr : Room n X.A) (hx : Passes CX X E) : OpR X (compareOp .Eq) (rEqO X.K C sp E) := by
  intro pins s σ H x y v u Q I rx ry h
  obtain ⟨a, t, rfl, ha, ty, hn, q⟩ := h
  cases rx
  obtain ⟨ox, od, J⟩ := own_at I ha
  obtain ⟨m, hF⟩ := I.fr
  obtain ⟨P, kx, hP, _⟩ := kit_of I ry ty
  show wpAny _ _ (richCompare .Eq (.ref a) u) _ _ _
  refine W.cmp_K (op := .Eq) hr.units0 hF I.ok.mod.kin J (kx.ty _ _ I.kIn hP) hn D.at_ D.fn (wpAny_mono (run_at D.F ⟨hr, rfl⟩ D.b hx I (vs := [.ref _, _]) (.cons rfl (.cons ry .nil)) q) (fun r s' z => ?_) fun _ _ z => z)
  obtain ⟨w, H', I', rw', b, rfl, q⟩ := z
  cases rw'
  exact ⟨.bl b, H', I', rfl, q⟩
/-! o != y, by the own == -/
theorem slot_one : Slot "object" "__ne__" "object.__ne__" :=
  Slot.of (T := "object") (name := "__ne__") (owner := "object") (n := "__ne__") (by rw [typeLookup_type, builtinLookup_eq_fast]; kernel_rfl) (by decide +kernel) (by decide +kernel) (by decide +kernel) (.inl (by decide +kernel)) (by rw [isSubtype_type]; kernel_rfl)
theorem ne_own {prog : Program} {w : World} {A : Around} {E : Value → Shared → Prop} {s : Shared} {K : W.Frag} {x C L f : Addr} {h₀ : Heap} {m : Str → Option Value} {ox : Obj} {od : Option Obj} {b tb : Value} {Q : Value → Shared → Prop}
    (hu : A.units + 1 < cLine) (F : Fr h₀ L s.heap m) (X₀ : K.In h₀) (I : W.InstAt s.heap x ox C od) (hb : W.Looks (model prog w) s.heap (typeOf b) tb) (hn : W.notFirst K C tb = true) (hne : W.findIn K (.ref C) "__ne__" = some (some (.builtin "object.__ne__")))
    (hi : W.subIn K (.ref C) (.type "object") = some true) (hs : W.findIn K (.ref C) "__eq__" = some (some (.ref f))) (hf : W.isFn K (.ref f) = true)
    (h : wpAny (model prog w) A.in1 (call (.ref f) [.ref x, b]) (fun v s' => ∃ c, v = .bool c ∧ Q (.bool (!c)) s') E s) : wpAny (model prog w) A (richCompare .NotEq (.ref x) b) Q E s := by
  have X := X₀.keeps F.keep
  have body : wpAny (model prog w) A.in1 (Builtin.«object.__ne__» ⟨[.ref x, b], []⟩) (GQ.FinOf prog w A (wants (fun v s' => v ≠ .notImplemented ∧ Q v s') E)) (fun e s' => E e s') s := by
    unfold Builtin.«object.__ne__»
    refine wpAny_bind (wpAny_pure ?_)
    dsimp only
    refine wpAny_bind (wpAny_cRoomFor (by show A.units + 1 < cLine; exact hu) ?_)
    refine wpAny_bind (W.ifBound_K X I hs hf (wpAny_mono h (fun v s' hv => ?_) fun _ _ z => z))
    obtain ⟨c, rfl, q⟩ := hv
    refine wpAny_bind (wpAny_truthy_bool ?_)
    exact wpAny_pure ⟨(fun z => nomatch z), q⟩
  have called : wpAny (model prog w) A (call (.builtin "object.__ne__") [.ref x, b]) (fun v s' => v ≠ .notImplemented ∧ Q v s') E s := by
    refine wpAny_call (codeAny_call_builtin slot_one.plain PySem.F.cmpEntry_ne (W.check_slot PySem.F.cmpKind_ne PySem.F.cmpSplit_ne (I.type.andThen (W.looks_subIn X hi)) (PySem.F.cmpArgs_ne _ _) ?_))
    exact body
  have one : wpAny (model prog w) A (tryCompare (.ref x) (cmpInfo .NotEq).2.1 b) (fun r s' => ∃ v, r = some v ∧ Q v s') E s := by
    unfold tryCompare callSpecialIfBound? bindSpecialIfBound?
    refine wpAny_bind ?_
    refine wpAny_holding (wpAny_bind (wpAny_bind (wpAny_bind (I.type.here ((W.looks_findIn X hne).here ?_)))))
    simp only [slot_one.bind]
    have fin : wpAny (model prog w) A (call (.builtin "object.__ne__") ([.ref x] ++ [b]) >>= fun v => pure (some v)) (fun o s' => wpAny (model prog w) A (match o with | some .notImplemented => pure none | none => pure none | some r => pure (some r)) (fun r s' => ∃ v, r = some v ∧ Q v s') E s') E s := by
      refine wpAny_bind (wpAny_mono called (fun v s' hv => ?_) fun _ _ z => z)
      obtain ⟨h1, h2⟩ := hv
      refine wpAny_pure ?_
      cases v <;> first | exact absurd rfl h1 | exact wpAny_pure ⟨_, rfl, h2⟩
    refine wpAny_bind (wpAny_askSetting (wpAny_ite ?_))
    split
    · exact wpAny_bind (wpAny_pure (wpAny_pure fin))
    · exact wpAny_tryCatch (wpAny_bind (wpAny_pure (wpAny_pure fin)))
  unfold richCompare
  simp only [oneThing_ref]
  refine wpAny_holding (wpAny_bind (wpAny_cRoomFor (Nat.lt_of_succ_lt hu) ?_))
  refine wpAny_bind (I.type.here (wpAny_bind (hb.here ?_)))
  have last : wpAny (model prog w) A (tryCompare (.ref x) (cmpInfo .NotEq).2.1 b) (fun r s' => ∃ v, r = some v ∧ Q v s') E s := one
  split
  · rename_i q
    have e : W.subIn K tb (.ref C) = some false := by
      rcases Bool.or_eq_true_iff.mp hn with e | e
      · rw [beq_iff_eq.mp e] at q
        simp at q
      · exact beq_iff_eq.mp e
    refine wpAny_bind ((W.looks_subIn X e).here ?_)
    simp only [Bool.false_eq_true, if_false]
    refine wpAny_bind (wpAny_mono last (fun r s' z => ?_) fun _ _ e => e)
    obtain ⟨v, rfl, hq⟩ := z
    exact wpAny_pure hq
  · refine wpAny_bind (wpAny_pure ?_)
    simp only [Bool.false_eq_true, if_false]
    refine wpAny_bind (wpAny_mono last (fun r s' z => ?_) fun _ _ e => e)
    obtain ⟨v, rfl, hq⟩ := z
    exact wpAny_pure hq
/-- o != y -/
def rNeO (K : W.Frag) (C : Addr) (sp : Sp) (E : XK) : R2 := fun x y H Q => ∃ a t, x = .ref a ∧ Own H C a ∧ TyX K H y t ∧ W.notFirst K C t = true ∧ sp [.ref a, y] H (fun z H' => ∃ b, z = .bl b ∧ Q (.bl (!b)) H') E
theorem op_neO (D : Dun X CX n C f "__eq__" fd ps sp) (hne : W.findIn X.K (.ref C) "__ne__" = some (some (.builtin "object.__ne__"))) (hi : W.subIn X.K (.ref C) (.type "object") = some true) (hr : Room (n + 1) X.A) (hx : Passes CX X E) : OpR X (compareOp .NotEq) (rNeO X.K C sp E) := by
  intro pins s σ H x y v u Q I rx ry h
  obtain ⟨a, t, rfl, ha, ty, hn, q⟩ := h
  cases rx
  obtain ⟨ox, od, J⟩ := own_at I ha
  obtain ⟨m, hF⟩ := I.fr
  obtain ⟨P, kx, hP, _⟩ := kit_of I ry ty
  show wpAny _ _ (richCompare .NotEq (.ref a) u) _ _ _
  refine ne_own (by have := hr.units; omega) hF I.ok.mod.kin J (kx.ty _ _ I.kIn hP) hn hne hi D.at_ D.fn (wpAny_mono (run_at D.F ⟨hr.in1, rfl⟩ D.b hx I (vs := [.ref _, _]) (.cons rfl (.cons ry .nil)) q) (fun r s' z => ?_) fun _ _ z => z)
  obtain ⟨w, H', I', rw', b, rfl, q⟩ := z
  cases rw'
  exact ⟨b, rfl, .bl (!b), H', I', rfl, q⟩
/-! bool(o), o as a test -/
theorem bool_own {prog : Program} {w : World} {A : Around} {E : Value → Shared → Prop} {s : Shared} {x : Value} {Q : Value → Shared → Prop} (h : wpAny (model prog w) A.in1.in1 (truthy x) (fun b s' => Q (.bool b) s') E s) : wpAny (model prog w) A (call (.type "bool") [x]) Q E s := by
  refine callType_codes (T := "bool") (Bi := Builtin.«object.__init__») (Q₁ := fun r s₁ => ∃ b, r = .bool b ∧ Q r s₁) PySem.F.called_bool (PySem.F.typeCall_bool_1 _) PySem.F.entry_object_init ?_ ?_
  · refine codeAny_of_tree ?_
    show wpAny _ A.in1.in1 (do checkBuiltinCall "bool.__new__" ⟨[.type "bool", x], []⟩; again (.builtin "bool.__new__" ⟨[.type "bool", x], []⟩)) _ _ s
    refine wpAny_bind (wpAny_of_eq (PySem.F.newCall_bool_1 _) (wpAny_pure ⟨plainId_quiet (by decide +kernel) _, codeAny_builtin PySem.F.entry_bool_new ?_⟩))
    rw [Around.under_plainId (by decide +kernel) _]
    unfold Builtin.«bool.__new__»
    dsimp only
    have f1 := PySem.F.conv_sub_bool
    have f0 : isType (.type "bool") = pure true := by kernel_rfl
    refine wpAny_bind (wpAny_of_eq f0 ?_)
    rw [if_neg (by simp)]
    refine wpAny_bind (wpAny_of_eq f1 ?_)
    rw [if_neg (by simp)]
    refine wpAny_bind (m := someArgs "bool" 0 1 ⟨[x], []⟩) (wpAny_pure ?_)
    dsimp only
    refine wpAny_bind (wpAny_mono h (fun b s' q => wpAny_pure ⟨b, rfl, q⟩) fun _ _ z => z)
  · rintro obj s₁ ⟨b, rfl, hq⟩
    exact ⟨rfl, PySem.F.args_object_init_2 _ _, object_init_meets PySem.F.called_bool.init.lookup PySem.F.called_bool.made (by decide) prog w A.in1 _ s₁ ⟨rfl, rfl, hq⟩⟩
section
variable {X : Cx} {CX : CXT} {n : Nat} {f C : Addr} {fd : FuncData} {ps : List Str} {sp : Sp} {E : XK}
theorem truthy_own {pins : List (Addr × Obj)} {σ : L2.St} {H : Hp} {s : Shared} {A : Around} {a : Addr} {Q : Bool → Hp → Prop} (D : Dun X CX n C f "__bool__" fd ps sp) (sb : Sub X n A) (hx : Passes CX X E) (I : Inv X pins σ H s) (ha : Own H C a) (q : sp [.ref a] H (fun z H' => ∃ b, z = .bl b ∧ Q b H') E) :
    wpAny (model X.prog X.w) A (truthy (.ref a)) (TP X pins σ Q) X.xe s := by
  obtain ⟨ox, od, J⟩ := own_at I ha
  obtain ⟨m, hF⟩ := I.fr
  refine W.truthy_K hF I.ok.mod.kin J D.at_ D.fn (wpAny_mono (run_at D.F sb D.b hx I (vs := [.ref _]) (.cons rfl .nil) q) (fun r s' z => ?_) fun _ _ z => z)
  obtain ⟨w, H', I', rw', b, rfl, q⟩ := z
  cases rw'
  exact ⟨H', I', q⟩
def rBoolO (C : Addr) (sp : Sp) (E : XK) : List V → Hp → VK → Prop := fun xs H Q => ∃ a, xs = [.ref a] ∧ Own H C a ∧ sp [.ref a] H (fun z H' => ∃ b, z = .bl b ∧ Q (.bl b) H') E
theorem call_boolO (D : Dun X CX n C f "__bool__" fd ps sp) (hr : Room (n + 2) X.A) (hx : Passes CX X E) : CallR X (.type "bool") (rBoolO C sp E) := by
  intro pins s σ H xs us Q I r h
  obtain ⟨a, rfl, ha, q⟩ := h
  obtain rfl := Vals.ref1 r
  refine bool_own (wpAny_mono (truthy_own D ⟨hr.in1.in1, rfl⟩ hx I ha q) (fun b s' z => ?_) fun _ _ z => z)
  obtain ⟨H', I', q⟩ := z
  exact ⟨.bl b, H', I', rfl, q⟩
/-- o as a test -/
theorem pt_own {a : Expr} {ta : TE} (D : Dun X CX n C f "__bool__" fd ps sp) (hr : Room n X.A) (hx : Passes CX X E) (ha : PE X a ta) (he : ∀ whole, isTrue a X.env whole = (do let v ← whole; standAt a.pos; holding [v] (truthy v))) :
    PT X a (fun σ H Q => ta σ H fun x H' => ∃ p, x = .ref p ∧ Own H' C p ∧ sp [.ref p] H' (fun z H2 => ∃ b, z = .bl b ∧ Q b H2) E) := by
  refine ⟨fun pins s σ H Q I h => ?_⟩
  refine isTrue_plain (thn (ha.run pins s σ H _ I h) fun v s1 ⟨x, H1, I1, r1, q1⟩ => ?_) (he _)
  obtain ⟨p, rfl, hp, q⟩ := q1
  cases r1
  exact truthy_own D ⟨hr, rfl⟩ hx I1 hp q
/-! o + y, .. of one class -/
def rBinO (C : Addr) (sp : Sp) (E : XK) : R2 := fun x y H Q => ∃ a b, x = .ref a ∧ y = .ref b ∧ Own H C a ∧ Own H C b ∧ sp [.ref a, .ref b] H (fun z H' => ((∃ p, z = .ref p) ∨ z = .non ∨ ∃ b, z = .bl b) ∧ Q z H') E
theorem op_binO {op : Operator} (D : Dun X CX n C f (PySem.dunder op.info.2) fd ps sp) (hc : W.selfFirst X.K C = true) (hr : Room n X.A) (hx : Passes CX X E) : OpR X (binaryOp op) (rBinO C sp E) := by
  intro pins s σ H x y v u Q I rx ry h
  obtain ⟨a, b, rfl, rfl, ha, hb, q⟩ := h
  cases rx
  cases ry
  obtain ⟨ox, od, J⟩ := own_at I ha
  obtain ⟨ox', od', J'⟩ := own_at I hb
  obtain ⟨m, hF⟩ := I.fr
  refine W.binop_K hF I.ok.mod.kin J J'.type hc D.at_ D.fn (wpAny_mono (run_at D.F ⟨hr, rfl⟩ D.b hx I (vs := [.ref _, .ref _]) (.cons rfl (.cons rfl .nil)) q) (fun r s' z => ?_) fun _ _ z => z)
  obtain ⟨w, H', I', rw', k, q⟩ := z
  rcases k with ⟨p, rfl⟩ | rfl | ⟨b, rfl⟩
  · cases rw'
    exact ⟨.ref p, H', I', rfl, q⟩
  · cases rw'
    exact ⟨.non, H', I', rfl, q⟩
  · cases rw'
    exact ⟨.bl b, H', I', rfl, q⟩
/-- -o -/
theorem un_negO (D : Dun X CX n C f "__neg__" fd ps sp) (hr : Room n X.A) (hx : Passes CX X E) : UnR X (unaryOp .USub) (fun x H Q => ∃ a, x = .ref a ∧ Own H C a ∧ sp [.ref a] H Q E) := by
  intro pins s σ H x v Q I rx h
  obtain ⟨a, rfl, ha, q⟩ := h
  cases rx
  obtain ⟨ox, od, J⟩ := own_at I ha
  obtain ⟨m, hF⟩ := I.fr
  exact W.ksp_neg hF I.ok.mod.kin J D.at_ D.fn (run_at D.F ⟨hr, rfl⟩ D.b hx I (vs := [.ref _]) (.cons rfl .nil) q)
end
end
end Ow

set_option Elab.async false
set_option linter.all false
set_option maxRecDepth 100000
set_option maxHeartbeats 2000000
/-! == of dicts with tuple keys. -/
namespace Dh
open PySem PySem.Calls PyProof.Rows PySem.Spec
section
variable {prog : Program} {w : World} {K : Type} [DecidableEq K] {knd : HeapKind prog w K} {A : Around} {E : Value → Shared → Prop} {s : Shared}
/-- the entries of one dict, one after the other, beside those of the other one -/
inductive Hits (A : Around) (s : Shared) (kb : List (K × Addr × Value)) : List (K × Addr × Value) → Bool → Prop
  | nil : Hits A s kb [] true
  | miss {k : K} {p : Addr × Value} {r : List (K × Addr × Value)} : atKey kb k = none → Hits A s kb ((k, p) :: r) false
  | hit {k : K} {p q : Addr × Value} {r : List (K × Addr × Value)} {e b : Bool} : atKey kb k = some q → SeqAt.EqAt A s p.2 q.2 e → Hits A s kb r b → Hits A s kb ((k, p) :: r) (e && b)
theorem Hits.inv {kb : List (K × Addr × Value)} {k : K} {p : Addr × Value} {r : List (K × Addr × Value)} {b : Bool} (h : Hits A s kb ((k, p) :: r) b) :
    (atKey kb k = none ∧ b = false) ∨ ∃ q e b', atKey kb k = some q ∧ SeqAt.EqAt A s p.2 q.2 e ∧ Hits A s kb r b' ∧ b = (e && b') := by
  cases h with
  | miss hn => exact .inl ⟨hn, rfl⟩
  | hit hy he hr => exact .inr ⟨_, _, _, hy, he, hr, rfl⟩
theorem same_pairs {nm : String} {a b : Addr} {ka kb : List (K × Addr × Value)} {r : Bool} {Q : Bool → Shared → Prop} (ha : (a == sysModules) = false) (hb : (b == sysModules) = false) (hu : knd.room A)
    (da : s.heap.DictOfH knd a ka) (db : s.heap.DictOfH knd b kb) (hits : ka.length = kb.length → Hits A s kb ka r) (h : Q (ka.length == kb.length && r) s) :
    wpAny (model prog w) A (Builtin.Dict.samePairs nm a b) Q E s := by
  obtain ⟨oa, es, ep, oA, _, dA, eA, iA, nA⟩ := da
  obtain ⟨ob, es', ep', oB, _, dB, eB, iB, nB⟩ := db
  have zA : ka.length = es.size := (size_of_entries eA).symm
  have zB : kb.length = es'.size := (size_of_entries eB).symm
  rw [zA, zB] at h
  unfold Builtin.Dict.samePairs Builtin.Dict.showsAll
  rw [if_neg (show ¬ (a == sysModules) = true by rw [ha]; exact Bool.false_ne_true), if_neg (show ¬ (b == sysModules) = true by rw [hb]; exact Bool.false_ne_true)]
  refine wpAny_bind (wpAny_pure (wpAny_bind (wpAny_pure ?_)))
  refine wpAny_bind (wpAny_dictEntries oA dA ?_)
  dsimp only
  refine wpAny_bind (wpAny_dictEntries oB dB ?_)
  by_cases zz : es.size = es'.size
  case neg =>
    rw [if_pos (by simpa using zz)]
    have hbf : (es.size == es'.size) = false := by simpa using zz
    rw [hbf, Bool.false_and] at h
    exact wpAny_bind (wpAny_rule (wpAny_pure h))
  case pos =>
    have h' : Q r s := by simpa [zz] using h
    have hts := hits (by rw [zA, zB]; exact zz)
    rw [if_neg (by rw [zz]; simp)]
    refine wpAny_bind (wpAny_dictEpoch oA dA ?_)
    refine wpAny_bind ?_
    rw [Std.Legacy.Range.forIn_eq_forIn_range']
    simp only [Std.Legacy.Range.size, Nat.sub_zero, Nat.add_sub_cancel, Nat.div_one]
    refine wpAny_forIn_list _
      (fun rest q s' => s' = s ∧ q = (none, ()) ∧ ∃ i, rest = List.range' i (es.size - i) ∧ i ≤ es.size ∧ Hits A s kb (ka.drop i) r)
      _ ?_ ?_ _ _ ⟨rfl, rfl, 0, by simp, Nat.zero_le _, hts⟩
    · rintro x rest q s' ⟨rfl, rfl, i, hr, hi, pre1⟩
      have lt1 : i < es.size := by
        rcases Nat.lt_or_ge i es.size with h | h
        · exact h
        · rw [Nat.sub_eq_zero_of_le h] at hr
          simp at hr
      obtain ⟨rfl, rst⟩ : x = i ∧ rest = List.range' (i + 1) (es.size - (i + 1)) := by
        have e : es.size - i = (es.size - (i + 1)) + 1 := by omega
        rw [e, List.range'_succ] at hr
        injection hr with h1 h2
        exact ⟨h1, h2⟩
      refine wpAny_bind (wpAny_dictEntries oA dA ?_)
      have hlt' : x < ka.length := by rw [zA]; exact lt1
      obtain ⟨k, p, hkv⟩ : ∃ k p, ka[x] = (k, p) := ⟨_, _, rfl⟩
      have hg : ka[x]? = some (k, p) := by rw [List.getElem?_eq_getElem hlt', hkv]
      have hdrop : ka.drop x = (k, p) :: ka.drop (x + 1) := by
        rw [← hkv]
        exact List.drop_eq_getElem_cons hlt'
      rw [entry_at eA x, hg]
      rw [hdrop] at pre1
      show wpAny _ _ (holding [.ref p.1, p.2] _ >>= _) _ _ _
      refine wpAny_bind (wpAny_holding (wpAny_bind ?_))
      have hkey : knd.is s'.heap k p.1 := iA (k, p) (List.mem_of_getElem? hg)
      refine wpAny_dictFind_heap hu hkey oB dB eB iB nB (fun hno => ?_) fun j q hj => ?_
      · have hn : atKey kb k = none := atKey_none_of_get hno
        rcases pre1.inv with ⟨_, er⟩ | ⟨y, _, _, hy, _⟩
        · rw [er] at h'
          refine wpAny_pure ?_
          show wpAny _ _ (if (!false) = true then _ else _) _ _ _
          rw [if_pos (by decide)]
          exact wpAny_pure (wpAny_pure h')
        · rw [hn] at hy
          exact nomatch hy
      · have hv' : atKey kb k = some q := atKey_of_get nB hj
        refine wpAny_bind (wpAny_dictEntries oB dB ?_)
        rw [entry_at eB j, hj]
        rcases pre1.inv with ⟨hn, _⟩ | ⟨y, e, b', hy, he, more1, er⟩
        · rw [hv'] at hn
          exact nomatch hn
        · have ey : q = y := Option.some.inj (hv'.symm.trans hy)
          rw [← ey] at he
          refine wpAny_holding (he prog w _ _ ?_)
          cases e with
          | false =>
            rw [er, Bool.false_and] at h'
            show wpAny _ _ (if (!false) = true then _ else _) _ _ _
            rw [if_pos (by decide)]
            exact wpAny_pure (wpAny_pure h')
          | true =>
            rw [Bool.true_and] at er
            rw [← er] at more1
            show wpAny _ _ (if (!true) = true then _ else _) _ _ _
            rw [if_neg (by decide)]
            refine wpAny_bind (wpAny_dictEpoch oA dA ?_)
            rw [if_neg (by simp)]
            exact wpAny_pure ⟨rfl, rfl, x + 1, rst, lt1, more1⟩
    · rintro q s' ⟨rfl, rfl, i, hr, hi, pre1⟩
      have atEnd : i = es.size := by
        rcases Nat.lt_or_ge i es.size with h | h
        · have e : es.size - i = (es.size - (i + 1)) + 1 := by omega
          rw [e, List.range'_succ] at hr
          exact nomatch hr
        · exact Nat.le_antisymm hi h
      refine wpAny_pure ?_
      rw [atEnd, ← zA, List.drop_length] at pre1
      cases pre1
      exact h'
theorem cmp_eq {a b : Addr} {ka kb : List (K × Addr × Value)} {r : Bool} {Q : Value → Shared → Prop} {op : CmpOp} (hop : op = .Eq ∨ op = .NotEq) (ha : (a == sysModules) = false) (hb : (b == sysModules) = false) (hk : knd.room A.in1)
    (da : s.heap.DictOfH knd a ka) (db : s.heap.DictOfH knd b kb) (hu : A.units < cLine) (hits : ka.length = kb.length → Hits A.in1 s kb ka r) (h : Q (.bool ((ka.length == kb.length && r) == decide (op = .Eq))) s) :
    wpAny (model prog w) A (compareOp op (.ref a) (.ref b)) Q E s := by
  have dif : s.TypeIs (.ref a) "dict" := da.typeIs
  have dig : s.TypeIs (.ref b) "dict" := db.typeIs
  rcases hop with rfl | rfl
  · refine wpAny_richCompare_same_room (op := .Eq) dif dig PySem.F.slot_dict_eq (wpAny_call_entry PySem.F.slot_dict_eq dif PySem.F.entry_dict_eq ?_ (PySem.F.args_dict_eq_2 _ _)) hu
    show wpAny _ _ (Builtin.Dict.dictSlotArgs "__eq__" ⟨[.ref a, .ref b], []⟩ >>= _) _ _ s
    unfold Builtin.Dict.dictSlotArgs
    refine wpAny_bind (wpAny_bind (wpAny_notOrdered_dict dif (wpAny_pure ?_)))
    refine wpAny_bind (wpAny_isInstance (T := "dict") dig PySem.F.sub_dict_dict ?_)
    rw [if_neg (by simp)]
    refine wpAny_bind (wpAny_pure (wpAny_bind (wpAny_pure (wpAny_bind (same_pairs ha hb hk da db hits ?_)))))
    refine wpAny_pure ⟨_, rfl, (fun x => nomatch x), ?_⟩
    exact h
  · refine wpAny_richCompare_same_room (op := .NotEq) dif dig PySem.F.slot_dict_ne (wpAny_call_entry PySem.F.slot_dict_ne dif PySem.F.entry_dict_ne ?_ (PySem.F.args_dict_ne_2 _ _)) hu
    show wpAny _ _ (Builtin.Dict.dictSlotArgs "__ne__" ⟨[.ref a, .ref b], []⟩ >>= _) _ _ s
    unfold Builtin.Dict.dictSlotArgs
    refine wpAny_bind (wpAny_bind (wpAny_notOrdered_dict dif (wpAny_pure ?_)))
    refine wpAny_bind (wpAny_isInstance (T := "dict") dig PySem.F.sub_dict_dict ?_)
    rw [if_neg (by simp)]
    refine wpAny_bind (wpAny_pure (wpAny_bind (wpAny_pure (wpAny_bind (same_pairs ha hb hk da db hits ?_)))))
    refine wpAny_pure ⟨_, rfl, (fun x => nomatch x), ?_⟩
    exact h
end
end Dh
namespace Dh
open PySem PySem.Spec PyProof.Rows L2
/-- the entries of the one, looked up in the other one -/
def hitsB (ls : List (List Key × V)) : List (List Key × V) → Bool
  | [] => true
  | (k, v) :: r => match valV ls k with
    | none => false
    | some y => eqV v y && hitsB ls r
def eqT (ks ls : List (List Key × V)) : Bool := ks.length == ls.length && hitsB ls ks
theorem hits_of {P : Program} {w : World} {A : Around} {s : Shared} {H : Hp} {ls : List (List Key × V)} {ys : List (List Key × Addr × Value)} (rl : KT H ls ys) (fl : ∀ p ∈ ls, flatV p.2 = true) :
    ∀ {ks : List (List Key × V)} {xs : List (List Key × Addr × Value)}, KT H ks xs → (∀ p ∈ ks, flatV p.2 = true) → Hits A s ys xs (hitsB ls ks)
  | [], _, .nil, _ => .nil
  | (k, v) :: r, _, .cons (b := q) h t, f => by
    obtain ⟨k', b, u⟩ := q
    obtain ⟨e1, _, rv⟩ := h
    have e1' : k = k' := e1
    subst e1'
    have ih := hits_of (A := A) (s := s) (P := P) (w := w) rl fl t fun p hp => f p (List.mem_cons_of_mem _ hp)
    have rel := rl.val k
    unfold hitsB
    cases e : valV ls k with
    | none =>
      rw [e] at rel
      cases g : atKey ys k with
      | none => exact .miss g
      | some z =>
        rw [g] at rel
        exact rel.elim
    | some y =>
      rw [e] at rel
      cases g : atKey ys k with
      | none =>
        rw [g] at rel
        exact rel.elim
      | some z =>
        rw [g] at rel
        refine .hit g ?_ ih
        have fy : flatV y = true := by
          obtain ⟨p, hp, ep⟩ := Option.map_eq_some_iff.mp (show (ls.find? fun kv => decide (kv.1 = k)).map (·.2) = some y from e)
          rw [← ep]
          exact fl p (List.mem_of_find?_eq_some hp)
        exact eqAt_V rv rel (f _ List.mem_cons_self) fy
def rEqT (neg : Bool) : R2 := fun x y H Q => ∃ a b ks ls, x = .ref a ∧ y = .ref b ∧ Rd H a (.dT ks) ∧ Rd H b (.dT ls) ∧ (∀ p ∈ ks, flatV p.2 = true) ∧ (∀ p ∈ ls, flatV p.2 = true) ∧ Q (.bl (if neg then !eqT ks ls else eqT ks ls)) H
section
variable {X : Cx} {n : Nat}
theorem tuple_room {P : Program} {w : World} {A : Around} {k : Nat} (hr : Room (k + 1) A) : (tupleKind (mixKind P w)).room A.in1 := by
  have h : A.in1.units < cLine := by
    have e := hr.units
    show A.units + 1 < cLine
    omega
  exact h
theorem eq_dT {pins : List (Addr × Obj)} {σ : L2.St} {H : Hp} {s : Shared} {op : CmpOp} (hop : op = .Eq ∨ op = .NotEq) (hr : Room (n + 1) X.A) {a b : Addr} {ks ls : List (List Key × V)} {Q : Value → Shared → Prop} (I : Inv X pins σ H s) (ha : Rd H a (.dT ks)) (hb : Rd H b (.dT ls))
    (fa : ∀ p ∈ ks, flatV p.2 = true) (fb : ∀ p ∈ ls, flatV p.2 = true) (q : Q (.bool (eqT ks ls == decide (op = .Eq))) s) : wpAny (model X.prog X.w) X.A (compareOp op (.ref a) (.ref b)) Q X.xe s := by
  obtain ⟨za, ya, xs, ra, da⟩ := dt_rd I.hok ha
  obtain ⟨zb, yb, zs, rb, db⟩ := dt_rd I.hok hb
  refine cmp_eq hop ya yb (tuple_room hr) da db hr.units0 (fun _ => hits_of (P := X.prog) (w := X.w) rb fb ra fa) ?_
  have e1 : ks.length = xs.length := Paired.length ra
  have e2 : ls.length = zs.length := Paired.length rb
  rw [← e1, ← e2]
  exact q
theorem op_eqT (hr : Room (n + 1) X.A) : OpR X (compareOp .Eq) (rEqT false) := by
  intro pins s σ H x y v u Q I rx ry h
  obtain ⟨a, b, ks, ls, rfl, rfl, ha, hb, fa, fb, q⟩ := h
  cases rx
  cases ry
  refine eq_dT (.inl rfl) hr I ha hb fa fb ⟨.bl (eqT ks ls), H, I, ?_, q⟩
  rw [show (eqT ks ls == decide (CmpOp.Eq = CmpOp.Eq)) = eqT ks ls from by cases eqT ks ls <;> rfl]
  exact rfl
theorem op_neT (hr : Room (n + 1) X.A) : OpR X (compareOp .NotEq) (rEqT true) := by
  intro pins s σ H x y v u Q I rx ry h
  obtain ⟨a, b, ks, ls, rfl, rfl, ha, hb, fa, fb, q⟩ := h
  cases rx
  cases ry
  refine eq_dT (.inr rfl) hr I ha hb fa fb ⟨.bl (!eqT ks ls), H, I, ?_, q⟩
  rw [show (eqT ks ls == decide (CmpOp.NotEq = CmpOp.Eq)) = !eqT ks ls from by cases eqT ks ls <;> rfl]
  exact rfl
end
end Dh

set_option Elab.async false
set_option linter.all false
set_option maxRecDepth 100000
set_option maxHeartbeats 2000000
/-! Dict comprehensions of either kind of keys: ints and texts, or tuples of them. -/
namespace Dh
open PySem PySem.Spec PyProof.Rows L2
/-- an empty dict, to hold keys of a kind -/
def mt : Bool → HO
  | true => .dT []
  | false => .dK []
theorem mt_ok {P : Program} {w : World} {H : Hp} (t : Bool) (h : Heap) (hb : sysModules < h.objs.size) : ObjOk P w H (h.push { cls := .type "dict", data := .dict #[] }) h.objs.size (mt t) := by
  cases t with
  | true => exact dt_empty h hb
  | false => exact dk_empty h hb
section
variable {X : Cx}
theorem put_any {pins : List (Addr × Obj)} {σ : L2.St} {H H' : Hp} {s : Shared} {E : Value → Shared → Prop} {D : Addr} {y v : V} {u r : Value} {Q : Unit → Shared → Prop} (hu : X.A.units + 1 < cLine) (I : Inv X pins σ H s) (g : DPut H D y v H') (ry : RelV y u) (rv : RelV v r)
    (h : ∀ s', Inv X pins σ H' s' → Q () s') : wpAny (model X.prog X.w) X.A (dictSet D u r) Q E s := by
  rcases g with ⟨kvs, k, e, rfl, l, rfl⟩ | ⟨kvs, k, b, e, rfl, eb, l, rfl⟩
  · exact d_dictSet I e l ry rv h
  · cases ry
    obtain ⟨z, nm, xs, rel, dd⟩ := dt_of I.hok e
    have room : (tupleKind (mixKind X.prog X.w)).room X.A := by
      show X.A.units < cLine
      omega
    refine wpAny_dictSet_heap (hsz := by rw [← Paired.length rel]; exact z) room (key_of I.hok eb) dd fun h' dd' only => h _ ?_
    obtain ⟨o', es, ep, at', ex', dat', ent', _, nd'⟩ := dd'
    have rel' := rel.put k eb rv
    have more : (putK kvs k v).length ≤ sizeLine := by
      have := length_putK kvs k v
      omega
    refine d_write I (by rw [e]; exact True.intro) only ⟨o', at'⟩ ⟨more, nm, _, rel'.keeps fun c ys ec => ?_, o', es, ep, at', ex', dat', ent', nd'⟩
    rw [upd_ne (ne_of ec e (fun z => nomatch z))]
    exact ec
/-- {k: v for target in iter if ..}: D the new dict, t the kind of its keys -/
def tDcA (t : Bool) (wi : TI) (g : TG) (tt : TT) (tk tv : TE) (vs : List Nat) : TE := fun σ H Q => wi σ H fun J H1 => ∀ D, H1 D = none → ∃ W : Nat → Nat → Hp → Prop, (∃ m, W 0 m (upd H1 D (mt t))) ∧ ∀ i m H, W i m H →
  (J.stop i H ∧ Q (.ref D) H) ∨ (J.go i H ∧ ∃ Nx : Hp → Prop, (∀ H', Nx H' → ∃ m', m' < m ∧ W (i + 1) m' H') ∧ ∀ x H', J.yld i H x H' → g x (wipe σ vs) H' fun σ2 H2 => wipe σ2 vs = wipe σ vs ∧ tt σ2 H2 fun b H3 =>
    if b = true then tk σ2 H3 fun y H4 => tv σ2 H4 fun z H5 => ∃ H6, DPut H5 D y z H6 ∧ Nx H6 else Nx H3)
section
variable {pins : List (Addr × Obj)} {σ : L2.St} {H : Hp} {s : Shared} {kx vx tg iter : Expr} {ifs : List Expr} {scope : Scope} {own : List (Str × Nat)} {pos pos' : Pos} {t : Bool} {wi : TI} {g : TG} {tt : TT} {tk tv : TE}
/-- what stands in the block of a comprehension: its target, tests, key, value -/
structure Blk (X : Cx) (scope : Scope) (tg : Expr) (ifs : List Expr) (kx vx : Expr) (g : TG) (tt : TT) (tk tv : TE) : Prop where
  g : ∀ (s : Shared) (H : Hp) (C : Addr) (cl : List (Str × Addr)) (fp : List Addr), PG (X.blk s H scope (compEnvC scope cl C X.env) fp) tg g
  t : ∀ (s : Shared) (H : Hp) (C : Addr) (cl : List (Str × Addr)) (fp : List Addr), PTs (X.blk s H scope (compEnvC scope cl C X.env) fp) ifs tt
  k : ∀ (s : Shared) (H : Hp) (C : Addr) (cl : List (Str × Addr)) (fp : List Addr), PE (X.blk s H scope (compEnvC scope cl C X.env) fp) kx tk
  v : ∀ (s : Shared) (H : Hp) (C : Addr) (cl : List (Str × Addr)) (fp : List Addr), PE (X.blk s H scope (compEnvC scope cl C X.env) fp) vx tv
theorem dcA_core {Q : VK} {use : Option (Value → Sem Unit)} {Qf : Value → Shared → Prop} (hu : X.A.units + 1 < cLine) (hc : X.calm = true) (hN : X.N.Nodup) (I : Inv X pins σ H s) (hi : PI X tg iter wi) (ok : BlkOk X.N X.env.scope scope own) (B : Blk X scope tg ifs kx vx g tt tk tv)
    (hs : ∀ x, foldedSetIterable iter X.env x = pure x) (h : tDcA t wi g tt tk tv (own.map (·.2)) σ H Q)
    (out : ∀ D C s' m H', Inv X pins σ H' s' → Q (.ref D) H' → s'.heap.Ns C m → FpOk X pins H' C → compPost (model X.prog X.w) X.A X.xe use Qf (.ref D) C (.ok .next) s') :
    wpAny (model X.prog X.w) X.A (comprehension (.DictComp kx vx [⟨tg, iter, ifs, 0⟩] scope pos) scope X.env pos' newDict false (eval iter X.env) use) Qf X.xe s := by
  have outer : ∀ y ∈ scope.names, y.2 = .free → ∃ c, X.env.cells.lookup y.1 = some c := fun y hy e => (ok.free y hy e).elim (fun k => I.ok.has _ (.inl k)) fun k => I.ok.has _ (.inr k)
  refine wpAny_comprehension_free (use := use) rfl hs (closure_ok outer) ok.kind (fun y hy e => by rw [ok.uniq y hy, e]) (thn (hi.run pins s σ H _ I h) fun xv s1 hx => thn hx fun itv s2 h2 => ?_)
  obtain ⟨it, fp, tn, J, H2, rfl, I2, T, st2, f2, q⟩ := h2
  refine wpAny_newObj_type (newEnv_comp ?_)
  obtain ⟨D, eD⟩ : ∃ D, D = s2.heap.objs.size := ⟨_, rfl⟩
  have low : ∀ b ∈ fp, b < D := fun b hb => by
    obtain ⟨o, e, _⟩ := T.obj _ _ st2 b hb
    rw [eD]
    exact Heap.lt_size e
  obtain ⟨W, ⟨m0, w0⟩, turn⟩ := q D (I2.hok.fresh (Nat.le_of_eq eD.symm))
  -- the new dict
  obtain ⟨s3, es3⟩ : ∃ s3 : Shared, s3 = { s2 with heap := s2.heap.push { cls := .type "dict", data := .dict #[] } } := ⟨_, rfl⟩
  have kp3 : ∀ b o, s2.heap.get? b = some o → s3.heap.get? b = some o := fun b o e => by
    rw [es3]
    exact Heap.get?_push_of_some _ e
  have size3 : s3.heap.objs.size = D + 1 := by
    rw [es3, eD]
    exact Heap.size_push ..
  obtain ⟨H3, eH3⟩ : ∃ H3, H3 = upd H2 D (mt t) := ⟨_, rfl⟩
  rw [← eH3] at w0
  have I3 : Inv X pins σ H3 s3 := by
    rw [eH3, es3]
    refine I2.laid (t' := s2.toks) (fun b o e => Heap.get?_push_of_some _ e) (Nat.le_of_eq eD.symm) ?_
    rw [eD]
    exact mt_ok t s2.heap I2.big
  have off : ∀ b ∈ fp, H3 b = none := fun b hb => by
    rw [eH3, upd_ne (Nat.ne_of_lt (low b hb))]
    exact (f2 b hb).1
  have f3 : ∀ b ∈ fp, FpOk X pins H3 b ∧ b < s3.heap.objs.size := fun b hb => ⟨⟨off b hb, (f2 b hb).2⟩, by rw [size3]; exact Nat.lt_succ_of_lt (low b hb)⟩
  have I4 := block_start I3 ok hN f3
  obtain ⟨ce, ece⟩ : ∃ ce, ce = compEnvC scope (cellsFrom (s3.heap.objs.size + 1) scope.names (cloFrom X.env.cells scope.names [])) s3.heap.objs.size X.env := ⟨_, rfl⟩
  obtain ⟨s4, es4⟩ : ∃ s4 : Shared, s4 = { s3 with heap := pushCells (s3.heap.push { cls := .type "dict", data := .dict #[] }) scope.names } := ⟨_, rfl⟩
  have pg := B.g s3 H3 s3.heap.objs.size (cellsFrom (s3.heap.objs.size + 1) scope.names (cloFrom X.env.cells scope.names [])) fp
  have pt := B.t s3 H3 s3.heap.objs.size (cellsFrom (s3.heap.objs.size + 1) scope.names (cloFrom X.env.cells scope.names [])) fp
  have pk := B.k s3 H3 s3.heap.objs.size (cellsFrom (s3.heap.objs.size + 1) scope.names (cloFrom X.env.cells scope.names [])) fp
  have pe := B.v s3 H3 s3.heap.objs.size (cellsFrom (s3.heap.objs.size + 1) scope.names (cloFrom X.env.cells scope.names [])) fp
  rw [← ece] at I4 pg pt pk pe
  have st4 : tn 0 s4.heap := T.keep _ _ _ st2 fun b _ o e => by
    rw [es4]
    exact pushCells_keeps _ _ _ _ (Heap.get?_push_of_some _ (kp3 b o e))
  have I5 : Inv (X.blk s3 H3 scope ce fp) [] (wipe σ (own.map (·.2))) H3 s4 := by
    rw [es4]
    exact I4
  -- what the walk's own objects are to the block
  have held : ∀ {σ' : L2.St} {H' : Hp} {s' : Shared}, Inv (X.blk s3 H3 scope ce fp) [] σ' H' s' → (∀ b ∈ fp, H' b = none) → ∀ b ∈ fp, FpOk (X.blk s3 H3 scope ce fp) [] H' b := fun {σ' H' s'} J' hn b hb =>
    ⟨hn b hb, (J'.ok.exf b hb).1, J'.ok.exfs b hb, .inl hb, fun x c e => (J'.ok.exf b hb).2 x c e, fun p hp => nomatch (show p ∈ ([] : List (Addr × Obj)) from hp)⟩
  have loop : codeAny (model X.prog X.w) X.A (.compLoop (.DictComp kx vx [⟨tg, iter, ifs, 0⟩] scope pos) 0 (.ref it) (.ref D) ce) (compPost (model X.prog X.w) X.A X.xe use Qf (.ref D) s3.heap.objs.size) s4 := by
    refine compLoop_anyD (fun n s' => ∃ i H', Inv (X.blk s3 H3 scope ce fp) [] (wipe σ (own.map (·.2))) H' s' ∧ tn i s'.heap ∧ (∀ b ∈ fp, H' b = none) ∧ W i n H') ?_ m0 ⟨0, H3, I5, st4, off, w0⟩
    rintro n s5 ⟨i, H5, J5, st5, n5, w5⟩
    rcases turn i n H5 w5 with ⟨stop, fin⟩ | ⟨go, Nx, less, step⟩
    · refine thnF (T.done (X.blk s3 H3 scope ce fp) rfl rfl rfl hc i [] s5 _ H5 (fun _ _ => False) J5 (held J5 n5) st5 stop) fun r s6 ⟨er, J6⟩ => ?_
      subst er
      have J7 : Inv X pins σ H5 s6 := I3.call' (ch := fp) J6.os J6.base J6.hok J6.bare fun b hb => ⟨(f3 b hb).1.2.2.2.1, (f3 b hb).1.2.1, (f3 b hb).1.2.2.2.2.1, (f3 b hb).1.2.2.2.2.2⟩
      have noC : H5 s3.heap.objs.size = none := by
        have z : H5 ce.locals = none := J6.free
        rw [ece] at z
        exact z
      obtain ⟨m, ns, _⟩ := J6.loc
      have ns' : s6.heap.Ns ce.locals m := ns
      rw [ece] at ns'
      exact out D s3.heap.objs.size s6 m H5 J7 fin ns' (I3.fpOk (Nat.le_refl _) noC)
    · refine thnF (T.item (X.blk s3 H3 scope ce fp) rfl rfl rfl hc i [] s5 _ H5 (fun _ _ => False) J5 (held J5 n5) st5 go) fun r s6 ⟨u, er, h6⟩ => ?_
      subst er
      refine thnF h6 fun _ s7 ⟨x, H7, J7, r7, y7, st7, n7⟩ => ?_
      refine thnF (pg.run _ s7 _ H7 x u _ (J7.pinned (held J7 n7) (T.obj _ _ st7)) r7 (step x H7 y7)) fun _ s8 ⟨σ8, H8, J8, ew, q8⟩ => ?_
      refine thnF (pt.run _ s8 σ8 H8 _ J8 q8) fun b s9 ⟨H9, J9, q9⟩ => ?_
      have again : ∀ {s' : Shared} {H' : Hp}, Inv (X.blk s3 H3 scope ce fp) ([] ++ pinsAt fp s7.heap) σ8 H' s' → Nx H' → ∃ m, m < n ∧ ∃ i H', Inv (X.blk s3 H3 scope ce fp) [] (wipe σ (own.map (·.2))) H' s' ∧ tn i s'.heap ∧ (∀ b ∈ fp, H' b = none) ∧ W i m H' := fun {s' H'} J' nx => by
        obtain ⟨m', lt, w'⟩ := less H' nx
        have still : ∀ b ∈ fp, ∀ o, s7.heap.get? b = some o → s'.heap.get? b = some o ∧ H' b = none := fun b hb o e => by
          have z := J'.pin (b, o) (List.mem_append_right _ (List.mem_append_right _ (mem_pinsAt hb e)))
          exact ⟨z.1, z.2.1⟩
        refine ⟨m', lt, i + 1, H', (J'.unpinned (pins := [])).weak (by rw [← ew, wipe_length]) (fun j v e => ?_), T.keep _ _ _ st7 fun b hb o e => (still b hb o e).1, fun b hb => ?_, w'⟩
        · rw [← ew] at e
          exact (wipe_some e).1
        · obtain ⟨o, e, _⟩ := T.obj _ _ st7 b hb
          exact (still b hb o e).2
      cases b with
      | false => exact again J9 q9
      | true =>
        refine thnF (pk.run _ s9 σ8 H9 _ J9 q9) fun z s10 ⟨yk, H10, J10, r10, q10⟩ => ?_
        refine thnF (pe.run _ s10 σ8 H10 _ J10 q10) fun z2 s11 ⟨yv, H11, J11, r11, H12, put, nx⟩ => ?_
        exact put_any (X := X.blk s3 H3 scope ce fp) hu J11 put r10 r11 fun s12 J12 => again J12 nx
  have start := codeAny_compStart_dict loop (T.self X.A 0 _ _ _ st4 loop)
  subst es4 ece es3 eD
  exact start
end
/-- {k: v for target in iter if ..} as a value, its keys of the kind t -/
theorem pe_dcA {t : Bool} {kx vx tg iter : Expr} {ifs : List Expr} {scope : Scope} {own : List (Str × Nat)} {pos : Pos} {wi : TI} {g : TG} {tt : TT} {tk tv : TE} (hu : X.A.units + 1 < cLine) (hc : X.calm = true) (hN : X.N.Nodup) (hi : PI X tg iter wi) (ok : BlkOk X.N X.env.scope scope own)
    (B : Blk X scope tg ifs kx vx g tt tk tv) (hs : ∀ x, foldedSetIterable iter X.env x = pure x := by intro _; rfl) : PE X (.DictComp kx vx [⟨tg, iter, ifs, 0⟩] scope pos) (tDcA t wi g tt tk tv (own.map (·.2))) := by
  refine ⟨fun pins s σ H Q I h => ?_⟩
  rw [arm_eval_DictComp]
  refine dcA_core hu hc hN I hi ok B hs h fun D C s' m H' J q hn f => ⟨m, hn, fun h'' only => ?_⟩
  obtain ⟨f0, f1, f2, f3, f4, f5⟩ := f
  exact ⟨.ref D, H', J.turned (t' := s'.toks) (fun b o hb e => (only.2 b hb).trans e) f0 f1 f3 f4 f5, rfl, q⟩
/-- .. over anything that is walked: Pv by the turn and the heap (the new dict at D within) -/
theorem dcA_it {J : It} {n : Nat} {G : Hp → Prop} {Y : Nat → Hp → V → Hp → Prop} (w : Walk J n G Y) {t : Bool} {g : TG} {tt : TT} {tk tv : TE} {vs : List Nat} {σ : L2.St} {H1 : Hp} {D : Addr} {Qd : Hp → Prop} (Pv : Nat → Hp → Prop) (h0 : Pv 0 (upd H1 D (mt t))) (hG : ∀ i H, i ≤ n → Pv i H → G H)
    (turn : ∀ i x H H', i < n → Pv i H → Y i H x H' → g x (wipe σ vs) H' fun σ2 H2 => wipe σ2 vs = wipe σ vs ∧ tt σ2 H2 fun b H3 =>
      if b = true then tk σ2 H3 fun y H4 => tv σ2 H4 fun z H5 => ∃ H6, DPut H5 D y z H6 ∧ Pv (i + 1) H6 else Pv (i + 1) H3) (hd : ∀ H, Pv n H → Qd H) :
    ∃ W : Nat → Nat → Hp → Prop, (∃ m, W 0 m (upd H1 D (mt t))) ∧ ∀ i m H, W i m H → (J.stop i H ∧ Qd H) ∨ (J.go i H ∧ ∃ Nx : Hp → Prop, (∀ H', Nx H' → ∃ m', m' < m ∧ W (i + 1) m' H') ∧ ∀ x H', J.yld i H x H' →
      g x (wipe σ vs) H' fun σ2 H2 => wipe σ2 vs = wipe σ vs ∧ tt σ2 H2 fun b H3 => if b = true then tk σ2 H3 fun y H4 => tv σ2 H4 fun z H5 => ∃ H6, DPut H5 D y z H6 ∧ Nx H6 else Nx H3) := by
  refine ⟨fun i m H => m = n - i ∧ i ≤ n ∧ Pv i H, ⟨n, (Nat.sub_zero n).symm, Nat.zero_le n, h0⟩, fun i m H ⟨em, le, p⟩ => ?_⟩
  rcases Nat.lt_or_ge i n with lt | ge
  · refine .inr ⟨w.goes i H lt (hG i H le p), Pv (i + 1), fun H' p' => ⟨n - (i + 1), by omega, rfl, lt, p'⟩, fun x H' y => turn i x H H' lt p (w.yields i H x H' lt (hG i H le p) y)⟩
  · obtain rfl : i = n := Nat.le_antisymm le ge
    exact .inl ⟨w.stops H (hG i H le p), hd H p⟩
end
end Dh

set_option Elab.async false
set_option linter.all false
set_option maxRecDepth 100000
set_option maxHeartbeats 2000000
/-! sorted of tuples of ints and texts: of a list, of a dict's keys. -/
namespace Dh
open PySem PySem.Spec PyProof.Rows L2
/-- a key as the sorts see it -/
def ik (k : List Key) : List (Int ⊕ List Nat) := k.map fun
  | .inl i => .inl i
  | .inr z => .inr z.cps.toList
/-- a key stands before another one -/
def kLt (a b : List Key) : Bool := PyProof.Rows.lexLt itemOrd (ik a) (ik b)
/-- where the texts stand -/
def Shaped (shape : Nat → Bool) (k : List Key) : Prop := ∀ i x, k[i]? = some x → shape i = x.isRight
theorem items_of_key {shape : Nat → Bool} : ∀ (k : List Key) (us : List Value) (n : Nat), Vals (k.map kV) us → (∀ i x, k[i]? = some x → shape (n + i) = x.isRight) → tupItems shape n us = some (ik k)
  | [], _, _, .nil, _ => rfl
  | x :: k, _, n, .cons (b := u) r t, h => by
    have h0 : shape n = x.isRight := h 0 x rfl
    have ih := items_of_key k _ (n + 1) t fun i y e => by
      have q := h (i + 1) y (by simpa using e)
      rw [show n + 1 + i = n + (i + 1) from by omega]
      exact q
    cases x with
    | inl i =>
      obtain ⟨tk, rfl⟩ := (show ∃ t, u = Value.int i t from r)
      have h1 : shape n = false := h0
      show (if shape n = true then none else (tupItems shape (n + 1) _).map (Sum.inl i :: ·)) = _
      rw [h1, if_neg Bool.false_ne_true, ih]
      rfl
    | inr z =>
      obtain ⟨tk, rfl⟩ := (show ∃ t, u = Value.str z t from r)
      have h1 : shape n = true := h0
      show (if shape n = true then (tupItems shape (n + 1) _).map (Sum.inr z.cps.toList :: ·) else none) = _
      rw [h1, if_pos rfl, ih]
      rfl
theorem swo_of {α : Type} (O : KeyOrd) (f : α → O.α) : SrtO.Swo fun x y => O.blt (f x) (f y) := by
  refine ⟨fun x y h => ?_, fun x y z h1 h2 => ?_⟩
  · cases q : O.blt (f y) (f x) with
    | false => rfl
    | true =>
      have := O.trans _ _ _ h q
      rw [O.irrefl] at this
      exact this.symm
  · cases q : O.blt (f z) (f x) with
    | false => rfl
    | true =>
      rcases O.negTrans (f z) (f y) (f x) q with e | e
      · exact e.symm.trans h2 |>.symm ▸ rfl
      · exact e.symm.trans h1 |>.symm ▸ rfl
theorem kLt_irrefl (k : List Key) : kLt k k = false := (listOrd itemOrd).irrefl _
theorem ik_inj : ∀ a b : List Key, ik a = ik b → a = b
  | [], [], _ => rfl
  | [], _ :: _, h => nomatch h
  | _ :: _, [], h => nomatch h
  | x :: a, y :: b, h => by
    have h1 := (List.cons.inj h).1
    have h2 := ik_inj a b (List.cons.inj h).2
    cases x with
    | inl i =>
      cases y with
      | inl j =>
        have e : i = j := Sum.inl.inj h1
        rw [e, h2]
      | inr z => exact nomatch h1
    | inr z =>
      cases y with
      | inl j => exact nomatch h1
      | inr z' =>
        have e : z.cps.toList = z'.cps.toList := Sum.inr.inj h1
        have e' : z = z' := by
          obtain ⟨⟨l⟩⟩ := z
          obtain ⟨⟨l'⟩⟩ := z'
          have e2 : l = l' := e
          rw [e2]
        rw [e', h2]
/-- two different keys stand one before the other -/
theorem kLt_total {a b : List Key} (h1 : kLt a b = false) (h2 : kLt b a = false) : a = b := ik_inj a b ((listOrd itemOrd).total _ _ h1 h2)
theorem perm_back {α β : Type} {f : α → β} {m l : List β} (p : m.Perm l) : ∀ L : List α, L.map f = m → ∃ L' : List α, L'.Perm L ∧ L'.map f = l := by
  induction p with
  | nil => exact fun L e => ⟨L, .refl _, e⟩
  | cons x p ih =>
    intro L e
    cases L with
    | nil => exact nomatch e
    | cons z L =>
      have e1 := (List.cons.inj e).1
      obtain ⟨L', q1, q2⟩ := ih L (List.cons.inj e).2
      exact ⟨z :: L', q1.cons z, by rw [List.map_cons, q2, e1]⟩
  | swap x y l =>
    intro L e
    match L, e with
    | z :: z' :: L, e =>
      have e1 := (List.cons.inj e).1
      have e2 := (List.cons.inj (List.cons.inj e).2).1
      have e3 := (List.cons.inj (List.cons.inj e).2).2
      exact ⟨z' :: z :: L, List.Perm.swap .., by rw [List.map_cons, List.map_cons, e1, e2, e3]⟩
  | trans p1 p2 ih1 ih2 =>
    intro L e
    obtain ⟨L1, q1, q2⟩ := ih1 L e
    obtain ⟨L2, q3, q4⟩ := ih2 L1 q2
    exact ⟨L2, q3.trans q1, q4⟩
/-- tuples that are keys, in a heap -/
structure Keyed (h : Heap) (shape : Nat → Bool) (L : List (Addr × List Key)) : Prop where
  at_ : ∀ p ∈ L, ∃ o us n, h.get? p.1 = some o ∧ o.cls = .type "tuple" ∧ o.data = .seq us n ∧ Vals (p.2.map kV) us.toList ∧ Shaped shape p.2
  full : 2 ≤ L.length → ∀ p ∈ L, p.2 ≠ []
def keyAt (h : Heap) (shape : Nat → Bool) (v : Value) : List (Int ⊕ List Nat) := (tupKey h shape v).getD []
theorem Keyed.key {h : Heap} {shape : Nat → Bool} {L : List (Addr × List Key)} (K : Keyed h shape L) {p : Addr × List Key} (hp : p ∈ L) : tupKey h shape (.ref p.1) = some (ik p.2) := by
  obtain ⟨o, us, n, ho, hc, hd, hv, hs⟩ := K.at_ p hp
  have e := items_of_key p.2 us.toList 0 hv fun i x q => by
    rw [Nat.zero_add]
    exact hs i x q
  simp only [tupKey, ho, hd]
  exact e
theorem Keyed.keeps {h h' : Heap} {shape : Nat → Bool} {L : List (Addr × List Key)} (K : Keyed h shape L) (k : ∀ b o, h.get? b = some o → o.cls = .type "tuple" → h'.get? b = some o) : Keyed h' shape L :=
  ⟨fun p hp => by
    obtain ⟨o, us, n, ho, hc, r⟩ := K.at_ p hp
    exact ⟨o, us, n, k _ _ ho hc, hc, r⟩, K.full⟩
section
variable {prog : Program} {w : World} {A : Around} {s : Shared}
theorem tups_of {h : Heap} {shape : Nat → Bool} : ∀ (L : List (Addr × List Key)), Keyed h shape L → (∀ p ∈ L, p.2 ≠ []) → ∃ fs, TupsOf h shape (L.map fun p => Value.ref p.1) fs ∧ fs.length = L.length
  | [], _, _ => ⟨[], .nil, rfl⟩
  | p :: L, K, ne => by
    have K' : Keyed h shape L := ⟨fun q hq => K.at_ q (List.mem_cons_of_mem _ hq), fun _ q hq => ne q (List.mem_cons_of_mem _ hq)⟩
    obtain ⟨fs, h1, h2⟩ := tups_of L K' fun q hq => ne q (List.mem_cons_of_mem _ hq)
    obtain ⟨o, us, n, ho, hc, hd, hv, hs⟩ := K.at_ p List.mem_cons_self
    obtain ⟨a, k⟩ := p
    cases k with
    | nil => exact absurd rfl (ne (a, []) List.mem_cons_self)
    | cons x k =>
      obtain ⟨l⟩ := us
      cases hv with
      | @cons _ u _ us' r t =>
        refine ⟨u :: fs, .cons ⟨a, o, _, n, rfl, ho, hc, hd, rfl, fun q => ?_, fun q => ?_⟩ h1, by rw [List.length_cons, List.length_cons, h2]⟩
        · have e := hs 0 x rfl
          rw [q] at e
          cases x with
          | inl i => exact ⟨i, r⟩
          | inr z => exact nomatch e
        · have e := hs 0 x rfl
          rw [q] at e
          cases x with
          | inl i => exact nomatch e
          | inr z => exact ⟨z, r⟩
theorem sortable {h : Heap} {shape : Nat → Bool} {L : List (Addr × List Key)} {a : Addr} {vs : List Value} (hvs : vs = L.map fun p => Value.ref p.1) (K : Keyed s.heap shape L) (h2 : 2 ≤ L.length) (ha : ∀ o, s.heap.get? a = some o → o.cls ≠ .type "tuple") (hk : ∀ p ∈ L, keyAt h shape (.ref p.1) = ik p.2) :
    SrtO.SortableO prog w A s a vs fun v u => PyProof.Rows.lexLt itemOrd (keyAt h shape v) (keyAt h shape u) := by
  subst hvs
  intro h' keep
  have K' : Keyed h' shape L := K.keeps fun b o e c => keep b o (fun z => by subst z; exact ha o e c) e
  obtain ⟨fs, f1, f2⟩ := tups_of L K' (K.full h2)
  refine ⟨tuples' true, fun Q E q => tup_kind (s := { s with heap := h' }) (by omega) f1 q, fun p q hp hq => ?_⟩
  obtain ⟨p', hp', e1⟩ := List.mem_map.mp hp
  obtain ⟨q', hq', e2⟩ := List.mem_map.mp hq
  rw [← e1, ← e2]
  refine tup_ltAt (s := { s with heap := h' }) true A _ _ _ (ik p'.2) (ik q'.2) (K'.key hp') (K'.key hq') ⟨rfl, ?_⟩
  rw [SrtO.lt2, ← e1, ← e2, hk p' hp', hk q' hq']
end
theorem sorted_back {h : Heap} {shape : Nat → Bool} {L : List (Addr × List Key)} {out : List Value} (hk : ∀ p ∈ L, keyAt h shape (.ref p.1) = ik p.2)
    (h1 : SrtO.Srtd (fun v u => PyProof.Rows.lexLt itemOrd (keyAt h shape v) (keyAt h shape u)) out) (h2 : SrtO.Stb (fun v u => PyProof.Rows.lexLt itemOrd (keyAt h shape v) (keyAt h shape u)) out (L.map fun p => Value.ref p.1)) :
    ∃ L' : List (Addr × List Key), L'.Perm L ∧ L'.Pairwise (fun q r => kLt r.2 q.2 = false) ∧ out = L'.map fun p => Value.ref p.1 := by
  obtain ⟨L', p1, p2⟩ := perm_back h2.perm.symm L rfl
  refine ⟨L', p1, ?_, p2.symm⟩
  rw [← p2] at h1
  have h3 := List.pairwise_map.mp h1
  refine List.Pairwise.imp_of_mem (fun {q r} hq hr e => ?_) h3
  have e' : PyProof.Rows.lexLt itemOrd (keyAt h shape (.ref r.1)) (keyAt h shape (.ref q.1)) = false := e
  rw [hk r (p1.mem_iff.mp hr), hk q (p1.mem_iff.mp hq)] at e'
  exact e'
section
variable {X : Cx}
/-- what sorted gives of tuples of ints and texts -/
def rSortK (K : W.Frag) : List V → Hp → VK → Prop := fun vs H Q => ∃ (a : Addr) (L : List (Addr × List Key)) (shape : Nat → Bool), vs = [V.ref a] ∧ SqL K H a (L.map fun p => V.ref p.1) ∧ (∀ p ∈ L, SqT K H p.1 (p.2.map kV) ∧ Shaped shape p.2) ∧ (2 ≤ L.length → ∀ p ∈ L, p.2 ≠ []) ∧
  ∀ (L' : List (Addr × List Key)) (p : Addr), L'.Perm L → L'.Pairwise (fun q r => kLt r.2 q.2 = false) → H p = none → Q (.ref p) (upd H p (.lst (L'.map fun q => V.ref q.1)))
theorem refs_vals : ∀ L : List (Addr × List Key), Vals (L.map fun p => V.ref p.1) (L.map fun p => Value.ref p.1)
  | [] => .nil
  | _ :: L => .cons rfl (refs_vals L)
theorem vals_uniq : ∀ (L : List (Addr × List Key)) (us : List Value), Vals (L.map fun p => V.ref p.1) us → us = L.map fun p => Value.ref p.1
  | [], _, .nil => rfl
  | p :: L, _, .cons (b := u) r t => by
    have e : u = Value.ref p.1 := r
    rw [e, vals_uniq L _ t, List.map_cons]
theorem keyed_of {pins : List (Addr × Obj)} {σ : L2.St} {H : Hp} {s : Shared} {L : List (Addr × List Key)} {shape : Nat → Bool} (I : Inv X pins σ H s) (hk : ∀ p ∈ L, SqT X.K H p.1 (p.2.map kV) ∧ Shaped shape p.2) (h2 : 2 ≤ L.length → ∀ p ∈ L, p.2 ≠ []) : Keyed s.heap shape L :=
  ⟨fun p hp => by
    obtain ⟨its, rv, ⟨o, ho, hc, n, hd⟩, _⟩ := I.tuple (hk p hp).1
    exact ⟨o, its.toArray, n, ho, hc, hd, by simpa using rv, (hk p hp).2⟩, h2⟩
theorem cr_sortK : CallR X (.builtin "sorted") (rSortK X.K) := by
  intro pins s σ H vs us Q I r h
  obtain ⟨a, L, shape, rfl, hs, hk, h2, q⟩ := h
  obtain ⟨its, rv, hl, hz⟩ := I.list hs
  obtain rfl := vals_uniq L its rv
  rw [Vals.ref1 r]
  have K := keyed_of I hk h2
  have ka : ∀ p ∈ L, keyAt s.heap shape (.ref p.1) = ik p.2 := fun p hp => by
    unfold keyAt
    rw [K.key hp]
    rfl
  refine SrtO.sorted_ord (swo_of (listOrd itemOrd) (keyAt s.heap shape)) hl.isList (by rw [← rv.length]; exact hz) (fun n2 h₁ b hb kk => ?_) fun out hs hb => ?_
  · rw [List.length_map] at n2
    refine sortable (s := { s with heap := h₁ }) rfl (K.keeps fun c o e _ => (kk c o e).2) n2 (fun o e => ?_) ka
    have e' : some o = some (seqObj "list" (L.map fun p => Value.ref p.1).toArray 0) := e.symm.trans hb
    cases e'
    intro c
    exact absurd (Value.type.inj c) (by decide)
  · obtain ⟨L', p1, p2, rfl⟩ := sorted_back ka hs hb
    obtain ⟨ep, at'⟩ := PyProof.Rows.sortedAll_at s.heap (L.map fun p => Value.ref p.1) (L'.map fun p => Value.ref p.1).toArray
    have len : (L'.map fun p => V.ref p.1).length ≤ sizeLine := by
      rw [List.length_map, p1.length_eq, ← List.length_map (f := fun p : Addr × List Key => V.ref p.1)]
      exact hz
    exact ⟨.ref _, upd H (s.heap.objs.size + 1) (.lst (L'.map fun p => V.ref p.1)), I.laid (t' := s.toks) (fun _ _ => PyProof.Rows.sortedAll_old) (Nat.le_succ _) ⟨len, _, ep, refs_vals L', at'⟩, rfl, q L' _ p1 p2 (I.hok.fresh (Nat.le_succ _))⟩
theorem kt_mem {H : Hp} : ∀ {kvs : List (List Key × V)} {xs : List (List Key × Addr × Value)}, KT H kvs xs → ∀ x ∈ xs, H x.2.1 = some (.tup (x.1.map kV)) ∧ ∃ k ∈ kvs, k.1 = x.1
  | _, _, .nil, _, h => nomatch h
  | p :: _, _, .cons (b := q) r t, x, h => by
    rcases List.mem_cons.mp h with rfl | h
    · exact ⟨by rw [← r.1]; exact r.2.1, p, List.mem_cons_self, r.1⟩
    · obtain ⟨h1, k, hk, e⟩ := kt_mem t x h
      exact ⟨h1, k, List.mem_cons_of_mem _ hk, e⟩
theorem kt_keys {H : Hp} : ∀ {kvs : List (List Key × V)} {xs : List (List Key × Addr × Value)}, KT H kvs xs → xs.map ((fun z : Addr × List Key => z.2) ∘ fun x => (x.2.1, x.1)) = kvs.map (·.1)
  | _, _, .nil => rfl
  | _ :: _, _, .cons r t => by
    rw [List.map_cons, List.map_cons, kt_keys t, r.1]
    rfl
/-- sorted(d), the keys of d tuples -/
def rSortD (K : W.Frag) : List V → Hp → VK → Prop := fun vs H Q => ∃ (a : Addr) (kvs : List (List Key × V)) (shape : Nat → Bool), vs = [V.ref a] ∧ Rd H a (.dT kvs) ∧ (∀ p ∈ kvs, Shaped shape p.1) ∧ (2 ≤ kvs.length → ∀ p ∈ kvs, p.1 ≠ []) ∧
  ∀ (L : List (Addr × List Key)) (p : Addr), (L.map (·.2)).Perm (kvs.map (·.1)) → (∀ z ∈ L, H z.1 = some (.tup (z.2.map kV))) → L.Pairwise (fun q r => kLt r.2 q.2 = false) → H p = none → Q (.ref p) (upd H p (.lst (L.map fun q => V.ref q.1)))
theorem cr_sortD (hc : X.calm = true) : CallR X (.builtin "sorted") (rSortD X.K) := by
  intro pins s σ H vs us Q I r h
  obtain ⟨a, kvs, shape, rfl, hd, hsh, h2, q⟩ := h
  rw [Vals.ref1 r]
  obtain ⟨z, nm, ks, pr, o, es, ep, ho, hx, hdt, he, hn⟩ := (show ObjOk X.prog X.w H s.heap a (.dT kvs) from hd.ok I.hok)
  have l1 : es.size = ks.length := size_of_entries he
  have l2 : kvs.length = ks.length := Paired.length pr
  obtain ⟨L, eL⟩ : ∃ L : List (Addr × List Key), L = ks.map fun x => (x.2.1, x.1) := ⟨_, rfl⟩
  have lL : L.length = ks.length := by rw [eL, List.length_map]
  have there : ∀ p ∈ L, H p.1 = some (.tup (p.2.map kV)) ∧ ∃ k ∈ kvs, k.1 = p.2 := fun p hp => by
    rw [eL] at hp
    obtain ⟨x, hxm, rfl⟩ := List.mem_map.mp hp
    exact kt_mem pr x hxm
  have same : L.map (·.2) = kvs.map (·.1) := by
    rw [eL, List.map_map]
    exact kt_keys pr
  have K := keyed_of (L := L) (shape := shape) I (fun p hp => ⟨.of (there p hp).1, by
    obtain ⟨k, hkm, e⟩ := (there p hp).2
    rw [← e]
    exact hsh k hkm⟩) fun n p hp => by
    obtain ⟨k, hkm, e⟩ := (there p hp).2
    rw [← e]
    exact h2 (by omega) k hkm
  have ka : ∀ p ∈ L, keyAt s.heap shape (.ref p.1) = ik p.2 := fun p hp => by
    unfold keyAt
    rw [K.key hp]
    rfl
  have zz : L.length ≤ sizeLine := by omega
  refine Calls.call_function_entry PyProof.Rows.kind_sorted PyProof.Rows.plain_sorted PyProof.Rows.entry_sorted (PyProof.Rows.args_sorted1 _) ?_
  unfold Builtin.«sorted»
  refine wpAny_bind (m := checkCount "sorted" 1 1 _) (wpAny_pure ?_)
  refine wpAny_bind (W.kdu_collect (A := X.A.in1) (kdl_raw nm hx hdt) (I.ok.hd hc) ho (by omega) fun h' tk acc kp it => ?_)
  have ea : acc.toList = L.map fun p => Value.ref p.1 := by
    rw [eL, List.map_map]
    refine List.ext_getElem? fun j => ?_
    rw [List.getElem?_map]
    rcases Nat.lt_or_ge j ks.length with lt | ge
    · have lt' : j < acc.toList.length := by rw [Array.length_toList, it.1, l1]; exact lt
      obtain ⟨en, hen, hv⟩ := it.2 j acc.toList[j] (by rw [← Array.getElem?_toList]; exact List.getElem?_eq_getElem lt')
      have qe := entry_at he j
      rw [hen, List.getElem?_eq_getElem lt] at qe
      rw [List.getElem?_eq_getElem lt', hv, Option.some.inj qe, List.getElem?_eq_getElem lt]
      rfl
    · rw [List.getElem?_eq_none (by rw [Array.length_toList, it.1, l1]; exact ge), List.getElem?_eq_none ge]
      rfl
  rw [ea]
  have I1 : Inv X pins σ H { s with heap := h', toks := tk } := I.kept kp
  refine wpAny_bind (wpAny_newList ?_ (by rw [List.length_map]; exact zz))
  obtain ⟨g, eg⟩ : ∃ g, g = h'.push (seqObj "list" (L.map fun p => Value.ref p.1).toArray 0) := ⟨_, rfl⟩
  have gL : g.get? h'.objs.size = some (seqObj "list" (L.map fun p => Value.ref p.1).toArray 0) := by
    rw [eg]
    exact Heap.get?_push_size _ rfl
  have gk : ∀ b o, s.heap.get? b = some o → g.get? b = some o := fun b o e => by
    rw [eg]
    exact Heap.get?_push_of_some _ (kp b o e)
  show wpAny _ _ _ _ _ { s with heap := h'.push (seqObj "list" (L.map fun p => Value.ref p.1).toArray 0), toks := tk }
  rw [← eg]
  refine wpAny_bind (wpAny_holding (wpAny_call_entry PyProof.Rows.slot_list_sort ⟨_, gL, rfl⟩ PyProof.Rows.entry_list_sort
    (SrtO.list_sort_ord (s := { s with heap := g, toks := tk }) (swo_of (listOrd itemOrd) (keyAt s.heap shape)) gL (by rw [List.length_map]; exact zz) (fun n2 => ?_) fun out hs hb => ⟨_, rfl, ?_⟩) (PyProof.Rows.args_list_sort _)))
  · rw [List.length_map] at n2
    refine sortable (s := { s with heap := g, toks := tk }) rfl (K.keeps fun c o e _ => gk c o e) n2 (fun o e => ?_) ka
    have e' : some o = some (seqObj "list" (L.map fun p => Value.ref p.1).toArray 0) := e.symm.trans gL
    cases e'
    intro c
    exact absurd (Value.type.inj c) (by decide)
  · obtain ⟨L', p1, p2, rfl⟩ := sorted_back ka hs hb
    obtain ⟨e', at'⟩ := PyProof.Rows.sortedHeap_at (vs := L.map fun p => Value.ref p.1) (out := (L'.map fun p => Value.ref p.1).toArray) gL
    have len : (L'.map fun p => V.ref p.1).length ≤ sizeLine := by
      rw [List.length_map, p1.length_eq]
      exact zz
    refine wpAny_pure ⟨_, rfl, .ref h'.objs.size, upd H h'.objs.size (.lst (L'.map fun p => V.ref p.1)), I1.laid (t' := tk) (fun b u e => ?_) (Nat.le_refl _) ⟨len, _, e', refs_vals L', at'⟩, rfl,
      q L' _ (same ▸ p1.map (·.2)) (fun y hy => (there y (p1.mem_iff.mp hy)).1) p2 (I1.hok.fresh (Nat.le_refl _))⟩
    have lt : b < h'.objs.size := Heap.lt_size e
    rw [PyProof.Rows.sortedHeap_old (Nat.ne_of_lt lt) (by rw [eg, size_push']; exact Nat.lt_succ_of_lt lt), eg]
    exact Heap.get?_push_of_some _ e
end
end Dh

set_option Elab.async false
set_option linter.all false
set_option maxRecDepth 100000
set_option maxHeartbeats 2000000
/-! dict(pairs), tuple(d), d.clear() of dicts with tuple keys. -/
namespace Dh
open PySem PySem.Spec PyProof.Rows L2
/-- tuple(d): its keys -/
theorem tuple_of {prog : Program} {w : World} {A : Around} {E : Value → Shared → Prop} {s : Shared} {r d : Addr} {n : Nat} {P : Nat → Value → Prop} {OK : Heap → Prop} {Q : Value → Shared → Prop} (S : W.KdlSrc prog w "dict" r d n P OK) (hh : A.handled = none) (ok : OK s.heap) (hn : n ≤ sizeLine)
    (h : ∀ (h' : Heap) (tk : Nat) (acc : Array Value), (∀ b o, s.heap.get? b = some o → h'.get? b = some o) → ItemsOf P acc n → Q (.ref h'.objs.size) { s with heap := h'.push { cls := .type "tuple", data := .seq acc }, toks := tk }) :
    wpAny (model prog w) A (call (.type "tuple") [.ref r]) Q E s := by
  have body : codeAny (model prog w) A.in1 (.call (.builtin "tuple.__new__") ⟨[.type "tuple", .ref r], []⟩) (wants (fun obj s₁ => s₁.TypeIs obj "tuple" ∧ Q obj s₁) E) s := by
    refine codeAny_of_tree ?_
    show wpAny _ A.in1.in1 (do checkBuiltinCall "tuple.__new__" ⟨[.type "tuple", .ref r], []⟩; again (.builtin "tuple.__new__" ⟨[.type "tuple", .ref r], []⟩)) _ _ s
    refine wpAny_bind (wpAny_of_eq (PySem.F.newCall_tuple_1 _) (wpAny_pure ⟨plainId_quiet PySem.F.plain_tuple_new _, codeAny_builtin PySem.F.entry_tuple_new ?_⟩))
    rw [Around.under_plainId PySem.F.plain_tuple_new _]
    have f1 := sub_tuple_self
    have f2 := init_tuple_lookup
    have f3 := madeHere_tuple
    have f4 : s.TypeIs (.ref r) "dict" := S.type s ok
    have f5 : A.in1.in1.handled = none := hh
    wp_walk using wpAny_typeOf f4, W.kdu_collect (A := A.in1.in1) S f5 ok hn
    intro h' tk acc hk hacc
    show wpAny _ _ (Builtin.Tuple.tupleExact acc.toList.toArray >>= fun v => ret v) _ _ _
    rw [Array.toArray_toList]
    unfold Builtin.Tuple.tupleExact
    exact wpAny_bind (wpAny_newObj_type (wpAny_pure ⟨⟨_, Heap.get?_push_size _ rfl, rfl⟩, h h' tk acc hk hacc⟩) (by show acc.size ≤ sizeLine; rw [hacc.1]; exact hn))
  refine callType_codes (Q₁ := fun obj s₁ => s₁.TypeIs obj "tuple" ∧ Q obj s₁) PySem.F.called_tuple (PySem.F.typeCall_tuple_1 _) PySem.F.entry_object_init body fun obj s₁ h₁ => ?_
  exact ⟨h₁.1, PySem.F.args_object_init_2 obj _, object_init_meets PySem.F.called_tuple.init.lookup PySem.F.called_tuple.made (by decide) prog w A.in1 _ s₁ ⟨h₁.1, rfl, h₁.2⟩⟩
/-- a pair that is to become an entry: where it stands, where its key stands, the key, the value -/
structure Pr where
  at_ : Addr
  kat : Addr
  key : List Key
  val : V
def Pr.ok (K : W.Frag) (H : Hp) (e : Pr) : Prop := SqT K H e.at_ [.ref e.kat, e.val] ∧ H e.kat = some (.tup (e.key.map kV))
/-- the entries one after the other, a later one wins -/
def mergeT (kvs more : List (List Key × V)) : List (List Key × V) := more.foldl (fun acc kv => putK acc kv.1 kv.2) kvs
theorem length_mergeT : ∀ (more kvs : List (List Key × V)), (mergeT kvs more).length ≤ kvs.length + more.length
  | [], _ => Nat.le_refl _
  | p :: r, kvs => by
    have h1 := length_mergeT r (putK kvs p.1 p.2)
    have h2 := length_putK kvs p.1 p.2
    rw [List.length_cons]
    exact Nat.le_trans h1 (by omega)
theorem kt_merge {H : Hp} : ∀ {more : List (List Key × V)} {ps : List (List Key × Addr × Value)} {kvs : List (List Key × V)} {xs : List (List Key × Addr × Value)}, KT H more ps → KT H kvs xs → KT H (mergeT kvs more) (storedAllH xs ps)
  | _, _, _, _, .nil, r => r
  | p :: m, _, _, _, .cons (b := q) h t, r => by
    obtain ⟨k, v⟩ := p
    obtain ⟨k', b, u⟩ := q
    obtain ⟨h1, h2, h3⟩ := h
    have e : k = k' := h1
    subst e
    show KT H (mergeT (putK _ k v) m) (storedAllH (storedH _ k b u) _)
    exact kt_merge t (r.put k h2 h3)
section
variable {X : Cx}
theorem pairs_vals {pins : List (Addr × Obj)} {σ : L2.St} {H : Hp} {s : Shared} (I : Inv X pins σ H s) : ∀ L : List Pr, (∀ e ∈ L, e.ok X.K H) → ∃ ps : List (List Key × Addr × Value), KT H (L.map fun e => (e.key, e.val)) ps ∧ ps.length = L.length ∧
    (∀ (j : Nat) (x : List Key × Addr × Value), ps[j]? = some x → ∃ e : Pr, L[j]? = some e ∧ x.2.1 = e.kat ∧ PairAt s.heap e.at_ (.ref e.kat) x.2.2) ∧ ∀ x ∈ ps, (tupleKind (mixKind X.prog X.w)).is s.heap x.1 x.2.1
  | [], _ => ⟨[], .nil, rfl, (fun _ _ h => nomatch h), (fun _ h => nomatch h)⟩
  | e :: L, h => by
    obtain ⟨ps, h1, h2, h3, h4⟩ := pairs_vals I L fun e he => h e (List.mem_cons_of_mem _ he)
    obtain ⟨ht, hk⟩ := h e List.mem_cons_self
    obtain ⟨its, rv, tp, _⟩ := I.tuple ht
    obtain ⟨u1, u2, rfl, r1, r2⟩ := vals2 rv
    cases r1
    refine ⟨(e.key, e.kat, u2) :: ps, .cons ⟨rfl, hk, r2⟩ h1, by rw [List.length_cons, List.length_cons, h2], fun j x hx => ?_, fun x hx => ?_⟩
    · cases j with
      | zero =>
        have q : (e.key, e.kat, u2) = x := Option.some.inj hx
        subst q
        exact ⟨e, rfl, rfl, .inl tp⟩
      | succ j =>
        obtain ⟨e', g1, g2, g3⟩ := h3 j x (by simpa using hx)
        exact ⟨e', by simpa using g1, g2, g3⟩
    · rcases List.mem_cons.mp hx with rfl | hx
      · exact key_of I.hok hk
      · exact h4 x hx
/-- dict(pairs), the keys tuples -/
def rDictP (K : W.Frag) : List V → Hp → VK → Prop := fun xs H Q => ∃ (a : Addr) (L : List Pr), xs = [.ref a] ∧ SqL K H a (L.map fun e => V.ref e.at_) ∧ (∀ e ∈ L, e.ok K H) ∧ ∀ p, H p = none → Q (.ref p) (upd H p (.dT (mergeT [] (L.map fun e => (e.key, e.val)))))
theorem call_dictPT (hc : X.calm = true) (hu : X.A.units + 64 < cLine) : CallR X (.type "dict") (rDictP X.K) := by
  intro pins s σ H xs us Q I r h
  obtain ⟨a, L, rfl, hs, hp, q⟩ := h
  rw [Vals.ref1 r]
  obtain ⟨its, rv, pl, hz⟩ := I.list hs
  rw [List.length_map] at hz
  obtain ⟨ps, k1, k2, k3, k4⟩ := pairs_vals I L hp
  have ei : its = L.map fun e => Value.ref e.at_ := by
    clear hs pl hz hp q k1 k2 k3 k4
    induction L generalizing its with
    | nil => cases rv; rfl
    | cons e L ih =>
      rw [List.map_cons] at rv
      cases rv with
      | cons r t =>
        rw [ih _ t, List.map_cons]
        exact congrArg (· :: _) r
  subst ei
  obtain ⟨vs, evs⟩ : ∃ vs : List (Value × Value), vs = ps.map fun x => (Value.ref x.2.1, x.2.2) := ⟨_, rfl⟩
  have lv : vs.length = L.length := by rw [evs, List.length_map, k2]
  have items : PairItems s.heap (L.map fun e => Value.ref e.at_).toArray (fun j => ((L[j]?).map (·.at_)).getD 0) vs := by
    refine ⟨by rw [List.size_toArray, List.length_map, lv], fun j k v hj => ?_⟩
    rw [evs, List.getElem?_map] at hj
    obtain ⟨x, hx, ex⟩ := Option.map_eq_some_iff.mp hj
    obtain ⟨e, g1, g2, g3⟩ := k3 j x hx
    cases ex
    have g4 : ((L[j]?).map (·.at_)).getD 0 = e.at_ := by
      rw [g1]
      rfl
    show _ = some (Value.ref (((L[j]?).map (·.at_)).getD 0)) ∧ PairAt s.heap (((L[j]?).map (·.at_)).getD 0) _ _
    rw [g4]
    refine ⟨?_, ?_⟩
    · show (L.map fun e => Value.ref e.at_).toArray[j]? = some (Value.ref e.at_)
      rw [List.getElem?_toArray, List.getElem?_map, g1]
      rfl
    · rw [g2]
      exact g3
  have room : (tupleKind (mixKind X.prog X.w)).room X.A.in1.in1 := by
    show X.A.units + 1 + 1 < cLine
    omega
  have lo : ¬ (s.heap.objs.size = sysModules) := Nat.ne_of_gt I.big
  refine call_dict_pairsH (knd := tupleKind (mixKind X.prog X.w)) (ps := ps) (PairArg.list (prog := X.prog) (w := X.w) a (L.map fun e => Value.ref e.at_).toArray (fun j => ((L[j]?).map (·.at_)).getD 0) vs) (I.ok.hd hc) room ⟨?_, items⟩ ⟨?_, fun i key v hrel => ?_⟩ (fun h' kk x hx => ?_) (by omega) fun h' tk hd' hk => ?_
  · obtain ⟨o, n, ho, hcl, hdd, hdat⟩ := pl
    exact ⟨o, n, ho, hcl, hdd, hdat⟩
  · rw [lv, k2]
  · have hrel' : vs[i]? = some (key, v) := hrel
    rw [evs, List.getElem?_map] at hrel'
    obtain ⟨x, hx, ex⟩ := Option.map_eq_some_iff.mp hrel'
    cases ex
    exact ⟨x.1, x.2.1, hx, rfl⟩
  · refine tupleKind_stays.stays (fun b o vs n e _ => kk b o (Nat.ne_of_lt (Heap.lt_size e)) (fun z => nomatch z) e) (k4 x hx)
  · have hm : (s.heap.objs.size == sysModules) = false := beq_eq_false_iff_ne.mpr lo
    have len : (mergeT [] (L.map fun e => (e.key, e.val))).length ≤ sizeLine := by
      have := length_mergeT (L.map fun e => (e.key, e.val)) []
      rw [List.length_map] at this
      exact Nat.le_trans this (by rw [List.length_nil, Nat.zero_add]; exact hz)
    have fresh : H s.heap.objs.size = none := I.hok.fresh (Nat.le_refl _)
    obtain ⟨o, es, ep, g1, g2, g3, g4, _, g5⟩ := hd'
    refine ⟨.ref s.heap.objs.size, upd H s.heap.objs.size (.dT (mergeT [] (L.map fun e => (e.key, e.val)))), I.laid (t' := tk) (fun b o e => hk b o (fun z => nomatch z) e) (Nat.le_refl _) ⟨len, hm, _, ?_, o, es, ep, g1, g2, g3, g4, g5⟩, rfl, q _ fresh⟩
    refine (kt_merge k1 .nil).keeps fun b ys e => ?_
    rw [upd_ne (ne_of_none e fresh)]
    exact e
/-- d.clear(), the keys of d tuples -/
def rClearT : V → List V → Hp → VK → Prop := fun x vs H Q => ∃ (a : Addr) (kvs : List (List Key × V)), x = .ref a ∧ vs = [] ∧ H a = some (.dT kvs) ∧ Q .non (upd H a (.dT []))
theorem mt_clearT : MtR X "dict.clear" rClearT := by
  intro pins s σ H x vs v us Q I rx rv h
  obtain ⟨a, kvs, rfl, rfl, e, q⟩ := h
  cases rx
  obtain rfl := rv.zero
  obtain ⟨z, nm, xs, rel, dd⟩ := dt_of I.hok e
  have lx : kvs.length = xs.length := Paired.length rel
  refine clear_keyed (knd := tupleKind (mixKind X.prog X.w)) (kvs := pairsH xs) ⟨xs, dd, rfl⟩ (fun h' dk only => ?_) (by rw [pairsH_length]; omega)
  obtain ⟨ys, dy, ey⟩ := dk
  have ny : ys = [] := by
    cases ys with
    | nil => rfl
    | cons y r => exact nomatch ey
  subst ny
  obtain ⟨o, es, ep, g1, g2, g3, g4, _, g5⟩ := dy
  exact ⟨.non, upd H a (.dT []), d_write (t' := s.toks) I (by rw [e]; exact True.intro) only ⟨o, g1⟩ ⟨Nat.zero_le _, nm, [], .nil, o, es, ep, g1, g2, g3, g4, g5⟩, rfl, q⟩
/-- tuple(d), list(d) of tuple keys: the keys, in their order -/
def rTupD : List V → Hp → VK → Prop := fun xs H Q => ∃ (a : Addr) (kvs : List (List Key × V)), xs = [.ref a] ∧ Rd H a (.dT kvs) ∧ ∀ p bs, H p = none → IsKeys H kvs bs → Q (.ref p) (upd H p (.tup (bs.map V.ref)))
theorem call_tupleD (hc : X.calm = true) : CallR X (.type "tuple") rTupD := by
  intro pins s σ H xs us Q I r h
  obtain ⟨a, kvs, rfl, hd, q⟩ := h
  rw [Vals.ref1 r]
  obtain ⟨z, nm, ks, pr, o, es, ep, ho, hx, hdt, he, hn⟩ := (show ObjOk X.prog X.w H s.heap a (.dT kvs) from hd.ok I.hok)
  have l1 : es.size = ks.length := size_of_entries he
  have l2 : kvs.length = ks.length := Paired.length pr
  refine tuple_of (kdl_raw nm hx hdt) (I.ok.hd hc) ho (by omega) fun h' tk acc kp it => ?_
  have ea : acc.toList = (ks.map fun x => x.2.1).map Value.ref := by
    rw [List.map_map]
    refine List.ext_getElem? fun j => ?_
    rw [List.getElem?_map]
    rcases Nat.lt_or_ge j ks.length with lt | ge
    · have lt' : j < acc.toList.length := by rw [Array.length_toList, it.1, l1]; exact lt
      obtain ⟨en, hen, hv⟩ := it.2 j acc.toList[j] (by rw [← Array.getElem?_toList]; exact List.getElem?_eq_getElem lt')
      have qe := entry_at he j
      rw [hen, List.getElem?_eq_getElem lt] at qe
      rw [List.getElem?_eq_getElem lt', hv, Option.some.inj qe, List.getElem?_eq_getElem lt]
      rfl
    · rw [List.getElem?_eq_none (by rw [Array.length_toList, it.1, l1]; exact ge), List.getElem?_eq_none ge]
      rfl
  have rv : Vals ((ks.map fun x => x.2.1).map V.ref) acc.toList := by
    rw [ea]
    exact vals_refs _
  have I1 : Inv X pins σ H { s with heap := h', toks := tk } := I.kept kp
  have len : ((ks.map fun x => x.2.1).map V.ref).length ≤ sizeLine := by
    rw [List.length_map, List.length_map]
    omega
  exact ⟨.ref h'.objs.size, upd H h'.objs.size (.tup ((ks.map fun x => x.2.1).map V.ref)), I1.laid (t' := tk) (fun b u e => Heap.get?_push_of_some _ e) (Nat.le_refl _) ⟨len, acc.toList, rv, ⟨_, Heap.get?_push_size _ rfl, rfl, 0, by simp⟩⟩, rfl, q _ _ (I1.hok.fresh (Nat.le_refl _)) (isKeys_of pr)⟩
end
end Dh

set_option Elab.async false
set_option linter.all false
set_option maxRecDepth 100000
set_option maxHeartbeats 4000000
/-! Values as data: their types, what isinstance says. -/
namespace An
open PySem PySem.Spec PyProof.Rows L2 Rp
mutual
/-- what is read as data, dicts within lists and tuples too -/
inductive Dq (K : PySem.W.Frag) (H : Hp) : V → PyData → Prop
  | non : Dq K H .non .none
  | bl (b : Bool) : Dq K H (.bl b) (.bool b)
  | int (i : Int) : Dq K H (.int i) (.int i)
  | str (x : Str) : Dq K H (.str x) (.str x)
  | lst {a : Addr} {xs : List V} {ds : List PyData} : SqL K H a xs → DqAll K H xs ds → Dq K H (.ref a) (.list ds)
  | tup {a : Addr} {xs : List V} {ds : List PyData} : SqT K H a xs → DqAll K H xs ds → Dq K H (.ref a) (.tuple ds)
  | dic {a : Addr} {ks : List (Key × V)} {ds : List (PyData × PyData)} : Rd H a (.dK ks) → Dq K H (.ref a) (.dict ds)
inductive DqAll (K : PySem.W.Frag) (H : Hp) : List V → List PyData → Prop
  | nil : DqAll K H [] []
  | cons {v : V} {vs : List V} {d : PyData} {ds : List PyData} : Dq K H v d → DqAll K H vs ds → DqAll K H (v :: vs) (d :: ds)
end
theorem DqAll.len {K : PySem.W.Frag} {H : Hp} : ∀ {vs : List V} {ds : List PyData}, DqAll K H vs ds → vs.length = ds.length
  | _, _, .nil => rfl
  | _, _, .cons _ t => congrArg (· + 1) (DqAll.len t)
mutual
theorem q_of {K : PySem.W.Frag} {H : Hp} : ∀ (d : PyData) (v : V), Rp.Dat K H v d → Dq K H v d
  | _, _, .non => .non
  | _, _, .bl b => .bl b
  | _, _, .int i => .int i
  | _, _, .str x => .str x
  | _, _, .lst (ds := ds) hs ha _ => .lst hs (qs_of ds _ ha)
  | _, _, .tup (ds := ds) hs ha _ => .tup hs (qs_of ds _ ha)
  | _, _, .dic hs _ _ => .dic hs
theorem qs_of {K : PySem.W.Frag} {H : Hp} : ∀ (ds : List PyData) (vs : List V), Rp.DatAll K H vs ds → DqAll K H vs ds
  | _, _, .nil => .nil
  | _, _, .cons h t => .cons (q_of _ _ h) (qs_of _ _ t)
end
theorem _root_.Rp.Dat.q {K : PySem.W.Frag} {H : Hp} {v : V} {d : PyData} (h : Rp.Dat K H v d) : Dq K H v d := q_of _ _ h
theorem _root_.Rp.DatAll.q {K : PySem.W.Frag} {H : Hp} {vs : List V} {ds : List PyData} (h : Rp.DatAll K H vs ds) : DqAll K H vs ds := qs_of _ _ h
def tyD : PyData → String
  | .none => "NoneType"
  | .bool _ => "bool"
  | .int _ => "int"
  | .str _ => "str"
  | .list _ => "list"
  | .tuple _ => "tuple"
  | .dict _ => "dict"
section
variable {K : PySem.W.Frag} {H : Hp} {v : V} {d : PyData}
theorem dat_ty (h : Dq K H v d) : TyX K H v (.type (tyD d)) := by
  cases h with
  | non => exact .base .non
  | bl b => exact .base (.bl b)
  | int i => exact .base (.int i)
  | str x => exact .base (.str x)
  | lst q _ =>
    rcases q with (q | ⟨o, q⟩) | ⟨o, its, n, q1, q2, _⟩
    · exact .base (.lst q)
    · exact .base (.frz q)
    · exact .kList q1 q2
  | tup q _ =>
    rcases q with (q | ⟨o, q⟩) | ⟨o, its, n, q1, q2, _⟩
    · exact .base (.tup q)
    · exact .fTuple q
    · exact .kTuple q1 q2
  | dic q =>
    rcases q with q | ⟨o, q⟩
    · exact .base (.dK q)
    · exact .fDict q
def isStr : PyData → Bool
  | .str _ => true
  | _ => false
def isIntB : PyData → Bool
  | .int _ => true
  | .bool _ => true
  | _ => false
def isBool : PyData → Bool
  | .bool _ => true
  | _ => false
def isTup : PyData → Bool
  | .tuple _ => true
  | _ => false
def isDict : PyData → Bool
  | .dict _ => true
  | _ => false
theorem kit_str (d : PyData) : PySem.W.kitOne K (.type (tyD d)) (.type "str") = some (isStr d) := by
  cases d with
  | none => exact kit_ty (a := "NoneType") (b := "str") (r := false) (by decide +kernel)
  | bool _ => exact kit_ty (a := "bool") (b := "str") (r := false) (by decide +kernel)
  | int _ => exact kit_ty (a := "int") (b := "str") (r := false) (by decide +kernel)
  | str _ => exact kit_ty (a := "str") (b := "str") (r := true) (by decide +kernel)
  | list _ => exact kit_ty (a := "list") (b := "str") (r := false) (by decide +kernel)
  | tuple _ => exact kit_ty (a := "tuple") (b := "str") (r := false) (by decide +kernel)
  | dict _ => exact kit_ty (a := "dict") (b := "str") (r := false) (by decide +kernel)
theorem kit_int (d : PyData) : PySem.W.kitOne K (.type (tyD d)) (.type "int") = some (isIntB d) := by
  cases d with
  | none => exact kit_ty (a := "NoneType") (b := "int") (r := false) (by decide +kernel)
  | bool _ => exact kit_ty (a := "bool") (b := "int") (r := true) (by decide +kernel)
  | int _ => exact kit_ty (a := "int") (b := "int") (r := true) (by decide +kernel)
  | str _ => exact kit_ty (a := "str") (b := "int") (r := false) (by decide +kernel)
  | list _ => exact kit_ty (a := "list") (b := "int") (r := false) (by decide +kernel)
  | tuple _ => exact kit_ty (a := "tuple") (b := "int") (r := false) (by decide +kernel)
  | dict _ => exact kit_ty (a := "dict") (b := "int") (r := false) (by decide +kernel)
theorem kit_bool (d : PyData) : PySem.W.kitOne K (.type (tyD d)) (.type "bool") = some (isBool d) := by
  cases d with
  | none => exact kit_ty (a := "NoneType") (b := "bool") (r := false) (by decide +kernel)
  | bool _ => exact kit_ty (a := "bool") (b := "bool") (r := true) (by decide +kernel)
  | int _ => exact kit_ty (a := "int") (b := "bool") (r := false) (by decide +kernel)
  | str _ => exact kit_ty (a := "str") (b := "bool") (r := false) (by decide +kernel)
  | list _ => exact kit_ty (a := "list") (b := "bool") (r := false) (by decide +kernel)
  | tuple _ => exact kit_ty (a := "tuple") (b := "bool") (r := false) (by decide +kernel)
  | dict _ => exact kit_ty (a := "dict") (b := "bool") (r := false) (by decide +kernel)
theorem kit_tup (d : PyData) : PySem.W.kitOne K (.type (tyD d)) (.type "tuple") = some (isTup d) := by
  cases d with
  | none => exact kit_ty (a := "NoneType") (b := "tuple") (r := false) (by decide +kernel)
  | bool _ => exact kit_ty (a := "bool") (b := "tuple") (r := false) (by decide +kernel)
  | int _ => exact kit_ty (a := "int") (b := "tuple") (r := false) (by decide +kernel)
  | str _ => exact kit_ty (a := "str") (b := "tuple") (r := false) (by decide +kernel)
  | list _ => exact kit_ty (a := "list") (b := "tuple") (r := false) (by decide +kernel)
  | tuple _ => exact kit_ty (a := "tuple") (b := "tuple") (r := true) (by decide +kernel)
  | dict _ => exact kit_ty (a := "dict") (b := "tuple") (r := false) (by decide +kernel)
theorem kit_dict (d : PyData) : PySem.W.kitOne K (.type (tyD d)) (.type "dict") = some (isDict d) := by
  cases d with
  | none => exact kit_ty (a := "NoneType") (b := "dict") (r := false) (by decide +kernel)
  | bool _ => exact kit_ty (a := "bool") (b := "dict") (r := false) (by decide +kernel)
  | int _ => exact kit_ty (a := "int") (b := "dict") (r := false) (by decide +kernel)
  | str _ => exact kit_ty (a := "str") (b := "dict") (r := false) (by decide +kernel)
  | list _ => exact kit_ty (a := "list") (b := "dict") (r := false) (by decide +kernel)
  | tuple _ => exact kit_ty (a := "tuple") (b := "dict") (r := false) (by decide +kernel)
  | dict _ => exact kit_ty (a := "dict") (b := "dict") (r := true) (by decide +kernel)
/-- isinstance of a datum -/
theorem isi_dat {Q : VK} {c : V} {cv : Value} {b : Bool} (h : Dq K H v d) (hc : ClsV c cv) (k : PySem.W.kitOne K (.type (tyD d)) cv = some b) (q : Q (.bl b) H) : rIsi K [v, c] H Q :=
  ⟨v, c, _, cv, b, rfl, hc, dat_ty h, k, q⟩
theorem dat_str (h : Dq K H v d) (e : isStr d = true) : ∃ z, v = .str z ∧ d = .str z := by
  cases h <;> first | exact ⟨_, rfl, rfl⟩ | cases e
theorem dat_int (h : Dq K H v d) (e : isIntB d = true) (n : isBool d = false) : ∃ i, v = .int i ∧ d = .int i := by
  cases h <;> first | exact ⟨_, rfl, rfl⟩ | exact Bool.noConfusion (show false = true from e) | exact Bool.noConfusion (show true = false from n)
theorem dat_tup (h : Dq K H v d) (e : isTup d = true) : ∃ a xs ds, v = .ref a ∧ d = .tuple ds ∧ SqT K H a xs ∧ DqAll K H xs ds := by
  cases h <;> first | exact ⟨_, _, _, rfl, rfl, ‹_›, ‹_›⟩ | cases e
theorem datAll_get : ∀ {vs : List V} {ds : List PyData}, DqAll K H vs ds → ∀ {i : Nat} {x : V}, vs[i]? = some x → ∃ y, ds[i]? = some y ∧ Dq K H x y
  | _, _, .nil, i, x, h => by cases h
  | _, _, .cons r t, 0, x, h => by
    have e := Option.some.inj h
    subst e
    exact ⟨_, rfl, r⟩
  | _, _, .cons r t, i + 1, x, h => datAll_get t h
end
/-! what a program's own tests say of data -/
def B60 : Int := 10 ^ 60
def isNumD : PyData → Bool
  | .int _ => true
  | _ => false
def isIntD : PyData → Bool
  | .int i => decide (-B60 < i) && decide (i < B60)
  | _ => false
def areIntsD : PyData → Bool
  | .tuple xs => xs.all isIntD
  | _ => false
def lenD : PyData → Nat
  | .tuple xs => xs.length
  | _ => 0
def isRowD (d : PyData) : Bool := areIntsD d && (decide (1 ≤ lenD d) && decide (lenD d ≤ 4))
def isHeadD (d : PyData) : Bool := areIntsD d && decide (lenD d ≤ 3)
def nameS (z : Str) : Bool := !decide (z.length > 8) && (Txt.isascii z && (Txt.isalpha z && Txt.islower z))
def isNameD : PyData → Bool
  | .str z => nameS z
  | _ => false
def forms : List Str := ["distinct", "count", "sum"]
def isFormD : PyData → Bool
  | .str z => decide (z ∈ forms)
  | _ => false
/-- a test of one datum -/
def spIs (f : PyData → Bool) (K : PySem.W.Frag) : Sp := fun vs H Q _ => ∃ v d, vs = [v] ∧ Dq K H v d ∧ Q (.bl (f d)) H
end An
namespace An
open PySem PySem.Spec PyProof.Rows L2 Rp
/-- a text that is not too long -/
def shortD : PyData → Bool
  | .str z => decide (z.length ≤ 1000)
  | _ => true
def spName (K : PySem.W.Frag) : Sp := fun vs H Q _ => ∃ v d, vs = [v] ∧ Dq K H v d ∧ shortD d = true ∧ Q (.bl (isNameD d)) H
end An

namespace An
open PySem PySem.Spec PyProof.Rows L2 Rp
abbrev rLenR (K : PySem.W.Frag) : List V → Hp → VK → Prop := fun xs H Q => ∃ x n, xs = [x] ∧ LenV K x H n ∧ Q (.int (n : Nat)) H
end An

namespace An
open PySem PySem.Spec PyProof.Rows L2 Rp
/-- a datum, or something else that is no tuple (as data: None) -/
def ArgD (K : PySem.W.Frag) (H : Hp) (v : V) (d : PyData) : Prop := Dq K H v d ∨ (d = .none ∧ ∃ t, TyX K H v t ∧ PySem.W.kitOne K t (.type "tuple") = some false)
theorem ArgD.tup {K : PySem.W.Frag} {H : Hp} {v : V} {d : PyData} (h : ArgD K H v d) : ∃ t, TyX K H v t ∧ PySem.W.kitOne K t (.type "tuple") = some (isTup d) := by
  rcases h with h | ⟨rfl, t, h1, h2⟩
  · exact ⟨_, dat_ty h, kit_tup d⟩
  · exact ⟨t, h1, h2⟩
theorem ArgD.dat {K : PySem.W.Frag} {H : Hp} {v : V} {d : PyData} (h : ArgD K H v d) (e : isTup d = true) : Dq K H v d := by
  rcases h with h | ⟨rfl, _⟩
  · exact h
  · cases e
def spArg (f : PyData → Bool) (K : PySem.W.Frag) : Sp := fun vs H Q _ => ∃ v d, vs = [v] ∧ ArgD K H v d ∧ Q (.bl (f d)) H
end An
namespace An
open PySem PySem.Spec PyProof.Rows L2 Rp
/-- all but the tables of code objects stays -/
def Ext (H H1 : Hp) : Prop := ∀ b o, H b = some o → (∀ ps, o ≠ .tbl ps) → H1 b = some o
theorem Ext.refl (H : Hp) : Ext H H := fun _ _ h _ => h
theorem Ext.trans {H H1 H2 : Hp} (a : Ext H H1) (b : Ext H1 H2) : Ext H H2 := fun c o h n => b c o (a c o h n) n
theorem Ext.of {H H1 : Hp} (S : Same H H1) : Ext H H1 := fun b o h _ => S b o h
section
variable {K : PySem.W.Frag} {H H1 : Hp} {p : Addr}
theorem Ext.lst {xs : List V} (S : Ext H H1) (h : H p = some (.lst xs)) : H1 p = some (.lst xs) := S _ _ h (fun _ z => nomatch z)
theorem Ext.tup {xs : List V} (S : Ext H H1) (h : H p = some (.tup xs)) : H1 p = some (.tup xs) := S _ _ h (fun _ z => nomatch z)
theorem Ext.dT {xs : List (List Key × V)} (S : Ext H H1) (h : H p = some (.dT xs)) : H1 p = some (.dT xs) := S _ _ h (fun _ z => nomatch z)
theorem Ext.ins {C dx : Addr} {fs : List (Str × V)} (S : Ext H H1) (h : H p = some (.ins C dx fs)) : H1 p = some (.ins C dx fs) := S _ _ h (fun _ z => nomatch z)
theorem Ext.rd {o : HO} (S : Ext H H1) (n : ∀ ps, o ≠ .tbl ps) (h : Rd H p o) : Rd H1 p o := by
  rcases h with h | ⟨u, h⟩
  · exact .inl (S _ _ h n)
  · exact .inr ⟨u, S _ _ h (fun _ z => nomatch z)⟩
theorem Ext.sqL {xs : List V} (S : Ext H H1) (h : SqL K H p xs) : SqL K H1 p xs := h.imp (S.rd (fun _ z => nomatch z)) id
theorem Ext.sqT {xs : List V} (S : Ext H H1) (h : SqT K H p xs) : SqT K H1 p xs := h.imp (S.rd (fun _ z => nomatch z)) id
mutual
theorem dat_ext (S : Ext H H1) : ∀ (d : PyData) (v : V), Dat K H v d → Dat K H1 v d
  | _, _, .non => .non
  | _, _, .bl b => .bl b
  | _, _, .int i => .int i
  | _, _, .str x => .str x
  | _, _, .lst (ds := ds) hs ha hn => .lst (S.sqL hs) (dats_ext S ds _ ha) hn
  | _, _, .tup (ds := ds) hs ha hn => .tup (S.sqT hs) (dats_ext S ds _ ha) hn
  | _, _, .dic (ds := ds) hs ha hn => .dic (S.rd (fun _ z => nomatch z) hs) (dats_ext S ds _ ha) hn
theorem dats_ext (S : Ext H H1) : ∀ (ds : List PyData) (vs : List V), DatAll K H vs ds → DatAll K H1 vs ds
  | _, _, .nil => .nil
  | _, _, .cons h t => .cons (dat_ext S _ _ h) (dats_ext S _ _ t)
end
theorem dat_same (S : Same H H1) {d : PyData} {v : V} (h : Dat K H v d) : Dat K H1 v d := dat_ext (.of S) _ _ h
theorem dats_same (S : Same H H1) {ds : List PyData} {vs : List V} (h : DatAll K H vs ds) : DatAll K H1 vs ds := dats_ext (.of S) _ _ h
mutual
theorem dq_ext (S : Ext H H1) : ∀ (d : PyData) (v : V), Dq K H v d → Dq K H1 v d
  | .none, _, h => by
    cases h
    exact .non
  | .bool b, _, h => by
    cases h
    exact .bl b
  | .int i, _, h => by
    cases h
    exact .int i
  | .str x, _, h => by
    cases h
    exact .str x
  | .list ds, _, h => by
    cases h with
    | lst hs ha => exact .lst (S.sqL hs) (dqs_ext S ds _ ha)
  | .tuple ds, _, h => by
    cases h with
    | tup hs ha => exact .tup (S.sqT hs) (dqs_ext S ds _ ha)
  | .dict ds, _, h => by
    cases h with
    | dic hs => exact .dic (S.rd (fun _ z => nomatch z) hs)
theorem dqs_ext (S : Ext H H1) : ∀ (ds : List PyData) (vs : List V), DqAll K H vs ds → DqAll K H1 vs ds
  | [], _, h => by
    cases h
    exact .nil
  | d :: ds, _, h => by
    cases h with
    | cons h t => exact .cons (dq_ext S d _ h) (dqs_ext S ds _ t)
end
theorem dq_same (S : Same H H1) {d : PyData} {v : V} (h : Dq K H v d) : Dq K H1 v d := dq_ext (.of S) _ _ h
theorem dqs_same (S : Same H H1) {ds : List PyData} {vs : List V} (h : DqAll K H vs ds) : DqAll K H1 vs ds := dqs_ext (.of S) _ _ h
end
end An

set_option Elab.async false
set_option linter.all false
set_option maxRecDepth 100000
set_option maxHeartbeats 4000000
/-! len(set(xs)), xs a list of ints, perhaps repeated. -/
namespace SL
open PySem PySem.Spec PyProof.Rows L2
/-- the different ints, as they first come -/
def dist (ns : List Int) : List Int := ns.foldl step_dedup []
theorem firstMet_all (ns : List Int) : firstMet (fun i => ns.getD i 0) ns.length = dist ns := by
  unfold firstMet dist
  congr 1
  refine List.ext_getElem (by simp) fun i h1 h2 => ?_
  rw [List.getElem_map, List.getElem_range, List.getD_eq_getElem?_getD, List.getElem?_eq_getElem h2]
  rfl
theorem mem_dist (x : Int) : ∀ (ns acc : List Int), x ∈ ns.foldl step_dedup acc ↔ x ∈ acc ∨ x ∈ ns
  | [], acc => by simp
  | n :: ns, acc => by
    rw [List.foldl_cons, mem_dist x ns]
    unfold step_dedup
    by_cases h : (acc.any (· == n)) = true
    · rw [if_pos h]
      obtain ⟨y, hy, e⟩ := List.any_eq_true.mp h
      have e2 : y = n := eq_of_beq e
      subst e2
      constructor
      · rintro (q | q)
        · exact .inl q
        · exact .inr (List.mem_cons_of_mem _ q)
      · rintro (q | q)
        · exact .inl q
        · rcases List.mem_cons.mp q with rfl | q
          · exact .inl hy
          · exact .inr q
    · rw [if_neg h]
      simp only [List.mem_append, List.mem_singleton, List.mem_cons, List.not_mem_nil, or_false]
      constructor
      · rintro ((q | q) | q)
        · exact .inl q
        · exact .inr (.inl q)
        · exact .inr (.inr q)
      · rintro (q | q | q)
        · exact .inl (.inl q)
        · exact .inl (.inr q)
        · exact .inr q
theorem dedup_nd : ∀ (ns acc : List Int), acc.Nodup → (ns.foldl step_dedup acc).Nodup
  | [], _, h => h
  | n :: ns, acc, h => by
    rw [List.foldl_cons]
    refine dedup_nd ns _ ?_
    unfold step_dedup
    by_cases q : (acc.any (· == n)) = true
    · rw [if_pos q]
      exact h
    · rw [if_neg q]
      refine List.nodup_append.mpr ⟨h, List.nodup_cons.mpr ⟨by simp, List.nodup_nil⟩, fun a ha b hb e => ?_⟩
      have hb' : b = n := by simpa using hb
      subst hb'
      subst e
      exact q (List.any_eq_true.mpr ⟨a, ha, beq_self_eq_true a⟩)
theorem dist_nd (ns : List Int) : (dist ns).Nodup := dedup_nd ns [] List.nodup_nil
theorem dist_mem {ns : List Int} {x : Int} : x ∈ dist ns ↔ x ∈ ns := by
  unfold dist
  rw [mem_dist]
  simp
/-- at most one int -/
theorem dist_one (ns : List Int) : (dist ns).length ≤ 1 ↔ ∀ a ∈ ns, ∀ b ∈ ns, a = b := by
  have nd := dist_nd ns
  constructor
  · intro h a ha b hb
    rw [← dist_mem] at ha hb
    match dist ns, h, ha, hb with
    | [x], _, ha, hb => rw [List.mem_singleton.mp ha, List.mem_singleton.mp hb]
  · intro h
    have q : ∀ a ∈ dist ns, ∀ b ∈ dist ns, a = b := fun a ha b hb => h a (dist_mem.mp ha) b (dist_mem.mp hb)
    match dist ns, nd, q with
    | [], _, _ => exact Nat.zero_le _
    | [x], _, _ => exact Nat.le_refl _
    | x :: y :: r, nd, q =>
      have e : x = y := q x List.mem_cons_self y (List.mem_cons_of_mem _ List.mem_cons_self)
      subst e
      exact absurd List.mem_cons_self (List.nodup_cons.mp nd).1
def tLenSetD (K : PySem.W.Frag) (ta : TE) : TE := fun σ H Q => ta σ H fun x H1 => ∃ (l : Addr) (ns : List Int), x = .ref l ∧ SqL K H1 l (ns.map V.int) ∧ ns.length ≤ 4000 ∧ Q (.int ((dist ns).length : Nat)) H1
theorem pe_lenSetD {X : Cx} {a : Expr} {ta : TE} {p p2 q pos : Pos} (hg : Gl X "len") (hm : X.mg "len" = none) (hg2 : Gl X "set") (hm2 : X.mg "set" = none) (ha : PE X a ta) (hc : X.calm = true := by rfl)
    (na : starEach [a] X.env = (false, eval a X.env) :: starEach [] X.env := by rfl) : PE X (.Call (.Name "len" p) [.Call (.Name "set" p2) [a] [] q] [] pos) (tLenSetD X.K ta) := by
  refine ⟨fun pins s σ H Q I h => ?_⟩
  refine Call_ (ld_blt I hg hm boot_len ?_)
  refine PyProof.Rows.callWith_builtin1 (PyProof.Rows.args_cons ?_ rfl) rfl rfl
  refine Call_ (ld_blt I hg2 hm2 boot_set ?_)
  refine PyProof.Rows.callWith_type1 (PyProof.Rows.args_cons (thn (ha.run pins s σ H _ I h) fun v s1 ⟨x, H1, I1, r1, q1⟩ => PyProof.Rows.args_nil ?_) na) na rfl
  obtain ⟨l, ns, rfl, hq, hl, q1⟩ := q1
  cases r1
  obtain ⟨its, r, pl, hz⟩ := I1.list hq
  have hlen : its.toArray.size = ns.length := by rw [List.size_toArray, ← r.length, List.length_map]
  refine call_set_list (I1.ok.hd hc) pl.isList (by simpa using RZ.intsAre_vals r) (by rw [hlen]; unfold scanBound; omega) fun h' tk hS hk => ?_
  refine PyProof.Rows.args_nil ?_
  rw [hlen, firstMet_all] at hS
  obtain ⟨o, es, ep, t, ho, hex, hd, _, _, _, hf, hn⟩ := hS
  have I2 : Inv X pins σ H1 { s1 with heap := h', toks := tk } := I1.kept fun b o e => hk b o (Heap.lt_size e) e
  have le : (dist ns).length ≤ ns.length := by
    rw [← firstMet_all]
    exact firstMet_length_le _ _
  exact call_len_set ho hex hd hf (by rw [hn] <;> omega) ⟨.int (dist ns).length, H1, I2.tok _, ⟨_, by rw [hn]⟩, q1⟩
end SL

set_option Elab.async false
set_option linter.all false
set_option maxRecDepth 100000
set_option maxHeartbeats 2000000
/-! Names: texts of small letters. -/
namespace An
open PySem PySem.Spec PyProof.Rows L2 Rp
def low (c : Nat) : Prop := 97 ≤ c ∧ c ≤ 122
def bads : Str := "ABCXYZ0189_- .,\n\t"
theorem low_all : ∀ c < 123, 97 ≤ c → (decide (c < 128) && Unicode.isAlpha c && Unicode.isLower c && !(Unicode.isUpper c || Unicode.isTitle c)) = true := by decide +kernel
theorem bad_all : ∀ c ∈ bads.cps.toList, (Unicode.isAlpha c && !(Unicode.isUpper c || Unicode.isTitle c)) = false := by decide +kernel
theorem low_is {c : Nat} (h : low c) : c < 128 ∧ Unicode.isAlpha c = true ∧ Unicode.isLower c = true ∧ (Unicode.isUpper c || Unicode.isTitle c) = false := by
  have q := low_all c (by unfold low at h; omega) h.1
  simp only [Bool.and_eq_true, decide_eq_true_eq, Bool.not_eq_true'] at q
  exact ⟨q.1.1.1, q.1.1.2, q.1.2, q.2⟩
theorem nameS_low {cs : List Nat} (h1 : 1 ≤ cs.length) (h2 : cs.length ≤ 8) (lo : ∀ c ∈ cs, low c) : nameS (SX.S cs) = true := by
  unfold nameS Txt.isascii Txt.isalpha Txt.islower
  rw [SX.S_len]
  simp only [List.all_toArray, List.any_toArray]
  have e1 : (!decide (cs.length > 8)) = true := by simp; omega
  have e2 : (cs.all fun c => decide (c < 128)) = true := List.all_eq_true.mpr fun c hc => decide_eq_true (low_is (lo c hc)).1
  have e3 : cs.all Unicode.isAlpha = true := List.all_eq_true.mpr fun c hc => (low_is (lo c hc)).2.1
  have e4 : cs.any Unicode.isLower = true := by
    match cs, h1, lo with
    | c :: r, _, lo => exact List.any_eq_true.mpr ⟨c, List.mem_cons_self, (low_is (lo c List.mem_cons_self)).2.2.1⟩
  have e5 : (cs.any fun c => Unicode.isUpper c || Unicode.isTitle c) = false := by
    rw [List.any_eq_false]
    intro c hc
    rw [(low_is (lo c hc)).2.2.2]
    exact Bool.false_ne_true
  have e6 : decide (cs.length > 0) = true := decide_eq_true (by omega)
  rw [e1, e2, e3, e4, e5, e6]
  rfl
theorem nameS_long {cs : List Nat} (h : 8 < cs.length) : nameS (SX.S cs) = false := by
  unfold nameS
  rw [SX.S_len, decide_eq_true h]
  rfl
theorem nameS_bad {cs : List Nat} {c : Nat} (hc : c ∈ bads.cps.toList) (m : c ∈ cs) : nameS (SX.S cs) = false := by
  unfold nameS Txt.isascii Txt.isalpha Txt.islower
  simp only [List.all_toArray, List.any_toArray]
  have q := bad_all c hc
  cases e : Unicode.isAlpha c with
  | false =>
    have : cs.all Unicode.isAlpha = false := List.all_eq_false.mpr ⟨c, m, by rw [e]; exact Bool.false_ne_true⟩
    rw [this]
    simp
  | true =>
    rw [e, Bool.true_and, Bool.not_eq_false'] at q
    have : (cs.any fun c => Unicode.isUpper c || Unicode.isTitle c) = true := List.any_eq_true.mpr ⟨c, m, q⟩
    rw [this]
    simp
end An

set_option Elab.async false
set_option linter.all false
set_option maxRecDepth 100000
set_option maxHeartbeats 4000000
/-! Tuples put together and cut, all that was there stays; data without dicts. -/
namespace Ts
open PySem PySem.Spec PyProof.Rows L2 Dt An
theorem Same.rf (H : Hp) : Same H H := fun _ _ e => e
section
variable {X : Cx}
/-- t + u -/
def rCatS (K : PySem.W.Frag) : R2 := fun x y H Q => ∃ a b xs ys, x = .ref a ∧ y = .ref b ∧ SqT K H a xs ∧ SqT K H b ys ∧ xs.length + ys.length ≤ sizeLine ∧
  ∀ q H', Same H H' → SqT K H' q (xs ++ ys) → Q (.ref q) H'
theorem op_catS : OpR X (binaryOp .Add) (rCatS X.K) := by
  intro pins s σ H x y v u Q I rx ry h
  obtain ⟨a, b, xs, ys, ex, ey, ha, hb, hz, q⟩ := h
  refine op_catA pins s σ H x y v u Q I rx ry ⟨a, b, xs, ys, ex, ey, ha, hb, hz, fun e => ?_, fun _ e => ?_, fun _ _ p n => ?_⟩
  · subst e
    exact q b H (Same.rf H) hb
  · subst e
    exact q a H (Same.rf H) (by rw [List.append_nil]; exact ha)
  · exact q p _ (sameNew n) (.inl (.inl upd_same))
/-- t[lo:hi] -/
def rSlS (K : PySem.W.Frag) : V → Option Int → Option Int → Hp → VK → Prop := fun x lo hi H Q => ∃ a xs, x = .ref a ∧ SqT K H a xs ∧ ∀ q H', Same H H' → SqT K H' q (cutV xs lo hi) → Q (.ref q) H'
theorem sl_tupS : SlR X (rSlS X.K) := by
  intro pins s σ H x v vl vu lo hi sl Q I rx hs pl pu h
  obtain ⟨a, xs, ex, ha, q⟩ := h
  refine sl_tupA pins s σ H x v vl vu lo hi sl Q I rx hs pl pu ⟨a, xs, ex, ha, fun e => ?_, fun _ p n => ?_⟩
  · refine q a H (Same.rf H) ?_
    unfold cutV
    rw [e.1, e.2, Nat.sub_zero, List.drop_zero, List.take_length]
    exact ha
  · exact q p _ (sameNew n) (.inl (.inl upd_same))
end
theorem cut_to (xs : List V) (u : Nat) : cutV xs none (some (u : Int)) = xs.take u := by
  unfold cutV
  rw [HT.sIx_none, HT.sIx_nat, Nat.sub_zero, List.drop_zero]
  by_cases h : u ≤ xs.length
  · rw [Nat.min_eq_left h]
  · rw [Nat.min_eq_right (by omega), List.take_of_length_le (Nat.le_refl _), List.take_of_length_le (by omega)]
theorem cut_from (xs : List V) (u : Nat) : cutV xs (some (u : Int)) none = xs.drop u := by
  unfold cutV
  rw [HT.sIx_none, HT.sIx_nat]
  by_cases h : u ≤ xs.length
  · rw [Nat.min_eq_left h, List.take_of_length_le (by rw [List.length_drop]; exact Nat.le_refl _)]
  · rw [Nat.min_eq_right (by omega), List.drop_of_length_le (Nat.le_refl _), List.drop_of_length_le (by omega), List.take_nil]
section
variable {K : PySem.W.Frag} {H : Hp}
theorem intsQ : ∀ ns : List Int, DqAll K H (ns.map V.int) (ns.map PyData.int)
  | [] => .nil
  | n :: r => .cons (.int n) (intsQ r)
theorem dqs_app : ∀ {vs ws : List V} {ds es : List PyData}, DqAll K H vs ds → DqAll K H ws es → DqAll K H (vs ++ ws) (ds ++ es)
  | _, _, _, _, .nil, h => h
  | _, _, _, _, .cons a t, h => .cons a (dqs_app t h)
mutual
/-- data without dicts -/
theorem dp_of : ∀ (d : PyData) (v : V), Dq K H v d → d.hasDict = false → Dp K H v d
  | .none, _, h, _ => by
    cases h
    exact .non
  | .bool b, _, h, _ => by
    cases h
    exact .bl b
  | .int i, _, h, _ => by
    cases h
    exact .int i
  | .str x, _, h, _ => by
    cases h
    exact .str x
  | .list ds, _, h, e => by
    cases h with
    | lst hs ha => exact .lst hs (dps_of ds _ ha e)
  | .tuple ds, _, h, e => by
    cases h with
    | tup hs ha => exact .tup hs (dps_of ds _ ha e)
  | .dict ds, _, h, e => by cases e
theorem dps_of : ∀ (ds : List PyData) (vs : List V), DqAll K H vs ds → PyData.hasDictAll ds = false → DpAll K H vs ds
  | [], _, h, _ => by
    cases h
    exact .nil
  | d :: ds, _, h, e => by
    have e' : (d.hasDict || PyData.hasDictAll ds) = false := e
    rw [Bool.or_eq_false_iff] at e'
    cases h with
    | cons h t => exact .cons (dp_of d _ h e'.1) (dps_of ds _ t e'.2)
end
end
end Ts

set_option Elab.async false
set_option linter.all false
set_option maxRecDepth 100000
set_option maxHeartbeats 4000000
/-! list(d.items()), d with tuple keys. -/
namespace Itd
open PySem PySem.W PySem.Calls PyProof.Rows PyProof.V PySem.Spec L2
section
variable {prog : Program} {w : World} {A : Around} {s : Shared} {es : Array DictEntry} {ep : Nat} {r d : Addr}
theorem initI {R : Result → Shared → Prop} (hh : A.handled = none) (hv : s.heap.IsItemsView r d) (hm : DT.Raw s.heap d es ep) (S : Addr) (hSr : S ≠ r) (hSd : d ≠ S) (hS : s.heap.get? S = some { cls := .type "list", data := .seq #[] })
    (hR : ∀ h' tk acc c as, (∀ b o, b ≠ S → s.heap.get? b = some o → h'.get? b = some o) → h'.get? S = some { cls := .type "list", dict := none, data := .seq acc c, slots := #[] } → as.length = es.size → DT.Made es S h' as →
      acc.toList = as.map Value.ref → R (.ok (.ret .none)) { s with heap := h', toks := tk }) (hn : es.size ≤ sizeLine) :
    wpAny (model prog w) A.in1 (Builtin.«list.__init__» ⟨[.ref S, .ref r], []⟩)
      (fun fin s' => match fin with | .done f => R (.ok f) s' | .again c' => c'.quiet = true ∧ codeAny (model prog w) A c' R s') (fun e s' => R (.error e) s') s := by
  show wpAny _ _ (do let old ← Builtin.List.listItems (.ref S); Builtin.List.listUpdate (.ref S) (fun _ => #[]); letGo old.toList.reverse; Builtin.List.listExtendWith (.ref S) (.ref r) .none) _ _ s
  refine wpAny_bind ?_
  unfold Builtin.List.listItems
  refine wpAny_bind (wpAny_seqItems hS rfl (wpAny_pure ?_))
  show wpAny _ _ (updateSeq S (fun _ => #[]) >>= fun _ => letGo (#[] : Array Value).toList.reverse >>= fun _ => Builtin.List.listExtendWith (.ref S) (.ref r) .none) _ _ s
  refine wpAny_bind (wpAny_updateSeq hS rfl ?_)
  have hS₂ := Heap.get?_update_self (Obj.mapSeq (fun _ => (#[] : Array Value))) hS rfl
  have oth : ∀ b o, b ≠ S → s.heap.get? b = some o → (s.heap.update S (Obj.mapSeq (fun _ => (#[] : Array Value)))).get? b = some o :=
    fun b o hb e => (Heap.get?_update_other _ _ (Ne.symm hb)).trans e
  refine wpAny_bind (wpAny_letGo ?_)
  refine DT.extI (es := es) (ep := ep) hh (let ⟨o, ho, x⟩ := hv; ⟨o, oth r o hSr.symm ho, x⟩) (hm.at' fun o e => oth d o hSd e) S hSr hSd .none _ hS₂ (fun h' tk acc c as hk hS' hl hG hacc => ?_) hn
  exact hR h' tk acc c as (fun b o hb e => hk b o hb (oth b o hb e)) hS' hl (hG.low (Nat.le_of_lt (Heap.lt_size hS₂))) hacc
theorem callI {Q : Value → Shared → Prop} {E : Value → Shared → Prop} (hh : A.handled = none) (hv : s.heap.IsItemsView r d) (hm : DT.Raw s.heap d es ep) (hn : es.size ≤ sizeLine)
    (hQ : ∀ h' tk acc c as, (∀ b o, s.heap.get? b = some o → h'.get? b = some o) → h'.get? s.heap.objs.size = some { cls := .type "list", dict := none, data := .seq acc c, slots := #[] } → as.length = es.size → DT.Made es s.heap.objs.size h' as →
      acc.toList = as.map Value.ref → Q (.ref s.heap.objs.size) { s with heap := h', toks := tk }) :
    wpAny (model prog w) A (call (.type "list") [.ref r]) Q E s := by
  refine callType_codes (Q₁ := fun obj s₁ => obj = .ref s.heap.objs.size ∧ s₁ = { s with heap := s.heap.push { cls := .type "list", data := .seq #[] } }) PySem.F.called_list (PySem.F.typeCall_list_1 _) PySem.F.entry_list_init
    (code_list_new _ ⟨rfl, rfl⟩) fun obj s₁ h₁ => ?_
  obtain ⟨rfl, rfl⟩ := h₁
  have hS : (s.heap.push { cls := .type "list", data := .seq #[] }).get? s.heap.objs.size = some { cls := .type "list", data := .seq #[] } := Heap.get?_push_size _ rfl
  have hr : r < s.heap.objs.size := let ⟨_, ho, _⟩ := hv; Heap.lt_size ho
  have hd : d < s.heap.objs.size := hm.lt
  refine ⟨⟨_, hS, rfl⟩, PySem.F.args_list_init_2 _ _, initI (es := es) (ep := ep) (A := A.in1) hh (let ⟨o, ho, x⟩ := hv; ⟨o, Heap.get?_push_of_some _ ho, x⟩) (hm.push _) _ (Nat.ne_of_gt hr) (Nat.ne_of_lt hd) hS (fun h' tk acc c as hk hS' hl hG hacc => ?_) hn⟩
  exact ⟨rfl, hQ h' tk acc c as (fun b o e => hk b o (Nat.ne_of_lt (Heap.lt_size e)) (Heap.get?_push_of_some _ e)) hS' hl hG hacc⟩
end
/-- a pair of a key and its value -/
def PairAt (H : Hp) (b : Addr) (e : List L2.Key × V) : Prop := ∃ q, H b = some (.tup [.ref q, e.2]) ∧ H q = some (.tup (e.1.map kV))
theorem paired_mk {α β : Type} {F : α → β → Prop} : ∀ {xs : List α} {ys : List β}, xs.length = ys.length → (∀ (j : Nat) x y, xs[j]? = some x → ys[j]? = some y → F x y) → Paired F xs ys
  | [], [], _, _ => .nil
  | [], _ :: _, h, _ => by cases h
  | _ :: _, [], h, _ => by cases h
  | x :: xs, y :: ys, h, k => .cons (k 0 x y rfl rfl) (paired_mk (Nat.succ.inj h) fun j a b e1 e2 => k (j + 1) a b e1 e2)
def rListI : List V → Hp → VK → Prop := fun xs H Q => ∃ p a kvs, xs = [.ref p] ∧ H p = some (L2.DX.itemsO p a) ∧ H a = some (.dT kvs) ∧
  ∀ l bs H', H l = none → (∀ b o, H b = some o → H' b = some o) → H' l = some (.lst (bs.map V.ref)) → Paired (PairAt H') bs kvs → Q (.ref l) H'
section
variable {X : Cx}
/-- list(d.items()), the view at p -/
theorem call_listI (hc : X.calm = true) : CallR X (.type "list") rListI := by
  intro pins s σ H xs us Q I r h
  obtain ⟨p, a, kvs, rfl, hp, ha, q⟩ := h
  obtain rfl := Vals.ref1 r
  have view : s.heap.IsItemsView p a := (show ObjOk X.prog X.w H s.heap p (L2.DX.itemsO p a) from I.hok p _ hp).1
  obtain ⟨z, hd, xs', rel, o, es, ep, ho, hx, hdat, hes, his, hn⟩ := dt_of I.hok ha
  have l1 : kvs.length = xs'.length := Paired.length rel
  have l2 : es.size = xs'.length := size_of_entries hes
  have hh : X.A.handled = none := I.ok.hd hc
  refine callI (es := es) (ep := ep) hh view ⟨o, ho, hx, hdat⟩ (by omega) fun h' tk acc c as hk hS hl hG hacc => ?_
  have lak : as.length = kvs.length := by omega
  have nd : as.Nodup := List.Pairwise.imp (fun h => Nat.ne_of_lt h) hG.rise
  have hf : H s.heap.objs.size = none := I.hok.fresh (Nat.le_refl _)
  have I1 : Inv X pins σ H { s with heap := h', toks := tk } := I.kept (t' := tk) hk
  have I2 : Inv X pins σ (upd H s.heap.objs.size (.lst (as.map V.ref))) { s with heap := h', toks := tk } := I1.take (h' := h') (t' := tk) (fun b ob _ e => e) (I.fpOk (Nat.le_refl _) hf)
    ⟨by rw [List.length_map]; omega, acc.toList, c, by rw [hacc]; exact L2.vals_refs as, by rw [Array.toArray_toList]; exact hS⟩
  obtain ⟨H2, I3, kp, ht⟩ := L2.DX.takeT (P := fun b vs => ∃ (j : Nat) (e : List L2.Key × V) (q : Addr), as[j]? = some b ∧ kvs[j]? = some e ∧ vs = [.ref q, e.2] ∧ H q = some (.tup (e.1.map kV))) I as _ I2 nd fun b hb => by
    have hb1 := hG.above b hb
    have hb0 : H b = none := I.hok.fresh (Nat.le_of_lt hb1)
    refine ⟨Nat.le_of_lt hb1, by rw [upd_ne (Nat.ne_of_gt hb1)]; exact hb0, ?_⟩
    obtain ⟨j, hj⟩ := List.mem_iff_getElem?.mp hb
    obtain ⟨en, he, hg⟩ := hG.pairs j b hj
    rw [entry_at hes j] at he
    cases hxj : xs'[j]? with
    | none =>
      rw [hxj] at he
      exact nomatch (show (none : Option DictEntry) = some en from he)
    | some x =>
      rw [hxj] at he
      have een : entryOfKey (tupleKind (mixKind X.prog X.w)) x = en := Option.some.inj he
      obtain ⟨e0, he0, r1, r2, r3⟩ := L2.DX.pget rel hxj
      refine ⟨[.ref x.2.1, e0.2], ⟨j, e0, x.2.1, hj, he0, rfl, r2⟩, fun H2 => ?_⟩
      refine ⟨by show 2 ≤ sizeLine; decide, [.ref x.2.1, x.2.2], .cons rfl (.cons r3 .nil), ⟨_, hg, rfl, 0, ?_⟩⟩
      rw [← een]
      rfl
  refine ⟨.ref s.heap.objs.size, H2, I3, rfl, q _ as H2 hf (fun b o e => kp b o (by rw [upd_ne (ne_of_none e hf)]; exact e)) (kp _ _ upd_same) (paired_mk lak fun j b e e1 e2 => ?_)⟩
  obtain ⟨vs, ⟨j', e', q', f1, f2, rfl, f4⟩, f5⟩ := ht b (List.mem_of_getElem? e1)
  have ej : j' = j := (List.getElem?_inj (List.getElem?_eq_some_iff.mp f1).1 nd).mp (f1.trans e1.symm)
  subst ej
  rw [e2] at f2
  cases f2
  exact ⟨q', f5, kp _ _ (by rw [upd_ne (ne_of_none f4 hf)]; exact f4)⟩
end
end Itd

set_option Elab.async false
set_option linter.all false
set_option maxRecDepth 100000
set_option maxHeartbeats 4000000
/-! A display of a dict whose keys are tuples. -/
namespace Dh
open PySem PySem.Spec PyProof.Rows L2
/-- a pair of a display: where the key stands, the key, the value -/
structure Pk where
  kat : Addr
  key : List Key
  val : V
def Pk.ok (H : Hp) (e : Pk) : Prop := H e.kat = some (.tup (e.key.map kV))
section
variable {X : Cx}
theorem carriesT {pins : List (Addr × Obj)} {σ : L2.St} {H : Hp} {s : Shared} (I : Inv X pins σ H s) : ∀ (L : List Pk) (ws : List (Value × Value)), (∀ e ∈ L, e.ok H) → VV (L.map fun e => (V.ref e.kat, e.val)) ws →
    ∃ ps : List (List Key × Addr × Value), CarriesH (tupleKind (mixKind X.prog X.w)) s.heap ws ps ∧ KT H (L.map fun e => (e.key, e.val)) ps
  | [], _, _, r => by
    cases r
    exact ⟨[], trivial, .nil⟩
  | e :: L, _, h, r => by
    rw [List.map_cons] at r
    cases r with
    | @cons a b as bs q t =>
      obtain ⟨ps, h1, h2⟩ := carriesT I L bs (fun e he => h e (List.mem_cons_of_mem _ he)) t
      obtain ⟨b1, b2⟩ := b
      obtain ⟨q1, q2⟩ := q
      cases q1
      have hk := h e List.mem_cons_self
      exact ⟨(e.key, e.kat, b2) :: ps, ⟨rfl, rfl, key_of I.hok hk, h1⟩, .cons ⟨rfl, hk, q2⟩ h2⟩
/-- {k: v, ..} with keys tuples; the new dict stands empty while the pairs are made -/
def tDispT (trs : List (TE × TE)) : TE := fun σ H Q => ∀ p, H p = none → tPairs trs σ (upd H p (.dT [])) fun ps H2 => H2 p = some (.dT []) ∧ ∃ L : List Pk, ps = L.map (fun e => (.ref e.kat, e.val)) ∧ (∀ e ∈ L, e.ok H2) ∧ L.length ≤ 15 ∧
  Q (.ref p) (upd H2 p (.dT (mergeT [] (L.map fun e => (e.key, e.val)))))
theorem pe_dispT {pos : Pos} {keys : List (Option Expr)} {values : List Expr} {trs : List (TE × TE)} (hu : X.A.units + 1 < cLine) (h : PPs X pos keys values trs) (hall : keys.all (·.isSome) = true) (hl : keys.length = values.length) (h0 : keys ≠ [])
    (h15 : keys.length ≤ 15) : PE X (.Dict keys values pos) (tDispT trs) := by
  refine ⟨fun pins s σ H Q I q => ?_⟩
  have hn := I.hok.fresh (Nat.le_refl s.heap.objs.size)
  have I1 := I.laid (a := s.heap.objs.size) (o := .dT []) (h' := s.heap.push { cls := .type "dict", data := .dict #[] }) (t' := s.toks) (fun _ _ q => Heap.get?_push_of_some _ q) (Nat.le_refl _) (dt_empty s.heap I.big)
  have lp := pairTrees_length keys values X.env pos hall hl
  rw [arm_eval_Dict, zip_pairTrees keys values X.env pos hall hl, dictDisplay_pairs (pairTrees keys values X.env pos) (fun z => by rw [z] at lp; exact h0 (List.length_eq_zero_iff.mp lp.symm)) (by omega)]
  refine wpAny_bind (wpAny_standAt (wpAny_bind (wpAny_subDictH (knd := tupleKind (mixKind X.prog X.w)) (Q := fun d s' => wpAny (model X.prog X.w) X.A (pure (Value.ref d)) (EP X pins σ Q) X.xe s') (by show X.A.units < cLine; omega) (by omega) ?_)))
  refine thn (h.run pins _ σ _ _ I1 (q _ hn)) fun ws s2 ⟨ps, H2, I2, rel, e, L, ep, hk, l15, q2⟩ => ?_
  subst ep
  obtain ⟨rs, c, rk⟩ := carriesT I2 L ws hk rel
  obtain ⟨z, hd, vs0, r0, dd⟩ := dt_of I2.hok e
  cases r0
  refine ⟨rs, c, dd, fun h' tk dd' hs => wpAny_pure ⟨.ref s.heap.objs.size, _, ?_, rfl, q2⟩⟩
  have len : (mergeT [] (L.map fun e => (e.key, e.val))).length ≤ sizeLine := by
    have := length_mergeT (L.map fun e => (e.key, e.val)) []
    rw [List.length_map] at this
    rw [sizeLine_eq]
    exact Nat.le_trans this (by rw [List.length_nil]; omega)
  have he : ∃ q, h'.get? s.heap.objs.size = some q := let ⟨q, _, _, hq, _⟩ := dd'; ⟨q, hq⟩
  obtain ⟨o, es, epo, g1, g2, g3, g4, _, g5⟩ := dd'
  refine d_write I2 (by rw [e]; exact True.intro) hs he ⟨len, hd, _, ?_, o, es, epo, g1, g2, g3, g4, g5⟩
  refine (kt_merge rk .nil).keeps fun b ys eb => ?_
  rw [upd_ne (fun z => by rw [z, e] at eb; cases eb)]
  exact eb
end
end Dh

set_option Elab.async false
set_option linter.all false
set_option maxRecDepth 100000
set_option maxHeartbeats 4000000
/-! t * k, k from 1 on; all that was there stays. -/
namespace Ts
open PySem PySem.Spec PyProof.Rows L2 Dt An
theorem tuple_mul1 (l : Addr) (items : Array Value) (n : Nat) (dd : Option Addr) (sl : Array (Option Value)) (u : Tok) :
    Meets (Builtin.«tuple.__mul__» ⟨[.ref l, .int 1 u], []⟩) (fun _ R s => s.heap.get? l = some { cls := .type "tuple", dict := dd, data := .seq items n, slots := sl } ∧ R (.ok (.ret (Value.ref l))) s) :=
  .of_wp fun prog w A R s h => by
    obtain ⟨hp, g, d, tk, os⟩ := s
    obtain ⟨hl, h⟩ := h
    have f1 := AutoSeq1.idx_int
    have c1 : (items.isEmpty || (1 : Int) == 1) = true := by rw [show ((1 : Int) == 1) = true from rfl, Bool.or_true]
    wp_walk using wpAny_loadPart' hl
    repeat (first
      | (refine wpAny_ite_true (decide_eq_true (by rw [c1])) ?_; wp_walk using wpAny_loadPart' hl)
      | (refine wpAny_ite_false (by decide) ?_; wp_walk using wpAny_loadPart' hl))
    exact ⟨_, rfl, h⟩
section
variable {X : Cx}
def rMulS (K : PySem.W.Frag) : R2 := fun x y H Q => ∃ l k xs, x = .ref l ∧ y = .int k ∧ SqT K H l xs ∧ xs ≠ [] ∧ 1 ≤ k ∧ k ≤ 1000 ∧ xs.length ≤ 1000 ∧ ∀ q H', Same H H' → SqT K H' q (List.replicate k.toNat xs).flatten → (H l = some (.tup xs) → H' q = some (.tup (List.replicate k.toNat xs).flatten)) → Q (.ref q) H'
theorem op_mulS : OpR X (binaryOp .Mult) (rMulS X.K) := by
  intro pins s σ H x y v u Q I rx ry h
  obtain ⟨l, k, xs, ex, ey, hT, hne, h1, h2, hz, q⟩ := h
  by_cases hk : k = 1
  · subst ex ey hk
    cases rx
    obtain ⟨t, rfl⟩ := ry
    obtain ⟨its, r, ⟨⟨cls, dd, data, sl⟩, ho, hc, n, hd⟩, hs⟩ := I.tuple hT
    simp only at hc hd
    subst hc hd
    refine wpAny_binaryOp_repeat_ref (T := "tuple") (U := "int") (by decide) ⟨_, ho, rfl⟩ (fun s' => typeIs_int s' 1 t) noFill_tuple_mul F.fills_int_mul F.slot_int_rmul repeat_tuple F.slot_int_index.lookup ?_
    refine call_meets F.slot_int_rmul (typeIs_int s 1 t) F.entry_int_rmul (F.args_int_rmul_2 _ _) (int_rmul_tuple 1 t l its.toArray n dd sl) ⟨ho, rfl, ⟨_, ho, rfl⟩, ?_⟩
    refine call_meets F.slot_tuple_mul ⟨_, ho, rfl⟩ F.entry_tuple_mul (F.args_tuple_mul_2 _ _) (tuple_mul1 l its.toArray n dd sl t) ⟨ho, .ref l, H, I, rfl, q l H (Same.rf H) ?_ ?_⟩
    all_goals rw [show (List.replicate (1 : Int).toNat xs).flatten = xs from by show (List.replicate 1 xs).flatten = xs; simp]
    · exact hT
    · exact id
  · exact op_repT pins s σ H x y v u Q I rx ry ⟨l, k, xs, ex, ey, hT, hne, by omega, h2, hz, fun p n => q p _ (sameNew n) (.inl (.inl upd_same)) fun _ => upd_same⟩
end
end Ts

set_option Elab.async false
set_option linter.all false
set_option maxRecDepth 100000
set_option maxHeartbeats 4000000
/-! t * k, k from 0 on; all that was there stays. -/
namespace Ts
open PySem PySem.Spec PyProof.Rows L2 Dt An
theorem tuple_mul0 (l : Addr) (items : Array Value) (n : Nat) (dd : Option Addr) (sl : Array (Option Value)) (u : Tok) (hi : items.isEmpty = false) :
    Meets (Builtin.«tuple.__mul__» ⟨[.ref l, .int 0 u], []⟩) (fun _ R s => s.heap.get? l = some { cls := .type "tuple", dict := dd, data := .seq items n, slots := sl } ∧
      R (.ok (.ret (Value.ref s.heap.objs.size))) { s with heap := s.heap.push { cls := Value.type "tuple", data := Data.seq #[] }, toks := s.toks }) :=
  .of_wp fun prog w A R s h => by
    obtain ⟨hp, g, d, tk, os⟩ := s
    obtain ⟨hl, h⟩ := h
    have f1 := AutoSeq1.idx_int
    have c1 : (items.isEmpty || (0 : Int) == 1) = false := by rw [hi]; rfl
    have c2 : (decide ((0 : Int) ≤ 0) || items.isEmpty) = true := by rw [hi]; rfl
    wp_walk using wpAny_loadPart' hl
    repeat (first
      | (refine wpAny_ite_false (decide_eq_false (by rw [c1]; exact Bool.false_ne_true)) ?_; wp_walk using wpAny_loadPart' hl)
      | (refine wpAny_ite_true (decide_eq_true (by rw [c2])) ?_; wp_walk using wpAny_loadPart' hl)
      | (refine wpAny_ite_false (by decide) ?_; wp_walk using wpAny_loadPart' hl))
    exact ⟨_, rfl, h⟩
section
variable {X : Cx}
def rMulZ (K : PySem.W.Frag) : R2 := fun x y H Q => ∃ l k xs, x = .ref l ∧ y = .int k ∧ SqT K H l xs ∧ xs ≠ [] ∧ 0 ≤ k ∧ k ≤ 1000 ∧ xs.length ≤ 1000 ∧ ∀ q H', Same H H' → SqT K H' q (List.replicate k.toNat xs).flatten → (H l = some (.tup xs) → H' q = some (.tup (List.replicate k.toNat xs).flatten)) → Q (.ref q) H'
theorem op_mulZ : OpR X (binaryOp .Mult) (rMulZ X.K) := by
  intro pins s σ H x y v u Q I rx ry h
  obtain ⟨l, k, xs, ex, ey, hT, hne, h1, h2, hz, q⟩ := h
  by_cases hk : k = 0
  · subst ex ey hk
    cases rx
    obtain ⟨t, rfl⟩ := ry
    obtain ⟨its, r, ⟨⟨cls, dd, data, sl⟩, ho, hc, n, hd⟩, hs⟩ := I.tuple hT
    simp only at hc hd
    subst hc hd
    have hle : its.length = xs.length := r.length.symm
    have hi : its.toArray.isEmpty = false := by
      cases its with
      | nil => exact absurd (List.eq_nil_of_length_eq_zero hle.symm) hne
      | cons a b => rfl
    refine wpAny_binaryOp_repeat_ref (T := "tuple") (U := "int") (by decide) ⟨_, ho, rfl⟩ (fun s' => typeIs_int s' 0 t) noFill_tuple_mul F.fills_int_mul F.slot_int_rmul repeat_tuple F.slot_int_index.lookup ?_
    refine call_meets F.slot_int_rmul (typeIs_int s 0 t) F.entry_int_rmul (F.args_int_rmul_2 _ _) (int_rmul_tuple 0 t l its.toArray n dd sl) ⟨ho, rfl, ⟨_, ho, rfl⟩, ?_⟩
    refine call_meets F.slot_tuple_mul ⟨_, ho, rfl⟩ F.entry_tuple_mul (F.args_tuple_mul_2 _ _) (tuple_mul0 l its.toArray n dd sl t hi) ⟨ho, ?_⟩
    have nw := I.hok.fresh (Nat.le_refl s.heap.objs.size)
    refine ⟨.ref s.heap.objs.size, _, I.laid (t' := s.toks) (o := .tup []) (fun b ob q => Heap.get?_push_of_some _ q) (Nat.le_refl _) ?_, rfl, q _ _ (sameNew nw) (.inl (.inl upd_same)) fun _ => upd_same⟩
    exact ⟨Nat.zero_le _, _, .nil, IsTup.new _ _⟩
  · exact Ts.op_mulS pins s σ H x y v u Q I rx ry ⟨l, k, xs, ex, ey, hT, hne, by omega, h2, hz, q⟩
end
end Ts

set_option Elab.async false
set_option linter.all false
set_option maxRecDepth 100000
set_option maxHeartbeats 2000000
/-! xs == ys where xs and ys are lists: data, or lists of different lengths. -/
namespace Le
open PySem PySem.Calls PyProof.Rows PySem.Spec L2
section
variable {X : Cx}
def rEqL (K : W.Frag) : R2 := fun x y H Q => rEqD K x y H Q ∨ ∃ a b xs ys, x = .ref a ∧ y = .ref b ∧ H a = some (.lst xs) ∧ H b = some (.lst ys) ∧ xs.length ≠ ys.length ∧ Q (.bl false) H
theorem op_eqL (hu : X.A.units + 64 < cLine) : OpR X (compareOp .Eq) (rEqL X.K) := by
  intro pins s σ H x y v u Q I rx ry h
  rcases h with h | ⟨a, b, xs, ys, rfl, rfl, ha, hb, hl, q⟩
  · exact op_eqD hu pins s σ H x y v u Q I rx ry h
  · cases rx
    cases ry
    obtain ⟨_, is, n, r1, h1⟩ := (show ObjOk X.prog X.w H s.heap a (.lst xs) from I.hok a _ ha)
    obtain ⟨_, js, m, r2, h2⟩ := (show ObjOk X.prog X.w H s.heap b (.lst ys) from I.hok b _ hb)
    have e1 := r1.length
    have e2 := r2.length
    have hne : (is.toArray.size != js.toArray.size) = true := by
      rw [List.size_toArray, List.size_toArray, bne_iff_ne]
      omega
    show wpAny _ X.A (richCompare .Eq _ _) _ _ s
    exact SeqAt.RcAt.lists_lengths ⟨_, h1, rfl, n, rfl⟩ ⟨_, h2, rfl, m, rfl⟩ hne (by omega) _ _ _ _ ⟨.bl false, H, I, rfl, q⟩
end
end Le

set_option Elab.async false
set_option linter.all false
/-! A term's reading replaced by one that gives it: so that an a if .. else b does not double what follows. -/
namespace L2
open PySem PySem.Spec PyProof.Rows
theorem PE.to {X : Cx} {e : Expr} {t t' : TE} (h : PE X e t) (w : ∀ σ H Q, t' σ H Q → t σ H Q) : PE X e t' := ⟨fun pins s σ H Q I q => h.run pins s σ H Q I (w σ H Q q)⟩
theorem PS.to {X : Cx} {e : Stmt} {t t' : TS} (h : PS X e t) (w : ∀ D σ H, t' D σ H → t D σ H) : PS X e t' := ⟨fun pins s σ H D I q => h.run pins s σ H D I (w D σ H q)⟩
end L2

set_option Elab.async false
set_option linter.all false
set_option maxRecDepth 100000
set_option maxHeartbeats 4000000
/-! enumerate(t), t a tuple. -/
namespace Et
open PySem PySem.Spec PyProof.Rows L2
theorem meets_new1 {v : Value} {o : Obj} {H : Heap → Prop} (B : Begins v o H) :
    Meets (Builtin.«enumerate.__new__» ⟨[.type "enumerate", v], []⟩) (fun _ R s => H s.heap ∧
      R (.ok (.ret (.ref (s.heap.push o).objs.size))) { s with heap := (s.heap.push o).push { cls := .type "enumerate", data := .fields #[.none, .bool false, .ref s.heap.objs.size, rawInt 0, .none, .none] } }) :=
  .of_wp fun prog w A R s h => by
    obtain ⟨hp, g, d, tk, os⟩ := s; obtain ⟨h1, h⟩ := h
    have hsub := sub_enumerate
    have q1 : ∀ {A' : Around} {E : Value → Shared → Prop} {Q : Value → Shared → Prop}, Q (.ref hp.objs.size) ⟨hp.push o, g, d, tk, os⟩ → wpAny (model prog w) A' (pyIter v) Q E ⟨hp, g, d, tk, os⟩ :=
      fun q => B.iter prog w _ _ ⟨hp, g, d, tk, os⟩ _ h1 q
    wp_walk using q1
    refine wpAny_stack_any fun st => wpAny_pure ?_
    split
    · rename_i c _ _ _ _ _
      cases (c == Value.type "enumerate")
      · wp_walk using q1
        exact ⟨_, rfl, h⟩
      · wp_walk using q1
        exact ⟨_, rfl, h⟩
    · wp_walk using q1
      exact ⟨_, rfl, h⟩
section
variable {prog : Program} {w : World} {A : Around} {E : Value → Shared → Prop} {s : Shared}
theorem call_enumT {v : Value} {o : Obj} {H : Heap → Prop} {Q : Value → Shared → Prop} (B : Begins v o H) (h1 : H s.heap)
    (h : ∀ h', IsEnum h' (s.heap.objs.size + 1) s.heap.objs.size 0 .none → h'.get? s.heap.objs.size = some o → h'.objs.size = s.heap.objs.size + 2 →
      (∀ b o, s.heap.get? b = some o → h'.get? b = some o) → Q (.ref (s.heap.objs.size + 1)) { s with heap := h' }) :
    wpAny (model prog w) A (call (.type "enumerate") [v]) Q E s := by
  refine callType_new F.called_enumerate (by decide) (F.typeCall_enumerate_1 _) (F.newCall_enumerate_1 _) (fun obj => F.args_object_init_2 obj _) F.entry_enumerate_new (meets_new1 B) ⟨h1, ?_⟩
  have hz : (s.heap.push o).objs.size = s.heap.objs.size + 1 := Heap.size_push ..
  show _ ∧ _
  rw [hz]
  have he : IsEnum ((s.heap.push o).push { cls := .type "enumerate", data := .fields #[.none, .bool false, .ref s.heap.objs.size, rawInt 0, .none, .none] }) (s.heap.objs.size + 1) s.heap.objs.size 0 .none := by
    have := Heap.get?_push_size (s.heap.push o) (o := { cls := .type "enumerate", data := .fields #[.none, .bool false, .ref s.heap.objs.size, rawInt 0, .none, .none] }) rfl
    rw [hz] at this; exact this
  refine ⟨⟨_, he, rfl⟩, h _ he (Heap.get?_push_of_some _ (Heap.get?_push_size _ B.free)) (by rw [Heap.size_push, hz]) fun b o x => Heap.get?_push_of_some _ (Heap.get?_push_of_some _ x)⟩
end
/-- the tuple at a as it stands at each turn, each item in a new pair -/
def IteT (K : PySem.W.Frag) (a : Addr) : It :=
  ⟨fun i H => ∃ (xs : List V) (x : V), SqT K H a xs ∧ xs[i]? = some x, fun i H v H' => ∃ T x, v = .ref T ∧ H T = none ∧ H' = upd H T (.tup [.int (i : Nat), x]) ∧ ∀ xs, SqT K H a xs → xs[i]? = some x, fun i H => ∃ xs : List V, SqT K H a xs ∧ xs.length ≤ i⟩
theorem apartT {h : Heap} {e it t : Addr} {i : Nat} {items : Array Value} {c : Int} {old : Value} (he : IsEnum h e it c old) (hit : h.IsTupleIter it t i) (p : h.IsTuple t items) : e ≠ t ∧ t ≠ it := by
  obtain ⟨o, ho, hc, _⟩ := p
  obtain ⟨o2, ho2, hc2, _⟩ := hit
  refine ⟨fun z => ?_, fun z => ?_⟩
  · subst z
    have he2 : h.get? e = some _ := he
    rw [he2] at ho
    cases ho
    exact absurd (Value.type.inj hc) (by decide)
  · subst z
    rw [ho2] at ho
    cases ho
    rw [hc2] at hc
    exact absurd (Value.type.inj hc) (by decide)
theorem turn_enumT {P : Program} {w : World} {K : PySem.W.Frag} {elts : List Expr} {kk : Nat} {tpos : Pos} (a e it : Addr) :
    Turn P w K (.Tuple elts kk tpos) (IteT K a) [e, it] e (fun i h => (∃ old, IsEnum h e it ((i : Nat) : Int) old) ∧ h.IsTupleIter it a i ∧ e ≠ it) where
  mem := by simp
  obj := fun i h st b hb => by
    obtain ⟨⟨old, he⟩, ⟨o, ho, hc, hd⟩, _⟩ := st
    have e' : b = e ∨ b = it := by simpa using hb
    rcases e' with z | z
    · rw [z]; exact ⟨_, he, fun v q => nomatch q⟩
    · rw [z]; exact ⟨o, ho, fun v q => by rw [hd] at q; cases q⟩
  keep := fun i h h' st k => let ⟨⟨old, he⟩, hi, hne⟩ := st; ⟨⟨old, k e (by simp) _ he⟩, hi.at fun o q => k it (by simp) o q, hne⟩
  item := by
    intro X hP hw hK hc i pins s σ H E I hf st hg
    subst hP hw hK
    obtain ⟨⟨old, he⟩, hit, hne⟩ := st
    obtain ⟨xs, x, hq, hx⟩ := hg
    obtain ⟨its, rv, p, hz⟩ := I.tuple hq
    obtain ⟨u, hu, ru⟩ := rv.get hx
    obtain ⟨n1, n2⟩ := apartT he hit p
    have hel : e < s.heap.objs.size := Heap.lt_size he
    have hil : it < s.heap.objs.size := by obtain ⟨_, q, _⟩ := hit; exact Heap.lt_size q
    have hlt : i < its.toArray.size := by
      have := List.getElem?_eq_some_iff.mp hu
      obtain ⟨h1, _⟩ := this
      rw [List.size_toArray]
      exact h1
    refine wpAny_pyNext_enum_itemD (Draws.tuple (show X.A.in1.handled = none from I.ok.hd hc) it a n2 its.toArray) he ⟨hit, p⟩ hlt hne (fun z => by
      rcases List.mem_cons.mp z with z | z
      · exact hne z
      · exact n1 (List.mem_singleton.mp z)) fun u2 h' tk hP ho hst hT hsz hk => ?_
    have eu : u2 = u := by
      have := hP
      rw [List.getElem?_toArray, hu] at this
      exact (Option.some.inj this).symm
    subst eu
    refine ⟨_, rfl, wpAny_letOwnedTupleGo_enum (s := { s with heap := h', toks := tk + 1 }) ho fun h'' he' sb => ?_⟩
    have hT2 : h''.get? s.heap.objs.size = some { cls := .type "tuple", data := .seq #[.int i tk, u2] } := (sb.2 _ (Nat.ne_of_gt hel)).trans hT
    have new : ObjOk X.prog X.w (upd H s.heap.objs.size (.tup [.int (i : Nat), x])) h'' s.heap.objs.size (.tup [.int (i : Nat), x]) :=
      ⟨by show 2 ≤ sizeLine; decide, [.int i tk, u2], .cons ⟨_, rfl⟩ (.cons ru .nil), ⟨_, hT2, rfl, _, rfl⟩⟩
    have I1 : Inv X pins σ (upd H s.heap.objs.size (.tup [.int (i : Nat), x])) { s with heap := h'', toks := tk + 1 } :=
      I.turnedNew (ch := [e, it]) (fun b ob hb q => (sb.2 b (fun z => hb (by simp [z]))).trans (hk b ob (fun z => hb (by simp [z])) (fun z => hb (by simp [z])) q)) hf (Nat.le_refl _) new
    refine ⟨.ref s.heap.objs.size, _, I1, rfl, ⟨_, x, rfl, I.hok.fresh (Nat.le_refl _), rfl, fun ys hy => by rw [I.tuple_inj hy hq]; exact hx⟩, ⟨⟨u2, ?_⟩, hst.1.at fun o q => (sb.2 it (Ne.symm hne)).trans q, hne⟩, fun b hb => ?_⟩
    · have e1 : ((i + 1 : Nat) : Int) = (i : Int) + 1 := by omega
      rw [e1]; exact he'
    · have hb' : b < s.heap.objs.size := by
        have e' : b = e ∨ b = it := by simpa using hb
        rcases e' with z | z
        · rw [z]; exact hel
        · rw [z]; exact hil
      rw [upd_ne (Nat.ne_of_lt hb')]
      exact (hf b hb).1
  done := by
    intro X hP hw hK hc i pins s σ H E I hf st hg
    subst hP hw hK
    obtain ⟨⟨old, he⟩, hit, hne⟩ := st
    obtain ⟨xs, hq, hx⟩ := hg
    obtain ⟨its, rv, p, hz⟩ := I.tuple hq
    obtain ⟨n1, n2⟩ := apartT he hit p
    obtain ⟨f0, f1, f2, f3, f4, f5⟩ := hf it (by simp)
    have hl := rv.length
    have D : Draws X.prog X.w X.A.in1 it [it, a] i (fun i v => its.toArray[i]? = some v) (fun j h => j = i ∧ h.IsTupleIter it a j ∧ h.IsTuple a its.toArray) :=
      ⟨fun _ _ st => let ⟨o, ho, _⟩ := st.2.1; ⟨o, ho⟩, fun _ _ _ st hk => ⟨st.1, st.2.1.at fun o e => hk it (by simp) o e, st.2.2.at fun o e => hk a (by simp) o e⟩, fun j s Q E hi st hQ => absurd st.1 (by omega),
        fun s Q E st hE => wpAny_nextOf_tuple_end (show X.A.in1.handled = none from I.ok.hd hc) st.2.1 st.2.2 (by simp; omega) hE⟩
    exact wpAny_pyNext_enum_endD D he ⟨rfl, hit, p⟩ fun h' eb => ⟨rfl, I.turned (t' := s.toks) (fun b o hb q => eb b o hb q) f0 f1 f3 f4 f5⟩
  self := fun A i s Q E st h => let ⟨⟨_, he⟩, _⟩ := st; wpAny_pyIter_enum he h
def iEnumT (K : PySem.W.Frag) (ta : TA) : TI := fun σ H R => ta σ H fun vs H1 => ∃ a xs, vs = [.ref a] ∧ SqT K H1 a xs ∧ R (IteT K a) H1
theorem pi_enumT {X : Cx} {e : Expr} {ta : TA} {p pos tpos : Pos} {elts : List Expr} {kk : Nat} (hg : Gl X "enumerate") (hm : X.mg "enumerate" = none) (ha : PA X [e] ta) (hs : starEach [e] X.env = [(false, eval e X.env)] := by rfl) :
    PI X (.Tuple elts kk tpos) (.Call (.Name "enumerate" p) [e] [] pos) (iEnumT X.K ta) := by
  refine ⟨fun pins s σ H R I h => ?_⟩
  refine Call_ (ld_blt I hg hm boot_enumerate (PyProof.Rows.callWith_type1 (thn (ha.run pos pins s σ H _ I h) fun us s1 ⟨vs, H1, I1, r1, q1⟩ => ?_) hs rfl))
  obtain ⟨a, xs, ex, hq, q⟩ := q1
  subst ex
  cases r1 with
  | cons r rr =>
    cases rr
    cases r
    obtain ⟨its, rv, p', hz⟩ := I1.tuple hq
    refine call_enumT (begins_tuple a its.toArray) p' fun h' he hit hsz hk => wpAny_pyIter_enum he ?_
    have I2 : Inv X pins σ H1 { s1 with heap := h' } := I1.kept (t' := s1.toks) hk
    refine ⟨s1.heap.objs.size + 1, [s1.heap.objs.size + 1, s1.heap.objs.size], _, _, H1, rfl, I2, turn_enumT a (s1.heap.objs.size + 1) s1.heap.objs.size, ⟨⟨.none, he⟩, ⟨_, hit, rfl, rfl⟩, Nat.succ_ne_self _⟩, fun b hb => ?_, q⟩
    have e' : b = s1.heap.objs.size + 1 ∨ b = s1.heap.objs.size := by simpa using hb
    have hle : s1.heap.objs.size ≤ b := by
      rcases e' with z | z
      · rw [z]; exact Nat.le_add_right _ _
      · rw [z]; exact Nat.le_refl _
    exact I1.fpOk hle (I1.hok.fresh hle)
/-- a loop over enumerate of a tuple -/
theorem for_enumT {K : PySem.W.Frag} {a : Addr} {xs : List V} {g : TG} {tb : TS} {D : Ends} {σ : L2.St} {H : Hp} (Pv : Nat → L2.St → Hp → Prop) (h0 : Pv 0 σ H) (hq : ∀ i σ H, Pv i σ H → SqT K H a xs)
    (hs : ∀ (i : Nat) (x : V) (T : Addr) (σ : L2.St) (H : Hp), xs[i]? = some x → Pv i σ H → H T = none → g (.ref T) σ (upd H T (.tup [.int (i : Nat), x])) fun σ2 H2 => tb { D with nx := Pv (i + 1), ct := Pv (i + 1), bk := D.nx } σ2 H2) (hd : ∀ σ H, Pv xs.length σ H → D.nx σ H) :
    ∃ W : Nat → Nat → L2.St → Hp → Prop, (∃ m, W 0 m σ H) ∧ ∀ i m σ H, W i m σ H →
      ((IteT K a).stop i H ∧ D.nx σ H) ∨ ((IteT K a).go i H ∧ ∃ N : L2.St → Hp → Prop, (∀ σ' H', N σ' H' → ∃ m', m' < m ∧ W (i + 1) m' σ' H') ∧ ∀ v H', (IteT K a).yld i H v H' → g v σ H' fun σ2 H2 => tb { D with nx := N, ct := N, bk := D.nx } σ2 H2) := by
  refine ⟨fun i m σ H => m = xs.length - i ∧ i ≤ xs.length ∧ Pv i σ H, ⟨xs.length, rfl, Nat.zero_le _, h0⟩, ?_⟩
  rintro i m σ H ⟨rfl, hi, p⟩
  have qx := hq i σ H p
  by_cases hlt : i < xs.length
  · have hx : xs[i]? = some xs[i] := List.getElem?_eq_getElem hlt
    refine .inr ⟨⟨xs, _, qx, hx⟩, Pv (i + 1), fun σ' H' p' => ⟨xs.length - (i + 1), by omega, rfl, hlt, p'⟩, fun v H' y => ?_⟩
    obtain ⟨T, x', rfl, hT, rfl, f1⟩ := y
    exact hs i x' T σ H (f1 xs qx) p hT
  · have e : i = xs.length := by omega
    subst e
    exact .inl ⟨⟨xs, qx, Nat.le_refl _⟩, hd σ H p⟩
theorem walk_zipT {K : PySem.W.Frag} {a b : Addr} {xs ys : List V} {n : Nat} (hn : n = min xs.length ys.length) : Walk (RZ.ItzT K a b) n (fun H => SqT K H a xs ∧ SqT K H b ys) (YPair (fun i => xs[i]?) (fun i => ys[i]?)) := by
  subst hn
  refine ⟨fun i _ hi q => ?_, fun _ q => ⟨xs, ys, q.1, q.2, by omega⟩, fun i H v H' _ q y => ?_⟩
  · have h1 : i < xs.length := by omega
    have h2 : i < ys.length := by omega
    exact ⟨xs, ys, xs[i], ys[i], q.1, q.2, by simp [h1], by simp [h2]⟩
  · obtain ⟨T, x, z, h1, h2, h3, h4, h5⟩ := y
    exact ⟨T, x, z, h1, h2, h3, h4 xs q.1, h5 ys q.2⟩
end Et

set_option Elab.async false
set_option linter.all false
set_option maxRecDepth 100000
set_option maxHeartbeats 2000000
/-! t < u for tuples of texts. -/
namespace Tl
open PySem PySem.Spec PyProof.Rows L2
def lexS : List Str → List Str → Bool
  | [], [] => false
  | [], _ :: _ => true
  | _ :: _, [] => false
  | x :: xs, y :: ys => if x = y then lexS xs ys else decide (x.cps.toList < y.cps.toList)
theorem first_lex (e r : Nat → Bool) : ∀ (xs ys : List Str) (i : Nat), (∀ j (h1 : j < xs.length) (h2 : j < ys.length), e (i + j) = decide (xs[j] = ys[j])) → (∀ j (h1 : j < xs.length) (h2 : j < ys.length), r (i + j) = decide (xs[j].cps.toList < ys[j].cps.toList)) →
    SeqAt.firstLt e r (decide (xs.length < ys.length)) ((List.range (min xs.length ys.length)).map (i + ·)) = lexS xs ys
  | [], [], i, _, _ => rfl
  | [], _ :: _, i, _, _ => by
    simp [SeqAt.firstLt, lexS]
  | _ :: _, [], i, _, _ => by
    simp [SeqAt.firstLt, lexS]
  | x :: xs, y :: ys, i, he, hr => by
    have h0 : e i = decide (x = y) := he 0 (by simp) (by simp)
    have h1 : r i = decide (x.cps.toList < y.cps.toList) := hr 0 (by simp) (by simp)
    have ih := first_lex e r xs ys (i + 1) (fun j a b => by
      rw [show i + 1 + j = i + (j + 1) from by omega]
      exact he (j + 1) (by simp; omega) (by simp; omega)) (fun j a b => by
      rw [show i + 1 + j = i + (j + 1) from by omega]
      exact hr (j + 1) (by simp; omega) (by simp; omega))
    have em : (List.range (min (x :: xs).length (y :: ys).length)).map (i + ·) = i :: (List.range (min xs.length ys.length)).map (i + 1 + ·) := by
      rw [List.length_cons, List.length_cons, Nat.succ_min_succ, List.range_succ_eq_map, List.map_cons, List.map_map, Nat.add_zero]
      congr 1
      refine List.map_congr_left fun j _ => ?_
      show i + (j + 1) = i + 1 + j
      omega
    have el : decide ((x :: xs).length < (y :: ys).length) = decide (xs.length < ys.length) := by simp
    rw [em, el]
    unfold lexS
    by_cases c : x = y
    · rw [SeqAt.firstLt_yes (by rw [h0]; exact decide_eq_true c), ih, if_pos c]
    · rw [SeqAt.firstLt_no (by rw [h0]; exact decide_eq_false c), h1, if_neg c]
section
variable {X : Cx}
def rLtS (K : PySem.W.Frag) : R2 := fun x y H Q => ∃ a b xs ys, x = .ref a ∧ y = .ref b ∧ SqT K H a (xs.map V.str) ∧ SqT K H b (ys.map V.str) ∧ Q (.bl (lexS xs ys)) H
theorem strs_at : ∀ {xs : List Str} {us : List Value}, Vals (xs.map V.str) us → us.length = xs.length ∧ ∀ j (h1 : j < us.length) (h2 : j < xs.length), ∃ t, us[j] = Value.str xs[j] t
  | [], _, .nil => ⟨rfl, fun j h => absurd h (Nat.not_lt_zero _)⟩
  | x :: xs, _, .cons (b := u) r t => by
    obtain ⟨h1, h2⟩ := strs_at t
    refine ⟨by rw [List.length_cons, List.length_cons, h1], fun j a b => ?_⟩
    cases j with
    | zero => exact r
    | succ j => exact h2 j (by simpa using a) (by simpa using b)
theorem op_ltTS (hu : X.A.units < cLine) : OpR X (compareOp .Lt) (rLtS X.K) := by
  intro pins s σ H x y v u Q I rx ry h
  obtain ⟨a, b, xs, ys, rfl, rfl, ha, hb, q⟩ := h
  cases rx
  cases ry
  obtain ⟨its, r1, p1, _⟩ := I.tuple ha
  obtain ⟨its2, r2, p2, _⟩ := I.tuple hb
  obtain ⟨l1, g1⟩ := strs_at r1
  obtain ⟨l2, g2⟩ := strs_at r2
  have key := SeqAt.RcLt.tuples (A := X.A) (s := s) (e := fun j => decide (xs[j]? = ys[j]?)) (r := fun j => decide ((xs.getD j ⟨#[]⟩).cps.toList < (ys.getD j ⟨#[]⟩).cps.toList)) p1 p2 hu ?_ ?_
  · refine key _ _ _ _ ?_
    have z := first_lex (fun j => decide (xs[j]? = ys[j]?)) (fun j => decide ((xs.getD j ⟨#[]⟩).cps.toList < (ys.getD j ⟨#[]⟩).cps.toList)) xs ys 0 (fun j a b => ?_) (fun j a b => ?_)
    · have em : (List.range (min xs.length ys.length)).map (0 + ·) = List.range (min xs.length ys.length) := by
        rw [show (fun j => 0 + j) = (id : Nat → Nat) from funext fun j => Nat.zero_add j, List.map_id]
      rw [em] at z
      rw [List.size_toArray, List.size_toArray, l1, l2, z]
      exact ⟨.bl (lexS xs ys), H, I, rfl, q⟩
    · rw [Nat.zero_add]
      simp [a, b]
    · rw [Nat.zero_add]
      simp [a, b]
  · intro j h1 h2
    rw [List.size_toArray] at h1 h2
    obtain ⟨t, e1⟩ := g1 j h1 (by omega)
    obtain ⟨t2, e2⟩ := g2 j h2 (by omega)
    rw [List.getElem_toArray, List.getElem_toArray, e1, e2]
    have z := SeqAt.EqAt.str_str (A := X.A.in1) (s := s) xs[j] t ys[j] t2
    rw [show (xs[j] == ys[j]) = decide (xs[j]? = ys[j]?) from ?_] at z
    · exact z
    · rw [List.getElem?_eq_getElem (by omega), List.getElem?_eq_getElem (by omega)]
      by_cases c : xs[j] = ys[j]
      · rw [c]; simp
      · simp [c]
  · intro j h1 h2 hne
    rw [List.size_toArray] at h1 h2
    obtain ⟨t, e1⟩ := g1 j h1 (by omega)
    obtain ⟨t2, e2⟩ := g2 j h2 (by omega)
    rw [List.getElem_toArray, List.getElem_toArray, e1, e2]
    intro prog w E Q h
    have g : decide ((xs.getD j ⟨#[]⟩).cps.toList < (ys.getD j ⟨#[]⟩).cps.toList) = decide (xs[j].cps.toList < ys[j].cps.toList) := by
      rw [List.getD_eq_getElem?_getD, List.getD_eq_getElem?_getD, List.getElem?_eq_getElem (by omega), List.getElem?_eq_getElem (by omega)]
      rfl
    rw [g] at h
    exact (lt_str h : wpAny (model prog w) X.A.in1 (compareOp .Lt (.str xs[j] t) (.str ys[j] t2)) Q E s)
end
end Tl

set_option Elab.async false
set_option linter.all false
set_option maxRecDepth 100000
set_option maxHeartbeats 2000000
/-! Schemas, the mathematics alone: references that don't lead round, and what they reach. -/
namespace Sp4
/-- the steps that lead on to a start of a step -/
def keepS {α : Type} [DecidableEq α] (L : List (α × α)) : List (α × α) := L.filter fun s => decide (s.2 ∈ L.map Prod.fst)
theorem keepS_sub {α : Type} [DecidableEq α] {L : List (α × α)} {s : α × α} (h : s ∈ keepS L) : s ∈ L := (List.mem_filter.mp h).1
theorem keepS_len {α : Type} [DecidableEq α] (L : List (α × α)) : (keepS L).length ≤ L.length := List.length_filter_le _ _
/-- ranks rise along each step -/
def Rises {α : Type} (rank : α → Nat) (L : List (α × α)) : Prop := ∀ s ∈ L, rank s.1 < rank s.2
theorem Rises.keep {α : Type} [DecidableEq α] {rank : α → Nat} {L : List (α × α)} (h : Rises rank L) : Rises rank (keepS L) := fun s hs => h s (keepS_sub hs)
theorem max_mem {α : Type} (f : α → Nat) : ∀ {L : List α}, L ≠ [] → ∃ x ∈ L, ∀ y ∈ L, f y ≤ f x
  | [], h => absurd rfl h
  | [x], _ => ⟨x, List.mem_cons_self, fun y hy => by rw [List.mem_singleton.mp hy]; exact Nat.le_refl _⟩
  | x :: y :: L, _ => by
    obtain ⟨z, hz, hm⟩ := max_mem f (L := y :: L) (by simp)
    by_cases c : f z ≤ f x
    · exact ⟨x, List.mem_cons_self, fun u hu => by
        rcases List.mem_cons.mp hu with e | e
        · rw [e]; exact Nat.le_refl _
        · exact Nat.le_trans (hm u e) c⟩
    · exact ⟨z, List.mem_cons_of_mem _ hz, fun u hu => by
        rcases List.mem_cons.mp hu with e | e
        · rw [e]; omega
        · exact hm u e⟩
/-- where all steps stay, there is none -/
theorem keep_all {α : Type} [DecidableEq α] {rank : α → Nat} {L : List (α × α)} (h : Rises rank L) (e : (keepS L).length = L.length) : L = [] := by
  by_cases c : L = []
  · exact c
  · obtain ⟨s, hs, hm⟩ := max_mem (fun s : α × α => rank s.2) c
    have ha : ∀ x ∈ L, decide (x.2 ∈ L.map Prod.fst) = true := List.length_filter_eq_length_iff.mp e
    have := of_decide_eq_true (ha s hs)
    obtain ⟨t, ht, et⟩ := List.mem_map.mp this
    have h1 := h t ht
    have h2 := hm t ht
    rw [et] at h1
    omega
/-- v is reached from u by n steps -/
inductive Path {α : Type} (L : List (α × α)) : Nat → α → α → Prop
  | one {u v : α} : (u, v) ∈ L → Path L 1 u v
  | more {n : Nat} {u v x : α} : Path L n u v → (v, x) ∈ L → Path L (n + 1) u x
def Reach {α : Type} (L : List (α × α)) (u v : α) : Prop := ∃ n, Path L n u v
theorem Path.rank {α : Type} {rank : α → Nat} {L : List (α × α)} (h : Rises rank L) : ∀ {n : Nat} {u v : α}, Path L n u v → rank u + n ≤ rank v
  | _, _, _, .one e => by have := h _ e; simp only at this; omega
  | _, _, _, .more p e => by
    have := p.rank h
    have := h _ e
    simp only at this
    omega
/-- one turn: the target of each step from u, or from what was found -/
def turn {α : Type} [DecidableEq α] (u : α) : List (α × α) → List α → List α
  | [], F => F
  | s :: L, F => turn u L (if s.1 = u ∨ s.1 ∈ F then F ++ [s.2] else F)
theorem turn_sub {α : Type} [DecidableEq α] (u : α) : ∀ (L : List (α × α)) {F : List α} {x : α}, x ∈ F → x ∈ turn u L F
  | [], _, _, h => h
  | s :: L, F, x, h => turn_sub u L (by
    by_cases c : s.1 = u ∨ s.1 ∈ F
    · rw [if_pos c]; exact List.mem_append_left _ h
    · rw [if_neg c]; exact h)
theorem turn_new {α : Type} [DecidableEq α] (u : α) : ∀ (L : List (α × α)) {F : List α} {s : α × α}, s ∈ L → s.1 = u ∨ s.1 ∈ F → s.2 ∈ turn u L F
  | t :: L, F, s, h, c => by
    rcases List.mem_cons.mp h with e | e
    · subst e
      refine turn_sub u L ?_
      rw [if_pos c]
      exact List.mem_append_right _ (List.mem_singleton.mpr rfl)
    · refine turn_new u L e (c.imp id fun z => ?_)
      by_cases d : t.1 = u ∨ t.1 ∈ F
      · rw [if_pos d]; exact List.mem_append_left _ z
      · rw [if_neg d]; exact z
theorem turn_reach {α : Type} [DecidableEq α] (u : α) {L0 : List (α × α)} : ∀ (L : List (α × α)) {F : List α}, (∀ s ∈ L, s ∈ L0) → (∀ x ∈ F, Reach L0 u x) → ∀ x ∈ turn u L F, Reach L0 u x
  | [], _, _, h, x, hx => h x hx
  | s :: L, F, hs, h, x, hx => by
    refine turn_reach u L (fun t ht => hs t (List.mem_cons_of_mem _ ht)) ?_ x hx
    intro y hy
    by_cases c : s.1 = u ∨ s.1 ∈ F
    · rw [if_pos c] at hy
      rcases List.mem_append.mp hy with z | z
      · exact h y z
      · rw [List.mem_singleton.mp z]
        have hm := hs s List.mem_cons_self
        rcases c with c | c
        · exact ⟨1, .one (by rw [← c]; exact hm)⟩
        · obtain ⟨n, p⟩ := h _ c
          exact ⟨n + 1, .more p hm⟩
    · rw [if_neg c] at hy
      exact h y hy
def turns {α : Type} [DecidableEq α] (u : α) (L : List (α × α)) : Nat → List α
  | 0 => []
  | n + 1 => turn u L (turns u L n)
theorem turns_path {α : Type} [DecidableEq α] (u : α) (L : List (α × α)) : ∀ {n m : Nat} {x : α}, Path L n u x → n ≤ m → x ∈ turns u L m
  | _, 0, _, .one _, h => by omega
  | _, m + 1, _, .one e, _ => turn_new u L e (.inl rfl)
  | _, 0, _, .more _ _, h => by omega
  | _, m + 1, _, .more p e, h => turn_new u L e (.inr (turns_path u L p (by omega)))
theorem turns_reach {α : Type} [DecidableEq α] (u : α) (L : List (α × α)) : ∀ (n : Nat), ∀ x ∈ turns u L n, Reach L u x
  | 0, _, h => by cases h
  | n + 1, x, h => turn_reach u L (fun _ z => z) (turns_reach u L n) x h
/-- five turns find all, where ranks are below five -/
theorem turns_iff {α : Type} [DecidableEq α] {rank : α → Nat} {L : List (α × α)} (h : Rises rank L) (h5 : ∀ s ∈ L, rank s.2 ≤ 5) (u x : α) : x ∈ turns u L 5 ↔ Reach L u x := by
  constructor
  · exact turns_reach u L 5 x
  · rintro ⟨n, p⟩
    refine turns_path u L p ?_
    have a := p.rank h
    have b : rank x ≤ 5 := by
      cases p with
      | one e => exact h5 _ e
      | more _ e => exact h5 _ e
    omega
/-- a set that is closed holds all that is reached -/
theorem closed_reach {α : Type} {L : List (α × α)} {u : α} {S : α → Prop} (h0 : ∀ s ∈ L, s.1 = u → S s.2) (h1 : ∀ s ∈ L, S s.1 → S s.2) : ∀ {x : α}, Reach L u x → S x := by
  rintro x ⟨n, p⟩
  induction p with
  | one e => exact h0 _ e rfl
  | more p e ih => exact h1 _ e (ih h0)
theorem nodup_len {α : Type} [DecidableEq α] : ∀ {F M : List α}, F.Nodup → (∀ x ∈ F, x ∈ M) → F.length ≤ M.length
  | [], _, _, _ => Nat.zero_le _
  | x :: F, M, h, s => by
    have hx := s x List.mem_cons_self
    obtain ⟨h1, h2⟩ := List.nodup_cons.mp h
    have ih := nodup_len (M := M.erase x) h2 fun y hy => (List.mem_erase_of_ne (fun z => h1 (by rw [← z]; exact hy))).mpr (s y (List.mem_cons_of_mem _ hy))
    rw [List.length_erase_of_mem hx] at ih
    have := List.length_pos_of_mem hx
    rw [List.length_cons]
    omega
/-- a look at one step: a new target is found, and waits -/
def scan1 {α : Type} [DecidableEq α] (s : α) (p : List α × List α) (e : α × α) : List α × List α := if e.1 = s ∧ e.2 ∉ p.1 then (p.1 ++ [e.2], p.2 ++ [e.2]) else p
structure Scan {α : Type} (s : α) (M : List (α × α)) (p q : List α × List α) : Prop where
  sub1 : ∀ x ∈ p.1, x ∈ q.1
  sub2 : ∀ x ∈ p.2, x ∈ q.2
  new1 : ∀ x ∈ q.1, x ∈ p.1 ∨ (x ∈ q.2 ∧ ∃ e ∈ M, e.1 = s ∧ e.2 = x)
  new2 : ∀ x ∈ q.2, x ∈ p.2 ∨ x ∈ q.1
  all : ∀ e ∈ M, e.1 = s → e.2 ∈ q.1
  nodup : p.1.Nodup → q.1.Nodup
  len : q.2.length + p.1.length = p.2.length + q.1.length
theorem scan_is {α : Type} [DecidableEq α] (s : α) : ∀ (M : List (α × α)) (p : List α × List α), Scan s M p (M.foldl (scan1 s) p)
  | [], p => ⟨fun _ h => h, fun _ h => h, fun _ h => .inl h, fun _ h => .inl h, (fun _ h => by cases h), id, by show p.2.length + p.1.length = p.2.length + p.1.length; rfl⟩
  | e :: M, p => by
    have ih := scan_is s M (scan1 s p e)
    rw [List.foldl_cons]
    by_cases c : e.1 = s ∧ e.2 ∉ p.1
    · have q : scan1 s p e = (p.1 ++ [e.2], p.2 ++ [e.2]) := if_pos c
      rw [q] at ih ⊢
      refine ⟨fun x h => ih.sub1 x (List.mem_append_left _ h), fun x h => ih.sub2 x (List.mem_append_left _ h), fun x h => ?_, fun x h => ?_, fun e' h hs => ?_, fun n => ih.nodup ?_, ?_⟩
      · rcases ih.new1 x h with z | ⟨z, e', h1, h2⟩
        · rcases List.mem_append.mp z with y | y
          · exact .inl y
          · rw [List.mem_singleton.mp y]
            exact .inr ⟨ih.sub2 _ (List.mem_append_right _ (List.mem_singleton.mpr rfl)), e, List.mem_cons_self, c.1, rfl⟩
        · exact .inr ⟨z, e', List.mem_cons_of_mem _ h1, h2⟩
      · rcases ih.new2 x h with z | z
        · rcases List.mem_append.mp z with y | y
          · exact .inl y
          · rw [List.mem_singleton.mp y]
            exact .inr (ih.sub1 _ (List.mem_append_right _ (List.mem_singleton.mpr rfl)))
        · exact .inr z
      · rcases List.mem_cons.mp h with z | z
        · rw [z]
          exact ih.sub1 _ (List.mem_append_right _ (List.mem_singleton.mpr rfl))
        · exact ih.all e' z hs
      · refine List.nodup_append.mpr ⟨n, by simp, fun a ha b hb z => c.2 ?_⟩
        rw [List.mem_singleton.mp hb] at z
        rw [← z]
        exact ha
      · have := ih.len
        simp only [List.length_append, List.length_cons, List.length_nil] at this
        omega
    · have q : scan1 s p e = p := if_neg c
      rw [q] at ih ⊢
      refine ⟨ih.sub1, ih.sub2, fun x h => ?_, ih.new2, fun e' h hs => ?_, ih.nodup, ih.len⟩
      · rcases ih.new1 x h with z | ⟨z, e', h1, h2⟩
        · exact .inl z
        · exact .inr ⟨z, e', List.mem_cons_of_mem _ h1, h2⟩
      · rcases List.mem_cons.mp h with z | z
        · rw [z] at hs ⊢
          refine ih.sub1 _ (Decidable.byContradiction fun n => c ⟨hs, n⟩)
        · exact ih.all e' z hs
structure Dfs {α : Type} (L : List (α × α)) (u : α) (F Wt : List α) : Prop where
  reach : ∀ x ∈ F, Reach L u x
  wait : ∀ x ∈ Wt, x = u ∨ x ∈ F
  closed : ∀ x, x = u ∨ x ∈ F → x ∈ Wt ∨ ∀ e ∈ L, e.1 = x → e.2 ∈ F
  nodup : F.Nodup
  sub : ∀ x ∈ F, x ∈ L.map Prod.snd
theorem Dfs.start {α : Type} (L : List (α × α)) (u : α) : Dfs L u [] [u] := by
  refine ⟨(fun _ h => by cases h), fun x h => .inl (List.mem_singleton.mp h), fun x h => ?_, List.nodup_nil, (fun _ h => by cases h)⟩
  rcases h with h | h
  · exact .inl (List.mem_singleton.mpr h)
  · cases h
theorem Dfs.next {α : Type} [DecidableEq α] {L : List (α × α)} {u s : α} {F Wt : List α} (d : Dfs L u F (Wt ++ [s])) : Dfs L u (L.foldl (scan1 s) (F, Wt)).1 (L.foldl (scan1 s) (F, Wt)).2 := by
  have c := scan_is s L (F, Wt)
  have hs : s = u ∨ s ∈ F := d.wait s (List.mem_append_right _ (List.mem_singleton.mpr rfl))
  refine ⟨fun x h => ?_, fun x h => ?_, fun x h => ?_, c.nodup d.nodup, fun x h => ?_⟩
  · rcases c.new1 x h with z | ⟨_, e, h1, h2, h3⟩
    · exact d.reach x z
    · rw [← h3]
      rcases hs with y | y
      · exact ⟨1, .one (by rw [← y, ← h2]; exact h1)⟩
      · obtain ⟨n, p⟩ := d.reach s y
        exact ⟨n + 1, .more p (by rw [← h2]; exact h1)⟩
  · rcases c.new2 x h with z | z
    · exact (d.wait x (List.mem_append_left _ z)).imp id (c.sub1 x)
    · exact .inr z
  · have old : x = u ∨ x ∈ F → x ∈ (L.foldl (scan1 s) (F, Wt)).2 ∨ ∀ e ∈ L, e.1 = x → e.2 ∈ (L.foldl (scan1 s) (F, Wt)).1 := fun h => by
      rcases d.closed x h with z | z
      · rcases List.mem_append.mp z with y | y
        · exact .inl (c.sub2 x y)
        · rw [List.mem_singleton.mp y]
          exact .inr c.all
      · exact .inr fun e he hx => c.sub1 _ (z e he hx)
    rcases h with h | h
    · exact old (.inl h)
    · rcases c.new1 x h with z | ⟨z, _⟩
      · exact old (.inr z)
      · exact .inl z
  · rcases c.new1 x h with z | ⟨_, e, h1, _, h3⟩
    · exact d.sub x z
    · exact List.mem_map.mpr ⟨e, h1, h3⟩
theorem Dfs.done {α : Type} {L : List (α × α)} {u : α} {F : List α} (d : Dfs L u F []) (x : α) : x ∈ F ↔ Reach L u x := by
  have cl : ∀ y, y = u ∨ y ∈ F → ∀ e ∈ L, e.1 = y → e.2 ∈ F := fun y h => (d.closed y h).resolve_left (fun z => by cases z)
  exact ⟨d.reach x, fun r => closed_reach (S := (· ∈ F)) (fun s hs e => cl u (.inl rfl) s hs e) (fun s hs h => cl s.1 (.inr h) s hs rfl) r⟩
theorem Dfs.len {α : Type} [DecidableEq α] {L : List (α × α)} {u : α} {F Wt : List α} (d : Dfs L u F Wt) : F.length ≤ L.length := by
  have := nodup_len d.nodup d.sub
  rwa [List.length_map] at this
theorem Dfs.less {α : Type} [DecidableEq α] {L : List (α × α)} {u s : α} {F Wt : List α} (d : Dfs L u F (Wt ++ [s])) :
    (L.foldl (scan1 s) (F, Wt)).2.length + 2 * (L.length - (L.foldl (scan1 s) (F, Wt)).1.length) < (Wt ++ [s]).length + 2 * (L.length - F.length) := by
  have c := (scan_is s L (F, Wt)).len
  have a := d.len
  have b := d.next.len
  have e : ∀ x ∈ F, x ∈ (L.foldl (scan1 s) (F, Wt)).1 := (scan_is s L (F, Wt)).sub1
  have f := nodup_len d.nodup e
  rw [List.length_append]
  show _ < Wt.length + 1 + _
  simp only at c
  omega
end Sp4

set_option Elab.async false
set_option linter.all false
set_option maxRecDepth 100000
set_option maxHeartbeats 2000000
/-! x in t, t a tuple of data of any depth. -/
namespace It
open PySem PySem.Spec PyProof.Rows L2
section
variable {X : Cx}
def rInT (K : PySem.W.Frag) (neg : Bool) : R2 := fun x y H Q => ∃ d ds, Dp K H x d ∧ Dp K H y (.tuple ds) ∧ SeqAt.shaped d = true ∧ SeqAt.shaped (.tuple ds) = true ∧ Q (.bl (if neg then !ds.any fun z => PyData.eqv z d else ds.any fun z => PyData.eqv z d)) H
theorem op_inT (hu : X.A.units + 65 < cLine) : OpR X (compareOp .In) (rInT X.K false) := by
  intro pins s σ H x y v u Q I rx ry h
  obtain ⟨d, ds, hd, he, sd, se, q⟩ := h
  obtain ⟨as, r1⟩ := Dp.reads I d x v hd rx
  obtain ⟨bs, r2⟩ := Dp.reads I (.tuple ds) y u he ry
  exact SeqAt.in_tuple_reads r2 r1 (SeqAt.canLay_of_shaped se) (SeqAt.canLay_of_shaped sd) (room_in_shaped sd hu) ⟨.bl _, H, I, rfl, q⟩
theorem op_notInT (hu : X.A.units + 65 < cLine) : OpR X (compareOp .NotIn) (rInT X.K true) := by
  intro pins s σ H x y v u Q I rx ry h
  obtain ⟨d, ds, hd, he, sd, se, q⟩ := h
  obtain ⟨as, r1⟩ := Dp.reads I d x v hd rx
  obtain ⟨bs, r2⟩ := Dp.reads I (.tuple ds) y u he ry
  exact SeqAt.notIn_tuple_reads r2 r1 (SeqAt.canLay_of_shaped se) (SeqAt.canLay_of_shaped sd) (room_in_shaped sd hu) ⟨.bl _, H, I, rfl, q⟩
end
end It

set_option Elab.async false
set_option linter.all false
set_option maxRecDepth 100000
set_option maxHeartbeats 2000000
/-! Keys and columns as data: tuples of texts, tuples of these. -/
namespace Sp4
open PySem PySem.Spec PyProof.Rows L2 An
def kD (k : List Str) : PyData := .tuple (k.map PyData.str)
def ksD (ks : List (List Str)) : PyData := .tuple (ks.map kD)
section
variable {K : PySem.W.Frag} {H : Hp}
theorem dp_strs : ∀ r : List Str, DpAll K H (r.map V.str) (r.map PyData.str)
  | [] => .nil
  | x :: r => .cons (.str x) (dp_strs r)
theorem dp_key {p : Addr} {k : List Str} (h : SqT K H p (k.map V.str)) : Dp K H (.ref p) (kD k) := .tup h (dp_strs k)
theorem dp_keys : ∀ {bs : List Addr} {ks : List (List Str)}, Paired (fun c key => H c = some (.tup (key.map V.str))) bs ks → DpAll K H (bs.map V.ref) (ks.map kD)
  | _, _, .nil => .nil
  | _, _, .cons h t => .cons (dp_key (SqT.of h)) (dp_keys t)
end
theorem lay_strs : ∀ r : List Str, (∀ x ∈ r, PyData.strOk x = true) → PyData.canLayAll0 (r.map PyData.str) = true
  | [], _ => rfl
  | x :: r, h => by
    show (PyData.strOk x && PyData.canLayAll0 (r.map PyData.str)) = true
    rw [lay_strs r fun y hy => h y (List.mem_cons_of_mem _ hy), h x List.mem_cons_self]
    rfl
theorem lay_keys : ∀ ks : List (List Str), (∀ k ∈ ks, ∀ x ∈ k, PyData.strOk x = true) → PyData.canLayAll0 (ks.map kD) = true
  | [], _ => rfl
  | k :: ks, h => by
    show (PyData.canLayAll0 (k.map PyData.str) && PyData.canLayAll0 (ks.map kD)) = true
    rw [lay_strs k (h k List.mem_cons_self), lay_keys ks fun y hy => h y (List.mem_cons_of_mem _ hy)]
    rfl
theorem dep_strs : ∀ r : List Str, PyData.depthAll (r.map PyData.str) ≤ 1
  | [] => by decide
  | x :: r => by
    rw [List.map_cons]
    unfold PyData.depthAll
    exact Nat.max_le.mpr ⟨by show PyData.depth (.str x) ≤ 1; unfold PyData.depth; decide, dep_strs r⟩
theorem dep_keys : ∀ ks : List (List Str), PyData.depthAll (ks.map kD) ≤ 2
  | [] => by decide
  | k :: ks => by
    rw [List.map_cons]
    unfold PyData.depthAll
    exact Nat.max_le.mpr ⟨Nat.succ_le_succ (dep_strs k), dep_keys ks⟩
theorem sh_key (k : List Str) (h : ∀ x ∈ k, PyData.strOk x = true) : SeqAt.shaped (kD k) = true := by
  show (PyData.canLayAll0 (k.map PyData.str) && decide ((kD k).depth ≤ 64)) = true
  rw [lay_strs k h, decide_eq_true (show (kD k).depth ≤ 64 from Nat.le_trans (Nat.succ_le_succ (dep_strs k)) (by decide))]
  rfl
theorem sh_keys (ks : List (List Str)) (h : ∀ k ∈ ks, ∀ x ∈ k, PyData.strOk x = true) : SeqAt.shaped (ksD ks) = true := by
  show (PyData.canLayAll0 (ks.map kD) && decide ((ksD ks).depth ≤ 64)) = true
  rw [lay_keys ks h, decide_eq_true (show (ksD ks).depth ≤ 64 from Nat.le_trans (Nat.succ_le_succ (dep_keys ks)) (by decide))]
  rfl
theorem eqv_key : ∀ a b : List Str, PyData.eqv (kD a) (kD b) = decide (a = b)
  | [], [] => by decide +kernel
  | [], _ :: _ => by
    rw [decide_eq_false (fun z => by cases z)]
    simp [kD, PyData.eqv, PyData.eqvAll]
  | _ :: _, [] => by
    rw [decide_eq_false (fun z => by cases z)]
    simp [kD, PyData.eqv, PyData.eqvAll]
  | x :: a, y :: b => by
    have ih := eqv_key a b
    have u : PyData.eqv (kD (x :: a)) (kD (y :: b)) = (PyData.eqv (.str x) (.str y) && PyData.eqv (kD a) (kD b)) := by
      simp only [kD, PyData.eqv, PyData.eqvAll, List.map_cons]
    rw [u, ih]
    have e : PyData.eqv (.str x) (.str y) = decide (x = y) := by
      simp [PyData.eqv]
      by_cases c : x = y <;> simp [c]
    rw [e]
    by_cases c : x = y <;> by_cases d : a = b <;> simp [c, d]
theorem any_key (key : List Str) : ∀ ks : List (List Str), ((ks.map kD).any fun z => PyData.eqv z (kD key)) = decide (key ∈ ks)
  | [] => rfl
  | k :: ks => by
    rw [List.map_cons, List.any_cons, any_key key ks, eqv_key]
    by_cases c : k = key
    · simp [c]
    · have c' : ¬ key = k := fun z => c z.symm
      simp [c, c']
end Sp4

set_option Elab.async false
set_option linter.all false
set_option maxRecDepth 100000
set_option maxHeartbeats 2000000
/-! d == e of dicts whose values are data, and of dicts of such dicts. -/
namespace Dq1
open PySem PySem.Spec PyProof.Rows L2
variable {β γ : Type}
def look (D : List (Key × β)) (k : Key) : Option β := (D.find? fun p => decide (p.1 = k)).map (·.2)
def sameAt (eq : β → β → Bool) (D E : List (Key × β)) (k : Key) : Bool := match look D k, look E k with
  | some d, some e => eq d e
  | _, _ => false
def eqBy (eq : β → β → Bool) (D E : List (Key × β)) : Bool := D.length == E.length && (D.map (·.1)).all (sameAt eq D E)
theorem find_pair {R : β → γ → Prop} {k : Key} : ∀ {ks : List (Key × β)} {D : List (Key × γ)}, Paired (fun p q => p.1 = q.1 ∧ R p.2 q.2) ks D →
    (ks.find? (fun p => decide (p.1 = k)) = none ∧ D.find? (fun p => decide (p.1 = k)) = none) ∨
      ∃ p q, ks.find? (fun p => decide (p.1 = k)) = some p ∧ D.find? (fun p => decide (p.1 = k)) = some q ∧ R p.2 q.2 ∧ p ∈ ks ∧ q ∈ D
  | _, _, .nil => .inl ⟨rfl, rfl⟩
  | p :: ks, q :: D, .cons h t => by
    by_cases c : p.1 = k
    · have c2 : q.1 = k := h.1 ▸ c
      exact .inr ⟨p, q, by rw [List.find?_cons, decide_eq_true c], by rw [List.find?_cons, decide_eq_true c2], h.2, List.mem_cons_self, List.mem_cons_self⟩
    · have c2 : ¬ q.1 = k := h.1 ▸ c
      rw [List.find?_cons, decide_eq_false c, List.find?_cons, decide_eq_false c2]
      rcases find_pair (k := k) t with z | ⟨p', q', e1, e2, e3, e4, e5⟩
      · exact .inl z
      · exact .inr ⟨p', q', e1, e2, e3, List.mem_cons_of_mem _ e4, List.mem_cons_of_mem _ e5⟩
theorem keys_pair {R : β → γ → Prop} : ∀ {ks : List (Key × β)} {D : List (Key × γ)}, Paired (fun p q => p.1 = q.1 ∧ R p.2 q.2) ks D → ks.map (·.1) = D.map (·.1)
  | _, _, .nil => rfl
  | p :: ks, q :: D, .cons h t => by rw [List.map_cons, List.map_cons, keys_pair t, h.1]
theorem memP {R : β → γ → Prop} : ∀ {ks : List β} {D : List γ}, Paired R ks D → ∀ {p}, p ∈ ks → ∃ q, q ∈ D ∧ R p q
  | _, _, .nil, _, h => by cases h
  | _, _, .cons r t, p, h => by
    rcases List.mem_cons.mp h with e | m
    · exact ⟨_, List.mem_cons_self, e ▸ r⟩
    · obtain ⟨q, h1, h2⟩ := memP t m
      exact ⟨q, List.mem_cons_of_mem _ h1, h2⟩
theorem find_mem {k : Key} {v : β} : ∀ {ks : List (Key × β)}, (ks.map (·.1)).Nodup → (k, v) ∈ ks → ks.find? (fun p => decide (p.1 = k)) = some (k, v)
  | p :: ks, nd, h => by
    rw [List.map_cons, List.nodup_cons] at nd
    rcases List.mem_cons.mp h with e | m
    · rw [← e, List.find?_cons, decide_eq_true rfl]
    · have c : ¬ p.1 = k := fun e => nd.1 (by rw [e]; exact List.mem_map.mpr ⟨_, m, rfl⟩)
      rw [List.find?_cons, decide_eq_false c]
      exact find_mem nd.2 m
section
variable {P : Program} {w : World} {s : Shared} {n : Nat} {eq : β → β → Bool} {R : V → β → Prop} {ks ls : List (Key × V)} {va vb : List (Key × Value)} {D E : List (Key × β)}
theorem tree_at (ra : KV ks va) (rb : KV ls vb) (pd : Paired (fun p q => p.1 = q.1 ∧ R p.2 q.2) ks D) (pe : Paired (fun p q => p.1 = q.1 ∧ R p.2 q.2) ls E) (nd : (ks.map (·.1)).Nodup)
    (step : ∀ p ∈ ks, ∀ q ∈ ls, ∀ v u b c, RelV p.2 v → RelV q.2 u → R p.2 b → R q.2 c → PySem.W.EqTree P w s n v u (eq b c)) :
    ∀ k v y, (k, v) ∈ va → valueAt vb k = some y → PySem.W.EqTree P w s n v y (sameAt eq D E k) := by
  intro k v y hm hv
  have nd2 : (va.map (·.1)).Nodup := by
    have e : ks.map (·.1) = va.map (·.1) := keys_pair (R := RelV) ra
    rw [← e]
    exact nd
  have f1 := find_mem nd2 hm
  rcases find_pair (k := k) (R := RelV) ra with ⟨_, z⟩ | ⟨p, q, e1, e2, e3, e4, _⟩
  · rw [f1] at z
    cases z
  rw [f1] at e2
  cases e2
  rcases find_pair (k := k) (R := R) pd with ⟨z, _⟩ | ⟨p', b, e5, e6, e7, _, _⟩
  · rw [e1] at z
    cases z
  rw [e1] at e5
  cases e5
  have hv : (vb.find? fun p => decide (p.1 = k)).map (·.2) = some y := hv
  rcases find_pair (k := k) (R := RelV) rb with ⟨_, z⟩ | ⟨p2, q2, g1, g2, g3, g4, _⟩
  · rw [z] at hv
    cases hv
  rw [g2] at hv
  have hy : q2.2 = y := Option.some.inj hv
  rcases find_pair (k := k) (R := R) pe with ⟨z, _⟩ | ⟨p3, c, g5, g6, g7, _, _⟩
  · rw [g1] at z
    cases z
  rw [g1] at g5
  cases g5
  have l1 : look D k = some b.2 := by
    unfold look
    rw [e6]
    rfl
  have l2 : look E k = some c.2 := by
    unfold look
    rw [g6]
    rfl
  unfold sameAt
  rw [l1, l2]
  rw [← hy]
  exact step p e4 p2 g4 _ _ _ _ e3 g3 e7 g7
theorem all_at' (ra : KV ks va) (rb : KV ls vb) (pd : Paired (fun p q => p.1 = q.1 ∧ R p.2 q.2) ks D) (pe : Paired (fun p q => p.1 = q.1 ∧ R p.2 q.2) ls E) :
    (va.length == vb.length && va.all fun p => (valueAt vb p.1).isSome && sameAt eq D E p.1) = eqBy eq D E := by
  unfold eqBy
  have e1 : va.map (·.1) = D.map (·.1) := by
    have e : ks.map (·.1) = va.map (·.1) := keys_pair (R := RelV) ra
    rw [← e]
    exact keys_pair (R := R) pd
  have l1 : va.length = D.length := by rw [← List.length_map (f := fun x : Key × Value => x.1), e1, List.length_map]
  have e2 : vb.map (·.1) = E.map (·.1) := by
    have e : ls.map (·.1) = vb.map (·.1) := keys_pair (R := RelV) rb
    rw [← e]
    exact keys_pair (R := R) pe
  have l2 : vb.length = E.length := by rw [← List.length_map (f := fun x : Key × Value => x.1), e2, List.length_map]
  have isS : ∀ k, (valueAt vb k).isSome = (look E k).isSome := fun k => by
    rcases find_pair (k := k) (R := RelV) rb with ⟨z1, z2⟩ | ⟨p2, q2, g1, g2, _⟩ <;> rcases find_pair (k := k) (R := R) pe with ⟨y1, y2⟩ | ⟨p3, c, g5, g6, _⟩
    · show ((vb.find? fun p => decide (p.1 = k)).map (·.2)).isSome = ((E.find? fun p => decide (p.1 = k)).map (·.2)).isSome
      rw [z2, y2]
      rfl
    · rw [z1] at g5
      cases g5
    · rw [g1] at y1
      cases y1
    · show ((vb.find? fun p => decide (p.1 = k)).map (·.2)).isSome = ((E.find? fun p => decide (p.1 = k)).map (·.2)).isSome
      rw [g2, g6]
      rfl
  rw [l1, l2, ← e1, List.all_map]
  congr 1
  refine congrArg (fun f => List.all va f) (funext fun p => ?_)
  show ((valueAt vb p.1).isSome && sameAt eq D E p.1) = sameAt eq D E p.1
  rw [isS]
  unfold sameAt
  cases look D p.1 <;> cases look E p.1 <;> simp
end
def PD (K : PySem.W.Frag) (H : Hp) (ks : List (Key × V)) (D : List (Key × PyData)) : Prop := Paired (fun p q => p.1 = q.1 ∧ Dp K H p.2 q.2 ∧ SeqAt.shaped q.2 = true) ks D
/-- a dict of data -/
structure DD (K : PySem.W.Frag) (H : Hp) (a : Addr) (D : List (Key × PyData)) : Prop where
  ex : ∃ ks, Rd H a (.dK ks) ∧ PD K H ks D
  nd : (D.map (·.1)).Nodup
def rEqDk (K : PySem.W.Frag) : R2 := fun x y H Q => ∃ a b D E, x = .ref a ∧ y = .ref b ∧ DD K H a D ∧ DD K H b E ∧ Q (.bl (eqBy PyData.eqv D E)) H
/-- a dict of dicts of data; none of the dicts stands in l too -/
structure DDD (K : PySem.W.Frag) (H : Hp) (a : Addr) (D : List (Key × List (Key × PyData))) (l : List Addr) : Prop where
  ex : ∃ ks, Rd H a (.dK ks) ∧ Paired (fun p q => p.1 = q.1 ∧ ∃ c, p.2 = .ref c ∧ c ∈ l ∧ DD K H c q.2) ks D
  nd : (D.map (·.1)).Nodup
def rEqDDk (K : PySem.W.Frag) : R2 := fun x y H Q => ∃ a b D E l m, x = .ref a ∧ y = .ref b ∧ DDD K H a D l ∧ DDD K H b E m ∧ (∀ c ∈ l, c ∉ m) ∧ Q (.bl (eqBy (eqBy PyData.eqv) D E)) H
section
variable {X : Cx} {pins : List (Addr × Obj)} {σ : L2.St} {H : Hp} {s : Shared}
theorem leafT (I : Inv X pins σ H s) {x y : V} {v u : Value} {d e : PyData} (rx : RelV x v) (ry : RelV y u) (hd : Dp X.K H x d) (he : Dp X.K H y e) (sd : SeqAt.shaped d = true) (se : SeqAt.shaped e = true) :
    PySem.W.EqTree X.prog X.w s 64 v u (PyData.eqv d e) := by
  obtain ⟨as, r1⟩ := Dp.reads I d x v hd rx
  obtain ⟨bs, r2⟩ := Dp.reads I e y u he ry
  exact .leaf fun A hu => SeqAt.eqAt_reads d e A s v u as bs r1 r2 (SeqAt.canLay_of_shaped sd) (SeqAt.canLay_of_shaped se) (SeqAt.room_of_shaped sd hu)
theorem stepT (I : Inv X pins σ H s) : ∀ v u (x y : V) (b c : PyData), RelV x v → RelV y u → (Dp X.K H x b ∧ SeqAt.shaped b = true) → (Dp X.K H y c ∧ SeqAt.shaped c = true) → PySem.W.EqTree X.prog X.w s 64 v u (PyData.eqv b c) :=
  fun v u x y b c rx ry h1 h2 => leafT I rx ry h1.1 h2.1 h1.2 h2.2
theorem op_eqDk (hu : X.A.units + 66 < cLine) : OpR X (compareOp .Eq) (rEqDk X.K) := by
  intro pins s σ H x y v u Q I rx ry h
  obtain ⟨a, b, D, E, rfl, rfl, ⟨⟨ks, ha, pd⟩, nd⟩, ⟨⟨ls, hb, pe⟩, _⟩, q⟩ := h
  cases rx
  cases ry
  obtain ⟨_, ya, va, ra, da⟩ := dk_rd I.hok ha
  obtain ⟨_, yb, vb, rb, db⟩ := dk_rd I.hok hb
  have nk : (ks.map (·.1)).Nodup := by
    rw [keys_pair (R := fun x d => Dp X.K H x d ∧ SeqAt.shaped d = true) pd]
    exact nd
  refine PySem.W.eq_dictsT (n := 64) ya yb da db (tree_at (eq := PyData.eqv) (R := fun x d => Dp X.K H x d ∧ SeqAt.shaped d = true) ra rb pd pe nk fun p _ q _ v u b c r1 r2 h1 h2 => stepT I _ _ _ _ _ _ r1 r2 h1 h2) (by omega) ?_
  rw [all_at' (eq := PyData.eqv) (R := fun x d => Dp X.K H x d ∧ SeqAt.shaped d = true) ra rb pd pe]
  exact ⟨.bl _, H, I, rfl, q⟩
theorem op_eqDDk (hu : X.A.units + 67 < cLine) : OpR X (compareOp .Eq) (rEqDDk X.K) := by
  intro pins s σ H x y v u Q I rx ry h
  obtain ⟨a, b, D, E, l, m, rfl, rfl, ⟨⟨ks, ha, pd⟩, nd⟩, ⟨⟨ls, hb, pe⟩, _⟩, nlm, q⟩ := h
  cases rx
  cases ry
  obtain ⟨_, ya, va, ra, da⟩ := dk_rd I.hok ha
  obtain ⟨_, yb, vb, rb, db⟩ := dk_rd I.hok hb
  have pd' : Paired (fun (p : Key × V) (q : Key × List (Key × PyData)) => p.1 = q.1 ∧ (fun x d => ∃ c, x = V.ref c ∧ (c ∈ l ∨ c ∈ m) ∧ DD X.K H c d) p.2 q.2) ks D := Paired.mapP pd fun p q h => ⟨h.1, by
    obtain ⟨_, c, e1, e2, e3⟩ := h
    exact ⟨c, e1, .inl e2, e3⟩⟩
  have pe' : Paired (fun (p : Key × V) (q : Key × List (Key × PyData)) => p.1 = q.1 ∧ (fun x d => ∃ c, x = V.ref c ∧ (c ∈ l ∨ c ∈ m) ∧ DD X.K H c d) p.2 q.2) ls E := Paired.mapP pe fun p q h => ⟨h.1, by
    obtain ⟨_, c, e1, e2, e3⟩ := h
    exact ⟨c, e1, .inr e2, e3⟩⟩
  have nk : (ks.map (·.1)).Nodup := by
    rw [keys_pair (R := fun x d => ∃ c, x = V.ref c ∧ (c ∈ l ∨ c ∈ m) ∧ DD X.K H c d) pd']
    exact nd
  have inl' : ∀ p ∈ ks, ∃ c, p.2 = V.ref c ∧ c ∈ l := fun p hp => by
    obtain ⟨q, _, _, c, e1, e2, _⟩ := memP pd hp
    exact ⟨c, e1, e2⟩
  have inm' : ∀ p ∈ ls, ∃ c, p.2 = V.ref c ∧ c ∈ m := fun p hp => by
    obtain ⟨q, _, _, c, e1, e2, _⟩ := memP pe hp
    exact ⟨c, e1, e2⟩
  refine PySem.W.eq_dictsT (n := 65) ya yb da db (tree_at (eq := eqBy PyData.eqv) (R := fun x d => ∃ c, x = V.ref c ∧ (c ∈ l ∨ c ∈ m) ∧ DD X.K H c d) ra rb pd' pe' nk fun p hp q hq v u b c r1 r2 h1 h2 => ?_) (by omega) ?_
  · obtain ⟨a', e1, m1⟩ := inl' p hp
    obtain ⟨b', e2, m2⟩ := inm' q hq
    obtain ⟨a2, f1, _, ⟨⟨k1, ra', pd1⟩, nd1⟩⟩ := h1
    obtain ⟨b2, f2, _, ⟨⟨k2, rb', pe1⟩, _⟩⟩ := h2
    rw [e1] at f1 r1
    rw [e2] at f2 r2
    cases f1
    cases f2
    cases r1
    cases r2
    have ne : a' ≠ b' := fun z => nlm a' m1 (z ▸ m2)
    obtain ⟨_, ya1, va1, ra1, da1⟩ := dk_rd I.hok ra'
    obtain ⟨_, yb1, vb1, rb1, db1⟩ := dk_rd I.hok rb'
    have nk1 : (k1.map (·.1)).Nodup := by
      rw [keys_pair (R := fun x d => Dp X.K H x d ∧ SeqAt.shaped d = true) pd1]
      exact nd1
    have T := PySem.W.EqTree.dicts ne ya1 yb1 da1 db1 (tree_at (eq := PyData.eqv) (R := fun x d => Dp X.K H x d ∧ SeqAt.shaped d = true) ra1 rb1 pd1 pe1 nk1 fun p _ q _ v u b c r1 r2 h1 h2 => stepT I _ _ _ _ _ _ r1 r2 h1 h2)
    rw [all_at' (eq := PyData.eqv) (R := fun x d => Dp X.K H x d ∧ SeqAt.shaped d = true) ra1 rb1 pd1 pe1] at T
    exact T
  rw [all_at' (eq := eqBy PyData.eqv) (R := fun x d => ∃ c, x = V.ref c ∧ (c ∈ l ∨ c ∈ m) ∧ DD X.K H c d) ra rb pd' pe']
  exact ⟨.bl _, H, I, rfl, q⟩
end
end Dq1

set_option Elab.async false
set_option linter.all false
set_option maxRecDepth 100000
set_option maxHeartbeats 2000000
/-! sorted(set(xs)), xs a short list of tuples of texts. -/
namespace Sx
open PySem PySem.Spec PyProof.Rows L2
section
variable {P : Program} {w : World} {A : Around} {E : Value → Shared → Prop} {s : Shared}
abbrev Tx (P : Program) (w : World) (g : Heap) (c : Addr) (k : List Str) : Prop := IsTupleKey (PySem.strKind P w) g k c
abbrev hx (P : Program) (w : World) (k : List Str) : Int := tupleKeyHash (PySem.strKind P w) k
theorem texts_of {k : List Str} {vs : List Value} (z : ItemsAre (PySem.strKind P w) k vs) : ∀ v ∈ vs, ∃ y t, v = Value.str y t := by
  induction z with
  | nil => exact fun _ n => nomatch n
  | cons e _ ih =>
    intro v m
    rcases List.mem_cons.mp m with rfl | m
    · exact ⟨_, Value.isStrOf_shape e⟩
    · exact ih v m
theorem cls_str (n : Nat) (y : Str) (t : Tok) : ofAClassStatement n (.str y t) = pure false := by cases n <;> rfl
theorem byv_str (n : Nat) (y : Str) (t : Tok) : hashByValue n (.str y t) = pure false := by cases n <;> rfl
theorem cls_tx {k : List Str} {b : Addr} {Q : Bool → Shared → Prop} (z : Tx P w s.heap b k) (q : Q false s) : wpAny (model P w) A (ofAClassStatement 8 (.ref b)) Q E s := by
  have ty := z.typeIs
  obtain ⟨o, its, n, ho, _, hd, hi⟩ := z
  unfold ofAClassStatement
  refine wpAny_bind (wpAny_typeOf ty ?_)
  dsimp only
  have e : (("tuple" : String) == "tuple") = true := by decide
  simp only [e, if_true, Bool.not_true, Bool.false_eq_true, if_false]
  try refine wpAny_bind (wpAny_pure ?_)
  try simp only [Bool.not_true, Bool.false_eq_true, if_false]
  show wpAny _ _ (seqItems? (.ref b) >>= _) _ _ s
  refine wpAny_bind (wpAny_seqItems ho hd ?_)
  dsimp only
  refine wpAny_bind ?_
  show wpAny _ _ (forIn its _ _) _ _ s
  rw [← Array.forIn_toList]
  refine wpAny_forIn_list _ (fun rest r s1 => r.1 = none ∧ s1 = s ∧ ∀ v ∈ rest, ∃ y t, v = Value.str y t) _ ?_ ?_ _ _ ⟨rfl, rfl, texts_of hi⟩
  · rintro v rest r s1 ⟨hr, rfl, all⟩
    obtain ⟨y, t, rfl⟩ := all v List.mem_cons_self
    rw [cls_str]
    refine wpAny_bind (wpAny_pure ?_)
    simp only [Bool.false_eq_true, if_false]
    exact wpAny_pure ⟨rfl, rfl, fun u m => all u (List.mem_cons_of_mem _ m)⟩
  · rintro ⟨r1, r2⟩ s1 ⟨hr, rfl, _⟩
    simp only at hr
    subst hr
    exact wpAny_pure q
theorem byv_tx {k : List Str} {b : Addr} {Q : Bool → Shared → Prop} (z : Tx P w s.heap b k) (q : ∀ r, Q r s) : wpAny (model P w) A (hashByValue 8 (.ref b)) Q E s := by
  have ty := z.typeIs
  obtain ⟨o, its, n, ho, _, hd, hi⟩ := z
  unfold hashByValue
  refine wpAny_bind (wpAny_specialOf ty F.slot_tuple_hash.lookup ?_)
  show wpAny _ _ (seqItems? (.ref b) >>= _) _ _ s
  refine wpAny_bind (wpAny_seqItems ho hd ?_)
  refine wpAny_bind ?_
  show wpAny _ _ (forIn its _ _) _ _ s
  rw [← Array.forIn_toList]
  refine wpAny_forIn_list _ (fun rest r s1 => r.1 = none ∧ s1 = s ∧ ∀ v ∈ rest, ∃ y t, v = Value.str y t) _ ?_ ?_ _ _ ⟨rfl, rfl, texts_of hi⟩
  · rintro v rest r s1 ⟨hr, rfl, all⟩
    obtain ⟨y, t, rfl⟩ := all v List.mem_cons_self
    rw [byv_str]
    refine wpAny_bind (wpAny_pure ?_)
    simp only [Bool.not_false, if_true]
    exact wpAny_pure (wpAny_pure (q _))
  · rintro ⟨r1, r2⟩ s1 ⟨hr, rfl, _⟩
    simp only at hr
    subst hr
    exact wpAny_pure (q _)
theorem unseen {k : List Str} {b : Addr} {Q : Bool → Shared → Prop} (z : Tx P w s.heap b k) {ys : List Value} (hy : ∀ y ∈ ys, ∃ k2 c, y = Value.ref c ∧ Tx P w s.heap c k2) (q : Q false s) :
    wpAny (model P w) A (searchCouldBeSeen (.ref b) ys) Q E s := by
  unfold searchCouldBeSeen
  refine wpAny_bind ?_
  refine wpAny_forIn_list _ (fun rest r s1 => r.1 = none ∧ s1 = s ∧ ∀ y ∈ rest, ∃ k2 c, y = Value.ref c ∧ Tx P w s.heap c k2) _ ?_ ?_ _ _ ⟨rfl, rfl, hy⟩
  · rintro v rest r s1 ⟨hr, rfl, all⟩
    obtain ⟨k2, c, rfl, hc⟩ := all v List.mem_cons_self
    have more : ∀ y ∈ rest, ∃ k2 c, y = Value.ref c ∧ Tx P w s1.heap c k2 := fun u m => all u (List.mem_cons_of_mem _ m)
    dsimp only
    by_cases same : (b == c || (carriedByValue (.ref b) && carriedByValue (.ref c))) = true
    · refine wp_if_pos same ?_
      exact wpAny_pure ⟨rfl, rfl, more⟩
    · refine wp_if_neg same ?_
      refine wpAny_bind (wpAny_eqIsQuiet_tuple z ?_)
      simp only [Bool.not_true, Bool.false_eq_true, if_false]
      refine wpAny_bind (wpAny_eqIsQuiet_tuple hc ?_)
      simp only [Bool.not_true, Bool.false_eq_true, if_false]
      refine wpAny_bind (cls_tx z ?_)
      simp only [Bool.false_eq_true, if_false]
      refine wpAny_bind (cls_tx hc ?_)
      simp only [Bool.false_eq_true, if_false]
      exact wpAny_pure ⟨rfl, rfl, more⟩
  · rintro ⟨r1, r2⟩ s1 ⟨hr, rfl, _⟩
    simp only at hr
    subst hr
    exact wpAny_pure q
/-- a small set of tuples of texts -/
structure Tab (P : Program) (w : World) (g : Heap) (a : Addr) (L : List (Addr × List Str)) (es : Array (Int × Value)) (ep : Nat) (t : SetTable) : Prop where
  obj : ∃ o, g.get? a = some o ∧ o.ExactSet ∧ o.data = .set es ep t
  ent : es.toList = L.map fun p => (hx P w p.2, Value.ref p.1)
  tab : TabOk t (L.map fun p => hx P w p.2)
  uniq : (L.map (·.2)).Nodup
  tups : ∀ p ∈ L, Tx P w g p.1 p.2
  led : w.params.followText "set-order" = true ∨ t.led = true
  m7 : t.mask = 7
  few : L.length ≤ 4
variable {a : Addr} {L : List (Addr × List Str)} {es : Array (Int × Value)} {ep : Nat} {t : SetTable}
theorem Tab.size (S : Tab P w s.heap a L es ep t) : es.size = L.length := by
  rw [← Array.length_toList, S.ent, List.length_map]
theorem Tab.place (S : Tab P w s.heap a L es ep t) : t.place.size = L.length := by
  rw [S.tab.sz, List.length_map]
theorem Tab.fits (S : Tab P w s.heap a L es ep t) : t.fits es.size = true := by
  have h1 := S.place
  have h2 := S.size
  have h3 := S.few
  have h4 := S.m7
  unfold SetTable.fits SetTable.fill
  rw [S.tab.dm, Bool.and_eq_true, beq_iff_eq, decide_eq_true_eq]
  show t.place.size = es.size ∧ t.place.size + 0 ≤ t.mask
  omega
theorem Tab.at_ (S : Tab P w s.heap a L es ep t) {i : Nat} {p : Addr × List Str} (e : L[i]? = some p) : es[i]? = some (hx P w p.2, Value.ref p.1) := by
  rw [← Array.getElem?_toList, S.ent, List.getElem?_map, e]
  rfl
theorem Tab.gave (S : Tab P w s.heap a L es ep t) : ¬ t.gaveWay = true := by
  unfold SetTable.gaveWay
  rw [S.m7]
  decide
theorem nodum (m : Nat) : ∀ (n : Nat) (p : SetTable.Probe), p.dummy = none → (nth m p n).dummy = none
  | 0, _, e => e
  | n + 1, p, e => nodum m n (adv m p) (by
    unfold adv
    split <;> exact e)
theorem srch (S : Tab P w s.heap a L es ep t) {x : Addr} {k : List Str} (z : Tx P w s.heap x k) (hu : A.units < cLine) {N : Nat} (hN : N < 10 * SetTable.turns t.mask)
    (out : way t.mask (hx P w k) N ∉ t.place.toList) (ins : ∀ c, c < N → way t.mask (hx P w k) c ∈ t.place.toList) {Q : SetFound → Shared → Prop}
    (yes : k ∈ L.map (·.2) → Q (.there none) s) (no : k ∉ L.map (·.2) → Q (.free (way t.mask (hx P w k) N) false) s) :
    ∀ (f c : Nat) (from_ : Option SetTable.Probe), from_.getD (t.probeStart (hx P w k)) = nth t.mask (runAt t.mask (SetTable.bits (hx P w k) % (t.mask + 1)) (SetTable.bits (hx P w k))) c → c ≤ N → N - c < f →
      (∀ (i : Nat) p, L[i]? = some p → p.2 = k → ∃ d, c ≤ d ∧ d < N ∧ t.place.toList[i]? = some (way t.mask (hx P w k) d)) →
      wpAny (model P w) A (setSearchFrom a (.ref x) (hx P w k) true f from_) Q E s
  | 0, _, _, _, _, hf, _ => absurd hf (Nat.not_lt_zero _)
  | f + 1, c, from_, hst, hc, hf, stay => by
    obtain ⟨o, ho, hex, hd⟩ := S.obj
    rw [setSearchFrom_succ]
    refine wpAny_bind (wpAny_setState_of ho hd S.fits ?_)
    dsimp only
    refine wp_if_neg S.gave ?_
    try refine wpAny_bind (wpAny_pure ?_)
    generalize hR : runAt t.mask (SetTable.bits (hx P w k) % (t.mask + 1)) (SetTable.bits (hx P w k)) = R at hst
    have wy : ∀ n, (nth t.mask R n).j = way t.mask (hx P w k) n := fun n => by rw [← hR]
    have nd : (nth t.mask R c).dummy = none := nodum _ _ _ (by rw [← hR]; rfl)
    have e1 : ∀ q, (nth t.mask (nth t.mask R c) q).j = way t.mask (hx P w k) (c + q) := fun q => by rw [← nth_add, wy]
    have back : c + (N - c) = N := by omega
    have spec := go_spec t S.tab.ris S.tab.dm (fun i => (es[i]?.map (·.1)).getD 0) (hx P w k) (10 * SetTable.turns t.mask) (N - c) _ nd (by omega)
      (fun q hq => by rw [e1]; exact ins (c + q) (by omega)) (by rw [e1, back]; exact out)
    have hAt : ∀ (i : Nat) p, L[i]? = some p → (es[i]?.map (·.1)).getD 0 = hx P w p.2 := fun i p e => by
      rw [S.at_ e]
      rfl
    rcases spec with ⟨q, i, hq, hi, hh, hno, hpr⟩ | ⟨hno, hpr⟩
    · have probe : t.probe (fun i => (es[i]?.map (·.1)).getD 0) (hx P w k) (from_.getD (t.probeStart (hx P w k))) = some (.candidate (way t.mask (hx P w k) (c + q)) i (nth t.mask R (c + (q + 1)))) := by
        rw [hst, ← e1, nth_add]
        exact hpr
      rw [probe]
      dsimp only
      rw [e1] at hi
      have il : i < L.length := by
        have h1 : i < t.place.toList.length := (List.getElem?_eq_some_iff.mp hi).1
        rw [Array.length_toList, S.place] at h1
        exact h1
      obtain ⟨p, hp⟩ : ∃ p, L[i]? = some p := ⟨_, List.getElem?_eq_getElem il⟩
      have pm : p ∈ L := List.mem_of_getElem? hp
      have tp := S.tups p pm
      have rest : wpAny (model P w) A (searchRest a (.ref x) (hx P w k) true f es t (way t.mask (hx P w k) (c + q)) i (nth t.mask R (c + (q + 1)))) Q E s := by
        unfold searchRest
        rw [S.at_ hp]
        dsimp only
        refine wpAny_bind (wpAny_holding (wpAny_eqBool_tuple hu tp z ?_))
        refine wpAny_bind (wpAny_setState_of ho hd S.fits ?_)
        dsimp only
        by_cases kk : p.2 = k
        · refine wp_if_pos (by simp [kk]) ?_
          exact wpAny_pure (yes (List.mem_map.mpr ⟨p, pm, kk⟩))
        · refine wp_if_neg (by simp [kk]) ?_
          try refine wpAny_bind (wpAny_pure ?_)
          rw [sameMem]
          dsimp only
          have sl : t.slot (way t.mask (hx P w k) (c + q)) = .live i := slot_live S.tab.ris hi
          simp only [if_true, sl, S.at_ hp]
          refine wpAny_bind (wpAny_isSame_ref_self (wpAny_bind (wpAny_pure ?_)))
          simp only [if_true]
          refine wp_if_neg (by simp [kk]) ?_
          refine srch S z hu hN out ins yes no f (c + (q + 1)) _ (by rw [hR]; rfl) (by omega) (by omega) fun i0 p0 h0 k0 => ?_
          obtain ⟨d, d1, d2, d3⟩ := stay i0 p0 h0 k0
          refine ⟨d, ?_, d2, d3⟩
          rcases Nat.lt_trichotomy d (c + q) with y | y | y
          · refine absurd ((hAt i0 p0 h0).trans (congrArg (hx P w) k0)) (hno (d - c) i0 (by omega) ?_)
            rw [e1, show c + (d - c) = d from by omega]
            exact d3
          · rw [y] at d3
            have s0 := slot_live S.tab.ris d3
            rw [sl] at s0
            injection s0 with s0
            rw [← s0, hp] at h0
            exact absurd ((congrArg Prod.snd (Option.some.inj h0)).trans k0) kk
          · omega
      by_cases ld : t.led = true
      · refine wp_if_neg (by simp [ld]) ?_
        try refine wpAny_bind (wpAny_pure ?_)
        exact rest
      · refine wp_if_pos (by simp [ld]) ?_
        refine wpAny_bind (unseen z (fun y hy => ?_) ?_)
        · obtain ⟨e, he, ee⟩ := List.mem_map.mp hy
          have he1 : e ∈ es ∧ e.1 = hx P w k := by simpa using he
          have he2 : e ∈ es.toList := by simpa using he1.1
          rw [S.ent] at he2
          obtain ⟨p2, hp2, e2⟩ := List.mem_map.mp he2
          exact ⟨p2.2, p2.1, by rw [← ee, ← e2], S.tups p2 hp2⟩
        · refine wp_if_neg (by decide) ?_
          try refine wpAny_bind (wpAny_pure ?_)
          exact rest
    · have probe : t.probe (fun i => (es[i]?.map (·.1)).getD 0) (hx P w k) (from_.getD (t.probeStart (hx P w k))) = some (.empty (way t.mask (hx P w k) N) none) := by
        have e2 : way t.mask (hx P w k) N = (nth t.mask (nth t.mask R c) (N - c)).j := by rw [e1, back]
        rw [hst, e2]
        exact hpr
      rw [probe]
      dsimp only
      refine wpAny_pure (no fun m => ?_)
      obtain ⟨p0, h0, k0⟩ := List.mem_map.mp m
      obtain ⟨i0, hi0, e0⟩ := List.getElem_of_mem h0
      have h00 : L[i0]? = some p0 := by rw [List.getElem?_eq_getElem hi0, e0]
      obtain ⟨d, d1, d2, d3⟩ := stay i0 p0 h00 k0
      refine hno (d - c) i0 (by omega) ?_ ((hAt i0 p0 h00).trans (congrArg (hx P w) k0))
      rw [e1, show c + (d - c) = d from by omega]
      exact d3
theorem find_ (S : Tab P w s.heap a L es ep t) {x : Addr} {k : List Str} (z : Tx P w s.heap x k) (hu : A.units < cLine) {Q : SetFound → Shared → Prop} (yes : k ∈ L.map (·.2) → Q (.there none) s)
    (no : ∀ N, k ∉ L.map (·.2) → way t.mask (hx P w k) N ∉ t.place.toList → (∀ c, c < N → way t.mask (hx P w k) c ∈ t.place.toList) → Q (.free (way t.mask (hx P w k) N) false) s) :
    wpAny (model P w) A (setSearch a (.ref x) (hx P w k) true) Q E s := by
  have few := S.few
  obtain ⟨N, n1, n2, n3⟩ := S.tab.first (by rw [List.length_map, S.m7]; omega) (hx P w k)
  have big : N < 100000 := by
    have : 10 * SetTable.turns t.mask ≤ 1420 := by
      unfold SetTable.turns
      rw [S.m7]
      omega
    omega
  unfold setSearch
  refine srch S z hu n1 n2 n3 yes (fun m => no N m n2 n3) 100000 0 none rfl (Nat.zero_le _) (by omega) fun i p hp kk => ?_
  have hi : (L.map fun p => hx P w p.2)[i]? = some (hx P w k) := by
    rw [List.getElem?_map, hp, ← kk]
    rfl
  have il : i < t.place.toList.length := by
    rw [Array.length_toList, S.place]
    exact (List.getElem?_eq_some_iff.mp hp).1
  have hj := List.getElem?_eq_getElem il
  obtain ⟨c, hc, e⟩ := S.tab.before n2 hi hj
  exact ⟨c, Nat.zero_le _, hc, by rw [hj, e]⟩
theorem tx_but {g g1 : Heap} {k : List Str} {b : Addr} {o : Obj} (z : Tx P w g b k) (ho : g.get? a = some o) (hd : o.data = .set es ep t) (but : Heap.SameBut a g g1) : Tx P w g1 b k := by
  obtain ⟨o1, its, n, h1, hc, h2, hi⟩ := z
  have ne : b ≠ a := fun c => by
    rw [c, ho] at h1
    cases h1
    rw [hd] at h2
    exact nomatch h2
  exact ⟨o1, its, n, (but.2 b ne).trans h1, hc, h2, hi⟩
theorem tx_keep {g g1 : Heap} {k : List Str} {b : Addr} (z : Tx P w g b k) (kp : ∀ c o, g.get? c = some o → g1.get? c = some o) : Tx P w g1 b k := by
  obtain ⟨o1, its, n, h1, r⟩ := z
  exact ⟨o1, its, n, kp _ _ h1, r⟩
theorem Tab.keep {g g1 : Heap} (S : Tab P w g a L es ep t) (ka : ∀ o, g.get? a = some o → g1.get? a = some o) (kt : ∀ p ∈ L, Tx P w g1 p.1 p.2) : Tab P w g1 a L es ep t := by
  obtain ⟨o, ho, r⟩ := S.obj
  exact ⟨⟨o, ka o ho, r⟩, S.ent, S.tab, S.uniq, kt, S.led, S.m7, S.few⟩
/-- adding -/
theorem put_ (S : Tab P w s.heap a L es ep t) {x : Addr} {k : List Str} (z : Tx P w s.heap x k) (hu : A.units < cLine) (few : L.length + 1 ≤ 4) {Q : Bool → Shared → Prop}
    (q : ∀ b g L1 es1 ep1 t1, Heap.SameBut a s.heap g → Tab P w g a L1 es1 ep1 t1 → (k ∈ L.map (·.2) → L1 = L) → (k ∉ L.map (·.2) → L1.Perm ((x, k) :: L)) → Q b { s with heap := g }) :
    wpAny (model P w) A (setAddHashed a (.ref x) (hx P w k)) Q E s := by
  obtain ⟨o, ho, hex, hd⟩ := S.obj
  unfold setAddHashed
  refine wpAny_holding ?_
  rw [show (100000 : Nat) = 99999 + 1 from rfl, setAddHashedIn_succ]
  refine wpAny_bind (wpAny_setState_of ho hd S.fits ?_)
  dsimp only
  refine wp_if_neg (by simp [byScan, Value.scannable]) ?_
  try refine wpAny_bind (wpAny_pure ?_)
  refine wpAny_bind (find_ S z hu (fun m => ?_) fun N m n2 n3 => ?_)
  · dsimp only
    exact wpAny_pure (q false s.heap L es ep t (Heap.SameBut.refl a s.heap) S (fun _ => rfl) fun c => absurd m c)
  dsimp only
  refine wpAny_bind (wpAny_setState_of ho hd S.fits ?_)
  dsimp only
  obtain ⟨q1, q2, q3, q4, q5, q6, q7, q8, q9⟩ := S.tab.put n2 n3
  generalize et : t.put (way t.mask (hx P w k) N) = pt at q1 q3 q4 q5 q6 q7 q8 q9 ⊢
  obtain ⟨t1, i⟩ := pt
  dsimp only at q1 q3 q4 q5 q6 q7 q8 q9 ⊢
  subst q1
  have ins : (SetTable.insertAt es (SetTable.below t.place (way t.mask (hx P w k) N)) (hx P w k, Value.ref x)).toList = (L.take (SetTable.below t.place (way t.mask (hx P w k) N)) ++ (x, k) :: L.drop (SetTable.below t.place (way t.mask (hx P w k) N))).map fun p => (hx P w p.2, Value.ref p.1) := by
    rw [SetTable.toList_insertAt, S.ent, List.map_append, List.map_cons, List.map_take, List.map_drop]
  have hs : (L.take (SetTable.below t.place (way t.mask (hx P w k) N)) ++ (x, k) :: L.drop (SetTable.below t.place (way t.mask (hx P w k) N))).map (fun p => hx P w p.2) = (L.map fun p => hx P w p.2).take (SetTable.below t.place (way t.mask (hx P w k) N)) ++ hx P w k :: (L.map fun p => hx P w p.2).drop (SetTable.below t.place (way t.mask (hx P w k) N)) := by
    rw [List.map_append, List.map_cons, List.map_take, List.map_drop]
  rw [← hs] at q3
  have pm := put_perm L (SetTable.below t.place (way t.mask (hx P w k) N)) (x, k)
  generalize SetTable.below t.place (way t.mask (hx P w k) N) = i at q2 q3 ins pm ⊢
  have ln := pm.length_eq
  rw [List.length_cons] at ln
  have un : ((L.take i ++ (x, k) :: L.drop i).map (·.2)).Nodup := (pm.map (·.2)).nodup_iff.mpr (List.nodup_cons.mpr ⟨m, S.uniq⟩)
  have zs : (SetTable.insertAt es i (hx P w k, Value.ref x)).size = L.length + 1 := by
    rw [← Array.length_toList, ins, List.length_map, ln]
  generalize SetTable.insertAt es i (hx P w k, Value.ref x) = es1 at ins zs ⊢
  generalize L.take i ++ (x, k) :: L.drop i = L1 at pm ln q3 un ins
  have fin : ∀ t2 : SetTable, t2.place = t1.place → t2.dummies = t1.dummies → t2.mask = t1.mask → t2.led = t1.led → t2.fill = L.length + 1 → wpAny (model P w) A (do
      storeSet a es1 t2
      if !false && t2.tooFull then setRelay a (SetTable.grown (es.size + 1))
      return true) Q E s := fun t2 p1 p2 p3 p4 p5 => by
    refine wpAny_bind (wpAny_storeSet_of ho hd ?_ (by rw [zs, sizeLine_eq]; omega))
    have nf : t2.tooFull = false := by
      unfold SetTable.tooFull
      rw [p5, p3, q4, S.m7]
      exact decide_eq_false (by omega)
    rw [nf]
    have sb : Heap.SameBut a s.heap (s.heap.update a (Obj.putSet es1 t2)) := Heap.SameBut.update ..
    have T2 : TabOk t2 (L1.map fun p => hx P w p.2) := by
      have mw : ∀ h c, way t2.mask h c = way t1.mask h c := fun h c => by rw [p3]
      exact ⟨by rw [p1]; exact q3.ris, by rw [p2]; exact q3.dm, by rw [p1]; exact q3.sz, by rw [p3]; exact q3.mok, by rw [p1, p3]; exact q3.bd, by
        intro i h j e1 e2
        rw [p1] at e2
        obtain ⟨c, c1, c2⟩ := q3.reach i h j e1 e2
        exact ⟨c, by rw [mw]; exact c1, fun d dl => by rw [mw, p1]; exact c2 d dl⟩⟩
    refine wpAny_bind (wpAny_pure ?_)
    refine wpAny_pure (q true _ L1 es1 (ep + 1) t2 sb ⟨⟨_, store_at ho hd, ⟨hex.1, hex.2.1, hex.2.2⟩, rfl⟩, ins, T2, un, fun p hp => ?_, ?_, by rw [p3, q4]; exact S.m7, by omega⟩ (fun c => absurd c m) fun _ => pm)
    · rcases List.mem_cons.mp (pm.mem_iff.mp hp) with e | hp
      · rw [e]
        exact tx_but z ho hd sb
      · exact tx_but (S.tups p hp) ho hd sb
    · rw [p4, q5]
      exact S.led
  have f9 : t1.fill = L.length + 1 := by rw [q9, List.length_map]
  by_cases hp : t1.plain = true
  · refine wp_if_pos hp (wpAny_bind (byv_tx z fun r => ?_))
    cases r with
    | true => exact fin t1 rfl rfl rfl rfl f9
    | false => exact fin { t1 with plain := false } rfl rfl rfl rfl f9
  · refine wp_if_neg hp (wpAny_bind (wpAny_pure ?_))
    exact fin t1 rfl rfl rfl rfl f9
/-- what the set has of the first i items -/
structure Has (ks : List (Addr × List Str)) (i : Nat) (L : List (Addr × List Str)) : Prop where
  sub : ∀ p ∈ L, p ∈ ks.take i
  all : ∀ p ∈ ks.take i, p.2 ∈ L.map (·.2)
  len : L.length ≤ i
theorem Has.next {ks L L1 : List (Addr × List Str)} {i : Nat} {p : Addr × List Str} (g : Has ks i L) (e : ks[i]? = some p) (c1 : p.2 ∈ L.map (·.2) → L1 = L) (c2 : p.2 ∉ L.map (·.2) → L1.Perm (p :: L)) : Has ks (i + 1) L1 := by
  have tk : ks.take (i + 1) = ks.take i ++ [p] := by
    rw [List.take_add_one, e]
    rfl
  rcases Classical.em (p.2 ∈ L.map (·.2)) with c | c
  · rw [c1 c]
    refine ⟨fun q hq => by rw [tk]; exact List.mem_append_left _ (g.sub q hq), fun q hq => ?_, Nat.le_succ_of_le g.len⟩
    rw [tk] at hq
    rcases List.mem_append.mp hq with h | h
    · exact g.all q h
    · rw [List.mem_singleton.mp h]
      exact c
  · have pm := c2 c
    refine ⟨fun q hq => ?_, fun q hq => ?_, ?_⟩
    · rw [tk]
      rcases List.mem_cons.mp (pm.mem_iff.mp hq) with h | h
      · exact List.mem_append_right _ (List.mem_singleton.mpr h)
      · exact List.mem_append_left _ (g.sub q h)
    · rw [tk] at hq
      refine (pm.map (·.2)).mem_iff.mpr ?_
      rw [List.map_cons]
      rcases List.mem_append.mp hq with h | h
      · exact List.mem_cons_of_mem _ (g.all q h)
      · rw [List.mem_singleton.mp h]
        exact List.mem_cons_self
    · rw [pm.length_eq]
      exact Nat.succ_le_succ g.len
theorem tab0 {g : Heap} {a : Addr} (ho : g.get? a = some { cls := .type "set", dict := none, data := .set #[] 0 (.fresh 0 0 (!w.params.followText "set-order")) }) : Tab P w g a [] #[] 0 (.fresh 0 0 (!w.params.followText "set-order")) where
  obj := ⟨_, ho, ⟨rfl, rfl, rfl⟩, rfl⟩
  ent := rfl
  tab := ⟨List.Pairwise.nil, rfl, rfl, .inl rfl, fun _ m => (by cases m), fun i h j e => (by simp at e)⟩
  uniq := List.nodup_nil
  tups := fun _ m => nomatch m
  led := by
    show _ ∨ (!w.params.followText "set-order") = true
    cases w.params.followText "set-order" <;> simp
  m7 := rfl
  few := Nat.zero_le _
theorem fill {I : Addr} {fp wr : List Addr} {G : Array GenState → Array GenState → Prop} {n : Nat} {Pv : Nat → Value → Prop} {St : Nat → Shared → Prop} {R : Result → Shared → Prop}
    (W : WalksS P w A.in1 I fp wr G n Pv St) (D : Addr) (dfp : D ∉ fp) (ks : List (Addr × List Str)) (hn : n = ks.length) (few : ks.length ≤ 4) (val : ∀ i v, Pv i v → ∃ p, ks[i]? = some p ∧ v = .ref p.1)
    (h0 : Heap) (hk : ∀ p ∈ ks, Tx P w h0 p.1 p.2) (d0 : h0.get? D = none) (w0 : ∀ b ∈ wr, h0.get? b = none) (hu : A.in1.units < cLine) :
    ∀ (k i : Nat) (s : Shared), n - i = k → i ≤ n → St i s → (∀ b o, h0.get? b = some o → s.heap.get? b = some o) → (∃ L es ep t, Tab P w s.heap D L es ep t ∧ Has ks i L) →
      (∀ s1 L es ep t, Moved (D :: wr) G s s1 → Tab P w s1.heap D L es ep t → Has ks n L → (∀ b o, h0.get? b = some o → s1.heap.get? b = some o) → R (.ok (.ret .none)) s1) →
      codeAny (model P w) A (.builtin "set.update.loop" ⟨[.ref D, .ref I], []⟩) R s := by
  have dwr : D ∉ wr := fun m => dfp (W.sub _ m)
  have up : ∀ b ∈ wr, b ∈ D :: wr := fun b m => List.mem_cons_of_mem _ m
  have keepM : ∀ {s s1 : Shared}, Moved wr G s s1 → (∀ b o, h0.get? b = some o → s.heap.get? b = some o) → ∀ b o, h0.get? b = some o → s1.heap.get? b = some o := fun mv kp b o e =>
    mv.heap b o (fun m => by rw [w0 b m] at e; cases e) (kp b o e)
  intro k
  induction k with
  | zero =>
    intro i s ki hi st kp ⟨L, es, ep, t, T, g⟩ hR
    obtain rfl : i = n := by omega
    refine codeAny_builtin F.entry_set_update_loop ?_
    rw [Around.under_plainId F.plain_set_update_loop _]
    show wpAny _ A.in1 (pyNext (.ref I) >>= _) _ _ s
    refine wpAny_bind (W.done s _ _ st fun s1 mv => ?_)
    show wpAny _ A.in1 (ret Value.none) _ _ s1
    have kp1 := keepM mv kp
    exact wpAny_pure (hR s1 L es ep t (mv.mono up) (T.keep (fun o e => mv.heap D o dwr e) fun p hp => tx_keep (hk p (List.mem_of_mem_take (g.sub p hp))) kp1) g kp1)
  | succ k ih =>
    intro i s ki hi st kp ⟨L, es, ep, t, T, g⟩ hR
    have lt : i < n := by omega
    refine codeAny_builtin F.entry_set_update_loop ?_
    rw [Around.under_plainId F.plain_set_update_loop _]
    show wpAny _ A.in1 (pyNext (.ref I) >>= _) _ _ s
    refine wpAny_bind (W.item i s _ _ lt st fun v s1 hv st1 mv => ?_)
    obtain ⟨p, hp, rfl⟩ := val i v hv
    have kp1 := keepM mv kp
    have T1 : Tab P w s1.heap D L es ep t := T.keep (fun o e => mv.heap D o dwr e) fun q hq => tx_keep (hk q (List.mem_of_mem_take (g.sub q hq))) kp1
    have z : Tx P w s1.heap p.1 p.2 := tx_keep (hk p (List.mem_of_getElem? hp)) kp1
    show wpAny _ A.in1 (holding [Value.ref p.1] (setAdd D (.ref p.1)) >>= _) _ _ s1
    refine wpAny_bind (wpAny_holding ?_)
    unfold setAdd
    refine wpAny_holding ?_
    refine wpAny_bind (wpAny_pyHash_tuple hu z ?_)
    refine put_ (s := { s1 with toks := s1.toks + (p.2.length + 1) }) T1 z hu (by have := g.len; omega) fun b g1 L1 es1 ep1 t1 but T2 c1 c2 => ?_
    have kp2 : ∀ b o, h0.get? b = some o → g1.get? b = some o := fun b o e => (but.2 b (fun c => by rw [c, d0] at e; cases e)).trans (kp1 b o e)
    refine wpAny_pure ⟨plainId_quiet F.plain_set_update_loop _, ih (i + 1) _ (by omega) lt (W.frame _ s1 _ _ st1 (Nat.le_add_right _ _) fun b m o e => ?_) kp2 ⟨L1, es1, ep1, t1, T2, g.next hp c1 c2⟩ fun s2 L2 es2 ep2 t2 mv2 T3 g2 kp3 => ?_⟩
    · rw [but.2 b (fun c => dfp (c ▸ m))]
      exact e
    · refine hR s2 L2 es2 ep2 t2 (Moved.trans W.gtrans ((mv.mono up).then_heap (Nat.le_add_right _ _) fun b o m e => ?_) mv2) T3 g2 kp3
      rw [but.2 b (fun c => m (c ▸ List.mem_cons_self))]
      exact e
set_option maxHeartbeats 3200000 in
/-- set(xs) -/
theorem made {l : Addr} {its : Array Value} (ks : List (Addr × List Str)) {Q : Value → Shared → Prop} (hh : A.handled = none) (hl : s.heap.IsList l its) (hit : its.toList = ks.map fun p => Value.ref p.1)
    (hk : ∀ p ∈ ks, Tx P w s.heap p.1 p.2) (few : ks.length ≤ 4) (hu : A.units + 3 < cLine)
    (q : ∀ (g : Heap) (tk : Nat) L es ep t, Tab P w g s.heap.objs.size L es ep t → Has ks ks.length L → (∀ b o, s.heap.get? b = some o → g.get? b = some o) → Q (.ref s.heap.objs.size) { s with heap := g, toks := tk }) :
    wpAny (model P w) A (call (.type "set") [.ref l]) Q E s := by
  have zs : its.size = ks.length := by
    rw [← Array.length_toList, hit, List.length_map]
  obtain ⟨c, tl, mro_⟩ := F.called_set.mro
  have made_ := F.called_set.made
  have sub_ := F.called_set.sub
  refine wpAny_call (codeAny_of_tree ?_)
  show wpAny _ _ (callAny (.type "set") _) _ _ _
  refine wpAny_pure ⟨Code.quiet_builtin _ (by decide +kernel), codeAny_builtin F.entry_type_call ?_⟩
  rw [Around.under_plain (weight_type_call_type "set" [.ref l] []) rfl]
  have n1 := F.called_set.notType
  have n2 := F.called_set.canCreate
  have n3 := F.typeCall_set_1 (.ref l)
  repeat (any_goals (first | assumption | wp_step))
  generalize ob : ({ cls := .type "set", dict := none, data := .set #[] 0 (.fresh 0 0 (!w.params.followText "set-order")) } : Obj) = O
  refine codeAny_mono (code_set_led1 (.ref l) (E := E) (Q₁ := fun obj s1 => obj = .ref s.heap.objs.size ∧ s1 = { s with heap := s.heap.push O }) ⟨rfl, by rw [← ob]⟩) fun r s1 hr => ?_
  cases r with
  | error e => exact hr
  | ok fl =>
    cases fl with
    | ret obj =>
      obtain ⟨rfl, rfl⟩ := hr
      have atS : (s.heap.push O).get? s.heap.objs.size = some O := Heap.get?_push_size _ (by rw [← ob]; rfl)
      have tyS : Shared.TypeIs { s with heap := s.heap.push O } (.ref s.heap.objs.size) "set" := ⟨_, atS, by rw [← ob]⟩
      have i1 := F.called_set.init.lookup
      have i2 := F.called_set.init.bind (.ref s.heap.objs.size)
      repeat (any_goals (first | assumption | wp_step))
      refine codeAny_mono (codeAny_call_builtin (R := wants (fun r s2 => r = .none ∧ ∃ g tk L es ep t, s2 = { s with heap := g, toks := tk } ∧ Tab P w g s.heap.objs.size L es ep t ∧ Has ks ks.length L ∧
          (∀ b o, s.heap.get? b = some o → g.get? b = some o)) E) F.called_set.init.plain F.entry_set_init (check_set_init_1 tyS ?_)) fun r2 s2 hr2 => ?_
      · obtain ⟨ol, hol, hcl, nl, hdl⟩ := hl
        obtain ⟨oc, od, odata, osl⟩ := ol
        simp only at hcl hdl
        subst hcl; subst hdl
        have hol1 : (s.heap.push O).get? l = some { cls := .type "list", dict := od, data := .seq its nl, slots := osl } := Heap.get?_push_of_some _ hol
        have b1 := F.sub_list_set
        have b2 := F.sub_list_frozenset
        have b3 : (Value.type "list" == Value.type "dict") = false := by decide
        have hl1 : (s.heap.push O).IsList l its := ⟨_, hol1, rfl, nl, rfl⟩
        subst ob
        unfold Builtin.«set.__init__» noKeywords Builtin.Frozenset.updateFrom
        generalize hPI : pyIter = PI
        wp_walk
        subst hPI
        refine wpAny_pyIter_list hl1 ?_
        refine wpAny_bind (wpAny_runValue ?_)
        have lS : l < s.heap.objs.size := Heap.lt_size hol
        have hh3 : A.in1.in1.in1.handled = none := by simp [hh]
        have neI : l ≠ (s.heap.push { cls := .type "set", dict := none, data := .set #[] 0 (.fresh 0 0 (!w.params.followText "set-order")) }).objs.size := by
          rw [Heap.size_push]
          exact Nat.ne_of_lt (Nat.lt_succ_of_lt lS)
        have Sfp : s.heap.objs.size ∉ [(s.heap.push { cls := .type "set", dict := none, data := .set #[] 0 (.fresh 0 0 (!w.params.followText "set-order")) }).objs.size, l] := by
          rw [Heap.size_push]
          simp only [List.mem_cons, List.mem_singleton, List.not_mem_nil, or_false, not_or]
          exact ⟨Nat.ne_of_lt (Nat.lt_succ_self _), Nat.ne_of_gt lS⟩
        have val : ∀ (i : Nat) (v : Value), its[i]? = some v → ∃ p, ks[i]? = some p ∧ v = .ref p.1 := fun i v hv => by
          have e : its.toList[i]? = some v := by rw [Array.getElem?_toList]; exact hv
          rw [hit, List.getElem?_map] at e
          obtain ⟨p, e1, e2⟩ := Option.map_eq_some_iff.mp e
          exact ⟨p, e1, e2.symm⟩
        have above : ∀ b, s.heap.objs.size ≤ b → s.heap.get? b = none := fun b hb => by
          cases e : s.heap.get? b with
          | none => rfl
          | some o => exact absurd (Nat.lt_of_lt_of_le (Heap.lt_size e) hb) (Nat.lt_irrefl _)
        refine fill ((Walks.list hh3 _ l neI its).toS) s.heap.objs.size
          Sfp ks zs few val s.heap hk (above _ (Nat.le_refl _)) (fun b m => above b (by
            rw [List.mem_singleton.mp m, Heap.size_push]
            exact Nat.le_succ _)) hu (its.size - 0) 0 _ (by omega) (Nat.zero_le _)
          ⟨⟨_, Heap.get?_push_size _ rfl, rfl, rfl⟩, (hl1.push _)⟩ (fun b o e => Heap.get?_push_of_some _ (Heap.get?_push_of_some _ e)) ?first ?last
        case first => exact ⟨[], #[], 0, _, tab0 (Heap.get?_push_of_some _ atS), ⟨fun _ m => (by cases m), fun _ m => (by simp at m), Nat.le_refl _⟩⟩
        case last =>
          intro s3 L es ep t mv T g kp
          obtain ⟨g3, gn, dr, tk, os⟩ := s3
          have e1 : gn = s.gens := mv.gens
          have e2 : dr = s.drawn := mv.drawn
          have e3 : os = s.os := mv.os
          subst e1; subst e2; subst e3
          show wpAny _ _ _ _ _ _
          refine wpAny_pure ?_
          show wpAny _ _ (ret Value.none) _ _ _
          rw [zs] at g
          exact wpAny_pure ⟨rfl, g3, tk, L, es, ep, t, rfl, T, g, kp⟩
      · cases r2 with
        | error e => exact hr2
        | ok fl2 =>
          cases fl2 with
          | ret r =>
            obtain ⟨rfl, g, tk, L, es, ep, t, rfl, T, gg, kp⟩ := hr2
            repeat (any_goals (first | assumption | wp_step))
            exact q _ _ _ _ _ _ T gg kp
          | _ => exact hr2.elim
    | _ => exact hr.elim
end
end Sx

set_option Elab.async false
set_option linter.all false
set_option maxRecDepth 100000
set_option maxHeartbeats 2000000
/-! sorted(set(xs)) as one rule. -/
namespace Sx
open PySem PySem.Spec PyProof.Rows L2
theorem tx_at {X : Cx} {pins : List (Addr × Obj)} {σ : L2.St} {H : Hp} {s : Shared} {b : Addr} {k : List Str} (I : Inv X pins σ H s) (h : SqT X.K H b (k.map V.str)) : Tx X.prog X.w s.heap b k := by
  have its_of : ∀ {k : List Str} {us : List Value}, Vals (k.map V.str) us → ItemsAre (PySem.strKind X.prog X.w) k us := by
    intro k
    induction k with
    | nil =>
      intro us r
      cases r
      exact .nil
    | cons y k ih =>
      intro us r
      cases r with
      | cons a b =>
        obtain ⟨tk, rfl⟩ := a
        exact .cons (by show Value.isStrOf y (.str y tk) = true; simp [Value.isStrOf]) (ih b)
  obtain ⟨its, r, ⟨o, ho, hc, n, hd⟩, _⟩ := I.tuple h
  exact ⟨o, its.toArray, n, ho, hc, hd, by simpa using its_of r⟩
theorem refs_up : ∀ L : List (Addr × List Str), Vals (L.map fun p => V.ref p.1) (L.map fun p => Value.ref p.1)
  | [] => .nil
  | _ :: L => .cons rfl (refs_up L)
theorem refs_eq : ∀ (L : List (Addr × List Str)) (us : List Value), Vals (L.map fun p => V.ref p.1) us → us = L.map fun p => Value.ref p.1
  | [], _, .nil => rfl
  | p :: L, _, .cons (b := u) r t => by
    have e : u = Value.ref p.1 := r
    rw [e, refs_eq L _ t, List.map_cons]
def kx (p : Addr × List Str) : Addr × List Key := (p.1, p.2.map Sum.inr)
theorem kx_vals : ∀ k : List Str, (k.map (Sum.inr : Str → Key)).map kV = k.map V.str
  | [] => rfl
  | _ :: k => by rw [List.map_cons, List.map_cons, kx_vals k, List.map_cons]; rfl
theorem kx_shape (k : List Str) : Dh.Shaped (fun _ => true) (k.map Sum.inr) := fun i x e => by
  rw [List.getElem?_map] at e
  obtain ⟨y, _, rfl⟩ := Option.map_eq_some_iff.mp e
  rfl
/-- sorted(set(xs)) of tuples of texts -/
def tSortSet (K : PySem.W.Frag) (ta : TE) : TE := fun σ H Q => ta σ H fun x H1 => ∃ (l : Addr) (L : List (Addr × List Str)), x = .ref l ∧ SqL K H1 l (L.map fun p => V.ref p.1) ∧ (∀ p ∈ L, SqT K H1 p.1 (p.2.map V.str) ∧ p.2 ≠ []) ∧ L.length ≤ 4 ∧
  ∀ (M : List (Addr × List Str)) (q : Addr), (∀ p ∈ M, p ∈ L) → (∀ p ∈ L, p.2 ∈ M.map (·.2)) → (M.map (·.2)).Nodup → M.Pairwise (fun p r => Dh.kLt (r.2.map Sum.inr) (p.2.map Sum.inr) = false) → H1 q = none → Q (.ref q) (upd H1 q (.lst (M.map fun p => V.ref p.1)))
theorem pe_sortSet {X : Cx} {n : Nat} {a : Expr} {ta : TE} {p p2 q pos : Pos} (hr : Room n X.A) (hg : Gl X "sorted") (hm : X.mg "sorted" = none) (hg2 : Gl X "set") (hm2 : X.mg "set" = none) (ha : PE X a ta) (hc : X.calm = true := by rfl)
    (na : starEach [a] X.env = (false, eval a X.env) :: starEach [] X.env := by rfl) : PE X (.Call (.Name "sorted" p) [.Call (.Name "set" p2) [a] [] q] [] pos) (tSortSet X.K ta) := by
  refine ⟨fun pins s σ H Q I h => ?_⟩
  refine Call_ (ld_blt I hg hm boot_sorted ?_)
  refine PyProof.Rows.callWith_builtin1 (PyProof.Rows.args_cons ?_ rfl) rfl rfl
  refine Call_ (ld_blt I hg2 hm2 boot_set ?_)
  refine PyProof.Rows.callWith_type1 (PyProof.Rows.args_cons (thn (ha.run pins s σ H _ I h) fun v s1 ⟨x, H1, I1, r1, q1⟩ => PyProof.Rows.args_nil ?_) na) na rfl
  obtain ⟨l, L, rfl, hq, hk, few, q1⟩ := q1
  cases r1
  obtain ⟨its, rv, pl, hz⟩ := I1.list hq
  obtain rfl := refs_eq L its rv
  refine made (P := X.prog) (w := X.w) L (I1.ok.hd hc) pl.isList (by simp) (fun p hp => tx_at I1 (hk p hp).1) few (by have := hr.units; omega) fun g tk S es ep t T has kp => ?_
  refine PyProof.Rows.args_nil ?_
  have I2 : Inv X pins σ H1 { s1 with heap := g, toks := tk } := I1.kept kp
  obtain ⟨o, ho, hex, hd⟩ := T.obj
  have few2 := T.few
  have subL : ∀ p ∈ S, p ∈ L := fun p hp => List.mem_of_mem_take (has.sub p hp)
  have ents : es.toList.map (·.2) = S.map fun p => Value.ref p.1 := by
    rw [T.ent, List.map_map]
    rfl
  have zS := Tab.size (s := { s1 with heap := g, toks := tk }) T
  refine Calls.call_function_entry PyProof.Rows.kind_sorted PyProof.Rows.plain_sorted PyProof.Rows.entry_sorted (PyProof.Rows.args_sorted1 _) ?_
  unfold Builtin.«sorted»
  refine wpAny_bind (m := checkCount "sorted" 1 1 _) (wpAny_pure ?_)
  refine wpAny_bind (collect_set (A := X.A.in1) (s := { s1 with heap := g, toks := tk }) (I1.ok.hd hc) ⟨o, ho, hex.1, hd⟩ (Tab.fits (s := { s1 with heap := g, toks := tk }) T) (by rw [zS]; unfold scanBound; omega) T.tab.ris T.led fun s3 vs k3 z3 g3 o3 pm => ?_)
  rw [ents] at pm
  obtain ⟨M1, p1, e1⟩ := Dh.perm_back pm.symm S rfl
  obtain ⟨h3, gn3, dr3, tk3, os3⟩ := s3
  have eg : gn3 = s1.gens := g3
  have eo : os3 = s1.os := o3
  subst eg eo
  have kp3 : ∀ b u, s1.heap.get? b = some u → h3.get? b = some u := fun b u e => k3 b u (kp b u e)
  have I3 : Inv X pins σ H1 { s1 with heap := h3, drawn := dr3, toks := tk3 } := I1.call (ch := []) (Un.kept kp3) (I1.hok.kept kp3) I1.bare (fun _ z => nomatch z)
  have zM : M1.length ≤ 4 := by rw [p1.length_eq]; exact few2
  have ev : vs = (M1.map kx).map fun p => Value.ref p.1 := by
    rw [List.map_map, ← e1]
    rfl
  subst ev
  have zz : (M1.map kx).length ≤ sizeLine := by rw [List.length_map, sizeLine_eq]; omega
  have inM : ∀ p ∈ M1.map kx, ∃ r ∈ L, p = kx r := fun p hp => by
    obtain ⟨r, hr, rfl⟩ := List.mem_map.mp hp
    exact ⟨r, subL r (p1.mem_iff.mp hr), rfl⟩
  have KM := Dh.keyed_of (L := M1.map kx) (shape := fun _ => true) I3 (fun p hp => by
    obtain ⟨r, hr, rfl⟩ := inM p hp
    refine ⟨?_, kx_shape r.2⟩
    show SqT X.K H1 r.1 ((r.2.map Sum.inr).map kV)
    rw [kx_vals]
    exact (hk r hr).1) fun n p hp => by
    obtain ⟨r, hr, rfl⟩ := inM p hp
    intro z
    exact (hk r hr).2 (List.map_eq_nil_iff.mp z)
  have ka : ∀ p ∈ M1.map kx, Dh.keyAt h3 (fun _ => true) (.ref p.1) = Dh.ik p.2 := fun p hp => by
    unfold Dh.keyAt
    rw [KM.key hp]
    rfl
  refine wpAny_bind (wpAny_newList ?_ (by rw [List.length_map]; exact zz))
  obtain ⟨g4, eg4⟩ : ∃ g4, g4 = h3.push (seqObj "list" ((M1.map kx).map fun p => Value.ref p.1).toArray 0) := ⟨_, rfl⟩
  have gL : g4.get? h3.objs.size = some (seqObj "list" ((M1.map kx).map fun p => Value.ref p.1).toArray 0) := by
    rw [eg4]
    exact Heap.get?_push_size _ rfl
  have gk : ∀ b o, h3.get? b = some o → g4.get? b = some o := fun b o e => by
    rw [eg4]
    exact Heap.get?_push_of_some _ e
  show wpAny _ _ _ _ _ { s1 with heap := h3.push (seqObj "list" ((M1.map kx).map fun p => Value.ref p.1).toArray 0), drawn := dr3, toks := tk3 }
  rw [← eg4]
  refine wpAny_bind (wpAny_holding (wpAny_call_entry PyProof.Rows.slot_list_sort ⟨_, gL, rfl⟩ PyProof.Rows.entry_list_sort
    (SrtO.list_sort_ord (s := { s1 with heap := g4, drawn := dr3, toks := tk3 }) (Dh.swo_of (listOrd itemOrd) (Dh.keyAt h3 fun _ => true)) gL (by rw [List.length_map]; exact zz) (fun n2 => ?_) fun out hs hb => ⟨_, rfl, ?_⟩) (PyProof.Rows.args_list_sort _)))
  · rw [List.length_map] at n2
    refine Dh.sortable (s := { s1 with heap := g4, drawn := dr3, toks := tk3 }) rfl (KM.keeps fun c o e _ => gk c o e) n2 (fun o e => ?_) ka
    have e2 : some o = some (seqObj "list" ((M1.map kx).map fun p => Value.ref p.1).toArray 0) := e.symm.trans gL
    cases e2
    intro c
    exact absurd (Value.type.inj c) (by decide)
  · obtain ⟨L2, p2, p3, rfl⟩ := Dh.sorted_back ka hs hb
    obtain ⟨M, p4, e4⟩ := Dh.perm_back p2.symm M1 rfl
    obtain ⟨ep2, at2⟩ := PyProof.Rows.sortedHeap_at (vs := (M1.map kx).map fun p => Value.ref p.1) (out := (L2.map fun p => Value.ref p.1).toArray) gL
    have e5 : (L2.map fun p => Value.ref p.1) = M.map fun p => Value.ref p.1 := by
      rw [← e4, List.map_map]
      rfl
    rw [e5] at at2 ⊢
    have len : (M.map fun p => V.ref p.1).length ≤ sizeLine := by
      rw [List.length_map, p4.length_eq, sizeLine_eq]
      omega
    have pS : M.Perm S := p4.trans p1
    refine wpAny_pure ⟨_, rfl, .ref h3.objs.size, upd H1 h3.objs.size (.lst (M.map fun p => V.ref p.1)), I3.laid (t' := tk3) (fun b u e => ?_) (Nat.le_refl _) ⟨len, _, ep2, refs_up M, at2⟩, rfl,
      q1 M _ (fun p hp => subL p (pS.mem_iff.mp hp)) (fun p hp => ?_) ((pS.map (·.2)).nodup_iff.mpr T.uniq) ?_ (I3.hok.fresh (Nat.le_refl _))⟩
    · have lt : b < h3.objs.size := Heap.lt_size e
      rw [PyProof.Rows.sortedHeap_old (Nat.ne_of_lt lt) (by rw [eg4, size_push']; exact Nat.lt_succ_of_lt lt), eg4]
      exact Heap.get?_push_of_some _ e
    · exact (pS.map (·.2)).mem_iff.mpr (has.all p (by rw [List.take_length]; exact hp))
    · rw [← e4] at p3
      exact List.pairwise_map.mp p3
end Sx

set_option Elab.async false
set_option linter.all false
set_option maxRecDepth 100000
set_option maxHeartbeats 3200000
/-! len(set(t)), t a tuple of different texts. -/
namespace Sz
open PySem PySem.Spec PyProof.Rows L2
section
variable {prog : Program} {w : World} {A : Around}
theorem val_at : ∀ {xs : List Str} {us : List Value}, Vals (xs.map V.str) us → ∀ {i : Nat} {v : Value}, us[i]? = some v → ∃ y t, xs[i]? = some y ∧ v = .str y t
  | [], _, .nil, i, v, e => by simp at e
  | y :: xs, _, .cons r t, 0, v, e => by
    obtain ⟨tk, rfl⟩ := r
    cases e
    exact ⟨y, tk, rfl, rfl⟩
  | y :: xs, _, .cons r t, i + 1, v, e => val_at (xs := xs) t e
theorem fillS {R : Result → Shared → Prop} {I : Addr} {fp wr : List Addr} {G : Array GenState → Array GenState → Prop} {n : Nat} {Pv : Nat → Value → Prop} {St : Nat → Shared → Prop} (W : WalksS prog w A.in1 I fp wr G n Pv St) (D : Addr) (dfp : D ∉ fp) (xs : List Str) (zs : xs.length = n) (few : n ≤ 1000) (nd : xs.Nodup)
    (val : ∀ i v, Pv i v → ∃ y t, xs[i]? = some y ∧ v = .str y t) :
    ∀ (k i : Nat) (s : Shared), n - i = k → i ≤ n → St i s → s.heap.SetOf (PySem.strKind prog w) D (fun y => (xs.take i).any (· == y)) i →
      (∀ s1, Moved (D :: wr) G s s1 → s1.heap.SetOf (PySem.strKind prog w) D (fun y => (xs.take n).any (· == y)) n → R (.ok (.ret .none)) s1) →
      codeAny (model prog w) A (.builtin "set.update.loop" ⟨[.ref D, .ref I], []⟩) R s := by
  have dwr : D ∉ wr := fun m => dfp (W.sub _ m)
  have up : ∀ b ∈ wr, b ∈ D :: wr := fun b m => List.mem_cons_of_mem _ m
  intro k
  induction k with
  | zero =>
    intro i s ki hi st hS hR
    obtain rfl : i = n := by omega
    refine codeAny_builtin F.entry_set_update_loop ?_
    rw [Around.under_plainId F.plain_set_update_loop _]
    show wpAny _ A.in1 (pyNext (.ref I) >>= _) _ _ s
    refine wpAny_bind (W.done s _ _ st fun s1 mv => ?_)
    show wpAny _ A.in1 (ret Value.none) _ _ s1
    obtain ⟨o, es, ep, t, ho, more⟩ := hS
    exact wpAny_pure (hR s1 (mv.mono up) ⟨o, es, ep, t, mv.heap D _ dwr ho, more⟩)
  | succ k ih =>
    intro i s ki hi st hS hR
    have lt : i < n := by omega
    refine codeAny_builtin F.entry_set_update_loop ?_
    rw [Around.under_plainId F.plain_set_update_loop _]
    show wpAny _ A.in1 (pyNext (.ref I) >>= _) _ _ s
    refine wpAny_bind (W.item i s _ _ lt st fun v s1 hv st1 mv => ?_)
    obtain ⟨y, t, hy, rfl⟩ := val i v hv
    have S1 : s1.heap.SetOf (PySem.strKind prog w) D (fun z => (xs.take i).any (· == z)) i := by
      obtain ⟨o, es, ep, tb, ho, more⟩ := hS
      exact ⟨o, es, ep, tb, mv.heap D _ dwr ho, more⟩
    have new : ((xs.take i).any (· == y)) = false := by
      rw [Bool.eq_false_iff]
      intro z
      obtain ⟨x, hx, e⟩ := List.any_eq_true.mp z
      have e := eq_of_beq e
      subst e
      obtain ⟨j, hj⟩ := List.mem_iff_getElem?.mp hx
      rw [List.getElem?_take] at hj
      by_cases c : j < i
      · rw [if_pos c] at hj
        have := (List.getElem?_inj (i := j) (j := i) (List.getElem?_eq_some_iff.mp hj).1 nd).mp (hj.trans hy.symm)
        omega
      · rw [if_neg c] at hj
        cases hj
    show wpAny _ A.in1 (holding [Value.str y t] (setAdd D (.str y t)) >>= _) _ _ s1
    refine wpAny_bind (wpAny_holding ?_)
    unfold setAdd
    refine wpAny_holding ?_
    refine wpAny_bind ((PySem.strKind prog w).pyHash (k := y) (strKind_is _ _ _ _) ?_)
    refine wpAny_setAddHashed_of (knd := PySem.strKind prog w) (s := { s1 with toks := s1.toks + 1 }) (strKind_is _ _ _ _) rfl S1 (by unfold scanBound; omega) fun g but S2 => ?_
    have S3 : g.SetOf (PySem.strKind prog w) D (fun z => (xs.take (i + 1)).any (· == z)) (i + 1) := by
      refine SetOf_congr S2 (fun z => ?_) (by simp [new])
      rw [List.take_add_one, hy, List.any_append]
      by_cases e : z = y
      · subst e
        simp
      · have hb : (y == z) = false := by simpa [beq_iff_eq] using (fun c : y = z => e c.symm)
        simp [hb, e]
    refine wpAny_pure ⟨plainId_quiet F.plain_set_update_loop _, ih (i + 1) _ (by omega) lt (W.frame _ s1 _ _ st1 (Nat.le_succ _) fun b m o e => ?_) S3 fun s2 mv2 S4 => ?_⟩
    · rw [but.2 b (fun c => dfp (c ▸ m))]
      exact e
    · refine hR s2 (Moved.trans W.gtrans ((mv.mono up).then_heap (Nat.le_succ _) fun b o m e => ?_) mv2) S4
      rw [but.2 b (fun c => m (c ▸ List.mem_cons_self))]
      exact e
theorem madeS {E : Value → Shared → Prop} {s : Shared} {l : Addr} {its : Array Value} {xs : List Str} {Q : Value → Shared → Prop} (hh : A.handled = none) (hl : s.heap.IsTuple l its) (hi : Vals (xs.map V.str) its.toList) (few : xs.length ≤ 1000) (nd : xs.Nodup)
    (q : ∀ (g : Heap) (tk : Nat), g.SetOf (PySem.strKind prog w) s.heap.objs.size (fun y => (xs.take its.size).any (· == y)) its.size →
      (∀ b o, s.heap.get? b = some o → g.get? b = some o) → Q (.ref s.heap.objs.size) { s with heap := g, toks := tk }) :
    wpAny (model prog w) A (call (.type "set") [.ref l]) Q E s := by
  have zs : xs.length = its.size := by
    have := hi.length
    rw [List.length_map, Array.length_toList] at this
    exact this
  obtain ⟨c, tl, mro_⟩ := F.called_set.mro
  have made_ := F.called_set.made
  have sub_ := F.called_set.sub
  refine wpAny_call (codeAny_of_tree ?_)
  show wpAny _ _ (callAny (.type "set") _) _ _ _
  refine wpAny_pure ⟨Code.quiet_builtin _ (by decide +kernel), codeAny_builtin F.entry_type_call ?_⟩
  rw [Around.under_plain (weight_type_call_type "set" [.ref l] []) rfl]
  have n1 := F.called_set.notType
  have n2 := F.called_set.canCreate
  have n3 := F.typeCall_set_1 (.ref l)
  repeat (any_goals (first | assumption | wp_step))
  refine codeAny_mono (code_set_new_1 (.ref l) (E := E) (Q₁ := fun obj s1 => ∃ O : Obj, O.isFreed = false ∧ (∃ led : Bool, O = { cls := .type "set", dict := none, data := .set #[] 0 (.fresh 0 0 led) }) ∧ obj = .ref s.heap.objs.size ∧ s1 = { s with heap := s.heap.push O }) fun led => ⟨_, rfl, ⟨led, rfl⟩, rfl, rfl⟩) fun r s1 hr => ?_
  cases r with
  | error e => exact hr
  | ok fl =>
    cases fl with
    | ret obj =>
      obtain ⟨O, fr, ⟨led, ob⟩, rfl, rfl⟩ := hr
      have atS : (s.heap.push O).get? s.heap.objs.size = some O := Heap.get?_push_size _ fr
      have tyS : Shared.TypeIs { s with heap := s.heap.push O } (.ref s.heap.objs.size) "set" := ⟨_, atS, by rw [ob]⟩
      have i1 := F.called_set.init.lookup
      have i2 := F.called_set.init.bind (.ref s.heap.objs.size)
      repeat (any_goals (first | assumption | wp_step))
      refine codeAny_mono (codeAny_call_builtin (R := wants (fun r s2 => r = .none ∧ ∃ g tk, s2 = { s with heap := g, toks := tk } ∧ g.SetOf (PySem.strKind prog w) s.heap.objs.size (fun y => (xs.take its.size).any (· == y)) its.size ∧
          (∀ b o, s.heap.get? b = some o → g.get? b = some o)) E) F.called_set.init.plain F.entry_set_init (check_set_init_1 tyS ?_)) fun r2 s2 hr2 => ?_
      · obtain ⟨ol, hol, hcl, nl, hdl⟩ := hl
        obtain ⟨oc, od, odata, osl⟩ := ol
        simp only at hcl hdl
        subst hcl; subst hdl
        have hol1 : (s.heap.push O).get? l = some { cls := .type "tuple", dict := od, data := .seq its nl, slots := osl } := Heap.get?_push_of_some _ hol
        have b1 := F.sub_tuple_set
        have b2 := F.sub_tuple_frozenset
        have b3 : (Value.type "tuple" == Value.type "dict") = false := by decide
        have hl1 : (s.heap.push O).IsTuple l its := ⟨_, hol1, rfl, nl, rfl⟩
        subst ob
        unfold Builtin.«set.__init__» noKeywords Builtin.Frozenset.updateFrom
        generalize hPI : pyIter = PI
        wp_walk
        subst hPI
        refine wpAny_pyIter_tuple hl1 ?_
        refine wpAny_bind (wpAny_runValue ?_)
        have lS : l < s.heap.objs.size := Heap.lt_size hol
        have hh3 : A.in1.in1.in1.handled = none := by simp [hh]
        have neI : l ≠ (s.heap.push { cls := .type "set", dict := none, data := .set #[] 0 (.fresh 0 0 led) }).objs.size := by
          rw [Heap.size_push]
          exact Nat.ne_of_lt (Nat.lt_succ_of_lt lS)
        have Sfp : s.heap.objs.size ∉ [(s.heap.push { cls := .type "set", dict := none, data := .set #[] 0 (.fresh 0 0 led) }).objs.size, l] := by
          rw [Heap.size_push]
          simp only [List.mem_cons, List.mem_singleton, List.not_mem_nil, or_false, not_or]
          exact ⟨Nat.ne_of_lt (Nat.lt_succ_self _), Nat.ne_of_gt lS⟩
        refine fillS ((Walks.tuple hh3 _ l neI its).toS) s.heap.objs.size
          Sfp xs zs (by rw [← zs]; exact few) nd (fun i v hv => val_at hi (by rw [Array.getElem?_toList]; exact hv)) (its.size - 0) 0 _ (by omega) (Nat.zero_le _)
          ⟨⟨_, Heap.get?_push_size _ rfl, rfl, rfl⟩, (hl1.push _)⟩ ?first ?last
        case first => exact SetOf_congr ((setObjOf_fresh (knd := PySem.strKind prog w) led).setOf (Heap.get?_push_of_some _ atS) (by unfold scanBound; omega)) (fun _ => rfl) rfl
        case last =>
          intro s3 mv T
          obtain ⟨g3, gn, dr, tk, os⟩ := s3
          have e1 : gn = s.gens := mv.gens
          have e2 : dr = s.drawn := mv.drawn
          have e3 : os = s.os := mv.os
          subst e1; subst e2; subst e3
          show wpAny _ _ _ _ _ _
          refine wpAny_pure ?_
          show wpAny _ _ (ret Value.none) _ _ _
          refine wpAny_pure ⟨rfl, g3, tk, rfl, T, fun b o e => ?_⟩
          have hb := Heap.lt_size e
          have nb1 : b ≠ s.heap.objs.size := Nat.ne_of_lt hb
          have nb2 : b ≠ (s.heap.push { cls := .type "set", dict := none, data := .set #[] 0 (.fresh 0 0 led) }).objs.size := by
            rw [Heap.size_push]
            exact Nat.ne_of_lt (Nat.lt_succ_of_lt hb)
          refine mv.heap b o ?_ (Heap.get?_push_of_some _ (Heap.get?_push_of_some _ e))
          simp only [List.mem_cons, List.mem_singleton, List.not_mem_nil, or_false, not_or]
          exact ⟨nb1, nb2⟩
      · cases r2 with
        | error e => exact hr2
        | ok fl2 =>
          cases fl2 with
          | ret r =>
            obtain ⟨rfl, g, tk, rfl, T, kp⟩ := hr2
            repeat (any_goals (first | assumption | wp_step))
            exact q _ _ T kp
          | _ => exact hr2.elim
    | _ => exact hr.elim
end
def tLenSetX (K : PySem.W.Frag) (ta : TE) : TE := fun σ H Q => ta σ H fun x H1 => ∃ (l : Addr) (xs : List Str), x = .ref l ∧ SqT K H1 l (xs.map V.str) ∧ xs.Nodup ∧ xs.length ≤ 1000 ∧ Q (.int (xs.length : Nat)) H1
theorem pe_lenSetX {X : Cx} {a : Expr} {ta : TE} {p p2 q pos : Pos} (hg : Gl X "len") (hm : X.mg "len" = none) (hg2 : Gl X "set") (hm2 : X.mg "set" = none) (ha : PE X a ta) (hc : X.calm = true := by rfl)
    (na : starEach [a] X.env = (false, eval a X.env) :: starEach [] X.env := by rfl) : PE X (.Call (.Name "len" p) [.Call (.Name "set" p2) [a] [] q] [] pos) (tLenSetX X.K ta) := by
  refine ⟨fun pins s σ H Q I h => ?_⟩
  refine Call_ (ld_blt I hg hm boot_len ?_)
  refine PyProof.Rows.callWith_builtin1 (PyProof.Rows.args_cons ?_ rfl) rfl rfl
  refine Call_ (ld_blt I hg2 hm2 boot_set ?_)
  refine PyProof.Rows.callWith_type1 (PyProof.Rows.args_cons (thn (ha.run pins s σ H _ I h) fun v s1 ⟨x, H1, I1, r1, q1⟩ => PyProof.Rows.args_nil ?_) na) na rfl
  obtain ⟨l, xs, rfl, hq, nd, hl, q1⟩ := q1
  cases r1
  obtain ⟨its, r, pl, hz⟩ := I1.tuple hq
  refine madeS (xs := xs) (I1.ok.hd hc) pl (by simpa using r) hl nd fun g tk hS kp => ?_
  refine PyProof.Rows.args_nil ?_
  obtain ⟨o, es, ep, t, ho, hex, hd, _, _, _, hf, hn⟩ := hS
  have I2 : Inv X pins σ H1 { s1 with heap := g, toks := tk } := I1.kept kp
  have zs : xs.length = its.toArray.size := by
    rw [List.size_toArray, ← r.length, List.length_map]
  exact call_len_set ho hex hd hf (by rw [hn, ← zs] <;> omega) ⟨.int xs.length, H1, I2.tok _, ⟨_, by rw [hn, zs]⟩, q1⟩
end Sz

set_option Elab.async false
set_option linter.all false
set_option maxRecDepth 100000
set_option maxHeartbeats 2000000
/-! tuple(d), the keys of d texts or ints. -/
namespace Tk
open PySem PySem.Spec PyProof.Rows L2
def rTupK : List V → Hp → VK → Prop := fun xs H Q => ∃ (a : Addr) (kvs : List (Key × V)), xs = [.ref a] ∧ Rd H a (.dK kvs) ∧ ∀ p, H p = none → Q (.ref p) (upd H p (.tup (kvs.map fun kv => kV kv.1)))
theorem call_tupleK {X : Cx} (hc : X.calm = true) : CallR X (.type "tuple") rTupK := by
  intro pins s σ H xs us Q I r h
  obtain ⟨a, kvs, rfl, hd, q⟩ := h
  rw [Vals.ref1 r]
  obtain ⟨z, lo, vs, rel, dd⟩ := dk_rd I.hok hd
  obtain ⟨ep, at_⟩ := dd.dictAt
  have same : (kvs.map fun kv => kV kv.1) = vs.map fun p => kV p.1 := by
    have e := congrArg (List.map kV) rel.keys
    rw [List.map_map, List.map_map] at e
    exact e
  refine Dh.tuple_of (PySem.W.kdl_dict (knd := mixKind X.prog X.w) (kvs := vs) (ep := ep) lo) (I.ok.hd hc) at_ (by rw [← rel.length]; exact z) fun g tk acc kp it => ?_
  have rv : Vals (vs.map fun p => kV p.1) acc.toList := keys_at (by rw [Array.length_toList]; exact it.1) fun j v e => it.2 j v (by rw [← Array.getElem?_toList]; exact e)
  have I1 : Inv X pins σ H { s with heap := g, toks := tk } := I.kept kp
  have len : (kvs.map fun kv => kV kv.1).length ≤ sizeLine := by
    rw [List.length_map]
    exact z
  exact ⟨.ref g.objs.size, upd H g.objs.size (.tup (kvs.map fun kv => kV kv.1)), I1.laid (t' := tk) (fun b u e => Heap.get?_push_of_some _ e) (Nat.le_refl _) ⟨len, acc.toList, by rw [same]; exact rv, ⟨_, Heap.get?_push_size _ rfl, rfl, 0, by simp⟩⟩, rfl, q _ (I1.hok.fresh (Nat.le_refl _))⟩
end Tk

set_option Elab.async false
set_option linter.all false
set_option maxRecDepth 100000
set_option maxHeartbeats 2000000
/-! o.m(e, ..) within try: what it may let out depends on the slots. -/
namespace Mt
open PySem PySem.Spec PyProof.Rows L2
section
variable {X : Cx} {CX : CXT} {k : Nat} {f C : Addr} {fd : FuncData} {ps : List Str} {sp : Sp} {E : L2.St → XK} {m : Str} {pos apos : Pos} {e o : Expr} {es : List Expr} {ta : TE} {t : TA}
def tMethT (C : Addr) (m : Str) (sp : Sp) (E : L2.St → XK) (ta : TE) (t : TA) : TE := fun σ H Q => ta σ H fun x H1 => ∃ a dx fs, x = .ref a ∧ H1 a = some (.ins C dx fs) ∧ fs.lookup m = none ∧ t σ H1 fun vs H2 => sp (x :: vs) H2 Q (E σ)
theorem pe_methT {pl : Sem Bool} (he : PE X o ta) (c : Cls X.K C) (hm : Meth X.K C m f) (F : FnOk X.prog X.w X.K X.mg X.base CX k f fd ps sp) (hr : Room k X.A) (hb : Binds X.K fd ps []) (hx : ∀ σ, PassesAt CX X σ (E σ)) (ha : PA X (e :: es) t)
    (hst : starEach (e :: es) X.env = (false, eval e X.env) :: starEach es X.env := by rfl) (hpl : (backTo pos (starEach es X.env)).any (·.1) = false := by rfl)
    (ht : eval (.Call (.Attribute o m apos) (e :: es) [] pos) X.env = (do
      let ov ← eval o X.env
      standAt apos.atName
      let (f, first) ← holding [ov] (getMethod ov m pl)
      callWith pos f first (backTo pos (starEach (e :: es) X.env)) (backToKw pos (keywordEach [] X.env))) := by rfl) :
    PE X (.Call (.Attribute o m apos) (e :: es) [] pos) (tMethT C m sp E ta t) := by
  refine ⟨fun pins s σ H Q I h => ?_⟩
  refine PySem.W.methodCall_KW (pl := pl) (thn (he.run pins s σ H _ I h) fun u s1 z => ?_) ht
  obtain ⟨x, H1, I1, rx, a, dx, fs, rfl, ea, l, q⟩ := z
  cases rx
  refine getmeth_ok I1 ea c hm l ?_
  refine PySem.W.callWith_K (first := [.ref a]) (h₀ := X.base) I.ok.mod.kin hm.kp (thn (ha.run pos pins s1 σ H1 _ I1 q) fun us s2 z => ?_) hst hpl
  obtain ⟨vs, H2, I2, r, q2⟩ := z
  exact ⟨I2.kIn, run_fnS (us := .ref a :: us) (vs := .ref a :: vs) F hr hb (hx σ) I2 (.cons rfl r) q2⟩
end
end Mt

set_option Elab.async false
set_option linter.all false
set_option maxRecDepth 100000
set_option maxHeartbeats 2000000
/-! Dicts of data with different keys are equal exactly if their entries are a permutation. -/
namespace Sp4
open PySem PySem.Spec PyProof.Rows L2 An Dq1
variable {α : Type}
def asD (f : α → PyData) (X : List (Str × α)) : List (Key × PyData) := X.map fun p => (.inr p.1, f p.2)
theorem asD_keys (f : α → PyData) (X : List (Str × α)) : (asD f X).map (·.1) = (X.map (·.1)).map Sum.inr := by
  unfold asD
  rw [List.map_map, List.map_map]
  rfl
theorem look_mem {β : Type} {x : Key} {y : β} : ∀ {D : List (Key × β)}, (D.map (·.1)).Nodup → (x, y) ∈ D → look D x = some y := fun nd m => by
  unfold look
  rw [find_mem nd m]
  rfl
theorem look_in {β : Type} {x : Key} {y : β} {D : List (Key × β)} (h : look D x = some y) : (x, y) ∈ D := by
  unfold look at h
  obtain ⟨p, hp, rfl⟩ := Option.map_eq_some_iff.mp h
  have e := List.find?_some hp
  have e2 : p.1 = x := of_decide_eq_true e
  have m := List.mem_of_find?_eq_some hp
  rw [← e2]
  exact m
theorem perm_sub [DecidableEq α] : ∀ {A B : List α}, A.Nodup → (∀ x ∈ A, x ∈ B) → A.length = B.length → A.Perm B
  | [], B, _, _, l => by
    rw [List.eq_nil_of_length_eq_zero l.symm]
  | x :: A, B, nd, h, l => by
    rw [List.nodup_cons] at nd
    have hx := h x List.mem_cons_self
    have lp := List.length_pos_of_mem hx
    have le := List.length_erase_of_mem hx
    have ih := perm_sub (B := B.erase x) nd.2 (fun y m => (List.mem_erase_of_ne (by rintro rfl; exact nd.1 m)).mpr (h y (List.mem_cons_of_mem _ m))) (by rw [List.length_cons] at l; omega)
    exact (ih.cons x).trans (List.perm_cons_erase hx).symm
theorem inr_nodup : ∀ {l : List Str}, l.Nodup → (l.map (Sum.inr : Str → Key)).Nodup
  | _, h => List.pairwise_map.mpr (h.imp fun n e => n (Sum.inr.inj e))
theorem nd_of_keys {β : Type} : ∀ {X : List (Str × β)}, (X.map (·.1)).Nodup → X.Nodup := fun h => List.Pairwise.of_map (·.1) (fun _ _ n e => n (congrArg Prod.fst e)) h
theorem eqBy_perm [DecidableEq α] {f : α → PyData} {X Y : List (Str × α)} (hf : ∀ p ∈ X, ∀ q ∈ Y, PyData.eqv (f p.2) (f q.2) = decide (p.2 = q.2)) (nx : (X.map (·.1)).Nodup) (ny : (Y.map (·.1)).Nodup) : eqBy PyData.eqv (asD f X) (asD f Y) = true ↔ X.Perm Y := by
  have kx : ((asD f X).map (·.1)).Nodup := by rw [asD_keys]; exact inr_nodup nx
  have ky : ((asD f Y).map (·.1)).Nodup := by rw [asD_keys]; exact inr_nodup ny
  have lx : (asD f X).length = X.length := List.length_map _
  have ly : (asD f Y).length = Y.length := List.length_map _
  unfold eqBy
  rw [Bool.and_eq_true, beq_iff_eq, lx, ly, List.all_eq_true]
  constructor
  · rintro ⟨l, h⟩
    refine perm_sub (nd_of_keys nx) (fun p hp => ?_) l
    have m : (Sum.inr p.1, f p.2) ∈ asD f X := List.mem_map.mpr ⟨p, hp, rfl⟩
    have h1 := h (.inr p.1) (List.mem_map.mpr ⟨_, m, rfl⟩)
    unfold sameAt at h1
    rw [look_mem kx m] at h1
    cases e : look (asD f Y) (.inr p.1) with
    | none => rw [e] at h1; cases h1
    | some d =>
      rw [e] at h1
      obtain ⟨q, hq, eq_⟩ := List.mem_map.mp (look_in e)
      have e1 : q.1 = p.1 := Sum.inr.inj (congrArg Prod.fst eq_)
      have e2 : f q.2 = d := congrArg Prod.snd eq_
      have h1 : PyData.eqv (f p.2) d = true := h1
      rw [← e2, hf p hp q hq] at h1
      have e3 := of_decide_eq_true h1
      have : p = q := Prod.ext e1.symm e3
      rw [this]
      exact hq
  · intro pm
    refine ⟨pm.length_eq, fun k hk => ?_⟩
    obtain ⟨e, he, rfl⟩ := List.mem_map.mp hk
    obtain ⟨p, hp, rfl⟩ := List.mem_map.mp he
    have m1 : (Sum.inr p.1, f p.2) ∈ asD f X := List.mem_map.mpr ⟨p, hp, rfl⟩
    have m2 : (Sum.inr p.1, f p.2) ∈ asD f Y := List.mem_map.mpr ⟨p, pm.mem_iff.mp hp, rfl⟩
    unfold sameAt
    rw [look_mem kx m1, look_mem ky m2]
    show PyData.eqv (f p.2) (f p.2) = true
    rw [hf p hp p (pm.mem_iff.mp hp)]
    exact decide_eq_true rfl
/-- keys as data are equal exactly if they are the same -/
theorem eqv_keys : ∀ a b : List (List Str), PyData.eqv (ksD a) (ksD b) = decide (a = b)
  | [], [] => by decide +kernel
  | [], _ :: _ => by
    rw [decide_eq_false (fun z => by cases z)]
    simp [ksD, PyData.eqv, PyData.eqvAll]
  | _ :: _, [] => by
    rw [decide_eq_false (fun z => by cases z)]
    simp [ksD, PyData.eqv, PyData.eqvAll]
  | x :: a, y :: b => by
    have ih := eqv_keys a b
    have u : PyData.eqv (ksD (x :: a)) (ksD (y :: b)) = (PyData.eqv (kD x) (kD y) && PyData.eqv (ksD a) (ksD b)) := by
      simp only [ksD, PyData.eqv, PyData.eqvAll, List.map_cons]
    rw [u, ih, eqv_key]
    by_cases c : x = y <;> by_cases d : a = b <;> simp [c, d]
theorem eqv_str (x y : Str) : PyData.eqv (.str x) (.str y) = decide (x = y) := by
  simp [PyData.eqv]
  by_cases c : x = y <;> simp [c]
def wD (t : Str) (c : List Str) (p : Str) (k : List Str) : PyData := .tuple [.str t, kD c, .str p, kD k]
theorem eqv_way (t : Str) (c : List Str) (p : Str) (k : List Str) (t2 : Str) (c2 : List Str) (p2 : Str) (k2 : List Str) : PyData.eqv (wD t c p k) (wD t2 c2 p2 k2) = decide (t = t2 ∧ c = c2 ∧ p = p2 ∧ k = k2) := by
  have u : PyData.eqv (wD t c p k) (wD t2 c2 p2 k2) = (PyData.eqv (.str t) (.str t2) && (PyData.eqv (kD c) (kD c2) && (PyData.eqv (.str p) (.str p2) && PyData.eqv (kD k) (kD k2)))) := by
    simp only [wD, PyData.eqv, PyData.eqvAll, Bool.and_true]
  rw [u, eqv_str, eqv_key, eqv_str, eqv_key]
  by_cases a : t = t2 <;> by_cases b : c = c2 <;> by_cases d : p = p2 <;> by_cases e : k = k2 <;> simp [a, b, d, e]
theorem sh_way {t : Str} {c : List Str} {p : Str} {k : List Str} (h1 : PyData.strOk t = true) (h2 : ∀ x ∈ c, PyData.strOk x = true) (h3 : PyData.strOk p = true) (h4 : ∀ x ∈ k, PyData.strOk x = true) : SeqAt.shaped (wD t c p k) = true := by
  have l : PyData.canLayAll0 [.str t, kD c, .str p, kD k] = true := by
    show (PyData.strOk t && (PyData.canLayAll0 (c.map PyData.str) && (PyData.strOk p && (PyData.canLayAll0 (k.map PyData.str) && true)))) = true
    rw [h1, lay_strs c h2, h3, lay_strs k h4]
    rfl
  have d : (wD t c p k).depth ≤ 64 := by
    refine Nat.le_trans (m := 3) (Nat.succ_le_succ ?_) (by decide)
    show PyData.depthAll [.str t, kD c, .str p, kD k] ≤ 2
    unfold PyData.depthAll
    refine Nat.max_le.mpr ⟨by unfold PyData.depth; decide, ?_⟩
    unfold PyData.depthAll
    refine Nat.max_le.mpr ⟨Nat.succ_le_succ (dep_strs c), ?_⟩
    unfold PyData.depthAll
    refine Nat.max_le.mpr ⟨by unfold PyData.depth; decide, ?_⟩
    unfold PyData.depthAll
    exact Nat.max_le.mpr ⟨Nat.succ_le_succ (dep_strs k), by unfold PyData.depthAll; decide⟩
  show (PyData.canLayAll0 [.str t, kD c, .str p, kD k] && decide ((wD t c p k).depth ≤ 64)) = true
  rw [l, decide_eq_true d]
  rfl
def pairD (p : Str) (k : List Str) : PyData := .tuple [.str p, kD k]
theorem eqv_pair (p : Str) (k : List Str) (p2 : Str) (k2 : List Str) : PyData.eqv (pairD p k) (pairD p2 k2) = decide (p = p2 ∧ k = k2) := by
  have u : PyData.eqv (pairD p k) (pairD p2 k2) = (PyData.eqv (.str p) (.str p2) && PyData.eqv (kD k) (kD k2)) := by
    simp only [pairD, PyData.eqv, PyData.eqvAll, Bool.and_true]
  rw [u, eqv_str, eqv_key]
  by_cases a : p = p2 <;> by_cases b : k = k2 <;> simp [a, b]
theorem sh_pair {p : Str} {k : List Str} (h1 : PyData.strOk p = true) (h2 : ∀ x ∈ k, PyData.strOk x = true) : SeqAt.shaped (pairD p k) = true := by
  have l : PyData.canLayAll0 [.str p, kD k] = true := by
    show (PyData.strOk p && (PyData.canLayAll0 (k.map PyData.str) && true)) = true
    rw [h1, lay_strs k h2]
    rfl
  have d : (pairD p k).depth ≤ 64 := by
    refine Nat.le_trans (m := 3) (Nat.succ_le_succ ?_) (by decide)
    show PyData.depthAll [.str p, kD k] ≤ 2
    unfold PyData.depthAll
    refine Nat.max_le.mpr ⟨by unfold PyData.depth; decide, ?_⟩
    unfold PyData.depthAll
    exact Nat.max_le.mpr ⟨Nat.succ_le_succ (dep_strs k), by unfold PyData.depthAll; decide⟩
  show (PyData.canLayAll0 [.str p, kD k] && decide ((pairD p k).depth ≤ 64)) = true
  rw [l, decide_eq_true d]
  rfl
end Sp4

set_option Elab.async false
set_option linter.all false
set_option maxRecDepth 100000
set_option maxHeartbeats 2000000
/-! bool(d), d a dict of texts or ints. -/
namespace Bk
open PySem PySem.Spec PyProof.Rows L2
theorem call_boolK {X : Cx} : CallR X (.type "bool") (fun xs H Q => ∃ (a : Addr) (ks : List (Key × V)), xs = [.ref a] ∧ Rd H a (.dK ks) ∧ Q (.bl (!ks.isEmpty)) H) := by
  intro pins s σ H xs us Q I r h
  obtain ⟨a, ks, rfl, hq, q⟩ := h
  obtain rfl := Vals.ref1 r
  exact Ow.bool_own (d_truth I hq fun s1 I1 => ⟨.bl (!ks.isEmpty), H, I1, rfl, q⟩)
end Bk

set_option Elab.async false
set_option linter.all false
set_option maxRecDepth 100000
set_option maxHeartbeats 2000000
/-! name = {k: v for ..}, the name a local. -/
namespace Dh
open PySem PySem.Spec PyProof.Rows L2
variable {X : Cx}
theorem ps_setDc {t : Bool} {i : Nat} {y : Str} {py : Pos} {kx vx tg iter : Expr} {ifs : List Expr} {scope : Scope} {own : List (Str × Nat)} {pos spos : Pos} {wi : TI} {g : TG} {tt : TT} {tk tv : TE} (hu : X.A.units + 1 < cLine) (hc : X.calm = true) (hN : X.N.Nodup) (hy : X.N[i]? = some y) (hyl : X.env.scope.names.lookup y = some .local)
    (hsw : swapsWith (.DictComp kx vx [⟨tg, iter, ifs, 0⟩] scope pos) (some (.Name y py)) spos.line X.env = pure true) (hi : PI X tg iter wi) (ok : BlkOk X.N X.env.scope scope own) (B : Blk X scope tg ifs kx vx g tt tk tv)
    (hs : ∀ x, foldedSetIterable iter X.env x = pure x := by intro _; rfl) : PS X (.Assign [.Name y py] (.DictComp kx vx [⟨tg, iter, ifs, 0⟩] scope pos) spos) (tAsg (tDcA t wi g tt tk tv (own.map (·.2))) (gName i)) := by
  refine ⟨fun pins s σ H D I h => ?_⟩
  have h1 : tDcA t wi g tt tk tv (own.map (·.2)) σ H (fun x H1 => gName i x σ H1 D.nx) := h
  rw [exec_Assign_Name_used _ _ _ _ hsw]
  refine wpAny_bind (wpAny_standAt (wpAny_bind ?_))
  refine wpAny_bind (thn (dcA_core (Qf := fun _ s1 => SP X pins D .next s1) hu hc hN I hi ok B hs h1 fun L C s1 m H1 I1 q hn f => ?_) fun _ s1 hq => wpAny_pure (wpAny_pure hq))
  obtain ⟨f0, f1, f2, f3, f4, f5⟩ := f
  show wpAny _ _ (assign (.Name y py) X.env (.ref L)) _ _ _
  refine wpAny_assign_Name (store_ok2 (v := V.ref L) I1 hN hy (.inl hyl) rfl (fun s2 I2 z => ?_) (.inr hyl))
  obtain ⟨a, but, ha⟩ := z
  have off : C ≠ a := ha.elim (fun z => by rw [z]; exact f1) fun z e => f4 y a z e.symm
  exact ⟨m, hn.sameBut but off, fun h3 but3 => ⟨_, H1, I2.turned (t' := s2.toks) (fun b o hb e => (but3.2 b hb).trans e) f0 f1 f3 f4 f5, q⟩⟩
theorem sw_dict {kx vx : Expr} {gs : List Comprehension} {scope : Scope} {pos py : Pos} {y : Str} {l : Nat} {env : Env} (hk : env.scope.kind = .function) (hy : env.scope.names.lookup y = some .local) (hl : (py.line == pos.line) = true)
    (ha : (scope.names.any fun (n, k) => n == y && (k == .local || k == .cell)) = false) : swapsWith (.DictComp kx vx gs scope pos) (some (.Name y py)) l env = pure true := by
  have e1 : env.kindOf y = some .local := hy
  have e2 : env.blockKind = .function := by
    unfold Env.blockKind
    rw [hk]
    rfl
  unfold swapsWith
  simp only [e2, e1, ha, Expr.pos, hl]
  rfl
end Dh

set_option Elab.async false
set_option linter.all false
set_option maxRecDepth 100000
set_option maxHeartbeats 2000000
/-! xs != ys where xs and ys are lists: data, or lists of different lengths. -/
namespace Le
open PySem PySem.Calls PyProof.Rows PySem.Spec L2
section
variable {X : Cx}
def rNeL (K : W.Frag) : R2 := fun x y H Q => rNeD K x y H Q ∨ ∃ a b xs ys, x = .ref a ∧ y = .ref b ∧ H a = some (.lst xs) ∧ H b = some (.lst ys) ∧ xs.length ≠ ys.length ∧ Q (.bl true) H
theorem op_neL (hu : X.A.units + 64 < cLine) : OpR X (compareOp .NotEq) (rNeL X.K) := by
  intro pins s σ H x y v u Q I rx ry h
  rcases h with h | ⟨a, b, xs, ys, rfl, rfl, ha, hb, hl, q⟩
  · exact op_neD hu pins s σ H x y v u Q I rx ry h
  · cases rx
    cases ry
    obtain ⟨_, is, n, r1, h1⟩ := (show ObjOk X.prog X.w H s.heap a (.lst xs) from I.hok a _ ha)
    obtain ⟨_, js, m, r2, h2⟩ := (show ObjOk X.prog X.w H s.heap b (.lst ys) from I.hok b _ hb)
    have e1 := r1.length
    have e2 := r2.length
    have hne : (is.toArray.size != js.toArray.size) = true := by
      rw [List.size_toArray, List.size_toArray, bne_iff_ne]
      omega
    show wpAny _ X.A (richCompare .NotEq _ _) _ _ s
    exact SeqAt.RcNeAt.lists_lengths ⟨_, h1, rfl, n, rfl⟩ ⟨_, h2, rfl, m, rfl⟩ hne (by omega) _ _ _ _ ⟨.bl true, H, I, rfl, q⟩
end
end Le

set_option Elab.async false
set_option linter.all false
set_option maxRecDepth 100000
set_option maxHeartbeats 2000000
/-! list(x), x a text: its signs. -/
namespace Lx
open PySem PySem.W PySem.Calls PyProof.Rows PyProof.V PySem.Spec L2
section
variable {prog : Program} {w : World} {A : Around} {s : Shared} {x : Str} {t : Tok}
theorem extS {R : Result → Shared → Prop} (hh : A.handled = none) (S : Addr) (c : Nat) (hS : s.heap.get? S = some { cls := .type "list", dict := none, data := .seq #[] c, slots := #[] }) (fit : x.cps.size ≤ sizeLine)
    (hR : ∀ g tk acc c1, (∀ b o, b ≠ S → s.heap.get? b = some o → g.get? b = some o) → g.get? S = some { cls := .type "list", dict := none, data := .seq acc c1, slots := #[] } → ItemsOf (SignAt x) acc x.cps.size → R (.ok (.ret .none)) { s with heap := g, toks := tk }) :
    wpAny (model prog w) A.in1 (Builtin.List.listExtendWith (.ref S) (.str x t) .none)
      (fun fin s1 => match fin with | .done f => R (.ok f) s1 | .again c1 => c1.quiet = true ∧ codeAny (model prog w) A c1 R s1) (fun e s1 => R (.error e) s1) s := by
  have lS : S < s.heap.objs.size := Heap.lt_size hS
  unfold Builtin.List.listExtendWith
  refine wpAny_bind (wpAny_typeOf (T := "str") (typeIs_str s x t) ?_)
  have h1 : Builtin.List.listSameRef (.ref S) (.str x t) = false := rfl
  have h2 : (Value.type "str" == Value.type "list") = false := by decide
  have h3 : (Value.type "str" == Value.type "tuple") = false := by decide
  simp only [h1, h2, h3, Bool.or_false, Bool.false_eq_true, if_false]
  refine wpAny_bind (wpAny_pyIter_str fun o St W st => ?_)
  have ty1 : Shared.TypeIs { s with heap := s.heap.push o } (.str x t) "str" := typeIs_str _ x t
  refine wpAny_bind (wpAny_holding ?_)
  unfold Builtin.List.listLengthHint
  refine wpAny_bind (wpAny_specialOf ty1 F.slot_str_len.lookup ?_)
  (generalize hid : ("str.__len__" : String) = id0; (fail_if_success (clear hid id0)); wp_delta; rw [show splitId id0 = some ("str", "__len__") from by subst hid; decide +kernel]; subst hid)
  refine wpAny_bind (wpAny_isInstance (b := true) ty1 F.sub_str_str ?_)
  show wpAny _ A.in1 (typeOf (.str x t) >>= _) _ _ _
  refine wpAny_bind (wpAny_typeOf ty1 ?_)
  refine wpAny_pure ?_
  have go : codeAny (model prog w) A (.builtin "list.extend.loop" ⟨[.ref S, .ref s.heap.objs.size, .none], []⟩) R { s with heap := s.heap.push o } := by
    refine codeAny_extend_loopS (W A.in1 (by simp [hh])).toS fit S (by simp only [List.mem_singleton]; exact Nat.ne_of_lt lS) .none x.cps.size 0 _ #[] c rfl (Nat.zero_le _) st (Heap.get?_push_of_some _ hS) (ItemsOf.nil _) fun s1 acc c1 mv at_ it => ?_
    obtain ⟨g1, gn, dr, tk, os⟩ := s1
    have e1 : gn = s.gens := mv.gens
    have e2 : dr = s.drawn := mv.drawn
    have e3 : os = s.os := mv.os
    subst e1; subst e2; subst e3
    refine hR g1 tk acc c1 (fun b u hb e => mv.heap b u ?_ (Heap.get?_push_of_some _ e)) at_ it
    simp only [List.mem_cons, List.mem_singleton, List.not_mem_nil, or_false, not_or]
    exact ⟨hb, Nat.ne_of_lt (Heap.lt_size e)⟩
  rw [if_neg (by decide)]
  exact wpAny_pure ⟨plainId_quiet F.plain_extend_loop _, go⟩
theorem initS {R : Result → Shared → Prop} (hh : A.handled = none) (S : Addr) (hS : s.heap.get? S = some { cls := .type "list", data := .seq #[] }) (fit : x.cps.size ≤ sizeLine)
    (hR : ∀ g tk acc c1, (∀ b o, b ≠ S → s.heap.get? b = some o → g.get? b = some o) → g.get? S = some { cls := .type "list", dict := none, data := .seq acc c1, slots := #[] } → ItemsOf (SignAt x) acc x.cps.size → R (.ok (.ret .none)) { s with heap := g, toks := tk }) :
    wpAny (model prog w) A.in1 (Builtin.«list.__init__» ⟨[.ref S, .str x t], []⟩)
      (fun fin s1 => match fin with | .done f => R (.ok f) s1 | .again c1 => c1.quiet = true ∧ codeAny (model prog w) A c1 R s1) (fun e s1 => R (.error e) s1) s := by
  show wpAny _ _ (do let old ← Builtin.List.listItems (.ref S); Builtin.List.listUpdate (.ref S) (fun _ => #[]); letGo old.toList.reverse; Builtin.List.listExtendWith (.ref S) (.str x t) .none) _ _ s
  refine wpAny_bind ?_
  unfold Builtin.List.listItems
  refine wpAny_bind (wpAny_seqItems hS rfl (wpAny_pure ?_))
  show wpAny _ _ (updateSeq S (fun _ => #[]) >>= fun _ => letGo (#[] : Array Value).toList.reverse >>= fun _ => Builtin.List.listExtendWith (.ref S) (.str x t) .none) _ _ s
  refine wpAny_bind (wpAny_updateSeq hS rfl ?_)
  have at2 := Heap.get?_update_self (Obj.mapSeq (fun _ => (#[] : Array Value))) hS rfl
  have keep : ∀ b o, b ≠ S → s.heap.get? b = some o → (s.heap.update S (Obj.mapSeq (fun _ => (#[] : Array Value)))).get? b = some o :=
    fun b o hb e => (Heap.get?_update_other _ _ (Ne.symm hb)).trans e
  refine wpAny_bind (wpAny_letGo ?_)
  refine extS hh S _ at2 fit fun g tk acc c1 kp at_ it => ?_
  exact hR g tk acc c1 (fun b o hb e => kp b o hb (keep b o hb e)) at_ it
theorem listS {Q E : _} (hh : A.handled = none) (fit : x.cps.size ≤ sizeLine)
    (hQ : ∀ g tk acc c1, (∀ b o, s.heap.get? b = some o → g.get? b = some o) → g.get? s.heap.objs.size = some { cls := .type "list", dict := none, data := .seq acc c1, slots := #[] } → ItemsOf (SignAt x) acc x.cps.size → Q (.ref s.heap.objs.size) { s with heap := g, toks := tk }) :
    wpAny (model prog w) A (call (.type "list") [.str x t]) Q E s := by
  refine callType_codes (Q₁ := fun obj s1 => obj = .ref s.heap.objs.size ∧ s1 = { s with heap := s.heap.push { cls := .type "list", data := .seq #[] } }) PySem.F.called_list (PySem.F.typeCall_list_1 _) PySem.F.entry_list_init
    (code_list_new _ ⟨rfl, rfl⟩) fun obj s1 h1 => ?_
  obtain ⟨rfl, rfl⟩ := h1
  have hS : (s.heap.push { cls := .type "list", data := .seq #[] }).get? s.heap.objs.size = some { cls := .type "list", data := .seq #[] } := Heap.get?_push_size _ rfl
  refine ⟨⟨_, hS, rfl⟩, PySem.F.args_list_init_2 _ _, initS (A := A.in1) hh _ hS fit fun g tk acc c1 kp at_ it => ?_⟩
  exact ⟨rfl, hQ g tk acc c1 (fun b o e => kp b o (Nat.ne_of_lt (Heap.lt_size e)) (Heap.get?_push_of_some _ e)) at_ it⟩
end
def signs (x : Str) : List Str := x.cps.toList.map fun c => ⟨#[c]⟩
theorem vals_get : ∀ {xs : List V} {us : List Value}, xs.length = us.length → (∀ (j : Nat) x u, xs[j]? = some x → us[j]? = some u → RelV x u) → Vals xs us
  | [], [], _, _ => .nil
  | [], _ :: _, h, _ => by cases h
  | _ :: _, [], h, _ => by cases h
  | x :: xs, u :: us, h, k => .cons (k 0 x u rfl rfl) (vals_get (Nat.succ.inj h) fun j a b e1 e2 => k (j + 1) a b e1 e2)
theorem call_listS {X : Cx} (hc : X.calm = true) : CallR X (.type "list") (fun xs H Q => ∃ x, xs = [.str x] ∧ x.length ≤ 1000 ∧ ∀ p, H p = none → Q (.ref p) (upd H p (.lst ((signs x).map V.str)))) := by
  intro pins s σ H xs us Q I r h
  obtain ⟨x, rfl, hx, q⟩ := h
  obtain ⟨u, rfl, t, rfl⟩ := vals1 r
  have zx : x.cps.size ≤ 1000 := hx
  refine listS (I.ok.hd hc) (by rw [sizeLine_eq]; omega) fun g tk acc c1 kp at_ it => ?_
  have rv : Vals ((signs x).map V.str) acc.toList := by
    refine vals_get (by unfold signs; rw [List.length_map, List.length_map, Array.length_toList, Array.length_toList, it.1]) fun j a u e1 e2 => ?_
    obtain ⟨c, tk2, h1, rfl⟩ := it.2 j u (by rw [← Array.getElem?_toList]; exact e2)
    unfold signs at e1
    rw [List.map_map, List.getElem?_map, Array.getElem?_toList, h1] at e1
    cases e1
    exact ⟨tk2, rfl⟩
  exact ⟨.ref s.heap.objs.size, upd H s.heap.objs.size (.lst ((signs x).map V.str)), I.laid (t' := tk) kp (Nat.le_refl _)
    (show ObjOk X.prog X.w _ _ _ (.lst _) from ⟨by rw [List.length_map, sizeLine_eq]; unfold signs; rw [List.length_map, Array.length_toList]; omega, acc.toList, c1, rv, by rw [Array.toArray_toList]; exact at_⟩), rfl, q _ (I.hok.fresh (Nat.le_refl _))⟩
end Lx

set_option Elab.async false
set_option linter.all false
set_option maxRecDepth 100000
set_option maxHeartbeats 2000000
/-! The two orders of tuples of texts are the same. -/
namespace Lxk
open PySem PySem.Spec PyProof.Rows L2
theorem lex_eq : ∀ a b : List Str, Dh.kLt (a.map Sum.inr) (b.map Sum.inr) = Tl.lexS a b
  | [], [] => rfl
  | [], _ :: _ => rfl
  | _ :: _, [] => rfl
  | x :: a, y :: b => by
    have ih := lex_eq a b
    unfold Dh.kLt at ih ⊢
    simp only [List.map_cons, Dh.ik] at ih ⊢
    unfold PyProof.Rows.lexLt Tl.lexS
    rw [ih]
    have b1 : ∀ u v : Str, itemOrd.blt (Sum.inr u.cps.toList) (Sum.inr v.cps.toList) = decide (u.cps.toList < v.cps.toList) := fun _ _ => rfl
    rw [b1, b1]
    by_cases e : x = y
    · subst e
      rw [if_pos rfl, decide_eq_false (List.lt_irrefl _)]
      rfl
    · rw [if_neg e]
      by_cases c : x.cps.toList < y.cps.toList
      · rw [decide_eq_true c]
        rfl
      · have c2 : y.cps.toList < x.cps.toList := by
          by_cases c2 : y.cps.toList < x.cps.toList
          · exact c2
          · refine absurd ?_ e
            have q : x.cps.toList = y.cps.toList := PyProof.Rows.strKind.total _ _ (decide_eq_false c) (decide_eq_false c2)
            obtain ⟨⟨u⟩⟩ := x
            obtain ⟨⟨v⟩⟩ := y
            have q2 : u = v := q
            rw [q2]
        rw [decide_eq_false c, decide_eq_true c2]
        rfl
theorem inr_inj : ∀ {a b : List Str}, a.map (Sum.inr : Str → Key) = b.map Sum.inr → a = b
  | [], [], _ => rfl
  | [], _ :: _, h => by cases h
  | _ :: _, [], h => by cases h
  | x :: a, y :: b, h => by
    rw [List.map_cons, List.map_cons] at h
    rw [Sum.inr.inj (List.cons.inj h).1, inr_inj (List.cons.inj h).2]
/-- not behind, and different: before -/
theorem lex_of {a b : List Str} (h : Dh.kLt (b.map Sum.inr) (a.map Sum.inr) = false) (n : a ≠ b) : Tl.lexS a b = true := by
  rw [← lex_eq]
  cases e : Dh.kLt (a.map Sum.inr) (b.map Sum.inr) with
  | true => rfl
  | false => exact absurd (inr_inj (Dh.kLt_total e h)) n
end Lxk

set_option Elab.async false
set_option linter.all false
set_option maxRecDepth 100000
set_option maxHeartbeats 4000000
/-! list(d.items()) and sorted(d.items()), d with keys texts, locked or not; loops and comprehensions over a dict that may be locked. -/
namespace Li
open PySem PySem.W PySem.Calls PyProof.Rows PyProof.V PySem.Spec L2
section
variable {prog : Program} {w : World} {A : Around} {s : Shared}
theorem eqb_self {M : Model} {E : Value → Shared → Prop} {a : Addr} {Q : Bool → Shared → Prop} (h : Q true s) : wpAny M A (eqBool (.ref a) (.ref a)) Q E s := by
  unfold eqBool
  refine wpAny_holding ?_
  refine wpAny_ite_split (fun _ => ?_) (fun hn => absurd (beq_self_eq_true (Value.ref a)) hn)
  exact wpAny_bind (wpAny_rule (wpAny_pure h))
/-- the text that stands first in a tuple -/
def tx1 (h : Heap) : Value → List Nat
  | .ref a => match h.get? a with
    | some { data := .seq us _, .. } => match (us.toList : List Value) with
      | Value.str x _ :: _ => x.cps.toList
      | _ => []
    | _ => []
  | _ => []
def PrAt (h : Heap) (z : Addr × Str × Addr) : Prop := ∃ t, h.get? z.1 = some { cls := .type "tuple", data := .seq #[.str z.2.1 t, .ref z.2.2] }
theorem PrAt.tx {h : Heap} {z : Addr × Str × Addr} (p : PrAt h z) : tx1 h (.ref z.1) = z.2.1.cps.toList := by
  obtain ⟨t, e⟩ := p
  simp only [tx1, e]
def ltx (h : Heap) (v u : Value) : Bool := itemOrd.blt (Sum.inr (tx1 h v)) (Sum.inr (tx1 h u))
theorem ltx_at {h : Heap} {z y : Addr × Str × Addr} (p : PrAt h z) (q : PrAt h y) : ltx h (.ref z.1) (.ref y.1) = decide (z.2.1.cps.toList < y.2.1.cps.toList) := by
  unfold ltx
  rw [p.tx, q.tx]
  rfl
theorem firsts {h : Heap} : ∀ L : List (Addr × Str × Addr), (∀ z ∈ L, PrAt h z) → ∃ fs, TupsOf h (fun _ => true) (L.map fun z => Value.ref z.1) fs ∧ fs.length = L.length
  | [], _ => ⟨[], .nil, rfl⟩
  | z :: L, k => by
    obtain ⟨fs, h1, h2⟩ := firsts L fun y m => k y (List.mem_cons_of_mem _ m)
    obtain ⟨t, e⟩ := k z List.mem_cons_self
    exact ⟨_ :: fs, .cons ⟨z.1, _, _, 0, rfl, e, rfl, rfl, rfl, (fun q => by cases q), fun _ => ⟨_, _, rfl⟩⟩ h1, by rw [List.length_cons, List.length_cons, h2]⟩
theorem sortable {h : Heap} {L : List (Addr × Str × Addr)} {a : Addr} (hL : ∀ z ∈ L, PrAt s.heap z) (hh : ∀ z ∈ L, PrAt h z) (nd : (L.map fun z => z.2.1).Nodup) (h2 : 2 ≤ L.length) (ha : ∀ z ∈ L, z.1 ≠ a) :
    SrtO.SortableO prog w A s a (L.map fun z => Value.ref z.1) (ltx h) := by
  intro h' keep
  have K' : ∀ z ∈ L, PrAt h' z := fun z m => by
    obtain ⟨t, e⟩ := hL z m
    exact ⟨t, keep _ _ (ha z m) e⟩
  obtain ⟨fs, f1, f2⟩ := firsts L K'
  refine ⟨tuples' true, fun Q E q => tup_kind (s := { s with heap := h' }) (by omega) f1 q, fun p q hp hq => ?_⟩
  obtain ⟨z, hz, e1⟩ := List.mem_map.mp hp
  obtain ⟨y, hy, e2⟩ := List.mem_map.mp hq
  rw [SrtO.lt2, ← e1, ← e2]
  show wpAny _ _ _ (fun r s' => s' = _ ∧ r = ltx h (Value.ref z.1) (Value.ref y.1)) _ _
  rw [ltx_at (hh z hz) (hh y hy)]
  obtain ⟨t, ez⟩ := K' z hz
  obtain ⟨u, ey⟩ := K' y hy
  refine kat_lt (s := { s with heap := h' }) ez rfl ey rfl (kat_cons (wpAny_eqBool_str (kat_go (fun e => kat_yes ?_) fun e => kat_no (oneLt_any_str ⟨rfl, rfl⟩))))
  have ex : z.2.1 = y.2.1 := of_decide_eq_true e
  have ezy : z = y := by
    obtain ⟨i, hi⟩ := List.mem_iff_getElem?.mp hz
    obtain ⟨j, hj⟩ := List.mem_iff_getElem?.mp hy
    have li : i < (L.map fun z => z.2.1).length := by rw [List.length_map]; exact (List.getElem?_eq_some_iff.mp hi).1
    have ij : i = j := (List.getElem?_inj li nd).mp (by rw [List.getElem?_map, List.getElem?_map, hi, hj]; exact congrArg some ex)
    subst ij
    exact Option.some.inj (hi.symm.trans hj)
  subst ezy
  refine kat_cons (eqb_self (kat_go (fun _ => kat_yes (kat_nil ⟨rfl, ?_⟩)) fun e => by cases e))
  exact (decide_eq_false (Nat.lt_irrefl _)).trans (decide_eq_false (List.lt_irrefl _)).symm
theorem srt_back {h : Heap} {L : List (Addr × Str × Addr)} {out : List Value} (hh : ∀ z ∈ L, PrAt h z) (h1 : SrtO.Srtd (ltx h) out) (h2 : SrtO.Stb (ltx h) out (L.map fun z => Value.ref z.1)) :
    ∃ L' : List (Addr × Str × Addr), L'.Perm L ∧ L'.Pairwise (fun z y => ¬ y.2.1.cps.toList < z.2.1.cps.toList) ∧ out = L'.map fun z => Value.ref z.1 := by
  obtain ⟨L', p1, p2⟩ := Dh.perm_back h2.perm.symm L rfl
  refine ⟨L', p1, ?_, p2.symm⟩
  rw [← p2] at h1
  have h3 := List.pairwise_map.mp h1
  refine List.Pairwise.imp_of_mem (fun {q r} hq hr e => ?_) h3
  have e' : ltx h (.ref r.1) (.ref q.1) = false := e
  rw [ltx_at (hh r (p1.mem_iff.mp hr)) (hh q (p1.mem_iff.mp hq))] at e'
  exact of_decide_eq_false e'
end
section
variable {X : Cx} {e : Expr} {te : TE} {p apos cpos pos : Pos}
/-- list(d.items()), d locked or not -/
def rItemsR : V → Hp → VK → Prop := fun x H Q => ∃ (d : Addr) (kvs : List (Key × V)), x = .ref d ∧ Rd H d (.dK kvs) ∧
  ∀ (H' : Hp) (p : Addr) (ts : List Addr), Same H H' → H p = none → (∀ t ∈ ts, H t = none) → p ∉ ts → H' p = some (.lst (ts.map V.ref)) → Paired (fun (t : Addr) (q : Key × V) => H' t = some (.tup [kV q.1, q.2])) ts kvs → Q (.ref p) H'
def tListItemsR (te : TE) : TE := fun σ H Q => te σ H fun x H1 => rItemsR x H1 Q
theorem pe_listItemsR (hc : X.calm = true) (he : PE X e te) (hg : Gl X "list") (hm : X.mg "list" = none) (hv : bootBuiltins "list" = some (.type "list")) (hbase : attributeBase e "items" X.env (eval e X.env) = eval e X.env := by rfl) (hline : (apos.endLine == cpos.line) = true := by rfl)
    (hs : starEach [.Call (.Attribute e "items" apos) [] [] cpos] X.env = (false, eval (.Call (.Attribute e "items" apos) [] [] cpos) X.env) :: starEach [] X.env := by rfl) :
    PE X (.Call (.Name "list" p) [.Call (.Attribute e "items" apos) [] [] cpos] [] pos) (tListItemsR te) := by
  refine ⟨fun pins s σ H Q I hq => ?_⟩
  refine wpAny_Call_Name_kw (ld_blt I hg hm hv ?_)
  refine PyProof.Rows.callWith_type1 ?_ hs rfl
  rw [hs]
  show wpAny _ _ (spliced ((false, eval (.Call (.Attribute e "items" apos) [] [] cpos) X.env) :: backTo pos (starEach [] X.env))) _ _ s
  refine Calls.spliced_cons ?_
  refine wpAny_Call_method (T := "dict") (id := "dict.items") hbase rfl hline F.plainAttrs_dict F.slot_dict_items F.type_dict_items (thn (he.run pins s σ H _ I hq) fun u s1 ⟨x, H1, I1, rx, d, kvs, ex, hd, q⟩ => ?_)
  subst ex
  obtain rfl : u = Value.ref d := rx
  obtain ⟨hz, hs0, vs, kv, hdo⟩ := dk_rd I1.hok hd
  obtain ⟨ep, hat⟩ := hdo.dictAt
  have lk : kvs.length = vs.length := Paired.length kv
  have I2 : Inv X pins σ H1 { s1 with heap := s1.heap.push { cls := .type "dict_items", data := .fields #[.ref d] } } := I1.kept (t' := s1.toks) fun b ob q => Heap.get?_push_of_some _ q
  refine ⟨hdo.typeIs, hdo.mapOf.noDict, ?_⟩
  show wpAny _ _ (callWith cpos (.builtin "dict.items") [.ref d] [] []) _ X.xe s1
  refine method_meetsIn F.slot_dict_items F.entry_dict_items rfl (PySem.evalArgs_none ⟨rfl, hdo.typeIs, F.args_dict_items_1 _, _, meets_dict_items (mixKind X.prog X.w) d hs0, ⟨vs, hdo⟩, ?_⟩)
  refine Calls.spliced_nil ?_
  refine PySem.W.kdx_call (knd := mixKind X.prog X.w) (kvs := vs) (ep := ep) (I1.ok.hd hc) ⟨_, Heap.get?_push_size _ rfl, rfl, rfl⟩ (hat.push _) (by omega) fun h' tk acc c as hk hS hl hG hacc => ?_
  obtain ⟨H', k1, k2, k3, k4, k5, k6, J⟩ := LiI.items_laid (tk := tk) I2 hz kv hk hS hl hG hacc
  exact ⟨.ref _, H', J, rfl, q H' _ as k1 k2 k3 k4 k5 k6⟩
/-- sorted(d.items()), d locked or not, its values in the heap -/
def rSortItemsR : V → Hp → VK → Prop := fun x H Q => ∃ (d : Addr) (ks : List (Str × Addr)), x = .ref d ∧ Rd H d (.dK (ks.map fun e => (Sum.inr e.1, V.ref e.2))) ∧ (ks.map (·.1)).Nodup ∧
  ∀ (H' : Hp) (p : Addr) (ps : List (Addr × Str × Addr)), Same H H' → H p = none → (ps.map (·.2)).Perm ks → ps.Pairwise (fun z y => ¬ y.2.1.cps.toList < z.2.1.cps.toList) → H' p = some (.lst (ps.map fun z => V.ref z.1)) →
    (∀ z ∈ ps, H' z.1 = some (.tup [.str z.2.1, .ref z.2.2])) → Q (.ref p) H'
def tSortItemsR (te : TE) : TE := fun σ H Q => te σ H fun x H1 => rSortItemsR x H1 Q
theorem pe_sortItems (hc : X.calm = true) (he : PE X e te) (hg : Gl X "sorted") (hm : X.mg "sorted" = none) (hbase : attributeBase e "items" X.env (eval e X.env) = eval e X.env := by rfl) (hline : (apos.endLine == cpos.line) = true := by rfl)
    (hs : starEach [.Call (.Attribute e "items" apos) [] [] cpos] X.env = (false, eval (.Call (.Attribute e "items" apos) [] [] cpos) X.env) :: starEach [] X.env := by rfl) :
    PE X (.Call (.Name "sorted" p) [.Call (.Attribute e "items" apos) [] [] cpos] [] pos) (tSortItemsR te) := by
  refine ⟨fun pins s σ H Q I hq => ?_⟩
  refine Call_ (ld_blt I hg hm boot_sorted ?_)
  refine PyProof.Rows.callWith_builtin1 (PyProof.Rows.args_cons ?_ hs) rfl rfl
  refine wpAny_Call_method (T := "dict") (id := "dict.items") hbase rfl hline F.plainAttrs_dict F.slot_dict_items F.type_dict_items (thn (he.run pins s σ H _ I hq) fun u s1 ⟨x, H1, I1, rx, d, ks, ex, hd, nd, q⟩ => ?_)
  subst ex
  obtain rfl : u = Value.ref d := rx
  obtain ⟨hz, hs0, vs, kv, hdo⟩ := dk_rd I1.hok hd
  obtain ⟨ep, hat⟩ := hdo.dictAt
  have lk : ks.length = vs.length := by rw [← Paired.length kv, List.length_map]
  have I2 : Inv X pins σ H1 { s1 with heap := s1.heap.push { cls := .type "dict_items", data := .fields #[.ref d] } } := I1.kept (t' := s1.toks) fun b ob q => Heap.get?_push_of_some _ q
  refine ⟨hdo.typeIs, hdo.mapOf.noDict, ?_⟩
  show wpAny _ _ (callWith cpos (.builtin "dict.items") [.ref d] [] []) _ X.xe s1
  refine method_meetsIn F.slot_dict_items F.entry_dict_items rfl (PySem.evalArgs_none ⟨rfl, hdo.typeIs, F.args_dict_items_1 _, _, meets_dict_items (mixKind X.prog X.w) d hs0, ⟨vs, hdo⟩, ?_⟩)
  refine PyProof.Rows.args_nil ?_
  have hzs : ks.length ≤ sizeLine := by rw [List.length_map] at hz; exact hz
  have hview : (s1.heap.push { cls := .type "dict_items", data := .fields #[.ref d] }).IsItemsView s1.heap.objs.size d := ⟨_, Heap.get?_push_size _ rfl, rfl, rfl⟩
  have hat2 := hat.push { cls := .type "dict_items", data := .fields #[.ref d] }
  generalize es : ({ s1 with heap := s1.heap.push { cls := .type "dict_items", data := .fields #[.ref d] } } : Shared) = s2 at I2
  have eh : s2.heap = s1.heap.push { cls := .type "dict_items", data := .fields #[.ref d] } := by rw [← es]
  rw [← eh] at hview hat2
  refine Calls.call_function_entry PyProof.Rows.kind_sorted PyProof.Rows.plain_sorted PyProof.Rows.entry_sorted (PyProof.Rows.args_sorted1 _) ?_
  unfold Builtin.«sorted»
  refine wpAny_bind (m := checkCount "sorted" 1 1 _) (wpAny_pure ?_)
  refine wpAny_bind (PySem.W.kdx_collect (A := X.A.in1) (knd := mixKind X.prog X.w) (kvs := vs) (ep := ep) (I1.ok.hd hc) hview hat2 (by omega) fun h' tk as kp hl hG => ?_)
  have I3 : Inv X pins σ H1 { s2 with heap := h', toks := tk } := I2.kept kp
  have lak : as.length = ks.length := by omega
  have ndA : as.Nodup := List.Pairwise.imp (fun {a b} (h : a < b) => Nat.ne_of_lt h) hG.rise
  obtain ⟨L, eL⟩ : ∃ L, L = as.zip ks := ⟨_, rfl⟩
  have eLa : L.map (·.1) = as := by rw [eL, List.map_fst_zip (by omega)]
  have eLk : L.map (·.2) = ks := by rw [eL, List.map_snd_zip (by omega)]
  have hA : as.map Value.ref = L.map fun z => Value.ref z.1 := by rw [← eLa, List.map_map]; rfl
  have pr : ∀ z ∈ L, PrAt h' z := fun z hm2 => by
    obtain ⟨j, hj⟩ := List.mem_iff_getElem?.mp hm2
    have j1 : as[j]? = some z.1 := by rw [← eLa, List.getElem?_map, hj]; rfl
    have j2 : ks[j]? = some z.2 := by rw [← eLk, List.getElem?_map, hj]; rfl
    obtain ⟨key, k, x, f1, f2, f3⟩ := hG.pairs j _ j1
    obtain ⟨qv, g1, g2, g3⟩ := LiI.paired_get kv (i := j) (x := (Sum.inr z.2.1, V.ref z.2.2)) (by rw [List.getElem?_map, j2]; rfl)
    rw [f1] at g1
    cases g1
    have g2 : Sum.inr z.2.1 = k := g2
    subst g2
    obtain ⟨t, rfl⟩ := (show ∃ t, key = Value.str z.2.1 t from relV_key (show keyIs (Sum.inr z.2.1) key = true from f2))
    have g3 : x = Value.ref z.2.2 := g3
    subst g3
    exact ⟨t, f3⟩
  have lL : L.length = ks.length := by rw [← eLk, List.length_map]
  have ndL : (L.map fun z => z.2.1).Nodup := by
    have e : L.map (fun z => z.2.1) = ks.map (·.1) := by rw [← eLk, List.map_map]; rfl
    rw [e]
    exact nd
  rw [hA]
  refine wpAny_bind (wpAny_newList ?_ (by rw [List.length_map, lL]; exact hzs))
  obtain ⟨g, eg⟩ : ∃ g, g = h'.push (seqObj "list" (L.map fun z => Value.ref z.1).toArray 0) := ⟨_, rfl⟩
  have gL : g.get? h'.objs.size = some (seqObj "list" (L.map fun z => Value.ref z.1).toArray 0) := by
    rw [eg]
    exact Heap.get?_push_size _ rfl
  have gk : ∀ b o, h'.get? b = some o → g.get? b = some o := fun b o e => by
    rw [eg]
    exact Heap.get?_push_of_some _ e
  have prg : ∀ z ∈ L, PrAt g z := fun z m => let ⟨t, e⟩ := pr z m; ⟨t, gk _ _ e⟩
  have nez : ∀ z ∈ L, z.1 ≠ h'.objs.size := fun z m => let ⟨t, e⟩ := pr z m; Nat.ne_of_lt (Heap.lt_size e)
  show wpAny _ _ _ _ _ { s2 with heap := h'.push (seqObj "list" (L.map fun z => Value.ref z.1).toArray 0), toks := tk }
  rw [← eg]
  refine wpAny_bind (wpAny_holding (wpAny_call_entry PyProof.Rows.slot_list_sort ⟨_, gL, rfl⟩ PyProof.Rows.entry_list_sort
    (SrtO.list_sort_ord (s := { s2 with heap := g, toks := tk }) (ltv := ltx g) (Dh.swo_of itemOrd (fun v => Sum.inr (tx1 g v))) gL (by rw [List.length_map, lL]; exact hzs) (fun n2 => ?_) fun out hs hb => ⟨_, rfl, ?_⟩) (PyProof.Rows.args_list_sort _)))
  · rw [List.length_map] at n2
    exact sortable (s := { s2 with heap := g, toks := tk }) prg prg ndL n2 nez
  · obtain ⟨L', p1, p2, rfl⟩ := srt_back prg hs hb
    obtain ⟨e', at'⟩ := PyProof.Rows.sortedHeap_at (vs := L.map fun z => Value.ref z.1) (out := (L'.map fun z => Value.ref z.1).toArray) gL
    have len : (L'.map fun z => V.ref z.1).length ≤ sizeLine := by
      rw [List.length_map, p1.length_eq, lL]
      exact hzs
    have kF : ∀ b o, h'.get? b = some o → (sortedHeap g h'.objs.size (L.map fun z => Value.ref z.1) (L'.map fun z => Value.ref z.1).toArray).get? b = some o := fun b o e => by
      have lt : b < h'.objs.size := Heap.lt_size e
      rw [PyProof.Rows.sortedHeap_old (Nat.ne_of_lt lt) (by rw [eg, size_push']; exact Nat.lt_succ_of_lt lt)]
      exact gk b o e
    have hn0 : H1 h'.objs.size = none := I3.hok.fresh (Nat.le_refl _)
    have I4 : Inv X pins σ (upd H1 h'.objs.size (.lst (L'.map fun z => V.ref z.1))) { s2 with heap := sortedHeap g h'.objs.size (L.map fun z => Value.ref z.1) (L'.map fun z => Value.ref z.1).toArray, toks := tk } :=
      I3.laid (t' := tk) kF (Nat.le_refl _) ⟨len, _, e', L2.vals_maps (fun z : Addr × Str × Addr => V.ref z.1) (fun z => Value.ref z.1) L' fun _ _ => rfl, at'⟩
    obtain ⟨H2, I5, gg, qt⟩ := L2.DX.takeT (P := fun b vs => ∃ z ∈ L, b = z.1 ∧ vs = [.str z.2.1, .ref z.2.2]) I2 as _ I4 ndA fun b hb => by
      rw [← eLa] at hb
      obtain ⟨z, hz2, rfl⟩ := List.mem_map.mp hb
      have hb1 := hG.above z.1 (by rw [← eLa]; exact List.mem_map_of_mem hz2)
      obtain ⟨t, ez⟩ := pr z hz2
      refine ⟨Nat.le_of_lt hb1, ?_, [.str z.2.1, .ref z.2.2], ⟨z, hz2, rfl, rfl⟩, fun H3 => ⟨by show 2 ≤ sizeLine; decide, [Value.str z.2.1 t, Value.ref z.2.2], .cons ⟨t, rfl⟩ (.cons rfl .nil), ⟨_, kF _ _ ez, rfl, 0, rfl⟩⟩⟩
      rw [upd_ne (nez z hz2)]
      exact I2.hok.fresh (Nat.le_of_lt hb1)
    refine wpAny_pure ⟨_, rfl, .ref h'.objs.size, H2, I5, rfl, q H2 _ L' (fun b o e => gg b o (by rw [upd_ne (ne_of_none e hn0)]; exact e)) hn0 (by rw [← eLk]; exact p1.map _) p2 (gg _ _ upd_same) fun z hz2 => ?_⟩
    obtain ⟨vs2, ⟨y, hy, e1, e2⟩, e3⟩ := qt z.1 (by rw [← eLa]; exact List.mem_map_of_mem (p1.mem_iff.mp hz2))
    have ezy : z = y := by
      obtain ⟨i, hi⟩ := List.mem_iff_getElem?.mp (p1.mem_iff.mp hz2)
      obtain ⟨j, hj⟩ := List.mem_iff_getElem?.mp hy
      have li : i < (L.map (·.1)).length := by rw [List.length_map]; exact (List.getElem?_eq_some_iff.mp hi).1
      have ij : i = j := (List.getElem?_inj li (by rw [eLa]; exact ndA)).mp (by rw [List.getElem?_map, List.getElem?_map, hi, hj]; exact congrArg some e1)
      subst ij
      exact Option.some.inj (hi.symm.trans hj)
    rw [e3, e2, ezy]
/-- what walks a dict that may be locked already -/
def tLockR (t : TS) : TS := fun D σ H => t D σ H ∨ tLock t D σ H
def tLockER (t : TE) : TE := fun σ H Q => t σ H Q ∨ tLockE t σ H Q
theorem ps_lockR {st : Stmt} {t : TS} (h : PS X st t) : PS X st (tLockR t) :=
  ⟨fun pins s σ H D I hw => hw.elim (h.run pins s σ H D I) ((ps_lock h).run pins s σ H D I)⟩
theorem pe_lockR {e : Expr} {t : TE} (h : PE X e t) : PE X e (tLockER t) :=
  ⟨fun pins s σ H Q I hw => hw.elim (h.run pins s σ H Q I) ((pe_lock h).run pins s σ H Q I)⟩
end
end Li

set_option Elab.async false
set_option linter.all false
set_option maxRecDepth 100000
set_option maxHeartbeats 4000000
/-! None == o, by the own == of o. -/
namespace Ow
open PySem PySem.Spec PyProof.Rows L2
theorem NoneType_eq_ref (a : Addr) : Gives (Builtin.«NoneType.__eq__» ⟨[.none, .ref a], []⟩) (.val (Value.notImplemented)) :=
  .of_wp fun M A E s Q h => by obtain ⟨hp, g, d, tk, os⟩ := s; wp_walk; exact ⟨_, rfl, h⟩
theorem none_own {prog : Program} {w : World} {A : Around} {E : Value → Shared → Prop} {s : Shared} {K : W.Frag} {x C L f : Addr} {h₀ : Heap} {m : Str → Option Value} {ox : Obj} {od : Option Obj} {Q : Value → Shared → Prop}
    (hu : A.units < cLine) (F : Fr h₀ L s.heap m) (X₀ : K.In h₀) (I : W.InstAt s.heap x ox C od) (hn : W.subIn K (.ref C) (.type "NoneType") = some false) (hs : W.findIn K (.ref C) "__eq__" = some (some (.ref f))) (hf : W.isFn K (.ref f) = true)
    (h : wpAny (model prog w) A (call (.ref f) [.ref x, .none]) (W.CmpBack Q) E s) : wpAny (model prog w) A (richCompare .Eq .none (.ref x)) Q E s := by
  have X := X₀.keeps F.keep
  have one : wpAny (model prog w) A (tryCompare (.ref x) (cmpInfo .Eq).2.2 .none) (fun r s' => ∃ v, r = some v ∧ Q v s') E s := by
    unfold tryCompare
    refine wpAny_bind (W.ifBound_K X I hs hf (wpAny_mono h (fun v s' hv => ?_) fun _ _ e => e))
    cases v <;> first | exact hv.elim | exact wpAny_pure ⟨_, rfl, hv⟩
  have tn : s.TypeIs Value.none "NoneType" := rfl
  have two : wpAny (model prog w) A (tryCompare .none (cmpInfo .Eq).2.1 (.ref x)) (fun r s' => r = none ∧ s' = s) E s :=
    wpAny_tryCompare_declines tn PySem.F.slot_NoneType_eq (call_gives PySem.F.slot_NoneType_eq rfl PySem.F.entry_NoneType_eq (PySem.F.args_NoneType_eq_2 _ _) (NoneType_eq_ref x) ⟨rfl, rfl, rfl⟩)
  unfold richCompare
  simp only [tn.oneThing_none]
  refine wpAny_holding (wpAny_bind (wpAny_cRoomFor hu ?_))
  refine wpAny_bind (wpAny_typeOf tn (wpAny_bind (I.type.here ?_)))
  rw [show (Value.type "NoneType" != Value.ref C) = true from rfl]
  simp only [if_true]
  refine wpAny_bind ((W.looks_subIn X hn).here ?_)
  simp only [Bool.false_eq_true, if_false]
  refine wpAny_bind (wpAny_mono two (fun r s' z => ?_) fun _ _ e => e)
  obtain ⟨rfl, rfl⟩ := z
  simp only [Bool.not_false, if_true]
  refine wpAny_bind (wpAny_mono one (fun r s' z => ?_) fun _ _ e => e)
  obtain ⟨v, rfl, hq⟩ := z
  exact wpAny_pure hq
section
variable {X : Cx} {CX : CXT} {n : Nat} {C f : Addr} {fd : FuncData} {ps : List Str} {sp : Sp} {E : XK}
/-- x == o, x an own one or None -/
def rEqN (K : W.Frag) (C : Addr) (sp : Sp) (E : XK) : R2 := fun x y H Q => rEqO K C sp E x y H Q ∨ ∃ a, x = .non ∧ y = .ref a ∧ Own H C a ∧ sp [.ref a, .non] H (fun z H' => ∃ b, z = .bl b ∧ Q (.bl b) H') E
theorem op_eqN (D : Dun X CX n C f "__eq__" fd ps sp) (hs : W.subIn X.K (.ref C) (.type "NoneType") = some false) (hr : Room n X.A) (hx : Passes CX X E) : OpR X (compareOp .Eq) (rEqN X.K C sp E) := by
  intro pins s σ H x y v u Q I rx ry h
  rcases h with h | ⟨a, rfl, rfl, ha, q⟩
  · exact op_eqO D hr hx pins s σ H x y v u Q I rx ry h
  cases rx
  cases ry
  obtain ⟨ox, od, J⟩ := own_at I ha
  obtain ⟨m, hF⟩ := I.fr
  show wpAny _ _ (richCompare .Eq .none (.ref a)) _ _ _
  refine none_own hr.units0 hF I.ok.mod.kin J hs D.at_ D.fn (wpAny_mono (run_at D.F ⟨hr, rfl⟩ D.b hx I (vs := [.ref _, .non]) (.cons rfl (.cons rfl .nil)) q) (fun r s' z => ?_) fun _ _ z => z)
  obtain ⟨w, H', I', rw', b, rfl, q⟩ := z
  cases rw'
  exact ⟨.bl b, H', I', rfl, q⟩
end
end Ow

set_option Elab.async false
set_option linter.all false
set_option maxRecDepth 100000
set_option maxHeartbeats 2000000
/-! a is not b, of two truth values. -/
namespace Isb
open PySem PySem.Spec PyProof.Rows L2
variable {X : Cx}
theorem op_isNotB : OpR X (compareOp .IsNot) (fun x y H Q => ∃ m n, x = .bl m ∧ y = .bl n ∧ Q (.bl (!decide (m = n))) H) := by
  intro pins s σ H x y v u Q I rx ry h
  obtain ⟨m, n, rfl, rfl, q⟩ := h
  cases (show v = Value.bool m from rx)
  cases (show u = Value.bool n from ry)
  by_cases e : m = n
  · subst e
    exact wpAny_isNot_self rfl ⟨.bl false, H, I, rfl, by simpa using q⟩
  · exact wpAny_isNot_other rfl (fun z => e (Value.bool.inj z)) ⟨.bl true, H, I, rfl, by simpa [e] using q⟩
end Isb

set_option Elab.async false
set_option linter.all false
set_option maxRecDepth 100000
set_option maxHeartbeats 2000000
/-! t[::-1] of a tuple. -/
namespace Rvt
open PySem PySem.Spec PyProof.Rows L2
section
variable {prog : Program} {w : World} {A : Around} {E : Value → Shared → Prop} {s : Shared}
theorem adj_rev (n : Nat) : Builtin.Slice.sliceAdjust none none (-1) (n : Int) = ((n : Int) - 1, -1) := by
  unfold Builtin.Slice.sliceAdjust
  rfl
theorem places_rev (n : Nat) : Builtin.Slice.slicePlaces ((n : Int) - 1) (-1) (-1) = n := by
  unfold Builtin.Slice.slicePlaces
  rw [if_neg (by decide : ¬ ((-1 : Int) > 0)), show (-(-1) : Int) = 1 from rfl, Int.ediv_one]
  split <;> omega
theorem applied_rev {sl : Addr} {vl vu vs : Value} {n : Nat} {Q : Int × Int × Nat → Shared → Prop} (hs : s.heap.IsSliceOf sl vl vu vs) (pl : IsPart vl none) (pu : IsPart vu none) (ps : IsPart vs (some (-1)))
    (h : Q ((n : Int) - 1, -1, n) s) : wpAny (model prog w) A (Builtin.Slice.sliceApplied (.ref sl) (pure (n : Int))) Q E s := by
  obtain ⟨os, hos, hcs, hds⟩ := id hs
  unfold Builtin.Slice.sliceApplied Builtin.Slice.sliceFields
  refine wpAny_bind (wpAny_bind (wpAny_field hos hds (x := vl) rfl (wpAny_bind (wpAny_field hos hds (x := vu) rfl (wpAny_bind (wpAny_field hos hds (x := vs) rfl (wpAny_pure ?_)))))))
  refine wpAny_bind (HT.slicePart_ ps ?_)
  show wpAny _ _ (if ((-1 : Int) == 0) = true then _ else _) _ _ s
  rw [if_neg (by decide)]
  refine wpAny_bind (HT.slicePart_ pl (wpAny_bind (HT.slicePart_ pu (wpAny_bind (wpAny_pure ?_)))))
  show wpAny _ _ (match Builtin.Slice.sliceAdjust none none (-1) (n : Int) with | (lo, hi) => pure (lo, (-1 : Int), Builtin.Slice.slicePlaces lo hi (-1))) _ _ s
  rw [adj_rev]
  show wpAny _ _ (pure ((n : Int) - 1, (-1 : Int), Builtin.Slice.slicePlaces ((n : Int) - 1) (-1) (-1))) _ _ s
  rw [places_rev]
  exact wpAny_pure h
theorem fm_congr {α β : Type} {f g : α → Option β} : ∀ {l : List α}, (∀ x ∈ l, f x = g x) → l.filterMap f = l.filterMap g
  | [], _ => rfl
  | x :: l, h => by
    rw [List.filterMap_cons, List.filterMap_cons, h x List.mem_cons_self, fm_congr fun y m => h y (List.mem_cons_of_mem _ m)]
theorem pick_rev (items : Array Value) : ((List.range items.size).filterMap fun (k : Nat) => items[((items.size : Int) - 1 + (k : Int) * (-1)).toNat]?).toArray = items.toList.reverse.toArray := by
  have e : (List.range items.size).filterMap (fun (k : Nat) => items[((items.size : Int) - 1 + (k : Int) * (-1)).toNat]?) = ((List.range items.size).map fun k => items.size - 1 - k).filterMap (items[·]?) := by
    rw [List.filterMap_map]
    refine fm_congr fun k hk => ?_
    have hk := List.mem_range.mp hk
    show items[((items.size : Int) - 1 + (k : Int) * (-1)).toNat]? = items[items.size - 1 - k]?
    rw [show ((items.size : Int) - 1 + (k : Int) * (-1)).toNat = items.size - 1 - k from by omega]
  rw [e, PySem.W.krv_range, List.filterMap_reverse, PySem.W.krv_all]
theorem getItem_rev {t sl : Addr} {items : Array Value} {vl vu vs : Value} {Q : Value → Shared → Prop} (ht : IsTup s.heap t items) (hs : s.heap.IsSliceOf sl vl vu vs) (pl : IsPart vl none) (pu : IsPart vu none) (ps : IsPart vs (some (-1)))
    (h : Q (.ref s.heap.objs.size) { s with heap := s.heap.push { cls := .type "tuple", data := .seq items.toList.reverse.toArray } })
    (hsz : items.size ≤ sizeLine) : wpAny (model prog w) A (getItem (.ref t) (.ref sl)) Q E s := by
  have htake : sizeOk (.seq items.toList.reverse.toArray) := by
    show items.toList.reverse.toArray.size ≤ sizeLine
    rw [List.size_toArray, List.length_reverse, Array.length_toList]
    exact hsz
  obtain ⟨os, hos, hcs, hds⟩ := id hs
  have hTs : s.TypeIs (.ref sl) "slice" := ⟨os, hos, hcs⟩
  unfold getItem
  try with_reducible refine wpAny_holding ?_
  first | refine wpAny_bind (wpAny_pure ?_) | skip
  refine wpAny_bind (wpAny_sequenceKey ht.typeIs (by decide) ?_)
  refine wpAny_bind (wpAny_callSpecial?_slot (name := Str.ofString "__getitem__") ht.typeIs PyProof.Rows.slot_tuple_getitem
    (wpAny_call_entry PyProof.Rows.slot_tuple_getitem ht.typeIs entry_tuple_getitem ?_ (args_tuple_getitem _ _)))
  show wpAny _ _ (Builtin.Tuple.tupleItemsOf (.ref t) >>= _) _ _ s
  refine wpAny_bind (tupleItemsOf_ ht ?_)
  refine wpAny_bind (wpAny_typeOf hTs ?_)
  rw [if_pos (by decide)]
  refine wpAny_bind (applied_rev hs pl pu ps ?_)
  have hno : ¬ (((((items.size : Nat) : Int) - 1) == 0 && (-1 : Int) == 1 && items.size == items.size) = true) := by
    intro q
    rw [Bool.and_eq_true, Bool.and_eq_true] at q
    exact absurd q.1.2 (by decide)
  show wpAny _ _ (if ((((items.size : Nat) : Int) - 1) == 0 && (-1 : Int) == 1 && items.size == items.size) = true then _ else _) _ _ s
  rw [if_neg hno, pick_rev]
  first
    | exact wpAny_bind (m := Builtin.Tuple.tupleExact _) (wpAny_newObj_type (wpAny_pure ⟨_, rfl, wpAny_pure h⟩) htake)
    | exact wpAny_bind (m := Builtin.Tuple.tupleExact _) (wpAny_newObj_type (wpAny_bind (wpAny_pure (wpAny_pure ⟨_, rfl, wpAny_pure h⟩))) htake)
    | exact wpAny_bind (wpAny_bind (m := Builtin.Tuple.tupleExact _) (wpAny_newObj_type (wpAny_pure (wpAny_pure ⟨_, rfl, wpAny_pure h⟩)) htake))
    | exact wpAny_bind (wpAny_bind (m := Builtin.Tuple.tupleExact _) (wpAny_newObj_type (wpAny_pure ⟨_, rfl, wpAny_pure h⟩) htake))
end
section
variable {X : Cx}
def tRevT (K : PySem.W.Frag) (te : TE) : TE := fun σ H Q => te σ H fun x H1 => ∃ a xs, x = .ref a ∧ SqT K H1 a xs ∧ ∀ p, H1 p = none → Q (.ref p) (upd H1 p (.tup xs.reverse))
theorem pe_revT {e : Expr} {te : TE} {k : Nat} {p1 p2 p3 pos : Pos} (he : PE X e te) : PE X (.Subscript e (.Slice none none (some (.UnaryOp .USub (.Constant (.int 1) k p1) p2)) p3) pos) (tRevT X.K te) := by
  refine ⟨fun pins s σ H Q I h => ?_⟩
  refine Subscript_ (thn (he.run pins s σ H _ I h) fun v s1 ⟨x, H1, I1, r1, q1⟩ => ?_)
  obtain ⟨a, xs, ex, hx, q⟩ := q1
  subst ex
  cases r1
  have hst : PO X (some (.UnaryOp .USub (.Constant (.int 1) k p1) p2)) (tPart (tUn (rU fun i => .int (-i)) (tC (.int 1)))) := po_some (pe_un un_neg pe_int)
  refine wpAny_Slice (thn (po_none.run pins s1 σ H1 (fun o H2 => o = none ∧ H2 = H1) I1 ⟨rfl, rfl⟩) fun vl s2 ⟨l, H2, I2, pl, el, e2⟩ => ?_)
  subst el e2
  refine thn (po_none.run pins s2 σ H2 (fun o H3 => o = none ∧ H3 = H2) I2 ⟨rfl, rfl⟩) fun vu s3 ⟨u, H3, I3, pu, eu, e3⟩ => ?_
  subst eu e3
  refine thn (hst.run pins s3 σ H3 (fun o H4 => o = some (-1) ∧ H4 = H3) I3 ⟨1, rfl, -1, rfl, rfl, rfl⟩) fun vs s4 ⟨o, H4, I4, ps, eo, e4⟩ => ?_
  subst eo e4
  have I5 : Inv X pins σ H4 { s4 with heap := s4.heap.push { cls := .type "slice", data := .fields #[vl, vu, vs] } } := I4.kept (t' := s4.toks) fun b ob q => Heap.get?_push_of_some _ q
  obtain ⟨its, r, ht, hz⟩ := I5.tuple hx
  have hlen := r.length
  show wpAny (model X.prog X.w) X.A (subscriptTail e (.Slice none none (some (.UnaryOp .USub (.Constant (.int 1) k p1) p2)) p3) (.ref a) (.ref s4.heap.objs.size)) (EP X pins σ Q) X.xe { s4 with heap := s4.heap.push { cls := .type "slice", data := .fields #[vl, vu, vs] } }
  refine tail_any (ops := [.ref a, .ref s4.heap.objs.size]) ht.typeIs (PyProof.Rows.slot_tuple_getitem.lookup) ?_ (by with_unfolding_all rfl)
  refine getItem_rev ht (Heap.IsSliceOf.new _ vl vu vs) pl pu ps ?_ (by rw [List.size_toArray]; omega)
  refine ⟨.ref _, _, I5.laid (t' := s4.toks) (o := .tup xs.reverse) (fun b ob q => Heap.get?_push_of_some _ q) (Nat.le_refl _) ?_, rfl, q _ (I5.hok.fresh (Nat.le_refl _))⟩
  exact ⟨by rw [List.length_reverse]; exact hz, _, r.reverse, IsTup.new _ _⟩
end
end Rvt

set_option Elab.async false
set_option linter.all false
set_option maxRecDepth 100000
set_option maxHeartbeats 4000000
/-! zip of two texts of ASCII signs. -/
namespace Zs
open PySem PySem.Spec PyProof.Rows L2
open PySem.Sem (wp)
structure Apart5 (z TI TO i1 i2 : Addr) : Prop where
  TIz : TI ≠ z
  TOz : TO ≠ z
  i1z : i1 ≠ z
  i2z : i2 ≠ z
  TITO : TI ≠ TO
  TIi1 : TI ≠ i1
  TIi2 : TI ≠ i2
  TOi1 : TO ≠ i1
  TOi2 : TO ≠ i2
  i12 : i1 ≠ i2
abbrev SI (h : Heap) (i : Addr) (x : Str) (t : Tok) (k : Nat) : Prop := h.IsStrIter i "str_ascii_iterator" x t k
theorem SI.at' {h h' : Heap} {i : Addr} {x : Str} {t : Tok} {k : Nat} (a : SI h i x t k) (e : ∀ o, h.get? i = some o → h'.get? i = some o) : SI h' i x t k := let ⟨o, ho, r⟩ := a; ⟨o, e o ho, r⟩
section
variable {prog : Program} {w : World} {A : Around} {E : Value → Shared → Prop} {s : Shared}
theorem item {z TI TO i1 i2 : Addr} {k1 k2 : Nat} {x y : Str} {t u : Tok} {c d : Nat} {a b : Value} {Q : Value → Shared → Prop} (D : Apart5 z TI TO i1 i2)
    (hz : IsZip s.heap z TI TO .none) (hTI : IsPair s.heap TI (.ref i1) (.ref i2)) (hTO : IsPair s.heap TO a b) (h1 : SI s.heap i1 x t k1) (h2 : SI s.heap i2 y u k2) (hx : x.cps[k1]? = some c) (hy : y.cps[k2]? = some d)
    (hQ : ∀ h' t' u' tk, IsZip h' z TI TO (rawInt s.heap.objs.size) → IsPair h' TO (.str ⟨#[c]⟩ t') (.str ⟨#[d]⟩ u') → SI h' i1 x t (k1 + 1) → SI h' i2 y u (k2 + 1) → IsPair h' s.heap.objs.size (.str ⟨#[c]⟩ t') (.str ⟨#[d]⟩ u') → h'.objs.size = s.heap.objs.size + 1 →
      (∀ c o, c ≠ z → c ≠ TO → c ≠ i1 → c ≠ i2 → s.heap.get? c = some o → h'.get? c = some o) → Q (.ref s.heap.objs.size) { s with heap := h', toks := tk }) :
    wpAny (model prog w) A (Builtin.«zip.__next__» ⟨[.ref z], []⟩) (fun fin s' => ∃ v, fin = .done (.ret v) ∧ Q v s') E s := by
  show wpAny _ _ (field (.ref z) 2 >>= _) _ _ _
  refine wpAny_bind (wpAny_field hz rfl (x := .bool false) rfl ?_)
  show wpAny _ _ (field (.ref z) 3 >>= _) _ _ _
  refine wpAny_bind (wpAny_field hz rfl (x := .ref TI) rfl ?_)
  refine wpAny_bind (wpAny_seqItems hTI rfl ?_)
  show wpAny _ _ (Builtin.SmallTypes.ownedTupleIsFree (.ref z) >>= _) _ _ _
  refine wpAny_bind ?_
  unfold Builtin.SmallTypes.ownedTupleIsFree
  refine wpAny_bind (wpAny_field hz rfl (x := .none) rfl (wpAny_pure ?_))
  simp only [if_true]
  refine wpAny_bind (wpAny_rule ?_)
  refine wpAny_bind (wpAny_field hz rfl (x := .ref TO) rfl ?_)
  refine wpAny_bind (wpAny_setField_rec hz (by simp) fun h₁ hz₁ hs₁ => ?_)
  replace hz₁ : IsZip h₁ z TI TO .ellipsis := hz₁
  refine wpAny_bind ?_
  simp only [List.zipIdx_cons, List.zipIdx_nil, List.forIn_cons, List.forIn_nil]
  refine wpAny_bind (wpAny_bind (wpAny_onRaise ?_))
  show wpAny _ _ (Builtin.SmallTypes.nextOf (.ref i1) >>= _) _ _ _
  refine wpAny_bind (wpAny_nextOf_ascii_item (h1.extBut hs₁.extBut D.i1z) hx fun h₂ h1₂ hs₂ => wpAny_pure ?_)
  have hTO₂ : IsPair h₂ TO a b := hs₂.extBut _ _ D.TOi1 (hs₁.extBut _ _ D.TOz hTO)
  refine wpAny_bind (wpAny_seqItems hTO₂ rfl ?_)
  refine wpAny_bind (wpAny_updateSeq_pair hTO₂ fun h₃ hTO₃ hs₃ => ?_)
  replace hTO₃ : IsPair h₃ TO (.str ⟨#[c]⟩ s.toks) b := hTO₃
  refine wpAny_bind (wpAny_letGo (wpAny_pure ?_))
  refine wpAny_bind (wpAny_bind (wpAny_onRaise ?_))
  show wpAny _ _ (Builtin.SmallTypes.nextOf (.ref i2) >>= _) _ _ _
  refine wpAny_bind (wpAny_nextOf_ascii_item (((h2.extBut hs₁.extBut D.i2z).extBut hs₂.extBut D.i12.symm).extBut hs₃.extBut D.TOi2.symm) hy fun h₄ h2₄ hs₄ => wpAny_pure ?_)
  have hTO₄ : IsPair h₄ TO (.str ⟨#[c]⟩ s.toks) b := hs₄.extBut _ _ D.TOi2 hTO₃
  refine wpAny_bind (wpAny_seqItems hTO₄ rfl ?_)
  refine wpAny_bind (wpAny_updateSeq_pair hTO₄ fun h₅ hTO₅ hs₅ => ?_)
  replace hTO₅ : IsPair h₅ TO (.str ⟨#[c]⟩ s.toks) (.str ⟨#[d]⟩ (s.toks + 1)) := hTO₅
  refine wpAny_bind (wpAny_letGo (wpAny_pure (wpAny_pure ?_)))
  refine wpAny_bind (wpAny_seqItems hTO₅ rfl ?_)
  refine wpAny_bind (wpAny_newTuple ?_)
  have hsz : h₅.objs.size = s.heap.objs.size := by rw [hs₅.1, hs₄.1, hs₃.1, hs₂.1, hs₁.1]
  have hz₅ : IsZip h₅ z TI TO .ellipsis := hs₅.extBut _ _ D.TOz.symm (hs₄.extBut _ _ D.i2z.symm (hs₃.extBut _ _ D.TOz.symm (hs₂.extBut _ _ D.i1z.symm hz₁)))
  have hk₅ : ∀ c o, c ≠ z → c ≠ TO → c ≠ i1 → c ≠ i2 → s.heap.get? c = some o → h₅.get? c = some o := fun c o c1 c2 c3 c4 e =>
    hs₅.extBut _ _ c2 (hs₄.extBut _ _ c4 (hs₃.extBut _ _ c2 (hs₂.extBut _ _ c3 (hs₁.extBut _ _ c1 e))))
  have h1₅ : SI h₅ i1 x t (k1 + 1) := ((h1₂.extBut hs₃.extBut D.TOi1.symm).extBut hs₄.extBut D.i12).extBut hs₅.extBut D.TOi1.symm
  have h2₅ : SI h₅ i2 y u (k2 + 1) := h2₄.extBut hs₅.extBut D.TOi2.symm
  have hzlt : z < h₅.objs.size := Heap.lt_size hz₅
  show wpAny _ _ (Builtin.SmallTypes.ownedTupleHandOut (.ref z) (.ref h₅.objs.size) >>= _) _ _ _
  refine wpAny_bind ?_
  unfold Builtin.SmallTypes.ownedTupleHandOut
  have hz₆ : IsZip (h₅.push { cls := .type "tuple", data := .seq #[.str ⟨#[c]⟩ s.toks, .str ⟨#[d]⟩ (s.toks + 1)] }) z TI TO .ellipsis := Heap.get?_push_of_some _ hz₅
  refine wpAny_bind (wpAny_setField_rec hz₆ (by simp) fun h₇ hz₇ hs₇ => ?_)
  replace hz₇ : IsZip h₇ z TI TO (rawInt h₅.objs.size) := hz₇
  refine wpAny_setField_rec hz₇ (by simp) fun h₈ hz₈ hs₈ => ?_
  replace hz₈ : IsZip h₈ z TI TO (rawInt h₅.objs.size) := hz₈
  have up : ∀ c o, c ≠ z → h₅.get? c = some o → h₈.get? c = some o := fun c o c1 e => hs₈.extBut _ _ c1 (hs₇.extBut _ _ c1 (Heap.get?_push_of_some _ e))
  have hT₈ : IsPair h₈ h₅.objs.size (.str ⟨#[c]⟩ s.toks) (.str ⟨#[d]⟩ (s.toks + 1)) := hs₈.extBut _ _ (Nat.ne_of_gt hzlt) (hs₇.extBut _ _ (Nat.ne_of_gt hzlt) (Heap.get?_push_size _ rfl))
  have hz8 : h₈.objs.size = h₅.objs.size + 1 := by rw [hs₈.1, hs₇.1, Heap.size_push]
  rw [hsz] at hz₈ hT₈ hz8
  refine wpAny_pure ⟨_, rfl, ?_⟩
  show Q (.ref h₅.objs.size) _
  rw [hsz]
  exact hQ h₈ _ _ _ hz₈ (up _ _ D.TOz hTO₅) (SI.at' h1₅ fun o e => up _ o D.i1z e) (SI.at' h2₅ fun o e => up _ o D.i2z e) hT₈ hz8 fun c o c1 c2 c3 c4 e => up c o c1 (hk₅ c o c1 c2 c3 c4 e)
theorem end_ {z TI TO i1 i2 : Addr} {k1 k2 : Nat} {x y : Str} {t u : Tok} {a b : Value} {Q : PySem.Fin → Shared → Prop} (hh : A.handled = none) (D : Apart5 z TI TO i1 i2)
    (hz : IsZip s.heap z TI TO .none) (hTI : IsPair s.heap TI (.ref i1) (.ref i2)) (hTO : IsPair s.heap TO a b) (h1 : SI s.heap i1 x t k1) (h2 : SI s.heap i2 y u k2) (hend : x.cps[k1]? = none ∨ y.cps[k2]? = none)
    (hE : ∀ h' e tk, (∀ c o, c ≠ z → c ≠ TO → c ≠ i1 → c ≠ i2 → s.heap.get? c = some o → h'.get? c = some o) → (∃ o, h'.get? e = some o ∧ o.cls = .type "StopIteration") → E (.ref e) { s with heap := h', toks := tk }) :
    wpAny (model prog w) A (Builtin.«zip.__next__» ⟨[.ref z], []⟩) Q E s := by
  show wpAny _ _ (field (.ref z) 2 >>= _) _ _ _
  refine wpAny_bind (wpAny_field hz rfl (x := .bool false) rfl ?_)
  show wpAny _ _ (field (.ref z) 3 >>= _) _ _ _
  refine wpAny_bind (wpAny_field hz rfl (x := .ref TI) rfl ?_)
  refine wpAny_bind (wpAny_seqItems hTI rfl ?_)
  show wpAny _ _ (Builtin.SmallTypes.ownedTupleIsFree (.ref z) >>= _) _ _ _
  refine wpAny_bind ?_
  unfold Builtin.SmallTypes.ownedTupleIsFree
  refine wpAny_bind (wpAny_field hz rfl (x := .none) rfl (wpAny_pure ?_))
  simp only [if_true]
  refine wpAny_bind (wpAny_rule ?_)
  refine wpAny_bind (wpAny_field hz rfl (x := .ref TO) rfl ?_)
  refine wpAny_bind (wpAny_setField_rec hz (by simp) fun h₁ hz₁ hs₁ => ?_)
  replace hz₁ : IsZip h₁ z TI TO .ellipsis := hz₁
  refine wpAny_bind ?_
  simp only [List.zipIdx_cons, List.zipIdx_nil, List.forIn_cons, List.forIn_nil]
  refine wpAny_bind (wpAny_bind (wpAny_onRaise ?_))
  show wpAny _ _ (Builtin.SmallTypes.nextOf (.ref i1) >>= _) _ _ _
  cases hx : x.cps[k1]? with
  | none =>
    refine wpAny_bind (wpAny_nextOf_ascii_end hh (h1.extBut hs₁.extBut D.i1z) hx fun h₂ e hs₂ he => ?_)
    obtain ⟨oe, hoe, hce⟩ := he
    have hz₂ : IsZip h₂ z TI TO .ellipsis := hs₂ _ _ D.i1z.symm hz₁
    have hez : e ≠ z := fun x => by subst x; rw [hz₂] at hoe; cases hoe; simp at hce
    refine wpAny_setField_rec hz₂ (by simp) fun h₃ _ hs₃ => hE h₃ e _ (fun c o c1 _ c3 _ x => hs₃.extBut _ _ c1 (hs₂ _ _ c3 (hs₁.extBut _ _ c1 x))) ⟨oe, hs₃.extBut _ _ hez hoe, hce⟩
  | some c =>
    have hy : y.cps[k2]? = none := by rcases hend with h | h; rw [hx] at h; cases h; exact h
    refine wpAny_bind (wpAny_nextOf_ascii_item (h1.extBut hs₁.extBut D.i1z) hx fun h₂ h1₂ hs₂ => wpAny_pure ?_)
    have hTO₂ : IsPair h₂ TO a b := hs₂.extBut _ _ D.TOi1 (hs₁.extBut _ _ D.TOz hTO)
    refine wpAny_bind (wpAny_seqItems hTO₂ rfl ?_)
    refine wpAny_bind (wpAny_updateSeq_pair hTO₂ fun h₃ hTO₃ hs₃ => ?_)
    refine wpAny_bind (wpAny_letGo (wpAny_pure ?_))
    refine wpAny_bind (wpAny_bind (wpAny_onRaise ?_))
    show wpAny _ _ (Builtin.SmallTypes.nextOf (.ref i2) >>= _) _ _ _
    refine wpAny_bind (wpAny_nextOf_ascii_end hh (((h2.extBut hs₁.extBut D.i2z).extBut hs₂.extBut D.i12.symm).extBut hs₃.extBut D.TOi2.symm) hy fun h₄ e hs₄ he => ?_)
    obtain ⟨oe, hoe, hce⟩ := he
    have hz₄ : IsZip h₄ z TI TO .ellipsis := hs₄ _ _ D.i2z.symm (hs₃.extBut _ _ D.TOz.symm (hs₂.extBut _ _ D.i1z.symm hz₁))
    have hez : e ≠ z := fun x => by subst x; rw [hz₄] at hoe; cases hoe; simp at hce
    refine wpAny_setField_rec hz₄ (by simp) fun h₅ _ hs₅ => hE h₅ e _ (fun c o c1 c2 c3 c4 x => hs₅.extBut _ _ c1 (hs₄ _ _ c4 (hs₃.extBut _ _ c2 (hs₂.extBut _ _ c3 (hs₁.extBut _ _ c1 x))))) ⟨oe, hs₅.extBut _ _ hez hoe, hce⟩
theorem next_item {z TI TO i1 i2 : Addr} {k1 k2 : Nat} {x y : Str} {t u : Tok} {c d : Nat} {a b : Value} {Q : Option Value → Shared → Prop} (D : Apart5 z TI TO i1 i2)
    (hz : IsZip s.heap z TI TO .none) (hTI : IsPair s.heap TI (.ref i1) (.ref i2)) (hTO : IsPair s.heap TO a b) (h1 : SI s.heap i1 x t k1) (h2 : SI s.heap i2 y u k2) (hx : x.cps[k1]? = some c) (hy : y.cps[k2]? = some d)
    (hQ : ∀ h' t' u' tk, IsZip h' z TI TO (rawInt s.heap.objs.size) → IsPair h' TO (.str ⟨#[c]⟩ t') (.str ⟨#[d]⟩ u') → SI h' i1 x t (k1 + 1) → SI h' i2 y u (k2 + 1) → IsPair h' s.heap.objs.size (.str ⟨#[c]⟩ t') (.str ⟨#[d]⟩ u') → h'.objs.size = s.heap.objs.size + 1 →
      (∀ c o, c ≠ z → c ≠ TO → c ≠ i1 → c ≠ i2 → s.heap.get? c = some o → h'.get? c = some o) → Q (some (.ref s.heap.objs.size)) { s with heap := h', toks := tk }) :
    wpAny (model prog w) A (pyNext (.ref z)) Q E s := by
  have hT : s.TypeIs (.ref z) "zip" := ⟨_, hz, rfl⟩
  unfold pyNext
  exact wpAny_bind (wpAny_attempt (wpAny_callSpecial?_slot (name := Str.ofString "__next__") hT F.slot_zip_next
    (wpAny_call_entry F.slot_zip_next hT F.entry_zip_next
      (item D hz hTI hTO h1 h2 hx hy fun h' t' u' tk a1 a2 a3 a4 a5 a6 a7 => wpAny_pure (hQ h' t' u' tk a1 a2 a3 a4 a5 a6 a7)) (F.args_zip_next_1 _))))
theorem next_end {z TI TO i1 i2 : Addr} {k1 k2 : Nat} {x y : Str} {t u : Tok} {a b : Value} {Q : Option Value → Shared → Prop} (hh : A.handled = none) (D : Apart5 z TI TO i1 i2)
    (hz : IsZip s.heap z TI TO .none) (hTI : IsPair s.heap TI (.ref i1) (.ref i2)) (hTO : IsPair s.heap TO a b) (h1 : SI s.heap i1 x t k1) (h2 : SI s.heap i2 y u k2) (hend : x.cps[k1]? = none ∨ y.cps[k2]? = none)
    (hQ : ∀ h' tk, (∀ c o, c ≠ z → c ≠ TO → c ≠ i1 → c ≠ i2 → s.heap.get? c = some o → h'.get? c = some o) → Q none { s with heap := h', toks := tk }) : wpAny (model prog w) A (pyNext (.ref z)) Q E s := by
  have hT : s.TypeIs (.ref z) "zip" := ⟨_, hz, rfl⟩
  unfold pyNext
  refine wpAny_bind (wpAny_attempt (wpAny_callSpecial?_slot (name := Str.ofString "__next__") hT F.slot_zip_next
    (wpAny_call_entry F.slot_zip_next hT F.entry_zip_next (end_ hh D hz hTI hTO h1 h2 hend fun h' e tk hk he => ?_) (F.args_zip_next_1 _))))
  obtain ⟨o, ho, hc⟩ := he
  refine wpAny_bind (wpAny_isInstance (T := "StopIteration") (b := true) ⟨o, ho, hc⟩ isSubtype_stop ?_)
  exact wpAny_pure (hQ _ _ hk)
end
abbrev g1 (h : Heap) (x : Str) (t : Tok) : Heap := h.push { cls := .type "str_ascii_iterator", data := .fields #[.str x t, .int 0 0] }
abbrev g2 (h : Heap) (x y : Str) (t u : Tok) : Heap := (g1 h x t).push { cls := .type "str_ascii_iterator", data := .fields #[.str y u, .int 0 0] }
abbrev g3 (h : Heap) (x y : Str) (t u : Tok) : Heap := (g2 h x y t u).push { cls := .type "tuple", data := .seq #[.ref h.objs.size, .ref (g1 h x t).objs.size] }
abbrev g4 (h : Heap) (x y : Str) (t u : Tok) : Heap := (g3 h x y t u).push { cls := .type "tuple", data := .seq #[.none, .none] }
abbrev g5 (h : Heap) (x y : Str) (t u : Tok) : Heap := (g4 h x y t u).push { cls := .type "zip", data := .fields #[.none, .bool false, .bool false, .ref (g2 h x y t u).objs.size, .ref (g3 h x y t u).objs.size] }
theorem meets_new (x y : Str) (t u : Tok) (hx : x.cps.all (· < 128) = true) (hy : y.cps.all (· < 128) = true) :
    Meets (Builtin.«zip.__new__» ⟨[.type "zip", .str x t, .str y u], []⟩) (fun _ R s => R (.ok (.ret (.ref (g4 s.heap x y t u).objs.size))) { s with heap := g5 s.heap x y t u }) :=
  .of_wp fun prog w A R s h => by
    obtain ⟨hp, g, d, tk, os⟩ := s
    have hsub := sub_zip
    wp_walk using wpAny_pyIter_ascii hx, wpAny_pyIter_ascii hy
    exact ⟨_, rfl, h⟩
section
variable {prog : Program} {w : World} {A : Around} {E : Value → Shared → Prop} {s : Shared}
theorem call_ {x y : Str} {t u : Tok} {Q : Value → Shared → Prop} (hx : x.cps.all (· < 128) = true) (hy : y.cps.all (· < 128) = true)
    (h : ∀ h', IsZip h' (s.heap.objs.size + 4) (s.heap.objs.size + 2) (s.heap.objs.size + 3) .none → IsPair h' (s.heap.objs.size + 2) (.ref s.heap.objs.size) (.ref (s.heap.objs.size + 1)) →
      IsPair h' (s.heap.objs.size + 3) .none .none → SI h' s.heap.objs.size x t 0 → SI h' (s.heap.objs.size + 1) y u 0 → h'.objs.size = s.heap.objs.size + 5 →
      (∀ c o, s.heap.get? c = some o → h'.get? c = some o) → Q (.ref (s.heap.objs.size + 4)) { s with heap := h' }) :
    wpAny (model prog w) A (call (.type "zip") [.str x t, .str y u]) Q E s := by
  refine callType_new PySem.F.called_zip (by decide) (PySem.F.typeCall_zip_2 _ _) (PySem.F.newCall_zip_2 _ _) (fun obj => PySem.F.args_object_init_3 obj _ _) PySem.F.entry_zip_new
    (meets_new x y t u hx hy) ?_
  have z1 : (g1 s.heap x t).objs.size = s.heap.objs.size + 1 := Heap.size_push ..
  have z2 : (g2 s.heap x y t u).objs.size = s.heap.objs.size + 2 := by rw [Heap.size_push, z1]
  have z3 : (g3 s.heap x y t u).objs.size = s.heap.objs.size + 3 := by rw [Heap.size_push, z2]
  have z4 : (g4 s.heap x y t u).objs.size = s.heap.objs.size + 4 := by rw [Heap.size_push, z3]
  have z5 : (g5 s.heap x y t u).objs.size = s.heap.objs.size + 5 := by rw [Heap.size_push, z4]
  have e5 : (g5 s.heap x y t u).get? (g4 s.heap x y t u).objs.size = some _ := Heap.get?_push_size _ rfl
  have e4 : (g5 s.heap x y t u).get? (g3 s.heap x y t u).objs.size = some _ := Heap.get?_push_of_some _ (Heap.get?_push_size _ rfl)
  have e3 : (g5 s.heap x y t u).get? (g2 s.heap x y t u).objs.size = some _ := Heap.get?_push_of_some _ (Heap.get?_push_of_some _ (Heap.get?_push_size _ rfl))
  have e2 : (g5 s.heap x y t u).get? (g1 s.heap x t).objs.size = some _ := Heap.get?_push_of_some _ (Heap.get?_push_of_some _ (Heap.get?_push_of_some _ (Heap.get?_push_size _ rfl)))
  have e1 : (g5 s.heap x y t u).get? s.heap.objs.size = some _ := Heap.get?_push_of_some _ (Heap.get?_push_of_some _ (Heap.get?_push_of_some _ (Heap.get?_push_of_some _ (Heap.get?_push_size _ rfl))))
  show _ ∧ _
  rw [z2, z3, z4] at e5
  rw [z1, z2] at e3
  rw [z3] at e4
  rw [z1] at e2
  rw [z4]
  exact ⟨⟨_, e5, rfl⟩, h _ e5 e3 e4 ⟨_, e1, rfl, rfl⟩ ⟨_, e2, rfl, rfl⟩ z5 fun c o x =>
    Heap.get?_push_of_some _ (Heap.get?_push_of_some _ (Heap.get?_push_of_some _ (Heap.get?_push_of_some _ (Heap.get?_push_of_some _ x))))⟩
end
/-- the signs of two texts, in new pairs -/
def Itw (x y : Str) : It :=
  ⟨fun i _ => i < x.cps.size ∧ i < y.cps.size,
    fun i H v H' => ∃ T c d, v = .ref T ∧ H T = none ∧ H' = upd H T (.tup [.str ⟨#[c]⟩, .str ⟨#[d]⟩]) ∧ x.cps[i]? = some c ∧ y.cps[i]? = some d,
    fun i _ => x.cps.size ≤ i ∨ y.cps.size ≤ i⟩
theorem turn_ {P : Program} {w : World} {K : PySem.W.Frag} {elts : List Expr} {kk : Nat} {tpos : Pos} {x y : Str} {t u : Tok} {z TI TO i1 i2 : Addr} (D : Apart5 z TI TO i1 i2) :
    Turn P w K (.Tuple elts kk tpos) (Itw x y) [z, TI, TO, i1, i2] z (fun i h => IsZip h z TI TO .none ∧ IsPair h TI (.ref i1) (.ref i2) ∧ (∃ a b, IsPair h TO a b) ∧ SI h i1 x t i ∧ SI h i2 y u i) where
  mem := by simp
  obj := fun i h st c hc => by
    obtain ⟨hz, hTI, ⟨a, b, hTO⟩, ⟨o1, e1, _, d1⟩, ⟨o2, e2, _, d2⟩⟩ := st
    have e' : c = z ∨ c = TI ∨ c = TO ∨ c = i1 ∨ c = i2 := by simpa using hc
    rcases e' with q | q | q | q | q
    · rw [q]; exact ⟨_, hz, fun v q => nomatch q⟩
    · rw [q]; exact ⟨_, hTI, fun v q => nomatch q⟩
    · rw [q]; exact ⟨_, hTO, fun v q => nomatch q⟩
    · rw [q]; exact ⟨o1, e1, fun v q => by rw [d1] at q; cases q⟩
    · rw [q]; exact ⟨o2, e2, fun v q => by rw [d2] at q; cases q⟩
  keep := fun i h h' st k => by
    obtain ⟨hz, hTI, ⟨a, b, hTO⟩, h1, h2⟩ := st
    exact ⟨k z (by simp) _ hz, k TI (by simp) _ hTI, ⟨a, b, k TO (by simp) _ hTO⟩, SI.at' h1 fun o q => k i1 (by simp) o q, SI.at' h2 fun o q => k i2 (by simp) o q⟩
  item := by
    intro X hP hw hK hc i pins s σ H E I hf st hg
    subst hP hw hK
    obtain ⟨hz, hTI, ⟨x0, y0, hTO⟩, h1, h2⟩ := st
    obtain ⟨l1, l2⟩ := hg
    have hx : x.cps[i]? = some x.cps[i] := Array.getElem?_eq_getElem l1
    have hy : y.cps[i]? = some y.cps[i] := Array.getElem?_eq_getElem l2
    have hzl : z < s.heap.objs.size := Heap.lt_size hz
    refine next_item D hz hTI hTO h1 h2 hx hy fun h' t' u' tk z' TO' h1' h2' hT hsz hk => ?_
    refine ⟨_, rfl, wpAny_letOwnedTupleGo_zip (s := { s with heap := h', toks := tk }) z' fun h'' z'' sb => ?_⟩
    have hT2 : h''.get? s.heap.objs.size = some { cls := .type "tuple", data := .seq #[.str ⟨#[x.cps[i]]⟩ t', .str ⟨#[y.cps[i]]⟩ u'] } := (sb.2 _ (Nat.ne_of_gt hzl)).trans hT
    have new : ObjOk X.prog X.w (upd H s.heap.objs.size (.tup [.str ⟨#[x.cps[i]]⟩, .str ⟨#[y.cps[i]]⟩])) h'' s.heap.objs.size (.tup [.str ⟨#[x.cps[i]]⟩, .str ⟨#[y.cps[i]]⟩]) :=
      ⟨by show 2 ≤ sizeLine; decide, [.str ⟨#[x.cps[i]]⟩ t', .str ⟨#[y.cps[i]]⟩ u'], .cons ⟨t', rfl⟩ (.cons ⟨u', rfl⟩ .nil), ⟨_, hT2, rfl, _, rfl⟩⟩
    have I1 : Inv X pins σ (upd H s.heap.objs.size (.tup [.str ⟨#[x.cps[i]]⟩, .str ⟨#[y.cps[i]]⟩])) { s with heap := h'', toks := tk } :=
      I.turnedNew (t' := tk) (ch := [z, TI, TO, i1, i2]) (fun c o hb q => (sb.2 c (fun q' => hb (by simp [q']))).trans (hk c o (fun q' => hb (by simp [q'])) (fun q' => hb (by simp [q'])) (fun q' => hb (by simp [q'])) (fun q' => hb (by simp [q'])) q)) hf (Nat.le_refl _) new
    refine ⟨.ref s.heap.objs.size, _, I1, rfl, ⟨_, _, _, rfl, I.hok.fresh (Nat.le_refl _), rfl, hx, hy⟩, ⟨z'', ?_, ⟨.str ⟨#[x.cps[i]]⟩ t', .str ⟨#[y.cps[i]]⟩ u', ?_⟩, ?_, ?_⟩, fun c hcm => ?_⟩
    · exact (sb.2 _ D.TIz).trans (hk _ _ D.TIz D.TITO D.TIi1 D.TIi2 hTI)
    · exact (sb.2 _ D.TOz).trans TO'
    · exact SI.at' h1' fun o q => (sb.2 _ D.i1z).trans q
    · exact SI.at' h2' fun o q => (sb.2 _ D.i2z).trans q
    · have hlt : c < s.heap.objs.size := by
        have e' : c = z ∨ c = TI ∨ c = TO ∨ c = i1 ∨ c = i2 := by simpa using hcm
        rcases e' with q | q | q | q | q
        · rw [q]; exact hzl
        · rw [q]; exact Heap.lt_size hTI
        · rw [q]; exact Heap.lt_size hTO
        · rw [q]; obtain ⟨_, e1, _⟩ := h1; exact Heap.lt_size e1
        · rw [q]; obtain ⟨_, e2, _⟩ := h2; exact Heap.lt_size e2
      rw [upd_ne (Nat.ne_of_lt hlt)]
      exact (hf c hcm).1
  done := by
    intro X hP hw hK hc i pins s σ H E I hf st hg
    subst hP hw hK
    obtain ⟨hz, hTI, ⟨x0, y0, hTO⟩, h1, h2⟩ := st
    have he : x.cps[i]? = none ∨ y.cps[i]? = none := hg.imp (fun q => Array.getElem?_eq_none q) fun q => Array.getElem?_eq_none q
    exact next_end (I.ok.hd hc) D hz hTI hTO h1 h2 he fun h' tk hk => ⟨rfl, I.turnedL (t' := tk) (ch := [z, TI, TO, i1, i2]) (fun c o hb q =>
      hk c o (fun q' => hb (by simp [q'])) (fun q' => hb (by simp [q'])) (fun q' => hb (by simp [q'])) (fun q' => hb (by simp [q'])) q) hf⟩
  self := fun A i s Q E st h => wpAny_pyIter_zip st.1 h
def iZipS (ta : TA) : TI := fun σ H R => ta σ H fun vs H1 => ∃ x y : Str, vs = [.str x, .str y] ∧ x.cps.all (· < 128) = true ∧ y.cps.all (· < 128) = true ∧ R (Itw x y) H1
theorem pi_zipS {X : Cx} {e e2 : Expr} {ta : TA} {p pos tpos : Pos} {elts : List Expr} {kk : Nat} (hg : Gl X "zip") (hm : X.mg "zip" = none) (ha : PA X [e, e2] ta)
    (hs : starEach [e, e2] X.env = (false, eval e X.env) :: starEach [e2] X.env := by rfl) (hpl : (backTo pos (starEach [e2] X.env)).any (·.1) = false := by rfl) :
    PI X (.Tuple elts kk tpos) (.Call (.Name "zip" p) [e, e2] [] pos) (iZipS ta) := by
  refine ⟨fun pins s σ H R I h => ?_⟩
  refine Call_ (ld_blt I hg hm PyProof.Rows.boot_zip (PyProof.Rows.callWith_type1 (thn (ha.run pos pins s σ H _ I h) fun us s1 ⟨vs, H1, I1, r1, q1⟩ => ?_) hs hpl))
  obtain ⟨x, y, ex, hx, hy, q⟩ := q1
  subst ex
  cases r1 with
  | cons r rr =>
    cases rr with
    | cons r' rr =>
      cases rr
      obtain ⟨t, rfl⟩ := r
      obtain ⟨u, rfl⟩ := r'
      have fresh5 : ∀ c, c ∈ [s1.heap.objs.size + 4, s1.heap.objs.size + 2, s1.heap.objs.size + 3, s1.heap.objs.size, s1.heap.objs.size + 1] → FpOk X pins H1 c := fun c hcm => by
        have hle : s1.heap.objs.size ≤ c := by
          have e' : c = s1.heap.objs.size + 4 ∨ c = s1.heap.objs.size + 2 ∨ c = s1.heap.objs.size + 3 ∨ c = s1.heap.objs.size ∨ c = s1.heap.objs.size + 1 := by simpa using hcm
          rcases e' with z | z | z | z | z <;> rw [z] <;> simp
        exact I1.fpOk hle (I1.hok.fresh hle)
      refine call_ hx hy fun h' hz hTI hTO h1 h2 hsz hk => wpAny_pyIter_zip hz ?_
      have I2 : Inv X pins σ H1 { s1 with heap := h' } := I1.kept (t' := s1.toks) hk
      exact ⟨s1.heap.objs.size + 4, [s1.heap.objs.size + 4, s1.heap.objs.size + 2, s1.heap.objs.size + 3, s1.heap.objs.size, s1.heap.objs.size + 1], _, _, H1, rfl, I2, turn_ ⟨by simp, by simp, by simp, by simp, by simp, by simp, by simp, by simp, by simp, by simp⟩, ⟨hz, hTI, ⟨_, _, hTO⟩, h1, h2⟩, fresh5, q⟩
theorem walk_ {x y : Str} {n : Nat} (hn : n = min x.cps.size y.cps.size) : Walk (Itw x y) n (fun _ => True) (fun i H v H' => ∃ T c d, v = .ref T ∧ H T = none ∧ H' = upd H T (.tup [.str ⟨#[c]⟩, .str ⟨#[d]⟩]) ∧ x.cps[i]? = some c ∧ y.cps[i]? = some d) := by
  subst hn
  exact ⟨fun i _ hi _ => ⟨by omega, by omega⟩, fun _ _ => by show _ ≤ _ ∨ _ ≤ _; omega, fun _ _ _ _ _ _ y => y⟩
end Zs

set_option Elab.async false
set_option linter.all false
set_option maxRecDepth 100000
set_option maxHeartbeats 4000000
open L2 in
local macro_rules | `(tactic| walk_at "q1") => `(tactic| first
  | refine ⟨_, rfl, ?_⟩
  | refine ⟨_, _, rfl, rfl, ?_⟩
  | refine And.intro (show CMul _ _ from Or.inr ⟨by decide, by decide⟩) ?_
  | refine And.intro (show CMul _ _ from Or.inl ⟨by first | decide | omega, by first | decide | omega⟩) ?_
  | refine And.intro (show CMul _ _ from Or.inr ⟨by omega, by omega⟩) ?_
  | refine And.intro (show CDiv _ _ from ⟨by omega, by omega⟩) ?_
  | refine And.intro (show Dt.CPowG _ _ from ⟨by decide, by decide +kernel⟩) ?_
  | refine And.intro (by first | decide | omega) ?_
  | refine And.intro (Int.pow_pos (Int.pow_pos (by decide))) ?_
  | refine ⟨_, _, _, _, rfl, rfl, SqL.of (by first | assumption | exact upd_same), (by rfl), ?_⟩
  | refine ⟨_, _, _, _, rfl, rfl, (by first | assumption | exact upd_same), (by rfl), ?_⟩
  | refine Or.inl ⟨_, rfl, ?_⟩
  | refine Or.inr ⟨_, rfl, ?_⟩)
local macro_rules | `(tactic| walk_at "q") => `(tactic| repeat (walk_at "q1"))
local macro_rules | `(tactic| walk_at "eqt") => `(tactic| (refine ⟨_, rfl, ?_⟩; refine ⟨rfl, ?_⟩; first
  | (refine ⟨true, rfl, ?_⟩; refine L2.iteT ?_)
  | (refine ⟨false, rfl, ?_⟩; refine L2.iteF ?_)))
local macro_rules | `(tactic| walk_at "sz") => `(tactic| (rw [PySem.sizeLine_eq]; simp))
namespace K04
open PySem PySem.Spec PyProof.Rows L2 Dt An Rp Sp4
def topS (i : Nat) : Stmt := PySem.Challenge.pw_dealtrows_k04_ways_and_parts_left_out.main.body.getD i (.Pass ⟨0, 0, 0, 0⟩)
abbrev s_is_name : Stmt := topS 4
abbrev nm_is_name : List Str := ["value"]
abbrev ps_is_name : List Str := ["value"]
theorem sc_is_name : FnScope nm_is_name ps_is_name (defScope s_is_name) := ⟨rfl, rfl, rfl, by decide +kernel, rfl, by decide +kernel, by decide +kernel⟩
abbrev s_are_integers : Stmt := topS 5
abbrev nm_are_integers : List Str := ["value", "number"]
abbrev ps_are_integers : List Str := ["value"]
theorem sc_are_integers : FnScope nm_are_integers ps_are_integers (defScope s_are_integers) := ⟨rfl, rfl, rfl, by decide +kernel, rfl, by decide +kernel, by decide +kernel⟩
abbrev s_are_names : Stmt := topS 6
abbrev nm_are_names : List Str := ["value", "name"]
abbrev ps_are_names : List Str := ["value"]
theorem sc_are_names : FnScope nm_are_names ps_are_names (defScope s_are_names) := ⟨rfl, rfl, rfl, by decide +kernel, rfl, by decide +kernel, by decide +kernel⟩
abbrev s_is_ascending : Stmt := topS 7
abbrev nm_is_ascending : List Str := ["values", "low", "high"]
abbrev ps_is_ascending : List Str := ["values"]
theorem sc_is_ascending : FnScope nm_is_ascending ps_is_ascending (defScope s_is_ascending) := ⟨rfl, rfl, rfl, by decide +kernel, rfl, by decide +kernel, by decide +kernel⟩
abbrev s_UnknownName___init__ : Stmt := inClass (topS 12) 0
abbrev nm_UnknownName___init__ : List Str := ["self", "name"]
abbrev ps_UnknownName___init__ : List Str := ["self", "name"]
theorem sc_UnknownName___init__ : FnScope nm_UnknownName___init__ ps_UnknownName___init__ (defScope s_UnknownName___init__) := ⟨rfl, rfl, rfl, by decide +kernel, rfl, by decide +kernel, by decide +kernel⟩
abbrev s__are_columns : Stmt := topS 18
abbrev nm__are_columns : List Str := ["value"]
abbrev ps__are_columns : List Str := ["value"]
theorem sc__are_columns : FnScope nm__are_columns ps__are_columns (defScope s__are_columns) := ⟨rfl, rfl, rfl, by decide +kernel, rfl, by decide +kernel, by decide +kernel⟩
abbrev s__are_tables : Stmt := topS 19
abbrev nm__are_tables : List Str := ["value", "table"]
abbrev ps__are_tables : List Str := ["value"]
theorem sc__are_tables : FnScope nm__are_tables ps__are_tables (defScope s__are_tables) := ⟨rfl, rfl, rfl, by decide +kernel, rfl, by decide +kernel, by decide +kernel⟩
abbrev s__is_key_of : Stmt := topS 20
abbrev nm__is_key_of : List Str := ["columns", "value", "column"]
abbrev ps__is_key_of : List Str := ["columns", "value"]
theorem sc__is_key_of : FnScope nm__is_key_of ps__is_key_of (defScope s__is_key_of) := ⟨rfl, rfl, rfl, by decide +kernel, rfl, by decide +kernel, by decide +kernel⟩
abbrev s__are_keys_of : Stmt := topS 21
abbrev nm__are_keys_of : List Str := ["columns", "value", "key"]
abbrev ps__are_keys_of : List Str := ["columns", "value"]
theorem sc__are_keys_of : FnScope nm__are_keys_of ps__are_keys_of (defScope s__are_keys_of) := ⟨rfl, rfl, rfl, by decide +kernel, rfl, by decide +kernel, by decide +kernel⟩
abbrev s__are_keys : Stmt := topS 22
abbrev nm__are_keys : List Str := ["tables", "value", "table"]
abbrev ps__are_keys : List Str := ["tables", "value"]
theorem sc__are_keys : FnScope nm__are_keys ps__are_keys (defScope s__are_keys) := ⟨rfl, rfl, rfl, by decide +kernel, rfl, by decide +kernel, by decide +kernel⟩
abbrev s__is_reference : Stmt := topS 23
abbrev nm__is_reference : List Str := ["tables", "keys", "value", "table", "columns", "parent", "key", "column"]
abbrev ps__is_reference : List Str := ["tables", "keys", "value"]
theorem sc__is_reference : FnScope nm__is_reference ps__is_reference (defScope s__is_reference) := ⟨rfl, rfl, rfl, by decide +kernel, rfl, by decide +kernel, by decide +kernel⟩
abbrev s__lead_round : Stmt := topS 25
abbrev nm__lead_round : List Str := ["steps", "left", "many", "starts", "table", "_", "step"]
abbrev ps__lead_round : List Str := ["steps"]
theorem sc__lead_round : FnScope nm__lead_round ps__lead_round (defScope s__lead_round) := ⟨rfl, rfl, rfl, by decide +kernel, rfl, by decide +kernel, by decide +kernel⟩
abbrev s__are_references : Stmt := topS 24
abbrev nm__are_references : List Str := ["tables", "keys", "value", "name"]
abbrev ps__are_references : List Str := ["tables", "keys", "value"]
theorem sc__are_references : FnScope nm__are_references ps__are_references (defScope s__are_references) := ⟨rfl, rfl, rfl, by decide +kernel, rfl, by decide +kernel, by decide +kernel⟩
abbrev s__reached : Stmt := topS 26
abbrev nm__reached : List Str := ["references", "table", "found", "waiting", "start", "reference"]
abbrev ps__reached : List Str := ["references", "table"]
theorem sc__reached : FnScope nm__reached ps__reached (defScope s__reached) := ⟨rfl, rfl, rfl, by decide +kernel, rfl, by decide +kernel, by decide +kernel⟩
abbrev s__many : Stmt := topS 27
abbrev nm__many : List Str := ["keys", "table"]
abbrev ps__many : List Str := ["keys"]
theorem sc__many : FnScope nm__many ps__many (defScope s__many) := ⟨rfl, rfl, rfl, by decide +kernel, rfl, by decide +kernel, by decide +kernel⟩
abbrev s_Schema___init__ : Stmt := inClass (topS 28) 0
abbrev nm_Schema___init__ : List Str := ["self", "tables", "keys", "references", "all_keys", "all_references", "table", "name"]
abbrev ps_Schema___init__ : List Str := ["self", "tables", "keys", "references"]
theorem sc_Schema___init__ : FnScope nm_Schema___init__ ps_Schema___init__ (defScope s_Schema___init__) := ⟨rfl, rfl, rfl, by decide +kernel, rfl, by decide +kernel, by decide +kernel⟩
abbrev s_Schema_tables : Stmt := inClass (topS 28) 1
abbrev nm_Schema_tables : List Str := ["self"]
abbrev ps_Schema_tables : List Str := ["self"]
theorem sc_Schema_tables : FnScope nm_Schema_tables ps_Schema_tables (defScope s_Schema_tables) := ⟨rfl, rfl, rfl, by decide +kernel, rfl, by decide +kernel, by decide +kernel⟩
abbrev s_Schema_references : Stmt := inClass (topS 28) 2
abbrev nm_Schema_references : List Str := ["self"]
abbrev ps_Schema_references : List Str := ["self"]
theorem sc_Schema_references : FnScope nm_Schema_references ps_Schema_references (defScope s_Schema_references) := ⟨rfl, rfl, rfl, by decide +kernel, rfl, by decide +kernel, by decide +kernel⟩
abbrev s_Schema___contains__ : Stmt := inClass (topS 28) 14
abbrev nm_Schema___contains__ : List Str := ["self", "x"]
abbrev ps_Schema___contains__ : List Str := ["self", "x"]
theorem sc_Schema___contains__ : FnScope nm_Schema___contains__ ps_Schema___contains__ (defScope s_Schema___contains__) := ⟨rfl, rfl, rfl, by decide +kernel, rfl, by decide +kernel, by decide +kernel⟩
abbrev s_Schema__check_table : Stmt := inClass (topS 28) 3
abbrev nm_Schema__check_table : List Str := ["self", "table"]
abbrev ps_Schema__check_table : List Str := ["self", "table"]
theorem sc_Schema__check_table : FnScope nm_Schema__check_table ps_Schema__check_table (defScope s_Schema__check_table) := ⟨rfl, rfl, rfl, by decide +kernel, rfl, by decide +kernel, by decide +kernel⟩
abbrev s_Schema_keys_of : Stmt := inClass (topS 28) 5
abbrev nm_Schema_keys_of : List Str := ["self", "table"]
abbrev ps_Schema_keys_of : List Str := ["self", "table"]
theorem sc_Schema_keys_of : FnScope nm_Schema_keys_of ps_Schema_keys_of (defScope s_Schema_keys_of) := ⟨rfl, rfl, rfl, by decide +kernel, rfl, by decide +kernel, by decide +kernel⟩
abbrev s_Schema_references_of : Stmt := inClass (topS 28) 6
abbrev nm_Schema_references_of : List Str := ["self", "table", "name"]
abbrev ps_Schema_references_of : List Str := ["self", "table"]
theorem sc_Schema_references_of : FnScope nm_Schema_references_of ps_Schema_references_of (defScope s_Schema_references_of) := ⟨rfl, rfl, rfl, by decide +kernel, rfl, by decide +kernel, by decide +kernel⟩
abbrev s_Schema_is_row_of : Stmt := inClass (topS 28) 10
abbrev nm_Schema_is_row_of : List Str := ["self", "table", "value"]
abbrev ps_Schema_is_row_of : List Str := ["self", "table", "value"]
theorem sc_Schema_is_row_of : FnScope nm_Schema_is_row_of ps_Schema_is_row_of (defScope s_Schema_is_row_of) := ⟨rfl, rfl, rfl, by decide +kernel, rfl, by decide +kernel, by decide +kernel⟩
abbrev s_Schema_leads_to : Stmt := inClass (topS 28) 11
abbrev nm_Schema_leads_to : List Str := ["self", "table", "other"]
abbrev ps_Schema_leads_to : List Str := ["self", "table", "other"]
theorem sc_Schema_leads_to : FnScope nm_Schema_leads_to ps_Schema_leads_to (defScope s_Schema_leads_to) := ⟨rfl, rfl, rfl, by decide +kernel, rfl, by decide +kernel, by decide +kernel⟩
abbrev s_Schema_without_key : Stmt := inClass (topS 28) 12
abbrev nm_Schema_without_key : List Str := ["self", "table", "columns", "target", "left", "key", "keys", "name"]
abbrev ps_Schema_without_key : List Str := ["self", "table", "columns"]
theorem sc_Schema_without_key : FnScope nm_Schema_without_key ps_Schema_without_key (defScope s_Schema_without_key) := ⟨rfl, rfl, rfl, by decide +kernel, rfl, by decide +kernel, by decide +kernel⟩
abbrev s_Schema_without_reference : Stmt := inClass (topS 28) 13
abbrev nm_Schema_without_reference : List Str := ["self", "name", "left", "other"]
abbrev ps_Schema_without_reference : List Str := ["self", "name"]
theorem sc_Schema_without_reference : FnScope nm_Schema_without_reference ps_Schema_without_reference (defScope s_Schema_without_reference) := ⟨rfl, rfl, rfl, by decide +kernel, rfl, by decide +kernel, by decide +kernel⟩
abbrev s_Schema___len__ : Stmt := inClass (topS 28) 15
abbrev nm_Schema___len__ : List Str := ["self"]
abbrev ps_Schema___len__ : List Str := ["self"]
theorem sc_Schema___len__ : FnScope nm_Schema___len__ ps_Schema___len__ (defScope s_Schema___len__) := ⟨rfl, rfl, rfl, by decide +kernel, rfl, by decide +kernel, by decide +kernel⟩
abbrev s_Schema___eq__ : Stmt := inClass (topS 28) 16
abbrev nm_Schema___eq__ : List Str := ["self", "other"]
abbrev ps_Schema___eq__ : List Str := ["self", "other"]
theorem sc_Schema___eq__ : FnScope nm_Schema___eq__ ps_Schema___eq__ (defScope s_Schema___eq__) := ⟨rfl, rfl, rfl, by decide +kernel, rfl, by decide +kernel, by decide +kernel⟩
abbrev s_Schema___str__ : Stmt := inClass (topS 28) 17
abbrev nm_Schema___str__ : List Str := ["self"]
abbrev ps_Schema___str__ : List Str := ["self"]
theorem sc_Schema___str__ : FnScope nm_Schema___str__ ps_Schema___str__ (defScope s_Schema___str__) := ⟨rfl, rfl, rfl, by decide +kernel, rfl, by decide +kernel, by decide +kernel⟩
abbrev s__law_dice : Stmt := topS 30
abbrev nm__law_dice : List Str := ["_law_script", "_law_spot", "_law_cell", "_law_great", "_law_blend"]
abbrev ps__law_dice : List Str := ["_law_script", "_law_spot"]
theorem sc__law_dice : FnScope nm__law_dice ps__law_dice (defScope s__law_dice) := ⟨rfl, rfl, rfl, by decide +kernel, rfl, by decide +kernel, by decide +kernel⟩
abbrev s__law_roll : Stmt := topS 31
abbrev nm__law_roll : List Str := ["_law_dice_here", "_law_upto", "_law_found", "_law_one", "_law_two"]
abbrev ps__law_roll : List Str := ["_law_dice_here", "_law_upto"]
theorem sc__law_roll : FnScope nm__law_roll ps__law_roll (defScope s__law_roll) := ⟨rfl, rfl, rfl, by decide +kernel, rfl, by decide +kernel, by decide +kernel⟩
abbrev s__law_pick : Stmt := topS 32
abbrev nm__law_pick : List Str := ["_law_dice_here", "_law_items"]
abbrev ps__law_pick : List Str := ["_law_dice_here", "_law_items"]
theorem sc__law_pick : FnScope nm__law_pick ps__law_pick (defScope s__law_pick) := ⟨rfl, rfl, rfl, by decide +kernel, rfl, by decide +kernel, by decide +kernel⟩
abbrev s__law_mixed : Stmt := topS 33
abbrev nm__law_mixed : List Str := ["_law_dice_here", "_law_items", "_law_left", "_law_found"]
abbrev ps__law_mixed : List Str := ["_law_dice_here", "_law_items"]
theorem sc__law_mixed : FnScope nm__law_mixed ps__law_mixed (defScope s__law_mixed) := ⟨rfl, rfl, rfl, by decide +kernel, rfl, by decide +kernel, by decide +kernel⟩
abbrev s__law_names : Stmt := topS 34
abbrev nm__law_names : List Str := ["_law_dice_here", "_law_many", "_law_letters", "_law_found", "_law_turn", "_law_word", "_law_at", "_law_one"]
abbrev ps__law_names : List Str := ["_law_dice_here", "_law_many"]
theorem sc__law_names : FnScope nm__law_names ps__law_names (defScope s__law_names) := ⟨rfl, rfl, rfl, by decide +kernel, rfl, by decide +kernel, by decide +kernel⟩
abbrev s__law_some : Stmt := topS 35
abbrev nm__law_some : List Str := ["_law_dice_here", "_law_items", "_law_most"]
abbrev ps__law_some : List Str := ["_law_dice_here", "_law_items", "_law_most"]
theorem sc__law_some : FnScope nm__law_some ps__law_some (defScope s__law_some) := ⟨rfl, rfl, rfl, by decide +kernel, rfl, by decide +kernel, by decide +kernel⟩
abbrev s__law_ways : Stmt := topS 36
abbrev nm__law_ways : List Str := ["_law_dice_here", "_law_tables", "_law_locks", "_law_order", "_law_found", "_law_name", "_law_at", "_law_some_here", "_law_table", "_law_parent", "_law_lock"]
abbrev ps__law_ways : List Str := ["_law_dice_here", "_law_tables", "_law_locks"]
theorem sc__law_ways : FnScope nm__law_ways ps__law_ways (defScope s__law_ways) := ⟨rfl, rfl, rfl, by decide +kernel, rfl, by decide +kernel, by decide +kernel⟩
abbrev s__law_schema : Stmt := topS 37
abbrev nm__law_schema : List Str := ["_law_dice_here", "_law_most", "_law_tables", "_law_locks", "_law_name", "_law_some_here", "_law_turn"]
abbrev ps__law_schema : List Str := ["_law_dice_here", "_law_most"]
theorem sc__law_schema : FnScope nm__law_schema ps__law_schema (defScope s__law_schema) := ⟨rfl, rfl, rfl, by decide +kernel, rfl, by decide +kernel, by decide +kernel⟩
abbrev s__law_schema_made : Stmt := topS 38
abbrev nm__law_schema_made : List Str := ["_law_plain"]
abbrev ps__law_schema_made : List Str := ["_law_plain"]
theorem sc__law_schema_made : FnScope nm__law_schema_made ps__law_schema_made (defScope s__law_schema_made) := ⟨rfl, rfl, rfl, by decide +kernel, rfl, by decide +kernel, by decide +kernel⟩
abbrev s__law_with : Stmt := topS 39
abbrev nm__law_with : List Str := ["_law_rows", "_law_name", "_law_value"]
abbrev ps__law_with : List Str := ["_law_rows", "_law_name", "_law_value"]
theorem sc__law_with : FnScope nm__law_with ps__law_with (defScope s__law_with) := ⟨rfl, rfl, rfl, by decide +kernel, rfl, by decide +kernel, by decide +kernel⟩
abbrev s__law_without : Stmt := topS 40
abbrev nm__law_without : List Str := ["_law_rows", "_law_name", "_law_one"]
abbrev ps__law_without : List Str := ["_law_rows", "_law_name"]
theorem sc__law_without : FnScope nm__law_without ps__law_without (defScope s__law_without) := ⟨rfl, rfl, rfl, by decide +kernel, rfl, by decide +kernel, by decide +kernel⟩
abbrev s__law_reached : Stmt := topS 41
abbrev nm__law_reached : List Str := ["_law_plain", "_law_table", "_law_found", "_law_turn", "_law_name", "_law_start", "_law_columns", "_law_parent", "_law_lock"]
abbrev ps__law_reached : List Str := ["_law_plain", "_law_table"]
theorem sc__law_reached : FnScope nm__law_reached ps__law_reached (defScope s__law_reached) := ⟨rfl, rfl, rfl, by decide +kernel, rfl, by decide +kernel, by decide +kernel⟩
abbrev s__law_ways_right : Stmt := topS 42
abbrev nm__law_ways_right : List Str := ["_law_schema_here", "_law_plain", "_law_table", "_law_there", "_law_other"]
abbrev ps__law_ways_right : List Str := ["_law_schema_here", "_law_plain"]
theorem sc__law_ways_right : FnScope nm__law_ways_right ps__law_ways_right (defScope s__law_ways_right) := ⟨rfl, rfl, rfl, by decide +kernel, rfl, by decide +kernel, by decide +kernel⟩
abbrev s__law_rest : Stmt := topS 43
abbrev nm__law_rest : List Str := ["_law_plain", "_law_part", "_law_name", "_law_value", "_law_rest_here"]
abbrev ps__law_rest : List Str := ["_law_plain", "_law_part", "_law_name", "_law_value"]
theorem sc__law_rest : FnScope nm__law_rest ps__law_rest (defScope s__law_rest) := ⟨rfl, rfl, rfl, by decide +kernel, rfl, by decide +kernel, by decide +kernel⟩
abbrev s__law_less_right : Stmt := topS 44
abbrev nm__law_less_right : List Str := ["_law_schema_here", "_law_plain", "_law_table", "_law_lock", "_law_used", "_law_one", "_law_found", "_law_rest_here", "_law_name"]
abbrev ps__law_less_right : List Str := ["_law_schema_here", "_law_plain"]
theorem sc__law_less_right : FnScope nm__law_less_right ps__law_less_right (defScope s__law_less_right) := ⟨rfl, rfl, rfl, by decide +kernel, rfl, by decide +kernel, by decide +kernel⟩
abbrev s__law_rows_right : Stmt := topS 45
abbrev nm__law_rows_right : List Str := ["_law_dice_here", "_law_schema_here", "_law_plain", "_law_table", "_law_wide", "_law_row", "_law_at", "_law_odd", "_law_near", "_law_one"]
abbrev ps__law_rows_right : List Str := ["_law_dice_here", "_law_schema_here", "_law_plain"]
theorem sc__law_rows_right : FnScope nm__law_rows_right ps__law_rows_right (defScope s__law_rows_right) := ⟨rfl, rfl, rfl, by decide +kernel, rfl, by decide +kernel, by decide +kernel⟩
abbrev s__law_equal_right : Stmt := topS 46
abbrev nm__law_equal_right : List Str := ["_law_dice_here", "_law_schema_here", "_law_plain", "_law_other", "_law_turned", "_law_part", "_law_made", "_law_name", "_law_columns", "_law_more", "_law_one", "_law_table", "_law_parent", "_law_lock", "_law_fresh", "_law_ways_here"]
abbrev ps__law_equal_right : List Str := ["_law_dice_here", "_law_schema_here", "_law_plain", "_law_other"]
theorem sc__law_equal_right : FnScope nm__law_equal_right ps__law_equal_right (defScope s__law_equal_right) := ⟨rfl, rfl, rfl, by decide +kernel, rfl, by decide +kernel, by decide +kernel⟩
abbrev s__law_right : Stmt := topS 47
abbrev nm__law_right : List Str := ["_law_dice_here", "_law_plain", "_law_other", "_law_schema_here"]
abbrev ps__law_right : List Str := ["_law_dice_here"]
theorem sc__law_right : FnScope nm__law_right ps__law_right (defScope s__law_right) := ⟨rfl, rfl, rfl, by decide +kernel, rfl, by decide +kernel, by decide +kernel⟩
abbrev s_law : Stmt := topS 48
abbrev nm_law : List Str := ["_law_script", "_law_at", "_law_dice_here", "_law_turn", "_law_tables", "_law_one", "_law_locks", "_law_ways_here", "_law_two", "_law_schema_here", "_law_told", "_law_cut", "_law_wide", "_law_bare"]
abbrev ps_law : List Str := ["_law_script"]
theorem sc_law : FnScope nm_law ps_law (defScope s_law) := ⟨rfl, rfl, rfl, by decide +kernel, rfl, by decide +kernel, by decide +kernel⟩
structure Ads where
  is_name : Addr
  fd_is_name : FuncData
  are_integers : Addr
  fd_are_integers : FuncData
  are_names : Addr
  fd_are_names : FuncData
  is_ascending : Addr
  fd_is_ascending : FuncData
  UnknownName___init__ : Addr
  fd_UnknownName___init__ : FuncData
  _are_columns : Addr
  fd__are_columns : FuncData
  _are_tables : Addr
  fd__are_tables : FuncData
  _is_key_of : Addr
  fd__is_key_of : FuncData
  _are_keys_of : Addr
  fd__are_keys_of : FuncData
  _are_keys : Addr
  fd__are_keys : FuncData
  _is_reference : Addr
  fd__is_reference : FuncData
  _lead_round : Addr
  fd__lead_round : FuncData
  _are_references : Addr
  fd__are_references : FuncData
  _reached : Addr
  fd__reached : FuncData
  _many : Addr
  fd__many : FuncData
  Schema___init__ : Addr
  fd_Schema___init__ : FuncData
  Schema_tables : Addr
  fd_Schema_tables : FuncData
  Schema_references : Addr
  fd_Schema_references : FuncData
  Schema___contains__ : Addr
  fd_Schema___contains__ : FuncData
  Schema__check_table : Addr
  fd_Schema__check_table : FuncData
  Schema_keys_of : Addr
  fd_Schema_keys_of : FuncData
  Schema_references_of : Addr
  fd_Schema_references_of : FuncData
  Schema_is_row_of : Addr
  fd_Schema_is_row_of : FuncData
  Schema_leads_to : Addr
  fd_Schema_leads_to : FuncData
  Schema_without_key : Addr
  fd_Schema_without_key : FuncData
  Schema_without_reference : Addr
  fd_Schema_without_reference : FuncData
  Schema___len__ : Addr
  fd_Schema___len__ : FuncData
  Schema___eq__ : Addr
  fd_Schema___eq__ : FuncData
  Schema___str__ : Addr
  fd_Schema___str__ : FuncData
  dice : Addr
  fd_dice : FuncData
  roll : Addr
  fd_roll : FuncData
  pick : Addr
  fd_pick : FuncData
  mixed : Addr
  fd_mixed : FuncData
  names : Addr
  fd_names : FuncData
  some : Addr
  fd_some : FuncData
  ways : Addr
  fd_ways : FuncData
  schema : Addr
  fd_schema : FuncData
  schema_made : Addr
  fd_schema_made : FuncData
  «with» : Addr
  fd_with : FuncData
  without : Addr
  fd_without : FuncData
  reached : Addr
  fd_reached : FuncData
  ways_right : Addr
  fd_ways_right : FuncData
  rest : Addr
  fd_rest : FuncData
  less_right : Addr
  fd_less_right : FuncData
  rows_right : Addr
  fd_rows_right : FuncData
  equal_right : Addr
  fd_equal_right : FuncData
  right : Addr
  fd_right : FuncData
  law : Addr
  fd_law : FuncData
  c_Schema : Addr
  c_InvalidSchema : Addr
  c_InvalidOperation : Addr
  c_UnknownName : Addr
  c_DealError : Addr
  p_tables : Addr
  p_references : Addr
  tk__INTEGER_BOUND : Tok
  tk_MAX_LETTERS : Tok
  tk_MAX_TABLES : Tok
  tk_MAX_COLUMNS : Tok
  tk_MAX_KEYS : Tok
  tk_MAX_REFERENCES : Tok
abbrev veT : List Value := [.type "ValueError", .type "Exception", .type "BaseException", .type "object"]
structure Txt (K : PySem.W.Frag) (mg : Str → Option Value) (a : Ads) : Prop where
  F_is_name : Fun K "is_name" "is_name" s_is_name a.is_name a.fd_is_name
  g_is_name : mg "is_name" = some (.ref a.is_name)
  F_are_integers : Fun K "are_integers" "are_integers" s_are_integers a.are_integers a.fd_are_integers
  g_are_integers : mg "are_integers" = some (.ref a.are_integers)
  F_are_names : Fun K "are_names" "are_names" s_are_names a.are_names a.fd_are_names
  g_are_names : mg "are_names" = some (.ref a.are_names)
  F_is_ascending : Fun K "is_ascending" "is_ascending" s_is_ascending a.is_ascending a.fd_is_ascending
  g_is_ascending : mg "is_ascending" = some (.ref a.is_ascending)
  F_UnknownName___init__ : Fun K "__init__" "UnknownName.__init__" s_UnknownName___init__ a.UnknownName___init__ a.fd_UnknownName___init__
  F__are_columns : Fun K "_are_columns" "_are_columns" s__are_columns a._are_columns a.fd__are_columns
  g__are_columns : mg "_are_columns" = some (.ref a._are_columns)
  F__are_tables : Fun K "_are_tables" "_are_tables" s__are_tables a._are_tables a.fd__are_tables
  g__are_tables : mg "_are_tables" = some (.ref a._are_tables)
  F__is_key_of : Fun K "_is_key_of" "_is_key_of" s__is_key_of a._is_key_of a.fd__is_key_of
  g__is_key_of : mg "_is_key_of" = some (.ref a._is_key_of)
  F__are_keys_of : Fun K "_are_keys_of" "_are_keys_of" s__are_keys_of a._are_keys_of a.fd__are_keys_of
  g__are_keys_of : mg "_are_keys_of" = some (.ref a._are_keys_of)
  F__are_keys : Fun K "_are_keys" "_are_keys" s__are_keys a._are_keys a.fd__are_keys
  g__are_keys : mg "_are_keys" = some (.ref a._are_keys)
  F__is_reference : Fun K "_is_reference" "_is_reference" s__is_reference a._is_reference a.fd__is_reference
  g__is_reference : mg "_is_reference" = some (.ref a._is_reference)
  F__lead_round : Fun K "_lead_round" "_lead_round" s__lead_round a._lead_round a.fd__lead_round
  g__lead_round : mg "_lead_round" = some (.ref a._lead_round)
  F__are_references : Fun K "_are_references" "_are_references" s__are_references a._are_references a.fd__are_references
  g__are_references : mg "_are_references" = some (.ref a._are_references)
  F__reached : Fun K "_reached" "_reached" s__reached a._reached a.fd__reached
  g__reached : mg "_reached" = some (.ref a._reached)
  F__many : Fun K "_many" "_many" s__many a._many a.fd__many
  g__many : mg "_many" = some (.ref a._many)
  F_Schema___init__ : FunD K "__init__" "Schema.__init__" (defArgs s_Schema___init__) (defBody s_Schema___init__) (defScope s_Schema___init__) [] [("keys", V.non), ("references", V.non)] a.Schema___init__ a.fd_Schema___init__
  F_Schema_tables : Fun K "tables" "Schema.tables" s_Schema_tables a.Schema_tables a.fd_Schema_tables
  F_Schema_references : Fun K "references" "Schema.references" s_Schema_references a.Schema_references a.fd_Schema_references
  F_Schema___contains__ : Fun K "__contains__" "Schema.__contains__" s_Schema___contains__ a.Schema___contains__ a.fd_Schema___contains__
  F_Schema__check_table : Fun K "_check_table" "Schema._check_table" s_Schema__check_table a.Schema__check_table a.fd_Schema__check_table
  F_Schema_keys_of : Fun K "keys_of" "Schema.keys_of" s_Schema_keys_of a.Schema_keys_of a.fd_Schema_keys_of
  F_Schema_references_of : Fun K "references_of" "Schema.references_of" s_Schema_references_of a.Schema_references_of a.fd_Schema_references_of
  F_Schema_is_row_of : Fun K "is_row_of" "Schema.is_row_of" s_Schema_is_row_of a.Schema_is_row_of a.fd_Schema_is_row_of
  F_Schema_leads_to : Fun K "leads_to" "Schema.leads_to" s_Schema_leads_to a.Schema_leads_to a.fd_Schema_leads_to
  F_Schema_without_key : Fun K "without_key" "Schema.without_key" s_Schema_without_key a.Schema_without_key a.fd_Schema_without_key
  F_Schema_without_reference : Fun K "without_reference" "Schema.without_reference" s_Schema_without_reference a.Schema_without_reference a.fd_Schema_without_reference
  F_Schema___len__ : Fun K "__len__" "Schema.__len__" s_Schema___len__ a.Schema___len__ a.fd_Schema___len__
  F_Schema___eq__ : Fun K "__eq__" "Schema.__eq__" s_Schema___eq__ a.Schema___eq__ a.fd_Schema___eq__
  F_Schema___str__ : Fun K "__str__" "Schema.__str__" s_Schema___str__ a.Schema___str__ a.fd_Schema___str__
  F_dice : Fun K "_law_dice" "_law_dice" s__law_dice a.dice a.fd_dice
  g_dice : mg "_law_dice" = some (.ref a.dice)
  F_roll : Fun K "_law_roll" "_law_roll" s__law_roll a.roll a.fd_roll
  g_roll : mg "_law_roll" = some (.ref a.roll)
  F_pick : Fun K "_law_pick" "_law_pick" s__law_pick a.pick a.fd_pick
  g_pick : mg "_law_pick" = some (.ref a.pick)
  F_mixed : Fun K "_law_mixed" "_law_mixed" s__law_mixed a.mixed a.fd_mixed
  g_mixed : mg "_law_mixed" = some (.ref a.mixed)
  F_names : Fun K "_law_names" "_law_names" s__law_names a.names a.fd_names
  g_names : mg "_law_names" = some (.ref a.names)
  F_some : Fun K "_law_some" "_law_some" s__law_some a.some a.fd_some
  g_some : mg "_law_some" = some (.ref a.some)
  F_ways : Fun K "_law_ways" "_law_ways" s__law_ways a.ways a.fd_ways
  g_ways : mg "_law_ways" = some (.ref a.ways)
  F_schema : Fun K "_law_schema" "_law_schema" s__law_schema a.schema a.fd_schema
  g_schema : mg "_law_schema" = some (.ref a.schema)
  F_schema_made : Fun K "_law_schema_made" "_law_schema_made" s__law_schema_made a.schema_made a.fd_schema_made
  g_schema_made : mg "_law_schema_made" = some (.ref a.schema_made)
  F_with : Fun K "_law_with" "_law_with" s__law_with a.«with» a.fd_with
  g_with : mg "_law_with" = some (.ref a.«with»)
  F_without : Fun K "_law_without" "_law_without" s__law_without a.without a.fd_without
  g_without : mg "_law_without" = some (.ref a.without)
  F_reached : Fun K "_law_reached" "_law_reached" s__law_reached a.reached a.fd_reached
  g_reached : mg "_law_reached" = some (.ref a.reached)
  F_ways_right : Fun K "_law_ways_right" "_law_ways_right" s__law_ways_right a.ways_right a.fd_ways_right
  g_ways_right : mg "_law_ways_right" = some (.ref a.ways_right)
  F_rest : Fun K "_law_rest" "_law_rest" s__law_rest a.rest a.fd_rest
  g_rest : mg "_law_rest" = some (.ref a.rest)
  F_less_right : Fun K "_law_less_right" "_law_less_right" s__law_less_right a.less_right a.fd_less_right
  g_less_right : mg "_law_less_right" = some (.ref a.less_right)
  F_rows_right : Fun K "_law_rows_right" "_law_rows_right" s__law_rows_right a.rows_right a.fd_rows_right
  g_rows_right : mg "_law_rows_right" = some (.ref a.rows_right)
  F_equal_right : Fun K "_law_equal_right" "_law_equal_right" s__law_equal_right a.equal_right a.fd_equal_right
  g_equal_right : mg "_law_equal_right" = some (.ref a.equal_right)
  F_right : Fun K "_law_right" "_law_right" s__law_right a.right a.fd_right
  g_right : mg "_law_right" = some (.ref a.right)
  F_law : Fun K "law" "law" s_law a.law a.fd_law
  g_law : mg "law" = some (.ref a.law)
  len : mg "len" = none
  isinstance : mg "isinstance" = none
  all : mg "all" = none
  any : mg "any" = none
  str : mg "str" = none
  int : mg "int" = none
  bool : mg "bool" = none
  tuple : mg "tuple" = none
  dict : mg "dict" = none
  set : mg "set" = none
  sorted : mg "sorted" = none
  list : mg "list" = none
  repr : mg "repr" = none
  abs : mg "abs" = none
  range : mg "range" = none
  min : mg "min" = none
  max : mg "max" = none
  sum : mg "sum" = none
  zip : mg "zip" = none
  m__INTEGER_BOUND : mg "_INTEGER_BOUND" = some (.int (10 ^ 60) a.tk__INTEGER_BOUND)
  m_MAX_LETTERS : mg "MAX_LETTERS" = some (.int (8) a.tk_MAX_LETTERS)
  m_MAX_TABLES : mg "MAX_TABLES" = some (.int (5) a.tk_MAX_TABLES)
  m_MAX_COLUMNS : mg "MAX_COLUMNS" = some (.int (4) a.tk_MAX_COLUMNS)
  m_MAX_KEYS : mg "MAX_KEYS" = some (.int (2) a.tk_MAX_KEYS)
  m_MAX_REFERENCES : mg "MAX_REFERENCES" = some (.int (4) a.tk_MAX_REFERENCES)
  g_c_InvalidSchema : mg "InvalidSchema" = some (.ref a.c_InvalidSchema)
  q_InvalidSchema : PySem.W.excIn K a.c_InvalidSchema veT "ValueError.__new__" = true
  kp_InvalidSchema : PySem.W.keepIn K (.ref a.c_InvalidSchema) = true
  g_c_InvalidOperation : mg "InvalidOperation" = some (.ref a.c_InvalidOperation)
  q_InvalidOperation : PySem.W.excIn K a.c_InvalidOperation veT "ValueError.__new__" = true
  kp_InvalidOperation : PySem.W.keepIn K (.ref a.c_InvalidOperation) = true
  cl_Schema : Cls K a.c_Schema
  mk_Schema : Mk K a.c_Schema a.Schema___init__
  g_c_Schema : mg "Schema" = some (.ref a.c_Schema)
  n_tables : NoAttr K a.c_Schema "_tables"
  n_keys : NoAttr K a.c_Schema "_keys"
  n_references : NoAttr K a.c_Schema "_references"
  n_places_by_table : NoAttr K a.c_Schema "_places_by_table"
  n_steps_by_table : NoAttr K a.c_Schema "_steps_by_table"
  m__check_table : Meth K a.c_Schema "_check_table" a.Schema__check_table
  m_keys_of : Meth K a.c_Schema "keys_of" a.Schema_keys_of
  m_references_of : Meth K a.c_Schema "references_of" a.Schema_references_of
  m_is_row_of : Meth K a.c_Schema "is_row_of" a.Schema_is_row_of
  m_leads_to : Meth K a.c_Schema "leads_to" a.Schema_leads_to
  m_without_key : Meth K a.c_Schema "without_key" a.Schema_without_key
  m_without_reference : Meth K a.c_Schema "without_reference" a.Schema_without_reference
  fi__contains__ : PySem.W.findIn K (.ref a.c_Schema) "__contains__" = some (some (.ref a.Schema___contains__))
  fn__contains__ : PySem.W.isFn K (.ref a.Schema___contains__) = true
  fi__eq__ : PySem.W.findIn K (.ref a.c_Schema) "__eq__" = some (some (.ref a.Schema___eq__))
  fn__eq__ : PySem.W.isFn K (.ref a.Schema___eq__) = true
  fi__str__ : PySem.W.findIn K (.ref a.c_Schema) "__str__" = some (some (.ref a.Schema___str__))
  fn__str__ : PySem.W.isFn K (.ref a.Schema___str__) = true
  p_tables : PropOf K a.c_Schema "tables" a.p_tables a.Schema_tables
  p_references : PropOf K a.c_Schema "references" a.p_references a.Schema_references
  ne_A : PySem.W.findIn K (.ref a.c_Schema) "__ne__" = some (some (.builtin "object.__ne__"))
  so_A : PySem.W.subIn K (.ref a.c_Schema) (.type "object") = some true
  b_InvalidSchema : PySem.W.subIn K (.ref a.c_InvalidSchema) (.type "BaseException") = some true
  ty_InvalidSchema : PySem.W.typeIn K (.ref a.c_InvalidSchema) = some (.type "type")
  b_InvalidOperation : PySem.W.subIn K (.ref a.c_InvalidOperation) (.type "BaseException") = some true
  ty_InvalidOperation : PySem.W.typeIn K (.ref a.c_InvalidOperation) = some (.type "type")
  e_InvalidOperation : ExcC K a.c_InvalidOperation
  em_OO : PySem.W.exmOne K (.ref a.c_InvalidOperation) (.ref a.c_InvalidOperation) = some true
  k1_UnknownName : Exs.Cls1 K a.c_UnknownName
  i_UnknownName : PySem.W.findIn K (.ref a.c_UnknownName) "__init__" = some (some (.ref a.UnknownName___init__))
  ti_UnknownName : PySem.W.typeIn K (.ref a.UnknownName___init__) = some (.type "function")
  nf_UnknownName : PySem.W.findIn K (.ref a.c_UnknownName) "name" = some none
  g_c_UnknownName : mg "UnknownName" = some (.ref a.c_UnknownName)
  kt_Schema : PySem.W.kitOne K (.ref a.c_Schema) (.ref a.c_Schema) = some true
  nfi_Schema : PySem.W.notFirst K a.c_Schema (.ref a.c_Schema) = true
  ko_NoneType : PySem.W.kitOne K (.type "NoneType") (.ref a.c_Schema) = some false
  nfi_NoneType : PySem.W.notFirst K a.c_Schema (.type "NoneType") = true
  ko_int : PySem.W.kitOne K (.type "int") (.ref a.c_Schema) = some false
  nfi_int : PySem.W.notFirst K a.c_Schema (.type "int") = true
  ko_dict : PySem.W.kitOne K (.type "dict") (.ref a.c_Schema) = some false
  nfi_dict : PySem.W.notFirst K a.c_Schema (.type "dict") = true
  ko_str : PySem.W.kitOne K (.type "str") (.ref a.c_Schema) = some false
  nfi_str : PySem.W.notFirst K a.c_Schema (.type "str") = true
  ko_tuple : PySem.W.kitOne K (.type "tuple") (.ref a.c_Schema) = some false
  nfi_tuple : PySem.W.notFirst K a.c_Schema (.type "tuple") = true
  ko_list : PySem.W.kitOne K (.type "list") (.ref a.c_Schema) = some false
  nfi_list : PySem.W.notFirst K a.c_Schema (.type "list") = true
  ti1 : PySem.W.findIn K (.ref a.c_Schema) "__class__" = some (some (.builtin "object.__class__"))
  ti2 : PySem.W.specialIn K (.builtin "object.__class__") "__get__" = some (some (.builtin "getset_descriptor.__get__"))
  ti3 : PySem.W.takesIn K (.builtin "object.__class__") = some true
  ti4 : PySem.W.mroIn K a.c_Schema (.type "object") = some true
  kc_tuple : PySem.W.kitOne K (.ref a.c_Schema) (.type "tuple") = some false
  sn_A : PySem.W.subIn K (.ref a.c_Schema) (.type "NoneType") = some false
section
variable {P : Program} {w : World} {K : PySem.W.Frag} {mg : Str → Option Value} {base : Heap} {a : Ads}
theorem b_is_name (T : Txt K mg a) : Binds K a.fd_is_name ps_is_name [] := T.F_is_name.binds fun _ _ _ _ _ _ us hl => match us, hl with | [_], _ => rfl
theorem b_are_integers (T : Txt K mg a) : Binds K a.fd_are_integers ps_are_integers [] := T.F_are_integers.binds fun _ _ _ _ _ _ us hl => match us, hl with | [_], _ => rfl
theorem b_are_names (T : Txt K mg a) : Binds K a.fd_are_names ps_are_names [] := T.F_are_names.binds fun _ _ _ _ _ _ us hl => match us, hl with | [_], _ => rfl
theorem b_is_ascending (T : Txt K mg a) : Binds K a.fd_is_ascending ps_is_ascending [] := T.F_is_ascending.binds fun _ _ _ _ _ _ us hl => match us, hl with | [_], _ => rfl
theorem b_UnknownName___init__ (T : Txt K mg a) : Binds K a.fd_UnknownName___init__ ps_UnknownName___init__ [] := T.F_UnknownName___init__.binds fun _ _ _ _ _ _ us hl => match us, hl with | [_, _], _ => rfl
theorem b__are_columns (T : Txt K mg a) : Binds K a.fd__are_columns ps__are_columns [] := T.F__are_columns.binds fun _ _ _ _ _ _ us hl => match us, hl with | [_], _ => rfl
theorem b__are_tables (T : Txt K mg a) : Binds K a.fd__are_tables ps__are_tables [] := T.F__are_tables.binds fun _ _ _ _ _ _ us hl => match us, hl with | [_], _ => rfl
theorem b__is_key_of (T : Txt K mg a) : Binds K a.fd__is_key_of ps__is_key_of [] := T.F__is_key_of.binds fun _ _ _ _ _ _ us hl => match us, hl with | [_, _], _ => rfl
theorem b__are_keys_of (T : Txt K mg a) : Binds K a.fd__are_keys_of ps__are_keys_of [] := T.F__are_keys_of.binds fun _ _ _ _ _ _ us hl => match us, hl with | [_, _], _ => rfl
theorem b__are_keys (T : Txt K mg a) : Binds K a.fd__are_keys ps__are_keys [] := T.F__are_keys.binds fun _ _ _ _ _ _ us hl => match us, hl with | [_, _], _ => rfl
theorem b__is_reference (T : Txt K mg a) : Binds K a.fd__is_reference ps__is_reference [] := T.F__is_reference.binds fun _ _ _ _ _ _ us hl => match us, hl with | [_, _, _], _ => rfl
theorem b__lead_round (T : Txt K mg a) : Binds K a.fd__lead_round ps__lead_round [] := T.F__lead_round.binds fun _ _ _ _ _ _ us hl => match us, hl with | [_], _ => rfl
theorem b__are_references (T : Txt K mg a) : Binds K a.fd__are_references ps__are_references [] := T.F__are_references.binds fun _ _ _ _ _ _ us hl => match us, hl with | [_, _, _], _ => rfl
theorem b__reached (T : Txt K mg a) : Binds K a.fd__reached ps__reached [] := T.F__reached.binds fun _ _ _ _ _ _ us hl => match us, hl with | [_, _], _ => rfl
theorem b__many (T : Txt K mg a) : Binds K a.fd__many ps__many [] := T.F__many.binds fun _ _ _ _ _ _ us hl => match us, hl with | [_], _ => rfl
theorem kb_Schema___init__ (T : Txt K mg a) : ∃ mv : List Value, KBn K a.fd_Schema___init__ ps_Schema___init__ 2 ["keys", "references"] (fun us ws => us ++ ws) (fun vs zs => vs ++ zs) := by
  obtain ⟨mv, h⟩ := T.F_Schema___init__.kbinds0 (ps := ps_Schema___init__) 2 ["keys", "references"] [] (fun us _ ws => us ++ ws) (by simp) (by simp) (fun r1 _ r3 => r1.append r3) fun D doc pm an cdv ct us mv ws h1 h2 h3 => match us, h1, mv, h2, ws, h3 with | [_, _], _, [], _, [_, _], _ => rfl
  exact ⟨mv, h⟩
theorem b_Schema_tables (T : Txt K mg a) : Binds K a.fd_Schema_tables ps_Schema_tables [] := T.F_Schema_tables.binds fun _ _ _ _ _ _ us hl => match us, hl with | [_], _ => rfl
theorem b_Schema_references (T : Txt K mg a) : Binds K a.fd_Schema_references ps_Schema_references [] := T.F_Schema_references.binds fun _ _ _ _ _ _ us hl => match us, hl with | [_], _ => rfl
theorem b_Schema___contains__ (T : Txt K mg a) : Binds K a.fd_Schema___contains__ ps_Schema___contains__ [] := T.F_Schema___contains__.binds fun _ _ _ _ _ _ us hl => match us, hl with | [_, _], _ => rfl
theorem b_Schema__check_table (T : Txt K mg a) : Binds K a.fd_Schema__check_table ps_Schema__check_table [] := T.F_Schema__check_table.binds fun _ _ _ _ _ _ us hl => match us, hl with | [_, _], _ => rfl
theorem b_Schema_keys_of (T : Txt K mg a) : Binds K a.fd_Schema_keys_of ps_Schema_keys_of [] := T.F_Schema_keys_of.binds fun _ _ _ _ _ _ us hl => match us, hl with | [_, _], _ => rfl
theorem b_Schema_references_of (T : Txt K mg a) : Binds K a.fd_Schema_references_of ps_Schema_references_of [] := T.F_Schema_references_of.binds fun _ _ _ _ _ _ us hl => match us, hl with | [_, _], _ => rfl
theorem b_Schema_is_row_of (T : Txt K mg a) : Binds K a.fd_Schema_is_row_of ps_Schema_is_row_of [] := T.F_Schema_is_row_of.binds fun _ _ _ _ _ _ us hl => match us, hl with | [_, _, _], _ => rfl
theorem b_Schema_leads_to (T : Txt K mg a) : Binds K a.fd_Schema_leads_to ps_Schema_leads_to [] := T.F_Schema_leads_to.binds fun _ _ _ _ _ _ us hl => match us, hl with | [_, _, _], _ => rfl
theorem b_Schema_without_key (T : Txt K mg a) : Binds K a.fd_Schema_without_key ps_Schema_without_key [] := T.F_Schema_without_key.binds fun _ _ _ _ _ _ us hl => match us, hl with | [_, _, _], _ => rfl
theorem b_Schema_without_reference (T : Txt K mg a) : Binds K a.fd_Schema_without_reference ps_Schema_without_reference [] := T.F_Schema_without_reference.binds fun _ _ _ _ _ _ us hl => match us, hl with | [_, _], _ => rfl
theorem b_Schema___len__ (T : Txt K mg a) : Binds K a.fd_Schema___len__ ps_Schema___len__ [] := T.F_Schema___len__.binds fun _ _ _ _ _ _ us hl => match us, hl with | [_], _ => rfl
theorem b_Schema___eq__ (T : Txt K mg a) : Binds K a.fd_Schema___eq__ ps_Schema___eq__ [] := T.F_Schema___eq__.binds fun _ _ _ _ _ _ us hl => match us, hl with | [_, _], _ => rfl
theorem b_Schema___str__ (T : Txt K mg a) : Binds K a.fd_Schema___str__ ps_Schema___str__ [] := T.F_Schema___str__.binds fun _ _ _ _ _ _ us hl => match us, hl with | [_], _ => rfl
theorem b_dice (T : Txt K mg a) : Binds K a.fd_dice ps__law_dice [] := T.F_dice.binds fun _ _ _ _ _ _ us hl => match us, hl with | [_, _], _ => rfl
theorem b_roll (T : Txt K mg a) : Binds K a.fd_roll ps__law_roll [] := T.F_roll.binds fun _ _ _ _ _ _ us hl => match us, hl with | [_, _], _ => rfl
theorem b_pick (T : Txt K mg a) : Binds K a.fd_pick ps__law_pick [] := T.F_pick.binds fun _ _ _ _ _ _ us hl => match us, hl with | [_, _], _ => rfl
theorem b_mixed (T : Txt K mg a) : Binds K a.fd_mixed ps__law_mixed [] := T.F_mixed.binds fun _ _ _ _ _ _ us hl => match us, hl with | [_, _], _ => rfl
theorem b_names (T : Txt K mg a) : Binds K a.fd_names ps__law_names [] := T.F_names.binds fun _ _ _ _ _ _ us hl => match us, hl with | [_, _], _ => rfl
theorem b_some (T : Txt K mg a) : Binds K a.fd_some ps__law_some [] := T.F_some.binds fun _ _ _ _ _ _ us hl => match us, hl with | [_, _, _], _ => rfl
theorem b_ways (T : Txt K mg a) : Binds K a.fd_ways ps__law_ways [] := T.F_ways.binds fun _ _ _ _ _ _ us hl => match us, hl with | [_, _, _], _ => rfl
theorem b_schema (T : Txt K mg a) : Binds K a.fd_schema ps__law_schema [] := T.F_schema.binds fun _ _ _ _ _ _ us hl => match us, hl with | [_, _], _ => rfl
theorem b_schema_made (T : Txt K mg a) : Binds K a.fd_schema_made ps__law_schema_made [] := T.F_schema_made.binds fun _ _ _ _ _ _ us hl => match us, hl with | [_], _ => rfl
theorem b_with (T : Txt K mg a) : Binds K a.fd_with ps__law_with [] := T.F_with.binds fun _ _ _ _ _ _ us hl => match us, hl with | [_, _, _], _ => rfl
theorem b_without (T : Txt K mg a) : Binds K a.fd_without ps__law_without [] := T.F_without.binds fun _ _ _ _ _ _ us hl => match us, hl with | [_, _], _ => rfl
theorem b_reached (T : Txt K mg a) : Binds K a.fd_reached ps__law_reached [] := T.F_reached.binds fun _ _ _ _ _ _ us hl => match us, hl with | [_, _], _ => rfl
theorem b_ways_right (T : Txt K mg a) : Binds K a.fd_ways_right ps__law_ways_right [] := T.F_ways_right.binds fun _ _ _ _ _ _ us hl => match us, hl with | [_, _], _ => rfl
theorem b_rest (T : Txt K mg a) : Binds K a.fd_rest ps__law_rest [] := T.F_rest.binds fun _ _ _ _ _ _ us hl => match us, hl with | [_, _, _, _], _ => rfl
theorem b_less_right (T : Txt K mg a) : Binds K a.fd_less_right ps__law_less_right [] := T.F_less_right.binds fun _ _ _ _ _ _ us hl => match us, hl with | [_, _], _ => rfl
theorem b_rows_right (T : Txt K mg a) : Binds K a.fd_rows_right ps__law_rows_right [] := T.F_rows_right.binds fun _ _ _ _ _ _ us hl => match us, hl with | [_, _, _], _ => rfl
theorem b_equal_right (T : Txt K mg a) : Binds K a.fd_equal_right ps__law_equal_right [] := T.F_equal_right.binds fun _ _ _ _ _ _ us hl => match us, hl with | [_, _, _, _], _ => rfl
theorem b_right (T : Txt K mg a) : Binds K a.fd_right ps__law_right [] := T.F_right.binds fun _ _ _ _ _ _ us hl => match us, hl with | [_], _ => rfl
theorem b_law (T : Txt K mg a) : Binds K a.fd_law ps_law [] := T.F_law.binds fun _ _ _ _ _ _ us hl => match us, hl with | [_], _ => rfl
theorem all_at {f : PyData → Bool} {ds : List PyData} {i : Nat} {y : PyData} (h : ds[i]? = some y) (q : f y = false) : ds.all f = false := by
  rw [Bool.eq_false_iff]
  intro z
  rw [List.all_eq_true.mp z y (List.mem_of_getElem? h)] at q
  cases q
theorem take_all {f : PyData → Bool} {ds : List PyData} {i : Nat} {y : PyData} (h : ds[i]? = some y) (a : (ds.take i).all f = true) (q : f y = true) : (ds.take (i + 1)).all f = true := by
  rw [List.take_add_one, h, List.all_append, a]
  simp [q]
theorem ok_is_name (T : Txt K mg a) : FnOk P w K mg base CX0 1 a.is_name a.fd_is_name ps_is_name (spName K) := by
  have F := T.F_is_name
  refine F.ok (k := 0) sc_is_name (fun vs H Q E h => ?_) (fun cdv A outer s H vs Q E hr h => ?_)
  · obtain ⟨v, d, rfl, hd, hs, k⟩ := h
    rfl
  · obtain ⟨v, d, rfl, hd, hs, k⟩ := h
    have hu := hu_of hr
    refine ⟨_, (pss_cons (ps_if (PW.pt (pw_or (pt_not (pt_val (pe_callB call_isi (by rfl) T.isinstance (by decide +kernel) (pa_cons (pv 0) (pa_cons (pe_bltn (v := V.ty "str") (u := .type "str") (by rfl) T.str (by decide +kernel) (by rfl)) pa_nil))))) (pw_or1 (pt_cmpR op_gt (pe_callB call_len (by rfl) T.len (by decide +kernel) (pa_cons (pv 0) pa_nil)) (pe_glob (v := V.int (8)) (by rfl) T.m_MAX_LETTERS ⟨_, rfl⟩) (nomark _))))) (pss_one (ps_ret pe_bl)) pss_nil)
      (pss_one (ps_ret (pe_and (pe_m0 PySem.F.slot_str_isascii PySem.F.type_str_isascii mt_isascii (pv 0)) (pe_and (pe_m0 PySem.F.slot_str_isalpha PySem.F.type_str_isalpha mt_isalpha (pv 0)) (pe_one (pe_m0 PySem.F.slot_str_islower PySem.F.type_str_islower mt_islower (pv 0)))))))), ?_⟩
    refine ⟨v, rfl, v, .ty "str", _, _, _, rfl, .ty _, dat_ty hd, kit_str d, _, rfl, ?_⟩
    cases e : isStr d with
    | false =>
      refine iteT ?_
      refine iteT ?_
      have q : isNameD d = false := by cases d <;> first | rfl | cases e
      rw [q] at k
      exact k
    | true =>
      obtain ⟨z, rfl, rfl⟩ := dat_str hd e
      have hz : z.length ≤ 1000 := of_decide_eq_true hs
      refine iteF ?_
      refine ⟨_, rfl, _, _, rfl, ⟨by rw [sizeLine_eq]; omega, rfl⟩, ?_⟩
      refine ⟨_, _, rfl, rfl, _, rfl, ?_⟩
      have k : Q (.bl (nameS z)) H := k
      unfold nameS at k
      refine iteD (fun c => ?_) (fun c => ?_)
      · have c' : z.length > 8 := by omega
        rw [decide_eq_true c'] at k
        exact k
      · have c' : ¬ z.length > 8 := by omega
        rw [decide_eq_false c'] at k
        refine ⟨_, rfl, ⟨_, rfl⟩, z, rfl, rfl, trivial, _, rfl, ?_⟩
        cases e1 : Txt.isascii z with
        | false =>
          rw [e1] at k
          exact iteF k
        | true =>
          rw [e1] at k
          refine iteT ?_
          refine ⟨_, rfl, ⟨_, rfl⟩, z, rfl, rfl, trivial, _, rfl, ?_⟩
          cases e2 : Txt.isalpha z with
          | false =>
            rw [e2] at k
            exact iteF k
          | true =>
            rw [e2] at k
            refine iteT ?_
            exact ⟨_, rfl, ⟨_, rfl⟩, z, rfl, rfl, trivial, k⟩
theorem ok_are_integers (T : Txt K mg a) : FnOk P w K mg base CX0 1 a.are_integers a.fd_are_integers ps_are_integers (spArg areIntsD K) := by
  have F := T.F_are_integers
  refine F.ok (k := 0) sc_are_integers (fun vs H Q E h => ?_) (fun cdv A outer s H vs Q E hr h => ?_)
  · obtain ⟨v, d, rfl, hd, k⟩ := h
    rfl
  · obtain ⟨v, d, rfl, hd, k⟩ := h
    have hu := hu_of hr
    refine ⟨_, (pss_cons (ps_if (pt_not (pt_val (pe_callB call_isi (by rfl) T.isinstance (by decide +kernel) (pa_cons (pv 0) (pa_cons (pe_bltn (v := V.ty "tuple") (u := .type "tuple") (by rfl) T.tuple (by decide +kernel) (by rfl)) pa_nil))))) (pss_one (ps_ret pe_bl)) pss_nil)
      (pss_cons (ps_for PassesOwn.never rfl (pi_tup (pv 0)) (pg_name (i := 1) sc_are_integers.nd rfl (Or.inl rfl)) (pss_one (ps_if (PW.pt (pw_or (pt_not (pt_val (pe_callB call_isi (by rfl) T.isinstance (by decide +kernel) (pa_cons (pv 1) (pa_cons (pe_bltn (v := V.ty "int") (u := .type "int") (by rfl) T.int (by decide +kernel) (by rfl)) pa_nil))))) (pw_or (pt_val (pe_callB call_isi (by rfl) T.isinstance (by decide +kernel) (pa_cons (pv 1) (pa_cons (pe_bltn (v := V.ty "bool") (u := .type "bool") (by rfl) T.bool (by decide +kernel) (by rfl)) pa_nil)))) (pw_or1 (pt_not (pt_chain op_lt op_lt (pe_un un_neg (pe_glob (v := V.int (10 ^ 60)) (by rfl) T.m__INTEGER_BOUND ⟨_, rfl⟩)) (pv 1) (pe_glob (v := V.int (10 ^ 60)) (by rfl) T.m__INTEGER_BOUND ⟨_, rfl⟩))))))) (pss_one (ps_ret pe_bl)) pss_nil)))
      (pss_one (ps_ret pe_bl)))), ?_⟩
    obtain ⟨t, ht, kt⟩ := hd.tup
    refine ⟨v, rfl, v, .ty "tuple", _, _, _, rfl, .ty _, ht, kt, _, rfl, ?_⟩
    cases e : isTup d with
    | false =>
      have q : areIntsD d = false := by cases d <;> first | rfl | cases e
      rw [q] at k
      exact iteT k
    | true =>
      obtain ⟨p, xs, ds, rfl, rfl, hp, hx⟩ := dat_tup (hd.dat e) e
      have k : Q (.bl (ds.all isIntD)) H := k
      refine iteF ?_
      refine ⟨_, rfl, p, rfl, ⟨_, hp⟩, ?_⟩
      refine for_tup (K := K) (a := p) (xs := xs) (fun i σ H1 => H1 = H ∧ (∃ o, σ = [some (.ref p), o]) ∧ (ds.take i).all isIntD = true) ⟨rfl, ⟨_, rfl⟩, by simp⟩ (fun i σ H1 hi q => by obtain ⟨rfl, _, _⟩ := q; exact hp) ?_ ?_
      · rintro i x σ H1 hi ⟨rfl, ⟨o, rfl⟩, ha⟩
        obtain ⟨y, hy, hdy⟩ := datAll_get hx hi
        refine ⟨x, rfl, x, .ty "int", _, _, _, rfl, .ty _, dat_ty hdy, kit_int y, _, rfl, ?_⟩
        cases e1 : isIntB y with
        | false =>
          have q : isIntD y = false := by cases y <;> first | rfl | cases e1
          rw [all_at hy q] at k
          exact iteT (iteT k)
        | true =>
          refine iteF ?_
          refine ⟨x, rfl, x, .ty "bool", _, _, _, rfl, .ty _, dat_ty hdy, kit_bool y, _, rfl, ?_⟩
          cases e2 : isBool y with
          | true =>
            have q : isIntD y = false := by cases y <;> first | rfl | cases e2
            rw [all_at hy q] at k
            exact iteT (iteT k)
          | false =>
            refine iteF ?_
            obtain ⟨n, rfl, rfl⟩ := dat_int hdy e1 e2
            refine ⟨_, rfl, _, rfl, _, _, rfl, rfl, _, rfl, ?_⟩
            have nxt : isIntD (.int n) = true → H1 = H1 ∧ (∃ o', [some (V.ref p), some (V.int n)] = [some (V.ref p), o']) ∧ (ds.take (i + 1)).all isIntD = true := fun q => ⟨rfl, ⟨_, rfl⟩, take_all hy ha q⟩
            refine iteD (fun c => ?_) (fun c => ?_)
            · have c : -B60 < n := c
              refine ⟨_, _, rfl, rfl, _, rfl, ?_⟩
              refine iteB (fun c2 => ?_) (fun c2 => ?_)
              · have c2 : (!decide (n < B60)) = true := c2
                have q : isIntD (.int n) = false := by
                  show (decide (-B60 < n) && decide (n < B60)) = false
                  rw [Bool.not_eq_true'] at c2
                  rw [c2, Bool.and_false]
                rw [all_at hy q] at k
                exact k
              · have c2 : (!decide (n < B60)) = false := c2
                refine nxt ?_
                show (decide (-B60 < n) && decide (n < B60)) = true
                rw [Bool.not_eq_false'] at c2
                rw [c2, decide_eq_true c]
                rfl
            · have c : ¬ -B60 < n := c
              have q : isIntD (.int n) = false := by
                show (decide (-B60 < n) && decide (n < B60)) = false
                rw [decide_eq_false c, Bool.false_and]
              rw [all_at hy q] at k
              exact ⟨_, rfl, iteT k⟩
      · rintro σ H1 ⟨rfl, _, ha⟩
        rw [hx.len, List.take_of_length_le (Nat.le_refl _)] at ha
        rw [ha] at k
        exact k
theorem sqT_ty {K : PySem.W.Frag} {H : Hp} {p : Addr} {xs : List V} (h : SqT K H p xs) : TyX K H (.ref p) (.type "tuple") := by
  rcases h with (q | ⟨o, q⟩) | ⟨o, its, n, q1, q2, _⟩
  · exact .base (.tup q)
  · exact .fTuple q
  · exact .kTuple q1 q2
theorem ite_t {c : Bool} {A B : Prop} (e : c = true) (h : A) : if c = true then A else B := by rw [if_pos e]; exact h
theorem ite_f {c : Bool} {A B : Prop} (e : c = false) (h : B) : if c = true then A else B := by
  rw [if_neg (by rw [e]; exact Bool.false_ne_true)]
  exact h
/-- texts that are names -/
def Nms (cs : List Str) : Prop := ∀ c ∈ cs, nameS c = true
def spNames (K : PySem.W.Frag) : Sp := fun vs H Q _ => ∃ p cs, vs = [.ref p] ∧ SqT K H p (cs.map V.str) ∧ Nms cs ∧ Q (.bl true) H
theorem name_parts {z : Str} (h : nameS z = true) : z.length ≤ 8 ∧ Txt.isascii z = true ∧ Txt.isalpha z = true ∧ Txt.islower z = true := by
  unfold nameS at h
  simp only [Bool.and_eq_true, Bool.not_eq_true', decide_eq_false_iff_not] at h
  exact ⟨by omega, h.2.1, h.2.2.1, h.2.2.2⟩
theorem ok_are_names (T : Txt K mg a) : FnOk P w K mg base CX0 1 a.are_names a.fd_are_names ps_are_names (spNames K) := by
  have F := T.F_are_names
  refine F.ok (k := 0) sc_are_names (fun vs H Q E h => ?_) (fun cdv A outer s H vs Q E hr h => ?_)
  · obtain ⟨p, cs, rfl, hp, hc, k⟩ := h
    rfl
  · obtain ⟨p, cs, rfl, hp, hc, k⟩ := h
    have hu := hu_of hr
    refine ⟨_, (pss_cons (ps_if (pt_not (pt_val (pe_callB call_isi (by rfl) T.isinstance (by decide +kernel) (pa_cons (pv 0) (pa_cons (pe_bltn (v := V.ty "tuple") (u := .type "tuple") (by rfl) T.tuple (by decide +kernel) (by rfl)) pa_nil))))) (pss_one (ps_ret pe_bl)) pss_nil)
      (pss_cons (ps_for PassesOwn.never rfl (pi_tup (pv 0)) (pg_name (i := 1) sc_are_names.nd rfl (Or.inl rfl)) (pss_cons (ps_if (PW.pt (pw_or (pt_not (pt_val (pe_callB call_isi (by rfl) T.isinstance (by decide +kernel) (pa_cons (pv 1) (pa_cons (pe_bltn (v := V.ty "str") (u := .type "str") (by rfl) T.str (by decide +kernel) (by rfl)) pa_nil))))) (pw_or1 (pt_cmpR op_gt (pe_callB call_len (by rfl) T.len (by decide +kernel) (pa_cons (pv 1) pa_nil)) (pe_glob (v := V.int (8)) (by rfl) T.m_MAX_LETTERS ⟨_, rfl⟩) (nomark _))))) (pss_one (ps_ret pe_bl)) pss_nil)
      (pss_one (ps_if (pt_not (PW.pt (pw_and (pt_val (pe_m0 PySem.F.slot_str_isascii PySem.F.type_str_isascii mt_isascii (pv 1))) (pw_and (pt_val (pe_m0 PySem.F.slot_str_isalpha PySem.F.type_str_isalpha mt_isalpha (pv 1))) (pw_and1 (pt_val (pe_m0 PySem.F.slot_str_islower PySem.F.type_str_islower mt_islower (pv 1)))))))) (pss_one (ps_ret pe_bl)) pss_nil))))
      (pss_one (ps_ret pe_bl)))), ?_⟩
    refine ⟨_, rfl, _, .ty "tuple", _, _, _, rfl, .ty _, sqT_ty hp, kit_tup (.tuple []), _, rfl, ?_⟩
    refine iteF ?_
    refine ⟨_, rfl, p, rfl, ⟨_, hp⟩, ?_⟩
    refine for_tup (K := K) (a := p) (xs := cs.map V.str) (fun i σ H1 => H1 = H ∧ ∃ o, σ = [some (.ref p), o]) ⟨rfl, _, rfl⟩ (fun i σ H1 hi q => by obtain ⟨rfl, _⟩ := q; exact hp) ?_ ?_
    · rintro i x σ H1 hi ⟨rfl, o, rfl⟩
      rw [List.getElem?_map] at hi
      obtain ⟨z, hz, rfl⟩ := Option.map_eq_some_iff.mp hi
      obtain ⟨n1, n2, n3, n4⟩ := name_parts (hc z (List.mem_of_getElem? hz))
      refine ⟨_, rfl, _, .ty "str", _, _, _, rfl, .ty _, dat_ty (.str z), kit_str (.str z), _, rfl, ?_⟩
      refine iteF ?_
      refine ⟨_, rfl, _, _, rfl, ⟨by rw [sizeLine_eq]; omega, rfl⟩, ?_⟩
      refine ⟨_, _, rfl, rfl, _, rfl, ?_⟩
      refine ite_f (decide_eq_false (by omega)) ?_
      refine ⟨_, rfl, ⟨_, rfl⟩, z, rfl, rfl, trivial, _, rfl, ?_⟩
      refine ite_t n2 ?_
      refine ⟨_, rfl, ⟨_, rfl⟩, z, rfl, rfl, trivial, _, rfl, ?_⟩
      refine ite_t n3 ?_
      refine ⟨_, rfl, ⟨_, rfl⟩, z, rfl, rfl, trivial, _, rfl, ?_⟩
      refine ite_f (by rw [n4]; rfl) ?_
      exact ⟨rfl, _, rfl⟩
    rintro σ H1 ⟨rfl, o, rfl⟩
    exact k
end
end K04

set_option Elab.async false
set_option linter.all false
set_option maxRecDepth 100000
set_option maxHeartbeats 4000000
open L2 in
local macro_rules | `(tactic| walk_at "q1") => `(tactic| first
  | refine ⟨_, rfl, ?_⟩
  | refine ⟨_, _, rfl, rfl, ?_⟩
  | refine And.intro (show CMul _ _ from Or.inr ⟨by decide, by decide⟩) ?_
  | refine And.intro (show CMul _ _ from Or.inl ⟨by first | decide | omega, by first | decide | omega⟩) ?_
  | refine And.intro (show CMul _ _ from Or.inr ⟨by omega, by omega⟩) ?_
  | refine And.intro (show CDiv _ _ from ⟨by omega, by omega⟩) ?_
  | refine And.intro (show Dt.CPowG _ _ from ⟨by decide, by decide +kernel⟩) ?_
  | refine And.intro (by first | decide | omega) ?_
  | refine And.intro (Int.pow_pos (Int.pow_pos (by decide))) ?_
  | refine ⟨_, _, _, _, rfl, rfl, SqL.of (by first | assumption | exact upd_same), (by rfl), ?_⟩
  | refine ⟨_, _, _, _, rfl, rfl, (by first | assumption | exact upd_same), (by rfl), ?_⟩
  | refine Or.inl ⟨_, rfl, ?_⟩
  | refine Or.inr ⟨_, rfl, ?_⟩)
local macro_rules | `(tactic| walk_at "q") => `(tactic| repeat (walk_at "q1"))
local macro_rules | `(tactic| walk_at "eqt") => `(tactic| (refine ⟨_, rfl, ?_⟩; refine ⟨rfl, ?_⟩; first
  | (refine ⟨true, rfl, ?_⟩; refine L2.iteT ?_)
  | (refine ⟨false, rfl, ?_⟩; refine L2.iteF ?_)))
local macro_rules | `(tactic| walk_at "sz") => `(tactic| (rw [PySem.sizeLine_eq]; simp))
namespace K04
open PySem PySem.Spec PyProof.Rows L2 Dt An Rp Sp4
section
variable {P : Program} {w : World} {K : PySem.W.Frag} {mg : Str → Option Value} {base : Heap} {a : Ads}
/-- each text stands before the next one -/
def Asc (cs : List Str) : Prop := ∀ i x y, cs[i]? = some x → cs[i + 1]? = some y → x.cps.toList < y.cps.toList
def spAsc (K : PySem.W.Frag) : Sp := fun vs H Q _ => ∃ p cs, vs = [.ref p] ∧ SqT K H p (cs.map V.str) ∧ cs.length ≤ 1000 ∧ Asc cs ∧ ∀ H', Same H H' → Q (.bl true) H'
theorem sqt_same {K : PySem.W.Frag} {H H' : Hp} {p : Addr} {xs : List V} (S : Same H H') (h : SqT K H p xs) : SqT K H' p xs := by
  rcases h with (h | ⟨o, h⟩) | h
  · exact .inl (.inl (S _ _ h))
  · exact .inl (.inr ⟨o, S _ _ h⟩)
  · exact .inr h
theorem ok_is_ascending (T : Txt K mg a) : FnOk P w K mg base CX0 1 a.is_ascending a.fd_is_ascending ps_is_ascending (spAsc K) := by
  have F := T.F_is_ascending
  refine F.ok (k := 0) sc_is_ascending (fun vs H Q E h => ?_) (fun cdv A outer s H vs Q E hr h => ?_)
  · obtain ⟨p, cs, rfl, hp, hl, hc, k⟩ := h
    rfl
  · obtain ⟨p, cs, rfl, hp, hl, hc, k⟩ := h
    have hu := hu_of hr
    refine ⟨_, (pss_one (ps_ret (pe_callB (cr_all rfl) (by rfl) T.all (by decide +kernel) (pa_cons (pe_lc (own := [("low", 1), ("high", 2)]) rfl sc_is_ascending.nd (RZ.pi_zipA (by rfl) T.zip (pa_cons (pv 0) (pa_cons (pe_slice Ts.sl_tupS (pv 0) (po_some pe_int) po_none) pa_nil))) (blkOk_by (N := nm_is_ascending) (sc := defScope s_is_ascending) (by decide +kernel)) (fun _ _ _ _ _ => (show PG _ _ (gTup K 2 (gCons (gName 1) (gCons (gName 2) gNil))) from pg_tup rfl (pgs_cons (pg_name (i := 1) sc_is_ascending.nd rfl (Or.inl rfl)) (pgs_cons (pg_name (i := 2) sc_is_ascending.nd rfl (Or.inl rfl)) pgs_nil)))) (fun _ _ _ _ _ => pts_nil) (fun _ _ _ _ _ => (pe_cmpR op_lt_str (pv 1) (pv 2) (nomark _)))) pa_nil)))), ?_⟩
    refine ⟨_, rfl, _, rfl, _, rfl, p, _, rfl, hp, fun q H1 S1 hq => ?_⟩
    rw [show cutV (cs.map V.str) (some 1) none = (cs.drop 1).map V.str from by rw [List.map_drop]; exact Ts.cut_from _ 1] at hq
    have hp1 := sqt_same S1 hp
    refine ⟨p, q, _, _, rfl, .inr ⟨hp1, hq, ?_⟩⟩
    intro D hD
    refine lc_it (Et.walk_zipT (K := K) (a := p) (b := q) (xs := cs.map V.str) (ys := (cs.drop 1).map V.str) (n := cs.length - 1) (by rw [List.length_map, List.length_map, List.length_drop]; omega)) (fun i Hi => Same H1 Hi ∧ Hi D = some (.lst ((List.replicate i true).map V.bl))) ⟨sameNew hD, upd_same⟩ ?_ ?_ ?_
    · rintro i Hi hi ⟨S, _⟩
      exact ⟨sqt_same S hp1, sqt_same S hq⟩
    · rintro i y Hi Hj hi ⟨S, eD⟩ ⟨t, x1, y1, rfl, ht, rfl, h1, h2⟩
      have h1 : (cs.map V.str)[i]? = some x1 := h1
      have h2 : ((cs.drop 1).map V.str)[i]? = some y1 := h2
      rw [List.getElem?_map] at h1 h2
      rw [List.getElem?_drop, Nat.add_comm 1 i] at h2
      obtain ⟨u, hu1, rfl⟩ := Option.map_eq_some_iff.mp h1
      obtain ⟨v, hv1, rfl⟩ := Option.map_eq_some_iff.mp h2
      refine ⟨t, _, rfl, SqT.of upd_same, rfl, _, _, rfl, _, _, rfl, rfl, ?_⟩
      refine ⟨rfl, ?_⟩
      dsimp only [tYes]
      rw [if_pos rfl]
      refine ⟨_, rfl, _, rfl, _, _, rfl, rfl, ?_⟩
      have nDt : D ≠ t := ne_of_none eD ht
      rw [decide_eq_true (hc i u v hu1 hv1)]
      refine ⟨_, by rw [upd_ne nDt]; exact eD, by rw [List.length_map, List.length_replicate, sizeLine_eq]; omega, fun b o e => ?_, ?_⟩
      · have e2 := S b o e
        rw [upd_ne (ne_of_none e hD), upd_ne (ne_of_none e2 ht)]
        exact e2
      · rw [List.replicate_succ', List.map_append]
        exact upd_same
    rintro H2 ⟨S2, eD⟩
    refine ⟨D, _, rfl, .inl (.inl eD), ?_⟩
    rw [show (List.replicate (cs.length - 1) true).all id = true from by rw [List.all_eq_true]; intro x hx; rw [List.eq_of_mem_replicate hx]; rfl]
    exact k H2 (S1.trans S2)
def ColsOk (cs : List Str) : Prop := Nms cs ∧ 1 ≤ cs.length ∧ cs.length ≤ 4 ∧ Asc cs
def spCols (K : PySem.W.Frag) : Sp := fun vs H Q _ => ∃ p cs, vs = [.ref p] ∧ SqT K H p (cs.map V.str) ∧ ColsOk cs ∧ ∀ H', Same H H' → Q (.bl true) H'
def KeyOk (cs key : List Str) : Prop := key ≠ [] ∧ key.length ≤ 4 ∧ (∀ c ∈ key, c ∈ cs) ∧ Asc key
def KeysOk (cs : List Str) (ks : List (List Str)) : Prop := 1 ≤ ks.length ∧ ks.length ≤ 2 ∧ (∀ k ∈ ks, KeyOk cs k) ∧ ∀ a b, ks[0]? = some a → ks[1]? = some b → Tl.lexS a b = true
def spKey (K : PySem.W.Frag) : Sp := fun vs H Q _ => ∃ c p cs key, vs = [.ref c, .ref p] ∧ SqT K H c (cs.map V.str) ∧ SqT K H p (key.map V.str) ∧ KeyOk cs key ∧ ∀ H', Same H H' → Q (.bl true) H'
theorem ok__are_columns (T : Txt K mg a) : FnOk P w K mg base CX0 2 a._are_columns a.fd__are_columns ps__are_columns (spCols K) := by
  have F := T.F__are_columns
  refine F.ok (k := 1) sc__are_columns (fun vs H Q E h => ?_) (fun cdv A outer s H vs Q E hr h => ?_)
  · obtain ⟨p, cs, rfl, hp, ⟨h1, h2, h3, h4⟩, k⟩ := h
    rfl
  · obtain ⟨p, cs, rfl, hp, ⟨h1, h2, h3, h4⟩, k⟩ := h
    have hu := hu_of hr
    refine ⟨_, (pss_one (ps_ret (pe_and (pe_call (ok_are_names T) (hr.mono (by decide)) (by rfl) T.g_are_names T.F_are_names.kp (b_are_names T) .nil pass0 (pa_cons (pv 0) pa_nil)) (pe_and (pe_chain op_le op_le pe_int (pe_callB call_len (by rfl) T.len (by decide +kernel) (pa_cons (pv 0) pa_nil)) (pe_glob (v := V.int (4)) (by rfl) T.m_MAX_COLUMNS ⟨_, rfl⟩)) (pe_one (pe_or (pe_cmpR op_eq (pe_callB call_len (by rfl) T.len (by decide +kernel) (pa_cons (pv 0) pa_nil)) pe_int (nomark _)) (pe_one (pe_call (ok_is_ascending T) (hr.mono (by decide)) (by rfl) T.g_is_ascending T.F_is_ascending.kp (b_is_ascending T) .nil pass0 (pa_cons (pv 0) pa_nil))))))))), ?_⟩
    refine ⟨_, rfl, p, cs, rfl, hp, h1, _, rfl, ?_⟩
    refine iteT ?_
    refine ⟨_, rfl, _, _, rfl, .inr ⟨_, hp, rfl⟩, ?_⟩
    rw [List.length_map]
    refine ⟨_, _, rfl, rfl, _, rfl, ?_⟩
    refine ite_t (decide_eq_true (by omega)) ?_
    refine ⟨_, _, rfl, rfl, _, rfl, ?_⟩
    refine ite_t (decide_eq_true (by omega)) ?_
    refine ⟨_, rfl, _, _, rfl, .inr ⟨_, hp, rfl⟩, ?_⟩
    rw [List.length_map]
    refine ⟨rfl, _, rfl, ?_⟩
    refine iteD (fun c => k H (Ts.Same.rf H)) (fun c => ?_)
    exact ⟨_, rfl, p, cs, rfl, hp, by omega, h4, k⟩
theorem flat_strs (cs : List Str) : (cs.map V.str).all flatV = true := by
  rw [List.all_map]
  exact List.all_eq_true.mpr fun _ _ => rfl
theorem inV_strs (x : Str) : ∀ ns : List Str, inV (.str x) (ns.map V.str) = decide (x ∈ ns)
  | [] => rfl
  | n :: r => by
    have ih := inV_strs x r
    unfold inV at ih ⊢
    rw [List.map_cons, List.any_cons, ih]
    have e : eqV (V.str n) (V.str x) = decide (n = x) := rfl
    rw [e]
    by_cases h : n = x
    · subst h
      simp
    · have h' : ¬ x = n := fun z => h z.symm
      simp [h, h']
theorem ok__is_key_of (T : Txt K mg a) : FnOk P w K mg base CX0 2 a._is_key_of a.fd__is_key_of ps__is_key_of (spKey K) := by
  have F := T.F__is_key_of
  refine F.ok (k := 1) sc__is_key_of (fun vs H Q E h => ?_) (fun cdv A outer s H vs Q E hr h => ?_)
  · obtain ⟨c, p, cs, key, rfl, hc, hp, ⟨h1, h2, h3, h4⟩, k⟩ := h
    rfl
  · obtain ⟨c, p, cs, key, rfl, hc, hp, ⟨h1, h2, h3, h4⟩, k⟩ := h
    have hu := hu_of hr
    refine ⟨_, (pss_cons (ps_if (PW.pt (pw_or (pt_not (pt_val (pe_callB call_isi (by rfl) T.isinstance (by decide +kernel) (pa_cons (pv 1) (pa_cons (pe_bltn (v := V.ty "tuple") (u := .type "tuple") (by rfl) T.tuple (by decide +kernel) (by rfl)) pa_nil))))) (pw_or1 (pt_not (pt_truth (pv 1) (by intro _; rfl)))))) (pss_one (ps_ret pe_bl)) pss_nil)
      (pss_cons (ps_for PassesOwn.never rfl (pi_tup (pv 1)) (pg_name (i := 2) sc__is_key_of.nd rfl (Or.inl rfl)) (pss_one (ps_if (pt_cmpR op_notIn_seq (pv 2) (pv 0) (by rfl)) (pss_one (ps_ret pe_bl)) pss_nil)))
      (pss_one (ps_ret (pe_or (pe_cmpR op_eq (pe_callB call_len (by rfl) T.len (by decide +kernel) (pa_cons (pv 1) pa_nil)) pe_int (nomark _)) (pe_one (pe_call (ok_is_ascending T) (hr.mono (by decide)) (by rfl) T.g_is_ascending T.F_is_ascending.kp (b_is_ascending T) .nil pass0 (pa_cons (pv 1) pa_nil)))))))), ?_⟩
    refine ⟨_, rfl, _, .ty "tuple", _, _, _, rfl, .ty _, sqT_ty hp, kit_tup (.tuple []), _, rfl, ?_⟩
    refine iteF ?_
    refine ⟨_, rfl, _, .inr (.inl ⟨_, hp, rfl⟩), ?_⟩
    refine ite_f (by cases key with | nil => exact absurd rfl h1 | cons _ _ => rfl) ?_
    refine ⟨_, rfl, p, rfl, ⟨_, hp⟩, ?_⟩
    refine for_tup (K := K) (a := p) (xs := key.map V.str) (fun i σ H1 => H1 = H ∧ ∃ o, σ = [some (.ref c), some (.ref p), o]) ⟨rfl, _, rfl⟩ (fun i σ H1 hi q => by obtain ⟨rfl, _⟩ := q; exact hp) ?_ ?_
    · rintro i x σ H1 hi ⟨rfl, o, rfl⟩
      rw [List.getElem?_map] at hi
      obtain ⟨z, hz, rfl⟩ := Option.map_eq_some_iff.mp hi
      refine ⟨_, rfl, _, rfl, c, _, rfl, .inr hc, rfl, flat_strs cs, ?_⟩
      rw [inV_strs, decide_eq_true (h3 z (List.mem_of_getElem? hz))]
      refine ⟨_, rfl, ?_⟩
      refine iteF ?_
      exact ⟨rfl, _, rfl⟩
    rintro σ H1 ⟨rfl, o, rfl⟩
    refine ⟨_, rfl, _, _, rfl, .inr ⟨_, hp, rfl⟩, ?_⟩
    rw [List.length_map]
    refine ⟨rfl, _, rfl, ?_⟩
    refine iteD (fun c => k H1 (Ts.Same.rf H1)) (fun c => ?_)
    exact ⟨_, rfl, p, key, rfl, hp, by omega, h4, k⟩
end
end K04

set_option Elab.async false
set_option linter.all false
set_option maxRecDepth 100000
set_option maxHeartbeats 4000000
open L2 in
local macro_rules | `(tactic| walk_at "q1") => `(tactic| first
  | refine ⟨_, rfl, ?_⟩
  | refine ⟨_, _, rfl, rfl, ?_⟩
  | refine And.intro (show CMul _ _ from Or.inr ⟨by decide, by decide⟩) ?_
  | refine And.intro (show CMul _ _ from Or.inl ⟨by first | decide | omega, by first | decide | omega⟩) ?_
  | refine And.intro (show CMul _ _ from Or.inr ⟨by omega, by omega⟩) ?_
  | refine And.intro (show CDiv _ _ from ⟨by omega, by omega⟩) ?_
  | refine And.intro (show Dt.CPowG _ _ from ⟨by decide, by decide +kernel⟩) ?_
  | refine And.intro (by first | decide | omega) ?_
  | refine And.intro (Int.pow_pos (Int.pow_pos (by decide))) ?_
  | refine ⟨_, _, _, _, rfl, rfl, SqL.of (by first | assumption | exact upd_same), (by rfl), ?_⟩
  | refine ⟨_, _, _, _, rfl, rfl, (by first | assumption | exact upd_same), (by rfl), ?_⟩
  | refine Or.inl ⟨_, rfl, ?_⟩
  | refine Or.inr ⟨_, rfl, ?_⟩)
local macro_rules | `(tactic| walk_at "q") => `(tactic| repeat (walk_at "q1"))
local macro_rules | `(tactic| walk_at "eqt") => `(tactic| (refine ⟨_, rfl, ?_⟩; refine ⟨rfl, ?_⟩; first
  | (refine ⟨true, rfl, ?_⟩; refine L2.iteT ?_)
  | (refine ⟨false, rfl, ?_⟩; refine L2.iteF ?_)))
local macro_rules | `(tactic| walk_at "sz") => `(tactic| (rw [PySem.sizeLine_eq]; simp))
namespace K04
open PySem PySem.Spec PyProof.Rows L2 Dt An Rp Sp4
section
variable {P : Program} {w : World} {K : PySem.W.Frag} {mg : Str → Option Value} {base : Heap} {a : Ads}
theorem paired_at {α β : Type} {R : α → β → Prop} : ∀ {as : List α} {bs : List β} {i : Nat} {a : α}, Paired R as bs → as[i]? = some a → ∃ b, bs[i]? = some b ∧ R a b
  | _, _, _, _, .nil, h => by cases h
  | _, _, 0, _, .cons r t, h => ⟨_, rfl, by
    have e := Option.some.inj h
    subst e
    exact r⟩
  | _, _, i + 1, _, .cons r t, h => by
    obtain ⟨b, h1, h2⟩ := paired_at (i := i) t h
    exact ⟨b, h1, h2⟩
def spKeys (K : PySem.W.Frag) : Sp := fun vs H Q _ => ∃ c p cs bs ks, vs = [.ref c, .ref p] ∧ SqT K H c (cs.map V.str) ∧ SqT K H p (bs.map V.ref) ∧ Paired (fun b key => SqT K H b (key.map V.str)) bs ks ∧ KeysOk cs ks ∧ ∀ H', Same H H' → Q (.bl true) H'
theorem ok__are_keys_of (T : Txt K mg a) : FnOk P w K mg base CX0 3 a._are_keys_of a.fd__are_keys_of ps__are_keys_of (spKeys K) := by
  have F := T.F__are_keys_of
  refine F.ok (k := 2) sc__are_keys_of (fun vs H Q E h => ?_) (fun cdv A outer s H vs Q E hr h => ?_)
  · obtain ⟨c, p, cs, bs, ks, rfl, hc, hp, hk, ⟨h1, h2, h3, h4⟩, k⟩ := h
    rfl
  · obtain ⟨c, p, cs, bs, ks, rfl, hc, hp, hk, ⟨h1, h2, h3, h4⟩, k⟩ := h
    have hu := hu_of hr
    refine ⟨_, (pss_cons (ps_if (PW.pt (pw_or (pt_not (pt_val (pe_callB call_isi (by rfl) T.isinstance (by decide +kernel) (pa_cons (pv 1) (pa_cons (pe_bltn (v := V.ty "tuple") (u := .type "tuple") (by rfl) T.tuple (by decide +kernel) (by rfl)) pa_nil))))) (pw_or1 (pt_not (pt_chain op_le op_le pe_int (pe_callB call_len (by rfl) T.len (by decide +kernel) (pa_cons (pv 1) pa_nil)) (pe_glob (v := V.int (2)) (by rfl) T.m_MAX_KEYS ⟨_, rfl⟩)))))) (pss_one (ps_ret pe_bl)) pss_nil)
      (pss_cons (ps_for PassesOwn.never rfl (pi_tup (pv 1)) (pg_name (i := 2) sc__are_keys_of.nd rfl (Or.inl rfl)) (pss_one (ps_if (pt_not (pt_val (pe_call (ok__is_key_of T) (hr.mono (by decide)) (by rfl) T.g__is_key_of T.F__is_key_of.kp (b__is_key_of T) .nil pass0 (pa_cons (pv 0) (pa_cons (pv 2) pa_nil))))) (pss_one (ps_ret pe_bl)) pss_nil)))
      (pss_one (ps_ret (pe_or (pe_cmpR op_eq (pe_callB call_len (by rfl) T.len (by decide +kernel) (pa_cons (pv 1) pa_nil)) pe_int (nomark _)) (pe_one (pe_cmpR (Tl.op_ltTS hr.units0) (pe_ix ix_tup (pv 1) pe_int (fun _ _ => rfl)) (pe_ix ix_tup (pv 1) pe_int (fun _ _ => rfl)) (nomark _)))))))), ?_⟩
    refine ⟨_, rfl, _, .ty "tuple", _, _, _, rfl, .ty _, sqT_ty hp, kit_tup (.tuple []), _, rfl, ?_⟩
    refine iteF ?_
    refine ⟨_, rfl, _, _, rfl, .inr ⟨_, hp, rfl⟩, ?_⟩
    rw [List.length_map, hk.length]
    refine ⟨_, _, rfl, rfl, _, rfl, ?_⟩
    refine ite_t (decide_eq_true (by omega)) ?_
    refine ⟨_, _, rfl, rfl, _, rfl, ?_⟩
    refine ite_f (by rw [decide_eq_true (by omega)]; rfl) ?_
    refine ⟨_, rfl, p, rfl, ⟨_, hp⟩, ?_⟩
    refine for_tup (K := K) (a := p) (xs := bs.map V.ref) (fun i σ H1 => Same H H1 ∧ ∃ o, σ = [some (.ref c), some (.ref p), o]) ⟨Ts.Same.rf H, _, rfl⟩ (fun i σ H1 hi q => sqt_same q.1 hp) ?_ ?_
    · rintro i x σ H1 hi ⟨S1, o, rfl⟩
      rw [List.getElem?_map] at hi
      obtain ⟨b, hb, rfl⟩ := Option.map_eq_some_iff.mp hi
      obtain ⟨key, hkey, hq⟩ := paired_at hk hb
      refine ⟨_, rfl, _, rfl, c, b, cs, key, rfl, sqt_same S1 hc, sqt_same S1 hq, h3 key (List.mem_of_getElem? hkey), fun H2 S2 => ?_⟩
      refine ⟨_, rfl, ?_⟩
      refine iteF ?_
      exact ⟨S1.trans S2, _, rfl⟩
    rintro σ H1 ⟨S1, o, rfl⟩
    have hp1 := sqt_same S1 hp
    refine ⟨_, rfl, _, _, rfl, .inr ⟨_, hp1, rfl⟩, ?_⟩
    rw [List.length_map, hk.length]
    refine ⟨rfl, _, rfl, ?_⟩
    refine iteD (fun c => k H1 S1) (fun c => ?_)
    have lb : bs.length = 2 := by
      have := hk.length
      have c' : ks.length ≠ 1 := fun z => c (by rw [z]; rfl)
      omega
    obtain ⟨b0, b1, rfl⟩ : ∃ x y, bs = [x, y] := by
      match bs, lb with
      | [x, y], _ => exact ⟨x, y, rfl⟩
    cases hk with
    | cons r0 t =>
      cases t with
      | cons r1 t =>
        cases t
        refine ⟨_, rfl, p, _, 0, .ref b0, rfl, rfl, hp1, rfl, ?_⟩
        refine ⟨_, rfl, p, _, 1, .ref b1, rfl, rfl, hp1, rfl, ?_⟩
        refine ⟨b0, b1, _, _, rfl, rfl, sqt_same S1 r0, sqt_same S1 r1, ?_⟩
        rw [h4 _ _ rfl rfl]
        exact k H1 S1
end
end K04

set_option Elab.async false
set_option linter.all false
set_option maxRecDepth 100000
set_option maxHeartbeats 4000000
open L2 in
local macro_rules | `(tactic| walk_at "q1") => `(tactic| first
  | refine ⟨_, rfl, ?_⟩
  | refine ⟨_, _, rfl, rfl, ?_⟩
  | refine And.intro (show CMul _ _ from Or.inr ⟨by decide, by decide⟩) ?_
  | refine And.intro (show CMul _ _ from Or.inl ⟨by first | decide | omega, by first | decide | omega⟩) ?_
  | refine And.intro (show CMul _ _ from Or.inr ⟨by omega, by omega⟩) ?_
  | refine And.intro (show CDiv _ _ from ⟨by omega, by omega⟩) ?_
  | refine And.intro (show Dt.CPowG _ _ from ⟨by decide, by decide +kernel⟩) ?_
  | refine And.intro (by first | decide | omega) ?_
  | refine And.intro (Int.pow_pos (Int.pow_pos (by decide))) ?_
  | refine ⟨_, _, _, _, rfl, rfl, SqL.of (by first | assumption | exact upd_same), (by rfl), ?_⟩
  | refine ⟨_, _, _, _, rfl, rfl, (by first | assumption | exact upd_same), (by rfl), ?_⟩
  | refine Or.inl ⟨_, rfl, ?_⟩
  | refine Or.inr ⟨_, rfl, ?_⟩)
local macro_rules | `(tactic| walk_at "q") => `(tactic| repeat (walk_at "q1"))
local macro_rules | `(tactic| walk_at "eqt") => `(tactic| (refine ⟨_, rfl, ?_⟩; refine ⟨rfl, ?_⟩; first
  | (refine ⟨true, rfl, ?_⟩; refine L2.iteT ?_)
  | (refine ⟨false, rfl, ?_⟩; refine L2.iteF ?_)))
local macro_rules | `(tactic| walk_at "sz") => `(tactic| (rw [PySem.sizeLine_eq]; simp))
namespace K04
open PySem PySem.Spec PyProof.Rows L2 Dt An Rp Sp4
section
variable {P : Program} {w : World} {K : PySem.W.Frag} {mg : Str → Option Value} {base : Heap} {a : Ads}
def StepT (H : Hp) (t : Addr) (s : Str × Str) : Prop := H t = some (.tup [.str s.1, .str s.2])
theorem steps_same {H H' : Hp} {ts : List Addr} {L : List (Str × Str)} (S : Same H H') (h : Paired (StepT H) ts L) : Paired (StepT H') ts L := Paired.mapP h fun _ _ e => S _ _ e
theorem same_upd {H Hi : Hp} {D : Addr} {o : HO} (S : Same H Hi) (h : H D = none) : Same H (upd Hi D o) := fun b u e => by
  rw [upd_ne (ne_of_none e h)]
  exact S _ _ e
theorem take_at {α : Type} {L : List α} {j : Nat} {r : α} (h : L[j]? = some r) : L.take (j + 1) = L.take j ++ [r] := by
  rw [List.take_add_one, h]
  rfl
theorem paired_snoc {α β : Type} {R : α → β → Prop} : ∀ {as : List α} {bs : List β} {a : α} {b : β}, Paired R as bs → R a b → Paired R (as ++ [a]) (bs ++ [b])
  | _, _, _, _, .nil, r => .cons r .nil
  | _, _, _, _, .cons h t, r => .cons h (paired_snoc t r)
def spLead : Sp := fun vs H Q _ => ∃ l ts L, ∃ rank : Str → Nat, vs = [.ref l] ∧ H l = some (.lst (ts.map V.ref)) ∧ Paired (StepT H) ts L ∧ Rises rank L ∧ L.length ≤ 100 ∧ ∀ H', Same H H' → Q (.bl false) H'
theorem ok__lead_round (T : Txt K mg a) : FnOk P w K mg base CX0 1 a._lead_round a.fd__lead_round ps__lead_round spLead := by
  have F := T.F__lead_round
  refine F.ok (k := 0) sc__lead_round (fun vs H Q E h => ?_) (fun cdv A outer s H vs Q E hr h => ?_)
  · obtain ⟨l, ts, L, rank, rfl, hl, hs, hr2, h100, k⟩ := h
    rfl
  · obtain ⟨l, ts, L, rank, rfl, hl, hs, hr2, h100, k⟩ := h
    have hu := hu_of hr
    refine ⟨_, (pss_cons (ps_set (i := 1) sc__lead_round.nd rfl (Or.inl rfl) (pv 0))
      (pss_cons (ps_set (i := 2) sc__lead_round.nd rfl (Or.inl rfl) (pe_op op_add (pe_callB call_len (by rfl) T.len (by decide +kernel) (pa_cons (pv 1) pa_nil)) pe_int))
      (pss_cons (ps_while PassesOwn.never (pt_cmpR op_gt (pv 2) (pe_callB call_len (by rfl) T.len (by decide +kernel) (pa_cons (pv 1) pa_nil)) (nomark _)) (pss_cons (ps_set (i := 2) sc__lead_round.nd rfl (Or.inl rfl) (pe_callB call_len (by rfl) T.len (by decide +kernel) (pa_cons (pv 1) pa_nil)))
      (pss_cons (ps_set (i := 3) sc__lead_round.nd rfl (Or.inr rfl) (pe_lc (own := [("table", 4), ("_", 5)]) rfl sc__lead_round.nd (pi_list (pv 1)) (blkOk_by (N := nm__lead_round) (sc := defScope s__lead_round) (by decide +kernel)) (fun _ _ _ _ _ => (show PG _ _ (gTup K 2 (gCons (gName 4) (gCons (gName 5) gNil))) from pg_tup rfl (pgs_cons (pg_name (i := 4) sc__lead_round.nd rfl (Or.inl rfl)) (pgs_cons (pg_name (i := 5) sc__lead_round.nd rfl (Or.inl rfl)) pgs_nil)))) (fun _ _ _ _ _ => pts_nil) (fun _ _ _ _ _ => (pv 4))))
      (pss_one (ps_setLc (i := 1) (own := [("step", 6)]) rfl sc__lead_round.nd rfl rfl (sw_true rfl rfl rfl (by decide +kernel)) (pi_list (pv 1)) (blkOk_by (N := nm__lead_round) (sc := defScope s__lead_round) (by decide +kernel)) (fun _ _ _ _ _ => (pg_name (i := 6) sc__lead_round.nd rfl (Or.inl rfl))) (fun _ _ _ _ _ => (pts_one (pt_cmpR (r := rIn K false) op_in_seq (pe_ix (r := rIx K) ix_seq (pv 6) pe_int (fun _ _ => rfl)) (pv 3) (by rfl)))) (fun _ _ _ _ _ => (pv 6)))))))
      (pss_one (ps_ret (pe_cmpR op_gt (pv 2) pe_int (nomark _))))))), ?_⟩
    have ll := hs.length
    refine ⟨_, rfl, _, rfl, _, _, rfl, .inl ⟨_, SqL.of hl, rfl⟩, ?_⟩
    rw [List.length_map, ll]
    refine ⟨_, _, rfl, rfl, ?_⟩
    refine ⟨fun m σ Hj => ∃ lf ts2 L2 x, σ = [some (.ref l), some (.ref lf), some (.int (m : Int)), x, none, none, none] ∧ Same H Hj ∧ Hj lf = some (.lst (ts2.map V.ref)) ∧ Paired (StepT Hj) ts2 L2 ∧ Rises rank L2 ∧ L2.length ≤ 100 ∧ (m = L2.length + 1 ∨ ∃ L3, L2 = keepS L3 ∧ m = L3.length ∧ Rises rank L3), ⟨L.length + 1, l, ts, L, none, rfl, Ts.Same.rf H, hl, hs, hr2, h100, .inl rfl⟩, ?_⟩
    rintro m σ Hj ⟨lf, ts2, L2, x, rfl, S, hlf, hs2, r2, l2, cs⟩
    have ll2 := hs2.length
    refine ⟨_, rfl, _, rfl, _, _, rfl, .inl ⟨_, SqL.of hlf, rfl⟩, ?_⟩
    rw [List.length_map, ll2]
    refine ⟨_, _, rfl, rfl, _, rfl, ?_⟩
    refine iteD (fun c => ?_) (fun c => ?_)
    · refine ⟨_, fun _ _ h => h, ?_⟩
      refine ⟨_, rfl, _, _, rfl, .inl ⟨_, SqL.of hlf, rfl⟩, ?_⟩
      rw [List.length_map, ll2]
      refine ⟨_, rfl, lf, rfl, ⟨_, SqL.of hlf⟩, fun D hD => ?_⟩
      refine lc_it (walk_list (K := K) (a := lf) (xs := ts2.map V.ref)) (fun i Hi => Same Hj Hi ∧ Hi D = some (.lst (((L2.map Prod.fst).take i).map V.str))) ⟨sameNew hD, upd_same⟩ ?_ ?_ ?_
      · rintro i Hi hi ⟨S1, _⟩
        exact SqL.of (S1 _ _ hlf)
      · rintro i y Hi0 Hi hi ⟨S1, eD⟩ ⟨rfl, hi2⟩
        rw [List.getElem?_map] at hi2
        obtain ⟨t, ht, rfl⟩ := Option.map_eq_some_iff.mp hi2
        obtain ⟨st, hst, hT⟩ := paired_at hs2 ht
        have hT1 := S1 _ _ hT
        refine ⟨t, _, rfl, SqT.of hT1, rfl, _, _, rfl, _, _, rfl, rfl, ?_⟩
        refine ⟨rfl, ?_⟩
        dsimp only [tYes]
        rw [if_pos rfl]
        refine ⟨_, rfl, _, eD, by rw [List.length_map, List.length_take, List.length_map, sizeLine_eq]; omega, same_upd S1 hD, ?_⟩
        rw [List.take_add_one, List.map_append, List.getElem?_map, hst]
        exact upd_same
      rintro H2 ⟨S2, eD⟩
      rw [List.length_map, ll2, show L2.length = (L2.map Prod.fst).length from (List.length_map _).symm, List.take_length] at eD
      have hlf2 := S2 _ _ hlf
      refine ⟨_, rfl, lf, rfl, ⟨_, SqL.of hlf2⟩, fun D2 hD2 => ?_⟩
      refine lc_it (walk_list (K := K) (a := lf) (xs := ts2.map V.ref)) (fun i Hi => Same H2 Hi ∧ ∃ zs, Hi D2 = some (.lst (zs.map V.ref)) ∧ zs.length ≤ i ∧ Paired (StepT Hi) zs ((L2.take i).filter fun s => decide (s.2 ∈ L2.map Prod.fst))) ⟨sameNew hD2, [], upd_same, Nat.le_refl _, .nil⟩ ?_ ?_ ?_
      · rintro i Hi hi ⟨S3, _⟩
        exact SqL.of (S3 _ _ hlf2)
      · rintro i y Hi0 Hi hi ⟨S3, zs, eD2, hz, hzs⟩ ⟨rfl, hi2⟩
        rw [List.getElem?_map] at hi2
        obtain ⟨t, ht, rfl⟩ := Option.map_eq_some_iff.mp hi2
        obtain ⟨st, hst, hT⟩ := paired_at hs2 ht
        have hT1 := S3 _ _ (S2 _ _ hT)
        refine ⟨rfl, ?_⟩
        refine ⟨_, rfl, .inr (.inl ⟨t, _, 1, .str st.2, rfl, rfl, SqT.of hT1, rfl, ?_⟩)⟩
        refine ⟨_, rfl, D, _, rfl, .inl (SqL.of (S3 _ _ eD)), rfl, flat_strs _, ?_⟩
        rw [inV_strs, take_at hst, List.filter_append]
        by_cases c2 : st.2 ∈ L2.map Prod.fst
        · rw [decide_eq_true c2]
          refine ⟨_, rfl, ?_⟩
          refine iteT ?_
          refine ⟨_, rfl, _, eD2, by rw [List.length_map, sizeLine_eq]; have := (List.getElem?_eq_some_iff.mp hst).1; omega, same_upd S3 hD2, zs ++ [t], by rw [List.map_append]; exact upd_same, by rw [List.length_append]; show _ + 1 ≤ _; omega, ?_⟩
          rw [show List.filter (fun s : Str × Str => decide (s.2 ∈ L2.map Prod.fst)) [st] = [st] from by simp [c2]]
          refine Paired.mapP (paired_snoc hzs hT1) fun b s e => ?_
          have e : Hi b = some (.tup [.str s.1, .str s.2]) := e
          show upd Hi D2 _ b = _
          rw [upd_ne (fun z => by rw [z, eD2] at e; cases e)]
          exact e
        · rw [decide_eq_false c2]
          refine ⟨_, rfl, ?_⟩
          refine iteF ?_
          refine ⟨S3, zs, eD2, by omega, ?_⟩
          rw [show List.filter (fun s : Str × Str => decide (s.2 ∈ L2.map Prod.fst)) [st] = [] from by simp [c2], List.append_nil]
          exact hzs
      rintro H3 ⟨S3, zs, eD2, hz, hzs⟩
      rw [List.length_map, ll2, List.take_length] at hzs
      refine ⟨L2.length, by omega, D2, zs, keepS L2, _, rfl, (S.trans S2).trans S3, eD2, hzs, r2.keep, Nat.le_trans (keepS_len L2) l2, .inr ⟨L2, rfl, rfl, r2⟩⟩
    refine ⟨_, rfl, _, _, rfl, rfl, ?_⟩
    have em : m = 0 := by
      rcases cs with e | ⟨L3, e1, e2, r3⟩
      · omega
      · have := keep_all r3 (by rw [← e1]; have := keepS_len L3; rw [← e1] at this; omega)
        rw [e2, this]
        rfl
    subst em
    exact k Hj S
end
end K04

set_option Elab.async false
set_option linter.all false
set_option maxRecDepth 100000
set_option maxHeartbeats 4000000
open L2 in
local macro_rules | `(tactic| walk_at "q1") => `(tactic| first
  | refine ⟨_, rfl, ?_⟩
  | refine ⟨_, _, rfl, rfl, ?_⟩
  | refine And.intro (show CMul _ _ from Or.inr ⟨by decide, by decide⟩) ?_
  | refine And.intro (show CMul _ _ from Or.inl ⟨by first | decide | omega, by first | decide | omega⟩) ?_
  | refine And.intro (show CMul _ _ from Or.inr ⟨by omega, by omega⟩) ?_
  | refine And.intro (show CDiv _ _ from ⟨by omega, by omega⟩) ?_
  | refine And.intro (show Dt.CPowG _ _ from ⟨by decide, by decide +kernel⟩) ?_
  | refine And.intro (by first | decide | omega) ?_
  | refine And.intro (Int.pow_pos (Int.pow_pos (by decide))) ?_
  | refine ⟨_, _, _, _, rfl, rfl, SqL.of (by first | assumption | exact upd_same), (by rfl), ?_⟩
  | refine ⟨_, _, _, _, rfl, rfl, (by first | assumption | exact upd_same), (by rfl), ?_⟩
  | refine Or.inl ⟨_, rfl, ?_⟩
  | refine Or.inr ⟨_, rfl, ?_⟩)
local macro_rules | `(tactic| walk_at "q") => `(tactic| repeat (walk_at "q1"))
local macro_rules | `(tactic| walk_at "eqt") => `(tactic| (refine ⟨_, rfl, ?_⟩; refine ⟨rfl, ?_⟩; first
  | (refine ⟨true, rfl, ?_⟩; refine L2.iteT ?_)
  | (refine ⟨false, rfl, ?_⟩; refine L2.iteF ?_)))
local macro_rules | `(tactic| walk_at "sz") => `(tactic| (rw [PySem.sizeLine_eq]; simp))
namespace K04
open PySem PySem.Spec PyProof.Rows L2 Dt An Rp Sp4
section
variable {P : Program} {w : World} {K : PySem.W.Frag} {mg : Str → Option Value} {base : Heap} {a : Ads}
structure Way where
  tab : Str
  cols : List Str
  par : Str
  key : List Str
def WayT (H : Hp) (b : Addr) (r : Way) : Prop := ∃ c k, H b = some (.tup [.str r.tab, .ref c, .str r.par, .ref k]) ∧ H c = some (.tup (r.cols.map V.str)) ∧ H k = some (.tup (r.key.map V.str))
def EntOf {α : Type} (R : Addr → α → Prop) (e : Key × V) (x : Str × α) : Prop := e.1 = .inr x.1 ∧ ∃ b, e.2 = .ref b ∧ R b x.2
def steps (W : List (Str × Way)) : List (Str × Str) := W.map fun x => (x.2.tab, x.2.par)
theorem scan_le {α : Type} [DecidableEq α] (s : α) : ∀ (M : List (α × α)) (p : List α × List α), (M.foldl (scan1 s) p).1.length ≤ p.1.length + M.length ∧ (M.foldl (scan1 s) p).2.length ≤ p.2.length + M.length
  | [], p => ⟨Nat.le_refl _, Nat.le_refl _⟩
  | e :: M, p => by
    have ih := scan_le s M (scan1 s p e)
    have h : (scan1 s p e).1.length ≤ p.1.length + 1 ∧ (scan1 s p e).2.length ≤ p.2.length + 1 := by
      unfold scan1
      by_cases c : e.1 = s ∧ e.2 ∉ p.1
      · rw [if_pos c]
        simp
      · rw [if_neg c]
        omega
    rw [List.foldl_cons, List.length_cons]
    omega
def spReached : Sp := fun vs H Q _ => ∃ d ks W t, vs = [.ref d, .str t] ∧ H d = some (.dK ks) ∧ Paired (EntOf (WayT H)) ks W ∧ W.length ≤ 100 ∧ ∀ (l : Addr) (found : List Str) (H' : Hp), Same H H' → H' l = some (.lst (found.map V.str)) → (∀ x, x ∈ found ↔ Reach (steps W) t x) → Q (.ref l) H'
theorem ok__reached (T : Txt K mg a) : FnOk P w K mg base CX0 1 a._reached a.fd__reached ps__reached spReached := by
  have F := T.F__reached
  refine F.ok (k := 0) sc__reached (fun vs H Q E h => ?_) (fun cdv A outer s H vs Q E hr h => ?_)
  · obtain ⟨d, ks, W, t, rfl, hd, hW, h100, k⟩ := h
    rfl
  · obtain ⟨d, ks, W, t, rfl, hd, hW, h100, k⟩ := h
    have hu := hu_of hr
    refine ⟨_, (pss_cons (ps_set (i := 2) sc__reached.nd rfl (Or.inl rfl) (pe_lst pa_nil))
      (pss_cons (ps_set (i := 3) sc__reached.nd rfl (Or.inl rfl) (pe_lst (pa_cons (pv 1) pa_nil)))
      (pss_cons (ps_while PassesOwn.never (pt_truth (pv 3) (by intro _; rfl)) (pss_cons (ps_set (i := 4) sc__reached.nd rfl (Or.inl rfl) (pe_bm0 PySem.F.plainAttrs_list PySem.F.slot_list_pop PySem.F.type_list_pop mt_pop (pv 3)))
      (pss_one (ps_lock (ps_for PassesOwn.never rfl (pi_values (pv 0)) (pg_name (i := 5) sc__reached.nd rfl (Or.inl rfl)) (pss_one (ps_if (PW.pt (pw_and (pt_cmpR op_eq (pe_ix ix_tup (pv 5) pe_int (fun _ _ => rfl)) (pv 4) (nomark _)) (pw_and1 (pt_cmpR op_notIn_seq (pe_ix ix_tup (pv 5) pe_int (fun _ _ => rfl)) (pv 2) (by rfl))))) (pss_cons (ps_expr (pe_bm PySem.F.plainAttrs_list PySem.F.slot_list_append PySem.F.type_list_append mt_append (pv 2) (pa_cons (pe_ix ix_tup (pv 5) pe_int (fun _ _ => rfl)) pa_nil)))
      (pss_one (ps_expr (pe_bm PySem.F.plainAttrs_list PySem.F.slot_list_append PySem.F.type_list_append mt_append (pv 3) (pa_cons (pe_ix ix_tup (pv 5) pe_int (fun _ _ => rfl)) pa_nil))))) pss_nil)))))))
      (pss_one (ps_ret (pv 2)))))), ?_⟩
    have lst : (steps W).length = W.length := List.length_map _
    refine ⟨by show 0 ≤ sizeLine; decide, fun f0 nf0 => ?_⟩
    generalize EH1 : upd H f0 _ = H1
    have hf0 := (congrFun EH1 f0).symm.trans upd_same
    have S1 : Same H H1 := by rw [← EH1]; exact sameNew nf0
    refine ⟨_, rfl, by show 1 ≤ sizeLine; decide, fun w0 nw0 => ?_⟩
    generalize EH2 : upd H1 w0 _ = H2
    have hw0 := (congrFun EH2 w0).symm.trans upd_same
    have S2 : Same H1 H2 := by rw [← EH2]; exact sameNew nw0
    have S02 := S1.trans S2
    have n12 : f0 ≠ w0 := ne_of_none hf0 nw0
    refine ⟨fun m σ Hj => ∃ F Wt x y, σ = [some (.ref d), some (.str t), some (.ref f0), some (.ref w0), x, y] ∧ Same H Hj ∧ Hj f0 = some (.lst (F.map V.str)) ∧ Hj w0 = some (.lst (Wt.map V.str)) ∧ Dfs (steps W) t F Wt ∧ Wt.length + 2 * ((steps W).length - F.length) ≤ 201 ∧ m = Wt.length + 2 * ((steps W).length - F.length), ⟨_, [], [t], none, none, rfl, S02, S2 _ _ hf0, hw0, Dfs.start _ _, by rw [lst]; show 1 + 2 * (_ - 0) ≤ 201; omega, rfl⟩, ?_⟩
    rintro m σ Hj ⟨F, Wt, x, y, rfl, S, hF, hWt, df, l200, rfl⟩
    refine ⟨_, rfl, _, .inl ⟨_, SqL.of hWt, rfl⟩, ?_⟩
    have hlF := df.len
    rcases List.eq_nil_or_concat Wt with e | ⟨Wt0, s0, e⟩
    · subst e
      exact ⟨_, rfl, k f0 F Hj S hF df.done⟩
    rw [List.concat_eq_append] at e
    subst e
    have hd' := S _ _ hd
    have ndf : d ≠ f0 := ne_of_none hd nf0
    have ndw : d ≠ w0 := ne_of_none (S1 _ _ hd) nw0
    refine ite_t (by cases Wt0 <;> rfl) ?_
    refine ⟨_, fun _ _ h => h, ?_⟩
    refine ⟨_, rfl, .inl ⟨rfl, _, SqL.of hWt⟩, w0, _, .str s0, rfl, rfl, hWt, by simp, ?_⟩
    rw [show ((Wt0 ++ [s0]).map V.str).dropLast = Wt0.map V.str from by simp]
    refine ⟨d, .dK ks, by rw [upd_ne ndw]; exact hd', trivial, fun od => ?_⟩
    refine ⟨_, rfl, d, od, ks, rfl, upd_same, ?_⟩
    have base : ∀ b o, b ≠ d → H b = some o → upd (upd Hj w0 (.lst (Wt0.map V.str))) d (.frz od (.dK ks)) b = some o := fun b o n e => by
      rw [upd_ne n, upd_ne (ne_of_none (S1 _ _ e) nw0)]
      exact S _ _ e
    refine for_it (walk_values (o := od)) (fun i σ Hi => ∃ y, σ = [some (.ref d), some (.str t), some (.ref f0), some (.ref w0), some (.str s0), y] ∧ (∀ b o, b ≠ d → H b = some o → Hi b = some o) ∧ Hi d = some (.frz od (.dK ks)) ∧ Hi f0 = some (.lst ((((steps W).take i).foldl (scan1 s0) (F, Wt0)).1.map V.str)) ∧ Hi w0 = some (.lst ((((steps W).take i).foldl (scan1 s0) (F, Wt0)).2.map V.str))) ⟨_, rfl, base, upd_same, by rw [upd_ne ndf.symm, upd_ne n12]; exact hF, by rw [upd_ne ndw.symm]; exact upd_same⟩ (fun i σ Hi hi q => by obtain ⟨_, _, _, q, _⟩ := q; exact q) ?_ ?_
    · rintro i v σ Hi Hi2 hi ⟨y, rfl, bs, eD, eF, eW⟩ ⟨rfl, kk, hk⟩
      obtain ⟨x1, hx1, _, b, ev, c, kd, h1, _, _⟩ := paired_at hW hk
      have ev : v = .ref b := ev
      subst ev
      have nb : b ≠ d := fun z => by rw [z, hd] at h1; cases h1
      have hb := bs b _ nb h1
      have hst : (steps W)[i]? = some (x1.2.tab, x1.2.par) := by
        unfold steps
        rw [List.getElem?_map, hx1]
        rfl
      have le := scan_le s0 ((steps W).take i) (F, Wt0)
      rw [List.length_take] at le
      rw [List.length_append] at l200
      rw [take_at hst, List.foldl_append]
      generalize List.foldl (scan1 s0) (F, Wt0) ((steps W).take i) = p at eF eW le ⊢
      have le1 : p.1.length ≤ 400 ∧ p.2.length ≤ 400 := by
        have l200 : Wt0.length + 1 + 2 * ((steps W).length - F.length) ≤ 201 := l200
        simp only at le
        omega
      show tIfS _ _ _ _ _ _
      refine ⟨_, rfl, b, _, 0, .str x1.2.tab, rfl, rfl, SqT.of hb, rfl, _, rfl, rfl, _, rfl, ?_⟩
      have hno : ∀ q : List Str × List Str, q = p → ∃ y, [some (V.ref d), some (.str t), some (.ref f0), some (.ref w0), some (.str s0), some (.ref b)] = [some (V.ref d), some (.str t), some (.ref f0), some (.ref w0), some (.str s0), y] ∧ (∀ b o, b ≠ d → H b = some o → Hi2 b = some o) ∧ Hi2 d = some (.frz od (.dK ks)) ∧ Hi2 f0 = some (.lst (q.1.map V.str)) ∧ Hi2 w0 = some (.lst (q.2.map V.str)) := fun q e => by
        subst e
        exact ⟨_, rfl, bs, eD, eF, eW⟩
      refine iteD (fun c1 => ?_) (fun c1 => ?_)
      · have c1 : x1.2.tab = s0 := V.str.inj c1
        refine ⟨_, rfl, b, _, 2, .str x1.2.par, rfl, rfl, SqT.of hb, rfl, _, rfl, f0, _, rfl, .inl (SqL.of eF), rfl, flat_strs _, ?_⟩
        rw [inV_strs]
        by_cases c2 : x1.2.par ∈ p.1
        · rw [decide_eq_true c2]
          refine ⟨_, rfl, ?_⟩
          refine iteF ?_
          exact hno _ (if_neg fun z => z.2 c2)
        · rw [decide_eq_false c2]
          refine ⟨_, rfl, ?_⟩
          refine iteT ?_
          rw [show List.foldl (scan1 s0) p [(x1.2.tab, x1.2.par)] = (p.1 ++ [x1.2.par], p.2 ++ [x1.2.par]) from if_pos ⟨c1, c2⟩]
          refine ⟨_, rfl, .inl ⟨rfl, _, SqL.of eF⟩, ?_⟩
          refine ⟨_, rfl, b, _, 2, .str x1.2.par, rfl, rfl, SqT.of hb, rfl, ?_⟩
          refine ⟨f0, _, _, rfl, rfl, eF, by rw [List.length_map, sizeLine_eq]; omega, ?_⟩
          have nwf : w0 ≠ f0 := n12.symm
          have eW2 : upd Hi2 f0 (.lst (p.1.map V.str ++ [V.str x1.2.par])) w0 = some (.lst (p.2.map V.str)) := by
            rw [upd_ne nwf]
            exact eW
          have hb2 : upd Hi2 f0 (.lst (p.1.map V.str ++ [V.str x1.2.par])) b = some (.tup [.str x1.2.tab, .ref c, .str x1.2.par, .ref kd]) := by
            rw [upd_ne (ne_of_none h1 nf0)]
            exact hb
          refine ⟨_, rfl, .inl ⟨rfl, _, SqL.of eW2⟩, ?_⟩
          refine ⟨_, rfl, b, _, 2, .str x1.2.par, rfl, rfl, SqT.of hb2, rfl, ?_⟩
          refine ⟨w0, _, _, rfl, rfl, eW2, by rw [List.length_map, sizeLine_eq]; omega, ?_⟩
          refine ⟨_, rfl, fun b2 o n e => ?_, ?_, ?_, ?_⟩
          · rw [upd_ne (ne_of_none (S1 _ _ e) nw0), upd_ne (ne_of_none e nf0)]
            exact bs b2 o n e
          · rw [upd_ne ndw, upd_ne ndf]
            exact eD
          · rw [upd_ne n12, upd_same, List.map_append]
            rfl
          · rw [upd_same, List.map_append]
            rfl
      · have c1 : ¬ x1.2.tab = s0 := fun z => c1 (by rw [z])
        exact hno _ (if_neg fun z => c1 z.1)
    rintro σ Hi ⟨y, rfl, bs, eD, eF, eW⟩
    have lk : ks.length = (steps W).length := by rw [lst]; exact hW.length
    rw [lk, List.take_length] at eF eW
    refine ⟨eD, _, df.less, _, _, some (.str s0), y, rfl, fun b o e => ?_, by rw [upd_ne ndf.symm]; exact eF, by rw [upd_ne ndw.symm]; exact eW, df.next, ?_, rfl⟩
    · by_cases z : b = d
      · rw [z] at e ⊢
        rw [upd_same, ← hd, e]
      · rw [upd_ne z]
        exact bs b o z e
    · have := df.less
      omega
end
end K04

set_option Elab.async false
set_option linter.all false
set_option maxRecDepth 100000
set_option maxHeartbeats 4000000
open L2 in
local macro_rules | `(tactic| walk_at "q1") => `(tactic| first
  | refine ⟨_, rfl, ?_⟩
  | refine ⟨_, _, rfl, rfl, ?_⟩
  | refine And.intro (show CMul _ _ from Or.inr ⟨by decide, by decide⟩) ?_
  | refine And.intro (show CMul _ _ from Or.inl ⟨by first | decide | omega, by first | decide | omega⟩) ?_
  | refine And.intro (show CMul _ _ from Or.inr ⟨by omega, by omega⟩) ?_
  | refine And.intro (show CDiv _ _ from ⟨by omega, by omega⟩) ?_
  | refine And.intro (show Dt.CPowG _ _ from ⟨by decide, by decide +kernel⟩) ?_
  | refine And.intro (by first | decide | omega) ?_
  | refine And.intro (Int.pow_pos (Int.pow_pos (by decide))) ?_
  | refine ⟨_, _, _, _, rfl, rfl, SqL.of (by first | assumption | exact upd_same), (by rfl), ?_⟩
  | refine ⟨_, _, _, _, rfl, rfl, (by first | assumption | exact upd_same), (by rfl), ?_⟩
  | refine Or.inl ⟨_, rfl, ?_⟩
  | refine Or.inr ⟨_, rfl, ?_⟩)
local macro_rules | `(tactic| walk_at "q") => `(tactic| repeat (walk_at "q1"))
local macro_rules | `(tactic| walk_at "eqt") => `(tactic| (refine ⟨_, rfl, ?_⟩; refine ⟨rfl, ?_⟩; first
  | (refine ⟨true, rfl, ?_⟩; refine L2.iteT ?_)
  | (refine ⟨false, rfl, ?_⟩; refine L2.iteF ?_)))
local macro_rules | `(tactic| walk_at "sz") => `(tactic| (rw [PySem.sizeLine_eq]; simp))
namespace K04
open PySem PySem.Spec PyProof.Rows L2 Dt An Rp Sp4
section
variable {P : Program} {w : World} {K : PySem.W.Frag} {mg : Str → Option Value} {base : Heap} {a : Ads}
def KeyT (H : Hp) (b : Addr) (ks : List (List Str)) : Prop := ∃ bs : List Addr, H b = some (.tup (bs.map V.ref)) ∧ Paired (fun c key => H c = some (.tup (key.map V.str))) bs ks
theorem valV_at {κ : Type} [DecidableEq κ] : ∀ {ks : List (κ × V)} {i : Nat} {k : κ} {v : V}, (ks.map (·.1)).Nodup → ks[i]? = some (k, v) → valV ks k = some v
  | p :: r, 0, k, v, _, h => by
    have e := Option.some.inj h
    subst e
    exact valV_pos rfl
  | p :: r, i + 1, k, v, nd, h => by
    rw [List.map_cons, List.nodup_cons] at nd
    have h : r[i]? = some (k, v) := h
    rw [valV_neg (fun e => nd.1 (by rw [e]; exact List.mem_map.mpr ⟨_, List.mem_of_getElem? h, rfl⟩))]
    exact valV_at nd.2 h
theorem sum_small : ∀ {ns : List Int}, (∀ z ∈ ns, 0 ≤ z ∧ z ≤ 100) → 0 ≤ ns.sum ∧ ns.sum ≤ 100 * ns.length
  | [], _ => ⟨by simp, by simp⟩
  | z :: ns, h => by
    have h0 := h z List.mem_cons_self
    have ih := sum_small (ns := ns) (fun y m => h y (List.mem_cons_of_mem _ m))
    rw [List.sum_cons, List.length_cons]
    omega
def spMany : Sp := fun vs H Q _ => ∃ d ks, ∃ L : List (Str × List (List Str)), vs = [.ref d] ∧ H d = some (.dK ks) ∧ Paired (EntOf (KeyT H)) ks L ∧ (ks.map (·.1)).Nodup ∧ L.length ≤ 100 ∧ (∀ p ∈ L, p.2.length ≤ 100) ∧ ∀ (n : Int) (H' : Hp), Same H H' → 0 ≤ n → n ≤ 100000 → Q (.int n) H'
theorem ok__many (T : Txt K mg a) : FnOk P w K mg base CX0 1 a._many a.fd__many ps__many spMany := by
  have F := T.F__many
  refine F.ok (k := 0) sc__many (fun vs H Q E h => ?_) (fun cdv A outer s H vs Q E hr h => ?_)
  · obtain ⟨d, ks, L, rfl, hd, hL, nd, h100, hb100, k⟩ := h
    rfl
  · obtain ⟨d, ks, L, rfl, hd, hL, nd, h100, hb100, k⟩ := h
    have hu := hu_of hr
    refine ⟨_, (pss_one (ps_ret (pe_callB (cr_sum rfl) (by rfl) T.sum (by decide +kernel) (pa_cons (pe_lock (pe_lc (own := [("table", 1)]) rfl sc__many.nd (pi_keys (pv 0)) (blkOk_by (N := nm__many) (sc := defScope s__many) (by decide +kernel)) (fun _ _ _ _ _ => (pg_name (i := 1) sc__many.nd rfl (Or.inl rfl))) (fun _ _ _ _ _ => pts_nil) (fun _ _ _ _ _ => (pe_callB (id := "len") (r := rLenR K) call_len (by rfl) T.len (by decide +kernel) (pa_cons (pe_dget hu (pv 0) (pv 1) (fun _ _ => rfl)) pa_nil))))) pa_nil)))), ?_⟩
    have lk : ks.length = L.length := hL.length
    refine ⟨d, .dK ks, hd, trivial, fun od => ?_⟩
    refine ⟨_, rfl, d, od, rfl, .inl ⟨ks, upd_same, fun D hD => ?_⟩⟩
    have hdK : upd H d (.frz od (.dK ks)) d = some (.frz od (.dK ks)) := upd_same
    have frame : ∀ b o, b ≠ d → H b = some o → upd H d (.frz od (.dK ks)) b = some o := fun b o n e => by rw [upd_ne n]; exact e
    generalize upd H d (.frz od (.dK ks)) = H1 at hD hdK frame ⊢
    refine lc_it (walk_keys (o := od) (d := d) (kvs := ks)) (fun i Hi => Same H1 Hi ∧ ∃ ns : List Int, Hi D = some (.lst (ns.map V.int)) ∧ ns.length = i ∧ ∀ z ∈ ns, 0 ≤ z ∧ z ≤ 100) ⟨sameNew hD, [], upd_same, rfl, fun z m => by cases m⟩ ?_ ?_ ?_
    · rintro i Hi hi ⟨S, _⟩
      exact S _ _ hdK
    · rintro i y Hi Hi2 hi ⟨S, ns, eD, hn, hsm⟩ ⟨rfl, kk, v, hk, rfl⟩
      obtain ⟨x1, hx1, e1, b, ev, bs, h1, hpb⟩ := paired_at hL hk
      have e1 : kk = .inr x1.1 := e1
      have ev : v = .ref b := ev
      subst e1 ev
      have nb : b ≠ d := fun z => by rw [z, hd] at h1; cases h1
      have hb := S _ _ (frame b _ nb h1)
      refine ⟨rfl, ?_⟩
      dsimp only [tYes]
      rw [if_pos rfl]
      refine ⟨_, rfl, _, rfl, d, .ref b, rfl, .inl ⟨ks, .inr x1.1, .inr ⟨od, S _ _ hdK⟩, rfl, (valV_at nd hk).symm⟩, ?_⟩
      refine ⟨_, _, rfl, .inr ⟨_, SqT.of hb, rfl⟩, ?_⟩
      refine ⟨_, eD, by rw [List.length_map, sizeLine_eq]; omega, same_upd S hD, ns ++ [_], by rw [List.map_append]; exact upd_same, by rw [List.length_append, hn]; rfl, fun z m => ?_⟩
      rcases List.mem_append.mp m with m | m
      · exact hsm z m
      · rw [List.mem_singleton.mp m, List.length_map, hpb.length]
        have := hb100 _ (List.mem_of_getElem? hx1)
        omega
    rintro H2 ⟨S2, ns, eD, hn, hsm⟩
    have nDd : D ≠ d := fun z => by rw [z, hdK] at hD; cases hD
    refine ⟨S2 _ _ hdK, D, ns, rfl, SqL.of (by rw [upd_ne nDd]; exact eD), ?_⟩
    have sm := sum_small hsm
    · refine k _ _ (fun b o e => ?_) sm.1 (by omega)
      by_cases z : b = d
      · rw [z] at e ⊢
        rw [upd_same, ← hd, e]
      · rw [upd_ne z]
        exact S2 _ _ (frame b o z e)
end
end K04

set_option Elab.async false
set_option linter.all false
set_option maxRecDepth 100000
set_option maxHeartbeats 4000000
open L2 in
local macro_rules | `(tactic| walk_at "q1") => `(tactic| first
  | refine ⟨_, rfl, ?_⟩
  | refine ⟨_, _, rfl, rfl, ?_⟩
  | refine And.intro (show CMul _ _ from Or.inr ⟨by decide, by decide⟩) ?_
  | refine And.intro (show CMul _ _ from Or.inl ⟨by first | decide | omega, by first | decide | omega⟩) ?_
  | refine And.intro (show CMul _ _ from Or.inr ⟨by omega, by omega⟩) ?_
  | refine And.intro (show CDiv _ _ from ⟨by omega, by omega⟩) ?_
  | refine And.intro (show Dt.CPowG _ _ from ⟨by decide, by decide +kernel⟩) ?_
  | refine And.intro (by first | decide | omega) ?_
  | refine And.intro (Int.pow_pos (Int.pow_pos (by decide))) ?_
  | refine ⟨_, _, _, _, rfl, rfl, SqL.of (by first | assumption | exact upd_same), (by rfl), ?_⟩
  | refine ⟨_, _, _, _, rfl, rfl, (by first | assumption | exact upd_same), (by rfl), ?_⟩
  | refine Or.inl ⟨_, rfl, ?_⟩
  | refine Or.inr ⟨_, rfl, ?_⟩)
local macro_rules | `(tactic| walk_at "q") => `(tactic| repeat (walk_at "q1"))
local macro_rules | `(tactic| walk_at "eqt") => `(tactic| (refine ⟨_, rfl, ?_⟩; refine ⟨rfl, ?_⟩; first
  | (refine ⟨true, rfl, ?_⟩; refine L2.iteT ?_)
  | (refine ⟨false, rfl, ?_⟩; refine L2.iteF ?_)))
local macro_rules | `(tactic| walk_at "sz") => `(tactic| (rw [PySem.sizeLine_eq]; simp))
namespace K04
open PySem PySem.Spec PyProof.Rows L2 Dt An Rp Sp4
section
variable {P : Program} {w : World} {K : PySem.W.Frag} {mg : Str → Option Value} {base : Heap} {a : Ads}
theorem un65 {k : Nat} {A : Around} (r : Room k A) : A.units + 65 < cLine := by
  have := r.un
  omega
/-- a reference that keeps the rules of a schema, over the dicts of tables and keys -/
structure WayOk (H : Hp) (kt kk : List (Key × V)) (r : Way) : Prop where
  tab : ∃ (c : Addr) (cs : List Str), valV kt (.inr r.tab) = some (.ref c) ∧ H c = some (.tup (cs.map V.str)) ∧ ∀ z ∈ r.cols, z ∈ cs
  par : (valV kt (.inr r.par)).isSome = true
  ne : r.tab ≠ r.par
  key : ∃ (p : Addr) (ks : List (List Str)), valV kk (.inr r.par) = some (.ref p) ∧ KeyT H p ks ∧ r.key ∈ ks ∧ ks.length ≤ 2 ∧ (∀ k ∈ ks, k.length ≤ 4) ∧ ∀ k ∈ ks, ∀ x ∈ k, PyData.strOk x = true
  len : r.cols.length = r.key.length
  nd : r.cols.Nodup
def spRef (K : PySem.W.Frag) : Sp := fun vs H Q _ => ∃ dt dk b kt kk r, vs = [.ref dt, .ref dk, .ref b] ∧ H dt = some (.dK kt) ∧ H dk = some (.dK kk) ∧ WayT H b r ∧ WayOk H kt kk r ∧ ∀ H', Same H H' → Q (.bl true) H'
theorem ok__is_reference (T : Txt K mg a) : FnOk P w K mg base CX0 1 a._is_reference a.fd__is_reference ps__is_reference (spRef K) := by
  have F := T.F__is_reference
  refine F.ok (k := 0) sc__is_reference (fun vs H Q E h => ?_) (fun cdv A outer s H vs Q E hr h => ?_)
  · obtain ⟨dt, dk, b, kt, kk, r, rfl, ht, hk, ⟨c, kd, hb, hc, hkd⟩, ⟨⟨ct, cs, t1, t2, t3⟩, h2, h3, ⟨kp, ks, p1, p2, p3, p4, p5, p6⟩, h5, h6⟩, k⟩ := h
    rfl
  · obtain ⟨dt, dk, b, kt, kk, r, rfl, ht, hk, ⟨c, kd, hb, hc, hkd⟩, ⟨⟨ct, cs, t1, t2, t3⟩, h2, h3, ⟨kp, ks, p1, p2, p3, p4, p5, p6⟩, h5, h6⟩, k⟩ := h
    have hu := hu_of hr
    refine ⟨_, (pss_cons (ps_if (PW.pt (pw_or (pt_not (pt_val (pe_callB call_isi (by rfl) T.isinstance (by decide +kernel) (pa_cons (pv 2) (pa_cons (pe_bltn (v := V.ty "tuple") (u := .type "tuple") (by rfl) T.tuple (by decide +kernel) (by rfl)) pa_nil))))) (pw_or1 (pt_cmpR op_ne (pe_callB call_len (by rfl) T.len (by decide +kernel) (pa_cons (pv 2) pa_nil)) pe_int (nomark _))))) (pss_one (ps_ret pe_bl)) pss_nil)
      (pss_cons (ps_asg (pv 2) (pg_tup rfl (pgs_cons (pg_name (i := 3) sc__is_reference.nd rfl (Or.inl rfl)) (pgs_cons (pg_name (i := 4) sc__is_reference.nd rfl (Or.inl rfl)) (pgs_cons (pg_name (i := 5) sc__is_reference.nd rfl (Or.inl rfl)) (pgs_cons (pg_name (i := 6) sc__is_reference.nd rfl (Or.inl rfl)) pgs_nil))))))
      (pss_cons (ps_if (PW.pt (pw_or (pt_not (pt_val (pe_callB call_isi (by rfl) T.isinstance (by decide +kernel) (pa_cons (pv 3) (pa_cons (pe_bltn (v := V.ty "str") (u := .type "str") (by rfl) T.str (by decide +kernel) (by rfl)) pa_nil))))) (pw_or (pt_cmp (pc_dnotin hu (pv 3) (pv 0))) (pw_or (pt_not (pt_val (pe_callB call_isi (by rfl) T.isinstance (by decide +kernel) (pa_cons (pv 5) (pa_cons (pe_bltn (v := V.ty "str") (u := .type "str") (by rfl) T.str (by decide +kernel) (by rfl)) pa_nil))))) (pw_or1 (pt_cmp (pc_dnotin hu (pv 5) (pv 0)))))))) (pss_one (ps_ret pe_bl)) pss_nil)
      (pss_cons (ps_if (PW.pt (pw_or (pt_cmpR op_eq (pv 3) (pv 5) (nomark _)) (pw_or (pt_not (pt_val (pe_callB call_isi (by rfl) T.isinstance (by decide +kernel) (pa_cons (pv 4) (pa_cons (pe_bltn (v := V.ty "tuple") (u := .type "tuple") (by rfl) T.tuple (by decide +kernel) (by rfl)) pa_nil))))) (pw_or1 (pt_cmpR (It.op_notInT (un65 hr)) (pv 6) (pe_dget2 hu (pv 1) (pv 5) (pe_tup pa_nil) ⟨rfl, rfl, rfl, rfl⟩) (by rfl)))))) (pss_one (ps_ret pe_bl)) pss_nil)
      (pss_cons (ps_for PassesOwn.never rfl (pi_tup (pv 4)) (pg_name (i := 7) sc__is_reference.nd rfl (Or.inl rfl)) (pss_one (ps_if (pt_cmpR op_notIn_seq (pv 7) (pe_dget hu (pv 0) (pv 3) (fun _ _ => rfl)) (by rfl)) (pss_one (ps_ret pe_bl)) pss_nil)))
      (pss_one (ps_ret (pe_and (pe_cmpR op_eq (pe_callB call_len (by rfl) T.len (by decide +kernel) (pa_cons (pv 4) pa_nil)) (pe_callB call_len (by rfl) T.len (by decide +kernel) (pa_cons (pv 6) pa_nil)) (nomark _)) (pe_one (pe_or (pe_cmpR op_eq (pe_callB call_len (by rfl) T.len (by decide +kernel) (pa_cons (pv 4) pa_nil)) pe_int (nomark _)) (pe_one (pe_cmpR op_eq (Sz.pe_lenSetX (by rfl) T.len (by rfl) T.set (pv 4)) (pe_callB call_len (by rfl) T.len (by decide +kernel) (pa_cons (pv 4) pa_nil)) (nomark _))))))))))))), ?_⟩
    refine ⟨_, rfl, _, .ty "tuple", _, _, _, rfl, .ty _, sqT_ty (SqT.of hb), kit_tup (.tuple []), _, rfl, ?_⟩
    refine iteF ?_
    refine ⟨_, rfl, _, _, rfl, .inr ⟨_, SqT.of hb, rfl⟩, rfl, _, rfl, ?_⟩
    refine ite_f (by rfl) ?_
    refine ⟨_, rfl, b, _, rfl, SqT.of hb, rfl, _, _, rfl, _, _, rfl, _, _, rfl, _, _, rfl, rfl, ?_⟩
    refine ⟨_, rfl, _, .ty "str", _, _, _, rfl, .ty _, dat_ty (.str r.tab), kit_str (.str r.tab), _, rfl, ?_⟩
    refine iteF ?_
    refine ⟨_, rfl, _, rfl, dt, _, rfl, DGet.k (k := .inr r.tab) ht, _, rfl, ?_⟩
    rw [t1]
    refine iteF ?_
    refine ⟨_, rfl, _, .ty "str", _, _, _, rfl, .ty _, dat_ty (.str r.par), kit_str (.str r.par), _, rfl, ?_⟩
    refine iteF ?_
    refine ⟨_, rfl, _, rfl, dt, _, rfl, DGet.k (k := .inr r.par) ht, _, rfl, ?_⟩
    rw [h2]
    refine iteF ?_
    refine ⟨_, rfl, _, rfl, rfl, _, rfl, ?_⟩
    refine ite_f (decide_eq_false fun z => h3 (V.str.inj z)) ?_
    refine ⟨_, rfl, _, .ty "tuple", _, _, _, rfl, .ty _, sqT_ty (SqT.of hc), kit_tup (.tuple []), _, rfl, ?_⟩
    refine iteF ?_
    refine ⟨_, rfl, _, rfl, dk, rfl, ?_, ?_⟩
    · exact .inl ⟨kk, .inl hk⟩
    refine ⟨_, rfl, by show 0 ≤ sizeLine; decide, fun e0 ne0 => ?_⟩
    generalize EH1 : upd H e0 _ = H1
    have he0 := (congrFun EH1 e0).symm.trans upd_same
    have S1 : Same H H1 := by rw [← EH1]; exact sameNew ne0
    refine ⟨_, DGet.k (k := .inr r.par) (S1 _ _ hk), ?_⟩
    rw [p1]
    obtain ⟨bs, q1, q2⟩ := p2
    refine ⟨Sp4.kD r.key, ks.map Sp4.kD, dp_key (SqT.of (S1 _ _ hkd)), .tup (SqT.of (S1 _ _ q1)) (dp_keys (Paired.mapP q2 fun _ _ e => S1 _ _ e)), sh_key _ (p6 _ p3), sh_keys _ p6, ?_⟩
    rw [any_key, decide_eq_true p3]
    refine ⟨_, rfl, ?_⟩
    refine iteF ?_
    have hc1 := S1 _ _ hc
    refine ⟨_, rfl, c, rfl, ⟨_, SqT.of hc1⟩, ?_⟩
    refine for_tup (K := K) (a := c) (xs := r.cols.map V.str) (fun i σ Hi => Same H Hi ∧ ∃ o, σ = [some (.ref dt), some (.ref dk), some (.ref b), some (.str r.tab), some (.ref c), some (.str r.par), some (.ref kd), o]) ⟨S1, _, rfl⟩ (fun i σ Hi hi q => SqT.of (q.1 _ _ hc)) ?_ ?_
    · rintro i x σ Hi hi ⟨S, o, rfl⟩
      rw [List.getElem?_map] at hi
      obtain ⟨z, hz, rfl⟩ := Option.map_eq_some_iff.mp hi
      refine ⟨_, rfl, _, rfl, _, rfl, dt, .ref ct, rfl, .inl ⟨kt, .inr r.tab, .inl (S _ _ ht), rfl, t1.symm⟩, ?_⟩
      refine ⟨ct, _, rfl, .inr (SqT.of (S _ _ t2)), rfl, flat_strs cs, ?_⟩
      rw [inV_strs, decide_eq_true (t3 z (List.mem_of_getElem? hz))]
      refine ⟨_, rfl, ?_⟩
      refine iteF ?_
      exact ⟨S, _, rfl⟩
    rintro σ Hi ⟨S, o, rfl⟩
    refine ⟨_, rfl, _, _, rfl, .inr ⟨_, SqT.of (S _ _ hc), rfl⟩, ?_⟩
    refine ⟨_, rfl, _, _, rfl, .inr ⟨_, SqT.of (S _ _ hkd), rfl⟩, ?_⟩
    rw [List.length_map, List.length_map, ← h5]
    refine ⟨rfl, _, rfl, ?_⟩
    refine ite_t (decide_eq_true rfl) ?_
    refine ⟨_, rfl, _, _, rfl, .inr ⟨_, SqT.of (S _ _ hc), rfl⟩, ?_⟩
    rw [List.length_map]
    refine ⟨rfl, _, rfl, ?_⟩
    have lc : r.cols.length ≤ 4 := by rw [h5]; exact p5 _ p3
    refine iteD (fun _ => k Hi S) (fun _ => ?_)
    refine ⟨_, rfl, c, r.cols, rfl, SqT.of (S _ _ hc), h6, by omega, ?_⟩
    refine ⟨_, rfl, _, _, rfl, .inr ⟨_, SqT.of (S _ _ hc), rfl⟩, ?_⟩
    rw [List.length_map]
    refine ⟨rfl, ?_⟩
    rw [decide_eq_true rfl]
    exact k Hi S
end
end K04

set_option Elab.async false
set_option linter.all false
set_option maxRecDepth 100000
set_option maxHeartbeats 4000000
open L2 in
local macro_rules | `(tactic| walk_at "q1") => `(tactic| first
  | refine ⟨_, rfl, ?_⟩
  | refine ⟨_, _, rfl, rfl, ?_⟩
  | refine And.intro (show CMul _ _ from Or.inr ⟨by decide, by decide⟩) ?_
  | refine And.intro (show CMul _ _ from Or.inl ⟨by first | decide | omega, by first | decide | omega⟩) ?_
  | refine And.intro (show CMul _ _ from Or.inr ⟨by omega, by omega⟩) ?_
  | refine And.intro (show CDiv _ _ from ⟨by omega, by omega⟩) ?_
  | refine And.intro (show Dt.CPowG _ _ from ⟨by decide, by decide +kernel⟩) ?_
  | refine And.intro (by first | decide | omega) ?_
  | refine And.intro (Int.pow_pos (Int.pow_pos (by decide))) ?_
  | refine ⟨_, _, _, _, rfl, rfl, SqL.of (by first | assumption | exact upd_same), (by rfl), ?_⟩
  | refine ⟨_, _, _, _, rfl, rfl, (by first | assumption | exact upd_same), (by rfl), ?_⟩
  | refine Or.inl ⟨_, rfl, ?_⟩
  | refine Or.inr ⟨_, rfl, ?_⟩)
local macro_rules | `(tactic| walk_at "q") => `(tactic| repeat (walk_at "q1"))
local macro_rules | `(tactic| walk_at "eqt") => `(tactic| (refine ⟨_, rfl, ?_⟩; refine ⟨rfl, ?_⟩; first
  | (refine ⟨true, rfl, ?_⟩; refine L2.iteT ?_)
  | (refine ⟨false, rfl, ?_⟩; refine L2.iteF ?_)))
local macro_rules | `(tactic| walk_at "sz") => `(tactic| (rw [PySem.sizeLine_eq]; simp))
namespace K04
open PySem PySem.Spec PyProof.Rows L2 Dt An Rp Sp4
section
variable {P : Program} {w : World} {K : PySem.W.Frag} {mg : Str → Option Value} {base : Heap} {a : Ads}
/-- all but d stays -/
def Off (d : Addr) (H H1 : Hp) : Prop := ∀ b u, b ≠ d → H b = some u → H1 b = some u
theorem Off.lock {d : Addr} {H : Hp} {o : HO} : Off d H (upd H d o) := fun b u n e => by rw [upd_ne n]; exact e
theorem Off.same {d : Addr} {H H1 H2 : Hp} (a : Off d H H1) (S : Same H1 H2) : Off d H H2 := fun b u n e => S _ _ (a b u n e)
theorem Off.of {d : Addr} {H H1 : Hp} (S : Same H H1) : Off d H H1 := fun b u _ e => S _ _ e
theorem Off.back {d : Addr} {H H1 : Hp} {o : HO} (a : Off d H H1) (hd : H d = some o) : Same H (upd H1 d o) := fun b u e => by
  by_cases z : b = d
  · rw [z] at e ⊢
    rw [upd_same, ← hd, e]
  · rw [upd_ne z]
    exact a b u z e
def ColT (H : Hp) (b : Addr) (cs : List Str) : Prop := H b = some (.tup (cs.map V.str))
theorem ColT.off {d : Addr} {H H1 : Hp} {b : Addr} {cs : List Str} {ks : List (Key × V)} (a : Off d H H1) (hd : H d = some (.dK ks)) (h : ColT H b cs) : ColT H1 b cs := a _ _ (fun z => by
  have h : H b = some (.tup (cs.map V.str)) := h
  rw [z, hd] at h
  cases h) h
theorem keys_ent {α : Type} {R : Addr → α → Prop} : ∀ {ks : List (Key × V)} {X : List (Str × α)}, Paired (EntOf R) ks X → ks.map (·.1) = (X.map (·.1)).map Sum.inr
  | _, _, .nil => rfl
  | _, _, .cons h t => by
    rw [List.map_cons, List.map_cons, List.map_cons, keys_ent t, h.1]
theorem inr_nd : ∀ {l : List Str}, l.Nodup → (l.map (Sum.inr : Str → Key)).Nodup
  | _, h => List.pairwise_map.mpr (h.imp fun n e => n (Sum.inr.inj e))
theorem nd_ent {α : Type} {R : Addr → α → Prop} {ks : List (Key × V)} {X : List (Str × α)} (p : Paired (EntOf R) ks X) (n : (X.map (·.1)).Nodup) : (ks.map (·.1)).Nodup := by
  rw [keys_ent p]
  exact inr_nd n
theorem kV_ent {α : Type} {R : Addr → α → Prop} : ∀ {ks : List (Key × V)} {X : List (Str × α)}, Paired (EntOf R) ks X → (ks.map fun kv => kV kv.1) = (X.map (·.1)).map V.str
  | _, _, .nil => rfl
  | _, _, .cons h t => by
    rw [List.map_cons, List.map_cons, List.map_cons, kV_ent t, h.1]
    rfl
/-- the entry of a name -/
theorem val_ent {α : Type} {R : Addr → α → Prop} {x : Str} {y : α} : ∀ {ks : List (Key × V)} {X : List (Str × α)}, Paired (EntOf R) ks X → (X.map (·.1)).Nodup → (x, y) ∈ X → ∃ b, valV ks (.inr x) = some (.ref b) ∧ R b y
  | _, _, .cons (a := e) (b := z) h t, nd, m => by
    rw [List.map_cons, List.nodup_cons] at nd
    rcases List.mem_cons.mp m with q | q
    · subst q
      obtain ⟨h1, b, h2, h3⟩ := h
      exact ⟨b, by rw [valV_pos h1, h2], h3⟩
    · obtain ⟨b, h1, h2⟩ := val_ent t nd.2 q
      refine ⟨b, ?_, h2⟩
      rw [valV_neg fun c => nd.1 ?_]
      · exact h1
      · have c2 : z.1 = x := Sum.inr.inj (h.1.symm.trans c)
        rw [c2]
        exact List.mem_map.mpr ⟨_, q, rfl⟩
theorem val_no {α : Type} {R : Addr → α → Prop} {x : Str} : ∀ {ks : List (Key × V)} {X : List (Str × α)}, Paired (EntOf R) ks X → x ∉ X.map (·.1) → valV ks (.inr x) = none
  | _, _, .nil, _ => rfl
  | _, _, .cons (a := e) (b := z) h t, m => by
    rw [List.map_cons, List.mem_cons] at m
    rw [valV_neg fun c => m (.inl (Sum.inr.inj (h.1.symm.trans c)).symm)]
    exact val_no t fun q => m (.inr q)
structure TabsOk (T : List (Str × List Str)) : Prop where
  n1 : 1 ≤ T.length
  n5 : T.length ≤ 5
  names : Nms (T.map (·.1))
  nd : (T.map (·.1)).Nodup
  cols : ∀ p ∈ T, ColsOk p.2
def spTables (K : PySem.W.Frag) : Sp := fun vs H Q _ => ∃ d kt T, vs = [.ref d] ∧ H d = some (.dK kt) ∧ Paired (EntOf (ColT H)) kt T ∧ TabsOk T ∧ ∀ H', Same H H' → Q (.bl true) H'
theorem ok__are_tables (T : Txt K mg a) : FnOk P w K mg base CX0 3 a._are_tables a.fd__are_tables ps__are_tables (spTables K) := by
  have F := T.F__are_tables
  refine F.ok (k := 2) sc__are_tables (fun vs H Q E h => ?_) (fun cdv A outer s H vs Q E hr h => ?_)
  · obtain ⟨d, kt, T0, rfl, hd, hT, ok, k⟩ := h
    rfl
  · obtain ⟨d, kt, T0, rfl, hd, hT, ok, k⟩ := h
    have hu := hu_of hr
    refine ⟨_, (pss_cons (ps_if (PW.pt (pw_or (pt_not (pt_val (pe_callB call_isi (by rfl) T.isinstance (by decide +kernel) (pa_cons (pv 0) (pa_cons (pe_bltn (v := V.ty "dict") (u := .type "dict") (by rfl) T.dict (by decide +kernel) (by rfl)) pa_nil))))) (pw_or (pt_not (pt_chain op_le op_le pe_int (pe_callB call_lenD (by rfl) T.len (by decide +kernel) (pa_cons (pv 0) pa_nil)) (pe_glob (v := V.int (5)) (by rfl) T.m_MAX_TABLES ⟨_, rfl⟩))) (pw_or1 (pt_not (pt_val (pe_call (ok_are_names T) (hr.mono (by decide)) (by rfl) T.g_are_names T.F_are_names.kp (b_are_names T) .nil pass0 (pa_cons (pe_callTy (Tk.call_tupleK rfl) (by rfl) T.tuple (by decide +kernel) (pa_cons (pv 0) pa_nil)) pa_nil)))))))) (pss_one (ps_ret pe_bl)) pss_nil)
      (pss_cons (ps_lock (ps_for PassesOwn.never rfl (pi_keys (pv 0)) (pg_name (i := 1) sc__are_tables.nd rfl (Or.inl rfl)) (pss_one (ps_if (pt_not (pt_val (pe_call (ok__are_columns T) (hr.mono (by decide)) (by rfl) T.g__are_columns T.F__are_columns.kp (b__are_columns T) .nil pass0 (pa_cons (pe_dget hu (pv 0) (pv 1) (fun _ _ => rfl)) pa_nil)))) (pss_one (ps_ret pe_bl)) pss_nil))))
      (pss_one (ps_ret pe_bl)))), ?_⟩
    have lk : kt.length = T0.length := hT.length
    have n1 := ok.n1
    have n5 := ok.n5
    refine ⟨_, rfl, _, .ty "dict", _, _, _, rfl, .ty _, .base (.dK hd), kit_dict (.dict []), _, rfl, ?_⟩
    refine iteF ?_
    refine ⟨_, rfl, d, kt, rfl, hd, ?_⟩
    rw [lk]
    refine ⟨_, _, rfl, rfl, _, rfl, ?_⟩
    refine ite_t (decide_eq_true (by omega)) ?_
    refine ⟨_, _, rfl, rfl, _, rfl, ?_⟩
    refine ite_f (by rw [decide_eq_true (by omega)]; rfl) ?_
    refine ⟨_, rfl, d, kt, rfl, .inl hd, fun p0 np0 => ?_⟩
    generalize EH1 : upd H p0 _ = H1
    have hp0 := (congrFun EH1 p0).symm.trans upd_same
    have S1 : Same H H1 := by rw [← EH1]; exact sameNew np0
    rw [kV_ent hT] at hp0
    refine ⟨p0, _, rfl, SqT.of hp0, ok.names, _, rfl, ?_⟩
    refine iteF ?_
    have hd1 := S1 _ _ hd
    refine ⟨d, .dK kt, hd1, trivial, fun od => ?_⟩
    refine ⟨_, rfl, d, od, rfl, .inl ⟨kt, upd_same, ?_⟩⟩
    refine for_it (walk_keys (o := od) (d := d) (kvs := kt)) (fun i σ Hi => (∃ o, σ = [some (.ref d), o]) ∧ Off d H Hi ∧ Hi d = some (.frz od (.dK kt))) ⟨⟨_, rfl⟩, fun b u n e => by rw [upd_ne n]; exact S1 _ _ e, upd_same⟩ (fun i σ Hi hi q => q.2.2) ?_ ?_
    · rintro i v σ Hi Hi2 hi ⟨⟨o, rfl⟩, off, eD⟩ ⟨rfl, kk, v2, hk, rfl⟩
      obtain ⟨x1, hx1, e1, b, ev, h1⟩ := paired_at hT hk
      have e1 : kk = .inr x1.1 := e1
      have ev : v2 = .ref b := ev
      subst e1 ev
      have hb := h1.off off hd
      refine ⟨_, rfl, _, rfl, d, .ref b, rfl, .inl ⟨kt, .inr x1.1, .inr ⟨od, eD⟩, rfl, (valV_at (nd_ent hT ok.nd) hk).symm⟩, ?_⟩
      refine ⟨b, _, rfl, SqT.of hb, ok.cols _ (List.mem_of_getElem? hx1), fun H3 S3 => ?_⟩
      refine ⟨_, rfl, ?_⟩
      refine iteF ?_
      exact ⟨⟨_, rfl⟩, off.same S3, S3 _ _ eD⟩
    rintro σ Hi ⟨⟨o, rfl⟩, off, eD⟩
    exact ⟨eD, k _ (off.back hd)⟩
end
end K04

set_option Elab.async false
set_option linter.all false
set_option maxRecDepth 100000
set_option maxHeartbeats 4000000
open L2 in
local macro_rules | `(tactic| walk_at "q1") => `(tactic| first
  | refine ⟨_, rfl, ?_⟩
  | refine ⟨_, _, rfl, rfl, ?_⟩
  | refine And.intro (show CMul _ _ from Or.inr ⟨by decide, by decide⟩) ?_
  | refine And.intro (show CMul _ _ from Or.inl ⟨by first | decide | omega, by first | decide | omega⟩) ?_
  | refine And.intro (show CMul _ _ from Or.inr ⟨by omega, by omega⟩) ?_
  | refine And.intro (show CDiv _ _ from ⟨by omega, by omega⟩) ?_
  | refine And.intro (show Dt.CPowG _ _ from ⟨by decide, by decide +kernel⟩) ?_
  | refine And.intro (by first | decide | omega) ?_
  | refine And.intro (Int.pow_pos (Int.pow_pos (by decide))) ?_
  | refine ⟨_, _, _, _, rfl, rfl, SqL.of (by first | assumption | exact upd_same), (by rfl), ?_⟩
  | refine ⟨_, _, _, _, rfl, rfl, (by first | assumption | exact upd_same), (by rfl), ?_⟩
  | refine Or.inl ⟨_, rfl, ?_⟩
  | refine Or.inr ⟨_, rfl, ?_⟩)
local macro_rules | `(tactic| walk_at "q") => `(tactic| repeat (walk_at "q1"))
local macro_rules | `(tactic| walk_at "eqt") => `(tactic| (refine ⟨_, rfl, ?_⟩; refine ⟨rfl, ?_⟩; first
  | (refine ⟨true, rfl, ?_⟩; refine L2.iteT ?_)
  | (refine ⟨false, rfl, ?_⟩; refine L2.iteF ?_)))
local macro_rules | `(tactic| walk_at "sz") => `(tactic| (rw [PySem.sizeLine_eq]; simp))
namespace K04
open PySem PySem.Spec PyProof.Rows L2 Dt An Rp Sp4
section
variable {P : Program} {w : World} {K : PySem.W.Frag} {mg : Str → Option Value} {base : Heap} {a : Ads}
structure KeysD (T : List (Str × List Str)) (L : List (Str × List (List Str))) : Prop where
  nd : (L.map (·.1)).Nodup
  keys : ∀ p ∈ L, ∃ cs, (p.1, cs) ∈ T ∧ KeysOk cs p.2
theorem KeyT.off {d : Addr} {H H1 : Hp} {b : Addr} {ks : List (List Str)} {kk : List (Key × V)} (a : Off d H H1) (hd : H d = some (.dK kk)) (h : KeyT H b ks) : KeyT H1 b ks := by
  obtain ⟨bs, h1, h2⟩ := h
  have ne : ∀ {c : Addr} {ys : List V}, H c = some (.tup ys) → H1 c = some (.tup ys) := fun {c ys} e => a _ _ (fun z => by
    rw [z, hd] at e
    cases e) e
  exact ⟨bs, ne h1, Paired.mapP h2 fun _ _ e => ne e⟩
theorem WayT.off {d : Addr} {H H1 : Hp} {b : Addr} {r : Way} {kk : List (Key × V)} (a : Off d H H1) (hd : H d = some (.dK kk)) (h : WayT H b r) : WayT H1 b r := by
  obtain ⟨c, e, h1, h2, h3⟩ := h
  have ne : ∀ {c : Addr} {ys : List V}, H c = some (.tup ys) → H1 c = some (.tup ys) := fun {c ys} e => a _ _ (fun z => by
    rw [z, hd] at e
    cases e) e
  exact ⟨c, e, ne h1, ne h2, ne h3⟩
theorem ent_off {α : Type} {R : Hp → Addr → α → Prop} {H H1 : Hp} (f : ∀ b x, R H b x → R H1 b x) {ks : List (Key × V)} {X : List (Str × α)} (p : Paired (EntOf (R H)) ks X) : Paired (EntOf (R H1)) ks X :=
  Paired.mapP p fun _ _ h => ⟨h.1, let ⟨b, h2, h3⟩ := h.2; ⟨b, h2, f _ _ h3⟩⟩
theorem no_mix : ∀ {cs : List Str} {bs : List Addr}, 1 ≤ cs.length → cs.map V.str = bs.map V.ref → False
  | [], _, n, _ => absurd n (by decide)
  | _ :: _, [], _, e => by cases e
  | _ :: _, _ :: _, _, e => by cases e
/-- columns are no keys -/
theorem cols_keys {H : Hp} {d e : Addr} {kt kk : List (Key × V)} {T : List (Str × List Str)} {L : List (Str × List (List Str))} (hd : H d = some (.dK kt)) (he : H e = some (.dK kk)) (pt : Paired (EntOf (ColT H)) kt T) (pk : Paired (EntOf (KeyT H)) kk L) (ok : TabsOk T) : d ≠ e := fun z => by
  subst z
  rw [hd] at he
  cases he
  cases pt with
  | nil => exact absurd ok.n1 (by decide)
  | cons h t =>
    cases pk with
    | cons g u =>
      obtain ⟨_, b, h2, h3⟩ := h
      obtain ⟨_, c, g2, bs, g3, _⟩ := g
      rw [h2] at g2
      cases g2
      have h3 : H b = some (.tup _) := h3
      rw [h3] at g3
      have e := Option.some.inj g3
      injection e with e
      exact no_mix (ok.cols _ List.mem_cons_self).2.1 e
def spKeysD (K : PySem.W.Frag) : Sp := fun vs H Q _ => ∃ dt dk kt kk T L, vs = [.ref dt, .ref dk] ∧ H dt = some (.dK kt) ∧ H dk = some (.dK kk) ∧ Paired (EntOf (ColT H)) kt T ∧ Paired (EntOf (KeyT H)) kk L ∧ TabsOk T ∧ KeysD T L ∧ ∀ H', Same H H' → Q (.bl true) H'
theorem ok__are_keys (T : Txt K mg a) : FnOk P w K mg base CX0 4 a._are_keys a.fd__are_keys ps__are_keys (spKeysD K) := by
  have F := T.F__are_keys
  refine F.ok (k := 3) sc__are_keys (fun vs H Q E h => ?_) (fun cdv A outer s H vs Q E hr h => ?_)
  · obtain ⟨dt, dk, kt, kk, T0, L0, rfl, ht, hk, pT, pL, okT, okL, k⟩ := h
    rfl
  · obtain ⟨dt, dk, kt, kk, T0, L0, rfl, ht, hk, pT, pL, okT, okL, k⟩ := h
    have hu := hu_of hr
    refine ⟨_, (pss_cons (ps_if (pt_not (pt_val (pe_callB call_isi (by rfl) T.isinstance (by decide +kernel) (pa_cons (pv 1) (pa_cons (pe_bltn (v := V.ty "dict") (u := .type "dict") (by rfl) T.dict (by decide +kernel) (by rfl)) pa_nil))))) (pss_one (ps_ret pe_bl)) pss_nil)
      (pss_cons (ps_lock (ps_for PassesOwn.never rfl (pi_keys (pv 1)) (pg_name (i := 2) sc__are_keys.nd rfl (Or.inl rfl)) (pss_one (ps_if (PW.pt (pw_or (pt_not (pt_val (pe_callB call_isi (by rfl) T.isinstance (by decide +kernel) (pa_cons (pv 2) (pa_cons (pe_bltn (v := V.ty "str") (u := .type "str") (by rfl) T.str (by decide +kernel) (by rfl)) pa_nil))))) (pw_or (pt_cmp (pc_dnotin hu (pv 2) (pv 0))) (pw_or1 (pt_not (pt_val (pe_call (ok__are_keys_of T) (hr.mono (by decide)) (by rfl) T.g__are_keys_of T.F__are_keys_of.kp (b__are_keys_of T) .nil pass0 (pa_cons (pe_dget hu (pv 0) (pv 2) (fun _ _ => rfl)) (pa_cons (pe_dget hu (pv 1) (pv 2) (fun _ _ => rfl)) pa_nil))))))))) (pss_one (ps_ret pe_bl)) pss_nil))))
      (pss_one (ps_ret pe_bl)))), ?_⟩
    have ne : dt ≠ dk := cols_keys ht hk pT pL okT
    refine ⟨_, rfl, _, .ty "dict", _, _, _, rfl, .ty _, .base (.dK hk), kit_dict (.dict []), _, rfl, ?_⟩
    refine iteF ?_
    refine ⟨dk, .dK kk, hk, trivial, fun od => ?_⟩
    refine ⟨_, rfl, dk, od, rfl, .inl ⟨kk, upd_same, ?_⟩⟩
    refine for_it (walk_keys (o := od) (d := dk) (kvs := kk)) (fun i σ Hi => (∃ o, σ = [some (.ref dt), some (.ref dk), o]) ∧ Off dk H Hi ∧ Hi dk = some (.frz od (.dK kk))) ⟨⟨_, rfl⟩, Off.lock, upd_same⟩ (fun i σ Hi hi q => q.2.2) ?_ ?_
    · rintro i v σ Hi Hi2 hi ⟨⟨o, rfl⟩, off, eD⟩ ⟨rfl, kx, v2, hkx, rfl⟩
      obtain ⟨x1, hx1, e1, b, ev, h1⟩ := paired_at pL hkx
      have e1 : kx = .inr x1.1 := e1
      have ev : v2 = .ref b := ev
      subst e1 ev
      have hb := h1.off off hk
      obtain ⟨cs, m1, m2⟩ := okL.keys _ (List.mem_of_getElem? hx1)
      obtain ⟨c, c1, c2⟩ := val_ent pT okT.nd m1
      have hc := c2.off off hk
      have htI := off _ _ ne ht
      obtain ⟨bs, b1, b2⟩ := hb
      refine ⟨_, rfl, _, .ty "str", _, _, _, rfl, .ty _, dat_ty (.str x1.1), kit_str (.str x1.1), _, rfl, ?_⟩
      refine iteF ?_
      refine ⟨_, rfl, _, rfl, dt, _, rfl, DGet.k (k := .inr x1.1) htI, _, rfl, ?_⟩
      rw [c1]
      refine iteF ?_
      refine ⟨_, rfl, _, rfl, dt, .ref c, rfl, .inl ⟨kt, .inr x1.1, .inl htI, rfl, c1.symm⟩, ?_⟩
      refine ⟨_, rfl, _, rfl, dk, .ref b, rfl, .inl ⟨kk, .inr x1.1, .inr ⟨od, eD⟩, rfl, (valV_at (nd_ent pL okL.nd) hkx).symm⟩, ?_⟩
      refine ⟨c, b, cs, bs, x1.2, rfl, SqT.of hc, SqT.of b1, Paired.mapP b2 fun _ _ e => SqT.of e, m2, fun H3 S3 => ?_⟩
      refine ⟨_, rfl, ?_⟩
      refine iteF ?_
      exact ⟨⟨_, rfl⟩, off.same S3, S3 _ _ eD⟩
    rintro σ Hi ⟨⟨o, rfl⟩, off, eD⟩
    exact ⟨eD, k _ (off.back hk)⟩
end
end K04

set_option Elab.async false
set_option linter.all false
set_option maxRecDepth 100000
set_option maxHeartbeats 4000000
open L2 in
local macro_rules | `(tactic| walk_at "q1") => `(tactic| first
  | refine ⟨_, rfl, ?_⟩
  | refine ⟨_, _, rfl, rfl, ?_⟩
  | refine And.intro (show CMul _ _ from Or.inr ⟨by decide, by decide⟩) ?_
  | refine And.intro (show CMul _ _ from Or.inl ⟨by first | decide | omega, by first | decide | omega⟩) ?_
  | refine And.intro (show CMul _ _ from Or.inr ⟨by omega, by omega⟩) ?_
  | refine And.intro (show CDiv _ _ from ⟨by omega, by omega⟩) ?_
  | refine And.intro (show Dt.CPowG _ _ from ⟨by decide, by decide +kernel⟩) ?_
  | refine And.intro (by first | decide | omega) ?_
  | refine And.intro (Int.pow_pos (Int.pow_pos (by decide))) ?_
  | refine ⟨_, _, _, _, rfl, rfl, SqL.of (by first | assumption | exact upd_same), (by rfl), ?_⟩
  | refine ⟨_, _, _, _, rfl, rfl, (by first | assumption | exact upd_same), (by rfl), ?_⟩
  | refine Or.inl ⟨_, rfl, ?_⟩
  | refine Or.inr ⟨_, rfl, ?_⟩)
local macro_rules | `(tactic| walk_at "q") => `(tactic| repeat (walk_at "q1"))
local macro_rules | `(tactic| walk_at "eqt") => `(tactic| (refine ⟨_, rfl, ?_⟩; refine ⟨rfl, ?_⟩; first
  | (refine ⟨true, rfl, ?_⟩; refine L2.iteT ?_)
  | (refine ⟨false, rfl, ?_⟩; refine L2.iteF ?_)))
local macro_rules | `(tactic| walk_at "sz") => `(tactic| (rw [PySem.sizeLine_eq]; simp))
namespace K04
open PySem PySem.Spec PyProof.Rows L2 Dt An Rp Sp4
section
variable {P : Program} {w : World} {K : PySem.W.Frag} {mg : Str → Option Value} {base : Heap} {a : Ads}
structure RefOk (T : List (Str × List Str)) (L : List (Str × List (List Str))) (r : Way) : Prop where
  tab : ∃ cs, (r.tab, cs) ∈ T ∧ ∀ z ∈ r.cols, z ∈ cs
  par : r.par ∈ T.map (·.1)
  ne : r.tab ≠ r.par
  key : ∃ ks, (r.par, ks) ∈ L ∧ r.key ∈ ks
  len : r.cols.length = r.key.length
  nd : r.cols.Nodup
theorem name_ok {z : Str} (h : nameS z = true) : PyData.strOk z = true := by
  have h2 : z.cps.all (· < 128) = true := (name_parts h).2.1
  show (z.cps.all fun x => decide (x < 1114112)) = true
  rw [Array.all_eq_true'] at h2 ⊢
  intro x hx
  have := h2 x hx
  simp at this ⊢
  omega
theorem way_ok {H : Hp} {kt kk : List (Key × V)} {T : List (Str × List Str)} {L : List (Str × List (List Str))} {r : Way} (pT : Paired (EntOf (ColT H)) kt T) (pL : Paired (EntOf (KeyT H)) kk L) (okT : TabsOk T) (okL : KeysD T L) (h : RefOk T L r) : WayOk H kt kk r where
  tab := by
    obtain ⟨cs, m, sub⟩ := h.tab
    obtain ⟨c, c1, c2⟩ := val_ent pT okT.nd m
    exact ⟨c, cs, c1, c2, sub⟩
  par := by
    obtain ⟨p, m, e⟩ := List.mem_map.mp h.par
    obtain ⟨c, c1, _⟩ := val_ent (x := p.1) (y := p.2) pT okT.nd m
    rw [← e, c1]
    rfl
  ne := h.ne
  key := by
    obtain ⟨ks, m, mk⟩ := h.key
    obtain ⟨c, c1, c2⟩ := val_ent pL okL.nd m
    obtain ⟨cs, m2, _, k2, k3, _⟩ := okL.keys _ m
    have nm := (okT.cols _ m2).1
    exact ⟨c, ks, c1, c2, mk, k2, fun k hk => (k3 k hk).2.1, fun k hk x hx => name_ok (nm x ((k3 k hk).2.2.1 x hx))⟩
  len := h.len
  nd := h.nd
structure WaysD (T : List (Str × List Str)) (L : List (Str × List (List Str))) (W : List (Str × Way)) : Prop where
  n4 : W.length ≤ 4
  names : Nms (W.map (·.1))
  nd : (W.map (·.1)).Nodup
  ways : ∀ p ∈ W, RefOk T L p.2
  rank : ∃ rank : Str → Nat, Rises rank (steps W)
theorem ways_keys {H : Hp} {d e : Addr} {kt kk : List (Key × V)} {T : List (Str × List Str)} {W : List (Str × Way)} (hd : H d = some (.dK kt)) (he : H e = some (.dK kk)) (pt : Paired (EntOf (ColT H)) kt T) (pk : Paired (EntOf (WayT H)) kk W) (ok : TabsOk T) : d ≠ e := fun z => by
  subst z
  rw [hd] at he
  cases he
  cases pt with
  | nil => exact absurd ok.n1 (by decide)
  | cons h t =>
    cases pk with
    | cons g u =>
      obtain ⟨_, b, h2, h3⟩ := h
      obtain ⟨_, c, g2, a1, a2, g3, _⟩ := g
      rw [h2] at g2
      cases g2
      have h3 : H b = some (.tup _) := h3
      rw [h3] at g3
      have e := Option.some.inj g3
      injection e with e
      have z := congrArg (fun l : List V => l[1]?) e
      simp only [List.getElem?_map] at z
      obtain ⟨y, _, hy⟩ := Option.map_eq_some_iff.mp z
      cases hy
theorem keys_ways {H : Hp} {d e : Addr} {kt kk : List (Key × V)} {L : List (Str × List (List Str))} {W : List (Str × Way)} (hd : H d = some (.dK kt)) (he : H e = some (.dK kk)) (pt : Paired (EntOf (KeyT H)) kt L) (pk : Paired (EntOf (WayT H)) kk W) : d = e → L = [] ∧ W = [] := fun z => by
  subst z
  rw [hd] at he
  cases he
  cases pt with
  | nil =>
    cases pk
    exact ⟨rfl, rfl⟩
  | cons h t =>
    cases pk with
    | cons g u =>
      exfalso
      obtain ⟨_, b, h2, bs, h3, _⟩ := h
      obtain ⟨_, c, g2, a1, a2, g3, _⟩ := g
      rw [h2] at g2
      cases g2
      rw [h3] at g3
      have e := Option.some.inj g3
      injection e with e
      have z := congrArg (fun l : List V => l[0]?) e
      simp only [List.getElem?_map] at z
      obtain ⟨y, _, hy⟩ := Option.map_eq_some_iff.mp z
      cases hy
def spRefs (K : PySem.W.Frag) : Sp := fun vs H Q _ => ∃ dt dk dw kt kk kw T L W, vs = [.ref dt, .ref dk, .ref dw] ∧ H dt = some (.dK kt) ∧ H dk = some (.dK kk) ∧ H dw = some (.dK kw) ∧ dk ≠ dw ∧ Paired (EntOf (ColT H)) kt T ∧ Paired (EntOf (KeyT H)) kk L ∧ Paired (EntOf (WayT H)) kw W ∧ TabsOk T ∧ KeysD T L ∧ WaysD T L W ∧ ∀ H', Same H H' → Q (.bl true) H'
theorem ok__are_references (T : Txt K mg a) : FnOk P w K mg base CX0 4 a._are_references a.fd__are_references ps__are_references (spRefs K) := by
  have F := T.F__are_references
  refine F.ok (k := 3) sc__are_references (fun vs H Q E h => ?_) (fun cdv A outer s H vs Q E hr h => ?_)
  · obtain ⟨dt, dk, dw, kt, kk, kw, T0, L0, W0, rfl, ht, hk, hw, nkw, pT, pL, pW, okT, okL, okW, k⟩ := h
    rfl
  · obtain ⟨dt, dk, dw, kt, kk, kw, T0, L0, W0, rfl, ht, hk, hw, nkw, pT, pL, pW, okT, okL, okW, k⟩ := h
    have hu := hu_of hr
    refine ⟨_, (pss_cons (ps_if (PW.pt (pw_or (pt_not (pt_val (pe_callB call_isi (by rfl) T.isinstance (by decide +kernel) (pa_cons (pv 2) (pa_cons (pe_bltn (v := V.ty "dict") (u := .type "dict") (by rfl) T.dict (by decide +kernel) (by rfl)) pa_nil))))) (pw_or (pt_cmpR op_gt (pe_callB call_lenD (by rfl) T.len (by decide +kernel) (pa_cons (pv 2) pa_nil)) (pe_glob (v := V.int (4)) (by rfl) T.m_MAX_REFERENCES ⟨_, rfl⟩) (nomark _)) (pw_or1 (pt_not (pt_val (pe_call (ok_are_names T) (hr.mono (by decide)) (by rfl) T.g_are_names T.F_are_names.kp (b_are_names T) .nil pass0 (pa_cons (pe_callTy (Tk.call_tupleK rfl) (by rfl) T.tuple (by decide +kernel) (pa_cons (pv 2) pa_nil)) pa_nil)))))))) (pss_one (ps_ret pe_bl)) pss_nil)
      (pss_cons (ps_lock (ps_for PassesOwn.never rfl (pi_keys (pv 2)) (pg_name (i := 3) sc__are_references.nd rfl (Or.inl rfl)) (pss_one (ps_if (pt_not (pt_val (pe_call (ok__is_reference T) (hr.mono (by decide)) (by rfl) T.g__is_reference T.F__is_reference.kp (b__is_reference T) .nil pass0 (pa_cons (pv 0) (pa_cons (pv 1) (pa_cons (pe_dget hu (pv 2) (pv 3) (fun _ _ => rfl)) pa_nil)))))) (pss_one (ps_ret pe_bl)) pss_nil))))
      (pss_one (ps_ret (pe_not (pe_call (ok__lead_round T) (hr.mono (by decide)) (by rfl) T.g__lead_round T.F__lead_round.kp (b__lead_round T) .nil pass0 (pa_cons (pe_lock (pe_lc (own := [("name", 3)]) rfl sc__are_references.nd (pi_keys (pv 2)) (blkOk_by (N := nm__are_references) (sc := defScope s__are_references) (by decide +kernel)) (fun _ _ _ _ _ => (pg_name (i := 3) sc__are_references.nd rfl (Or.inl rfl))) (fun _ _ _ _ _ => pts_nil) (fun _ _ _ _ _ => (pe_tup (pa_cons (pe_ix (r := rIxT K) ix_tup (pe_dget hu (pv 2) (pv 3) (fun _ _ => rfl)) pe_int (fun _ _ => rfl)) (pa_cons (pe_ix (r := rIxT K) ix_tup (pe_dget hu (pv 2) (pv 3) (fun _ _ => rfl)) pe_int (fun _ _ => rfl)) pa_nil)))))) pa_nil))))))), ?_⟩
    have ntw : dt ≠ dw := ways_keys ht hw pT pW okT
    have lk : kw.length = W0.length := pW.length
    have n4 := okW.n4
    refine ⟨_, rfl, _, .ty "dict", _, _, _, rfl, .ty _, .base (.dK hw), kit_dict (.dict []), _, rfl, ?_⟩
    refine iteF ?_
    refine ⟨_, rfl, dw, kw, rfl, hw, ?_⟩
    rw [lk]
    refine ⟨_, _, rfl, rfl, _, rfl, ?_⟩
    refine ite_f (decide_eq_false (by omega)) ?_
    refine ⟨_, rfl, dw, kw, rfl, .inl hw, fun p0 np0 => ?_⟩
    generalize EH1 : upd H p0 _ = H1
    have hp0 := (congrFun EH1 p0).symm.trans upd_same
    have S1 : Same H H1 := by rw [← EH1]; exact sameNew np0
    rw [kV_ent pW] at hp0
    refine ⟨p0, _, rfl, SqT.of hp0, okW.names, _, rfl, ?_⟩
    refine iteF ?_
    have hw1 := S1 _ _ hw
    refine ⟨dw, .dK kw, hw1, trivial, fun od => ?_⟩
    refine ⟨_, rfl, dw, od, rfl, .inl ⟨kw, upd_same, ?_⟩⟩
    refine for_it (walk_keys (o := od) (d := dw) (kvs := kw)) (fun i σ Hi => (∃ o, σ = [some (.ref dt), some (.ref dk), some (.ref dw), o]) ∧ Off dw H Hi ∧ Hi dw = some (.frz od (.dK kw))) ⟨⟨_, rfl⟩, fun b u n e => by rw [upd_ne n]; exact S1 _ _ e, upd_same⟩ (fun i σ Hi hi q => q.2.2) ?_ ?_
    · rintro i v σ Hi Hi2 hi ⟨⟨o, rfl⟩, off, eD⟩ ⟨rfl, kx, v2, hkx, rfl⟩
      obtain ⟨x1, hx1, e1, b, ev, h1⟩ := paired_at pW hkx
      have e1 : kx = .inr x1.1 := e1
      have ev : v2 = .ref b := ev
      subst e1 ev
      have hb := h1.off off hw
      have pTI := ent_off (fun _ _ h => ColT.off off hw h) pT
      have pLI := ent_off (fun _ _ h => KeyT.off off hw h) pL
      refine ⟨_, rfl, _, rfl, _, rfl, _, rfl, dw, .ref b, rfl, .inl ⟨kw, .inr x1.1, .inr ⟨od, eD⟩, rfl, (valV_at (nd_ent pW okW.nd) hkx).symm⟩, ?_⟩
      refine ⟨dt, dk, b, kt, kk, x1.2, rfl, off _ _ ntw ht, off _ _ nkw hk, hb, way_ok pTI pLI okT okL (okW.ways _ (List.mem_of_getElem? hx1)), fun H3 S3 => ?_⟩
      refine ⟨_, rfl, ?_⟩
      refine iteF ?_
      exact ⟨⟨_, rfl⟩, off.same S3, S3 _ _ eD⟩
    rintro σ Hi ⟨⟨o, rfl⟩, off, eD⟩
    refine ⟨eD, ?_⟩
    have SB := off.back hw
    have hwB : upd Hi dw (.dK kw) dw = some (.dK kw) := upd_same
    generalize upd Hi dw (.dK kw) = HB at SB hwB ⊢
    refine ⟨dw, .dK kw, hwB, trivial, fun od2 => ?_⟩
    refine ⟨_, rfl, dw, od2, rfl, .inl ⟨kw, upd_same, fun D hD => ?_⟩⟩
    have offB : Off dw H (upd HB dw (.frz od2 (.dK kw))) := fun b u n e => by rw [upd_ne n]; exact SB _ _ e
    have eB : upd HB dw (.frz od2 (.dK kw)) dw = some (.frz od2 (.dK kw)) := upd_same
    generalize upd HB dw (.frz od2 (.dK kw)) = HC at hD offB eB ⊢
    refine lc_it (walk_keys (o := od2) (d := dw) (kvs := kw)) (fun i Hj => Same HC Hj ∧ ∃ ts : List Addr, Hj D = some (.lst (ts.map V.ref)) ∧ Paired (StepT Hj) ts ((steps W0).take i)) ⟨sameNew hD, [], upd_same, .nil⟩ ?_ ?_ ?_
    · rintro i Hj hi ⟨S, _⟩
      exact S _ _ eB
    · rintro i y Hj Hj2 hi ⟨S, ts, eD2, hts⟩ ⟨rfl, kx, v2, hkx, rfl⟩
      obtain ⟨x1, hx1, e1, b, ev, h1⟩ := paired_at pW hkx
      have e1 : kx = .inr x1.1 := e1
      have ev : v2 = .ref b := ev
      subst e1 ev
      obtain ⟨c, kd, hb, _, _⟩ := h1.off offB hw
      have hbj := S _ _ hb
      have eV := (valV_at (nd_ent pW okW.nd) hkx).symm
      have hst : (steps W0)[i]? = some (x1.2.tab, x1.2.par) := by
        unfold steps
        rw [List.getElem?_map, hx1]
        rfl
      refine ⟨rfl, ?_⟩
      dsimp only [tYes]
      rw [if_pos rfl]
      refine ⟨_, rfl, _, rfl, dw, .ref b, rfl, .inl ⟨kw, .inr x1.1, .inr ⟨od2, S _ _ eB⟩, rfl, eV⟩, ?_⟩
      refine ⟨b, _, 0, .str x1.2.tab, rfl, rfl, SqT.of hbj, rfl, ?_⟩
      refine ⟨_, rfl, _, rfl, dw, .ref b, rfl, .inl ⟨kw, .inr x1.1, .inr ⟨od2, S _ _ eB⟩, rfl, eV⟩, ?_⟩
      refine ⟨b, _, 2, .str x1.2.par, rfl, rfl, SqT.of hbj, rfl, ?_⟩
      refine ⟨by show 2 ≤ sizeLine; decide, fun p np => ?_⟩
      have nDp : D ≠ p := ne_of_none eD2 np
      refine ⟨_, by rw [upd_ne nDp]; exact eD2, by rw [List.length_map, hts.length, List.length_take, sizeLine_eq, show (steps W0).length = W0.length from List.length_map _]; omega, ?_, ts ++ [p], by rw [List.map_append]; exact upd_same, ?_⟩
      · exact same_upd (S.trans (sameNew np)) hD
      · rw [take_at hst]
        refine Paired.mapP (paired_snoc (Paired.mapP hts fun _ _ e => sameNew np _ _ e) (show StepT _ p (x1.2.tab, x1.2.par) from upd_same)) fun b s e => ?_
        have e : upd Hj2 p _ b = some (.tup [.str s.1, .str s.2]) := e
        show upd (upd Hj2 p _) D _ b = _
        rw [upd_ne (fun z => by rw [z, upd_ne nDp, eD2] at e; cases e)]
        exact e
    rintro H2 ⟨S2, ts, eD2, hts⟩
    have lW : (steps W0).length = kw.length := by rw [lk]; exact List.length_map _
    rw [← lW, List.take_length] at hts
    obtain ⟨rank, rises⟩ := okW.rank
    have nDd : D ≠ dw := fun z => by rw [z, eB] at hD; cases hD
    have offC : Off dw H H2 := offB.same S2
    refine ⟨S2 _ _ eB, ?_⟩
    refine ⟨D, ts, steps W0, rank, rfl, by rw [upd_ne nDd]; exact eD2, Paired.mapP hts fun b s e => ?_, rises, by rw [lW, lk]; omega, fun H3 S3 => ?_⟩
    · have e : H2 b = some (.tup [.str s.1, .str s.2]) := e
      show upd H2 dw _ b = _
      rw [upd_ne (fun z => by rw [z, S2 _ _ eB] at e; cases e)]
      exact e
    · exact ⟨_, rfl, k _ ((offC.back hw).trans S3)⟩
end
end K04

set_option Elab.async false
set_option linter.all false
set_option maxRecDepth 100000
set_option maxHeartbeats 4000000
open L2 in
local macro_rules | `(tactic| walk_at "q1") => `(tactic| first
  | refine ⟨_, rfl, ?_⟩
  | refine ⟨_, _, rfl, rfl, ?_⟩
  | refine And.intro (show CMul _ _ from Or.inr ⟨by decide, by decide⟩) ?_
  | refine And.intro (show CMul _ _ from Or.inl ⟨by first | decide | omega, by first | decide | omega⟩) ?_
  | refine And.intro (show CMul _ _ from Or.inr ⟨by omega, by omega⟩) ?_
  | refine And.intro (show CDiv _ _ from ⟨by omega, by omega⟩) ?_
  | refine And.intro (show Dt.CPowG _ _ from ⟨by decide, by decide +kernel⟩) ?_
  | refine And.intro (by first | decide | omega) ?_
  | refine And.intro (Int.pow_pos (Int.pow_pos (by decide))) ?_
  | refine ⟨_, _, _, _, rfl, rfl, SqL.of (by first | assumption | exact upd_same), (by rfl), ?_⟩
  | refine ⟨_, _, _, _, rfl, rfl, (by first | assumption | exact upd_same), (by rfl), ?_⟩
  | refine Or.inl ⟨_, rfl, ?_⟩
  | refine Or.inr ⟨_, rfl, ?_⟩)
local macro_rules | `(tactic| walk_at "q") => `(tactic| repeat (walk_at "q1"))
local macro_rules | `(tactic| walk_at "eqt") => `(tactic| (refine ⟨_, rfl, ?_⟩; refine ⟨rfl, ?_⟩; first
  | (refine ⟨true, rfl, ?_⟩; refine L2.iteT ?_)
  | (refine ⟨false, rfl, ?_⟩; refine L2.iteF ?_)))
local macro_rules | `(tactic| walk_at "sz") => `(tactic| (rw [PySem.sizeLine_eq]; simp))
namespace K04
open PySem PySem.Spec PyProof.Rows L2 Dt An Rp Sp4
section
variable {P : Program} {w : World} {K : PySem.W.Frag} {mg : Str → Option Value} {base : Heap} {a : Ads}
theorem un66 {k : Nat} {A : Around} (r : Room k A) : A.units + 66 < cLine := by
  have := r.un
  omega
theorem un67 {k : Nat} {A : Around} (r : Room k A) : A.units + 67 < cLine := by
  have := r.un
  omega
structure Sch where
  T : List (Str × List Str)
  L : List (Str × List (List Str))
  W : List (Str × Way)
structure SchOk (S : Sch) : Prop where
  tabs : TabsOk S.T
  keys : KeysD S.T S.L
  ways : WaysD S.T S.L S.W
/-- three dicts hold a schema -/
structure Three (H : Hp) (dt dk dw : Addr) (S : Sch) : Prop where
  tabs : ∃ kt, H dt = some (.dK kt) ∧ Paired (EntOf (ColT H)) kt S.T
  keys : ∃ kk, H dk = some (.dK kk) ∧ Paired (EntOf (KeyT H)) kk S.L
  ways : ∃ kw, H dw = some (.dK kw) ∧ Paired (EntOf (WayT H)) kw S.W
theorem ColT.same {H H1 : Hp} (S : Same H H1) {b : Addr} {x : List Str} (h : ColT H b x) : ColT H1 b x := S _ _ h
theorem KeyT.same {H H1 : Hp} (S : Same H H1) {b : Addr} {x : List (List Str)} (h : KeyT H b x) : KeyT H1 b x := by
  obtain ⟨bs, h1, h2⟩ := h
  exact ⟨bs, S _ _ h1, Paired.mapP h2 fun _ _ e => S _ _ e⟩
theorem WayT.same {H H1 : Hp} (S : Same H H1) {b : Addr} {x : Way} (h : WayT H b x) : WayT H1 b x := by
  obtain ⟨c, k, h1, h2, h3⟩ := h
  exact ⟨c, k, S _ _ h1, S _ _ h2, S _ _ h3⟩
theorem Three.same {H H1 : Hp} (Sm : Same H H1) {dt dk dw : Addr} {S : Sch} (h : Three H dt dk dw S) : Three H1 dt dk dw S :=
  ⟨let ⟨k, a, b⟩ := h.tabs; ⟨k, Sm _ _ a, ent_off (fun _ _ e => e.same Sm) b⟩, let ⟨k, a, b⟩ := h.keys; ⟨k, Sm _ _ a, ent_off (fun _ _ e => KeyT.same Sm e) b⟩, let ⟨k, a, b⟩ := h.ways; ⟨k, Sm _ _ a, ent_off (fun _ _ e => WayT.same Sm e) b⟩⟩
def flds (et ek ew p1 p2 : Addr) : List (Str × V) := [("_tables", .ref et), ("_keys", .ref ek), ("_references", .ref ew), ("_places_by_table", .ref p1), ("_steps_by_table", .ref p2)]
/-- a schema stands at x -/
structure SchO (C : Addr) (H : Hp) (x : Addr) (S : Sch) (et ek ew : Addr) : Prop where
  at_ : ∃ dx p1 p2, H x = some (.ins C dx (flds et ek ew p1 p2))
  data : Three H et ek ew S
  ok : SchOk S
structure SortOf (S S1 : Sch) : Prop where
  t : S1.T.Perm S.T
  k : S1.L.Perm S.L
  w : S1.W.Perm S.W
  st : sortedS (S1.T.map (·.1)) = true
  sk : sortedS (S1.L.map (·.1)) = true
  sw : sortedS (S1.W.map (·.1)) = true
theorem SchOk.perm {S S1 : Sch} (h : SchOk S) (o : SortOf S S1) : SchOk S1 where
  tabs := ⟨by rw [o.t.length_eq]; exact h.tabs.n1, by rw [o.t.length_eq]; exact h.tabs.n5, fun c m => h.tabs.names c ((o.t.map (·.1)).mem_iff.mp m), (o.t.map (·.1)).nodup_iff.mpr h.tabs.nd, fun p m => h.tabs.cols p (o.t.mem_iff.mp m)⟩
  keys := ⟨(o.k.map (·.1)).nodup_iff.mpr h.keys.nd, fun p m => by
    obtain ⟨cs, a, b⟩ := h.keys.keys p (o.k.mem_iff.mp m)
    exact ⟨cs, o.t.mem_iff.mpr a, b⟩⟩
  ways := ⟨by rw [o.w.length_eq]; exact h.ways.n4, fun c m => h.ways.names c ((o.w.map (·.1)).mem_iff.mp m), (o.w.map (·.1)).nodup_iff.mpr h.ways.nd, fun p m => by
    have r := h.ways.ways p (o.w.mem_iff.mp m)
    obtain ⟨cs, a1, a2⟩ := r.tab
    obtain ⟨ks, b1, b2⟩ := r.key
    exact ⟨⟨cs, o.t.mem_iff.mpr a1, a2⟩, (o.t.map (·.1)).mem_iff.mpr r.par, r.ne, ⟨ks, o.k.mem_iff.mpr b1, b2⟩, r.len, r.nd⟩, by
    obtain ⟨rank, rr⟩ := h.ways.rank
    exact ⟨rank, fun s m => rr s ((o.w.map _).mem_iff.mp m)⟩⟩
def spInitS (K : PySem.W.Frag) (C : Addr) : Sp := fun vs H Q _ => ∃ x dx dt dk dw S, vs = [.ref x, .ref dt, .ref dk, .ref dw] ∧ H x = some (.ins C dx []) ∧ Three H dt dk dw S ∧ dk ≠ dw ∧ SchOk S ∧
  ∀ H1 S1 et ek ew, (∀ b o, b ≠ x → H b = some o → H1 b = some o) → SchO C H1 x S1 et ek ew → SortOf S S1 → H et = none → H ek = none → H ew = none → Q .non H1
theorem wipe_get {σ : L2.St} {i j : Nat} (n : i ≠ j) {v : V} (h : σ[i]? = some (some v)) (x : V) : (List.set (wipe σ [j]) j (some x))[i]? = some (some v) := by
  rw [List.getElem?_set_ne (Ne.symm n)]
  show (List.set σ j none)[i]? = _
  rw [List.getElem?_set_ne (Ne.symm n), h]
theorem wipe_own {σ : L2.St} {j : Nat} (h : j < σ.length) (x : V) : (List.set (wipe σ [j]) j (some x))[j]? = some (some x) := by
  show (List.set (List.set σ j none) j (some x))[j]? = _
  rw [List.set_set, List.getElem?_set_self h]
theorem copy_it {K : PySem.W.Frag} {α : Type} {R : Hp → Addr → α → Prop} (mono : ∀ {H H1 : Hp} {b : Addr} {x : α}, Same H H1 → R H b x → R H1 b x) (moff : ∀ {H H1 : Hp} {D : Addr} {b : Addr} {x : α} {ks : List (Key × V)}, Off D H H1 → H D = some (.dK ks) → R H b x → R H1 b x) {i j : Nat} (nij : i ≠ j) {σ : L2.St} {H : Hp} {d : Addr} {ks : List (Key × V)} {X : List (Str × α)} (hσ : σ[i]? = some (some (.ref d))) (hj : j < σ.length) (hd : H d = some (.dK ks))
    (p : Paired (EntOf (R H)) ks X) (nd : (X.map (·.1)).Nodup) (few : X.length < 64) {Q : VK} (k : ∀ D H1 ks1 X1, Same H H1 → H D = none → H1 D = some (.dK ks1) → Paired (EntOf (R H1)) ks1 X1 → X1.Perm X → sortedS (X1.map (·.1)) = true → Q (.ref D) H1) :
    Dh.tDcA false (iList K (tCB (fun xs H Q => ∃ a kvs ks, xs = [V.ref a] ∧ Rd H a (.dK kvs) ∧ kvs.map (·.1) = ks.map Sum.inr ∧ ks.length < 64 ∧ ∀ (ys : List Str) (p : Addr), ys.Perm ks → sortedS ys = true → H p = none → Q (.ref p) (upd H p (.lst (ys.map V.str)))) (tCons (tVar i) tNil)))
      (gName j) tYes (tVar j) (tDGet (tVar i) (tVar j)) [j] σ H Q := by
  refine ⟨_, hσ, d, ks, X.map (·.1), rfl, .inl hd, keys_ent p, by rw [List.length_map]; exact few, fun ys q pm srt hq => ?_⟩
  obtain ⟨X1, pX, eX⟩ := Dh.perm_back pm.symm X rfl
  subst eX
  have S0 : Same H (upd H q (.lst ((X1.map (·.1)).map V.str))) := sameNew hq
  have hq1 : upd H q (.lst ((X1.map (·.1)).map V.str)) q = some (.lst ((X1.map (·.1)).map V.str)) := upd_same
  generalize upd H q (.lst ((X1.map (·.1)).map V.str)) = H0 at S0 hq1 ⊢
  refine ⟨q, rfl, ⟨_, SqL.of hq1⟩, fun D hD => ?_⟩
  have nd1 : (X1.map (·.1)).Nodup := (pX.map (·.1)).nodup_iff.mpr nd
  refine Dh.dcA_it (walk_list (K := K) (a := q) (xs := (X1.map (·.1)).map V.str)) (fun n Hi => Same H0 Hi ∧ ∃ ks1, Hi D = some (.dK ks1) ∧ Paired (EntOf (R Hi)) ks1 (X1.take n)) ⟨sameNew hD, [], upd_same, .nil⟩ ?_ ?_ ?_
  · rintro n Hi hn ⟨S, _⟩
    exact SqL.of (S _ _ hq1)
  · rintro n y Hi Hi2 hn ⟨S, ks1, eD, hp⟩ ⟨rfl, hy⟩
    rw [List.getElem?_map, List.getElem?_map] at hy
    obtain ⟨z, hz, rfl⟩ := Option.map_eq_some_iff.mp hy
    obtain ⟨e, he, rfl⟩ := Option.map_eq_some_iff.mp hz
    obtain ⟨b, b1, b2⟩ := val_ent (x := e.1) (y := e.2) p nd (pX.mem_iff.mp (List.mem_of_getElem? he))
    refine ⟨?_, ?_⟩
    · show List.set (List.set (List.set σ j none) j _) j none = List.set σ j none
      rw [List.set_set, List.set_set]
    dsimp only [tYes]
    rw [if_pos rfl]
    refine ⟨_, wipe_own hj _, ?_⟩
    refine ⟨_, wipe_get nij hσ _, _, wipe_own hj _, d, .ref b, rfl, .inl ⟨ks, .inr e.1, .inl (S _ _ (S0 _ _ hd)), rfl, b1.symm⟩, ?_⟩
    have no : valV ks1 (.inr e.1) = none := val_no hp fun m => by
      obtain ⟨z, hm, ez⟩ := List.mem_map.mp m
      obtain ⟨t, ht⟩ := List.mem_iff_getElem?.mp hm
      rw [List.getElem?_take] at ht
      by_cases c : t < n
      · rw [if_pos c] at ht
        have g1 : (X1.map (·.1))[t]? = some e.1 := by rw [List.getElem?_map, ht, ← ez]; rfl
        have g2 : (X1.map (·.1))[n]? = some e.1 := by rw [List.getElem?_map, he]; rfl
        have := (List.getElem?_inj (List.getElem?_eq_some_iff.mp g1).1 nd1).mp (g1.trans g2.symm)
        omega
      · rw [if_neg c] at ht
        cases ht
    have len1 : ks1.length ≤ 64 := by
      rw [hp.length, List.length_take, pX.length_eq]
      omega
    refine ⟨upd Hi2 D (.dK (putK ks1 (.inr e.1) (.ref b))), .inl ⟨ks1, .inr e.1, eD, rfl, by rw [sizeLine_eq]; omega, rfl⟩, same_upd S hD, _, upd_same, ?_⟩
    rw [putK_new _ no, take_at he]
    have off : Off D Hi2 (upd Hi2 D (.dK (ks1 ++ [(Sum.inr e.1, V.ref b)]))) := Off.lock
    exact paired_snoc (ent_off (fun _ _ h => moff off eD h) hp) ⟨rfl, b, rfl, moff off eD (mono S (mono S0 b2))⟩
  · rintro Hi ⟨S, ks1, eD, hp⟩
    rw [List.length_map, List.length_map, List.take_length] at hp
    exact k D Hi ks1 X1 (S0.trans S) (by
      cases e : H D with
      | none => rfl
      | some o => rw [S0 _ _ e] at hD; cases hD) eD hp pX srt
theorem nn {H H1 : Hp} (S : Same H H1) {b : Addr} (h : H1 b = none) : H b = none := by
  cases e : H b with
  | none => rfl
  | some o => rw [S _ _ e] at h; cases h
theorem nnx {x C dx : Addr} {fs : List (Str × V)} {H H1 : Hp} (a : Off x H H1) (hx : H x = some (.ins C dx fs)) {b : Addr} (h : H1 b = none) (hx1 : H1 x ≠ none) : H b = none := by
  cases e : H b with
  | none => rfl
  | some o =>
    have n : b ≠ x := fun z => hx1 (z ▸ h)
    rw [a _ _ n e] at h
    cases h
theorem len_sub {α : Type} [DecidableEq α] : ∀ {A B : List α}, A.Nodup → (∀ x ∈ A, x ∈ B) → A.length ≤ B.length
  | [], _, _, _ => Nat.zero_le _
  | x :: A, B, nd, h => by
    rw [List.nodup_cons] at nd
    have hx := h x List.mem_cons_self
    have ih := len_sub (B := B.erase x) nd.2 fun y m => (List.mem_erase_of_ne (by rintro rfl; exact nd.1 m)).mpr (h y (List.mem_cons_of_mem _ m))
    have := List.length_erase_of_mem hx
    have := List.length_pos_of_mem hx
    rw [List.length_cons]
    omega
theorem len_keys {S : Sch} (ok : SchOk S) : S.L.length ≤ 5 := by
  have h := len_sub ok.keys.nd (B := S.T.map (·.1)) fun x m => by
    obtain ⟨p, hp, rfl⟩ := List.mem_map.mp m
    obtain ⟨cs, h1, _⟩ := ok.keys.keys p hp
    exact List.mem_map.mpr ⟨_, h1, rfl⟩
  rw [List.length_map, List.length_map] at h
  exact Nat.le_trans h ok.tabs.n5
theorem flds_put (et ek ew p1 p2 : Addr) : putF "_steps_by_table" (V.ref p2) (putF "_places_by_table" (V.ref p1) (putF "_references" (V.ref ew) (putF "_keys" (V.ref ek) (putF "_tables" (V.ref et) [])))) = flds et ek ew p1 p2 := by rfl
theorem tup_x {x C dx c : Addr} {fs : List (Str × V)} {ys : List V} {H H1 : Hp} (a : Off x H H1) (hx : H x = some (.ins C dx fs)) (e : H c = some (.tup ys)) : H1 c = some (.tup ys) := a _ _ (fun z => by rw [z, hx] at e; cases e) e
theorem dic_x {x C dx c : Addr} {fs : List (Str × V)} {ks : List (Key × V)} {H H1 : Hp} (a : Off x H H1) (hx : H x = some (.ins C dx fs)) (e : H c = some (.dK ks)) : H1 c = some (.dK ks) := a _ _ (fun z => by rw [z, hx] at e; cases e) e
theorem ColT.x {x C dx : Addr} {fs : List (Str × V)} {H H1 : Hp} {b : Addr} {y : List Str} (a : Off x H H1) (hx : H x = some (.ins C dx fs)) (h : ColT H b y) : ColT H1 b y := tup_x a hx h
theorem KeyT.x {x C dx : Addr} {fs : List (Str × V)} {H H1 : Hp} {b : Addr} {y : List (List Str)} (a : Off x H H1) (hx : H x = some (.ins C dx fs)) (h : KeyT H b y) : KeyT H1 b y := by
  obtain ⟨bs, h1, h2⟩ := h
  exact ⟨bs, tup_x a hx h1, Paired.mapP h2 fun _ _ e => tup_x a hx e⟩
theorem WayT.x {x C dx : Addr} {fs : List (Str × V)} {H H1 : Hp} {b : Addr} {y : Way} (a : Off x H H1) (hx : H x = some (.ins C dx fs)) (h : WayT H b y) : WayT H1 b y := by
  obtain ⟨c, k, h1, h2, h3⟩ := h
  exact ⟨c, k, tup_x a hx h1, tup_x a hx h2, tup_x a hx h3⟩
def spInitX (f : Str) (C : Addr) : Sp := fun vs H Q _ => ∃ (e : Addr) (v : V), vs = [.ref e, v] ∧ H e = some (exo e C none) ∧ ∀ d, H d = none → d ≠ e → Q .non (upd (upd H d (exd d [(f, v)])) e (exo e C (some d)))
theorem ok_UnknownName___init__ (T : Txt K mg a) : FnOk P w K mg base CX0 1 a.UnknownName___init__ a.fd_UnknownName___init__ ps_UnknownName___init__ (spInitX "name" a.c_UnknownName) := by
  have F := T.F_UnknownName___init__
  refine F.ok (k := 0) sc_UnknownName___init__ (fun vs H Q E h => ?_) (fun cdv A outer s H vs Q E hr h => ?_)
  · obtain ⟨e, v, rfl, hE, k⟩ := h
    rfl
  · obtain ⟨e, v, rfl, hE, k⟩ := h
    have hu := hu_of hr
    refine ⟨_, (pss_one (Exs.ps_put1 (pv 0) (pv 1))), ?_⟩
    exact ⟨_, rfl, _, rfl, e, _, rfl, T.k1_UnknownName, T.nf_UnknownName, hE, fun d hd ne => k d hd ne⟩
end
end K04

set_option Elab.async false
set_option linter.all false
set_option maxRecDepth 100000
set_option maxHeartbeats 4000000
open L2 in
local macro_rules | `(tactic| walk_at "q1") => `(tactic| first
  | refine ⟨_, rfl, ?_⟩
  | refine ⟨_, _, rfl, rfl, ?_⟩
  | refine And.intro (show CMul _ _ from Or.inr ⟨by decide, by decide⟩) ?_
  | refine And.intro (show CMul _ _ from Or.inl ⟨by first | decide | omega, by first | decide | omega⟩) ?_
  | refine And.intro (show CMul _ _ from Or.inr ⟨by omega, by omega⟩) ?_
  | refine And.intro (show CDiv _ _ from ⟨by omega, by omega⟩) ?_
  | refine And.intro (show Dt.CPowG _ _ from ⟨by decide, by decide +kernel⟩) ?_
  | refine And.intro (by first | decide | omega) ?_
  | refine And.intro (Int.pow_pos (Int.pow_pos (by decide))) ?_
  | refine ⟨_, _, _, _, rfl, rfl, SqL.of (by first | assumption | exact upd_same), (by rfl), ?_⟩
  | refine ⟨_, _, _, _, rfl, rfl, (by first | assumption | exact upd_same), (by rfl), ?_⟩
  | refine Or.inl ⟨_, rfl, ?_⟩
  | refine Or.inr ⟨_, rfl, ?_⟩)
local macro_rules | `(tactic| walk_at "q") => `(tactic| repeat (walk_at "q1"))
local macro_rules | `(tactic| walk_at "eqt") => `(tactic| (refine ⟨_, rfl, ?_⟩; refine ⟨rfl, ?_⟩; first
  | (refine ⟨true, rfl, ?_⟩; refine L2.iteT ?_)
  | (refine ⟨false, rfl, ?_⟩; refine L2.iteF ?_)))
local macro_rules | `(tactic| walk_at "sz") => `(tactic| (rw [PySem.sizeLine_eq]; simp))
namespace K04
open PySem PySem.Spec PyProof.Rows L2 Dt An Rp Sp4
section
variable {P : Program} {w : World} {K : PySem.W.Frag} {mg : Str → Option Value} {base : Heap} {a : Ads}
theorem ok_Schema___init__ (T : Txt K mg a) : FnOk P w K mg base (L2.CX P w) 5 a.Schema___init__ a.fd_Schema___init__ ps_Schema___init__ (spInitS K a.c_Schema) := by
  have F := T.F_Schema___init__
  refine F.ok (k := 4) sc_Schema___init__ (fun vs H Q E h => ?_) (fun cdv A outer s H vs Q E hr h => ?_)
  · obtain ⟨x, dx, dt, dk, dw, S, rfl, hx, hS, nkw, ok, k⟩ := h
    rfl
  · obtain ⟨x, dx, dt, dk, dw, S, rfl, hx, hS, nkw, ok, k⟩ := h
    have hu := hu_of hr
    refine ⟨_, (pss_cons (ps_set (i := 4) sc_Schema___init__.nd rfl (Or.inr rfl) (pe_ifExp (pt_cmpR op_isN (pv 2) pe_non (nomark _)) pe_dnewK (pv 2)))
      (pss_cons (ps_set (i := 5) sc_Schema___init__.nd rfl (Or.inr rfl) (pe_ifExp (pt_cmpR op_isN (pv 3) pe_non (nomark _)) pe_dnewK (pv 3)))
      (pss_cons (ps_if (pt_not (pt_val (pe_call (ok__are_tables T) (hr.mono (by decide)) (by rfl) T.g__are_tables T.F__are_tables.kp (b__are_tables T) .nil pass0 (pa_cons (pv 1) pa_nil)))) (pss_one (ps_raise rfl (takes_of rfl rfl rfl rfl) (pmk_own PySem.F.excBase_ValueError T.q_InvalidSchema T.g_c_InvalidSchema T.kp_InvalidSchema (raises_own T.b_InvalidSchema T.ty_InvalidSchema) (by rfl)))) pss_nil)
      (pss_cons (ps_if (pt_not (pt_val (pe_call (ok__are_keys T) (hr.mono (by decide)) (by rfl) T.g__are_keys T.F__are_keys.kp (b__are_keys T) .nil pass0 (pa_cons (pv 1) (pa_cons (pv 4) pa_nil))))) (pss_one (ps_raise rfl (takes_of rfl rfl rfl rfl) (pmk_own PySem.F.excBase_ValueError T.q_InvalidSchema T.g_c_InvalidSchema T.kp_InvalidSchema (raises_own T.b_InvalidSchema T.ty_InvalidSchema) (by rfl)))) pss_nil)
      (pss_cons (ps_if (pt_not (pt_val (pe_call (ok__are_references T) (hr.mono (by decide)) (by rfl) T.g__are_references T.F__are_references.kp (b__are_references T) .nil pass0 (pa_cons (pv 1) (pa_cons (pv 4) (pa_cons (pv 5) pa_nil)))))) (pss_one (ps_raise rfl (takes_of rfl rfl rfl rfl) (pmk_own PySem.F.excBase_ValueError T.q_InvalidSchema T.g_c_InvalidSchema T.kp_InvalidSchema (raises_own T.b_InvalidSchema T.ty_InvalidSchema) (by rfl)))) pss_nil)
      (pss_cons (ps_fld (pv 0) (Dh.pe_dcA (t := false) (own := [("table", 6)]) hu rfl sc_Schema___init__.nd (pi_list (pe_callB (call_sortedD rfl) (by rfl) T.sorted (by decide +kernel) (pa_cons (pv 1) pa_nil))) (blkOk_by (N := nm_Schema___init__) (sc := defScope s_Schema___init__) (by decide +kernel)) ⟨(fun _ _ _ _ _ => (pg_name (i := 6) sc_Schema___init__.nd rfl (Or.inl rfl))), (fun _ _ _ _ _ => pts_nil), (fun _ _ _ _ _ => (pv 6)), (fun _ _ _ _ _ => (pe_dget hu (pv 1) (pv 6) (fun _ _ => rfl)))⟩) rfl)
      (pss_cons (ps_fld (pv 0) (Dh.pe_dcA (t := false) (own := [("table", 6)]) hu rfl sc_Schema___init__.nd (pi_list (pe_callB (call_sortedD rfl) (by rfl) T.sorted (by decide +kernel) (pa_cons (pv 4) pa_nil))) (blkOk_by (N := nm_Schema___init__) (sc := defScope s_Schema___init__) (by decide +kernel)) ⟨(fun _ _ _ _ _ => (pg_name (i := 6) sc_Schema___init__.nd rfl (Or.inl rfl))), (fun _ _ _ _ _ => pts_nil), (fun _ _ _ _ _ => (pv 6)), (fun _ _ _ _ _ => (pe_dget hu (pv 4) (pv 6) (fun _ _ => rfl)))⟩) rfl)
      (pss_cons (ps_fld (pv 0) (Dh.pe_dcA (t := false) (own := [("name", 7)]) hu rfl sc_Schema___init__.nd (pi_list (pe_callB (call_sortedD rfl) (by rfl) T.sorted (by decide +kernel) (pa_cons (pv 5) pa_nil))) (blkOk_by (N := nm_Schema___init__) (sc := defScope s_Schema___init__) (by decide +kernel)) ⟨(fun _ _ _ _ _ => (pg_name (i := 7) sc_Schema___init__.nd rfl (Or.inl rfl))), (fun _ _ _ _ _ => pts_nil), (fun _ _ _ _ _ => (pv 7)), (fun _ _ _ _ _ => (pe_dget hu (pv 5) (pv 7) (fun _ _ => rfl)))⟩) rfl)
      (pss_cons (ps_fld (pv 0) pe_dnewK rfl)
      (pss_one (ps_fld (pv 0) pe_dnewK rfl))))))))))), ?_⟩
    obtain ⟨⟨kt, ht, pT⟩, ⟨kk, hk, pL⟩, ⟨kw, hw, pW⟩⟩ := hS
    refine ⟨_, rfl, rfl, _, rfl, ?_⟩
    refine iteF ?_
    refine ⟨_, rfl, ?_⟩
    refine ⟨_, rfl, rfl, _, rfl, ?_⟩
    refine iteF ?_
    refine ⟨_, rfl, ?_⟩
    have ndx : ∀ {d : Addr} {ks : List (Key × V)}, H d = some (.dK ks) → d ≠ x := fun {d ks} e z => by rw [z, hx] at e; cases e
    refine ⟨_, rfl, dt, kt, S.T, rfl, ht, pT, ok.tabs, fun Ha Sa => ?_⟩
    refine ⟨_, rfl, ?_⟩
    refine iteF ?_
    have ht1 := Sa _ _ ht
    have pT1 := ent_off (fun _ _ e => ColT.same Sa e) pT
    have hk1 := Sa _ _ hk
    have pL1 := ent_off (fun _ _ e => KeyT.same Sa e) pL
    refine ⟨_, rfl, _, rfl, dt, dk, kt, kk, S.T, S.L, rfl, ht1, hk1, pT1, pL1, ok.tabs, ok.keys, fun Hb Sb => ?_⟩
    refine ⟨_, rfl, ?_⟩
    refine iteF ?_
    have Sab := Sa.trans Sb
    refine ⟨_, rfl, _, rfl, _, rfl, dt, dk, dw, kt, kk, kw, S.T, S.L, S.W, rfl, Sab _ _ ht, Sab _ _ hk, Sab _ _ hw, nkw, ent_off (fun _ _ e => ColT.same Sab e) pT, ent_off (fun _ _ e => KeyT.same Sab e) pL, ent_off (fun _ _ e => WayT.same Sab e) pW, ok.tabs, ok.keys, ok.ways, fun Hc Sc => ?_⟩
    refine ⟨_, rfl, ?_⟩
    refine iteF ?_
    have S1 := Sab.trans Sc
    have n5 := ok.tabs.n5
    have n4 := ok.ways.n4
    unfold tNext
    dsimp only
    unfold tSeq sFld
    dsimp only
    refine copy_it (K := K) (R := ColT) (fun s e => ColT.same s e) (fun o h e => ColT.off o h e) (i := 1) (j := 6) (by decide) (σ := [some (.ref x), some (.ref dt), some (.ref dk), some (.ref dw), some (.ref dk), some (.ref dw), none, none]) rfl (by show 6 < 8; omega) (S1 _ _ ht) (ent_off (fun _ _ e => ColT.same S1 e) pT) ok.tabs.nd (by omega) fun et H2 kt2 T2 S2 net het pT2 permT srtT => ?_
    have S02 := S1.trans S2
    have hx2 := S02 _ _ hx
    refine ⟨_, rfl, x, _, dx, [], rfl, hx2, T.cl_Schema, T.n_tables, (by show 0 < 1000; decide), ?_⟩
    have O23 : Off x H2 (upd H2 x (.ins a.c_Schema dx (putF "_tables" (V.ref et) []))) := Off.lock
    have hx3 : upd H2 x (.ins a.c_Schema dx (putF "_tables" (V.ref et) [])) x = some (.ins a.c_Schema dx (putF "_tables" (V.ref et) [])) := upd_same
    generalize upd H2 x (.ins a.c_Schema dx (putF "_tables" (V.ref et) [])) = H3 at O23 hx3 ⊢
    have O3 : Off x H H3 := fun b o n e => O23 b o n (S02 _ _ e)
    refine copy_it (K := K) (R := KeyT) (fun s e => KeyT.same s e) (fun o h e => KeyT.off o h e) (i := 4) (j := 6) (by decide) (σ := [some (.ref x), some (.ref dt), some (.ref dk), some (.ref dw), some (.ref dk), some (.ref dw), none, none]) rfl (by show 6 < 8; omega) (dic_x O3 hx hk) (ent_off (fun _ _ e => KeyT.x O3 hx e) pL) ok.keys.nd (by have := len_keys ok; omega) fun ek H4 kk4 L4 S4 nek hek pL4 permL srtL => ?_
    refine ⟨_, rfl, x, _, dx, _, rfl, S4 _ _ hx3, T.cl_Schema, T.n_keys, (by show 1 < 1000; decide), ?_⟩
    have O45 : Off x H4 (upd H4 x (.ins a.c_Schema dx (putF "_keys" (V.ref ek) (putF "_tables" (V.ref et) [])))) := Off.lock
    have hx5 : upd H4 x (.ins a.c_Schema dx (putF "_keys" (V.ref ek) (putF "_tables" (V.ref et) []))) x = some (.ins a.c_Schema dx (putF "_keys" (V.ref ek) (putF "_tables" (V.ref et) []))) := upd_same
    generalize upd H4 x (.ins a.c_Schema dx (putF "_keys" (V.ref ek) (putF "_tables" (V.ref et) []))) = H5 at O45 hx5 ⊢
    have O35 : Off x H3 H5 := fun b o n e => O45 b o n (S4 _ _ e)
    have O5 : Off x H H5 := fun b o n e => O35 b o n (O3 b o n e)
    refine copy_it (K := K) (R := WayT) (fun s e => WayT.same s e) (fun o h e => WayT.off o h e) (i := 5) (j := 7) (by decide) (σ := [some (.ref x), some (.ref dt), some (.ref dk), some (.ref dw), some (.ref dk), some (.ref dw), none, none]) rfl (by show 7 < 8; omega) (dic_x O5 hx hw) (ent_off (fun _ _ e => WayT.x O5 hx e) pW) ok.ways.nd (by omega) fun ew H6 kw6 W6 S6 new_ hew pW6 permW srtW => ?_
    refine ⟨_, rfl, x, _, dx, _, rfl, S6 _ _ hx5, T.cl_Schema, T.n_references, (by show 2 < 1000; decide), ?_⟩
    have O67 : Off x H6 (upd H6 x (.ins a.c_Schema dx (putF "_references" (V.ref ew) (putF "_keys" (V.ref ek) (putF "_tables" (V.ref et) []))))) := Off.lock
    have hx7 : upd H6 x (.ins a.c_Schema dx (putF "_references" (V.ref ew) (putF "_keys" (V.ref ek) (putF "_tables" (V.ref et) [])))) x = some (.ins a.c_Schema dx (putF "_references" (V.ref ew) (putF "_keys" (V.ref ek) (putF "_tables" (V.ref et) [])))) := upd_same
    generalize upd H6 x (.ins a.c_Schema dx (putF "_references" (V.ref ew) (putF "_keys" (V.ref ek) (putF "_tables" (V.ref et) [])))) = H7 at O67 hx7 ⊢
    intro p1 np1
    generalize EH8 : upd H7 p1 _ = H8
    have hp1 := (congrFun EH8 p1).symm.trans upd_same
    have S8 : Same H7 H8 := by rw [← EH8]; exact sameNew np1
    refine ⟨_, rfl, x, _, dx, _, rfl, S8 _ _ hx7, T.cl_Schema, T.n_places_by_table, (by show 3 < 1000; decide), ?_⟩
    have O89 : Off x H8 (upd H8 x (.ins a.c_Schema dx (putF "_places_by_table" (V.ref p1) (putF "_references" (V.ref ew) (putF "_keys" (V.ref ek) (putF "_tables" (V.ref et) [])))))) := Off.lock
    have hx9 : upd H8 x (.ins a.c_Schema dx (putF "_places_by_table" (V.ref p1) (putF "_references" (V.ref ew) (putF "_keys" (V.ref ek) (putF "_tables" (V.ref et) []))))) x = some (.ins a.c_Schema dx (putF "_places_by_table" (V.ref p1) (putF "_references" (V.ref ew) (putF "_keys" (V.ref ek) (putF "_tables" (V.ref et) []))))) := upd_same
    generalize upd H8 x (.ins a.c_Schema dx (putF "_places_by_table" (V.ref p1) (putF "_references" (V.ref ew) (putF "_keys" (V.ref ek) (putF "_tables" (V.ref et) []))))) = H9 at O89 hx9 ⊢
    intro p2 np2
    generalize EH10 : upd H9 p2 _ = H10
    have hp2 := (congrFun EH10 p2).symm.trans upd_same
    have S10 : Same H9 H10 := by rw [← EH10]; exact sameNew np2
    refine ⟨_, rfl, x, _, dx, _, rfl, S10 _ _ hx9, T.cl_Schema, T.n_steps_by_table, (by show 4 < 1000; decide), ?_⟩
    have O101 : Off x H10 (upd H10 x (.ins a.c_Schema dx (putF "_steps_by_table" (V.ref p2) (putF "_places_by_table" (V.ref p1) (putF "_references" (V.ref ew) (putF "_keys" (V.ref ek) (putF "_tables" (V.ref et) []))))))) := Off.lock
    have hx11 : upd H10 x (.ins a.c_Schema dx (putF "_steps_by_table" (V.ref p2) (putF "_places_by_table" (V.ref p1) (putF "_references" (V.ref ew) (putF "_keys" (V.ref ek) (putF "_tables" (V.ref et) [])))))) x = some (.ins a.c_Schema dx (putF "_steps_by_table" (V.ref p2) (putF "_places_by_table" (V.ref p1) (putF "_references" (V.ref ew) (putF "_keys" (V.ref ek) (putF "_tables" (V.ref et) [])))))) := upd_same
    rw [flds_put] at O101 hx11 ⊢
    generalize upd H10 x (.ins a.c_Schema dx (flds et ek ew p1 p2)) = H11 at O101 hx11 ⊢
    have O711 : Off x H7 H11 := fun b o n e => O101 b o n (S10 _ _ (O89 b o n (S8 _ _ e)))
    have O611 : Off x H6 H11 := fun b o n e => O711 b o n (O67 b o n e)
    have hx6 := S6 _ _ hx5
    have O511 : Off x H5 H11 := fun b o n e => O611 b o n (S6 _ _ e)
    have hx4 := S4 _ _ hx3
    have O411 : Off x H4 H11 := fun b o n e => O511 b o n (O45 b o n e)
    have O211 : Off x H2 H11 := fun b o n e => O411 b o n (S4 _ _ (O23 b o n e))
    refine k H11 ⟨T2, L4, W6⟩ et ek ew (fun b o n e => O211 b o n (S02 _ _ e)) ⟨⟨dx, p1, p2, hx11⟩, ⟨⟨kt2, dic_x O211 hx2 het, ent_off (fun _ _ e => ColT.x O211 hx2 e) pT2⟩, ⟨kk4, dic_x O411 hx4 hek, ent_off (fun _ _ e => KeyT.x O411 hx4 e) pL4⟩, ⟨kw6, dic_x O611 hx6 hew, ent_off (fun _ _ e => WayT.x O611 hx6 e) pW6⟩⟩, ok.perm ⟨permT, permL, permW, srtT, srtL, srtW⟩⟩ ⟨permT, permL, permW, srtT, srtL, srtW⟩ (nn S1 net) ?_ ?_
    · exact nnx O3 hx nek (by rw [hx3]; exact fun z => by cases z)
    · exact nnx O5 hx new_ (by rw [hx5]; exact fun z => by cases z)
end
end K04

set_option Elab.async false
set_option linter.all false
set_option maxRecDepth 100000
set_option maxHeartbeats 4000000
open L2 in
local macro_rules | `(tactic| walk_at "q1") => `(tactic| first
  | refine ⟨_, rfl, ?_⟩
  | refine ⟨_, _, rfl, rfl, ?_⟩
  | refine And.intro (show CMul _ _ from Or.inr ⟨by decide, by decide⟩) ?_
  | refine And.intro (show CMul _ _ from Or.inl ⟨by first | decide | omega, by first | decide | omega⟩) ?_
  | refine And.intro (show CMul _ _ from Or.inr ⟨by omega, by omega⟩) ?_
  | refine And.intro (show CDiv _ _ from ⟨by omega, by omega⟩) ?_
  | refine And.intro (show Dt.CPowG _ _ from ⟨by decide, by decide +kernel⟩) ?_
  | refine And.intro (by first | decide | omega) ?_
  | refine And.intro (Int.pow_pos (Int.pow_pos (by decide))) ?_
  | refine ⟨_, _, _, _, rfl, rfl, SqL.of (by first | assumption | exact upd_same), (by rfl), ?_⟩
  | refine ⟨_, _, _, _, rfl, rfl, (by first | assumption | exact upd_same), (by rfl), ?_⟩
  | refine Or.inl ⟨_, rfl, ?_⟩
  | refine Or.inr ⟨_, rfl, ?_⟩)
local macro_rules | `(tactic| walk_at "q") => `(tactic| repeat (walk_at "q1"))
local macro_rules | `(tactic| walk_at "eqt") => `(tactic| (refine ⟨_, rfl, ?_⟩; refine ⟨rfl, ?_⟩; first
  | (refine ⟨true, rfl, ?_⟩; refine L2.iteT ?_)
  | (refine ⟨false, rfl, ?_⟩; refine L2.iteF ?_)))
local macro_rules | `(tactic| walk_at "sz") => `(tactic| (rw [PySem.sizeLine_eq]; simp))
namespace K04
open PySem PySem.Spec PyProof.Rows L2 Dt An Rp Sp4
section
variable {P : Program} {w : World} {K : PySem.W.Frag} {mg : Str → Option Value} {base : Heap} {a : Ads}
theorem SchO.same {C : Addr} {H H1 : Hp} {x : Addr} {S : Sch} {et ek ew : Addr} (s : Same H H1) (h : SchO C H x S et ek ew) : SchO C H1 x S et ek ew :=
  ⟨let ⟨d, p1, p2, e⟩ := h.at_; ⟨d, p1, p2, s _ _ e⟩, h.data.same s, h.ok⟩
/-- what a schema is made of, apart from a dict that stands elsewhere -/
theorem SchO.off {C : Addr} {H H1 : Hp} {x : Addr} {S : Sch} {et ek ew d : Addr} {ks : List (Key × V)} (o : Off d H H1) (hd : H d = some (.dK ks)) (n1 : et ≠ d) (n2 : ek ≠ d) (n3 : ew ≠ d) (h : SchO C H x S et ek ew) : SchO C H1 x S et ek ew :=
  ⟨let ⟨dx, p1, p2, e⟩ := h.at_; ⟨dx, p1, p2, o _ _ (fun z => by rw [z, hd] at e; cases e) e⟩,
    ⟨let ⟨k, a, b⟩ := h.data.tabs; ⟨k, o _ _ n1 a, ent_off (fun _ _ e => ColT.off o hd e) b⟩, let ⟨k, a, b⟩ := h.data.keys; ⟨k, o _ _ n2 a, ent_off (fun _ _ e => KeyT.off o hd e) b⟩, let ⟨k, a, b⟩ := h.data.ways; ⟨k, o _ _ n3 a, ent_off (fun _ _ e => WayT.off o hd e) b⟩⟩, h.ok⟩
theorem SchO.tk {C : Addr} {H : Hp} {x : Addr} {S : Sch} {et ek ew : Addr} (h : SchO C H x S et ek ew) : et ≠ ek := by
  obtain ⟨_, a, b⟩ := h.data.tabs
  obtain ⟨_, c, d⟩ := h.data.keys
  exact cols_keys a c b d h.ok.tabs
theorem SchO.tw {C : Addr} {H : Hp} {x : Addr} {S : Sch} {et ek ew : Addr} (h : SchO C H x S et ek ew) : et ≠ ew := by
  obtain ⟨_, a, b⟩ := h.data.tabs
  obtain ⟨_, c, d⟩ := h.data.ways
  exact ways_keys a c b d h.ok.tabs
/-- a new dict holds the tables -/
def spTabs (C : Addr) : Sp := fun vs H Q _ => ∃ x S et ek ew, vs = [.ref x] ∧ SchO C H x S et ek ew ∧ ∀ D H1 kt, Same H H1 → H D = none → H1 D = some (.dK kt) → Paired (EntOf (ColT H1)) kt S.T → Q (.ref D) H1
def spRefsP (C : Addr) : Sp := fun vs H Q _ => ∃ x S et ek ew, vs = [.ref x] ∧ SchO C H x S et ek ew ∧ ∀ D H1 kw, Same H H1 → H D = none → H1 D = some (.dK kw) → Paired (EntOf (WayT H1)) kw S.W → Q (.ref D) H1
theorem ok_Schema_tables (T : Txt K mg a) : FnOk P w K mg base CX0 1 a.Schema_tables a.fd_Schema_tables ps_Schema_tables (spTabs a.c_Schema) := by
  have F := T.F_Schema_tables
  refine F.ok (k := 0) sc_Schema_tables (fun vs H Q E h => ?_) (fun cdv A outer s H vs Q E hr h => ?_)
  · obtain ⟨x, S, et, ek, ew, rfl, hS, k⟩ := h
    rfl
  · obtain ⟨x, S, et, ek, ew, rfl, hS, k⟩ := h
    have hu := hu_of hr
    refine ⟨_, (pss_one (ps_ret (pe_callTy call_dictD (by rfl) T.dict (by decide +kernel) (pa_cons (pe_fld (pv 0) rfl) pa_nil)))), ?_⟩
    obtain ⟨dx, p1, p2, hx⟩ := hS.at_
    obtain ⟨kt, ht, pT⟩ := hS.data.tabs
    refine ⟨_, rfl, x, _, dx, _, _, rfl, hx, T.cl_Schema, T.n_tables, rfl, ?_⟩
    refine ⟨et, kt, rfl, .inl ht, fun p np => ?_⟩
    exact k p _ kt (sameNew np) np upd_same (ent_off (fun _ _ e => ColT.same (sameNew np) e) pT)
theorem ok_Schema_references (T : Txt K mg a) : FnOk P w K mg base CX0 1 a.Schema_references a.fd_Schema_references ps_Schema_references (spRefsP a.c_Schema) := by
  have F := T.F_Schema_references
  refine F.ok (k := 0) sc_Schema_references (fun vs H Q E h => ?_) (fun cdv A outer s H vs Q E hr h => ?_)
  · obtain ⟨x, S, et, ek, ew, rfl, hS, k⟩ := h
    rfl
  · obtain ⟨x, S, et, ek, ew, rfl, hS, k⟩ := h
    have hu := hu_of hr
    refine ⟨_, (pss_one (ps_ret (pe_callTy call_dictD (by rfl) T.dict (by decide +kernel) (pa_cons (pe_fld (pv 0) rfl) pa_nil)))), ?_⟩
    obtain ⟨dx, p1, p2, hx⟩ := hS.at_
    obtain ⟨kw, hw, pW⟩ := hS.data.ways
    refine ⟨_, rfl, x, _, dx, _, _, rfl, hx, T.cl_Schema, T.n_references, rfl, ?_⟩
    refine ⟨ew, kw, rfl, .inl hw, fun p np => ?_⟩
    exact k p _ kw (sameNew np) np upd_same (ent_off (fun _ _ e => WayT.same (sameNew np) e) pW)
def spHas (C : Addr) : Sp := fun vs H Q _ => ∃ x S et ek ew t, vs = [.ref x, .str t] ∧ SchO C H x S et ek ew ∧ Q (.bl (decide (t ∈ S.T.map (·.1)))) H
def spChk (C : Addr) : Sp := fun vs H Q _ => ∃ x S et ek ew t, vs = [.ref x, .str t] ∧ SchO C H x S et ek ew ∧ t ∈ S.T.map (·.1) ∧ Q .non H
theorem val_some {α : Type} {R : Addr → α → Prop} {t : Str} {ks : List (Key × V)} {X : List (Str × α)} (p : Paired (EntOf R) ks X) (nd : (X.map (·.1)).Nodup) : (valV ks (.inr t)).isSome = decide (t ∈ X.map (·.1)) := by
  by_cases c : t ∈ X.map (·.1)
  · obtain ⟨e, he, rfl⟩ := List.mem_map.mp c
    obtain ⟨b, h, _⟩ := val_ent (x := e.1) (y := e.2) p nd he
    rw [h, decide_eq_true c]
    rfl
  · rw [val_no p c, decide_eq_false c]
    rfl
theorem ok_Schema___contains__ (T : Txt K mg a) : FnOk P w K mg base CX0 1 a.Schema___contains__ a.fd_Schema___contains__ ps_Schema___contains__ (spHas a.c_Schema) := by
  have F := T.F_Schema___contains__
  refine F.ok (k := 0) sc_Schema___contains__ (fun vs H Q E h => ?_) (fun cdv A outer s H vs Q E hr h => ?_)
  · obtain ⟨x, S, et, ek, ew, t, rfl, hS, k⟩ := h
    rfl
  · obtain ⟨x, S, et, ek, ew, t, rfl, hS, k⟩ := h
    have hu := hu_of hr
    refine ⟨_, (pss_one (ps_ret (pe_and (pe_callB call_isi (by rfl) T.isinstance (by decide +kernel) (pa_cons (pv 1) (pa_cons (pe_bltn (v := V.ty "str") (u := .type "str") (by rfl) T.str (by decide +kernel) (by rfl)) pa_nil))) (pe_one (pe_cmp (pc_din hu (pv 1) (pe_fld (pv 0) rfl)) rfl))))), ?_⟩
    obtain ⟨dx, p1, p2, hx⟩ := hS.at_
    obtain ⟨kt, ht, pT⟩ := hS.data.tabs
    refine ⟨_, rfl, _, .ty "str", _, _, _, rfl, .ty _, dat_ty (.str t), kit_str (.str t), _, rfl, ?_⟩
    refine iteT ?_
    refine ⟨_, rfl, _, rfl, x, _, dx, _, _, rfl, hx, T.cl_Schema, T.n_tables, rfl, ?_⟩
    refine ⟨et, _, rfl, DGet.k (k := .inr t) ht, ?_⟩
    rw [val_some pT hS.ok.tabs.nd]
    exact k
theorem ok_Schema__check_table (T : Txt K mg a) : FnOk P w K mg base (L2.CX P w) 3 a.Schema__check_table a.fd_Schema__check_table ps_Schema__check_table (spChk a.c_Schema) := by
  have F := T.F_Schema__check_table
  refine F.okX (k := 2) sc_Schema__check_table (fun vs H Q E h => ?_) (fun cdv A outer s H vs Q E hr h => ?_)
  · obtain ⟨x, S, et, ek, ew, t, rfl, hS, ht, k⟩ := h
    rfl
  · obtain ⟨x, S, et, ek, ew, t, rfl, hS, ht, k⟩ := h
    have hu := hu_of hr
    refine ⟨_, (pss_one (ps_if (pt_cmpR (Ow.op_notInO ⟨T.fi__contains__, T.fn__contains__, ok_Schema___contains__ T, b_Schema___contains__ T⟩ (hr.mono (by decide)) pass0) (pv 1) (pv 0) (by rfl)) (pss_one (ps_raise rfl (takes_of rfl rfl rfl rfl) (Exs.pmk_exr T.k1_UnknownName T.i_UnknownName T.ti_UnknownName (ok_UnknownName___init__ T) (hr.mono (by decide)) (b_UnknownName___init__ T) pass0 (by rfl) T.g_c_UnknownName (pa_cons (pv 1) pa_nil)))) pss_nil)), ?_⟩
    obtain ⟨dx, p1, p2, hx⟩ := hS.at_
    refine ⟨_, rfl, _, rfl, x, rfl, ⟨dx, _, hx⟩, ?_⟩
    refine ⟨x, S, et, ek, ew, t, rfl, hS, ?_⟩
    rw [decide_eq_true ht]
    refine ⟨_, rfl, _, rfl, ?_⟩
    exact iteF k
def valsOf {α : Type} (X : List (Str × List α)) (t : Str) : List α := ((X.find? fun p => decide (p.1 = t)).map (·.2)).getD []
theorem vals_in {α : Type} {X : List (Str × List α)} {t : Str} {y : List α} (nd : (X.map (·.1)).Nodup) (m : (t, y) ∈ X) : valsOf X t = y := by
  have h : ∀ {Z : List (Str × List α)}, (Z.map (·.1)).Nodup → (t, y) ∈ Z → Z.find? (fun p => decide (p.1 = t)) = some (t, y) := by
    intro Z
    induction Z with
    | nil => intro _ m; cases m
    | cons p Z ih =>
      intro nd m
      rw [List.map_cons, List.nodup_cons] at nd
      rcases List.mem_cons.mp m with e | m
      · rw [← e, List.find?_cons, decide_eq_true rfl]
      · rw [List.find?_cons, decide_eq_false (fun e => nd.1 (by rw [e]; exact List.mem_map.mpr ⟨_, m, rfl⟩))]
        exact ih nd.2 m
  unfold valsOf
  rw [h nd m]
  rfl
theorem vals_no {α : Type} {X : List (Str × List α)} {t : Str} (m : t ∉ X.map (·.1)) : valsOf X t = [] := by
  unfold valsOf
  rw [List.find?_eq_none.mpr fun p hp e => m (by rw [← of_decide_eq_true e]; exact List.mem_map.mpr ⟨p, hp, rfl⟩)]
  rfl
def spKeysOf (C : Addr) : Sp := fun vs H Q _ => ∃ x S et ek ew t, vs = [.ref x, .str t] ∧ SchO C H x S et ek ew ∧ t ∈ S.T.map (·.1) ∧ ∀ b H1, Same H H1 → KeyT H1 b (valsOf S.L t) → Q (.ref b) H1
theorem ok_Schema_keys_of (T : Txt K mg a) : FnOk P w K mg base (L2.CX P w) 3 a.Schema_keys_of a.fd_Schema_keys_of ps_Schema_keys_of (spKeysOf a.c_Schema) := by
  have F := T.F_Schema_keys_of
  refine F.okX (k := 2) sc_Schema_keys_of (fun vs H Q E h => ?_) (fun cdv A outer s H vs Q E hr h => ?_)
  · obtain ⟨x, S, et, ek, ew, t, rfl, hS, hm, k⟩ := h
    rfl
  · obtain ⟨x, S, et, ek, ew, t, rfl, hS, hm, k⟩ := h
    have hu := hu_of hr
    refine ⟨_, (pss_cons (ps_if (PW.pt (pw_and (pt_val (pe_callB call_isi (by rfl) T.isinstance (by decide +kernel) (pa_cons (pv 1) (pa_cons (pe_bltn (v := V.ty "str") (u := .type "str") (by rfl) T.str (by decide +kernel) (by rfl)) pa_nil)))) (pw_and1 (pt_cmp (pc_din hu (pv 1) (pe_fld (pv 0) rfl)))))) (pss_one (ps_ret (pe_dget2 hu (pe_fld (pv 0) rfl) (pv 1) (pe_tup pa_nil) ⟨rfl, rfl, rfl, rfl⟩))) pss_nil)
      (pss_one (ps_raise rfl (takes_of rfl rfl rfl rfl) (Exs.pmk_exr T.k1_UnknownName T.i_UnknownName T.ti_UnknownName (ok_UnknownName___init__ T) (hr.mono (by decide)) (b_UnknownName___init__ T) pass0 (by rfl) T.g_c_UnknownName (pa_cons (pv 1) pa_nil))))), ?_⟩
    obtain ⟨dx, p1, p2, hx⟩ := hS.at_
    obtain ⟨kt, ht, pT⟩ := hS.data.tabs
    obtain ⟨kk, hk, pL⟩ := hS.data.keys
    refine ⟨_, rfl, _, .ty "str", _, _, _, rfl, .ty _, dat_ty (.str t), kit_str (.str t), _, rfl, ?_⟩
    refine iteT ?_
    refine ⟨_, rfl, _, rfl, x, _, dx, _, _, rfl, hx, T.cl_Schema, T.n_tables, rfl, ?_⟩
    refine ⟨et, _, rfl, DGet.k (k := .inr t) ht, _, rfl, ?_⟩
    rw [val_some pT hS.ok.tabs.nd, decide_eq_true hm]
    refine iteT ?_
    refine ⟨_, rfl, x, _, dx, _, _, rfl, hx, T.cl_Schema, T.n_keys, rfl, ?_⟩
    refine ⟨ek, rfl, .inl ⟨kk, .inl hk⟩, ?_⟩
    refine ⟨_, rfl, by show 0 ≤ sizeLine; decide, fun e0 ne0 => ?_⟩
    generalize EH1 : upd H e0 _ = H1
    have he0 := (congrFun EH1 e0).symm.trans upd_same
    have S1 : Same H H1 := by rw [← EH1]; exact sameNew ne0
    refine ⟨_, DGet.k (k := .inr t) (S1 _ _ hk), ?_⟩
    by_cases c : t ∈ S.L.map (·.1)
    · obtain ⟨p, hp, rfl⟩ := List.mem_map.mp c
      obtain ⟨b, b1, b2⟩ := val_ent (x := p.1) (y := p.2) pL hS.ok.keys.nd hp
      rw [b1]
      refine k b H1 S1 ?_
      rw [vals_in hS.ok.keys.nd (show (p.1, p.2) ∈ S.L from hp)]
      exact KeyT.same S1 b2
    · rw [val_no pL c]
      refine k e0 H1 S1 ?_
      rw [vals_no c]
      exact ⟨[], he0, .nil⟩
def waysAt (W : List (Str × Way)) (t : Str) : List Str := (W.filter fun p => decide (p.2.tab = t)).map (·.1)
def spRefsOf (C : Addr) : Sp := fun vs H Q _ => ∃ x S et ek ew t, vs = [.ref x, .str t] ∧ SchO C H x S et ek ew ∧ t ∈ S.T.map (·.1) ∧ ∀ b H1, Same H H1 → H1 b = some (.tup ((waysAt S.W t).map V.str)) → Q (.ref b) H1
theorem ok_Schema_references_of (T : Txt K mg a) : FnOk P w K mg base (L2.CX P w) 3 a.Schema_references_of a.fd_Schema_references_of ps_Schema_references_of (spRefsOf a.c_Schema) := by
  have F := T.F_Schema_references_of
  refine F.okX (k := 2) sc_Schema_references_of (fun vs H Q E h => ?_) (fun cdv A outer s H vs Q E hr h => ?_)
  · obtain ⟨x, S, et, ek, ew, t, rfl, hS, hm, k⟩ := h
    rfl
  · obtain ⟨x, S, et, ek, ew, t, rfl, hS, hm, k⟩ := h
    have hu := hu_of hr
    refine ⟨_, (pss_cons (ps_if (PW.pt (pw_or (pt_not (pt_val (pe_callB call_isi (by rfl) T.isinstance (by decide +kernel) (pa_cons (pv 1) (pa_cons (pe_bltn (v := V.ty "str") (u := .type "str") (by rfl) T.str (by decide +kernel) (by rfl)) pa_nil))))) (pw_or1 (pt_cmp (pc_dnotin hu (pv 1) (pe_fld (pv 0) rfl)))))) (pss_one (ps_raise rfl (takes_of rfl rfl rfl rfl) (Exs.pmk_exr T.k1_UnknownName T.i_UnknownName T.ti_UnknownName (ok_UnknownName___init__ T) (hr.mono (by decide)) (b_UnknownName___init__ T) pass0 (by rfl) T.g_c_UnknownName (pa_cons (pv 1) pa_nil)))) pss_nil)
      (pss_one (ps_ret (pe_callTy call_tuple_of (by rfl) T.tuple (by decide +kernel) (pa_cons (pe_lock (pe_lc (own := [("name", 2)]) rfl sc_Schema_references_of.nd (pi_keys (pe_fld (pv 0) rfl)) (blkOk_by (N := nm_Schema_references_of) (sc := defScope s_Schema_references_of) (by decide +kernel)) (fun _ _ _ _ _ => (pg_name (i := 2) sc_Schema_references_of.nd rfl (Or.inl rfl))) (fun _ _ _ _ _ => (pts_one (pt_cmpR op_eq (pe_ix (r := rIxT K) ix_tup (pe_dget hu (show PE _ _ (tFld K (tVar 0) "_references") from pe_fld (pv 0) rfl) (pv 2) (fun _ _ => rfl)) pe_int (fun _ _ => rfl)) (pv 1) (nomark _)))) (fun _ _ _ _ _ => (pv 2)))) pa_nil))))), ?_⟩
    obtain ⟨dx, p1, p2, hx⟩ := hS.at_
    obtain ⟨kt, ht, pT⟩ := hS.data.tabs
    obtain ⟨kw, hw, pW⟩ := hS.data.ways
    refine ⟨_, rfl, _, .ty "str", _, _, _, rfl, .ty _, dat_ty (.str t), kit_str (.str t), _, rfl, ?_⟩
    refine iteF ?_
    refine ⟨_, rfl, _, rfl, x, _, dx, _, _, rfl, hx, T.cl_Schema, T.n_tables, rfl, ?_⟩
    refine ⟨et, _, rfl, DGet.k (k := .inr t) ht, _, rfl, ?_⟩
    rw [val_some pT hS.ok.tabs.nd, decide_eq_true hm]
    refine iteF ?_
    unfold tNext
    have nxw : x ≠ ew := fun z => by rw [z, hw] at hx; cases hx
    refine ⟨ew, .dK kw, hw, trivial, fun od => ?_⟩
    trace_state
    refine ⟨_, rfl, x, _, dx, _, _, rfl, by rw [upd_ne nxw]; exact hx, T.cl_Schema, T.n_references, rfl, ew, od, rfl, .inl ⟨kw, upd_same, fun D hD => ?_⟩⟩
    have off : Off ew H (upd H ew (.frz od (.dK kw))) := Off.lock
    have eL : upd H ew (.frz od (.dK kw)) ew = some (.frz od (.dK kw)) := upd_same
    generalize upd H ew (.frz od (.dK kw)) = HL at hD off eL ⊢
    refine lc_it (walk_keys (o := od) (d := ew) (kvs := kw)) (fun i Hi => Same HL Hi ∧ Hi D = some (.lst ((waysAt (S.W.take i) t).map V.str))) ⟨sameNew hD, upd_same⟩ ?_ ?_ ?_
    · rintro i Hi hi ⟨S, _⟩
      exact S _ _ eL
    · rintro i y Hi Hi2 hi ⟨Sm, eD⟩ ⟨rfl, kx, v2, hkx, rfl⟩
      obtain ⟨x1, hx1, e1, b, ev, h1⟩ := paired_at pW hkx
      have e1 : kx = .inr x1.1 := e1
      have ev : v2 = .ref b := ev
      subst e1 ev
      obtain ⟨c, kd, hb, _, _⟩ := h1.off off hw
      have hbi := Sm _ _ hb
      have hxi := Sm _ _ (off _ _ nxw hx)
      refine ⟨rfl, ?_⟩
      refine ⟨_, rfl, x, _, dx, _, _, rfl, hxi, T.cl_Schema, T.n_references, rfl, _, rfl, ew, .ref b, rfl, .inl ⟨kw, .inr x1.1, .inr ⟨od, Sm _ _ eL⟩, rfl, (valV_at (nd_ent pW hS.ok.ways.nd) hkx).symm⟩, ?_⟩
      refine ⟨b, _, 0, .str x1.2.tab, rfl, rfl, SqT.of hbi, rfl, _, rfl, rfl, _, rfl, ?_⟩
      have n4 := hS.ok.ways.n4
      have wl : (waysAt (S.W.take i) t).length ≤ 4 := by
        unfold waysAt
        rw [List.length_map]
        have := List.length_filter_le (fun p : Str × Way => decide (p.2.tab = t)) (S.W.take i)
        rw [List.length_take] at this
        omega
      have wn : waysAt (S.W.take (i + 1)) t = waysAt (S.W.take i) t ++ (if x1.2.tab = t then [x1.1] else []) := by
        unfold waysAt
        rw [take_at hx1, List.filter_append, List.map_append]
        by_cases c : x1.2.tab = t <;> simp [c]
      refine iteD (fun c1 => ?_) (fun c1 => ?_)
      · have c1 : x1.2.tab = t := V.str.inj c1
        refine ⟨_, rfl, _, eD, by rw [List.length_map, sizeLine_eq]; omega, same_upd Sm hD, ?_⟩
        rw [wn, if_pos c1, List.map_append]
        exact upd_same
      · have c1 : ¬ x1.2.tab = t := fun z => c1 (by rw [z])
        refine ⟨Sm, ?_⟩
        rw [wn, if_neg c1, List.append_nil]
        exact eD
    rintro H2 ⟨S2, eD⟩
    have lk : kw.length = S.W.length := pW.length
    rw [lk, List.take_length] at eD
    have nDw : D ≠ ew := fun z => by rw [z, eL] at hD; cases hD
    have off2 : Off ew H H2 := off.same S2
    refine ⟨S2 _ _ eL, ?_⟩
    refine ⟨D, _, rfl, .inl ⟨SqL.of (by rw [upd_ne nDw]; exact eD), fun l hl => ?_⟩⟩
    exact k l _ ((off2.back hw).trans (sameNew hl)) upd_same
end
end K04

set_option Elab.async false
set_option linter.all false
set_option maxRecDepth 100000
set_option maxHeartbeats 4000000
open L2 in
local macro_rules | `(tactic| walk_at "q1") => `(tactic| first
  | refine ⟨_, rfl, ?_⟩
  | refine ⟨_, _, rfl, rfl, ?_⟩
  | refine And.intro (show CMul _ _ from Or.inr ⟨by decide, by decide⟩) ?_
  | refine And.intro (show CMul _ _ from Or.inl ⟨by first | decide | omega, by first | decide | omega⟩) ?_
  | refine And.intro (show CMul _ _ from Or.inr ⟨by omega, by omega⟩) ?_
  | refine And.intro (show CDiv _ _ from ⟨by omega, by omega⟩) ?_
  | refine And.intro (show Dt.CPowG _ _ from ⟨by decide, by decide +kernel⟩) ?_
  | refine And.intro (by first | decide | omega) ?_
  | refine And.intro (Int.pow_pos (Int.pow_pos (by decide))) ?_
  | refine ⟨_, _, _, _, rfl, rfl, SqL.of (by first | assumption | exact upd_same), (by rfl), ?_⟩
  | refine ⟨_, _, _, _, rfl, rfl, (by first | assumption | exact upd_same), (by rfl), ?_⟩
  | refine Or.inl ⟨_, rfl, ?_⟩
  | refine Or.inr ⟨_, rfl, ?_⟩)
local macro_rules | `(tactic| walk_at "q") => `(tactic| repeat (walk_at "q1"))
local macro_rules | `(tactic| walk_at "eqt") => `(tactic| (refine ⟨_, rfl, ?_⟩; refine ⟨rfl, ?_⟩; first
  | (refine ⟨true, rfl, ?_⟩; refine L2.iteT ?_)
  | (refine ⟨false, rfl, ?_⟩; refine L2.iteF ?_)))
local macro_rules | `(tactic| walk_at "sz") => `(tactic| (rw [PySem.sizeLine_eq]; simp))
namespace K04
open PySem PySem.Spec PyProof.Rows L2 Dt An Rp Sp4
section
variable {P : Program} {w : World} {K : PySem.W.Frag} {mg : Str → Option Value} {base : Heap} {a : Ads}
theorem never {X : Cx} : L2.Passes (L2.CX X.prog X.w) X (fun _ _ _ => False) := fun _ _ _ _ _ _ _ h => by
  obtain ⟨_, _, _, _, _, _, _, _, _, _, _, _, z⟩ := h
  exact z.elim
def spRowOf (K : PySem.W.Frag) (C : Addr) : Sp := fun vs H Q _ => ∃ x S et ek ew t v d cs, vs = [.ref x, .str t, v] ∧ SchO C H x S et ek ew ∧ (t, cs) ∈ S.T ∧ ArgD K H v d ∧ Q (.bl (areIntsD d && decide (lenD d = cs.length))) H
theorem name_in {α : Type} {X : List (Str × α)} {t : Str} {y : α} (m : (t, y) ∈ X) : t ∈ X.map (·.1) := List.mem_map.mpr ⟨_, m, rfl⟩
theorem ok_Schema_is_row_of (T : Txt K mg a) : FnOk P w K mg base (L2.CX P w) 3 a.Schema_is_row_of a.fd_Schema_is_row_of ps_Schema_is_row_of (spRowOf K a.c_Schema) := by
  have F := T.F_Schema_is_row_of
  refine F.okX (k := 2) sc_Schema_is_row_of (fun vs H Q E h => ?_) (fun cdv A outer s H vs Q E hr h => ?_)
  · obtain ⟨x, S, et, ek, ew, t, v, d, cs, rfl, hS, hm, hv, k⟩ := h
    rfl
  · obtain ⟨x, S, et, ek, ew, t, v, d, cs, rfl, hS, hm, hv, k⟩ := h
    have hu := hu_of hr
    refine ⟨_, (pss_cons (ps_if (PW.pt (pw_or (pt_not (pt_val (pe_callB call_isi (by rfl) T.isinstance (by decide +kernel) (pa_cons (pv 1) (pa_cons (pe_bltn (v := V.ty "str") (u := .type "str") (by rfl) T.str (by decide +kernel) (by rfl)) pa_nil))))) (pw_or1 (pt_cmp (pc_dnotin hu (pv 1) (pe_fld (pv 0) rfl)))))) (pss_one (ps_raise rfl (takes_of rfl rfl rfl rfl) (Exs.pmk_exr T.k1_UnknownName T.i_UnknownName T.ti_UnknownName (ok_UnknownName___init__ T) (hr.mono (by decide)) (b_UnknownName___init__ T) pass0 (by rfl) T.g_c_UnknownName (pa_cons (pv 1) pa_nil)))) pss_nil)
      (pss_one (ps_ret (pe_and (pe_call (ok_are_integers T) (hr.mono (by decide)) (by rfl) T.g_are_integers T.F_are_integers.kp (b_are_integers T) .nil pass0 (pa_cons (pv 2) pa_nil)) (pe_one (pe_cmpR op_eq (pe_callB call_len (by rfl) T.len (by decide +kernel) (pa_cons (pv 2) pa_nil)) (pe_callB call_len (by rfl) T.len (by decide +kernel) (pa_cons (pe_dget hu (pe_fld (pv 0) rfl) (pv 1) (fun _ _ => rfl)) pa_nil)) (nomark _))))))), ?_⟩
    obtain ⟨dx, p1, p2, hx⟩ := hS.at_
    obtain ⟨kt, ht, pT⟩ := hS.data.tabs
    obtain ⟨b, b1, b2⟩ := val_ent pT hS.ok.tabs.nd hm
    refine ⟨_, rfl, _, .ty "str", _, _, _, rfl, .ty _, dat_ty (.str t), kit_str (.str t), _, rfl, ?_⟩
    refine iteF ?_
    refine ⟨_, rfl, _, rfl, x, _, dx, _, _, rfl, hx, T.cl_Schema, T.n_tables, rfl, ?_⟩
    refine ⟨et, _, rfl, DGet.k (k := .inr t) ht, _, rfl, ?_⟩
    rw [b1]
    refine iteF ?_
    unfold tNext
    refine ⟨v, rfl, v, d, rfl, hv, ?_⟩
    cases e : areIntsD d with
    | false =>
      rw [e] at k
      exact ⟨_, rfl, iteF k⟩
    | true =>
      rw [e] at k
      refine ⟨_, rfl, ?_⟩
      refine iteT ?_
      have q : isTup d = true := by cases d <;> first | rfl | cases e
      obtain ⟨p, xs, ds, rfl, rfl, hp, hxs⟩ := dat_tup (hv.dat q) q
      refine ⟨_, rfl, _, _, rfl, .inr ⟨_, hp, rfl⟩, ?_⟩
      refine ⟨_, rfl, x, _, dx, _, _, rfl, hx, T.cl_Schema, T.n_tables, rfl, _, rfl, et, .ref b, rfl, .inl ⟨kt, .inr t, .inl ht, rfl, b1.symm⟩, ?_⟩
      refine ⟨_, _, rfl, .inr ⟨_, SqT.of b2, rfl⟩, ?_⟩
      rw [List.length_map]
      refine ⟨rfl, ?_⟩
      rw [Bool.true_and, show lenD (.tuple ds) = xs.length from hxs.len.symm] at k
      rw [show decide ((V.int (xs.length : Nat)) = V.int (cs.length : Nat)) = decide (xs.length = cs.length) from by
        by_cases c : xs.length = cs.length
        · rw [c]
          simp
        · rw [decide_eq_false c]
          refine decide_eq_false fun z => c ?_
          injection z with z
          exact Int.ofNat.inj z]
      exact k
theorem no_path {n : Nat} {t u : Str} (h : Path (steps []) n t u) : False := by
  induction h with
  | one e => cases e
  | more _ e _ => cases e
theorem no_reach {t u : Str} (h : Reach (steps []) t u) : False := let ⟨_, p⟩ := h; no_path p
def spLeads (C : Addr) : Sp := fun vs H Q _ => ∃ x S et ek ew t u, vs = [.ref x, .str t, .str u] ∧ SchO C H x S et ek ew ∧ t ∈ S.T.map (·.1) ∧ u ∈ S.T.map (·.1) ∧ ∀ b H1, Same H H1 → (b = true ↔ Reach (steps S.W) t u) → Q (.bl b) H1
theorem ok_Schema_leads_to (T : Txt K mg a) : FnOk P w K mg base CX0 4 a.Schema_leads_to a.fd_Schema_leads_to ps_Schema_leads_to (spLeads a.c_Schema) := by
  have F := T.F_Schema_leads_to
  refine F.ok (k := 3) sc_Schema_leads_to (fun vs H Q E h => ?_) (fun cdv A outer s H vs Q E hr h => ?_)
  · obtain ⟨x, S, et, ek, ew, t, u, rfl, hS, ht, hu2, k⟩ := h
    rfl
  · obtain ⟨x, S, et, ek, ew, t, u, rfl, hS, ht, hu2, k⟩ := h
    have hu := hu_of hr
    refine ⟨_, (pss_cons (ps_expr (pe_meth (pv 0) T.cl_Schema T.m__check_table (ok_Schema__check_table T) (hr.mono (by decide)) (b_Schema__check_table T) .nil never (pa_cons (pv 1) pa_nil)))
      (pss_cons (ps_expr (pe_meth (pv 0) T.cl_Schema T.m__check_table (ok_Schema__check_table T) (hr.mono (by decide)) (b_Schema__check_table T) .nil never (pa_cons (pv 2) pa_nil)))
      (pss_one (ps_ret (pe_and (pe_callTy Bk.call_boolK (by rfl) T.bool (by decide +kernel) (pa_cons (pe_fld (pv 0) rfl) pa_nil)) (pe_one (pe_cmpR op_in_seq (pv 2) (pe_call (ok__reached T) (hr.mono (by decide)) (by rfl) T.g__reached T.F__reached.kp (b__reached T) .nil pass0 (pa_cons (pe_fld (pv 0) rfl) (pa_cons (pv 1) pa_nil))) (by rfl)))))))), ?_⟩
    obtain ⟨dx, p1, p2, hx⟩ := hS.at_
    obtain ⟨kw, hw, pW⟩ := hS.data.ways
    refine ⟨_, rfl, x, dx, _, rfl, hx, rfl, ?_⟩
    refine ⟨_, rfl, x, S, et, ek, ew, t, rfl, hS, ht, ?_⟩
    refine ⟨_, rfl, x, dx, _, rfl, hx, rfl, ?_⟩
    refine ⟨_, rfl, x, S, et, ek, ew, u, rfl, hS, hu2, ?_⟩
    refine ⟨_, rfl, x, _, dx, _, _, rfl, hx, T.cl_Schema, T.n_references, rfl, ?_⟩
    refine ⟨ew, kw, rfl, .inl hw, ?_⟩
    have lk : kw.length = S.W.length := pW.length
    cases e : kw.isEmpty with
    | true =>
      have e2 : S.W = [] := by
        have := List.isEmpty_iff.mp e
        rw [this] at lk
        exact List.eq_nil_of_length_eq_zero lk.symm
      refine ⟨_, rfl, ?_⟩
      refine iteF ?_
      refine k false H (Ts.Same.rf H) ⟨fun z => (by cases z), fun z => ?_⟩
      rw [e2] at z
      exact (no_reach z).elim
    | false =>
      refine ⟨_, rfl, ?_⟩
      refine iteT ?_
      have n4 := hS.ok.ways.n4
      refine ⟨_, rfl, _, rfl, x, _, dx, _, _, rfl, hx, T.cl_Schema, T.n_references, rfl, ?_⟩
      refine ⟨_, rfl, ew, kw, S.W, t, rfl, hw, pW, by omega, fun l found H1 S1 hl hr => ?_⟩
      refine ⟨l, _, rfl, .inl (SqL.of hl), rfl, flat_strs found, ?_⟩
      rw [inV_strs]
      exact k _ H1 S1 (by rw [if_neg Bool.false_ne_true, decide_eq_true_eq]; exact hr u)
end
end K04

set_option Elab.async false
set_option linter.all false
set_option maxRecDepth 100000
set_option maxHeartbeats 4000000
open L2 in
local macro_rules | `(tactic| walk_at "q1") => `(tactic| first
  | refine ⟨_, rfl, ?_⟩
  | refine ⟨_, _, rfl, rfl, ?_⟩
  | refine And.intro (show CMul _ _ from Or.inr ⟨by decide, by decide⟩) ?_
  | refine And.intro (show CMul _ _ from Or.inl ⟨by first | decide | omega, by first | decide | omega⟩) ?_
  | refine And.intro (show CMul _ _ from Or.inr ⟨by omega, by omega⟩) ?_
  | refine And.intro (show CDiv _ _ from ⟨by omega, by omega⟩) ?_
  | refine And.intro (show Dt.CPowG _ _ from ⟨by decide, by decide +kernel⟩) ?_
  | refine And.intro (by first | decide | omega) ?_
  | refine And.intro (Int.pow_pos (Int.pow_pos (by decide))) ?_
  | refine ⟨_, _, _, _, rfl, rfl, SqL.of (by first | assumption | exact upd_same), (by rfl), ?_⟩
  | refine ⟨_, _, _, _, rfl, rfl, (by first | assumption | exact upd_same), (by rfl), ?_⟩
  | refine Or.inl ⟨_, rfl, ?_⟩
  | refine Or.inr ⟨_, rfl, ?_⟩)
local macro_rules | `(tactic| walk_at "q") => `(tactic| repeat (walk_at "q1"))
local macro_rules | `(tactic| walk_at "eqt") => `(tactic| (refine ⟨_, rfl, ?_⟩; refine ⟨rfl, ?_⟩; first
  | (refine ⟨true, rfl, ?_⟩; refine L2.iteT ?_)
  | (refine ⟨false, rfl, ?_⟩; refine L2.iteF ?_)))
local macro_rules | `(tactic| walk_at "sz") => `(tactic| (rw [PySem.sizeLine_eq]; simp))
namespace K04
open PySem PySem.Spec PyProof.Rows L2 Dt An Rp Sp4
section
variable {P : Program} {w : World} {K : PySem.W.Frag} {mg : Str → Option Value} {base : Heap} {a : Ads}
theorem part_it {K : PySem.W.Frag} {α : Type} {R : Hp → Addr → α → Prop} (mono : ∀ {H H1 : Hp} {b : Addr} {x : α}, Same H H1 → R H b x → R H1 b x) (moff : ∀ {H H1 : Hp} {D : Addr} {b : Addr} {x : α} {ks : List (Key × V)}, Off D H H1 → H D = some (.dK ks) → R H b x → R H1 b x)
    {i j : Nat} (n0 : 0 ≠ j) (nij : i ≠ j) {σ : L2.St} {H : Hp} {x C dx d : Addr} {F : Str} {fs : List (Str × V)} {od : Obj} {n : Str} {ks : List (Key × V)} {X : List (Str × α)} (cl : Cls K C) (na : NoAttr K C F) (lk : fs.lookup F = some (.ref d)) (h0 : σ[0]? = some (some (.ref x))) (hi : σ[i]? = some (some (.str n))) (hj : j < σ.length)
    (hx : H x = some (.ins C dx fs)) (hd : H d = some (.frz od (.dK ks))) (p : Paired (EntOf (R H)) ks X) (nd : (X.map (·.1)).Nodup) (few : X.length < 64) {Q : VK}
    (k : ∀ D H1 ks1, Same H H1 → H D = none → H1 D = some (.dK ks1) → Paired (EntOf (R H1)) ks1 (X.filter fun e => decide (e.1 ≠ n)) → Q (.ref D) H1) :
    Dh.tDcA false (iKeys (tFld K (tVar 0) F)) (gName j) (tTest (tOp rNe (tVar j) (tVar i))) (tVar j) (tDGet (tFld K (tVar 0) F) (tVar j)) [j] σ H Q := by
  refine ⟨_, h0, x, C, dx, fs, _, rfl, hx, cl, na, lk, ?_⟩
  refine ⟨d, od, rfl, .inl ⟨ks, hd, fun D hD => ?_⟩⟩
  have lks : ks.length = X.length := p.length
  refine Dh.dcA_it (walk_keys (o := od) (d := d) (kvs := ks)) (fun m Hi => Same H Hi ∧ ∃ ks1, Hi D = some (.dK ks1) ∧ Paired (EntOf (R Hi)) ks1 ((X.take m).filter fun e => decide (e.1 ≠ n))) ⟨sameNew hD, [], upd_same, .nil⟩ ?_ ?_ ?_
  · rintro m Hi hm ⟨S, _⟩
    exact S _ _ hd
  · rintro m y Hi Hi2 hm ⟨S, ks1, eD, hp⟩ ⟨rfl, kk, v2, hk, rfl⟩
    obtain ⟨e, he, e1, b, ev, b2⟩ := paired_at p hk
    have e1 : kk = .inr e.1 := e1
    have ev : v2 = .ref b := ev
    subst e1 ev
    refine ⟨?_, ?_⟩
    · show List.set (List.set (List.set σ j none) j _) j none = List.set σ j none
      rw [List.set_set, List.set_set]
    refine ⟨_, wipe_own hj _, _, wipe_get nij hi _, rfl, _, rfl, ?_⟩
    have fl : (X.take (m + 1)).filter (fun e => decide (e.1 ≠ n)) = (X.take m).filter (fun e => decide (e.1 ≠ n)) ++ (if e.1 ≠ n then [e] else []) := by
      rw [take_at he, List.filter_append]
      by_cases c : e.1 = n <;> simp [c]
    by_cases c : e.1 = n
    · rw [show (!decide (kV (Sum.inr e.1) = V.str n)) = false from by rw [decide_eq_true (show kV (Sum.inr e.1) = V.str n from by rw [c]; rfl)]; rfl]
      refine iteF ⟨S, ks1, eD, ?_⟩
      rw [fl, if_neg (fun z => z c), List.append_nil]
      exact hp
    rw [show (!decide (kV (Sum.inr e.1) = V.str n)) = true from by rw [decide_eq_false (p := kV (Sum.inr e.1) = V.str n) (fun z => c (V.str.inj z))]; rfl]
    refine iteT ?_
    refine ⟨_, wipe_own hj _, ?_⟩
    refine ⟨_, wipe_get n0 h0 _, x, C, dx, fs, _, rfl, S _ _ hx, cl, na, lk, _, wipe_own hj _, d, .ref b, rfl, .inl ⟨ks, .inr e.1, .inr ⟨od, S _ _ hd⟩, rfl, (valV_at (nd_ent p nd) hk).symm⟩, ?_⟩
    have no : valV ks1 (.inr e.1) = none := val_no hp fun mm => by
      obtain ⟨z, hz, ez⟩ := List.mem_map.mp mm
      obtain ⟨t, ht⟩ := List.mem_iff_getElem?.mp (List.mem_filter.mp hz).1
      rw [List.getElem?_take] at ht
      by_cases c2 : t < m
      · rw [if_pos c2] at ht
        have g1 : (X.map (·.1))[t]? = some e.1 := by rw [List.getElem?_map, ht, ← ez]; rfl
        have g2 : (X.map (·.1))[m]? = some e.1 := by rw [List.getElem?_map, he]; rfl
        have := (List.getElem?_inj (List.getElem?_eq_some_iff.mp g1).1 nd).mp (g1.trans g2.symm)
        omega
      · rw [if_neg c2] at ht
        cases ht
    have len1 : ks1.length ≤ 64 := by
      rw [hp.length]
      have := List.length_filter_le (fun e : Str × α => decide (e.1 ≠ n)) (X.take m)
      rw [List.length_take] at this
      omega
    refine ⟨upd Hi2 D (.dK (putK ks1 (.inr e.1) (.ref b))), .inl ⟨ks1, .inr e.1, eD, rfl, by rw [sizeLine_eq]; omega, rfl⟩, same_upd S hD, _, upd_same, ?_⟩
    rw [putK_new _ no, fl, if_pos c]
    have off : Off D Hi2 (upd Hi2 D (.dK (ks1 ++ [(Sum.inr e.1, V.ref b)]))) := Off.lock
    exact paired_snoc (ent_off (fun _ _ h => moff off eD h) hp) ⟨rfl, b, rfl, moff off eD (mono S b2)⟩
  · rintro Hi ⟨S, ks1, eD, hp⟩
    rw [lks, List.take_length] at hp
    exact k D Hi ks1 S hD eD hp
/-- tuples stay -/
def TS (H H1 : Hp) : Prop := ∀ b ys, H b = some (.tup ys) → H1 b = some (.tup ys)
theorem TS.of {H H1 : Hp} (s : Same H H1) : TS H H1 := fun b ys e => s _ _ e
theorem TS.off {d : Addr} {H H1 : Hp} (o : Off d H H1) (n : ∀ ys, H d ≠ some (.tup ys)) : TS H H1 := fun b ys e => o _ _ (fun z => n ys (z ▸ e)) e
theorem ColT.ts {H H1 : Hp} (t : TS H H1) {b : Addr} {y : List Str} (h : ColT H b y) : ColT H1 b y := t _ _ h
theorem KeyT.ts {H H1 : Hp} (t : TS H H1) {b : Addr} {y : List (List Str)} (h : KeyT H b y) : KeyT H1 b y := by
  obtain ⟨bs, h1, h2⟩ := h
  exact ⟨bs, t _ _ h1, Paired.mapP h2 fun _ _ e => t _ _ e⟩
theorem WayT.ts {H H1 : Hp} (t : TS H H1) {b : Addr} {y : Way} (h : WayT H b y) : WayT H1 b y := by
  obtain ⟨c, k, h1, h2, h3⟩ := h
  exact ⟨c, k, t _ _ h1, t _ _ h2, t _ _ h3⟩
def dropRef (S : Sch) (n : Str) : Sch := { S with W := S.W.filter fun p => decide (p.1 ≠ n) }
/-- a new schema like S at y -/
def NewSch (C : Addr) (H : Hp) (S : Sch) (Q : VK) : Prop := ∀ y H1 S1 et ek ew, Same H H1 → SchO C H1 y S1 et ek ew → SortOf S S1 → H y = none → H et = none → H ek = none → H ew = none → Q (.ref y) H1
theorem two_new {H : Hp} {x dx : Addr} {o u : HO} (h1 : H x = none) (h2 : H dx = none) (ne : dx ≠ x) : Same H (upd (upd H dx o) x u) :=
  (sameNew h2).trans (sameNew (by rw [upd_ne (Ne.symm ne)]; exact h1))
theorem mk_new {K : PySem.W.Frag} {C : Addr} {H HB : Hp} {dt dk dw : Addr} {S : Sch} (Sm : Same H HB) (h3 : Three HB dt dk dw S) (ne : dk ≠ dw) (ok : SchOk S) {Q : VK} {E : XK} (k : NewSch C H S Q) :
    ∀ y dy, HB y = none → HB dy = none → dy ≠ y → spInitS K C [.ref y, .ref dt, .ref dk, .ref dw] (upd (upd HB dy (.own y)) y (.ins C dy [])) (fun v H3 => v = .non ∧ Q (.ref y) H3) E := fun y dy ny ndy nd => by
  have Sn : Same HB (upd (upd HB dy (.own y)) y (.ins C dy [])) := two_new ny ndy nd
  refine ⟨y, dy, dt, dk, dw, S, rfl, upd_same, h3.same Sn, ne, ok, fun H1 S1 et ek ew o hO srt n1 n2 n3 => ⟨rfl, ?_⟩⟩
  have nx : ∀ {b : Addr}, upd (upd HB dy (.own y)) y (.ins C dy []) b = none → H b = none := fun {b} e => nn Sm (nn Sn e)
  exact k y H1 S1 et ek ew (fun b u e => o b u (fun z => by rw [z] at e; rw [Sm _ _ e] at ny; cases ny) (Sn _ _ (Sm _ _ e))) hO srt (nn Sm ny) (nx n1) (nx n2) (nx n3)
theorem SchOk.dropRef {S : Sch} (h : SchOk S) (n : Str) : SchOk (dropRef S n) where
  tabs := h.tabs
  keys := h.keys
  ways := ⟨Nat.le_trans (List.length_filter_le _ _) h.ways.n4, fun c m => h.ways.names c ((List.filter_sublist.map _).subset m), h.ways.nd.sublist (List.filter_sublist.map _), fun p m => h.ways.ways p (List.mem_filter.mp m).1, by
    obtain ⟨rank, rr⟩ := h.ways.rank
    exact ⟨rank, fun s m => rr s ((List.filter_sublist.map _).subset m)⟩⟩
def spNoRef (C : Addr) : Sp := fun vs H Q _ => ∃ x S et ek ew n, vs = [.ref x, .str n] ∧ SchO C H x S et ek ew ∧ n ∈ S.W.map (·.1) ∧ NewSch C H (dropRef S n) Q
theorem ok_Schema_without_reference (T : Txt K mg a) : FnOk P w K mg base (L2.CX P w) 7 a.Schema_without_reference a.fd_Schema_without_reference ps_Schema_without_reference (spNoRef a.c_Schema) := by
  have F := T.F_Schema_without_reference
  refine F.okX (k := 6) sc_Schema_without_reference (fun vs H Q E h => ?_) (fun cdv A outer s H vs Q E hr h => ?_)
  · obtain ⟨x, S, et, ek, ew, n, rfl, hS, hm, k⟩ := h
    rfl
  · obtain ⟨x, S, et, ek, ew, n, rfl, hS, hm, k⟩ := h
    have hu := hu_of hr
    obtain ⟨kmv, kbS⟩ := kb_Schema___init__ T
    refine ⟨_, (pss_cons (ps_if (PW.pt (pw_or (pt_not (pt_val (pe_call (ok_is_name T) (hr.mono (by decide)) (by rfl) T.g_is_name T.F_is_name.kp (b_is_name T) .nil pass0 (pa_cons (pv 1) pa_nil)))) (pw_or1 (pt_cmp (pc_dnotin hu (pv 1) (pe_fld (pv 0) rfl)))))) (pss_one (ps_raise rfl (takes_of rfl rfl rfl rfl) (Exs.pmk_exr T.k1_UnknownName T.i_UnknownName T.ti_UnknownName (ok_UnknownName___init__ T) (hr.mono (by decide)) (b_UnknownName___init__ T) pass0 (by rfl) T.g_c_UnknownName (pa_cons (pv 1) pa_nil)))) pss_nil)
      (pss_cons (ps_lock (Dh.ps_setDc (t := false) (i := 2) (own := [("other", 3)]) hu rfl sc_Schema_without_reference.nd rfl rfl (Dh.sw_dict rfl rfl rfl (by decide +kernel)) (pi_keys (pe_fld (pv 0) rfl)) (blkOk_by (N := nm_Schema_without_reference) (sc := defScope s_Schema_without_reference) (by decide +kernel)) ⟨(fun _ _ _ _ _ => (pg_name (i := 3) sc_Schema_without_reference.nd rfl (Or.inl rfl))), (fun _ _ _ _ _ => (pts_one (pt_cmpR op_ne (pv 3) (pv 1) (nomark _)))), (fun _ _ _ _ _ => (pv 3)), (fun _ _ _ _ _ => (pe_dget hu (show PE _ _ (tFld K (tVar 0) "_references") from pe_fld (pv 0) rfl) (pv 3) (fun _ _ => rfl)))⟩))
      (pss_one (ps_ret (pe_makeK T.mk_Schema (ok_Schema___init__ T) (hr.mono (by decide)) (by rfl) T.g_c_Schema kbS never (pa_cons (pe_fld (pv 0) rfl) pa_nil) (pk_cons (pe_fld (pv 0) rfl) (pk_cons (pv 2) pk_nil))))))), ?_⟩
    obtain ⟨dx, p1, p2, hx⟩ := hS.at_
    obtain ⟨kw, hw, pW⟩ := hS.data.ways
    have nn1 := hS.ok.ways.names _ hm
    have l8 : n.length ≤ 8 := (name_parts nn1).1
    have nxw : x ≠ ew := fun z => by rw [z, hw] at hx; cases hx
    refine ⟨_, rfl, .str n, .str n, rfl, .str n, decide_eq_true (by omega), ?_⟩
    rw [show isNameD (.str n) = true from nn1]
    refine ⟨_, rfl, ?_⟩
    refine iteF ?_
    refine ⟨_, rfl, _, rfl, x, _, dx, _, _, rfl, hx, T.cl_Schema, T.n_references, rfl, ?_⟩
    refine ⟨ew, _, rfl, DGet.k (k := .inr n) hw, ?_⟩
    rw [val_some pW hS.ok.ways.nd, decide_eq_true hm]
    refine ⟨_, rfl, ?_⟩
    refine iteF ?_
    unfold tNext
    dsimp only
    unfold tSeq
    refine ⟨ew, .dK kw, hw, trivial, fun od => ?_⟩
    have off : Off ew H (upd H ew (.frz od (.dK kw))) := Off.lock
    have eL : upd H ew (.frz od (.dK kw)) ew = some (.frz od (.dK kw)) := upd_same
    generalize upd H ew (.frz od (.dK kw)) = HL at off eL ⊢
    have n4 := hS.ok.ways.n4
    refine part_it (K := K) (R := WayT) (fun s e => WayT.same s e) (fun o h e => WayT.off o h e) (i := 1) (j := 3) (by decide) (by decide) (σ := [some (.ref x), some (.str n), none, none]) T.cl_Schema T.n_references (d := ew) rfl rfl rfl (by show 3 < 4; omega) (off _ _ nxw hx) eL (ent_off (fun _ _ e => WayT.off off hw e) pW) hS.ok.ways.nd (by omega) fun D H1 kw1 S1 nD eD pD => ?_
    refine ⟨S1 _ _ eL, ?_⟩
    have nDw : D ≠ ew := fun z => by rw [z, eL] at nD; cases nD
    have offB : Off ew H1 (upd H1 ew (.dK kw)) := Off.lock
    have SB : Same H (upd H1 ew (.dK kw)) := (off.same S1).back hw
    have eB : upd H1 ew (.dK kw) D = some (.dK kw1) := by rw [upd_ne nDw]; exact eD
    have tsB : TS H1 (upd H1 ew (.dK kw)) := TS.off offB fun ys z => by rw [S1 _ _ eL] at z; cases z
    generalize upd H1 ew (.dK kw) = HB at SB eB tsB ⊢
    have hSB := hS.same SB
    refine ⟨_, rfl, x, _, dx, _, _, rfl, SB _ _ hx, T.cl_Schema, T.n_tables, rfl, ?_⟩
    refine ⟨_, rfl, x, _, dx, _, _, rfl, SB _ _ hx, T.cl_Schema, T.n_keys, rfl, ?_⟩
    refine ⟨_, rfl, rfl, rfl, ?_⟩
    have nek : ek ≠ D := fun z => by
      obtain ⟨_, e, _⟩ := hS.data.keys
      by_cases c : ek = ew
      · rw [← z, c, eL] at nD
        cases nD
      · rw [← z, off _ _ c e] at nD
        cases nD
    exact mk_new (S := dropRef S n) SB ⟨hSB.data.tabs, hSB.data.keys, ⟨kw1, eB, ent_off (fun _ _ e => WayT.ts tsB e) pD⟩⟩ nek (hS.ok.dropRef n) k
end
end K04

set_option Elab.async false
set_option linter.all false
set_option maxRecDepth 100000
set_option maxHeartbeats 4000000
open L2 in
local macro_rules | `(tactic| walk_at "q1") => `(tactic| first
  | refine ⟨_, rfl, ?_⟩
  | refine ⟨_, _, rfl, rfl, ?_⟩
  | refine And.intro (show CMul _ _ from Or.inr ⟨by decide, by decide⟩) ?_
  | refine And.intro (show CMul _ _ from Or.inl ⟨by first | decide | omega, by first | decide | omega⟩) ?_
  | refine And.intro (show CMul _ _ from Or.inr ⟨by omega, by omega⟩) ?_
  | refine And.intro (show CDiv _ _ from ⟨by omega, by omega⟩) ?_
  | refine And.intro (show Dt.CPowG _ _ from ⟨by decide, by decide +kernel⟩) ?_
  | refine And.intro (by first | decide | omega) ?_
  | refine And.intro (Int.pow_pos (Int.pow_pos (by decide))) ?_
  | refine ⟨_, _, _, _, rfl, rfl, SqL.of (by first | assumption | exact upd_same), (by rfl), ?_⟩
  | refine ⟨_, _, _, _, rfl, rfl, (by first | assumption | exact upd_same), (by rfl), ?_⟩
  | refine Or.inl ⟨_, rfl, ?_⟩
  | refine Or.inr ⟨_, rfl, ?_⟩)
local macro_rules | `(tactic| walk_at "q") => `(tactic| repeat (walk_at "q1"))
local macro_rules | `(tactic| walk_at "eqt") => `(tactic| (refine ⟨_, rfl, ?_⟩; refine ⟨rfl, ?_⟩; first
  | (refine ⟨true, rfl, ?_⟩; refine L2.iteT ?_)
  | (refine ⟨false, rfl, ?_⟩; refine L2.iteF ?_)))
local macro_rules | `(tactic| walk_at "sz") => `(tactic| (rw [PySem.sizeLine_eq]; simp))
namespace K04
open PySem PySem.Spec PyProof.Rows L2 Dt An Rp Sp4
section
variable {P : Program} {w : World} {K : PySem.W.Frag} {mg : Str → Option Value} {base : Heap} {a : Ads}
def usedKey (S : Sch) (t : Str) (k : List Str) : Prop := ∃ p ∈ S.W, p.2.par = t ∧ p.2.key = k
def dropKey (S : Sch) (t : Str) (k : List Str) : Sch := { S with L := (S.L.filter fun p => decide (p.1 ≠ t)) ++ (if (valsOf S.L t).filter (fun z => decide (z ≠ k)) = [] then [] else [(t, (valsOf S.L t).filter fun z => decide (z ≠ k))]) }
theorem vals_mem {α : Type} {X : List (Str × List α)} {t : Str} {y : α} (m : y ∈ valsOf X t) : (t, valsOf X t) ∈ X := by
  unfold valsOf at m ⊢
  cases e : X.find? (fun p => decide (p.1 = t)) with
  | none => rw [e] at m; cases m
  | some p =>
    have e2 : p.1 = t := by
      have := List.find?_some e
      simpa using this
    have m2 := List.mem_of_find?_eq_some e
    rw [← e2]
    exact m2
theorem SchOk.texts {S : Sch} (h : SchOk S) {t : Str} {cs : List Str} (m : (t, cs) ∈ S.T) : ∀ x ∈ cs, PyData.strOk x = true := fun x hx => name_ok ((h.tabs.cols _ m).1 x hx)
theorem SchOk.tabName {S : Sch} (h : SchOk S) {t : Str} (m : t ∈ S.T.map (·.1)) : PyData.strOk t = true := name_ok (h.tabs.names t m)
theorem SchOk.keyTexts {S : Sch} (h : SchOk S) {t : Str} {ks : List (List Str)} (m : (t, ks) ∈ S.L) : ∀ k ∈ ks, ∀ x ∈ k, PyData.strOk x = true := fun k hk x hx => by
  obtain ⟨cs, m2, _, _, k3, _⟩ := h.keys.keys _ m
  exact h.texts m2 x ((k3 k hk).2.2.1 x hx)
theorem SchOk.keyTab {S : Sch} (h : SchOk S) {t : Str} {ks : List (List Str)} (m : (t, ks) ∈ S.L) : t ∈ S.T.map (·.1) := by
  obtain ⟨cs, m2, _⟩ := h.keys.keys _ m
  exact List.mem_map.mpr ⟨_, m2, rfl⟩
theorem SchOk.dropKey {S : Sch} (h : SchOk S) {t : Str} {k : List Str} (hk : k ∈ valsOf S.L t) (nu : ¬ usedKey S t k) : SchOk (dropKey S t k) where
  tabs := h.tabs
  keys := ⟨by
    show (((S.L.filter fun p => decide (p.1 ≠ t)) ++ _).map (·.1)).Nodup
    rw [List.map_append, List.nodup_append]
    refine ⟨h.keys.nd.sublist (List.filter_sublist.map _), ?_, fun a ha b hb e => ?_⟩
    · split
      · exact List.nodup_nil
      · exact List.pairwise_singleton _ _
    · obtain ⟨p, hp, rfl⟩ := List.mem_map.mp ha
      have np : p.1 ≠ t := of_decide_eq_true (List.mem_filter.mp hp).2
      split at hb
      · cases hb
      · have := List.mem_singleton.mp hb
        exact np (e.trans this), fun p m => by
    rcases List.mem_append.mp m with m | m
    · exact h.keys.keys p (List.mem_filter.mp m).1
    · split at m
      · cases m
      · rename_i ne
        obtain rfl := List.mem_singleton.mp m
        obtain ⟨cs, c1, k1, k2, k3, k4⟩ := h.keys.keys _ (vals_mem hk)
        refine ⟨cs, c1, List.length_pos_iff.mpr ne, Nat.le_trans (List.length_filter_le _ _) k2, fun z hz => k3 z (List.mem_filter.mp hz).1, fun a b ha hb => ?_⟩
        exfalso
        have k2 : (valsOf S.L t).length ≤ 2 := k2
        generalize valsOf S.L t = V at hk k2 ha hb
        match V, hk, k2, ha, hb with
        | [], hk, _, _, _ => cases hk
        | [u], hk, _, ha, hb =>
          have e : u = k := (List.mem_singleton.mp hk).symm
          simp [e] at ha
        | [u, v], hk, _, ha, hb =>
          rcases List.mem_cons.mp hk with e | e
          · by_cases c : v = k <;> simp [← e, c] at ha hb
          · have e := List.mem_singleton.mp e
            by_cases c : u = k <;> simp [← e, c] at ha hb
        | _ :: _ :: _ :: _, _, k2, _, _ => exact absurd k2 (by simp)⟩
  ways := ⟨h.ways.n4, h.ways.names, h.ways.nd, fun p m => by
    have r := h.ways.ways p m
    refine ⟨r.tab, r.par, r.ne, ?_, r.len, r.nd⟩
    obtain ⟨ks, m1, m2⟩ := r.key
    by_cases c : p.2.par = t
    · have e : valsOf S.L t = ks := vals_in h.keys.nd (c ▸ m1)
      have nk : p.2.key ≠ k := fun z => nu ⟨p, m, c, z⟩
      have ml : p.2.key ∈ (valsOf S.L t).filter fun z => decide (z ≠ k) := List.mem_filter.mpr ⟨by rw [e]; exact m2, decide_eq_true nk⟩
      refine ⟨_, ?_, ml⟩
      show _ ∈ _ ++ _
      rw [if_neg (fun z => by rw [z] at ml; cases ml), c]
      exact List.mem_append_right _ (List.mem_singleton.mpr rfl)
    · exact ⟨ks, List.mem_append_left _ (List.mem_filter.mpr ⟨m1, decide_eq_true c⟩), m2⟩, h.ways.rank⟩
def spNoKey (K : PySem.W.Frag) (C CO : Addr) : Sp := fun vs H Q E => ∃ x S et ek ew t c k, vs = [.ref x, .str t, .ref c] ∧ SchO C H x S et ek ew ∧ SqT K H c (k.map V.str) ∧ k ∈ valsOf S.L t ∧
  (usedKey S t k → ∀ H1, Same H H1 → E (.ref CO) none H1) ∧ (¬ usedKey S t k → NewSch C H (dropKey S t k) Q)
theorem ok_Schema_without_key (T : Txt K mg a) : FnOk P w K mg base (L2.CX P w) 7 a.Schema_without_key a.fd_Schema_without_key ps_Schema_without_key (spNoKey K a.c_Schema a.c_InvalidOperation) := by
  have F := T.F_Schema_without_key
  refine F.okX (k := 6) sc_Schema_without_key (fun vs H Q E h => ?_) (fun cdv A outer s H vs Q E hr h => ?_)
  · obtain ⟨x, S, et, ek, ew, t, c, key, rfl, hS, hc, hk, used, free⟩ := h
    rfl
  · obtain ⟨x, S, et, ek, ew, t, c, key, rfl, hS, hc, hk, used, free⟩ := h
    have hu := hu_of hr
    obtain ⟨kmv, kbS⟩ := kb_Schema___init__ T
    refine ⟨_, (pss_cons (ps_if (pt_cmpR (It.op_notInT (un65 hr)) (pv 2) (pe_meth (pv 0) T.cl_Schema T.m_keys_of (ok_Schema_keys_of T) (hr.mono (by decide)) (b_Schema_keys_of T) .nil never (pa_cons (pv 1) pa_nil)) (by rfl)) (pss_one (ps_raise rfl (takes_of rfl rfl rfl rfl) (pmk_own PySem.F.excBase_ValueError T.q_InvalidOperation T.g_c_InvalidOperation T.kp_InvalidOperation (raises_own T.b_InvalidOperation T.ty_InvalidOperation) (by rfl)))) pss_nil)
      (pss_cons (ps_if (pt_val (pe_callB (cr_any rfl) (by rfl) T.any (by decide +kernel) (pa_cons (pe_lock (pe_lc (own := [("target", 3)]) rfl sc_Schema_without_key.nd (pi_values (pe_fld (pv 0) rfl)) (blkOk_by (N := nm_Schema_without_key) (sc := defScope s_Schema_without_key) (by decide +kernel)) (fun _ _ _ _ _ => (pg_name (i := 3) sc_Schema_without_key.nd rfl (Or.inl rfl))) (fun _ _ _ _ _ => pts_nil) (fun _ _ _ _ _ => (pe_cmpR (r := rEqD K) (op_eqD hr.units) (pe_slice (r := Ts.rSlS K) Ts.sl_tupS (pv 3) (po_some pe_int) po_none) (pe_tup (pa_cons (pv 1) (pa_cons (pv 2) pa_nil))) (nomark _))))) pa_nil))) (pss_one (ps_raise rfl (takes_of rfl rfl rfl rfl) (pmk_own PySem.F.excBase_ValueError T.q_InvalidOperation T.g_c_InvalidOperation T.kp_InvalidOperation (raises_own T.b_InvalidOperation T.ty_InvalidOperation) (by rfl)))) pss_nil)
      (pss_cons (ps_set (i := 4) sc_Schema_without_key.nd rfl (Or.inl rfl) (pe_callTy call_tuple_of (by rfl) T.tuple (by decide +kernel) (pa_cons (pe_lc (own := [("key", 5)]) rfl sc_Schema_without_key.nd (pi_tup (pe_dget hu (pe_fld (pv 0) rfl) (pv 1) (fun _ _ => rfl))) (blkOk_by (N := nm_Schema_without_key) (sc := defScope s_Schema_without_key) (by decide +kernel)) (fun _ _ _ _ _ => (pg_name (i := 5) sc_Schema_without_key.nd rfl (Or.inl rfl))) (fun _ _ _ _ _ => (pts_one (pt_cmpR (r := rNeD K) (op_neD hr.units) (pv 5) (pv 2) (nomark _)))) (fun _ _ _ _ _ => (pv 5))) pa_nil)))
      (pss_cons (ps_lock (Dh.ps_setDc (t := false) (i := 6) (own := [("name", 7)]) hu rfl sc_Schema_without_key.nd rfl rfl (Dh.sw_dict rfl rfl rfl (by decide +kernel)) (pi_keys (pe_fld (pv 0) rfl)) (blkOk_by (N := nm_Schema_without_key) (sc := defScope s_Schema_without_key) (by decide +kernel)) ⟨(fun _ _ _ _ _ => (pg_name (i := 7) sc_Schema_without_key.nd rfl (Or.inl rfl))), (fun _ _ _ _ _ => (pts_one (pt_cmpR op_ne (pv 7) (pv 1) (nomark _)))), (fun _ _ _ _ _ => (pv 7)), (fun _ _ _ _ _ => (pe_dget hu (show PE _ _ (tFld K (tVar 0) "_keys") from pe_fld (pv 0) rfl) (pv 7) (fun _ _ => rfl)))⟩))
      (pss_cons (ps_if (pt_truth (pv 4) (by intro _; rfl)) (pss_one (ps_dput hu (pv 6) (pv 1) (pv 4) rfl)) pss_nil)
      (pss_one (ps_ret (pe_makeK T.mk_Schema (ok_Schema___init__ T) (hr.mono (by decide)) (by rfl) T.g_c_Schema kbS never (pa_cons (pe_fld (pv 0) rfl) pa_nil) (pk_cons (pv 6) (pk_cons (pe_fld (pv 0) rfl) pk_nil)))))))))), ?_⟩
    obtain ⟨dx, p1, p2, hx⟩ := hS.at_
    obtain ⟨kw, hw, pW⟩ := hS.data.ways
    obtain ⟨kt, ht, pT⟩ := hS.data.tabs
    obtain ⟨kk, hkk, pL⟩ := hS.data.keys
    have hm := vals_mem hk
    have htab := hS.ok.keyTab hm
    have okK := hS.ok.keyTexts hm
    have okk := okK _ hk
    have okt := hS.ok.tabName htab
    have nxw : x ≠ ew := fun z => by rw [z, hw] at hx; cases hx
    have nxk : x ≠ ek := fun z => by rw [z, hkk] at hx; cases hx
    have lw : kw.length = S.W.length := pW.length
    have n4 := hS.ok.ways.n4
    refine ⟨_, rfl, _, rfl, x, dx, _, rfl, hx, rfl, ?_⟩
    refine ⟨_, rfl, x, S, et, ek, ew, t, rfl, hS, htab, fun b0 H1 S1 hb0 => ?_⟩
    obtain ⟨bs0, hb0, pb0⟩ := hb0
    refine ⟨Sp4.kD key, (valsOf S.L t).map Sp4.kD, dp_key (sqt_same S1 hc), .tup (SqT.of hb0) (dp_keys pb0), sh_key _ okk, sh_keys _ okK, ?_⟩
    rw [any_key, decide_eq_true hk]
    refine ⟨_, rfl, ?_⟩
    refine iteF ?_
    unfold tNext
    dsimp only
    unfold tSeq
    have hw1 := S1 _ _ hw
    have hx1 := S1 _ _ hx
    refine ⟨ew, .dK kw, hw1, trivial, fun od => ?_⟩
    have off : Off ew H (upd H1 ew (.frz od (.dK kw))) := fun b u n e => by rw [upd_ne n]; exact S1 _ _ e
    have eL : upd H1 ew (.frz od (.dK kw)) ew = some (.frz od (.dK kw)) := upd_same
    generalize upd H1 ew (.frz od (.dK kw)) = HL at off eL ⊢
    refine ⟨_, rfl, x, _, dx, _, _, rfl, off _ _ nxw hx, T.cl_Schema, T.n_references, rfl, ew, od, kw, rfl, eL, fun D hD => ?_⟩
    refine lc_it (walk_values (o := od)) (fun i Hi => Same HL Hi ∧ Hi D = some (.lst (((S.W.take i).map fun p => decide (p.2.par = t ∧ p.2.key = key)).map V.bl))) ⟨sameNew hD, upd_same⟩ ?_ ?_ ?_
    · rintro i Hi hi ⟨Sm, _⟩
      exact Sm _ _ eL
    · rintro i y Hi Hi2 hi ⟨Sm, eD⟩ ⟨rfl, kx, hkx⟩
      obtain ⟨x1, hx1', _, b, ev, h1⟩ := paired_at pW hkx
      have ev : y = .ref b := ev
      subst ev
      obtain ⟨c2, kd, hb, hc2, hkd⟩ := h1.off off hw
      have hbi := Sm _ _ hb
      refine ⟨rfl, ?_⟩
      dsimp only [tYes]
      rw [if_pos rfl]
      refine ⟨_, rfl, _, rfl, b, _, rfl, SqT.of hbi, fun q Hq Sq hq => ?_⟩
      rw [show cutV [V.str x1.2.tab, .ref c2, .str x1.2.par, .ref kd] (some 2) none = [V.str x1.2.par, .ref kd] from Ts.cut_from _ 2] at hq
      refine ⟨_, rfl, _, rfl, by show 2 ≤ sizeLine; decide, fun p3 np3 => ?_⟩
      have S3 : Same Hq (upd Hq p3 (.tup [.str t, .ref c])) := sameNew np3
      have off3 : Off ew H (upd Hq p3 (.tup [.str t, .ref c])) := ((off.same Sm).same Sq).same S3
      have hp3 : upd Hq p3 (.tup [.str t, .ref c]) p3 = some (.tup [.str t, .ref c]) := upd_same
      have nDp : D ≠ p3 := fun z => by rw [← z, Sq _ _ eD] at np3; cases np3
      have eD3 := S3 _ _ (Sq _ _ eD)
      have Sm3 := (Sm.trans Sq).trans S3
      have hq3 := sqt_same S3 hq
      generalize upd Hq p3 (.tup [.str t, .ref c]) = Hr at off3 hp3 eD3 Sm3 hq3 ⊢
      have hc3 : SqT K Hr c (key.map V.str) := by
        rcases hc with (z | ⟨o, z⟩) | z
        · exact .inl (.inl (off3 _ _ (fun e => by rw [e, hw] at z; cases z) z))
        · exact .inl (.inr ⟨o, off3 _ _ (fun e => by rw [e, hw] at z; cases z) z⟩)
        · exact .inr z
      have hkd3 := Sm3 _ _ hkd
      have mW := List.mem_of_getElem? hx1'
      obtain ⟨ks2, m1, m2⟩ := (hS.ok.ways.ways _ mW).key
      refine ⟨Sp4.pairD x1.2.par x1.2.key, Sp4.pairD t key, .tup hq3 (.cons (.str _) (.cons (dp_key (SqT.of hkd3)) .nil)), .tup (SqT.of hp3) (.cons (.str _) (.cons (dp_key hc3) .nil)), sh_pair (hS.ok.tabName (hS.ok.ways.ways _ mW).par) (hS.ok.keyTexts m1 _ m2), sh_pair okt okk, ?_⟩
      rw [eqv_pair]
      refine ⟨_, eD3, by rw [List.length_map, List.length_map, List.length_take, sizeLine_eq]; omega, same_upd Sm3 hD, ?_⟩
      rw [take_at hx1', List.map_append, List.map_append]
      exact upd_same
    rintro H2 ⟨S2, eD⟩
    rw [lw, List.take_length] at eD
    have nDw : D ≠ ew := fun z => by rw [z, eL] at hD; cases hD
    refine ⟨S2 _ _ eL, ?_⟩
    have SB : Same H (upd H2 ew (.dK kw)) := (off.same S2).back hw
    have eDB : upd H2 ew (.dK kw) D = some (.lst ((S.W.map fun p => decide (p.2.par = t ∧ p.2.key = key)).map V.bl)) := by rw [upd_ne nDw]; exact eD
    generalize upd H2 ew (.dK kw) = HB at SB eDB ⊢
    refine ⟨D, _, rfl, .inl (.inl eDB), ?_⟩
    refine ⟨_, rfl, ?_⟩
    by_cases u : usedKey S t key
    · obtain ⟨p, hp, u1, u2⟩ := u
      rw [show ((S.W.map fun p => decide (p.2.par = t ∧ p.2.key = key)).any id) = true from List.any_eq_true.mpr ⟨true, List.mem_map.mpr ⟨p, hp, decide_eq_true ⟨u1, u2⟩⟩, rfl⟩]
      refine iteT ?_
      exact used ⟨p, hp, u1, u2⟩ HB SB
    rw [show ((S.W.map fun p => decide (p.2.par = t ∧ p.2.key = key)).any id) = false from by
      rw [Bool.eq_false_iff]
      intro z
      obtain ⟨v, hv, e⟩ := List.any_eq_true.mp z
      obtain ⟨p, hp, rfl⟩ := List.mem_map.mp hv
      have e : decide (p.2.par = t ∧ p.2.key = key) = true := e
      exact u ⟨p, hp, of_decide_eq_true e⟩]
    refine iteF ?_
    dsimp only
    obtain ⟨bk, bk1, bk2⟩ := val_ent pL hS.ok.keys.nd hm
    obtain ⟨ks1, ks2, ks3⟩ := KeyT.same SB bk2
    have hkB := SB _ _ hkk
    have hxB := SB _ _ hx
    refine ⟨_, rfl, x, _, dx, _, _, rfl, hxB, T.cl_Schema, T.n_keys, rfl, _, rfl, ek, .ref bk, rfl, .inl ⟨kk, .inr t, .inl hkB, rfl, bk1.symm⟩, ?_⟩
    refine ⟨bk, rfl, ⟨_, SqT.of ks2⟩, fun D2 hD2 => ?_⟩
    have lks : ks1.length = (valsOf S.L t).length := ks3.length
    have lk2 : (valsOf S.L t).length ≤ 2 := by
      obtain ⟨_, _, _, k2, _⟩ := hS.ok.keys.keys _ hm
      exact k2
    refine lc_it (walk_tup (K := K) (a := bk) (xs := ks1.map V.ref)) (fun i Hi => Same HB Hi ∧ ∃ zs : List Addr, Hi D2 = some (.lst (zs.map V.ref)) ∧ Paired (fun c z => HB c = some (.tup (z.map V.str))) zs (((valsOf S.L t).take i).filter fun z => decide (z ≠ key))) ⟨sameNew hD2, [], upd_same, .nil⟩ ?_ ?_ ?_
    · rintro i Hi hi ⟨Sm, _⟩
      exact SqT.of (Sm _ _ ks2)
    · rintro i y Hi Hi2 hi ⟨Sm, zs, eD, hz⟩ ⟨rfl, hy⟩
      rw [List.getElem?_map] at hy
      obtain ⟨b, hb, rfl⟩ := Option.map_eq_some_iff.mp hy
      obtain ⟨z, hz1, hz2⟩ := paired_at ks3 hb
      have okz := okK _ (List.mem_of_getElem? hz1)
      refine ⟨rfl, ?_⟩
      refine ⟨_, rfl, _, rfl, Sp4.kD z, Sp4.kD key, dp_key (SqT.of (Sm _ _ hz2)), dp_key (sqt_same (SB.trans Sm) hc), sh_key _ okz, sh_key _ okk, _, rfl, ?_⟩
      rw [eqv_key]
      have fl : ((valsOf S.L t).take (i + 1)).filter (fun z => decide (z ≠ key)) = ((valsOf S.L t).take i).filter (fun z => decide (z ≠ key)) ++ (if z ≠ key then [z] else []) := by
        rw [take_at hz1, List.filter_append]
        by_cases c : z = key <;> simp [c]
      have lz : zs.length ≤ 2 := by
        rw [hz.length]
        have := List.length_filter_le (fun z => decide (z ≠ key)) ((valsOf S.L t).take i)
        rw [List.length_take] at this
        omega
      by_cases c : z = key
      · rw [decide_eq_true c]
        refine iteF ⟨Sm, zs, eD, ?_⟩
        rw [fl, if_neg (fun e => e c), List.append_nil]
        exact hz
      · rw [decide_eq_false c]
        refine iteT ?_
        refine ⟨_, rfl, _, eD, by rw [List.length_map, sizeLine_eq]; omega, same_upd Sm hD2, zs ++ [b], by rw [List.map_append]; exact upd_same, ?_⟩
        rw [fl, if_pos c]
        exact paired_snoc hz hz2
    rintro H4 ⟨S4, zs, eD4, hz⟩
    rw [List.length_map, lks, List.take_length] at hz
    refine ⟨D2, _, rfl, .inl ⟨SqL.of eD4, fun l hl => ?_⟩⟩
    generalize EH5 : upd H4 l _ = H5
    have hl5 := (congrFun EH5 l).symm.trans upd_same
    have S5 : Same H4 H5 := by rw [← EH5]; exact sameNew hl
    have SB5 := (SB.trans S4).trans S5
    have hl5k : KeyT H5 l ((valsOf S.L t).filter fun z => decide (z ≠ key)) := ⟨zs, hl5, Paired.mapP hz fun _ _ e => S5 _ _ (S4 _ _ e)⟩
    have hk5 := SB5 _ _ hkk
    have lL := len_keys hS.ok
    refine ⟨ek, .dK kk, hk5, trivial, fun od2 => ?_⟩
    have off2 : Off ek H (upd H5 ek (.frz od2 (.dK kk))) := fun b u n e => by rw [upd_ne n]; exact SB5 _ _ e
    have eL2 : upd H5 ek (.frz od2 (.dK kk)) ek = some (.frz od2 (.dK kk)) := upd_same
    have nlk : l ≠ ek := fun z => by rw [z, hk5] at hl5; cases hl5
    have ts5 : TS H5 (upd H5 ek (.frz od2 (.dK kk))) := TS.off Off.lock fun ys z => by rw [hk5] at z; cases z
    have hl6k := KeyT.ts ts5 hl5k
    generalize upd H5 ek (.frz od2 (.dK kk)) = HM at off2 eL2 hl6k ⊢
    refine part_it (K := K) (R := KeyT) (fun s e => KeyT.same s e) (fun o h e => KeyT.off o h e) (i := 1) (j := 7) (by decide) (by decide) (σ := [some (.ref x), some (.str t), some (.ref c), none, some (.ref l), none, none, none]) T.cl_Schema T.n_keys (d := ek) rfl rfl rfl (by show 7 < 8; omega) (off2 _ _ nxk hx) eL2 (ent_off (fun _ _ e => KeyT.off off2 hkk e) pL) hS.ok.keys.nd (by omega) fun D3 H6 kk1 S6 nD3 eD3 pD3 => ?_
    refine ⟨S6 _ _ eL2, ?_⟩
    have nDk : D3 ≠ ek := fun z => by rw [z, eL2] at nD3; cases nD3
    have SB7 : Same H (upd H6 ek (.dK kk)) := (off2.same S6).back hkk
    have eD7 : upd H6 ek (.dK kk) D3 = some (.dK kk1) := by rw [upd_ne nDk]; exact eD3
    have ts7 : TS H6 (upd H6 ek (.dK kk)) := TS.off Off.lock fun ys z => by rw [S6 _ _ eL2] at z; cases z
    have hl7k := KeyT.ts ts7 (KeyT.same S6 hl6k)
    have pD7 := ent_off (fun _ _ e => KeyT.ts ts7 e) pD3
    have nDH : H D3 = none := by
      cases e : H D3 with
      | none => rfl
      | some o => rw [off2 _ _ nDk e] at nD3; cases nD3
    generalize upd H6 ek (.dK kk) = H7 at SB7 eD7 hl7k pD7 ⊢
    have nwD : D3 ≠ ew := fun z => by rw [z, hw] at nDH; cases nDH
    obtain ⟨bs7, c1, c2⟩ := hl7k
    have lb : bs7.length = ((valsOf S.L t).filter fun z => decide (z ≠ key)).length := c2.length
    refine ⟨_, rfl, _, .inr (.inl ⟨_, SqT.of c1, rfl⟩), ?_⟩
    have fin : ∀ H8 : Hp, Same H H8 → (∃ kk8, H8 D3 = some (.dK kk8) ∧ Paired (EntOf (KeyT H8)) kk8 (dropKey S t key).L) → (tRet (tMakeK a.c_Schema 1 2 (spInitS K a.c_Schema) (fun vs zs => vs ++ zs) (fun _ _ _ => False) (tCons (tFld K (tVar 0) "_tables") tNil) (tCons (tVar 6) (tCons (tFld K (tVar 0) "_references") tNil)))) { nx := fun _ H' => Q .non H', rt := Q } [some (.ref x), some (.str t), some (.ref c), none, some (.ref l), none, some (.ref D3), none] H8 := fun H8 S8 h8 => by
      have hS8 := hS.same S8
      refine ⟨_, rfl, x, _, dx, _, _, rfl, S8 _ _ hx, T.cl_Schema, T.n_tables, rfl, ?_⟩
      refine ⟨_, rfl, ?_⟩
      refine ⟨_, rfl, x, _, dx, _, _, rfl, S8 _ _ hx, T.cl_Schema, T.n_references, rfl, ?_⟩
      refine ⟨rfl, rfl, ?_⟩
      exact mk_new (S := dropKey S t key) S8 ⟨hS8.data.tabs, h8, hS8.data.ways⟩ nwD (hS.ok.dropKey hk u) (free u)
    cases e : bs7 with
    | nil =>
      refine iteF ?_
      refine fin H7 SB7 ⟨kk1, eD7, ?_⟩
      rw [e] at lb
      show Paired _ _ (_ ++ _)
      rw [if_pos (List.eq_nil_of_length_eq_zero lb.symm), List.append_nil]
      exact pD7
    | cons b0 br =>
      refine iteT ?_
      have no : valV kk1 (.inr t) = none := val_no pD7 fun m => by
        obtain ⟨p, hp, ep⟩ := List.mem_map.mp m
        exact of_decide_eq_true (List.mem_filter.mp hp).2 ep
      have lk1 : kk1.length ≤ 5 := by
        rw [pD7.length]
        exact Nat.le_trans (List.length_filter_le _ _) lL
      refine ⟨_, rfl, _, rfl, _, rfl, D3, _, rfl, .inl ⟨kk1, .inr t, eD7, rfl, by rw [sizeLine_eq]; omega, rfl⟩, ?_⟩
      rw [putK_new _ no]
      have S78 : Off D3 H7 (upd H7 D3 (.dK (kk1 ++ [(Sum.inr t, V.ref l)]))) := Off.lock
      have ts8 : TS H7 (upd H7 D3 (.dK (kk1 ++ [(Sum.inr t, V.ref l)]))) := TS.off S78 fun ys z => by rw [eD7] at z; cases z
      refine fin _ (fun b o e => S78 b o (fun z => by rw [z, nDH] at e; cases e) (SB7 _ _ e)) ⟨_, upd_same, ?_⟩
      rw [e] at lb
      show Paired _ _ (_ ++ _)
      rw [if_neg (fun z => by rw [z] at lb; cases lb)]
      exact paired_snoc (ent_off (fun _ _ e => KeyT.ts ts8 e) pD7) ⟨rfl, l, rfl, KeyT.ts ts8 ⟨bs7, c1, c2⟩⟩
end
end K04

set_option Elab.async false
set_option linter.all false
set_option maxRecDepth 100000
set_option maxHeartbeats 4000000
open L2 in
local macro_rules | `(tactic| walk_at "q1") => `(tactic| first
  | refine ⟨_, rfl, ?_⟩
  | refine ⟨_, _, rfl, rfl, ?_⟩
  | refine And.intro (show CMul _ _ from Or.inr ⟨by decide, by decide⟩) ?_
  | refine And.intro (show CMul _ _ from Or.inl ⟨by first | decide | omega, by first | decide | omega⟩) ?_
  | refine And.intro (show CMul _ _ from Or.inr ⟨by omega, by omega⟩) ?_
  | refine And.intro (show CDiv _ _ from ⟨by omega, by omega⟩) ?_
  | refine And.intro (show Dt.CPowG _ _ from ⟨by decide, by decide +kernel⟩) ?_
  | refine And.intro (by first | decide | omega) ?_
  | refine And.intro (Int.pow_pos (Int.pow_pos (by decide))) ?_
  | refine ⟨_, _, _, _, rfl, rfl, SqL.of (by first | assumption | exact upd_same), (by rfl), ?_⟩
  | refine ⟨_, _, _, _, rfl, rfl, (by first | assumption | exact upd_same), (by rfl), ?_⟩
  | refine Or.inl ⟨_, rfl, ?_⟩
  | refine Or.inr ⟨_, rfl, ?_⟩)
local macro_rules | `(tactic| walk_at "q") => `(tactic| repeat (walk_at "q1"))
local macro_rules | `(tactic| walk_at "eqt") => `(tactic| (refine ⟨_, rfl, ?_⟩; refine ⟨rfl, ?_⟩; first
  | (refine ⟨true, rfl, ?_⟩; refine L2.iteT ?_)
  | (refine ⟨false, rfl, ?_⟩; refine L2.iteF ?_)))
local macro_rules | `(tactic| walk_at "sz") => `(tactic| (rw [PySem.sizeLine_eq]; simp))
namespace K04
open PySem PySem.Spec PyProof.Rows L2 Dt An Rp Sp4
section
variable {P : Program} {w : World} {K : PySem.W.Frag} {mg : Str → Option Value} {base : Heap} {a : Ads}
def colD (T : List (Str × List Str)) : List (Key × PyData) := asD Sp4.kD T
def keyD (L : List (Str × List (List Str))) : List (Key × PyData) := asD Sp4.ksD L
def wayD (r : Way) : PyData := Sp4.wD r.tab r.cols r.par r.key
def refD (W : List (Str × Way)) : List (Key × PyData) := asD wayD W
instance : DecidableEq Way := fun a b => by
  cases a
  cases b
  simp only [Way.mk.injEq]
  exact inferInstance
theorem eqv_wayD (r q : Way) : PyData.eqv (wayD r) (wayD q) = decide (r = q) := by
  unfold wayD
  rw [eqv_way]
  cases r
  cases q
  simp only [Way.mk.injEq]
theorem dd_of {K : PySem.W.Frag} {H : Hp} {α : Type} {R : Addr → α → Prop} {f : α → PyData} : ∀ {ks : List (Key × V)} {X : List (Str × α)}, Paired (EntOf R) ks X → (∀ b, ∀ p ∈ X, R b p.2 → Dp K H (.ref b) (f p.2) ∧ SeqAt.shaped (f p.2) = true) → Dq1.PD K H ks (asD f X)
  | _, _, .nil, _ => .nil
  | _, _, .cons (a := e) (b := z) h t, g => by
    obtain ⟨h1, b, h2, h3⟩ := h
    refine .cons ⟨h1, ?_⟩ (dd_of t fun b p m r => g b p (List.mem_cons_of_mem _ m) r)
    rw [h2]
    exact g b z List.mem_cons_self h3
theorem asD_nd {α : Type} {f : α → PyData} {X : List (Str × α)} (n : (X.map (·.1)).Nodup) : ((asD f X).map (·.1)).Nodup := by
  rw [asD_keys]
  exact inr_nodup n
theorem dd_tabs {K : PySem.W.Frag} {H : Hp} {d : Addr} {kt : List (Key × V)} {S : Sch} (ok : SchOk S) (hd : Rd H d (.dK kt)) (p : Paired (EntOf (ColT H)) kt S.T) : Dq1.DD K H d (colD S.T) :=
  ⟨⟨kt, hd, dd_of p fun b q m r => ⟨dp_key (SqT.of r), sh_key _ (ok.texts (t := q.1) m)⟩⟩, asD_nd ok.tabs.nd⟩
theorem dd_keys {K : PySem.W.Frag} {H : Hp} {d : Addr} {kk : List (Key × V)} {S : Sch} (ok : SchOk S) (hd : Rd H d (.dK kk)) (p : Paired (EntOf (KeyT H)) kk S.L) : Dq1.DD K H d (keyD S.L) :=
  ⟨⟨kk, hd, dd_of p fun b q m r => by
    obtain ⟨bs, h1, h2⟩ := r
    exact ⟨.tup (SqT.of h1) (dp_keys h2), sh_keys _ (ok.keyTexts (t := q.1) m)⟩⟩, asD_nd ok.keys.nd⟩
theorem SchOk.refTexts {S : Sch} (h : SchOk S) {p : Str × Way} (m : p ∈ S.W) : PyData.strOk p.2.tab = true ∧ (∀ x ∈ p.2.cols, PyData.strOk x = true) ∧ PyData.strOk p.2.par = true ∧ ∀ x ∈ p.2.key, PyData.strOk x = true := by
  have r := h.ways.ways p m
  obtain ⟨cs, a1, a2⟩ := r.tab
  obtain ⟨ks, b1, b2⟩ := r.key
  exact ⟨h.tabName (List.mem_map.mpr ⟨_, a1, rfl⟩), fun x hx => h.texts a1 x (a2 x hx), h.tabName r.par, h.keyTexts b1 _ b2⟩
theorem dp_way {K : PySem.W.Frag} {H : Hp} {b : Addr} {r : Way} (h : WayT H b r) : Dp K H (.ref b) (wayD r) := by
  obtain ⟨c, k, h1, h2, h3⟩ := h
  exact .tup (SqT.of h1) (.cons (.str _) (.cons (dp_key (SqT.of h2)) (.cons (.str _) (.cons (dp_key (SqT.of h3)) .nil))))
theorem sh_wayD {S : Sch} (ok : SchOk S) {p : Str × Way} (m : p ∈ S.W) : SeqAt.shaped (wayD p.2) = true := by
  obtain ⟨a, b, c, d⟩ := ok.refTexts m
  exact sh_way a b c d
theorem dd_ways {K : PySem.W.Frag} {H : Hp} {d : Addr} {kw : List (Key × V)} {S : Sch} (ok : SchOk S) (hd : Rd H d (.dK kw)) (p : Paired (EntOf (WayT H)) kw S.W) : Dq1.DD K H d (refD S.W) :=
  ⟨⟨kw, hd, dd_of p fun b q m r => ⟨dp_way r, sh_wayD ok m⟩⟩, asD_nd ok.ways.nd⟩
/-- the same tables, keys and references -/
structure SameS (S S1 : Sch) : Prop where
  t : S.T.Perm S1.T
  k : S.L.Perm S1.L
  w : S.W.Perm S1.W
theorem eq_tabs {S S1 : Sch} (a : SchOk S) (b : SchOk S1) : Dq1.eqBy PyData.eqv (colD S.T) (colD S1.T) = true ↔ S.T.Perm S1.T := eqBy_perm (fun _ _ _ _ => eqv_key _ _) a.tabs.nd b.tabs.nd
theorem eq_keys {S S1 : Sch} (a : SchOk S) (b : SchOk S1) : Dq1.eqBy PyData.eqv (keyD S.L) (keyD S1.L) = true ↔ S.L.Perm S1.L := eqBy_perm (fun _ _ _ _ => eqv_keys _ _) a.keys.nd b.keys.nd
theorem eq_refs {S S1 : Sch} (a : SchOk S) (b : SchOk S1) : Dq1.eqBy PyData.eqv (refD S.W) (refD S1.W) = true ↔ S.W.Perm S1.W := eqBy_perm (fun _ _ _ _ => eqv_wayD _ _) a.ways.nd b.ways.nd
def spEqS (K : PySem.W.Frag) (C : Addr) : Sp := fun vs H Q _ => ∃ x S et ek ew v, vs = [.ref x, v] ∧ SchO C H x S et ek ew ∧
  ((∃ y S1 ft fk fw, v = .ref y ∧ SchO C H y S1 ft fk fw ∧ ∀ b, (b = true ↔ SameS S S1) → Q (.bl b) H) ∨ (∃ t, TyX K H v t ∧ PySem.W.kitOne K t (.ref C) = some false ∧ Q (.bl false) H))
theorem ok_Schema___eq__ (T : Txt K mg a) : FnOk P w K mg base CX0 1 a.Schema___eq__ a.fd_Schema___eq__ ps_Schema___eq__ (spEqS K a.c_Schema) := by
  have F := T.F_Schema___eq__
  refine F.ok (k := 0) sc_Schema___eq__ (fun vs H Q E h => ?_) (fun cdv A outer s H vs Q E hr h => ?_)
  · obtain ⟨x, S, et, ek, ew, v, rfl, hS, h⟩ := h
    rfl
  · obtain ⟨x, S, et, ek, ew, v, rfl, hS, h⟩ := h
    have hu := hu_of hr
    refine ⟨_, (pss_one (ps_ret (pe_and (pe_callB call_isi (by rfl) T.isinstance (by decide +kernel) (pa_cons (pv 1) (pa_cons (pe_glob (v := V.ref a.c_Schema) (by rfl) T.g_c_Schema (by rfl)) pa_nil))) (pe_and (pe_cmpR (Dq1.op_eqDk (un66 hr)) (pe_fld (pv 0) rfl) (pe_fld (pv 1) rfl) (nomark _)) (pe_and (pe_cmpR (Dq1.op_eqDk (un66 hr)) (pe_fld (pv 0) rfl) (pe_fld (pv 1) rfl) (nomark _)) (pe_one (pe_cmpR (Dq1.op_eqDk (un66 hr)) (pe_fld (pv 0) rfl) (pe_fld (pv 1) rfl) (nomark _)))))))), ?_⟩
    obtain ⟨dx, p1, p2, hx⟩ := hS.at_
    obtain ⟨kt, ht, pT⟩ := hS.data.tabs
    obtain ⟨kk, hk, pL⟩ := hS.data.keys
    obtain ⟨kw, hw, pW⟩ := hS.data.ways
    rcases h with ⟨y, S1, ft, fk, fw, rfl, hS1, k⟩ | ⟨t, ty, kt1, k⟩
    · obtain ⟨dy, q1, q2, hy⟩ := hS1.at_
      obtain ⟨lt, gt, rT⟩ := hS1.data.tabs
      obtain ⟨lk, gk, rL⟩ := hS1.data.keys
      obtain ⟨lw, gw, rW⟩ := hS1.data.ways
      refine ⟨_, rfl, _, .ref a.c_Schema, _, _, _, rfl, .own _, .base (.ins hy T.cl_Schema T.ti1 T.ti2 T.ti3 T.ti4), T.kt_Schema, _, rfl, ?_⟩
      refine iteT ?_
      refine ⟨_, rfl, x, _, dx, _, _, rfl, hx, T.cl_Schema, T.n_tables, rfl, _, rfl, y, _, dy, _, _, rfl, hy, T.cl_Schema, T.n_tables, rfl, ?_⟩
      refine ⟨et, ft, _, _, rfl, rfl, dd_tabs hS.ok (.inl ht) pT, dd_tabs hS1.ok (.inl gt) rT, ?_⟩
      have e1 := eq_tabs hS.ok hS1.ok
      refine ⟨_, rfl, ?_⟩
      cases q1' : Dq1.eqBy PyData.eqv (colD S.T) (colD S1.T) with
      | false =>
        rw [q1'] at e1
        exact iteF (k false ⟨fun z => (by cases z), fun z => e1.mpr z.t⟩)
      | true =>
        rw [q1'] at e1
        refine iteT ?_
        refine ⟨_, rfl, x, _, dx, _, _, rfl, hx, T.cl_Schema, T.n_keys, rfl, _, rfl, y, _, dy, _, _, rfl, hy, T.cl_Schema, T.n_keys, rfl, ?_⟩
        refine ⟨ek, fk, _, _, rfl, rfl, dd_keys hS.ok (.inl hk) pL, dd_keys hS1.ok (.inl gk) rL, ?_⟩
        have e2 := eq_keys hS.ok hS1.ok
        refine ⟨_, rfl, ?_⟩
        cases q2' : Dq1.eqBy PyData.eqv (keyD S.L) (keyD S1.L) with
        | false =>
          rw [q2'] at e2
          exact iteF (k false ⟨fun z => (by cases z), fun z => e2.mpr z.k⟩)
        | true =>
          rw [q2'] at e2
          refine iteT ?_
          refine ⟨_, rfl, x, _, dx, _, _, rfl, hx, T.cl_Schema, T.n_references, rfl, _, rfl, y, _, dy, _, _, rfl, hy, T.cl_Schema, T.n_references, rfl, ?_⟩
          refine ⟨ew, fw, _, _, rfl, rfl, dd_ways hS.ok (.inl hw) pW, dd_ways hS1.ok (.inl gw) rW, ?_⟩
          exact k _ ((eq_refs hS.ok hS1.ok).trans ⟨fun z => ⟨e1.mp rfl, e2.mp rfl, z⟩, fun z => z.w⟩)
    · refine ⟨_, rfl, _, .ref a.c_Schema, _, _, _, rfl, .own _, ty, kt1, _, rfl, ?_⟩
      exact iteF k
def spStrS (C : Addr) : Sp := fun vs H Q _ => ∃ x S et ek ew, vs = [.ref x] ∧ SchO C H x S et ek ew ∧ ∀ z H1, Same H H1 → Q (.str z) H1
theorem ok_Schema___str__ (T : Txt K mg a) : FnOk P w K mg base CX0 2 a.Schema___str__ a.fd_Schema___str__ ps_Schema___str__ (spStrS a.c_Schema) := by
  have F := T.F_Schema___str__
  refine F.ok (k := 1) sc_Schema___str__ (fun vs H Q E h => ?_) (fun cdv A outer s H vs Q E hr h => ?_)
  · obtain ⟨x, S, et, ek, ew, rfl, hS, k⟩ := h
    rfl
  · obtain ⟨x, S, et, ek, ew, rfl, hS, k⟩ := h
    have hu := hu_of hr
    refine ⟨_, (pss_one (ps_ret (pe_joined (PJ.cons pe_str (PJ.cons (pe_fmt (pe_callB call_lenD (by rfl) T.len (by decide +kernel) (pa_cons (pe_fld (pv 0) rfl) pa_nil))) (PJ.cons pe_str (PJ.cons (pe_fmt (pe_call (ok__many T) (hr.mono (by decide)) (by rfl) T.g__many T.F__many.kp (b__many T) .nil pass0 (pa_cons (pe_fld (pv 0) rfl) pa_nil))) (PJ.cons pe_str (PJ.cons (pe_fmt (pe_callB call_lenD (by rfl) T.len (by decide +kernel) (pa_cons (pe_fld (pv 0) rfl) pa_nil))) (PJ.cons pe_str PJ.nil)))))))))), ?_⟩
    obtain ⟨dx, p1, p2, hx⟩ := hS.at_
    obtain ⟨kt, ht, pT⟩ := hS.data.tabs
    obtain ⟨kk, hk, pL⟩ := hS.data.keys
    obtain ⟨kw, hw, pW⟩ := hS.data.ways
    have n5 := hS.ok.tabs.n5
    have n4 := hS.ok.ways.n4
    have lL := len_keys hS.ok
    have lit : ∀ {y : Str} {n : Nat}, y.length = n → n ≤ 12 → y.length ≤ 12 := fun e l => e ▸ l
    have add : ∀ {a b : Str} {A : Nat}, a.length ≤ A → b.length ≤ 12 → A ≤ 1000 → (a ++ b).length ≤ A + 12 ∧ (a ++ b).length ≤ sizeLine := fun ha hb l => by
      have := PySem.W.KT.len_app ha hb
      rw [sizeLine_eq]
      omega
    have num : ∀ {i : Int}, 0 ≤ i → i ≤ 100000 → (Str.ofString (toString i)).length ≤ 12 := fun h0 h1 => Nat.le_trans (PySem.W.KT.len_num h0 (by omega)) (by decide)
    have small : ∀ {i : Int}, 0 ≤ i → i ≤ 100000 → i.natAbs.log2 < 1920 := fun {i} h0 h1 => by
      have : i.natAbs < 2 ^ 1920 := Nat.lt_of_le_of_lt (m := 100000) (by omega) (by decide +kernel)
      by_cases c : i.natAbs = 0
      · rw [c]
        decide
      · exact (Nat.log2_lt c).mpr this
    have z0 : (Str.empty ++ Str.ofString "schema of ").length ≤ 12 := by decide +kernel
    refine ⟨_, rfl, by decide +kernel, ?_⟩
    have i0 : (0 : Int) ≤ (kt.length : Nat) ∧ ((kt.length : Nat) : Int) ≤ 100000 := by have := pT.length; omega
    refine ⟨_, rfl, x, _, dx, _, _, rfl, hx, T.cl_Schema, T.n_tables, rfl, et, kt, rfl, ht, .inr ⟨_, rfl, small i0.1 i0.2, ?_⟩⟩
    obtain ⟨z1, y1⟩ := add z0 (num i0.1 i0.2) (by decide)
    refine ⟨_, rfl, y1, ?_⟩
    obtain ⟨z2, y2⟩ := add z1 (show (Str.ofString " tables, ").length ≤ 12 by decide +kernel) (by decide)
    refine ⟨_, rfl, y2, ?_⟩
    refine ⟨_, rfl, x, _, dx, _, _, rfl, hx, T.cl_Schema, T.n_keys, rfl, ?_⟩
    refine ⟨ek, kk, S.L, rfl, hk, pL, nd_ent pL hS.ok.keys.nd, by omega, fun p m => by
      obtain ⟨_, _, _, k2, _⟩ := hS.ok.keys.keys p m
      omega, fun n H1 S1 n0 n1 => .inr ⟨n, rfl, small n0 n1, ?_⟩⟩
    obtain ⟨z3, y3⟩ := add z2 (num n0 n1) (by decide)
    refine ⟨_, rfl, y3, ?_⟩
    obtain ⟨z4, y4⟩ := add z3 (show (Str.ofString " keys, ").length ≤ 12 by decide +kernel) (by decide)
    refine ⟨_, rfl, y4, ?_⟩
    have i2 : (0 : Int) ≤ (kw.length : Nat) ∧ ((kw.length : Nat) : Int) ≤ 100000 := by have := pW.length; omega
    refine ⟨_, rfl, x, _, dx, _, _, rfl, S1 _ _ hx, T.cl_Schema, T.n_references, rfl, ew, kw, rfl, S1 _ _ hw, .inr ⟨_, rfl, small i2.1 i2.2, ?_⟩⟩
    obtain ⟨z5, y5⟩ := add z4 (num i2.1 i2.2) (by decide)
    refine ⟨_, rfl, y5, ?_⟩
    obtain ⟨z6, y6⟩ := add z5 (show (Str.ofString " references").length ≤ 12 by decide +kernel) (by decide)
    exact ⟨_, rfl, y6, k _ H1 S1⟩
end
end K04

set_option Elab.async false
set_option linter.all false
set_option maxRecDepth 100000
set_option maxHeartbeats 4000000
open L2 in
local macro_rules | `(tactic| walk_at "q1") => `(tactic| first
  | refine ⟨_, rfl, ?_⟩
  | refine ⟨_, _, rfl, rfl, ?_⟩
  | refine And.intro (show CMul _ _ from Or.inr ⟨by decide, by decide⟩) ?_
  | refine And.intro (show CMul _ _ from Or.inl ⟨by first | decide | omega, by first | decide | omega⟩) ?_
  | refine And.intro (show CMul _ _ from Or.inr ⟨by omega, by omega⟩) ?_
  | refine And.intro (show CDiv _ _ from ⟨by omega, by omega⟩) ?_
  | refine And.intro (show Dt.CPowG _ _ from ⟨by decide, by decide +kernel⟩) ?_
  | refine And.intro (by first | decide | omega) ?_
  | refine And.intro (Int.pow_pos (Int.pow_pos (by decide))) ?_
  | refine ⟨_, _, _, _, rfl, rfl, SqL.of (by first | assumption | exact upd_same), (by rfl), ?_⟩
  | refine ⟨_, _, _, _, rfl, rfl, (by first | assumption | exact upd_same), (by rfl), ?_⟩
  | refine Or.inl ⟨_, rfl, ?_⟩
  | refine Or.inr ⟨_, rfl, ?_⟩)
local macro_rules | `(tactic| walk_at "q") => `(tactic| repeat (walk_at "q1"))
local macro_rules | `(tactic| walk_at "eqt") => `(tactic| (refine ⟨_, rfl, ?_⟩; refine ⟨rfl, ?_⟩; first
  | (refine ⟨true, rfl, ?_⟩; refine L2.iteT ?_)
  | (refine ⟨false, rfl, ?_⟩; refine L2.iteF ?_)))
local macro_rules | `(tactic| walk_at "sz") => `(tactic| (rw [PySem.sizeLine_eq]; simp))
namespace K04
open PySem PySem.Spec PyProof.Rows L2 Dt An Rp Sp4
section
variable {P : Program} {w : World} {K : PySem.W.Frag} {mg : Str → Option Value} {base : Heap} {a : Ads}
theorem ok_dice (T : Txt K mg a) : FnOk P w K mg base CX0 1 a.dice a.fd_dice ps__law_dice (spDice K) := by
  have F := T.F_dice
  refine F.ok (k := 0) sc__law_dice (fun vs H Q E h => ?_) (fun cdv A outer s H vs Q E hr h => ?_)
  · obtain ⟨s0, ns, i, rfl, hS, hl, hi, k⟩ := h
    rfl
  · obtain ⟨s0, ns, i, rfl, hS, hl, hi, k⟩ := h
    have hu := hu_of hr
    refine ⟨_, (pss_cons (ps_set (i := 2) sc__law_dice.nd rfl (Or.inl rfl) (pe_ifExp (pt_cmpR op_lt (pv 1) (pe_callB call_len (by rfl) T.len (by decide +kernel) (pa_cons (pv 0) pa_nil)) (nomark _)) (pe_ix ix_list (pv 0) (pv 1) (fun _ _ => rfl)) (pe_op op_add (pe_op op_mul pe_int (pv 1)) pe_int)))
      (pss_cons (ps_set (i := 3) sc__law_dice.nd rfl (Or.inl rfl) (pe_op op_mod (pe_callTy call_int1 (by rfl) T.int (by decide +kernel) (pa_cons (pe_callB call_abs (by rfl) T.abs (by decide +kernel) (pa_cons (pv 2) pa_nil)) pa_nil)) (pe_op op_powG (pe_op op_powG pe_int pe_int) pe_int)))
      (pss_cons (ps_set (i := 4) sc__law_dice.nd rfl (Or.inl rfl) (pe_op op_add (pe_op op_add (pe_op op_add (pe_op op_mul (pv 3) pe_int) (pe_op op_mul pe_int (pv 1))) (pe_op op_mul pe_int (pe_callTy call_int1 (by rfl) T.int (by decide +kernel) (pa_cons (pe_cmpR op_lt (pv 2) pe_int (nomark _)) pa_nil)))) pe_int))
      (pss_one (ps_ret (pe_lst (pa_cons (pe_callB (call_max2 rfl) (by rfl) T.max (by decide +kernel) (pa_cons pe_int (pa_cons (pe_op op_sub (pv 3) (pe_op op_powG pe_int pe_int)) pa_nil))) (pa_cons (pe_op op_mod (pe_callTy call_int1 (by rfl) T.int (by decide +kernel) (pa_cons (pv 4) pa_nil)) pe_int) (pa_cons pe_int pa_nil))))))))), ?_⟩
    refine ⟨_, rfl, _, rfl, _, _, rfl, .inl ⟨_, hS, rfl⟩, _, _, rfl, rfl, _, rfl, ?_⟩
    refine iteD (fun c => ?_) (fun c => ?_)
    · have hlt : i < ns.length := by simpa using c
      refine ⟨_, rfl, _, rfl, s0, _, i, .int ns[i], rfl, rfl, hS, atI_nat (by simp [hlt]), ?_⟩
      walk_at "q"
      refine ⟨_, _, rfl, ?_⟩
      walk_at "q"
      refine ⟨by show 3 ≤ sizeLine; decide, fun p hp => ?_⟩
      exact k p _ hp ⟨_, _, _, upd_same⟩ fun b o e => by rw [upd_ne (ne_of_none e hp)]; exact e
    · walk_at "q"
      refine ⟨_, _, rfl, ?_⟩
      walk_at "q"
      refine ⟨by show 3 ≤ sizeLine; decide, fun p hp => ?_⟩
      exact k p _ hp ⟨_, _, _, upd_same⟩ fun b o e => by rw [upd_ne (ne_of_none e hp)]; exact e
theorem ok_roll (T : Txt K mg a) : FnOk P w K mg base CX0 1 a.roll a.fd_roll ps__law_roll spRoll := by
  have F := T.F_roll
  refine F.ok (k := 0) sc__law_roll (fun vs H Q E h => ?_) (fun cdv A outer s H vs Q E hr h => ?_)
  · obtain ⟨d, n, rfl, ⟨x, y, z, hH⟩, h0, h1, k⟩ := h
    rfl
  · obtain ⟨d, n, rfl, ⟨x, y, z, hH⟩, h0, h1, k⟩ := h
    have hu := hu_of hr
    refine ⟨_, (pss_cons (ps_if (pt_cmpR op_gt (pe_ix ix_list (pv 0) pe_int (fun _ _ => rfl)) pe_int (nomark _)) (pss_cons (ps_set (i := 2) sc__law_roll.nd rfl (Or.inl rfl) (pe_op op_mod (pe_callTy call_int1 (by rfl) T.int (by decide +kernel) (pa_cons (pe_ix ix_list (pv 0) pe_int (fun _ _ => rfl)) pa_nil)) (pv 1)))
      (pss_cons (ps_asg (pe_op op_fdiv (pe_ix ix_list (pv 0) pe_int (fun _ _ => rfl)) (pv 1)) (pg_sub (pv 0) pe_int set_list))
      (pss_one (ps_ret (pv 2))))) pss_nil)
      (pss_cons (ps_asg (pe_op op_add (pe_ix ix_list (pv 0) pe_int (fun _ _ => rfl)) pe_int) (pg_sub (pv 0) pe_int set_list))
      (pss_cons (ps_set (i := 3) sc__law_roll.nd rfl (Or.inl rfl) (pe_op op_mod (pe_callTy call_int1 (by rfl) T.int (by decide +kernel) (pa_cons (pe_op op_add (pe_ix ix_list (pv 0) pe_int (fun _ _ => rfl)) (pe_op op_mul pe_int (pe_ix ix_list (pv 0) pe_int (fun _ _ => rfl)))) pa_nil)) pe_int))
      (pss_cons (ps_set (i := 4) sc__law_roll.nd rfl (Or.inl rfl) (pe_op op_add (pe_op op_mul (pe_op op_mod (pe_callTy call_int1 (by rfl) T.int (by decide +kernel) (pa_cons (pe_op op_mul (pv 3) (pv 3)) pa_nil)) pe_int) (pv 3)) (pe_op op_mul pe_int (pe_ix ix_list (pv 0) pe_int (fun _ _ => rfl)))))
      (pss_one (ps_ret (pe_op op_mod (pe_callTy call_int1 (by rfl) T.int (by decide +kernel) (pa_cons (pe_op op_fdiv (pe_op op_mod (pe_callTy call_int1 (by rfl) T.int (by decide +kernel) (pa_cons (pe_op op_add (pv 4) (pe_ix ix_list (pv 0) pe_int (fun _ _ => rfl))) pa_nil)) pe_int) pe_int) pa_nil)) (pv 1)))))))), ?_⟩
    walk_at "q"
    refine iteB (fun c => ?_) (fun c => ?_)
    · walk_at "q"
      refine k _ _ (Int.emod_nonneg _ (by omega)) (Int.emod_lt_of_pos _ h0) ⟨⟨_, _, _, upd_same⟩, fun b o hb e => ?_⟩
      rw [upd_ne hb]
      exact e
    · walk_at "q"
      refine k _ _ (Int.emod_nonneg _ (by omega)) (Int.emod_lt_of_pos _ h0) ⟨⟨_, _, _, upd_same⟩, fun b o hb e => ?_⟩
      rw [upd_ne hb]
      exact e
theorem ok_pick (T : Txt K mg a) : FnOk P w K mg base CX0 2 a.pick a.fd_pick ps__law_pick (spPick K) := by
  have F := T.F_pick
  refine F.ok (k := 1) sc__law_pick (fun vs H Q E h => ?_) (fun cdv A outer s H vs Q E hr h => ?_)
  · obtain ⟨d, y, xs, rfl, hD, hP, h0, h1, k⟩ := h
    rfl
  · obtain ⟨d, y, xs, rfl, hD, hP, h0, h1, k⟩ := h
    have hu := hu_of hr
    refine ⟨_, (pss_one (ps_ret (pe_ix ix_seq (pv 1) (pe_call (ok_roll T) (hr.mono (by decide)) (by rfl) T.g_roll T.F_roll.kp (b_roll T) .nil pass0 (pa_cons (pv 0) (pa_cons (pe_callB call_len (by rfl) T.len (by decide +kernel) (pa_cons (pv 1) pa_nil)) pa_nil))) (fun _ _ => rfl)))), ?_⟩
    have hx : (xs.length : Int) < 1073741824 := by omega
    cases y with
    | str z =>
      obtain rfl : xs = z.cps.toList.map fun c => V.str ⟨#[c]⟩ := hP
      have e : (z.cps.toList.map fun c => V.str ⟨#[c]⟩).length = z.length := by rw [List.length_map]; rfl
      rw [e] at h0 h1
      refine ⟨_, rfl, _, rfl, _, rfl, _, _, rfl, ⟨by rw [sizeLine_eq]; omega, rfl⟩, ⟨d, _, rfl, hD, by omega, by omega, fun r H' h2 h3 R => ?_⟩⟩
      obtain ⟨c, hc, hm⟩ := atI_ok (xs := z.cps.toList) h2 (by rw [show z.cps.toList.length = z.length from rfl]; exact h3)
      exact .inr (.inr ⟨z, r, c, rfl, rfl, by rw [sizeLine_eq]; omega, hc, k _ _ (List.mem_map.mpr ⟨c, hm, rfl⟩) R⟩)
    | ref p =>
      obtain ⟨hn, hq⟩ := hP
      have hL : LenV K (.ref p) H xs.length := hq.imp (fun q => ⟨xs, q, rfl⟩) fun q => ⟨xs, q, rfl⟩
      refine ⟨_, rfl, _, rfl, _, rfl, _, _, rfl, hL, ⟨d, _, rfl, hD, by omega, by omega, fun r H' h2 h3 R => ?_⟩⟩
      obtain ⟨v, hv, hm⟩ := atI_ok (xs := xs) h2 h3
      rcases hq with q | q
      · exact .inl ⟨p, xs, r, v, rfl, rfl, R.sqL hn q, hv, k _ _ hm R⟩
      · exact .inr (.inl ⟨p, xs, r, v, rfl, rfl, R.sqT hn q, hv, k _ _ hm R⟩)
    | _ => exact hP.elim
theorem die_same {H H1 : Hp} {a : Addr} (h : Die H a) (S : Same H H1) : Die H1 a := by
  obtain ⟨x, y, z, e⟩ := h
  exact ⟨x, y, z, S _ _ e⟩
theorem roll_same {H H1 H2 : Hp} {a : Addr} (r : Rolled a H H1) (S : Same H1 H2) : Rolled a H H2 := ⟨die_same r.die S, fun b o hb e => S b o (r.keep b o hb e)⟩
theorem same_roll {H H1 : Hp} {a : Addr} (h : Die H a) (S : Same H H1) : Rolled a H H1 := ⟨die_same h S, fun b o _ e => S b o e⟩
theorem free_of {H H1 : Hp} (S : Same H H1) {b : Addr} (h : H1 b = none) : H b = none := nn S h
theorem roll_upd {d l : Addr} {H H1 : Hp} {o : HO} (R : Rolled d H H1) (h : H l = none) (n : l ≠ d) : Rolled d H (upd H1 l o) := by
  obtain ⟨⟨x, y, z, e⟩, kp⟩ := R
  refine ⟨⟨x, y, z, by rw [upd_ne n.symm]; exact e⟩, fun b u hb eb => ?_⟩
  rw [upd_ne (ne_of_none eb h)]
  exact kp b u hb eb
theorem erase_perm {α : Type} {l : List α} {i : Nat} (h : i < l.length) : ([l[i]] ++ l.eraseIdx i).Perm l := by
  have e : l = l.take i ++ (l[i] :: l.drop (i + 1)) := by rw [← List.drop_eq_getElem_cons h, List.take_append_drop]
  rw [List.eraseIdx_eq_take_drop_succ]
  exact (List.perm_middle (l₁ := l.take i) (a := l[i]) (l₂ := l.drop (i + 1))).symm.trans (.of_eq e.symm)
def spMixed (K : PySem.W.Frag) : Sp := fun vs H Q _ => ∃ d l xs, vs = [.ref d, .ref l] ∧ Die H d ∧ (SqL K H l xs ∨ SqT K H l xs) ∧ xs.length ≤ 1000 ∧ ∀ z ys H', ys.Perm xs → Rolled d H H' → H z = none → H' z = some (.lst ys) → Q (.ref z) H'
theorem ok_mixed (T : Txt K mg a) : FnOk P w K mg base CX0 2 a.mixed a.fd_mixed ps__law_mixed (spMixed K) := by
  have F := T.F_mixed
  refine F.ok (k := 1) sc__law_mixed (fun vs H Q E h => ?_) (fun cdv A outer s H vs Q E hr h => ?_)
  · obtain ⟨d, l, xs, rfl, hD, hL, hsz, k⟩ := h
    rfl
  · obtain ⟨d, l, xs, rfl, hD, hL, hsz, k⟩ := h
    have hu := hu_of hr
    refine ⟨_, (pss_cons (ps_par (i := 2) (j := 3) rfl sc__law_mixed.nd rfl rfl (by decide) rfl rfl (pa_cons (pe_callTy call_list_of (by rfl) T.list (by decide +kernel) (pa_cons (pv 1) pa_nil)) (pa_cons (pe_lst pa_nil) pa_nil)) (by rfl))
      (pss_cons (ps_while PassesOwn.never (pt_cmpR (Le.op_neL hr.units) (pv 2) (pe_lst pa_nil) (nomark _)) (pss_one (ps_expr (pe_bm PySem.F.plainAttrs_list PySem.F.slot_list_append PySem.F.type_list_append mt_append (pv 3) (pa_cons (pe_bm PySem.F.plainAttrs_list PySem.F.slot_list_pop PySem.F.type_list_pop mt_popAt (pv 2) (pa_cons (pe_call (ok_roll T) (hr.mono (by decide)) (by rfl) T.g_roll T.F_roll.kp (b_roll T) .nil pass0 (pa_cons (pv 0) (pa_cons (pe_callB call_len (by rfl) T.len (by decide +kernel) (pa_cons (pv 2) pa_nil)) pa_nil))) pa_nil)) pa_nil)))))
      (pss_one (ps_ret (pv 3))))), ?_⟩
    refine ⟨_, rfl, l, xs, rfl, hL, fun l2 nl2 => ?_⟩
    generalize EH2 : upd H l2 _ = H2
    have g2 := (congrFun EH2 l2).symm.trans upd_same
    have S2 : Same H H2 := by rw [← EH2]; exact sameNew nl2
    refine ⟨(by show 0 ≤ sizeLine; decide), fun f0 nf0 => ?_⟩
    generalize EH3 : upd H2 f0 _ = H3
    have g3 := (congrFun EH3 f0).symm.trans upd_same
    have S3 : Same H2 H3 := by rw [← EH3]; exact sameNew nf0
    refine ⟨_, _, rfl, ?_⟩
    have D3 := die_same hD (S2.trans S3)
    have n2 : l2 ≠ d := hD.ne nl2
    have n3 : f0 ≠ d := (die_same hD S2).ne nf0
    have n23 : l2 ≠ f0 := ne_of_none g2 nf0
    have R3 : Rolled d H H3 := same_roll hD (S2.trans S3)
    refine ⟨fun m σ Hj => ∃ xl xf, σ = [some (.ref d), some (.ref l), some (.ref l2), some (.ref f0)] ∧ Rolled d H Hj ∧ Hj l2 = some (.lst xl) ∧ Hj f0 = some (.lst xf) ∧ (xf ++ xl).Perm xs ∧ xl.length = m, ⟨_, xs, [], rfl, R3, S3 _ _ g2, g3, .refl _, rfl⟩, ?_⟩
    rintro m σ Hj ⟨xl, xf, rfl, R, e2, e3, pm, hm⟩
    have lens : xf.length + xl.length = xs.length := by
      have := pm.length_eq
      rwa [List.length_append] at this
    refine ⟨_, rfl, (by show 0 ≤ sizeLine; decide), fun e0 ne0 => ?_⟩
    generalize EHk : upd Hj e0 _ = Hk
    have ge := (congrFun EHk e0).symm.trans upd_same
    have Sk : Same Hj Hk := by rw [← EHk]; exact sameNew ne0
    have k2 := Sk _ _ e2
    have k3 := Sk _ _ e3
    have Rk : Rolled d H Hk := R.trans (same_roll R.die Sk)
    cases xl with
    | nil =>
      refine .inl ⟨.list [], .list [], .lst (SqL.of k2) .nil, .lst (SqL.of ge) .nil, (by decide +kernel), (by decide +kernel), ?_⟩
      refine ⟨_, rfl, ?_⟩
      refine ite_f (by decide +kernel) ?_
      rw [List.append_nil] at pm
      exact ⟨_, rfl, k f0 xf Hk pm Rk (free_of S2 nf0) k3⟩
    | cons x0 xr =>
      have lx : (x0 :: xr).length ≤ 1000 := by omega
      refine .inr ⟨l2, e0, _, [], rfl, rfl, k2, ge, (by simp), ?_⟩
      refine ⟨_, rfl, ?_⟩
      refine iteT ?_
      refine ⟨_, fun _ _ h => h, ?_⟩
      refine ⟨_, rfl, .inl ⟨rfl, _, SqL.of k3⟩, ?_⟩
      refine ⟨_, rfl, .inl ⟨rfl, _, SqL.of k2⟩, ?_⟩
      refine ⟨_, rfl, _, rfl, _, _, rfl, .inl ⟨_, SqL.of k2, rfl⟩, d, _, rfl, Rk.die, (by simp), (by omega), fun r H5 r0 r1 R5 => ?_⟩
      have m2 := R5.keep l2 _ n2 k2
      have m3 := R5.keep f0 _ n3 k3
      have hi : r.toNat < (x0 :: xr).length := by omega
      refine ⟨l2, _, r, r.toNat, _, rfl, rfl, m2, by omega, by omega, seqIndex_of r0 r1, List.getElem?_eq_getElem hi, ?_⟩
      refine ⟨f0, xf, _, rfl, rfl, by rw [upd_ne n23.symm]; exact m3, by rw [sizeLine_eq]; omega, ?_⟩
      refine ⟨((x0 :: xr).eraseIdx r.toNat).length, by rw [List.length_eraseIdx_of_lt hi]; omega, _, _, rfl, roll_upd (roll_upd (Rk.trans R5) nl2 n2) (free_of S2 nf0) n3, by rw [upd_ne n23]; exact upd_same, upd_same, ?_, rfl⟩
      refine List.Perm.trans ?_ pm
      rw [List.append_assoc]
      exact List.Perm.append_left xf (erase_perm hi)
end
end K04

set_option Elab.async false
set_option linter.all false
set_option maxRecDepth 100000
set_option maxHeartbeats 4000000
open L2 in
local macro_rules | `(tactic| walk_at "q1") => `(tactic| first
  | refine ⟨_, rfl, ?_⟩
  | refine ⟨_, _, rfl, rfl, ?_⟩
  | refine And.intro (show CMul _ _ from Or.inr ⟨by decide, by decide⟩) ?_
  | refine And.intro (show CMul _ _ from Or.inl ⟨by first | decide | omega, by first | decide | omega⟩) ?_
  | refine And.intro (show CMul _ _ from Or.inr ⟨by omega, by omega⟩) ?_
  | refine And.intro (show CDiv _ _ from ⟨by omega, by omega⟩) ?_
  | refine And.intro (show Dt.CPowG _ _ from ⟨by decide, by decide +kernel⟩) ?_
  | refine And.intro (by first | decide | omega) ?_
  | refine And.intro (Int.pow_pos (Int.pow_pos (by decide))) ?_
  | refine ⟨_, _, _, _, rfl, rfl, SqL.of (by first | assumption | exact upd_same), (by rfl), ?_⟩
  | refine ⟨_, _, _, _, rfl, rfl, (by first | assumption | exact upd_same), (by rfl), ?_⟩
  | refine Or.inl ⟨_, rfl, ?_⟩
  | refine Or.inr ⟨_, rfl, ?_⟩)
local macro_rules | `(tactic| walk_at "q") => `(tactic| repeat (walk_at "q1"))
local macro_rules | `(tactic| walk_at "eqt") => `(tactic| (refine ⟨_, rfl, ?_⟩; refine ⟨rfl, ?_⟩; first
  | (refine ⟨true, rfl, ?_⟩; refine L2.iteT ?_)
  | (refine ⟨false, rfl, ?_⟩; refine L2.iteF ?_)))
local macro_rules | `(tactic| walk_at "sz") => `(tactic| (rw [PySem.sizeLine_eq]; simp))
namespace K04
open PySem PySem.Spec PyProof.Rows L2 Dt An Rp Sp4
section
variable {P : Program} {w : World} {K : PySem.W.Frag} {mg : Str → Option Value} {base : Heap} {a : Ads}
theorem join_ones : ∀ cs : List Nat, TL.joinL [] (cs.map fun c => [c]) = cs
  | [] => rfl
  | [_] => rfl
  | a :: b :: r => by
    have ih := join_ones (b :: r)
    show [a] ++ ([] ++ TL.joinL [] ((b :: r).map fun c => [c])) = _
    rw [ih]
    rfl
theorem join_S1 (cs : List Nat) : Txt.join (SX.S []) (cs.map fun c => SX.S [c]) = SX.S cs := by
  have e := SX.join_S [] (cs.map fun c => [c])
  rw [List.map_map, join_ones] at e
  exact e
def abc : Str := "abcdefghijklmnopqrstuvwxyz"
theorem abc_low : ∀ c ∈ abc.cps.toList, low c := by
  unfold low
  decide +kernel
/-- a list of names -/
def spNew (n : Nat) (d : Addr) (H : Hp) (Q : VK) : Prop := ∀ z zs H', Rolled d H H' → H z = none → H' z = some (.lst (zs.map V.str)) → zs.length = n → zs.Nodup → Nms zs → Q (.ref z) H'
def spNms : Sp := fun vs H Q _ => ∃ (d : Addr) (n : Nat), vs = [.ref d, .int n] ∧ Die H d ∧ n ≤ 12 ∧ spNew n d H Q
def lets : List Str := abc.cps.toList.map fun c => ⟨#[c]⟩
theorem lets_nd : lets.Nodup := by decide +kernel
theorem lets_nm : ∀ c ∈ lets, nameS c = true := by decide +kernel
def wrds : List Str := ["a", "ab", "all", "b", "by", "key", "part", "row", "self", "sum", "table", "z"]
theorem wrds_nm : ∀ c ∈ wrds, nameS c = true := by decide +kernel
theorem ok_names (T : Txt K mg a) : FnOk P w K mg base CX0 3 a.names a.fd_names ps__law_names spNms := by
  have F := T.F_names
  refine F.ok (k := 2) sc__law_names (fun vs H Q E h => ?_) (fun cdv A outer s H vs Q E hr h => ?_)
  · obtain ⟨d, n, rfl, hD, hn, k⟩ := h
    rfl
  · obtain ⟨d, n, rfl, hD, hn, k⟩ := h
    have hu := hu_of hr
    refine ⟨_, (pss_cons (ps_asg (pe_tup (pa_cons pe_str (pa_cons (pe_lst pa_nil) pa_nil))) (pg_tup rfl (pgs_cons (pg_name (i := 2) sc__law_names.nd rfl (Or.inr rfl)) (pgs_cons (pg_name (i := 3) sc__law_names.nd rfl (Or.inr rfl)) pgs_nil))))
      (pss_cons (ps_for PassesOwn.never rfl (pi_range1 (by rfl) T.range (pa_cons (pv 1) pa_nil)) (pg_name (i := 4) sc__law_names.nd rfl (Or.inl rfl)) (pss_cons (ps_set (i := 5) sc__law_names.nd rfl (Or.inl rfl) (pe_join pe_str (pe_lc (own := [("_law_at", 6)]) rfl sc__law_names.nd (pi_range1 (by rfl) T.range (pa_cons (pe_op op_add pe_int (pe_call (ok_roll T) (hr.mono (by decide)) (by rfl) T.g_roll T.F_roll.kp (b_roll T) .nil pass0 (pa_cons (pv 0) (pa_cons pe_int pa_nil)))) pa_nil)) (blkOk_by (N := nm__law_names) (sc := defScope s__law_names) (by decide +kernel)) (fun _ _ _ _ _ => (pg_name (i := 6) sc__law_names.nd rfl (Or.inl rfl))) (fun _ _ _ _ _ => pts_nil) (fun _ _ _ _ _ => (pe_ix ix_str (pv 2) (pe_call (ok_roll T) (hr.mono (by decide)) (by rfl) T.g_roll T.F_roll.kp (b_roll T) .nil pass0 (pa_cons (pv 0) (pa_cons pe_int pa_nil))) (fun _ _ => rfl))))))
      (pss_cons (ps_if (pt_cmpR op_eq (pe_call (ok_roll T) (hr.mono (by decide)) (by rfl) T.g_roll T.F_roll.kp (b_roll T) .nil pass0 (pa_cons (pv 0) (pa_cons pe_int pa_nil))) pe_int (nomark _)) (pss_one (ps_set (i := 5) sc__law_names.nd rfl (Or.inl rfl) (pe_call (ok_pick T) (hr.mono (by decide)) (by rfl) T.g_pick T.F_pick.kp (b_pick T) .nil pass0 (pa_cons (pv 0) (pa_cons (pe_lst (pa_cons pe_str (pa_cons pe_str (pa_cons pe_str (pa_cons pe_str (pa_cons pe_str (pa_cons pe_str (pa_cons pe_str (pa_cons pe_str (pa_cons pe_str (pa_cons pe_str (pa_cons pe_str (pa_cons pe_str pa_nil))))))))))))) pa_nil))))) pss_nil)
      (pss_one (ps_expr (pe_bm PySem.F.plainAttrs_list PySem.F.slot_list_append PySem.F.type_list_append mt_append (pv 3) (pa_cons (pe_ix ix_list (pe_lc (own := [("_law_one", 7)]) rfl sc__law_names.nd (pi_list (pe_op op_cat (pe_lst (pa_cons (pv 5) pa_nil)) (pe_callTy (Lx.call_listS rfl) (by rfl) T.list (by decide +kernel) (pa_cons (pv 2) pa_nil)))) (blkOk_by (N := nm__law_names) (sc := defScope s__law_names) (by decide +kernel)) (fun _ _ _ _ _ => (pg_name (i := 7) sc__law_names.nd rfl (Or.inl rfl))) (fun _ _ _ _ _ => (pts_one (pt_cmpR (r := rIn K true) op_notIn_seq (pv 7) (pv 3) (by rfl)))) (fun _ _ _ _ _ => (pv 7))) pe_int (fun _ _ => rfl)) pa_nil)))))))
      (pss_one (ps_ret (pv 3))))), ?_⟩
    refine ⟨by show 0 ≤ sizeLine; decide, fun f0 nf0 => ?_⟩
    generalize EH1 : upd H f0 _ = H1
    have hf0 := (congrFun EH1 f0).symm.trans upd_same
    have S1 : Same H H1 := by rw [← EH1]; exact sameNew nf0
    refine ⟨by show 2 ≤ sizeLine; decide, fun t0 nt0 => ?_⟩
    generalize EH2 : upd H1 t0 _ = H2
    have ht0 := (congrFun EH2 t0).symm.trans upd_same
    have S2 : Same H1 H2 := by rw [← EH2]; exact sameNew nt0
    refine ⟨t0, _, rfl, SqT.of ht0, rfl, _, _, rfl, _, _, rfl, rfl, ?_⟩
    have R02 : Rolled d H H2 := same_roll hD (S1.trans S2)
    have nfd : f0 ≠ d := hD.ne nf0
    refine ⟨_, rfl, (n : Int), rfl, by omega, by omega, ?_⟩
    rw [Int.toNat_natCast]
    refine for_range (lo := 0) (n := n) (fun i σ Hi => ∃ x4 x5 x6 x7 zs, σ = [some (.ref d), some (.int (n : Int)), some (.str abc), some (.ref f0), x4, x5, x6, x7] ∧ Hi f0 = some (.lst (zs.map V.str)) ∧ zs.length = i ∧ zs.Nodup ∧ Nms zs ∧ Rolled d H Hi) ⟨none, none, none, none, [], rfl, S2 _ _ hf0, rfl, List.nodup_nil, fun _ m => (by cases m), R02⟩ ?_ ?_
    · rintro i σ Hi hi ⟨x4, x5, x6, x7, zs, rfl, hz, lz, nz, mz, R⟩
      refine ⟨⟨_, rfl⟩, ?_⟩
      refine ⟨_, rfl, d, 8, rfl, R.die, by decide, by decide, fun r H3 r0 r1 R3 => ?_⟩
      obtain ⟨rr, rfl⟩ := Int.eq_ofNat_of_zero_le r0
      refine ⟨1, (rr : Int), rfl, rfl, ?_⟩
      refine ⟨_, rfl, by omega, by omega, fun D hD0 => ?_⟩
      rw [show (1 + (rr : Int)).toNat = rr + 1 from by omega]
      have RR3 := R.trans R3
      have hz3 := R3.keep _ _ nfd hz
      refine lc_range (lo := 0) (n := rr + 1) (fun j Hj => ∃ cs : List Nat, cs.length = j ∧ (∀ c ∈ cs, low c) ∧ Hj D = some (.lst (cs.map fun c => V.str (SX.S [c]))) ∧ Rolled d H3 Hj) ⟨[], rfl, (fun _ h => nomatch h), upd_same, (Rolled.refl RR3.die).new hD0⟩ ?_ ?_
      · rintro j Hj hj ⟨cs, lc, lo, e1, Rj⟩
        have nD : D ≠ d := RR3.die.ne hD0
        refine ⟨rfl, ?_⟩
        dsimp only [tYes]
        rw [if_pos rfl]
        refine ⟨_, rfl, _, rfl, d, 26, rfl, Rj.die, by decide, by decide, fun q H4 q0 q1 R4 => ?_⟩
        obtain ⟨c, hc, hm⟩ := atI_ok (xs := abc.cps.toList) q0 (by rw [show abc.cps.toList.length = 26 from by decide +kernel]; exact q1)
        refine ⟨abc, q, c, rfl, rfl, by decide +kernel, hc, ?_⟩
        refine ⟨_, R4.keep _ _ nD e1, ?_, cs ++ [c], ?_, ?_, ?_, ?_⟩
        · rw [List.length_map, sizeLine_eq]
          omega
        · rw [List.length_append, lc]
          rfl
        · intro x hx
          rcases List.mem_append.mp hx with hx | hx
          · exact lo x hx
          · rw [List.mem_singleton.mp hx]
            exact abc_low c hm
        · rw [upd_same, List.map_append]
          rfl
        · exact (Rj.trans R4).mut hD0 nD
      rintro H5 ⟨cs, lc, lo, e1, R5⟩
      refine ⟨_, D, cs.map fun c => SX.S [c], rfl, rfl, .inl (SqL.of (by rw [List.map_map]; exact e1)), ?_, ?_⟩
      · rw [List.map_map, List.length_map, lc]
        show (cs.map fun c => 1).sum + (rr + 1) * 0 ≤ _
        rw [List.map_const', List.sum_replicate_nat, lc]
        omega
      rw [show (Str.ofString "" : Str) = SX.S [] from rfl, join_S1]
      have nm5 : nameS (SX.S cs) = true := nameS_low (by omega) (by omega) lo
      generalize SX.S cs = wd at nm5
      have hz5 := R5.keep _ _ nfd hz3
      have RR5 := RR3.trans R5
      refine ⟨_, rfl, d, 2, rfl, R5.die, by decide, by decide, fun r H6 _ _ R6 => ?_⟩
      have hz6 := R6.keep _ _ nfd hz5
      have RR6 := RR5.trans R6
      refine ⟨rfl, _, rfl, ?_⟩
      refine iteD (fun _ => ?_) (fun _ => ?_)
      · refine ⟨_, rfl, by show 12 ≤ sizeLine; decide, fun pl npl => ?_⟩
        generalize EH7 : upd H6 pl _ = H7
        have hpl := (congrFun EH7 pl).symm.trans upd_same
        have S7 : Same H6 H7 := by rw [← EH7]; exact sameNew npl
        refine ⟨d, .ref pl, _, rfl, die_same RR6.die S7, ⟨RR6.die.ne npl, .inl (SqL.of hpl)⟩, by decide, by decide, fun v HF hv R8 => ?_⟩
        have hzF := R8.keep _ _ nfd (S7 _ _ hz6)
        have RF := (roll_same RR6 S7).trans R8
        obtain ⟨wd2, hw2, rfl⟩ := List.mem_map.mp (show v ∈ wrds.map V.str from hv)
        have nmF := wrds_nm _ hw2
        refine ⟨_, rfl, .inl ⟨rfl, _, SqL.of hzF⟩, ?_⟩
        refine ⟨_, rfl, by show 1 ≤ sizeLine; decide, fun l1 nl1 => ?_⟩
        generalize EHG : upd HF l1 _ = HG
        have hl1 := (congrFun EHG l1).symm.trans upd_same
        have SG : Same HF HG := by rw [← EHG]; exact sameNew nl1
        refine ⟨_, rfl, abc, rfl, by decide +kernel, fun l2 nl2 => ?_⟩
        generalize EHI : upd HG l2 _ = HI
        have hl2 := (congrFun EHI l2).symm.trans upd_same
        have SI : Same HG HI := by rw [← EHI]; exact sameNew nl2
        refine ⟨l1, l2, _, _, rfl, rfl, SI _ _ hl1, hl2, by rw [List.length_map, show (Lx.signs abc).length = 26 from by decide +kernel, sizeLine_eq]; simp, fun l3 nl3 => ?_⟩
        generalize EHJ : upd HI l3 _ = HJ
        have hl3 := (congrFun EHJ l3).symm.trans upd_same
        have SJ : Same HI HJ := by rw [← EHJ]; exact sameNew nl3
        have hl3 : HJ l3 = some (.lst ((wd2 :: lets).map V.str)) := hl3
        refine ⟨l3, rfl, ⟨_, SqL.of hl3⟩, fun D9 hD9 => ?_⟩
        have SF : Same HF HJ := (SG.trans SI).trans SJ
        have hzJ := SF _ _ hzF
        refine lc_it (walk_list (K := K) (a := l3) (xs := (wd2 :: lets).map V.str)) (fun q Hq => Same HJ Hq ∧ Hq D9 = some (.lst ((((wd2 :: lets).take q).filter fun z => decide (z ∉ zs)).map V.str))) ⟨sameNew hD9, upd_same⟩ ?_ ?_ ?_
        · rintro q Hq hq ⟨Sm, _⟩
          exact SqL.of (Sm _ _ hl3)
        · rintro q y Hq Hq2 hq ⟨Sm, eD⟩ ⟨rfl, hy⟩
          rw [List.getElem?_map] at hy
          obtain ⟨z, hz1, rfl⟩ := Option.map_eq_some_iff.mp hy
          refine ⟨rfl, ?_⟩
          refine ⟨_, rfl, _, rfl, f0, _, rfl, .inl (SqL.of (Sm _ _ hzJ)), rfl, flat_strs zs, ?_⟩
          rw [inV_strs]
          have fl : ((wd2 :: lets).take (q + 1)).filter (fun z => decide (z ∉ zs)) = ((wd2 :: lets).take q).filter (fun z => decide (z ∉ zs)) ++ (if z ∉ zs then [z] else []) := by
            rw [take_at hz1, List.filter_append]
            by_cases c : z ∈ zs <;> simp [c]
          have lq : (((wd2 :: lets).take q).filter (fun z => decide (z ∉ zs))).length ≤ 27 := by
            have := List.length_filter_le (fun z => decide (z ∉ zs)) ((wd2 :: lets).take q)
            rw [List.length_take, List.length_cons, show lets.length = 26 from by decide +kernel] at this
            omega
          refine ⟨_, rfl, ?_⟩
          by_cases c : z ∈ zs
          · rw [decide_eq_true c]
            refine iteF ⟨Sm, ?_⟩
            rw [fl, if_neg (fun e => e c), List.append_nil]
            exact eD
          · rw [decide_eq_false c]
            refine iteT ?_
            refine ⟨_, rfl, _, eD, by rw [List.length_map, sizeLine_eq]; omega, same_upd Sm hD9, ?_⟩
            rw [fl, if_pos c, List.map_append]
            exact upd_same
        rintro Hq ⟨Sq, eD⟩
        rw [List.length_map, List.take_length] at eD
        have ne : (wd2 :: lets).filter (fun z => decide (z ∉ zs)) ≠ [] := fun z => by
          have h26 := len_sub (B := zs) lets_nd fun y my => by
            by_cases c : y ∈ zs
            · exact c
            · have : y ∈ (wd2 :: lets).filter (fun z => decide (z ∉ zs)) := List.mem_filter.mpr ⟨List.mem_cons_of_mem _ my, decide_eq_true c⟩
              rw [z] at this
              cases this
          rw [show lets.length = 26 from by decide +kernel] at h26
          omega
        obtain ⟨w0, wr, ew⟩ := List.exists_cons_of_ne_nil ne
        have mw : w0 ∈ (wd2 :: lets).filter (fun z => decide (z ∉ zs)) := by rw [ew]; exact List.mem_cons_self
        obtain ⟨mw1, mw2⟩ := List.mem_filter.mp mw
        have nw : w0 ∉ zs := of_decide_eq_true mw2
        refine ⟨D9, _, 0, .str w0, rfl, rfl, SqL.of eD, by rw [ew]; show atI _ ((0 : Nat) : Int) = _; exact atI_nat rfl, ?_⟩
        refine ⟨f0, _, _, rfl, rfl, Sq _ _ hzJ, by rw [List.length_map, sizeLine_eq]; omega, ?_⟩
        refine ⟨_, _, _, _, zs ++ [w0], rfl, by rw [List.map_append]; exact upd_same, by rw [List.length_append, lz]; rfl, ?_, ?_, roll_upd (roll_same RF (SF.trans Sq)) nf0 nfd⟩
        · exact List.nodup_append.mpr ⟨nz, List.pairwise_singleton _ _, fun a ha b hb e => nw (by rw [← List.mem_singleton.mp hb, ← e]; exact ha)⟩
        · intro y my
          rcases List.mem_append.mp my with my | my
          · exact mz y my
          · rw [List.mem_singleton.mp my]
            rcases List.mem_cons.mp mw1 with e | e
            · rw [e]
              exact nmF
            · exact lets_nm _ e
      · have hzF := hz6
        have RF := RR6
        have nmF := nm5
        generalize H6 = HF at hzF RF ⊢
        refine ⟨_, rfl, .inl ⟨rfl, _, SqL.of hzF⟩, ?_⟩
        refine ⟨_, rfl, by show 1 ≤ sizeLine; decide, fun l1 nl1 => ?_⟩
        generalize EHG : upd HF l1 _ = HG
        have hl1 := (congrFun EHG l1).symm.trans upd_same
        have SG : Same HF HG := by rw [← EHG]; exact sameNew nl1
        refine ⟨_, rfl, abc, rfl, by decide +kernel, fun l2 nl2 => ?_⟩
        generalize EHI : upd HG l2 _ = HI
        have hl2 := (congrFun EHI l2).symm.trans upd_same
        have SI : Same HG HI := by rw [← EHI]; exact sameNew nl2
        refine ⟨l1, l2, _, _, rfl, rfl, SI _ _ hl1, hl2, by rw [List.length_map, show (Lx.signs abc).length = 26 from by decide +kernel, sizeLine_eq]; simp, fun l3 nl3 => ?_⟩
        generalize EHJ : upd HI l3 _ = HJ
        have hl3 := (congrFun EHJ l3).symm.trans upd_same
        have SJ : Same HI HJ := by rw [← EHJ]; exact sameNew nl3
        have hl3 : HJ l3 = some (.lst ((wd :: lets).map V.str)) := hl3
        refine ⟨l3, rfl, ⟨_, SqL.of hl3⟩, fun D9 hD9 => ?_⟩
        have SF : Same HF HJ := (SG.trans SI).trans SJ
        have hzJ := SF _ _ hzF
        refine lc_it (walk_list (K := K) (a := l3) (xs := (wd :: lets).map V.str)) (fun q Hq => Same HJ Hq ∧ Hq D9 = some (.lst ((((wd :: lets).take q).filter fun z => decide (z ∉ zs)).map V.str))) ⟨sameNew hD9, upd_same⟩ ?_ ?_ ?_
        · rintro q Hq hq ⟨Sm, _⟩
          exact SqL.of (Sm _ _ hl3)
        · rintro q y Hq Hq2 hq ⟨Sm, eD⟩ ⟨rfl, hy⟩
          rw [List.getElem?_map] at hy
          obtain ⟨z, hz1, rfl⟩ := Option.map_eq_some_iff.mp hy
          refine ⟨rfl, ?_⟩
          refine ⟨_, rfl, _, rfl, f0, _, rfl, .inl (SqL.of (Sm _ _ hzJ)), rfl, flat_strs zs, ?_⟩
          rw [inV_strs]
          have fl : ((wd :: lets).take (q + 1)).filter (fun z => decide (z ∉ zs)) = ((wd :: lets).take q).filter (fun z => decide (z ∉ zs)) ++ (if z ∉ zs then [z] else []) := by
            rw [take_at hz1, List.filter_append]
            by_cases c : z ∈ zs <;> simp [c]
          have lq : (((wd :: lets).take q).filter (fun z => decide (z ∉ zs))).length ≤ 27 := by
            have := List.length_filter_le (fun z => decide (z ∉ zs)) ((wd :: lets).take q)
            rw [List.length_take, List.length_cons, show lets.length = 26 from by decide +kernel] at this
            omega
          refine ⟨_, rfl, ?_⟩
          by_cases c : z ∈ zs
          · rw [decide_eq_true c]
            refine iteF ⟨Sm, ?_⟩
            rw [fl, if_neg (fun e => e c), List.append_nil]
            exact eD
          · rw [decide_eq_false c]
            refine iteT ?_
            refine ⟨_, rfl, _, eD, by rw [List.length_map, sizeLine_eq]; omega, same_upd Sm hD9, ?_⟩
            rw [fl, if_pos c, List.map_append]
            exact upd_same
        rintro Hq ⟨Sq, eD⟩
        rw [List.length_map, List.take_length] at eD
        have ne : (wd :: lets).filter (fun z => decide (z ∉ zs)) ≠ [] := fun z => by
          have h26 := len_sub (B := zs) lets_nd fun y my => by
            by_cases c : y ∈ zs
            · exact c
            · have : y ∈ (wd :: lets).filter (fun z => decide (z ∉ zs)) := List.mem_filter.mpr ⟨List.mem_cons_of_mem _ my, decide_eq_true c⟩
              rw [z] at this
              cases this
          rw [show lets.length = 26 from by decide +kernel] at h26
          omega
        obtain ⟨w0, wr, ew⟩ := List.exists_cons_of_ne_nil ne
        have mw : w0 ∈ (wd :: lets).filter (fun z => decide (z ∉ zs)) := by rw [ew]; exact List.mem_cons_self
        obtain ⟨mw1, mw2⟩ := List.mem_filter.mp mw
        have nw : w0 ∉ zs := of_decide_eq_true mw2
        refine ⟨D9, _, 0, .str w0, rfl, rfl, SqL.of eD, by rw [ew]; show atI _ ((0 : Nat) : Int) = _; exact atI_nat rfl, ?_⟩
        refine ⟨f0, _, _, rfl, rfl, Sq _ _ hzJ, by rw [List.length_map, sizeLine_eq]; omega, ?_⟩
        refine ⟨_, _, _, _, zs ++ [w0], rfl, by rw [List.map_append]; exact upd_same, by rw [List.length_append, lz]; rfl, ?_, ?_, roll_upd (roll_same RF (SF.trans Sq)) nf0 nfd⟩
        · exact List.nodup_append.mpr ⟨nz, List.pairwise_singleton _ _, fun a ha b hb e => nw (by rw [← List.mem_singleton.mp hb, ← e]; exact ha)⟩
        · intro y my
          rcases List.mem_append.mp my with my | my
          · exact mz y my
          · rw [List.mem_singleton.mp my]
            rcases List.mem_cons.mp mw1 with e | e
            · rw [e]
              exact nmF
            · exact lets_nm _ e
    rintro σ Hi ⟨x4, x5, x6, x7, zs, rfl, hz, lz, nz, mz, R⟩
    exact ⟨_, rfl, k f0 zs Hi R nf0 hz lz nz mz⟩
end
end K04

set_option Elab.async false
set_option linter.all false
set_option maxRecDepth 100000
set_option maxHeartbeats 4000000
open L2 in
local macro_rules | `(tactic| walk_at "q1") => `(tactic| first
  | refine ⟨_, rfl, ?_⟩
  | refine ⟨_, _, rfl, rfl, ?_⟩
  | refine And.intro (show CMul _ _ from Or.inr ⟨by decide, by decide⟩) ?_
  | refine And.intro (show CMul _ _ from Or.inl ⟨by first | decide | omega, by first | decide | omega⟩) ?_
  | refine And.intro (show CMul _ _ from Or.inr ⟨by omega, by omega⟩) ?_
  | refine And.intro (show CDiv _ _ from ⟨by omega, by omega⟩) ?_
  | refine And.intro (show Dt.CPowG _ _ from ⟨by decide, by decide +kernel⟩) ?_
  | refine And.intro (by first | decide | omega) ?_
  | refine And.intro (Int.pow_pos (Int.pow_pos (by decide))) ?_
  | refine ⟨_, _, _, _, rfl, rfl, SqL.of (by first | assumption | exact upd_same), (by rfl), ?_⟩
  | refine ⟨_, _, _, _, rfl, rfl, (by first | assumption | exact upd_same), (by rfl), ?_⟩
  | refine Or.inl ⟨_, rfl, ?_⟩
  | refine Or.inr ⟨_, rfl, ?_⟩)
local macro_rules | `(tactic| walk_at "q") => `(tactic| repeat (walk_at "q1"))
local macro_rules | `(tactic| walk_at "eqt") => `(tactic| (refine ⟨_, rfl, ?_⟩; refine ⟨rfl, ?_⟩; first
  | (refine ⟨true, rfl, ?_⟩; refine L2.iteT ?_)
  | (refine ⟨false, rfl, ?_⟩; refine L2.iteF ?_)))
local macro_rules | `(tactic| walk_at "sz") => `(tactic| (rw [PySem.sizeLine_eq]; simp))
namespace K04
open PySem PySem.Spec PyProof.Rows L2 Dt An Rp Sp4
section
variable {P : Program} {w : World} {K : PySem.W.Frag} {mg : Str → Option Value} {base : Heap} {a : Ads}
theorem lt_of_not {a b : Str} (h : PySem.Spec.ltCps b.cps.toList a.cps.toList = false) (n : a ≠ b) : a.cps.toList < b.cps.toList := by
  rw [PyProof.Rows.ltCps_eq] at h
  by_cases c : a.cps.toList < b.cps.toList
  · exact c
  · refine absurd ?_ n
    have e : a.cps.toList = b.cps.toList := PyProof.Rows.strKind.total _ _ (decide_eq_false c) h
    obtain ⟨⟨x⟩⟩ := a
    obtain ⟨⟨y⟩⟩ := b
    have e2 : x = y := e
    rw [e2]
theorem asc_rise : ∀ (l : List Str) (p : Str), PyProof.Rows.risingS p l = true → (p :: l).Nodup → Asc (p :: l)
  | [], p, _, _, i, x, y, h1, h2 => by
    cases i with
    | zero => cases h2
    | succ i => cases h2
  | q :: l, p, h, nd, i, x, y, h1, h2 => by
    have h : (!PySem.Spec.ltCps q.cps.toList p.cps.toList && PyProof.Rows.risingS q l) = true := h
    rw [Bool.and_eq_true, Bool.not_eq_true'] at h
    rw [List.nodup_cons] at nd
    cases i with
    | zero =>
      cases h1
      cases h2
      exact lt_of_not h.1 fun e => nd.1 (e ▸ List.mem_cons_self)
    | succ i => exact asc_rise l q h.2 nd.2 i x y h1 h2
theorem asc_of : ∀ {l : List Str}, PyProof.Rows.sortedS l = true → l.Nodup → Asc l
  | [], _, _, i, x, y, h1, _ => by cases h1
  | p :: l, h, nd, i, x, y, h1, h2 => asc_rise l p h nd i x y h1 h2
def spSome : Sp := fun vs H Q _ => ∃ d t cs, vs = [.ref d, .ref t, .int 4] ∧ Die H d ∧ H t = some (.tup (cs.map V.str)) ∧ 1 ≤ cs.length ∧ cs.length ≤ 4 ∧ cs.Nodup ∧
  ∀ z ks H1, Rolled d H H1 → H z = none → H1 z = some (.tup (ks.map V.str)) → KeyOk cs ks → Q (.ref z) H1
theorem ok_some (T : Txt K mg a) : FnOk P w K mg base CX0 3 a.some a.fd_some ps__law_some spSome := by
  have F := T.F_some
  refine F.ok (k := 2) sc__law_some (fun vs H Q E h => ?_) (fun cdv A outer s H vs Q E hr h => ?_)
  · obtain ⟨d, t, cs, rfl, hD, ht, c1, c4, nd, k⟩ := h
    rfl
  · obtain ⟨d, t, cs, rfl, hD, ht, c1, c4, nd, k⟩ := h
    have hu := hu_of hr
    refine ⟨_, (pss_one (ps_ret (pe_callTy call_tuple_of (by rfl) T.tuple (by decide +kernel) (pa_cons (pe_callB cr_sortedS (by rfl) T.sorted (by decide +kernel) (pa_cons (pe_slice sl_list (pe_call (ok_mixed T) (hr.mono (by decide)) (by rfl) T.g_mixed T.F_mixed.kp (b_mixed T) .nil pass0 (pa_cons (pv 0) (pa_cons (pv 1) pa_nil))) po_none (po_some (pe_op op_add pe_int (pe_call (ok_roll T) (hr.mono (by decide)) (by rfl) T.g_roll T.F_roll.kp (b_roll T) .nil pass0 (pa_cons (pv 0) (pa_cons (pe_callB (call_min2 rfl) (by rfl) T.min (by decide +kernel) (pa_cons (pv 2) (pa_cons (pe_callB call_len (by rfl) T.len (by decide +kernel) (pa_cons (pv 1) pa_nil)) pa_nil))) pa_nil)))))) pa_nil)) pa_nil)))), ?_⟩
    have ntd : t ≠ d := fun z => by
      obtain ⟨x, y, w, e⟩ := hD
      rw [z, e] at ht
      cases ht
    refine ⟨_, rfl, _, rfl, d, t, _, rfl, hD, .inr (SqT.of ht), by rw [List.length_map]; omega, fun z ys H1 pm R1 nz hz => ?_⟩
    have nzd : z ≠ d := hD.ne nz
    have ht1 := R1.keep _ _ ntd ht
    refine ⟨_, rfl, _, rfl, _, rfl, _, _, rfl, .inr ⟨_, SqT.of ht1, rfl⟩, ?_⟩
    rw [List.length_map]
    refine ⟨4, (cs.length : Int), rfl, ?_⟩
    rw [show (if (cs.length : Int) < 4 then (cs.length : Int) else 4) = (cs.length : Int) from by split <;> omega]
    refine ⟨d, (cs.length : Int), rfl, R1.die, by omega, by omega, fun r H2 r0 r1 R2 => ?_⟩
    obtain ⟨rr, rfl⟩ := Int.eq_ofNat_of_zero_le r0
    obtain ⟨xs, pxs, exs⟩ := Dh.perm_back pm.symm cs rfl
    subst exs
    have hz2 := R2.keep _ _ nzd hz
    refine ⟨1, (rr : Int), rfl, rfl, ?_⟩
    refine ⟨_, rfl, ?_⟩
    refine ⟨z, _, rfl, SqL.of hz2, fun q nq => ?_⟩
    rw [show (1 + (rr : Int)) = ((rr + 1 : Nat) : Int) from by omega, Ts.cut_to, ← List.map_take]
    generalize EH3 : upd H2 q _ = H3
    have hq := (congrFun EH3 q).symm.trans upd_same
    have S3 : Same H2 H3 := by rw [← EH3]; exact sameNew nq
    refine ⟨q, _, rfl, SqL.of hq, by rw [List.length_take, pxs.length_eq]; omega, fun ks p pk srt np => ?_⟩
    generalize EH4 : upd H3 p _ = H4
    have hp := (congrFun EH4 p).symm.trans upd_same
    have S4 : Same H3 H4 := by rw [← EH4]; exact sameNew np
    refine ⟨p, _, rfl, .inl ⟨SqL.of hp, fun l nl => ?_⟩⟩
    generalize EH5 : upd H4 l _ = H5
    have hl := (congrFun EH5 l).symm.trans upd_same
    have S5 : Same H4 H5 := by rw [← EH5]; exact sameNew nl
    have lk : ks.length = min (rr + 1) cs.length := by rw [pk.length_eq, List.length_take, pxs.length_eq]
    have ndk : ks.Nodup := pk.nodup_iff.mpr ((pxs.nodup_iff.mpr nd).sublist (List.take_sublist _ _))
    have R5 : Rolled d H H5 := roll_same (R1.trans R2) ((S3.trans S4).trans S5)
    exact k l ks H5 R5 (R1.trans R2 |>.free (nn (S3.trans S4) nl)) hl ⟨fun e => by rw [e] at lk; simp at lk; omega, by omega, fun c m => pxs.mem_iff.mp (List.mem_of_mem_take (pk.mem_iff.mp m)), asc_of srt ndk⟩
end
end K04

set_option Elab.async false
set_option linter.all false
set_option maxRecDepth 100000
set_option maxHeartbeats 4000000
open L2 in
local macro_rules | `(tactic| walk_at "q1") => `(tactic| first
  | refine ⟨_, rfl, ?_⟩
  | refine ⟨_, _, rfl, rfl, ?_⟩
  | refine And.intro (show CMul _ _ from Or.inr ⟨by decide, by decide⟩) ?_
  | refine And.intro (show CMul _ _ from Or.inl ⟨by first | decide | omega, by first | decide | omega⟩) ?_
  | refine And.intro (show CMul _ _ from Or.inr ⟨by omega, by omega⟩) ?_
  | refine And.intro (show CDiv _ _ from ⟨by omega, by omega⟩) ?_
  | refine And.intro (show Dt.CPowG _ _ from ⟨by decide, by decide +kernel⟩) ?_
  | refine And.intro (by first | decide | omega) ?_
  | refine And.intro (Int.pow_pos (Int.pow_pos (by decide))) ?_
  | refine ⟨_, _, _, _, rfl, rfl, SqL.of (by first | assumption | exact upd_same), (by rfl), ?_⟩
  | refine ⟨_, _, _, _, rfl, rfl, (by first | assumption | exact upd_same), (by rfl), ?_⟩
  | refine Or.inl ⟨_, rfl, ?_⟩
  | refine Or.inr ⟨_, rfl, ?_⟩)
local macro_rules | `(tactic| walk_at "q") => `(tactic| repeat (walk_at "q1"))
local macro_rules | `(tactic| walk_at "eqt") => `(tactic| (refine ⟨_, rfl, ?_⟩; refine ⟨rfl, ?_⟩; first
  | (refine ⟨true, rfl, ?_⟩; refine L2.iteT ?_)
  | (refine ⟨false, rfl, ?_⟩; refine L2.iteF ?_)))
local macro_rules | `(tactic| walk_at "sz") => `(tactic| (rw [PySem.sizeLine_eq]; simp))
namespace K04
open PySem PySem.Spec PyProof.Rows L2 Dt An Rp Sp4
section
variable {P : Program} {w : World} {K : PySem.W.Frag} {mg : Str → Option Value} {base : Heap} {a : Ads}
def pos : List Str → Str → Nat
  | [], _ => 0
  | y :: l, x => if y = x then 0 else pos l x + 1
theorem pos_at : ∀ {l : List Str} {i : Nat} {x : Str}, l.Nodup → l[i]? = some x → pos l x = i
  | [], _, _, _, h => by cases h
  | y :: l, 0, x, _, h => by
    cases h
    exact if_pos rfl
  | y :: l, i + 1, x, nd, h => by
    rw [List.nodup_cons] at nd
    have h : l[i]? = some x := h
    unfold pos
    rw [if_neg (fun e => nd.1 (by rw [e]; exact List.mem_of_getElem? h)), pos_at nd.2 h]
theorem TS.trans {H H1 H2 : Hp} (a : TS H H1) (b : TS H1 H2) : TS H H2 := fun c ys e => b _ _ (a _ _ e)
theorem TS.roll {d : Addr} {H H1 : Hp} (D : Die H d) (r : Rolled d H H1) : TS H H1 := fun b ys e => r.keep b _ (fun z => by
  obtain ⟨x, y, w, q⟩ := D
  rw [z, q] at e
  cases e) e
theorem paired_app {α β : Type} {R : α → β → Prop} : ∀ {as cs : List α} {bs ds : List β}, Paired R as bs → Paired R cs ds → Paired R (as ++ cs) (bs ++ ds)
  | _, _, _, _, .nil, r => r
  | _, _, _, _, .cons h t, r => .cons h (paired_app t r)
theorem asc_lt : ∀ {l : List Str} {x : Str}, Asc (x :: l) → ∀ y ∈ l, x.cps.toList < y.cps.toList
  | [], _, _, _, m => by cases m
  | z :: l, x, h, y, m => by
    have hx := h 0 x z rfl rfl
    rcases List.mem_cons.mp m with e | m
    · rw [e]
      exact hx
    · exact List.lt_trans hx (asc_lt (l := l) (x := z) (fun i a b e1 e2 => h (i + 1) a b e1 e2) y m)
theorem asc_nd : ∀ {l : List Str}, Asc l → l.Nodup
  | [], _ => List.nodup_nil
  | x :: l, h => List.nodup_cons.mpr ⟨fun m => List.lt_irrefl _ (asc_lt h x m), asc_nd fun i a b e1 e2 => h (i + 1) a b e1 e2⟩
theorem nd_of_asc {cs : List Str} (h : ColsOk cs) : cs.Nodup := asc_nd h.2.2.2
def CandT (H : Hp) (b : Addr) (c : Str × List Str) : Prop := ∃ e, H b = some (.tup [.str c.1, .ref e]) ∧ H e = some (.tup (c.2.map V.str))
theorem CandT.ts {H H1 : Hp} (t : TS H H1) {b : Addr} {c : Str × List Str} (h : CandT H b c) : CandT H1 b c := let ⟨e, h1, h2⟩ := h; ⟨e, t _ _ h1, t _ _ h2⟩
def spWays : Sp := fun vs H Q _ => ∃ d dt dk kt kk T L, vs = [.ref d, .ref dt, .ref dk] ∧ Die H d ∧ H dt = some (.dK kt) ∧ H dk = some (.dK kk) ∧ Paired (EntOf (ColT H)) kt T ∧ Paired (EntOf (KeyT H)) kk L ∧ TabsOk T ∧ KeysD T L ∧
  ∀ dw H1 kw W, Rolled d H H1 → H dw = none → H1 dw = some (.dK kw) → Paired (EntOf (WayT H1)) kw W → WaysD T L W → Q (.ref dw) H1
theorem ok_ways (T : Txt K mg a) : FnOk P w K mg base CX0 4 a.ways a.fd_ways ps__law_ways spWays := by
  have F := T.F_ways
  refine F.ok (k := 3) sc__law_ways (fun vs H Q E h => ?_) (fun cdv A outer s H vs Q E hr h => ?_)
  · obtain ⟨d, dt, dk, kt, kk, T0, L0, rfl, hD, ht, hk, pT, pL, okT, okL, k⟩ := h
    rfl
  · obtain ⟨d, dt, dk, kt, kk, T0, L0, rfl, hD, ht, hk, pT, pL, okT, okL, k⟩ := h
    have hu := hu_of hr
    refine ⟨_, (pss_cons (ps_par (i := 3) (j := 4) rfl sc__law_ways.nd rfl rfl (by decide) rfl rfl (pa_cons (pe_call (ok_mixed T) (hr.mono (by decide)) (by rfl) T.g_mixed T.F_mixed.kp (b_mixed T) .nil pass0 (pa_cons (pv 0) (pa_cons (pe_callB (call_sortedD rfl) (by rfl) T.sorted (by decide +kernel) (pa_cons (pv 1) pa_nil)) pa_nil))) (pa_cons pe_dnewK pa_nil)) (by rfl))
      (pss_cons (ps_for PassesOwn.never rfl (pi_list (pe_call (ok_names T) (hr.mono (by decide)) (by rfl) T.g_names T.F_names.kp (b_names T) .nil pass0 (pa_cons (pv 0) (pa_cons (pe_call (ok_roll T) (hr.mono (by decide)) (by rfl) T.g_roll T.F_roll.kp (b_roll T) .nil pass0 (pa_cons (pv 0) (pa_cons pe_int pa_nil))) pa_nil)))) (pg_name (i := 5) sc__law_ways.nd rfl (Or.inl rfl)) (pss_cons (ps_par (i := 6) (j := 7) rfl sc__law_ways.nd rfl rfl (by decide) rfl rfl (pa_cons (pe_call (ok_roll T) (hr.mono (by decide)) (by rfl) T.g_roll T.F_roll.kp (b_roll T) .nil pass0 (pa_cons (pv 0) (pa_cons (pe_callB call_len (by rfl) T.len (by decide +kernel) (pa_cons (pv 3) pa_nil)) pa_nil))) (pa_cons (pe_lst pa_nil) pa_nil)) (by rfl))
      (pss_cons (ps_set (i := 8) sc__law_ways.nd rfl (Or.inr rfl) (pe_ix ix_list (pv 3) (pv 6) (fun _ _ => rfl)))
      (pss_cons (ps_for PassesOwn.never rfl (pi_list (pe_slice sl_list (pv 3) (po_some (pe_op op_add (pv 6) pe_int)) po_none)) (pg_name (i := 9) sc__law_ways.nd rfl (Or.inr rfl)) (pss_one (ps_expr (pe_bm PySem.F.plainAttrs_list PySem.F.slot_list_extend PySem.F.type_list_extend mt_extend (pv 7) (pa_cons (pe_lc (own := [("_law_lock", 10)]) rfl sc__law_ways.nd (pi_tup (pe_dget2 hu (pv 2) (pv 9) (pe_tup pa_nil) ⟨rfl, rfl, rfl, rfl⟩)) (blkOk_by (N := nm__law_ways) (sc := defScope s__law_ways) (by decide +kernel)) (fun _ _ _ _ _ => (pg_name (i := 10) sc__law_ways.nd rfl (Or.inl rfl))) (fun _ _ _ _ _ => (pts_one (pt_cmpR op_le (pe_callB (id := "len") (r := rLenR K) call_len (by rfl) T.len (by decide +kernel) (pa_cons (pv 10) pa_nil)) (pe_callB (id := "len") (r := rLenR K) call_len (by rfl) T.len (by decide +kernel) (pa_cons (pe_dget hu (pv 1) (pv 8) (fun _ _ => rfl)) pa_nil)) (nomark _)))) (fun _ _ _ _ _ => (pe_tup (pa_cons (pv 9) (pa_cons (pv 10) pa_nil))))) pa_nil)))))
      (pss_one (ps_if (pt_cmpR (Le.op_neL hr.units) (pv 7) (pe_lst pa_nil) (nomark _)) (pss_cons (ps_asg (pe_call (ok_pick T) (hr.mono (by decide)) (by rfl) T.g_pick T.F_pick.kp (b_pick T) .nil pass0 (pa_cons (pv 0) (pa_cons (pv 7) pa_nil))) (pg_tup rfl (pgs_cons (pg_name (i := 9) sc__law_ways.nd rfl (Or.inr rfl)) (pgs_cons (pg_name (i := 10) sc__law_ways.nd rfl (Or.inl rfl)) pgs_nil))))
      (pss_one (ps_dput hu (pv 4) (pv 5) (pe_tup (pa_cons (pv 8) (pa_cons (pe_callTy call_tuple_of (by rfl) T.tuple (by decide +kernel) (pa_cons (pe_slice sl_list (pe_call (ok_mixed T) (hr.mono (by decide)) (by rfl) T.g_mixed T.F_mixed.kp (b_mixed T) .nil pass0 (pa_cons (pv 0) (pa_cons (pe_dget hu (pv 1) (pv 8) (fun _ _ => rfl)) pa_nil))) po_none (po_some (pe_callB call_len (by rfl) T.len (by decide +kernel) (pa_cons (pv 10) pa_nil)))) pa_nil)) (pa_cons (pv 9) (pa_cons (pv 10) pa_nil))))) rfl))) pss_nil))))))
      (pss_one (ps_ret (pv 4))))), ?_⟩
    have n5 := okT.n5
    have n1 := okT.n1
    have lt : kt.length = T0.length := pT.length
    refine ⟨_, rfl, _, rfl, dt, kt, T0.map (·.1), rfl, .inl ht, keys_ent pT, by rw [List.length_map]; omega, fun ys p0 py srt np0 => ?_⟩
    generalize EH1 : upd H p0 _ = H1
    have hp0 := (congrFun EH1 p0).symm.trans upd_same
    have S1 : Same H H1 := by rw [← EH1]; exact sameNew np0
    refine ⟨d, p0, _, rfl, die_same hD S1, .inl (SqL.of hp0), by rw [List.length_map, py.length_eq, List.length_map]; omega, fun o0 zs H2 pz R2 no0 ho0 => ?_⟩
    obtain ⟨ord, pord, eord⟩ := Dh.perm_back pz.symm ys rfl
    subst eord
    intro f0 nf0
    generalize EH3 : upd H2 f0 _ = H3
    have hf0 := (congrFun EH3 f0).symm.trans upd_same
    have S3 : Same H2 H3 := by rw [← EH3]; exact sameNew nf0
    refine ⟨_, _, rfl, ?_⟩
    have po : ord.Perm (T0.map (·.1)) := pord.trans py
    have ndo : ord.Nodup := po.nodup_iff.mpr okT.nd
    have lo : ord.length = T0.length := by rw [po.length_eq, List.length_map]
    have S03 : ∀ {b}, H3 b = none → H2 b = none := fun h => nn S3 h
    have R3 : Rolled d H H3 := roll_same ((same_roll hD S1).trans R2) S3
    have nod : o0 ≠ d := (die_same hD S1).ne no0
    have nfd : f0 ≠ d := R2.die.ne nf0
    have nfH : H f0 = none := ((same_roll hD S1).trans R2).free nf0
    have noH : H o0 = none := nn S1 no0
    have nof : o0 ≠ f0 := fun z => by rw [z, nf0] at ho0; cases ho0
    refine ⟨_, rfl, _, rfl, d, 5, rfl, R3.die, by decide, by decide, fun r H4 r0 r1 R4 => ?_⟩
    obtain ⟨rr, rfl⟩ := Int.eq_ofNat_of_zero_le r0
    refine ⟨d, rr, rfl, R4.die, by omega, fun z0 zs H5 R5 nz0 hz0 lz ndz nmz => ?_⟩
    refine ⟨z0, rfl, ⟨_, SqL.of hz0⟩, ?_⟩
    have R05 := (R3.trans R4).trans R5
    have ho5 := R5.keep _ _ nod (R4.keep _ _ nod (S3 _ _ ho0))
    have hf5 := R5.keep _ _ nfd (R4.keep _ _ nfd hf0)
    have nzd : z0 ≠ d := R4.die.ne nz0
    have nzo : z0 ≠ o0 := fun z => by rw [z, R4.keep _ _ nod (S3 _ _ ho0)] at nz0; cases nz0
    have nzf : z0 ≠ f0 := fun z => by rw [z, R4.keep _ _ nfd hf0] at nz0; cases nz0
    have nzH : H z0 = none := (R3.trans R4).free nz0
    refine for_it (walk_list (K := K) (a := z0) (xs := zs.map V.str)) (fun i σ Hi => ∃ x5 x6 x7 x8 x9 x10 kw W, σ = [some (.ref d), some (.ref dt), some (.ref dk), some (.ref o0), some (.ref f0), x5, x6, x7, x8, x9, x10] ∧ Rolled d H Hi ∧ Hi z0 = some (.lst (zs.map V.str)) ∧ Hi o0 = some (.lst (ord.map V.str)) ∧ Hi f0 = some (.dK kw) ∧ Paired (EntOf (WayT Hi)) kw W ∧ (∀ x ∈ W.map (·.1), x ∈ zs.take i) ∧ (W.map (·.1)).Nodup ∧ W.length ≤ i ∧ ∀ p ∈ W, RefOk T0 L0 p.2 ∧ ∃ a b : Nat, ord[a]? = some p.2.tab ∧ ord[b]? = some p.2.par ∧ a < b) ⟨none, none, none, none, none, none, [], [], rfl, R05, hz0, ho5, hf5, .nil, fun _ m => (by cases m), List.nodup_nil, Nat.le_refl _, fun _ m => (by cases m)⟩ (fun i σ Hi hi q => by
      obtain ⟨_, _, _, _, _, _, _, _, _, _, q, _⟩ := q
      exact SqL.of q) ?_ ?_
    · rintro i y σ Hi Hi2 hi ⟨x5, x6, x7, x8, x9, x10, kw, W, rfl, R, hz, ho, hf, pW, sub, ndW, lW, good⟩ ⟨rfl, hy⟩
      rw [List.getElem?_map] at hy
      obtain ⟨n, hn, rfl⟩ := Option.map_eq_some_iff.mp hy
      refine ⟨_, rfl, _, rfl, _, _, rfl, .inl ⟨_, SqL.of ho, rfl⟩, ?_⟩
      rw [List.length_map, lo]
      refine ⟨d, (T0.length : Int), rfl, R.die, by omega, by omega, fun q H6 q0 q1 R6 => ?_⟩
      obtain ⟨at_, rfl⟩ := Int.eq_ofNat_of_zero_le q0
      refine ⟨by show 0 ≤ sizeLine; decide, fun s0 ns0 => ?_⟩
      generalize EH7 : upd H6 s0 _ = H7
      have hs0 := (congrFun EH7 s0).symm.trans upd_same
      have S7 : Same H6 H7 := by rw [← EH7]; exact sameNew ns0
      refine ⟨_, _, rfl, ?_⟩
      have ho6 := R6.keep _ _ nod ho
      have la : at_ < ord.length := by omega
      obtain ⟨tb, htb⟩ : ∃ tb, ord[at_]? = some tb := ⟨_, List.getElem?_eq_getElem la⟩
      have htbm : tb ∈ T0.map (·.1) := po.mem_iff.mp (List.mem_of_getElem? htb)
      obtain ⟨tp, htp, etp⟩ := List.mem_map.mp htbm
      obtain ⟨ct, ct1, ct2⟩ := val_ent (x := tp.1) (y := tp.2) pT okT.nd htp
      have ctc := okT.cols _ htp
      rw [etp] at ct1
      have htd : dt ≠ d := fun z => by
        obtain ⟨_, _, _, e⟩ := hD
        rw [z, e] at ht
        cases ht
      have hkd : dk ≠ d := fun z => by
        obtain ⟨_, _, _, e⟩ := hD
        rw [z, e] at hk
        cases hk
      have R7 : Rolled d H H7 := roll_same (R.trans R6) S7
      have ts7 := TS.roll hD R7
      have ho7 := S7 _ _ ho6
      have ht7 := R7.keep _ _ htd ht
      have hk7 := R7.keep _ _ hkd hk
      have ct7 : H7 ct = some (.tup (tp.2.map V.str)) := ts7 _ _ ct2
      have pL7 := ent_off (fun _ _ e => KeyT.ts ts7 e) pL
      refine ⟨_, rfl, _, rfl, o0, _, (at_ : Int), .str tb, rfl, rfl, SqL.of ho7, atI_nat (by rw [List.getElem?_map, htb]; rfl), ?_⟩
      refine ⟨_, rfl, _, rfl, (at_ : Int), 1, rfl, rfl, ?_⟩
      refine ⟨_, rfl, ?_⟩
      refine ⟨o0, _, rfl, SqL.of ho7, fun q0 nq0 => ?_⟩
      rw [show ((at_ : Int) + 1) = ((at_ + 1 : Nat) : Int) from by omega, Ts.cut_from, ← List.map_drop]
      generalize EH8 : upd H7 q0 _ = H8
      have hq0 := (congrFun EH8 q0).symm.trans upd_same
      have S8 : Same H7 H8 := by rw [← EH8]; exact sameNew nq0
      refine ⟨q0, rfl, ⟨_, SqL.of hq0⟩, ?_⟩
      have ns0H : H s0 = none := (R.trans R6).free ns0
      have hs8 := S8 _ _ hs0
      have nqs : q0 ≠ s0 := fun z => by rw [z, hs0] at nq0; cases nq0
      have nq6 : H6 q0 = none := nn S7 nq0
      refine for_it (walk_list (K := K) (a := q0) (xs := (ord.drop (at_ + 1)).map V.str)) (fun j σ Hj => ∃ x9 x10 bs cs, σ = [some (.ref d), some (.ref dt), some (.ref dk), some (.ref o0), some (.ref f0), some (.str n), some (.int (at_ : Int)), some (.ref s0), some (.str tb), x9, x10] ∧ Off s0 H8 Hj ∧ Hj s0 = some (.lst (bs.map V.ref)) ∧ Paired (CandT Hj) bs cs ∧ bs.length ≤ 2 * j ∧ ∀ c ∈ cs, (∃ b : Nat, ord[b]? = some c.1 ∧ at_ < b) ∧ (∃ ks, (c.1, ks) ∈ L0 ∧ c.2 ∈ ks) ∧ c.2.length ≤ tp.2.length) ⟨x9, x10, [], [], rfl, fun _ _ _ e => e, hs8, .nil, Nat.zero_le _, fun _ m => (by cases m)⟩ (fun j σ Hj hj q => by
        obtain ⟨_, _, _, _, _, q, _⟩ := q
        exact SqL.of (q _ _ nqs hq0)) ?_ ?_
      · rintro j y σ Hj Hj2 hj ⟨x9, x10, bs, cs, rfl, off, hs, pc, lb, gc⟩ ⟨rfl, hy⟩
        rw [List.getElem?_map, List.getElem?_drop] at hy
        obtain ⟨pr, hpr, rfl⟩ := Option.map_eq_some_iff.mp hy
        rw [List.length_map, List.length_drop] at hj
        have dks : dk ≠ s0 := fun z => by rw [z, ns0H] at hk; cases hk
        have dts : dt ≠ s0 := fun z => by rw [z, ns0H] at ht; cases ht
        have cts : ct ≠ s0 := fun z => by
          have e : H ct = some (.tup (tp.2.map V.str)) := ct2
          rw [z, ns0H] at e
          cases e
        have hkj := off _ _ dks (S8 _ _ hk7)
        have htj := off _ _ dts (S8 _ _ ht7)
        have ctj := off _ _ cts (S8 _ _ ct7)
        have tsj : TS H8 Hj2 := TS.off off fun ys e => by rw [hs8] at e; cases e
        have pLj := ent_off (fun _ _ e => KeyT.ts ((TS.of S8).trans tsj) e) pL7
        refine ⟨_, rfl, .inl ⟨rfl, _, SqL.of hs⟩, ?_⟩
        refine ⟨_, rfl, dk, rfl, .inl ⟨kk, .inl hkj⟩, ?_⟩
        refine ⟨_, rfl, by show 0 ≤ sizeLine; decide, fun e0 ne0 => ?_⟩
        generalize EH9 : upd Hj2 e0 _ = H9
        have he0 := (congrFun EH9 e0).symm.trans upd_same
        have S9 : Same Hj2 H9 := by rw [← EH9]; exact sameNew ne0
        refine ⟨_, DGet.k (k := .inr pr) (S9 _ _ hkj), ?_⟩
        obtain ⟨b9, ks9, eV, bs9, hb9, pb9, l9, in9⟩ : ∃ b9 ks9, (valV kk (.inr pr)).getD (.ref e0) = .ref b9 ∧ ∃ bs9 : List Addr, H9 b9 = some (.tup (bs9.map V.ref)) ∧ Paired (fun c key => H9 c = some (.tup (key.map V.str))) bs9 ks9 ∧ ks9.length ≤ 2 ∧ ∀ z ∈ ks9, ∃ ks, (pr, ks) ∈ L0 ∧ z ∈ ks := by
          by_cases c : pr ∈ L0.map (·.1)
          · obtain ⟨p, hp, rfl⟩ := List.mem_map.mp c
            obtain ⟨b, b1, b2⟩ := val_ent (x := p.1) (y := p.2) pLj okL.nd hp
            obtain ⟨bs2, g1, g2⟩ := KeyT.same S9 b2
            obtain ⟨_, _, _, q2, _⟩ := okL.keys p hp
            exact ⟨b, p.2, by rw [b1]; rfl, bs2, g1, g2, q2, fun z hz => ⟨p.2, hp, hz⟩⟩
          · exact ⟨e0, [], by rw [val_no pLj c]; rfl, [], he0, .nil, by simp, fun _ m => by cases m⟩
        rw [eV]
        refine ⟨b9, rfl, ⟨_, SqT.of hb9⟩, fun D hD => ?_⟩
        refine lc_it (walk_tup (K := K) (a := b9) (xs := bs9.map V.ref)) (fun q Hq => Same H9 Hq ∧ ∃ (es : List Addr) (ds : List (Str × List Str)), Hq D = some (.lst (es.map V.ref)) ∧ Paired (CandT Hq) es ds ∧ es.length ≤ q ∧ ∀ c ∈ ds, c.1 = pr ∧ c.2 ∈ ks9 ∧ c.2.length ≤ tp.2.length) ⟨sameNew hD, [], [], upd_same, .nil, Nat.zero_le _, fun _ m => (by cases m)⟩ ?_ ?_ ?_
        · rintro q Hq hq ⟨Sm, _⟩
          exact SqT.of (Sm _ _ hb9)
        · rintro q y Hq Hq2 hq ⟨Sm, es, ds, eD, pe, le, ge⟩ ⟨rfl, hy2⟩
          rw [List.getElem?_map] at hy2
          obtain ⟨b, hb, rfl⟩ := Option.map_eq_some_iff.mp hy2
          obtain ⟨z, hz1, hz2⟩ := paired_at pb9 hb
          have hbq := Sm _ _ hz2
          rw [List.length_map, pb9.length] at hq
          refine ⟨rfl, ?_⟩
          refine ⟨_, rfl, _, _, rfl, .inr ⟨_, SqT.of hbq, rfl⟩, ?_⟩
          refine ⟨_, rfl, _, rfl, dt, .ref ct, rfl, .inl ⟨kt, .inr tb, .inl (Sm _ _ (S9 _ _ htj)), rfl, ct1.symm⟩, ?_⟩
          refine ⟨_, _, rfl, .inr ⟨_, SqT.of (Sm _ _ (S9 _ _ ctj)), rfl⟩, ?_⟩
          rw [List.length_map, List.length_map]
          refine ⟨_, _, rfl, rfl, _, rfl, ?_⟩
          refine iteD (fun c => ?_) (fun c => ⟨Sm, es, ds, eD, pe, Nat.le_succ_of_le le, ge⟩)
          refine ⟨_, rfl, _, rfl, by show 2 ≤ sizeLine; decide, fun p np => ?_⟩
          have nDp : D ≠ p := ne_of_none eD np
          have tsq : TS Hq2 (upd (upd Hq2 p (.tup [.str pr, .ref b])) D (.lst (es.map V.ref ++ [V.ref p]))) := (TS.of (sameNew np)).trans (TS.off Off.lock fun ys e => by rw [upd_ne nDp, eD] at e; cases e)
          refine ⟨_, by rw [upd_ne nDp]; exact eD, by rw [List.length_map, sizeLine_eq]; omega, same_upd (Sm.trans (sameNew np)) hD, es ++ [p], ds ++ [(pr, z)], by rw [List.map_append]; exact upd_same, ?_, by rw [List.length_append]; show _ + 1 ≤ _; omega, fun c2 m => ?_⟩
          · refine paired_snoc (Paired.mapP pe fun _ _ e => CandT.ts tsq e) ⟨b, ?_, tsq _ _ hbq⟩
            rw [upd_ne (Ne.symm nDp)]
            exact upd_same
          · rcases List.mem_append.mp m with m | m
            · exact ge c2 m
            · rw [List.mem_singleton.mp m]
              exact ⟨rfl, List.mem_of_getElem? hz1, Int.ofNat_le.mp c⟩
        rintro Hq ⟨Sm, es, ds, eD, pe, le, ge⟩
        rw [List.length_map, pb9.length] at le
        have hsq := Sm _ _ (S9 _ _ hs)
        have nDs : D ≠ s0 := fun z => by rw [z, S9 _ _ hs] at hD; cases hD
        refine ⟨s0, D, _, _, rfl, rfl, hsq, eD, by rw [List.length_map, List.length_map, sizeLine_eq]; omega, ?_⟩
        have offq : Off s0 Hq (upd Hq s0 (.lst (bs.map V.ref ++ es.map V.ref))) := Off.lock
        have tsq : TS Hq (upd Hq s0 (.lst (bs.map V.ref ++ es.map V.ref))) := TS.off offq fun ys e => by rw [hsq] at e; cases e
        refine ⟨_, _, bs ++ es, cs ++ ds, rfl, fun b o nb e => offq _ _ nb (Sm _ _ (S9 _ _ (off _ _ nb e))), by rw [List.map_append]; exact upd_same, ?_, by rw [List.length_append]; omega, fun c2 m => ?_⟩
        · exact paired_app (Paired.mapP pc fun _ _ e => CandT.ts (((TS.of S9).trans (TS.of Sm)).trans tsq) e) (Paired.mapP pe fun _ _ e => CandT.ts tsq e)
        · rcases List.mem_append.mp m with m | m
          · exact gc c2 m
          · obtain ⟨g1, g2, g3⟩ := ge c2 m
            refine ⟨⟨at_ + 1 + j, by rw [g1]; exact hpr, by omega⟩, ?_, g3⟩
            rw [g1]
            exact in9 _ g2
      rintro σ Hj ⟨x9, x10, bs, cs, rfl, off, hs, pc, lb, gc⟩
      rw [List.length_map, List.length_drop, lo] at lb
      have nsd : s0 ≠ d := (R.trans R6).die.ne ns0
      have Rj : Rolled d H Hj := by
        have D8 := die_same R7.die S8
        refine ⟨?_, fun b o nb e => off _ _ (fun z => by rw [z, ns0H] at e; cases e) (S8 _ _ (R7.keep _ _ nb e))⟩
        obtain ⟨x, y, z, e⟩ := D8
        exact ⟨x, y, z, off _ _ (Ne.symm nsd) e⟩
      have keepj : ∀ b o, b ≠ d → Hi2 b = some o → Hj b = some o := fun b o nb e => off _ _ (fun z => by rw [← z, R6.keep _ _ nb e] at ns0; cases ns0) (S8 _ _ (S7 _ _ (R6.keep _ _ nb e)))
      have hzj := keepj _ _ nzd hz
      have hoj := keepj _ _ nod ho
      have hfj := keepj _ _ nfd hf
      have tsij : TS Hi2 Hj := fun b ys e => keepj b _ (fun z => by
        obtain ⟨_, _, _, q⟩ := R.die
        rw [z, q] at e
        cases e) e
      have pWj := ent_off (fun _ _ e => WayT.ts tsij e) pW
      unfold tNext
      dsimp only
      refine ⟨_, rfl, by show 0 ≤ sizeLine; decide, fun e1 ne1 => ?_⟩
      generalize EHk : upd Hj e1 _ = Hk
      have he1 := (congrFun EHk e1).symm.trans upd_same
      have Sk : Same Hj Hk := by rw [← EHk]; exact sameNew ne1
      have hsk := Sk _ _ hs
      have Rk := roll_same Rj Sk
      have pWk := ent_off (fun _ _ e => WayT.same Sk e) pWj
      have li : i < zs.length := by rw [List.length_map] at hi; exact hi
      cases bs with
      | nil =>
        refine .inl ⟨.list [], .list [], .lst (SqL.of hsk) .nil, .lst (SqL.of he1) .nil, (by decide +kernel), (by decide +kernel), ?_⟩
        refine ⟨_, rfl, ?_⟩
        refine ite_f (by decide +kernel) ?_
        refine ⟨_, _, _, _, _, _, kw, W, rfl, Rk, Sk _ _ hzj, Sk _ _ hoj, Sk _ _ hfj, pWk, fun x m => ?_, ndW, Nat.le_succ_of_le lW, good⟩
        rw [take_at hn]
        exact List.mem_append_left _ (sub x m)
      | cons b0 br =>
        refine .inr ⟨s0, e1, _, [], rfl, rfl, hsk, he1, (by simp), ?_⟩
        refine ⟨_, rfl, ?_⟩
        refine iteT ?_
        have lbr : (b0 :: br).length ≤ 10 := by omega
        refine ⟨_, rfl, _, rfl, d, .ref s0, _, rfl, Rk.die, ⟨nsd, .inl (SqL.of hsk)⟩, by simp, by rw [List.length_map]; omega, fun v HA hv RA => ?_⟩
        obtain ⟨b, hb, rfl⟩ := List.mem_map.mp hv
        obtain ⟨c, hc, bk, e1', e2'⟩ := Dq1.memP pc hb
        obtain ⟨⟨pb, g1, g2⟩, ⟨ks, g3, g4⟩, g5⟩ := gc c hc
        have tsA : TS Hj HA := (TS.of Sk).trans (TS.roll Rk.die RA)
        have hbA := tsA _ _ e1'
        have hkA := tsA _ _ e2'
        have RAA := Rk.trans RA
        refine ⟨b, _, rfl, SqT.of hbA, rfl, _, _, rfl, _, _, rfl, rfl, ?_⟩
        have htA := RAA.keep _ _ htd ht
        have ctA := TS.roll hD RAA _ _ ct2
        refine ⟨_, rfl, _, rfl, _, rfl, _, rfl, dt, .ref ct, rfl, .inl ⟨kt, .inr tb, .inl htA, rfl, ct1.symm⟩, ?_⟩
        refine ⟨d, ct, _, rfl, RAA.die, .inr (SqT.of ctA), by rw [List.length_map]; have := ctc.2.2.1; omega, fun zc ysc HB pmc RB nzc hzc => ?_⟩
        obtain ⟨xs, pxs, exs⟩ := Dh.perm_back pmc.symm tp.2 rfl
        subst exs
        have tsB := TS.roll RAA.die RB
        have hkB := tsB _ _ hkA
        refine ⟨_, rfl, _, _, rfl, .inr ⟨_, SqT.of hkB, rfl⟩, ?_⟩
        rw [List.length_map]
        refine ⟨_, rfl, ?_⟩
        refine ⟨zc, _, rfl, SqL.of hzc, fun qc nqc => ?_⟩
        rw [Ts.cut_to, ← List.map_take]
        generalize EHC : upd HB qc _ = HC
        have hqc := (congrFun EHC qc).symm.trans upd_same
        have SC : Same HB HC := by rw [← EHC]; exact sameNew nqc
        refine ⟨qc, _, rfl, .inl ⟨SqL.of hqc, fun lc nlc => ?_⟩⟩
        generalize EHD : upd HC lc _ = HD
        have hlc := (congrFun EHD lc).symm.trans upd_same
        have SD : Same HC HD := by rw [← EHD]; exact sameNew nlc
        refine ⟨_, rfl, _, rfl, by show 4 ≤ sizeLine; decide, fun wc nwc => ?_⟩
        generalize EHE : upd HD wc _ = HE
        have hwc := (congrFun EHE wc).symm.trans upd_same
        have SE : Same HD HE := by rw [← EHE]; exact sameNew nwc
        have SBE := (SC.trans SD).trans SE
        have REE := roll_same (RAA.trans RB) SBE
        have hfE := SBE _ _ (RB.keep _ _ nfd (RA.keep _ _ nfd (Sk _ _ hfj)))
        have hzE := SBE _ _ (RB.keep _ _ nzd (RA.keep _ _ nzd (Sk _ _ hzj)))
        have hoE := SBE _ _ (RB.keep _ _ nod (RA.keep _ _ nod (Sk _ _ hoj)))
        have hkE := SBE _ _ hkB
        have hlE := SE _ _ hlc
        have tsE : TS Hj HE := (tsA.trans tsB).trans (TS.of SBE)
        have nn1 : n ∉ W.map (·.1) := fun m => by
          have m2 := sub n m
          obtain ⟨t, ht2⟩ := List.mem_iff_getElem?.mp m2
          rw [List.getElem?_take] at ht2
          by_cases c2 : t < i
          · rw [if_pos c2] at ht2
            have := (List.getElem?_inj (List.getElem?_eq_some_iff.mp ht2).1 ndz).mp (ht2.trans hn.symm)
            omega
          · rw [if_neg c2] at ht2
            cases ht2
        have lk : kw.length = W.length := pW.length
        refine ⟨_, rfl, _, rfl, f0, _, rfl, .inl ⟨kw, .inr n, hfE, rfl, by rw [sizeLine_eq]; omega, rfl⟩, ?_⟩
        rw [putK_new _ (val_no pW nn1)]
        have offF : Off f0 HE (upd HE f0 (.dK (kw ++ [(Sum.inr n, V.ref wc)]))) := Off.lock
        have tsF : TS HE (upd HE f0 (.dK (kw ++ [(Sum.inr n, V.ref wc)]))) := TS.off offF fun ys e => by rw [hfE] at e; cases e
        have lx : xs.length = tp.2.length := pxs.length_eq
        refine ⟨_, _, _, _, _, _, _, W ++ [(n, ⟨tb, xs.take c.2.length, c.1, c.2⟩)], rfl, roll_upd REE nfH nfd, offF _ _ nzf hzE, offF _ _ nof hoE, upd_same, paired_snoc (ent_off (fun _ _ e => WayT.ts (tsE.trans tsF) e) pWj) ⟨rfl, wc, rfl, lc, bk, tsF _ _ hwc, tsF _ _ hlE, tsF _ _ hkE⟩, fun x m => ?_, ?_, by rw [List.length_append]; show _ + 1 ≤ _; omega, fun p m => ?_⟩
        · rw [take_at hn]
          rw [List.map_append] at m
          rcases List.mem_append.mp m with m | m
          · exact List.mem_append_left _ (sub x m)
          · rw [List.mem_singleton.mp m]
            exact List.mem_append_right _ (List.mem_singleton.mpr rfl)
        · rw [List.map_append, List.nodup_append]
          exact ⟨ndW, List.pairwise_singleton _ _, fun a ha b2 hb2 e => nn1 (by have h : b2 = n := List.mem_singleton.mp hb2; rw [← h, ← e]; exact ha)⟩
        · rcases List.mem_append.mp m with m | m
          · exact good p m
          · rw [List.mem_singleton.mp m]
            refine ⟨⟨⟨tp.2, by rw [← etp]; exact htp, fun z hz => pxs.mem_iff.mp (List.mem_of_mem_take hz)⟩, po.mem_iff.mp (List.mem_of_getElem? g1), fun z => ?_, ⟨ks, g3, g4⟩, by show (xs.take c.2.length).length = c.2.length; rw [List.length_take, lx]; omega, (pxs.nodup_iff.mpr (nd_of_asc ctc)).sublist (List.take_sublist _ _)⟩, at_, pb, htb, g1, g2⟩
            have z : tb = c.1 := z
            have := (List.getElem?_inj la ndo).mp (htb.trans (by rw [z]; exact g1.symm))
            omega
    rintro σ Hi ⟨x5, x6, x7, x8, x9, x10, kw, W, rfl, R, hz, ho, hf, pW, sub, ndW, lW, good⟩
    rw [List.length_map, lz] at lW
    refine ⟨_, rfl, k f0 Hi kw W R nfH hf pW ⟨by omega, fun c m => nmz c (List.mem_of_mem_take (sub c m)), ndW, fun p m => (good p m).1, pos ord, fun s m => ?_⟩⟩
    obtain ⟨p, hp, rfl⟩ := List.mem_map.mp m
    obtain ⟨_, a1, b1, e1, e2, lt1⟩ := good p hp
    show pos ord p.2.tab < pos ord p.2.par
    rw [pos_at ndo e1, pos_at ndo e2]
    exact lt1
end
end K04

set_option Elab.async false
set_option linter.all false
set_option maxRecDepth 100000
set_option maxHeartbeats 4000000
open L2 in
local macro_rules | `(tactic| walk_at "q1") => `(tactic| first
  | refine ⟨_, rfl, ?_⟩
  | refine ⟨_, _, rfl, rfl, ?_⟩
  | refine And.intro (show CMul _ _ from Or.inr ⟨by decide, by decide⟩) ?_
  | refine And.intro (show CMul _ _ from Or.inl ⟨by first | decide | omega, by first | decide | omega⟩) ?_
  | refine And.intro (show CMul _ _ from Or.inr ⟨by omega, by omega⟩) ?_
  | refine And.intro (show CDiv _ _ from ⟨by omega, by omega⟩) ?_
  | refine And.intro (show Dt.CPowG _ _ from ⟨by decide, by decide +kernel⟩) ?_
  | refine And.intro (by first | decide | omega) ?_
  | refine And.intro (Int.pow_pos (Int.pow_pos (by decide))) ?_
  | refine ⟨_, _, _, _, rfl, rfl, SqL.of (by first | assumption | exact upd_same), (by rfl), ?_⟩
  | refine ⟨_, _, _, _, rfl, rfl, (by first | assumption | exact upd_same), (by rfl), ?_⟩
  | refine Or.inl ⟨_, rfl, ?_⟩
  | refine Or.inr ⟨_, rfl, ?_⟩)
local macro_rules | `(tactic| walk_at "q") => `(tactic| repeat (walk_at "q1"))
local macro_rules | `(tactic| walk_at "eqt") => `(tactic| (refine ⟨_, rfl, ?_⟩; refine ⟨rfl, ?_⟩; first
  | (refine ⟨true, rfl, ?_⟩; refine L2.iteT ?_)
  | (refine ⟨false, rfl, ?_⟩; refine L2.iteF ?_)))
local macro_rules | `(tactic| walk_at "sz") => `(tactic| (rw [PySem.sizeLine_eq]; simp))
namespace K04
open PySem PySem.Spec PyProof.Rows L2 Dt An Rp Sp4
section
variable {P : Program} {w : World} {K : PySem.W.Frag} {mg : Str → Option Value} {base : Heap} {a : Ads}
/-- a plain schema, its parts in dicts that were not there at first -/
structure PlainO (H : Hp) (p : Addr) (S : Sch) (dt dk dw : Addr) : Prop where
  at_ : H p = some (.dK [(.inr "tables", .ref dt), (.inr "locks", .ref dk), (.inr "ways", .ref dw)])
  data : Three H dt dk dw S
  ok : SchOk S
  kw : dk ≠ dw
theorem unzip {R : Addr → List Str → Prop} : ∀ {as : List Addr} {bs : List (List Str)}, Paired R as bs → ∃ Z : List (Addr × List Str), as = Z.map (·.1) ∧ bs = Z.map (·.2) ∧ ∀ p ∈ Z, R p.1 p.2
  | _, _, .nil => ⟨[], rfl, rfl, fun _ m => by cases m⟩
  | _, _, .cons (a := a) (b := b) h t => by
    obtain ⟨Z, e1, e2, e3⟩ := unzip t
    refine ⟨(a, b) :: Z, by rw [e1]; rfl, by rw [e2]; rfl, fun p m => ?_⟩
    rcases List.mem_cons.mp m with e | m
    · rw [e]
      exact h
    · exact e3 p m
theorem zipP {R : Addr → List Str → Prop} : ∀ {Z : List (Addr × List Str)}, (∀ p ∈ Z, R p.1 p.2) → Paired R (Z.map (·.1)) (Z.map (·.2))
  | [], _ => .nil
  | p :: Z, h => .cons (h p List.mem_cons_self) (zipP fun q m => h q (List.mem_cons_of_mem _ m))
def spSchema (d : Addr) (H : Hp) (Q : VK) : Prop := ∀ p H1 S dt dk dw, Rolled d H H1 → PlainO H1 p S dt dk dw → H p = none → H dt = none → H dk = none → H dw = none → Q (.ref p) H1
def spSch : Sp := fun vs H Q _ => ∃ (d : Addr) (n : Nat), vs = [.ref d, .int n] ∧ Die H d ∧ 1 ≤ n ∧ n ≤ 5 ∧ spSchema d H Q
theorem ok_schema (T : Txt K mg a) : FnOk P w K mg base CX0 5 a.schema a.fd_schema ps__law_schema spSch := by
  have F := T.F_schema
  refine F.ok (k := 4) sc__law_schema (fun vs H Q E h => ?_) (fun cdv A outer s H vs Q E hr h => ?_)
  · obtain ⟨d, n, rfl, hD, n1, n5, k⟩ := h
    rfl
  · obtain ⟨d, n, rfl, hD, n1, n5, k⟩ := h
    have hu := hu_of hr
    refine ⟨_, (pss_cons (ps_asg (pe_tup (pa_cons pe_dnewK (pa_cons pe_dnewK pa_nil))) (pg_tup rfl (pgs_cons (pg_name (i := 2) sc__law_schema.nd rfl (Or.inr rfl)) (pgs_cons (pg_name (i := 3) sc__law_schema.nd rfl (Or.inl rfl)) pgs_nil))))
      (pss_cons (ps_for PassesOwn.never rfl (pi_list (pe_call (ok_names T) (hr.mono (by decide)) (by rfl) T.g_names T.F_names.kp (b_names T) .nil pass0 (pa_cons (pv 0) (pa_cons (pe_op op_add pe_int (pe_call (ok_roll T) (hr.mono (by decide)) (by rfl) T.g_roll T.F_roll.kp (b_roll T) .nil pass0 (pa_cons (pv 0) (pa_cons (pv 1) pa_nil)))) pa_nil)))) (pg_name (i := 4) sc__law_schema.nd rfl (Or.inr rfl)) (pss_one (ps_dput hu (pv 2) (pv 4) (pe_callTy call_tuple_of (by rfl) T.tuple (by decide +kernel) (pa_cons (pe_callB cr_sortedS (by rfl) T.sorted (by decide +kernel) (pa_cons (pe_call (ok_names T) (hr.mono (by decide)) (by rfl) T.g_names T.F_names.kp (b_names T) .nil pass0 (pa_cons (pv 0) (pa_cons (pe_op op_add pe_int (pe_call (ok_roll T) (hr.mono (by decide)) (by rfl) T.g_roll T.F_roll.kp (b_roll T) .nil pass0 (pa_cons (pv 0) (pa_cons pe_int pa_nil)))) pa_nil))) pa_nil)) pa_nil)) rfl)))
      (pss_cons (ps_lock (ps_for PassesOwn.never rfl (pi_keys (pv 2)) (pg_name (i := 4) sc__law_schema.nd rfl (Or.inr rfl)) (pss_cons (ps_setLc (i := 5) (own := [("_law_turn", 6)]) rfl sc__law_schema.nd rfl rfl (sw_true rfl rfl rfl (by decide +kernel)) (pi_range1 (by rfl) T.range (pa_cons (pe_call (ok_pick T) (hr.mono (by decide)) (by rfl) T.g_pick T.F_pick.kp (b_pick T) .nil pass0 (pa_cons (pv 0) (pa_cons (pe_lst (pa_cons pe_int (pa_cons pe_int (pa_cons pe_int (pa_cons pe_int (pa_cons pe_int (pa_cons pe_int pa_nil))))))) pa_nil))) pa_nil)) (blkOk_by (N := nm__law_schema) (sc := defScope s__law_schema) (by decide +kernel)) (fun _ _ _ _ _ => (pg_name (i := 6) sc__law_schema.nd rfl (Or.inl rfl))) (fun _ _ _ _ _ => pts_nil) (fun _ _ _ _ _ => (pe_call (ok_some T) (hr.mono (by decide)) (by rfl) T.g_some T.F_some.kp (b_some T) .nil pass0 (pa_cons (pv 0) (pa_cons (pe_dget hu (pv 2) (pv 4) (fun _ _ => rfl)) (pa_cons pe_int pa_nil))))))
      (pss_one (ps_if (pt_cmpR (Le.op_neL hr.units) (pv 5) (pe_lst pa_nil) (nomark _)) (pss_one (ps_dput hu (pv 3) (pv 4) (pe_callTy call_tuple_of (by rfl) T.tuple (by decide +kernel) (pa_cons (Sx.pe_sortSet hr (by rfl) T.sorted (by rfl) T.set (pv 5)) pa_nil)) rfl)) pss_nil)))))
      (pss_one (ps_ret (pe_disp (pps_cons pe_str (pv 2) (pps_cons pe_str (pv 3) (pps_cons pe_str (pe_call (ok_ways T) (hr.mono (by decide)) (by rfl) T.g_ways T.F_ways.kp (b_ways T) .nil pass0 (pa_cons (pv 0) (pa_cons (pv 2) (pa_cons (pv 3) pa_nil)))) pps_nil))) (by rfl) (by rfl) (fun z => by cases z) (by decide))))))), ?_⟩
    intro t0 nt0
    generalize EH1 : upd H t0 _ = H1
    have ht0 := (congrFun EH1 t0).symm.trans upd_same
    have S1 : Same H H1 := by rw [← EH1]; exact sameNew nt0
    intro l0 nl0
    generalize EH2 : upd H1 l0 _ = H2
    have hl0 := (congrFun EH2 l0).symm.trans upd_same
    have S2 : Same H1 H2 := by rw [← EH2]; exact sameNew nl0
    refine ⟨by show 2 ≤ sizeLine; decide, fun u0 nu0 => ?_⟩
    generalize EH3 : upd H2 u0 _ = H3
    have hu0 := (congrFun EH3 u0).symm.trans upd_same
    have S3 : Same H2 H3 := by rw [← EH3]; exact sameNew nu0
    refine ⟨u0, _, rfl, SqT.of hu0, rfl, _, _, rfl, _, _, rfl, rfl, ?_⟩
    have R3 : Rolled d H H3 := same_roll hD ((S1.trans S2).trans S3)
    have ntd : t0 ≠ d := hD.ne nt0
    have nld : l0 ≠ d := (die_same hD S1).ne nl0
    have ntl : t0 ≠ l0 := fun z => by rw [← z, ht0] at nl0; cases nl0
    have nlH : H l0 = none := nn S1 nl0
    have ht3 := S3 _ _ (S2 _ _ ht0)
    have hl3 := S3 _ _ hl0
    refine ⟨_, rfl, _, rfl, _, rfl, d, (n : Int), rfl, R3.die, by omega, by omega, fun r H4 r0 r1 R4 => ?_⟩
    obtain ⟨rr, rfl⟩ := Int.eq_ofNat_of_zero_le r0
    refine ⟨1, (rr : Int), rfl, rfl, ?_⟩
    refine ⟨d, rr + 1, (by show [V.ref d, V.int (1 + (rr : Int))] = [V.ref d, V.int ((rr + 1 : Nat) : Int)]; rw [show (1 + (rr : Int)) = ((rr + 1 : Nat) : Int) from by omega]), R4.die, by omega, fun z0 zs H5 R5 nz0 hz0 lz ndz nmz => ?_⟩
    refine ⟨z0, rfl, ⟨_, SqL.of hz0⟩, ?_⟩
    have R05 := (R3.trans R4).trans R5
    have nzd : z0 ≠ d := R4.die.ne nz0
    have nzt : z0 ≠ t0 := fun z => by rw [z, R4.keep _ _ ntd ht3] at nz0; cases nz0
    refine for_it (walk_list (K := K) (a := z0) (xs := zs.map V.str)) (fun i σ Hi => ∃ x4 x5 x6 kt T, σ = [some (.ref d), some (.int (n : Int)), some (.ref t0), some (.ref l0), x4, x5, x6] ∧ Rolled d H Hi ∧ Hi z0 = some (.lst (zs.map V.str)) ∧ Hi l0 = some (.dK []) ∧ Hi t0 = some (.dK kt) ∧ Paired (EntOf (ColT Hi)) kt T ∧ T.map (·.1) = zs.take i ∧ ∀ p ∈ T, ColsOk p.2) ⟨none, none, none, [], [], rfl, R05, hz0, R5.keep _ _ nld (R4.keep _ _ nld hl3), R5.keep _ _ ntd (R4.keep _ _ ntd ht3), .nil, rfl, fun _ m => (by cases m)⟩ (fun i σ Hi hi q => by
      obtain ⟨_, _, _, _, _, _, _, q, _⟩ := q
      exact SqL.of q) ?_ ?_
    · rintro i y σ Hi Hi2 hi ⟨x4, x5, x6, kt, T, rfl, R, hz, hl, ht, pT, kT, okC⟩ ⟨rfl, hy⟩
      rw [List.getElem?_map] at hy
      obtain ⟨nm, hn, rfl⟩ := Option.map_eq_some_iff.mp hy
      refine ⟨_, rfl, _, rfl, d, 4, rfl, R.die, by decide, by decide, fun q H6 q0 q1 R6 => ?_⟩
      obtain ⟨qq, rfl⟩ := Int.eq_ofNat_of_zero_le q0
      refine ⟨1, (qq : Int), rfl, rfl, ?_⟩
      refine ⟨d, qq + 1, (by show [V.ref d, V.int (1 + (qq : Int))] = [V.ref d, V.int ((qq + 1 : Nat) : Int)]; rw [show (1 + (qq : Int)) = ((qq + 1 : Nat) : Int) from by omega]), R6.die, by omega, fun zc cs H7 R7 nzc hzc lc ndc nmc => ?_⟩
      refine ⟨zc, _, rfl, SqL.of hzc, by omega, fun ks p pk srt np => ?_⟩
      generalize EH8 : upd H7 p _ = H8
      have hp := (congrFun EH8 p).symm.trans upd_same
      have S8 : Same H7 H8 := by rw [← EH8]; exact sameNew np
      refine ⟨p, _, rfl, .inl ⟨SqL.of hp, fun l nl => ?_⟩⟩
      generalize EH9 : upd H8 l _ = H9
      have hl9 := (congrFun EH9 l).symm.trans upd_same
      have S9 : Same H8 H9 := by rw [← EH9]; exact sameNew nl
      have S79 := S8.trans S9
      have R9 := roll_same ((R.trans R6).trans R7) S79
      have k9 : ∀ b o, b ≠ d → Hi2 b = some o → H9 b = some o := fun b o nb e => S79 _ _ (R7.keep _ _ nb (R6.keep _ _ nb e))
      have ts9 : TS Hi2 H9 := ((TS.roll R.die R6).trans (TS.roll R6.die R7)).trans (TS.of S79)
      have ht9 := k9 _ _ ntd ht
      have lk : kt.length ≤ 5 := by
        have e := congrArg List.length kT
        rw [List.length_map, List.length_take] at e
        rw [pT.length]
        omega
      have nn1 : nm ∉ T.map (·.1) := fun m => by
        rw [kT] at m
        obtain ⟨t, ht2⟩ := List.mem_iff_getElem?.mp m
        rw [List.getElem?_take] at ht2
        by_cases c2 : t < i
        · rw [if_pos c2] at ht2
          have := (List.getElem?_inj (List.getElem?_eq_some_iff.mp ht2).1 ndz).mp (ht2.trans hn.symm)
          omega
        · rw [if_neg c2] at ht2
          cases ht2
      refine ⟨_, rfl, _, rfl, t0, _, rfl, .inl ⟨kt, .inr nm, ht9, rfl, by rw [sizeLine_eq]; omega, rfl⟩, ?_⟩
      rw [putK_new _ (val_no pT nn1)]
      have offT : Off t0 H9 (upd H9 t0 (.dK (kt ++ [(Sum.inr nm, V.ref l)]))) := Off.lock
      have tsT : TS H9 (upd H9 t0 (.dK (kt ++ [(Sum.inr nm, V.ref l)]))) := TS.off offT fun ys e => by rw [ht9] at e; cases e
      refine ⟨_, _, _, _, T ++ [(nm, ks)], rfl, roll_upd R9 nt0 ntd, offT _ _ nzt (k9 _ _ nzd hz), offT _ _ (Ne.symm ntl) (k9 _ _ nld hl), upd_same, paired_snoc (ent_off (fun _ _ e => ColT.ts (ts9.trans tsT) e) pT) ⟨rfl, l, rfl, tsT _ _ hl9⟩, ?_, fun p m => ?_⟩
      · rw [List.map_append, kT, take_at hn]
        rfl
      · rcases List.mem_append.mp m with m | m
        · exact okC p m
        · rw [List.mem_singleton.mp m]
          have lks : ks.length = cs.length := pk.length_eq
          exact ⟨fun c mc => nmc c (pk.mem_iff.mp mc), by show 1 ≤ ks.length; omega, by show ks.length ≤ 4; omega, asc_of srt (pk.nodup_iff.mpr ndc)⟩
    rintro σ Hi ⟨x4, x5, x6, kt, T, rfl, R, hz, hl, ht, pT, kT, okC⟩
    rw [List.length_map, List.take_length] at kT
    have lT : T.length = rr + 1 := by
      have e := congrArg List.length kT
      rw [List.length_map] at e
      omega
    have okT : TabsOk T := ⟨by omega, by omega, by rw [kT]; exact nmz, by rw [kT]; exact ndz, okC⟩
    have ltT : kt.length = T.length := pT.length
    have l5 : T.length ≤ 5 := okT.n5
    refine ⟨t0, .dK kt, ht, trivial, fun od => ?_⟩
    have RL : Rolled d H (upd Hi t0 (.frz od (.dK kt))) := roll_upd R nt0 ntd
    have tsL : TS Hi (upd Hi t0 (.frz od (.dK kt))) := TS.off Off.lock fun ys e => by rw [ht] at e; cases e
    have eL : upd Hi t0 (.frz od (.dK kt)) t0 = some (.frz od (.dK kt)) := upd_same
    have hlL : upd Hi t0 (.frz od (.dK kt)) l0 = some (.dK []) := by rw [upd_ne (Ne.symm ntl)]; exact hl
    have pTL := ent_off (fun _ _ e => ColT.ts tsL e) pT
    generalize upd Hi t0 (.frz od (.dK kt)) = HL at RL tsL eL hlL pTL ⊢
    refine ⟨_, rfl, t0, od, rfl, .inl ⟨kt, eL, ?_⟩⟩
    refine for_it (walk_keys (o := od) (d := t0) (kvs := kt)) (fun i σ Hj => ∃ x4 x5 x6 kk L, σ = [some (.ref d), some (.int (n : Int)), some (.ref t0), some (.ref l0), x4, x5, x6] ∧ Rolled d H Hj ∧ Hj t0 = some (.frz od (.dK kt)) ∧ Hj l0 = some (.dK kk) ∧ TS HL Hj ∧ Paired (EntOf (KeyT Hj)) kk L ∧ (∀ x ∈ L.map (·.1), x ∈ (T.take i).map (·.1)) ∧ KeysD T L ∧ L.length ≤ i) ⟨x4, x5, x6, [], [], rfl, RL, eL, hlL, fun _ _ e => e, .nil, fun _ m => (by cases m), ⟨List.nodup_nil, fun _ m => (by cases m)⟩, Nat.zero_le _⟩ (fun i σ Hj hj q => by
      obtain ⟨_, _, _, _, _, _, _, q, _⟩ := q
      exact q) ?_ ?_
    · rintro i y σ Hj Hj2 hj ⟨x4, x5, x6, kk, L, rfl, Rj, et, el, tsj, pL, sub, okL, lL⟩ ⟨rfl, kx, v2, hkx, rfl⟩
      obtain ⟨e, he, e1, ct, ev, hct⟩ := paired_at pTL hkx
      have e1 : kx = .inr e.1 := e1
      have ev : v2 = .ref ct := ev
      subst e1 ev
      have eV := (valV_at (nd_ent pTL okT.nd) hkx).symm
      have em := List.mem_of_getElem? he
      have oc := okT.cols _ em
      refine ⟨_, rfl, by show 6 ≤ sizeLine; decide, fun pl npl => ?_⟩
      generalize EHa : upd Hj2 pl _ = Ha
      have hpl := (congrFun EHa pl).symm.trans upd_same
      have Sa : Same Hj2 Ha := by rw [← EHa]; exact sameNew npl
      refine ⟨d, .ref pl, _, rfl, die_same Rj.die Sa, ⟨Rj.die.ne npl, .inl (SqL.of hpl)⟩, by decide, by decide, fun v Hb hv Rb => ?_⟩
      obtain ⟨m, m2, rfl⟩ : ∃ m : Nat, m ≤ 2 ∧ v = V.int (m : Int) := by
        simp only [List.mem_cons, List.mem_nil_iff, or_false] at hv
        rcases hv with h | h | h | h | h | h
        · exact ⟨0, by decide, h⟩
        · exact ⟨1, by decide, h⟩
        · exact ⟨1, by decide, h⟩
        · exact ⟨1, by decide, h⟩
        · exact ⟨2, by decide, h⟩
        · exact ⟨2, by decide, h⟩
      have kb : ∀ b o, b ≠ d → Hj2 b = some o → Hb b = some o := fun b o nb e => Rb.keep _ _ nb (Sa _ _ e)
      have RB := (roll_same Rj Sa).trans Rb
      have tsb : TS HL Hb := (tsj.trans (TS.of Sa)).trans (TS.roll (die_same Rj.die Sa) Rb)
      refine ⟨(m : Int), rfl, by omega, by omega, fun D hD0 => ?_⟩
      rw [Int.toNat_natCast]
      have nDd : D ≠ d := RB.die.ne hD0
      refine lc_range (lo := 0) (n := m) (fun j Hq => ∃ (es : List Addr) (ds : List (List Str)), Hq D = some (.lst (es.map V.ref)) ∧ Paired (fun c key => Hq c = some (.tup (key.map V.str))) es ds ∧ es.length = j ∧ (∀ z ∈ ds, KeyOk e.2 z) ∧ Rolled d Hb Hq) ⟨[], [], upd_same, .nil, rfl, fun _ m => (by cases m), (Rolled.refl RB.die).new hD0⟩ ?_ ?_
      · rintro j Hq hq ⟨es, ds, eD, pe, le, ok, Rq⟩
        have tsq := tsb.trans (TS.roll RB.die Rq)
        refine ⟨rfl, ?_⟩
        dsimp only [tYes]
        rw [if_pos rfl]
        refine ⟨_, rfl, _, rfl, _, rfl, t0, .ref ct, rfl, .inl ⟨kt, .inr e.1, .inr ⟨od, Rq.keep _ _ ntd (kb _ _ ntd et)⟩, rfl, eV⟩, ?_⟩
        refine ⟨d, ct, e.2, rfl, Rq.die, tsq _ _ hct, oc.2.1, oc.2.2.1, nd_of_asc oc, fun z ks Hr Rr nz hz okk => ?_⟩
        have eDr := Rr.keep _ _ nDd eD
        have nDz : D ≠ z := ne_of_none eD nz
        have tsr : TS Hr (upd Hr D (.lst (es.map V.ref ++ [V.ref z]))) := TS.off Off.lock fun ys q => by rw [eDr] at q; cases q
        refine ⟨_, eDr, by rw [List.length_map, sizeLine_eq]; omega, es ++ [z], ds ++ [ks], by rw [List.map_append]; exact upd_same, ?_, by rw [List.length_append, le]; rfl, fun y my => ?_, (Rq.trans Rr).mut hD0 nDd⟩
        · exact paired_snoc (Paired.mapP pe fun _ _ q => tsr _ _ (TS.roll Rq.die Rr _ _ q)) (tsr _ _ hz)
        · rcases List.mem_append.mp my with my | my
          · exact ok y my
          · rw [List.mem_singleton.mp my]
            exact okk
      rintro Hq ⟨es, ds, eD, pe, le, ok, Rq⟩
      refine ⟨_, rfl, by show 0 ≤ sizeLine; decide, fun e1 ne1 => ?_⟩
      generalize EHr : upd Hq e1 _ = Hr
      have he1 := (congrFun EHr e1).symm.trans upd_same
      have Sr : Same Hq Hr := by rw [← EHr]; exact sameNew ne1
      have kr : ∀ b o, b ≠ d → Hj2 b = some o → Hr b = some o := fun b o nb e => Sr _ _ (Rq.keep _ _ nb (kb _ _ nb e))
      have RR := roll_same (RB.trans Rq) Sr
      have tsr := (tsb.trans (TS.roll RB.die Rq)).trans (TS.of Sr)
      have ts2 : TS Hj2 Hr := (((TS.of Sa).trans (TS.roll (die_same Rj.die Sa) Rb)).trans (TS.roll RB.die Rq)).trans (TS.of Sr)
      have eDr := Sr _ _ eD
      have pLr := ent_off (fun _ _ e => KeyT.ts ts2 e) pL
      cases es with
      | nil =>
        refine .inl ⟨.list [], .list [], .lst (SqL.of eDr) .nil, .lst (SqL.of he1) .nil, (by decide +kernel), (by decide +kernel), ?_⟩
        refine ⟨_, rfl, ?_⟩
        refine ite_f (by decide +kernel) ?_
        refine ⟨_, _, _, kk, L, rfl, RR, kr _ _ ntd et, kr _ _ nld el, tsr, pLr, fun x mx => ?_, okL, Nat.le_succ_of_le lL⟩
        rw [take_at he, List.map_append]
        exact List.mem_append_left _ (sub x mx)
      | cons e0 er =>
        refine .inr ⟨D, e1, _, [], rfl, rfl, eDr, he1, (by simp), ?_⟩
        refine ⟨_, rfl, ?_⟩
        refine iteT ?_
        obtain ⟨Z, hZ1, hZ2, hZ3⟩ := unzip pe
        have lZ : Z.length = m := by rw [← le, hZ1, List.length_map]
        rw [hZ1] at eDr
        refine ⟨_, rfl, D, Z, rfl, SqL.of (by rw [eDr, List.map_map]; rfl), fun p hp => ⟨SqT.of (Sr _ _ (hZ3 p hp)), (ok p.2 (by rw [hZ2]; exact List.mem_map_of_mem hp)).1⟩, by omega, fun M q sub2 all nd pw nq => ?_⟩
        generalize EHs : upd Hr q _ = Hs
        have hq := (congrFun EHs q).symm.trans upd_same
        have Ss : Same Hr Hs := by rw [← EHs]; exact sameNew nq
        refine ⟨q, _, rfl, .inl ⟨SqL.of hq, fun l nl => ?_⟩⟩
        generalize EHt : upd Hs l _ = Ht
        have hl := (congrFun EHt l).symm.trans upd_same
        have St : Same Hs Ht := by rw [← EHt]; exact sameNew nl
        have Srt := Ss.trans St
        have nn1 : e.1 ∉ L.map (·.1) := fun mm => by
          have m2 := sub _ mm
          rw [List.map_take] at m2
          obtain ⟨t, ht2⟩ := List.mem_iff_getElem?.mp m2
          rw [List.getElem?_take] at ht2
          by_cases c2 : t < i
          · rw [if_pos c2] at ht2
            have := (List.getElem?_inj (List.getElem?_eq_some_iff.mp ht2).1 okT.nd).mp (ht2.trans (by rw [List.getElem?_map, he]; rfl))
            omega
          · rw [if_neg c2] at ht2
            cases ht2
        have lkk : kk.length = L.length := pL.length
        have elt := Srt _ _ (kr _ _ nld el)
        refine ⟨_, rfl, _, rfl, l0, _, rfl, .inl ⟨kk, .inr e.1, elt, rfl, by rw [sizeLine_eq]; omega, rfl⟩, ?_⟩
        rw [putK_new _ (val_no pL nn1)]
        have offK : Off l0 Ht (upd Ht l0 (.dK (kk ++ [(Sum.inr e.1, V.ref l)]))) := Off.lock
        have tsK : TS Ht (upd Ht l0 (.dK (kk ++ [(Sum.inr e.1, V.ref l)]))) := TS.off offK fun ys e => by rw [elt] at e; cases e
        have tsrt := (TS.of Srt).trans tsK
        have hM : ∀ p ∈ M, p ∈ Z := sub2
        have l1 : 1 ≤ (M.map (·.2)).length := by
          cases Z with
          | nil => cases hZ1
          | cons z0 zr => exact List.length_pos_of_mem (all z0 List.mem_cons_self)
        have l2 : (M.map (·.2)).length ≤ 2 := by
          have := len_sub (B := Z.map (·.2)) nd (fun x mx => by
            obtain ⟨p, hp, rfl⟩ := List.mem_map.mp mx
            exact List.mem_map_of_mem (hM p hp))
          simp only [List.length_map] at this ⊢
          omega
        refine ⟨_, _, _, _, L ++ [(e.1, M.map (·.2))], rfl, roll_upd (roll_same RR Srt) nlH nld, offK _ _ ntl (Srt _ _ (kr _ _ ntd et)), upd_same, tsr.trans tsrt, paired_snoc (ent_off (fun _ _ e => KeyT.ts tsrt e) pLr) ⟨rfl, l, rfl, M.map (·.1), ?_, zipP fun p hp => tsrt _ _ (Sr _ _ (hZ3 p (hM p hp)))⟩, fun x mx => ?_, ⟨?_, fun p mp => ?_⟩, by rw [List.length_append]; show _ + 1 ≤ _; omega⟩
        · rw [List.map_map]
          exact tsK _ _ hl
        · rw [take_at he, List.map_append]
          rw [List.map_append] at mx
          rcases List.mem_append.mp mx with mx | mx
          · exact List.mem_append_left _ (sub x mx)
          · rw [List.mem_singleton.mp mx]
            exact List.mem_append_right _ (List.mem_singleton.mpr rfl)
        · rw [List.map_append, List.nodup_append]
          exact ⟨okL.nd, List.pairwise_singleton _ _, fun a ha b2 hb2 e2 => nn1 (by have h : b2 = e.1 := List.mem_singleton.mp hb2; rw [← h, ← e2]; exact ha)⟩
        · rcases List.mem_append.mp mp with mp | mp
          · exact okL.keys p mp
          · rw [List.mem_singleton.mp mp]
            refine ⟨e.2, em, l1, l2, fun z hz => ?_, fun a b ha hb => ?_⟩
            · obtain ⟨p, hp, rfl⟩ := List.mem_map.mp hz
              exact ok p.2 (by rw [hZ2]; exact List.mem_map_of_mem (hM p hp))
            · rw [List.getElem?_map] at ha hb
              obtain ⟨pa, ha2, rfl⟩ := Option.map_eq_some_iff.mp ha
              obtain ⟨pb, hb2, rfl⟩ := Option.map_eq_some_iff.mp hb
              match M, nd, pw, ha2, hb2 with
              | pa :: pb :: M, nd, pw, rfl, rfl =>
                refine Lxk.lex_of (List.rel_of_pairwise_cons pw List.mem_cons_self) fun e => ?_
                rw [List.map_cons, List.nodup_cons] at nd
                exact nd.1 (by rw [e]; exact List.mem_cons_self)
    rintro σ Hj ⟨x4, x5, x6, kk, L, rfl, Rj, et, el, tsj, pL, sub, okL, lL⟩
    refine ⟨et, ?_⟩
    have ntH : H t0 = none := nt0
    have RU : Rolled d H (upd Hj t0 (.dK kt)) := roll_upd Rj nt0 ntd
    have tsU : TS Hj (upd Hj t0 (.dK kt)) := TS.off Off.lock fun ys e => by rw [et] at e; cases e
    have etU : upd Hj t0 (.dK kt) t0 = some (.dK kt) := upd_same
    have elU : upd Hj t0 (.dK kt) l0 = some (.dK kk) := by rw [upd_ne (Ne.symm ntl)]; exact el
    have pLU := ent_off (fun _ _ e => KeyT.ts tsU e) pL
    have pTU := ent_off (fun _ _ e => ColT.ts (tsj.trans tsU) e) pTL
    generalize upd Hj t0 (.dK kt) = HU at RU etU elU pLU pTU ⊢
    intro p np
    generalize EHV : upd HU p _ = HV
    have hp := (congrFun EHV p).symm.trans upd_same
    have SV : Same HU HV := by rw [← EHV]; exact sameNew np
    refine ⟨_, rfl, _, rfl, _, rfl, _, rfl, _, rfl, ?_⟩
    have RV := roll_same RU SV
    have npd : p ≠ d := RU.die.ne np
    have npH : H p = none := RU.free np
    refine ⟨d, t0, l0, kt, kk, T, L, rfl, RV.die, SV _ _ etU, SV _ _ elU, ent_off (fun _ _ e => ColT.ts (TS.of SV) e) pTU, ent_off (fun _ _ e => KeyT.ts (TS.of SV) e) pLU, okT, okL, fun dw HW kw W RW nw hw pW okW => ?_⟩
    have hpW := RW.keep _ _ npd hp
    refine ⟨hpW, [(.inr "tables", .ref t0), (.inr "locks", .ref l0), (.inr "ways", .ref dw)], rfl, by show 3 ≤ 15; decide, ?_⟩
    have nwp : p ≠ dw := fun z => by rw [← z, hp] at nw; cases nw
    have RF : Rolled d H (upd HW p (.dK (mergeK [] [(.inr "tables", .ref t0), (.inr "locks", .ref l0), (.inr "ways", .ref dw)]))) := roll_upd (RV.trans RW) npH npd
    have offP : Off p HW (upd HW p (.dK (mergeK [] [(.inr "tables", .ref t0), (.inr "locks", .ref l0), (.inr "ways", .ref dw)]))) := Off.lock
    have tsP : TS HW (upd HW p (.dK (mergeK [] [(.inr "tables", .ref t0), (.inr "locks", .ref l0), (.inr "ways", .ref dw)]))) := TS.off offP fun ys e => by rw [hpW] at e; cases e
    have ntp : t0 ≠ p := fun z => by rw [← z, etU] at np; cases np
    have nlp : l0 ≠ p := fun z => by rw [← z, elU] at np; cases np
    have nlw : l0 ≠ dw := fun z => by rw [← z, SV _ _ elU] at nw; cases nw
    have tsV := (TS.of SV).trans ((TS.roll RV.die RW).trans tsP)
    exact k p _ ⟨T, L, W⟩ t0 l0 dw RF ⟨by rw [upd_same]; rfl, ⟨⟨kt, offP _ _ ntp (RW.keep _ _ ntd (SV _ _ etU)), ent_off (fun _ _ e => ColT.ts tsV e) pTU⟩, ⟨kk, offP _ _ nlp (RW.keep _ _ nld (SV _ _ elU)), ent_off (fun _ _ e => KeyT.ts tsV e) pLU⟩, ⟨kw, offP _ _ (Ne.symm nwp) hw, ent_off (fun _ _ e => WayT.ts tsP e) pW⟩⟩, ⟨okT, okL, okW⟩, nlw⟩ npH nt0 nlH (RV.free nw)
end
end K04

set_option Elab.async false
set_option linter.all false
set_option maxRecDepth 100000
set_option maxHeartbeats 4000000
open L2 in
local macro_rules | `(tactic| walk_at "q1") => `(tactic| first
  | refine ⟨_, rfl, ?_⟩
  | refine ⟨_, _, rfl, rfl, ?_⟩
  | refine And.intro (show CMul _ _ from Or.inr ⟨by decide, by decide⟩) ?_
  | refine And.intro (show CMul _ _ from Or.inl ⟨by first | decide | omega, by first | decide | omega⟩) ?_
  | refine And.intro (show CMul _ _ from Or.inr ⟨by omega, by omega⟩) ?_
  | refine And.intro (show CDiv _ _ from ⟨by omega, by omega⟩) ?_
  | refine And.intro (show Dt.CPowG _ _ from ⟨by decide, by decide +kernel⟩) ?_
  | refine And.intro (by first | decide | omega) ?_
  | refine And.intro (Int.pow_pos (Int.pow_pos (by decide))) ?_
  | refine ⟨_, _, _, _, rfl, rfl, SqL.of (by first | assumption | exact upd_same), (by rfl), ?_⟩
  | refine ⟨_, _, _, _, rfl, rfl, (by first | assumption | exact upd_same), (by rfl), ?_⟩
  | refine Or.inl ⟨_, rfl, ?_⟩
  | refine Or.inr ⟨_, rfl, ?_⟩)
local macro_rules | `(tactic| walk_at "q") => `(tactic| repeat (walk_at "q1"))
local macro_rules | `(tactic| walk_at "eqt") => `(tactic| (refine ⟨_, rfl, ?_⟩; refine ⟨rfl, ?_⟩; first
  | (refine ⟨true, rfl, ?_⟩; refine L2.iteT ?_)
  | (refine ⟨false, rfl, ?_⟩; refine L2.iteF ?_)))
local macro_rules | `(tactic| walk_at "sz") => `(tactic| (rw [PySem.sizeLine_eq]; simp))
namespace K04
open PySem PySem.Spec PyProof.Rows L2 Dt An Rp Sp4
section
variable {P : Program} {w : World} {K : PySem.W.Frag} {mg : Str → Option Value} {base : Heap} {a : Ads}
def spMade (C : Addr) : Sp := fun vs H Q _ => ∃ p S dt dk dw, vs = [.ref p] ∧ PlainO H p S dt dk dw ∧ NewSch C H S Q
theorem ok_schema_made (T : Txt K mg a) : FnOk P w K mg base CX0 7 a.schema_made a.fd_schema_made ps__law_schema_made (spMade a.c_Schema) := by
  have F := T.F_schema_made
  refine F.ok (k := 6) sc__law_schema_made (fun vs H Q E h => ?_) (fun cdv A outer s H vs Q E hr h => ?_)
  · obtain ⟨p, S, dt, dk, dw, rfl, hp, k⟩ := h
    rfl
  · obtain ⟨p, S, dt, dk, dw, rfl, hp, k⟩ := h
    have hu := hu_of hr
    obtain ⟨kmv, kbS⟩ := kb_Schema___init__ T
    refine ⟨_, (pss_one (ps_ret (pe_makeK T.mk_Schema (ok_Schema___init__ T) (hr.mono (by decide)) (by rfl) T.g_c_Schema kbS never (pa_cons (pe_dget hu (pv 0) pe_str (fun _ _ => rfl)) pa_nil) (pk_cons (pe_dget hu (pv 0) pe_str (fun _ _ => rfl)) (pk_cons (pe_dget hu (pv 0) pe_str (fun _ _ => rfl)) pk_nil))))), ?_⟩
    refine ⟨_, rfl, p, .ref dt, rfl, .inl ⟨_, .inr "tables", .inl hp.at_, rfl, rfl⟩, ?_⟩
    refine ⟨_, rfl, p, .ref dk, rfl, .inl ⟨_, .inr "locks", .inl hp.at_, rfl, rfl⟩, ?_⟩
    refine ⟨_, rfl, p, .ref dw, rfl, .inl ⟨_, .inr "ways", .inl hp.at_, rfl, rfl⟩, ?_⟩
    refine ⟨rfl, rfl, ?_⟩
    exact mk_new (Same.refl _) hp.data hp.kw hp.ok k
theorem valV_none {kvs : List (Key × V)} {k : Key} (h : k ∉ kvs.map (·.1)) : valV kvs k = none := by
  unfold valV
  rw [List.find?_eq_none.mpr (fun p m c => h (by rw [← of_decide_eq_true c]; exact List.mem_map_of_mem m))]
  rfl
theorem merge_end : ∀ {more acc : List (Key × V)}, ((acc ++ more).map (·.1)).Nodup → mergeK acc more = acc ++ more
  | [], acc, _ => (List.append_nil acc).symm
  | p :: more, acc, nd => by
    have n1 : p.1 ∉ acc.map (·.1) := fun m => by
      rw [List.map_append, List.nodup_append] at nd
      exact nd.2.2 _ m _ (List.mem_map_of_mem List.mem_cons_self) rfl
    show mergeK (putK acc p.1 p.2) more = _
    rw [putK_new _ (valV_none n1), merge_end (by rw [List.append_assoc]; exact nd), List.append_assoc]
    rfl
theorem merge_self {kvs : List (Key × V)} (nd : (kvs.map (·.1)).Nodup) : mergeK [] kvs = kvs := merge_end (acc := []) nd
theorem merge_put {kvs : List (Key × V)} (nd : (kvs.map (·.1)).Nodup) (k : Key) (v : V) : mergeK [] (kvs ++ [(k, v)]) = putK kvs k v := by
  unfold mergeK
  rw [List.foldl_append]
  show putK (mergeK [] kvs) k v = _
  rw [merge_self nd]
def spWith : Sp := fun vs H Q _ => ∃ d kvs n v, vs = [.ref d, .str n, v] ∧ Rd H d (.dK kvs) ∧ (kvs.map (·.1)).Nodup ∧ kvs.length ≤ 100 ∧ ∀ q H', Same H H' → H q = none → H' q = some (.dK (putK kvs (.inr n) v)) → Q (.ref q) H'
theorem ok_with (T : Txt K mg a) : FnOk P w K mg base CX0 4 a.«with» a.fd_with ps__law_with spWith := by
  have F := T.F_with
  refine F.ok (k := 3) sc__law_with (fun vs H Q E h => ?_) (fun cdv A outer s H vs Q E hr h => ?_)
  · obtain ⟨d, kvs, n, v, rfl, hd, nd, l, k⟩ := h
    rfl
  · obtain ⟨d, kvs, n, v, rfl, hd, nd, l, k⟩ := h
    have hu := hu_of hr
    refine ⟨_, (pss_one (ps_ret (pe_callTy (call_dictP rfl) (by rfl) T.dict (by decide +kernel) (pa_cons (pe_op op_cat (Li.pe_listItemsR rfl (pv 0) (by rfl) T.list (by decide +kernel)) (pe_lst (pa_cons (pe_tup (pa_cons (pv 1) (pa_cons (pv 2) pa_nil))) pa_nil))) pa_nil)))), ?_⟩
    refine ⟨_, rfl, d, kvs, rfl, hd, fun H1 p ts S1 np nts nip hp pts => ?_⟩
    have lt : ts.length = kvs.length := pts.length
    refine ⟨_, rfl, _, rfl, by show 2 ≤ sizeLine; decide, fun t nt => ?_⟩
    generalize EH2 : upd H1 t _ = H2
    have ht := (congrFun EH2 t).symm.trans upd_same
    have S2 : Same H1 H2 := by rw [← EH2]; exact sameNew nt
    refine ⟨by show 1 ≤ sizeLine; decide, fun u nu => ?_⟩
    generalize EH3 : upd H2 u _ = H3
    have hu := (congrFun EH3 u).symm.trans upd_same
    have S3 : Same H2 H3 := by rw [← EH3]; exact sameNew nu
    refine ⟨p, u, _, _, rfl, rfl, S3 _ _ (S2 _ _ hp), hu, by rw [List.length_map, sizeLine_eq]; show _ + 1 ≤ _; omega, fun c nc => ?_⟩
    generalize EH4 : upd H3 c _ = H4
    have hc := (congrFun EH4 c).symm.trans upd_same
    have S4 : Same H3 H4 := by rw [← EH4]; exact sameNew nc
    have S24 := (S2.trans S3).trans S4
    have S14 := S1.trans S24
    refine ⟨c, ts ++ [t], kvs ++ [(.inr n, v)], rfl, SqL.of (by rw [List.map_append]; exact hc), paired_snoc (Paired.mapP pts fun _ _ e => SqT.of (S24 _ _ e)) (SqT.of (S4 _ _ (S3 _ _ (show H2 t = some (.tup [kV (.inr n), v]) from ht)))), fun q nq => ?_⟩
    rw [merge_put nd]
    exact k q _ (S14.trans (sameNew nq)) (nn S14 nq) upd_same
def spWithout : Sp := fun vs H Q _ => ∃ (d : Addr) (kvs : List (Key × V)) (ks : List Str) (n : Str), vs = [.ref d, .str n] ∧ Rd H d (.dK kvs) ∧ kvs.map (·.1) = ks.map Sum.inr ∧ ks.Nodup ∧ kvs.length ≤ 100 ∧ ∀ q H', Same H H' → H q = none → H' q = some (.dK (kvs.filter fun kv => decide (kv.1 ≠ .inr n))) → Q (.ref q) H'
theorem nd_keys {kvs : List (Key × V)} {ks : List Str} (e : kvs.map (·.1) = ks.map Sum.inr) (nd : ks.Nodup) : (kvs.map (·.1)).Nodup := by
  rw [e]
  exact List.Pairwise.map Sum.inr (fun a b h e => h (Sum.inr.inj e)) nd
theorem ok_without (T : Txt K mg a) : FnOk P w K mg base CX0 4 a.without a.fd_without ps__law_without spWithout := by
  have F := T.F_without
  refine F.ok (k := 3) sc__law_without (fun vs H Q E h => ?_) (fun cdv A outer s H vs Q E hr h => ?_)
  · obtain ⟨d, kvs, ks, n, rfl, hd, ek, nd, l, k⟩ := h
    rfl
  · obtain ⟨d, kvs, ks, n, rfl, hd, ek, nd, l, k⟩ := h
    have hu := hu_of hr
    refine ⟨_, (pss_one (ps_ret (pe_callTy (call_dictP rfl) (by rfl) T.dict (by decide +kernel) (pa_cons (Li.pe_lockR (pe_lc (own := [("_law_one", 2)]) rfl sc__law_without.nd (pi_keys (pv 0)) (blkOk_by (N := nm__law_without) (sc := defScope s__law_without) (by decide +kernel)) (fun _ _ _ _ _ => (pg_name (i := 2) sc__law_without.nd rfl (Or.inl rfl))) (fun _ _ _ _ _ => (pts_one (pt_cmpR op_ne (pv 2) (pv 1) (nomark _)))) (fun _ _ _ _ _ => (pe_tup (pa_cons (pv 2) (pa_cons (pe_dget hu (pv 0) (pv 2) (fun _ _ => rfl)) pa_nil)))))) pa_nil)))), ?_⟩
    have ndk := nd_keys ek nd
    have core : ∀ (HL : Hp) (od : Obj) (Q2 : VK), HL d = some (.frz od (.dK kvs)) → (∀ D H1 ts, Same HL H1 → HL D = none → H1 D = some (.lst (ts.map V.ref)) → Paired (fun t (q : Key × V) => H1 t = some (.tup [kV q.1, q.2])) ts (kvs.filter fun kv => decide (kv.1 ≠ .inr n)) → Q2 (.ref D) H1) →
        tLc (iKeys (tVar 0)) (gName 2) (tTest (tOp rNe (tVar 2) (tVar 1))) (tTup (tCons (tVar 2) (tCons (tDGet (tVar 0) (tVar 2)) tNil))) [2] [some (.ref d), some (.str n), none] HL Q2 := by
      intro HL od Q2 eL k2
      refine ⟨_, rfl, d, od, rfl, .inl ⟨kvs, eL, fun D hD => ?_⟩⟩
      refine lc_it (walk_keys (o := od) (d := d) (kvs := kvs)) (fun i Hi => Same HL Hi ∧ ∃ ts : List Addr, Hi D = some (.lst (ts.map V.ref)) ∧ ts.length ≤ i ∧ Paired (fun t (q : Key × V) => Hi t = some (.tup [kV q.1, q.2])) ts ((kvs.take i).filter fun kv => decide (kv.1 ≠ .inr n))) ⟨sameNew hD, [], upd_same, Nat.le_refl _, .nil⟩ ?_ ?_ ?_
      · rintro i Hi hi ⟨S, _⟩
        exact S _ _ eL
      · rintro i y Hi Hi2 hi ⟨S, ts, eD, lt, pt⟩ ⟨rfl, kk, v2, hk, rfl⟩
        obtain ⟨x, hx, rfl⟩ : ∃ x, ks[i]? = some x ∧ kk = .inr x := by
          have e : (kvs.map (·.1))[i]? = some kk := by rw [List.getElem?_map, hk]; rfl
          rw [ek, List.getElem?_map] at e
          obtain ⟨x, h1, h2⟩ := Option.map_eq_some_iff.mp e
          exact ⟨x, h1, h2.symm⟩
        refine ⟨rfl, ?_⟩
        refine ⟨_, rfl, _, rfl, rfl, _, rfl, ?_⟩
        have fl : (kvs.take (i + 1)).filter (fun kv => decide (kv.1 ≠ .inr n)) = (kvs.take i).filter (fun kv => decide (kv.1 ≠ .inr n)) ++ (if x ≠ n then [(Sum.inr x, v2)] else []) := by
          rw [take_at hk, List.filter_append]
          by_cases c : x = n <;> simp [c]
        by_cases c : x = n
        · rw [show (!decide (kV (Sum.inr x) = V.str n)) = false from by rw [decide_eq_true (show kV (Sum.inr x) = V.str n from by rw [c]; rfl)]; rfl]
          refine iteF ⟨S, ts, eD, Nat.le_succ_of_le lt, ?_⟩
          rw [fl, if_neg (fun z => z c), List.append_nil]
          exact pt
        rw [show (!decide (kV (Sum.inr x) = V.str n)) = true from by rw [decide_eq_false (p := kV (Sum.inr x) = V.str n) (fun z => c (V.str.inj z))]; rfl]
        refine iteT ?_
        refine ⟨_, rfl, _, rfl, _, rfl, d, v2, rfl, .inl ⟨kvs, .inr x, .inr ⟨od, S _ _ eL⟩, rfl, ?_⟩, ?_⟩
        · exact (valV_at ndk hk).symm
        refine ⟨by show 2 ≤ sizeLine; decide, fun p np => ?_⟩
        have nDp : D ≠ p := ne_of_none eD np
        refine ⟨_, by rw [upd_ne nDp]; exact eD, by rw [List.length_map, sizeLine_eq]; omega, same_upd (S.trans (sameNew np)) hD, ts ++ [p], by rw [List.map_append]; exact upd_same, by rw [List.length_append]; show _ + 1 ≤ _; omega, ?_⟩
        rw [fl, if_pos c]
        refine paired_snoc (Paired.mapP pt fun t q e => ?_) ?_
        · rw [upd_ne (fun z => by rw [z, eD] at e; cases e), upd_ne (ne_of_none e np)]
          exact e
        · rw [upd_ne (Ne.symm nDp)]
          exact upd_same
      rintro H1 ⟨S, ts, eD, lt, pt⟩
      rw [List.take_length] at pt
      exact k2 D H1 ts S hD eD pt
    have fin : ∀ (D : Addr) (H1 : Hp) (ts : List Addr), Same H H1 → H1 D = some (.lst (ts.map V.ref)) → Paired (fun t (q : Key × V) => H1 t = some (.tup [kV q.1, q.2])) ts (kvs.filter fun kv => decide (kv.1 ≠ .inr n)) → ∃ (a_1 : Addr) (ps : List Addr) (kvs_1 : List (Key × V)), [V.ref D] = [V.ref a_1] ∧ SqL K H1 a_1 (ps.map V.ref) ∧ Paired (fun p kv => SqT K H1 p [kV kv.1, kv.2]) ps kvs_1 ∧ ∀ p, H1 p = none → Q (.ref p) (upd H1 p (.dK (mergeK [] kvs_1))) := fun D H1 ts S eD pt => by
      refine ⟨D, ts, _, rfl, SqL.of eD, Paired.mapP pt fun _ _ e => SqT.of e, fun q nq => ?_⟩
      rw [merge_self (ndk.sublist (List.filter_sublist.map _))]
      exact k q _ (S.trans (sameNew nq)) (nn S nq) upd_same
    rcases hd with hd | ⟨od, hd⟩
    · refine .inr ⟨d, .dK kvs, hd, trivial, fun od => ?_⟩
      have off : Off d H (upd H d (.frz od (.dK kvs))) := Off.lock
      refine core _ od _ upd_same fun D H1 ts S nD eD pt => ?_
      have e1 := S _ _ (upd_same (H := H) (a := d) (o := .frz od (.dK kvs)))
      have nDd : D ≠ d := fun z => by rw [z, upd_same] at nD; cases nD
      refine ⟨e1, fin D _ ts ((off.same S).back hd) (by rw [upd_ne nDd]; exact eD) (Paired.mapP pt fun t q e => ?_)⟩
      rw [upd_ne (fun z => by rw [z, e1] at e; cases e)]
      exact e
    · exact .inl (core H od _ hd fun D H1 ts S nD eD pt => fin D H1 ts S eD pt)
end
end K04

set_option Elab.async false
set_option linter.all false
set_option maxRecDepth 100000
set_option maxHeartbeats 4000000
open L2 in
local macro_rules | `(tactic| walk_at "q1") => `(tactic| first
  | refine ⟨_, rfl, ?_⟩
  | refine ⟨_, _, rfl, rfl, ?_⟩
  | refine And.intro (show CMul _ _ from Or.inr ⟨by decide, by decide⟩) ?_
  | refine And.intro (show CMul _ _ from Or.inl ⟨by first | decide | omega, by first | decide | omega⟩) ?_
  | refine And.intro (show CMul _ _ from Or.inr ⟨by omega, by omega⟩) ?_
  | refine And.intro (show CDiv _ _ from ⟨by omega, by omega⟩) ?_
  | refine And.intro (show Dt.CPowG _ _ from ⟨by decide, by decide +kernel⟩) ?_
  | refine And.intro (by first | decide | omega) ?_
  | refine And.intro (Int.pow_pos (Int.pow_pos (by decide))) ?_
  | refine ⟨_, _, _, _, rfl, rfl, SqL.of (by first | assumption | exact upd_same), (by rfl), ?_⟩
  | refine ⟨_, _, _, _, rfl, rfl, (by first | assumption | exact upd_same), (by rfl), ?_⟩
  | refine Or.inl ⟨_, rfl, ?_⟩
  | refine Or.inr ⟨_, rfl, ?_⟩)
local macro_rules | `(tactic| walk_at "q") => `(tactic| repeat (walk_at "q1"))
local macro_rules | `(tactic| walk_at "eqt") => `(tactic| (refine ⟨_, rfl, ?_⟩; refine ⟨rfl, ?_⟩; first
  | (refine ⟨true, rfl, ?_⟩; refine L2.iteT ?_)
  | (refine ⟨false, rfl, ?_⟩; refine L2.iteF ?_)))
local macro_rules | `(tactic| walk_at "sz") => `(tactic| (rw [PySem.sizeLine_eq]; simp))
namespace K04
open PySem PySem.Spec PyProof.Rows L2 Dt An Rp Sp4
section
variable {P : Program} {w : World} {K : PySem.W.Frag} {mg : Str → Option Value} {base : Heap} {a : Ads}
theorem filt_lt {α : Type} {p q : α → Bool} : ∀ {L : List α}, (∀ x ∈ L, p x = true → q x = true) → (∃ s ∈ L, q s = true ∧ p s = false) → (L.filter p).length < (L.filter q).length
  | [], _, h => by obtain ⟨s, m, _⟩ := h; cases m
  | x :: L, i, h => by
    have i2 : ∀ y ∈ L, p y = true → q y = true := fun y m => i y (List.mem_cons_of_mem _ m)
    have le : (L.filter p).length ≤ (L.filter q).length := by
      rw [← List.countP_eq_length_filter, ← List.countP_eq_length_filter]
      exact List.countP_mono_left i2
    obtain ⟨s, m, c1, c2⟩ := h
    rw [List.filter_cons, List.filter_cons]
    rcases List.mem_cons.mp m with e | m
    · subst e
      rw [if_pos c1, c2, if_neg (by decide), List.length_cons]
      omega
    · have lt := filt_lt i2 ⟨s, m, c1, c2⟩
      have ix := i x List.mem_cons_self
      cases hp : p x with
      | true => rw [if_pos rfl, if_pos (ix hp), List.length_cons, List.length_cons]; omega
      | false =>
        rw [if_neg (by decide)]
        by_cases hq : q x = true
        · rw [if_pos hq, List.length_cons]; omega
        · rw [if_neg hq]; exact lt
theorem reach5 {L : List (Str × Str)} (h : ∃ rank : Str → Nat, Rises rank L) (n5 : L.length ≤ 5) (t u : Str) : u ∈ turns t L 5 ↔ Reach L t u := by
  obtain ⟨rank, hr⟩ := h
  refine turns_iff (rank := fun x => (L.filter fun s => decide (rank s.2 ≤ rank x)).length) (fun s m => ?_) (fun s m => Nat.le_trans (List.length_filter_le _ _) n5) t u
  refine filt_lt (fun x _ c => ?_) ⟨s, m, decide_eq_true (Nat.le_refl _), decide_eq_false (by have := hr s m; omega)⟩
  have c := of_decide_eq_true c
  exact decide_eq_true (by have := hr s m; omega)
theorem turn_app {α : Type} [DecidableEq α] (u : α) : ∀ (A B : List (α × α)) (F : List α), turn u (A ++ B) F = turn u B (turn u A F)
  | [], _, _ => rfl
  | s :: A, B, F => turn_app u A B _
theorem turn_len {α : Type} [DecidableEq α] (u : α) : ∀ (L : List (α × α)) (F : List α), (turn u L F).length ≤ F.length + L.length
  | [], _ => Nat.le_refl _
  | s :: L, F => by
    have := turn_len u L (if s.1 = u ∨ s.1 ∈ F then F ++ [s.2] else F)
    show (turn u L _).length ≤ _
    refine Nat.le_trans this ?_
    split
    · rw [List.length_append, List.length_cons, List.length_cons]; simp; omega
    · rw [List.length_cons]; omega
/-- what the law reaches -/
def spReachL : Sp := fun vs H Q _ => ∃ (p dt dk dw : Addr) (S : Sch) (kw : List (Key × V)) (t : Str), vs = [.ref p, .str t] ∧ H p = some (.dK [(.inr "tables", .ref dt), (.inr "locks", .ref dk), (.inr "ways", .ref dw)]) ∧ H dw = some (.dK kw) ∧ Paired (EntOf (WayT H)) kw S.W ∧ SchOk S ∧ p ≠ dw ∧
  ∀ (z : Addr) (zs : List Str) (H' : Hp), Same H H' → H z = none → H' z = some (.lst (zs.map V.str)) → (∀ u, u ∈ zs ↔ Reach (steps S.W) t u) → Q (.ref z) H'
theorem ok_reached (T : Txt K mg a) : FnOk P w K mg base CX0 4 a.reached a.fd_reached ps__law_reached spReachL := by
  have F := T.F_reached
  refine F.ok (k := 3) sc__law_reached (fun vs H Q E h => ?_) (fun cdv A outer s H vs Q E hr h => ?_)
  · obtain ⟨p, dt, dk, dw, S, kw, t, rfl, hp, hw, pW, ok, npw, k⟩ := h
    rfl
  · obtain ⟨p, dt, dk, dw, S, kw, t, rfl, hp, hw, pW, ok, npw, k⟩ := h
    have hu := hu_of hr
    refine ⟨_, (pss_cons (ps_set (i := 2) sc__law_reached.nd rfl (Or.inl rfl) (pe_lst pa_nil))
      (pss_cons (ps_for PassesOwn.never rfl (pi_range1 (by rfl) T.range (pa_cons pe_int pa_nil)) (pg_name (i := 3) sc__law_reached.nd rfl (Or.inl rfl)) (pss_one (ps_lock (ps_for PassesOwn.never rfl (pi_keys (pe_dget hu (pv 0) pe_str (fun _ _ => rfl))) (pg_name (i := 4) sc__law_reached.nd rfl (Or.inl rfl)) (pss_cons (ps_asg (pe_dget hu (pe_dget hu (pv 0) pe_str (fun _ _ => rfl)) (pv 4) (fun _ _ => rfl)) (pg_tup rfl (pgs_cons (pg_name (i := 5) sc__law_reached.nd rfl (Or.inl rfl)) (pgs_cons (pg_name (i := 6) sc__law_reached.nd rfl (Or.inl rfl)) (pgs_cons (pg_name (i := 7) sc__law_reached.nd rfl (Or.inl rfl)) (pgs_cons (pg_name (i := 8) sc__law_reached.nd rfl (Or.inl rfl)) pgs_nil))))))
      (pss_one (ps_if (PW.pt (pw_or (pt_cmpR op_eq (pv 5) (pv 1) (nomark _)) (pw_or1 (pt_cmpR op_in_seq (pv 5) (pv 2) (by rfl))))) (pss_one (ps_expr (pe_bm PySem.F.plainAttrs_list PySem.F.slot_list_append PySem.F.type_list_append mt_append (pv 2) (pa_cons (pv 7) pa_nil)))) pss_nil)))))))
      (pss_one (ps_ret (pv 2))))), ?_⟩
    have n4 := ok.ways.n4
    have lw : kw.length = S.W.length := pW.length
    refine ⟨by show 0 ≤ sizeLine; decide, fun f0 nf0 => ?_⟩
    generalize EH1 : upd H f0 _ = H1
    have hf0 := (congrFun EH1 f0).symm.trans upd_same
    have S1 : Same H H1 := by rw [← EH1]; exact sameNew nf0
    have nfw : f0 ≠ dw := ne_of_none hw nf0 |>.symm
    refine ⟨_, rfl, by decide, by decide, ?_⟩
    refine for_range (lo := 0) (n := 5) (fun i σ Hi => ∃ x3 x4 x5 x6 x7 x8, σ = [some (.ref p), some (.str t), some (.ref f0), x3, x4, x5, x6, x7, x8] ∧ Off f0 H1 Hi ∧ Hi f0 = some (.lst ((turns t (steps S.W) i).map V.str)) ∧ (turns t (steps S.W) i).length ≤ 4 * i) ⟨none, none, none, none, none, none, rfl, fun _ _ _ e => e, hf0, Nat.le_refl _⟩ ?_ ?_
    · rintro i σ Hi hi ⟨x3, x4, x5, x6, x7, x8, rfl, off, hf, lf⟩
      have hwi := off _ _ (Ne.symm nfw) (S1 _ _ hw)
      refine ⟨dw, .dK kw, hwi, trivial, fun od => ?_⟩
      have npf : p ≠ f0 := ne_of_none hp nf0
      have offL : Off dw Hi (upd Hi dw (.frz od (.dK kw))) := Off.lock
      have hpL := offL _ _ npw (off _ _ npf (S1 _ _ hp))
      have hfL := offL _ _ nfw hf
      have hwL : upd Hi dw (.frz od (.dK kw)) dw = some (.frz od (.dK kw)) := upd_same
      have tsL : TS H (upd Hi dw (.frz od (.dK kw))) := ((TS.of S1).trans (TS.off off fun ys e => by rw [hf0] at e; cases e)).trans (TS.off offL fun ys e => by rw [hwi] at e; cases e)
      have pWL := ent_off (fun _ _ e => WayT.ts tsL e) pW
      have unl : ∀ H5, Off f0 (upd Hi dw (.frz od (.dK kw))) H5 → H5 dw = some (.frz od (.dK kw)) ∧ Off f0 H1 (upd H5 dw (.dK kw)) := fun H5 o5 => ⟨o5 _ _ (Ne.symm nfw) hwL, fun b o nb e => by
        by_cases c : b = dw
        · rw [c] at e ⊢
          rw [S1 _ _ hw] at e
          cases e
          exact upd_same
        · rw [upd_ne c]
          exact o5 _ _ nb (offL _ _ c (off _ _ nb e))⟩
      generalize upd Hi dw (.frz od (.dK kw)) = HL at hpL hfL hwL pWL unl ⊢
      refine ⟨_, rfl, p, .ref dw, rfl, .inl ⟨_, .inr "ways", .inl hpL, rfl, rfl⟩, dw, od, rfl, .inl ⟨kw, hwL, ?_⟩⟩
      refine for_it (walk_keys (o := od) (d := dw) (kvs := kw)) (fun j σ Hj => ∃ x4 x5 x6 x7 x8 F, σ = [some (.ref p), some (.str t), some (.ref f0), some (.int (i : Int)), x4, x5, x6, x7, x8] ∧ Off f0 HL Hj ∧ F = turn t (steps (S.W.take j)) (turns t (steps S.W) i) ∧ Hj f0 = some (.lst (F.map V.str))) ⟨x4, x5, x6, x7, x8, _, by rw [Int.zero_add]; rfl, fun _ _ _ e => e, rfl, hfL⟩ (fun j σ Hj hj q => by
        obtain ⟨_, _, _, _, _, _, _, q, _⟩ := q
        exact q _ _ (Ne.symm nfw) hwL) ?_ ?_
      · rintro j y σ Hj Hj2 hj ⟨x4, x5, x6, x7, x8, F, rfl, offj, eF, hfj⟩ ⟨rfl, kx, v2, hkx, rfl⟩
        obtain ⟨e, he, e1, b, ev, c, q, hb, hc, hq⟩ := paired_at pWL hkx
        have e1 : kx = .inr e.1 := e1
        have ev : v2 = .ref b := ev
        subst e1 ev
        have tsj : TS HL Hj2 := TS.off offj fun ys z => by rw [hfL] at z; cases z
        have eV := (valV_at (nd_ent pWL ok.ways.nd) hkx).symm
        have et : turn t (steps (S.W.take (j + 1))) (turns t (steps S.W) i) = if e.2.tab = t ∨ e.2.tab ∈ F then F ++ [e.2.par] else F := by
          rw [take_at he, show steps (S.W.take j ++ [e]) = steps (S.W.take j) ++ [(e.2.tab, e.2.par)] from by unfold steps; rw [List.map_append]; rfl, turn_app, ← eF]
          rfl
        refine ⟨_, rfl, p, .ref dw, rfl, .inl ⟨_, .inr "ways", .inl (offj _ _ npf hpL), rfl, rfl⟩, _, rfl, dw, .ref b, rfl, .inl ⟨kw, .inr e.1, .inr ⟨od, offj _ _ (Ne.symm nfw) hwL⟩, rfl, eV⟩, ?_⟩
        refine ⟨b, _, rfl, SqT.of (tsj _ _ hb), rfl, _, _, rfl, _, _, rfl, _, _, rfl, _, _, rfl, rfl, ?_⟩
        refine ⟨_, rfl, _, rfl, rfl, _, rfl, ?_⟩
        have hit : ∀ rt bk ct, e.2.tab = t ∨ e.2.tab ∈ F → tDrop (tBM K "list" rAppend (tVar 2) (tCons (tVar 7) tNil)) ⟨fun σ Hj => ∃ x4 x5 x6 x7 x8 F, σ = [some (.ref p), some (.str t), some (.ref f0), some (.int (i : Int)), x4, x5, x6, x7, x8] ∧ Off f0 HL Hj ∧ F = turn t (steps (S.W.take (j + 1))) (turns t (steps S.W) i) ∧ Hj f0 = some (.lst (F.map V.str)), rt, bk, ct⟩ [some (.ref p), some (.str t), some (.ref f0), some (.int (i : Int)), some (.str e.1), some (.str e.2.tab), some (.ref c), some (.str e.2.par), some (.ref q)] Hj2 := fun rt bk ct h => by
          have lF : F.length ≤ 24 := by
            rw [eF]
            have := turn_len t (steps (S.W.take j)) (turns t (steps S.W) i)
            have ls : (steps (S.W.take j)).length ≤ 4 := by show (List.map _ _).length ≤ 4; rw [List.length_map, List.length_take]; omega
            omega
          refine ⟨_, rfl, .inl ⟨rfl, _, SqL.of hfj⟩, ?_⟩
          refine ⟨_, rfl, f0, _, _, rfl, rfl, hfj, by rw [List.length_map, sizeLine_eq]; omega, ?_⟩
          refine ⟨_, _, _, _, _, F ++ [e.2.par], rfl, fun b o nb z => by rw [upd_ne nb]; exact offj _ _ nb z, ?_, by rw [List.map_append]; exact upd_same⟩
          rw [et, if_pos h]
        refine iteD (fun c1 => iteT (hit _ _ _ (.inl (V.str.inj c1)))) (fun c1 => ?_)
        refine ⟨_, rfl, _, rfl, f0, _, rfl, .inl (SqL.of hfj), rfl, flat_strs F, ?_⟩
        rw [inV_strs]
        refine ⟨_, rfl, ?_⟩
        refine iteD (fun c2 => hit _ _ _ (.inr c2)) (fun c2 => ?_)
        refine ⟨_, _, _, _, _, F, rfl, offj, ?_, hfj⟩
        rw [et, if_neg (fun h => h.elim (fun z => c1 (by rw [z])) c2)]
      rintro σ Hj ⟨x4, x5, x6, x7, x8, F, rfl, offj, eF, hfj⟩
      obtain ⟨u1, u2⟩ := unl _ offj
      refine ⟨u1, ?_⟩
      rw [lw, List.take_length] at eF
      refine ⟨_, _, _, _, _, _, rfl, u2, ?_, ?_⟩
      · rw [upd_ne nfw, hfj, eF]
        rfl
      · have e : turns t (steps S.W) (i + 1) = F := eF.symm
        rw [e, eF]
        have := turn_len t (steps S.W) (turns t (steps S.W) i)
        have ls : (steps S.W).length = S.W.length := List.length_map ..
        omega
    rintro σ Hi ⟨x3, x4, x5, x6, x7, x8, rfl, off, hf, lf⟩
    exact ⟨_, rfl, k f0 _ Hi (fun b o e => off _ _ (ne_of_none e nf0) (S1 _ _ e)) nf0 hf (reach5 ok.ways.rank (by show (S.W.map _).length ≤ 5; rw [List.length_map]; omega) t)⟩
end
end K04

set_option Elab.async false
set_option linter.all false
set_option maxRecDepth 100000
set_option maxHeartbeats 4000000
open L2 in
local macro_rules | `(tactic| walk_at "q1") => `(tactic| first
  | refine ⟨_, rfl, ?_⟩
  | refine ⟨_, _, rfl, rfl, ?_⟩
  | refine And.intro (show CMul _ _ from Or.inr ⟨by decide, by decide⟩) ?_
  | refine And.intro (show CMul _ _ from Or.inl ⟨by first | decide | omega, by first | decide | omega⟩) ?_
  | refine And.intro (show CMul _ _ from Or.inr ⟨by omega, by omega⟩) ?_
  | refine And.intro (show CDiv _ _ from ⟨by omega, by omega⟩) ?_
  | refine And.intro (show Dt.CPowG _ _ from ⟨by decide, by decide +kernel⟩) ?_
  | refine And.intro (by first | decide | omega) ?_
  | refine And.intro (Int.pow_pos (Int.pow_pos (by decide))) ?_
  | refine ⟨_, _, _, _, rfl, rfl, SqL.of (by first | assumption | exact upd_same), (by rfl), ?_⟩
  | refine ⟨_, _, _, _, rfl, rfl, (by first | assumption | exact upd_same), (by rfl), ?_⟩
  | refine Or.inl ⟨_, rfl, ?_⟩
  | refine Or.inr ⟨_, rfl, ?_⟩)
local macro_rules | `(tactic| walk_at "q") => `(tactic| repeat (walk_at "q1"))
local macro_rules | `(tactic| walk_at "eqt") => `(tactic| (refine ⟨_, rfl, ?_⟩; refine ⟨rfl, ?_⟩; first
  | (refine ⟨true, rfl, ?_⟩; refine L2.iteT ?_)
  | (refine ⟨false, rfl, ?_⟩; refine L2.iteF ?_)))
local macro_rules | `(tactic| walk_at "sz") => `(tactic| (rw [PySem.sizeLine_eq]; simp))
namespace K04
open PySem PySem.Spec PyProof.Rows L2 Dt An Rp Sp4
section
variable {P : Program} {w : World} {K : PySem.W.Frag} {mg : Str → Option Value} {base : Heap} {a : Ads}
/-- the dicts of a schema and of a plain one are others -/
structure Apart (x et ek ew p dt dk dw : Addr) : Prop where
  t : x ≠ dt ∧ et ≠ dt ∧ ek ≠ dt ∧ ew ≠ dt
  k : x ≠ dk ∧ et ≠ dk ∧ ek ≠ dk ∧ ew ≠ dk
  w : x ≠ dw ∧ et ≠ dw ∧ ek ≠ dw ∧ ew ≠ dw
theorem plain_ne {α : Type} {R : Hp → Addr → α → Prop} {H : Hp} {p d dt dk dw : Addr} (at_ : H p = some (.dK [(.inr "tables", .ref dt), (.inr "locks", .ref dk), (.inr "ways", .ref dw)])) {kt : List (Key × V)} (ht : H dt = some (.dK kt)) {ks : List (Key × V)} {X : List (Str × α)}
    (hd : H d = some (.dK ks)) (q : Paired (EntOf (R H)) ks X) (hR : ∀ b x, R H b x → ∃ ys, H b = some (.tup ys)) : p ≠ d := by
  intro z
  subst z
  rw [at_] at hd
  cases hd
  cases q with
  | cons h _ =>
    obtain ⟨b, e, r⟩ := h.2
    have e : V.ref dt = V.ref b := e
    cases e
    obtain ⟨ys, e2⟩ := hR _ _ r
    rw [ht] at e2
    cases e2
theorem PlainO.pt {H : Hp} {p dt dk dw : Addr} {S : Sch} (h : PlainO H p S dt dk dw) : p ≠ dt := by
  obtain ⟨kt, ht, pT⟩ := h.data.tabs
  exact plain_ne (R := ColT) h.at_ ht ht pT fun _ _ r => ⟨_, r⟩
theorem PlainO.pk {H : Hp} {p dt dk dw : Addr} {S : Sch} (h : PlainO H p S dt dk dw) : p ≠ dk := by
  obtain ⟨kt, ht, pT⟩ := h.data.tabs
  obtain ⟨kk, hk, pL⟩ := h.data.keys
  exact plain_ne (R := KeyT) h.at_ ht hk pL fun _ _ r => ⟨_, r.choose_spec.1⟩
theorem PlainO.pw {H : Hp} {p dt dk dw : Addr} {S : Sch} (h : PlainO H p S dt dk dw) : p ≠ dw := by
  obtain ⟨kt, ht, pT⟩ := h.data.tabs
  obtain ⟨kw, hw, pW⟩ := h.data.ways
  exact plain_ne (R := WayT) h.at_ ht hw pW fun _ _ r => ⟨_, r.choose_spec.choose_spec.1⟩
theorem PlainO.tk {H : Hp} {p dt dk dw : Addr} {S : Sch} (h : PlainO H p S dt dk dw) : dt ≠ dk := by
  obtain ⟨_, a, b⟩ := h.data.tabs
  obtain ⟨_, c, d⟩ := h.data.keys
  exact cols_keys a c b d h.ok.tabs
theorem PlainO.tw {H : Hp} {p dt dk dw : Addr} {S : Sch} (h : PlainO H p S dt dk dw) : dt ≠ dw := by
  obtain ⟨_, a, b⟩ := h.data.tabs
  obtain ⟨_, c, d⟩ := h.data.ways
  exact ways_keys a c b d h.ok.tabs
theorem path_sub {α : Type} {L L2 : List (α × α)} (h : ∀ s ∈ L, s ∈ L2) : ∀ {n : Nat} {u v : α}, Path L n u v → Path L2 n u v
  | _, _, _, .one e => .one (h _ e)
  | _, _, _, .more p e => .more (path_sub h p) (h _ e)
theorem reach_perm {S S1 : Sch} (o : SortOf S S1) (t u : Str) : Reach (steps S1.W) t u ↔ Reach (steps S.W) t u :=
  ⟨fun ⟨n, p⟩ => ⟨n, path_sub (fun s m => (o.w.map _).mem_iff.mp m) p⟩, fun ⟨n, p⟩ => ⟨n, path_sub (fun s m => (o.w.map _).mem_iff.mpr m) p⟩⟩
theorem fits_bl : ∀ b : Bool, Fits (.bool b)
  | true => ⟨by decide +kernel, by decide +kernel, 8, by decide, by decide +kernel, by decide +kernel⟩
  | false => ⟨by decide +kernel, by decide +kernel, 8, by decide, by decide +kernel, by decide +kernel⟩
def spWR (C : Addr) : Sp := fun vs H Q _ => ∃ (x p : Addr) (S S1 : Sch) (et ek ew dt dk dw : Addr), vs = [.ref x, .ref p] ∧ SchO C H x S1 et ek ew ∧ PlainO H p S dt dk dw ∧ SortOf S S1 ∧ Apart x et ek ew p dt dk dw ∧ ∀ H', Same H H' → Q (.bl true) H'
theorem ok_ways_right (T : Txt K mg a) : Rp.FnG P w K mg base CX0 5 a.ways_right a.fd_ways_right ps__law_ways_right (spWR a.c_Schema) := by
  have F := T.F_ways_right
  refine Rp.okG (k := 4) F sc__law_ways_right (fun vs H Q E h => ?_) (fun cdv A outer s H vs Q E hr hg h => ?_)
  · obtain ⟨x, p, S, S1, et, ek, ew, dt, dk, dw, rfl, hS, hp, srt, ap, k⟩ := h
    rfl
  · obtain ⟨x, p, S, S1, et, ek, ew, dt, dk, dw, rfl, hS, hp, srt, ap, k⟩ := h
    have hu := hu_of hr
    refine ⟨_, (pss_cons (Li.ps_lockR (ps_for PassesOwn.never rfl (pi_keys (pe_dget hu (pv 1) pe_str (fun _ _ => rfl))) (pg_name (i := 2) sc__law_ways_right.nd rfl (Or.inl rfl)) (pss_cons (ps_set (i := 3) sc__law_ways_right.nd rfl (Or.inl rfl) (pe_call (ok_reached T) (hr.mono (by decide)) (by rfl) T.g_reached T.F_reached.kp (b_reached T) .nil pass0 (pa_cons (pv 1) (pa_cons (pv 2) pa_nil))))
      (pss_one (Li.ps_lockR (ps_for PassesOwn.never rfl (pi_keys (pe_dget hu (pv 1) pe_str (fun _ _ => rfl))) (pg_name (i := 4) sc__law_ways_right.nd rfl (Or.inl rfl)) (pss_one (ps_if (pt_cmpR op_ne (pe_callB (Rp.call_repr hg hr.units) (by rfl) T.repr (by decide +kernel) (pa_cons (pe_meth (pv 0) T.cl_Schema T.m_leads_to (ok_Schema_leads_to T) (hr.mono (by decide)) (b_Schema_leads_to T) .nil pass0 (pa_cons (pv 2) (pa_cons (pv 4) pa_nil))) pa_nil)) (pe_callB (Rp.call_repr hg hr.units) (by rfl) T.repr (by decide +kernel) (pa_cons (pe_cmpR op_in_seq (pv 4) (pv 3) (by rfl)) pa_nil)) (nomark _)) (pss_one (ps_ret pe_bl)) pss_nil))))))))
      (pss_one (ps_ret pe_bl))), ?_⟩
    obtain ⟨kt, ht, pT⟩ := hp.data.tabs
    obtain ⟨kw, hw, pW⟩ := hp.data.ways
    have lt : kt.length = S.T.length := pT.length
    refine .inr ⟨dt, .dK kt, ht, trivial, fun od => ?_⟩
    have offL : Off dt H (upd H dt (.frz od (.dK kt))) := Off.lock
    have eL : upd H dt (.frz od (.dK kt)) dt = some (.frz od (.dK kt)) := upd_same
    generalize upd H dt (.frz od (.dK kt)) = HL at offL eL ⊢
    refine ⟨_, rfl, p, .ref dt, rfl, .inl ⟨_, .inr "tables", .inl (offL _ _ hp.pt hp.at_), rfl, rfl⟩, dt, od, rfl, .inl ⟨kt, eL, ?_⟩⟩
    refine for_it (walk_keys (o := od) (d := dt) (kvs := kt)) (fun i σ Hi => ∃ x2 x3 x4, σ = [some (.ref x), some (.ref p), x2, x3, x4] ∧ Same HL Hi) ⟨none, none, none, rfl, Same.refl _⟩ (fun i σ Hi hi q => by
      obtain ⟨_, _, _, _, q⟩ := q
      exact q _ _ eL) ?_ ?_
    · rintro i y σ Hi Hi2 hi ⟨x2, x3, x4, rfl, Si⟩ ⟨rfl, kx, v2, hkx, rfl⟩
      obtain ⟨e, he, e1, ct, ev, hct⟩ := paired_at pT hkx
      have e1 : kx = .inr e.1 := e1
      subst e1
      have offi : Off dt H Hi2 := offL.same Si
      refine ⟨_, rfl, _, rfl, p, dt, dk, dw, S, kw, e.1, rfl, offi _ _ hp.pt hp.at_, offi _ _ (Ne.symm hp.tw) hw, ent_off (fun _ _ e => WayT.off offi ht e) pW, hp.ok, hp.pw, fun z zs H2 S2 nz hz iff => ?_⟩
      have off2 : Off dt H H2 := offi.same S2
      have hS2 : SchO a.c_Schema H2 x S1 et ek ew := hS.off off2 ht ap.t.2.1 ap.t.2.2.1 ap.t.2.2.2
      have hp2 := off2 _ _ hp.pt hp.at_
      have em : e.1 ∈ S1.T.map (·.1) := (srt.t.map _).mem_iff.mpr (List.mem_map_of_mem (List.mem_of_getElem? he))
      refine .inl ?_
      refine ⟨_, rfl, p, .ref dt, rfl, .inl ⟨_, .inr "tables", .inl hp2, rfl, rfl⟩, dt, od, rfl, .inl ⟨kt, S2 _ _ (Si _ _ eL), ?_⟩⟩
      refine for_it (walk_keys (o := od) (d := dt) (kvs := kt)) (fun j σ Hj => ∃ x4, σ = [some (.ref x), some (.ref p), some (.str e.1), some (.ref z), x4] ∧ Same H2 Hj) ⟨x4, rfl, Same.refl _⟩ (fun j σ Hj hj q => by
        obtain ⟨_, _, q⟩ := q
        exact q _ _ (S2 _ _ (Si _ _ eL))) ?_ ?_
      · rintro j y σ Hj Hj2 hj ⟨x4, rfl, Sj⟩ ⟨rfl, ky, v3, hky, rfl⟩
        obtain ⟨f, hf, f1, cf, fv, hcf⟩ := paired_at pT hky
        have f1 : ky = .inr f.1 := f1
        subst f1
        have fm : f.1 ∈ S1.T.map (·.1) := (srt.t.map _).mem_iff.mpr (List.mem_map_of_mem (List.mem_of_getElem? hf))
        have hSj := hS2.same Sj
        obtain ⟨dx, q1, q2, hx⟩ := hSj.at_
        refine ⟨_, rfl, x, dx, _, rfl, hx, rfl, ?_⟩
        refine ⟨_, rfl, _, rfl, x, S1, et, ek, ew, e.1, f.1, rfl, hSj, em, fm, fun b H5 S5 ib => ?_⟩
        refine ⟨_, .bool b, rfl, .bl b, fits_bl b, ?_⟩
        refine ⟨_, rfl, _, rfl, z, _, rfl, .inl (SqL.of (S5 _ _ (Sj _ _ hz))), rfl, flat_strs zs, ?_⟩
        have eb : decide (f.1 ∈ zs) = b := by
          cases b with
          | true => exact decide_eq_true ((iff _).mpr ((reach_perm srt _ _).mp (ib.mp rfl)))
          | false => exact decide_eq_false fun m => Bool.false_ne_true (ib.mpr ((reach_perm srt _ _).mpr ((iff _).mp m)))
        refine ⟨V.bl b, .bool b, (by show [V.bl (inV (V.str f.1) (zs.map V.str))] = [V.bl b]; rw [inV_strs, eb]), .bl b, fits_bl b, ?_⟩
        refine ⟨rfl, _, rfl, ?_⟩
        rw [decide_eq_true rfl]
        refine iteF ?_
        exact ⟨_, rfl, Sj.trans S5⟩
      rintro σ Hj ⟨x4, rfl, Sj⟩
      exact ⟨_, _, _, rfl, Si.trans (S2.trans Sj)⟩
    rintro σ Hi ⟨x2, x3, x4, rfl, Si⟩
    refine ⟨Si _ _ eL, ?_⟩
    exact k _ ((offL.same Si).back ht)
end
end K04

set_option Elab.async false
set_option linter.all false
set_option maxRecDepth 100000
set_option maxHeartbeats 4000000
open L2 in
local macro_rules | `(tactic| walk_at "q1") => `(tactic| first
  | refine ⟨_, rfl, ?_⟩
  | refine ⟨_, _, rfl, rfl, ?_⟩
  | refine And.intro (show CMul _ _ from Or.inr ⟨by decide, by decide⟩) ?_
  | refine And.intro (show CMul _ _ from Or.inl ⟨by first | decide | omega, by first | decide | omega⟩) ?_
  | refine And.intro (show CMul _ _ from Or.inr ⟨by omega, by omega⟩) ?_
  | refine And.intro (show CDiv _ _ from ⟨by omega, by omega⟩) ?_
  | refine And.intro (show Dt.CPowG _ _ from ⟨by decide, by decide +kernel⟩) ?_
  | refine And.intro (by first | decide | omega) ?_
  | refine And.intro (Int.pow_pos (Int.pow_pos (by decide))) ?_
  | refine ⟨_, _, _, _, rfl, rfl, SqL.of (by first | assumption | exact upd_same), (by rfl), ?_⟩
  | refine ⟨_, _, _, _, rfl, rfl, (by first | assumption | exact upd_same), (by rfl), ?_⟩
  | refine Or.inl ⟨_, rfl, ?_⟩
  | refine Or.inr ⟨_, rfl, ?_⟩)
local macro_rules | `(tactic| walk_at "q") => `(tactic| repeat (walk_at "q1"))
local macro_rules | `(tactic| walk_at "eqt") => `(tactic| (refine ⟨_, rfl, ?_⟩; refine ⟨rfl, ?_⟩; first
  | (refine ⟨true, rfl, ?_⟩; refine L2.iteT ?_)
  | (refine ⟨false, rfl, ?_⟩; refine L2.iteF ?_)))
local macro_rules | `(tactic| walk_at "sz") => `(tactic| (rw [PySem.sizeLine_eq]; simp))
namespace K04
open PySem PySem.Spec PyProof.Rows L2 Dt An Rp Sp4
section
variable {P : Program} {w : World} {K : PySem.W.Frag} {mg : Str → Option Value} {base : Heap} {a : Ads}
def spRest (K : PySem.W.Frag) (C : Addr) : Sp := fun vs H Q _ => ∃ (p : Addr) (es : List (Key × V)) (part n : Str) (d c : Addr) (kvs : List (Key × V)) (ks : List Str) (ys : List V) (ds : List PyData), vs = [.ref p, .str part, .str n, .ref c] ∧ H p = some (.dK es) ∧ es.length ≤ 100 ∧ (es.map (·.1)).Nodup ∧ valV es (.inr part) = some (.ref d) ∧
  Rd H d (.dK kvs) ∧ kvs.map (·.1) = ks.map Sum.inr ∧ ks.Nodup ∧ kvs.length ≤ 100 ∧ SqT K H c ys ∧ DpAll K H ys ds ∧ SeqAt.shaped (.tuple ds) = true ∧
  ∀ (H1 : Hp) (D q : Addr), Same H H1 → H D = none → H q = none → D ≠ q → H1 D = some (.dK (if ys = [] then kvs.filter (fun kv => decide (kv.1 ≠ .inr n)) else putK kvs (.inr n) (.ref c))) → H1 q = some (.dK (putK es (.inr part) (.ref D))) →
    ∃ (S' : Sch) (dt' dk' dw' : Addr), PlainO H1 q S' dt' dk' dw' ∧ NewSch C H1 S' Q
theorem eqv_nil (ds : List PyData) : PyData.eqv (.tuple ds) (.tuple []) = decide (ds = []) := by
  cases ds with
  | nil => simp only [PyData.eqv, PyData.eqvAll]; rfl
  | cons d ds => simp only [PyData.eqv, PyData.eqvAll]; rfl
mutual
theorem Dp.ext {K : PySem.W.Frag} {H H' : Hp} (e : Same H H') : ∀ (d : PyData) (v : V), Dp K H v d → Dp K H' v d
  | _, _, .non => .non
  | _, _, .bl b => .bl b
  | _, _, .int i => .int i
  | _, _, .str x => .str x
  | .list ds, _, .lst h hs => .lst (h.ext e) (DpAll.ext e ds _ hs)
  | .tuple ds, _, .tup h hs => .tup (h.ext e) (DpAll.ext e ds _ hs)
theorem DpAll.ext {K : PySem.W.Frag} {H H' : Hp} (e : Same H H') : ∀ (ds : List PyData) (vs : List V), DpAll K H vs ds → DpAll K H' vs ds
  | [], _, .nil => .nil
  | d :: ds, _, .cons h t => .cons (Dp.ext e d _ h) (DpAll.ext e ds _ t)
end
theorem ok_rest (T : Txt K mg a) : FnOk P w K mg base CX0 8 a.rest a.fd_rest ps__law_rest (spRest K a.c_Schema) := by
  have F := T.F_rest
  refine F.ok (k := 7) sc__law_rest (fun vs H Q E h => ?_) (fun cdv A outer s H vs Q E hr h => ?_)
  · obtain ⟨p, es, part, n, d, c, kvs, ks, ys, ds, rfl, hp, les, nde, eP, hd, ek, nd, l, hc, hds, shp, k⟩ := h
    rfl
  · obtain ⟨p, es, part, n, d, c, kvs, ks, ys, ds, rfl, hp, les, nde, eP, hd, ek, nd, l, hc, hds, shp, k⟩ := h
    have hu := hu_of hr
    refine ⟨_, (pss_cons (ps_set (i := 4) sc__law_rest.nd rfl (Or.inl rfl) (pe_ifExp (pt_cmpR (op_eqD hr.units) (pv 3) (pe_tup pa_nil) (nomark _)) (pe_call (ok_without T) (hr.mono (by decide)) (by rfl) T.g_without T.F_without.kp (b_without T) .nil pass0 (pa_cons (pe_dget hu (pv 0) (pv 1) (fun _ _ => rfl)) (pa_cons (pv 2) pa_nil))) (pe_call (ok_with T) (hr.mono (by decide)) (by rfl) T.g_with T.F_with.kp (b_with T) .nil pass0 (pa_cons (pe_dget hu (pv 0) (pv 1) (fun _ _ => rfl)) (pa_cons (pv 2) (pa_cons (pv 3) pa_nil))))))
      (pss_one (ps_ret (pe_call (ok_schema_made T) (hr.mono (by decide)) (by rfl) T.g_schema_made T.F_schema_made.kp (b_schema_made T) .nil pass0 (pa_cons (pe_call (ok_with T) (hr.mono (by decide)) (by rfl) T.g_with T.F_with.kp (b_with T) .nil pass0 (pa_cons (pv 0) (pa_cons (pv 1) (pa_cons (pv 4) pa_nil)))) pa_nil))))), ?_⟩
    refine ⟨_, rfl, by show 0 ≤ sizeLine; decide, fun e0 ne0 => ?_⟩
    generalize EH1 : upd H e0 _ = H1
    have he0 := (congrFun EH1 e0).symm.trans upd_same
    have S1 : Same H H1 := by rw [← EH1]; exact sameNew ne0
    have e1 : decide (ds = []) = decide (ys = []) := by
      cases hds with
      | nil => rfl
      | cons _ _ => rfl
    refine ⟨.tuple ds, .tuple [], .tup (hc.ext S1) (DpAll.ext S1 _ _ hds), .tup (SqT.of he0) .nil, shp, by decide +kernel, ?_⟩
    rw [eqv_nil, e1]
    refine ⟨_, rfl, ?_⟩
    have hp1 := S1 _ _ hp
    have hd1 : Rd H1 d (.dK kvs) := hd.imp (S1 _ _) fun ⟨o, e⟩ => ⟨o, S1 _ _ e⟩
    have fin : ∀ (D : Addr) (H2 : Hp), Same H1 H2 → H1 D = none → H2 D = some (.dK (if ys = [] then kvs.filter (fun kv => decide (kv.1 ≠ .inr n)) else putK kvs (.inr n) (.ref c))) → tRet (tCall (spMade a.c_Schema) [] E0 (tCons (tCall spWith [] E0 (tCons (tVar 0) (tCons (tVar 1) (tCons (tVar 4) tNil)))) tNil)) { nx := fun x H' => Q V.non H', rt := Q } [some (.ref p), some (.str part), some (.str n), some (.ref c), some (.ref D)] H2 := fun D H2 S2 nD hD => by
      refine ⟨_, rfl, _, rfl, _, rfl, p, es, part, .ref D, rfl, .inl (S2 _ _ hp1), nde, les, fun q H3 S3 nq hq => ?_⟩
      have S13 := S1.trans (S2.trans S3)
      have nDq : D ≠ q := fun z => by rw [← z, hD] at nq; cases nq
      obtain ⟨S', dt', dk', dw', hP, hN⟩ := k H3 D q S13 (nn S1 nD) (nn (S1.trans S2) nq) nDq (S3 _ _ hD) hq
      exact ⟨q, S', dt', dk', dw', rfl, hP, hN⟩
    refine iteD (fun c0 => ?_) (fun c0 => ?_)
    · exact ⟨_, rfl, _, rfl, p, .ref d, rfl, .inl ⟨es, .inr part, .inl hp1, rfl, eP.symm⟩, _, rfl, d, kvs, ks, n, rfl, hd1, ek, nd, l, fun D H2 S2 nD hD => fin D H2 S2 nD (by rw [if_pos c0]; exact hD)⟩
    · exact ⟨_, rfl, _, rfl, p, .ref d, rfl, .inl ⟨es, .inr part, .inl hp1, rfl, eP.symm⟩, _, rfl, _, rfl, d, kvs, n, .ref c, rfl, hd1, nd_keys ek nd, l, fun D H2 S2 nD hD => fin D H2 S2 nD (by rw [if_neg c0]; exact hD)⟩
end
end K04

set_option Elab.async false
set_option linter.all false
set_option maxRecDepth 100000
set_option maxHeartbeats 4000000
open L2 in
local macro_rules | `(tactic| walk_at "q1") => `(tactic| first
  | refine ⟨_, rfl, ?_⟩
  | refine ⟨_, _, rfl, rfl, ?_⟩
  | refine And.intro (show CMul _ _ from Or.inr ⟨by decide, by decide⟩) ?_
  | refine And.intro (show CMul _ _ from Or.inl ⟨by first | decide | omega, by first | decide | omega⟩) ?_
  | refine And.intro (show CMul _ _ from Or.inr ⟨by omega, by omega⟩) ?_
  | refine And.intro (show CDiv _ _ from ⟨by omega, by omega⟩) ?_
  | refine And.intro (show Dt.CPowG _ _ from ⟨by decide, by decide +kernel⟩) ?_
  | refine And.intro (by first | decide | omega) ?_
  | refine And.intro (Int.pow_pos (Int.pow_pos (by decide))) ?_
  | refine ⟨_, _, _, _, rfl, rfl, SqL.of (by first | assumption | exact upd_same), (by rfl), ?_⟩
  | refine ⟨_, _, _, _, rfl, rfl, (by first | assumption | exact upd_same), (by rfl), ?_⟩
  | refine Or.inl ⟨_, rfl, ?_⟩
  | refine Or.inr ⟨_, rfl, ?_⟩)
local macro_rules | `(tactic| walk_at "q") => `(tactic| repeat (walk_at "q1"))
local macro_rules | `(tactic| walk_at "eqt") => `(tactic| (refine ⟨_, rfl, ?_⟩; refine ⟨rfl, ?_⟩; first
  | (refine ⟨true, rfl, ?_⟩; refine L2.iteT ?_)
  | (refine ⟨false, rfl, ?_⟩; refine L2.iteF ?_)))
local macro_rules | `(tactic| walk_at "sz") => `(tactic| (rw [PySem.sizeLine_eq]; simp))
namespace K04
open PySem PySem.Spec PyProof.Rows L2 Dt An Rp Sp4
section
variable {P : Program} {w : World} {K : PySem.W.Frag} {mg : Str → Option Value} {base : Heap} {a : Ads}
theorem SchOk.perm3 {S S1 : Sch} (h : SchOk S) (oT : S1.T.Perm S.T) (oL : S1.L.Perm S.L) (oW : S1.W.Perm S.W) : SchOk S1 where
  tabs := ⟨by rw [oT.length_eq]; exact h.tabs.n1, by rw [oT.length_eq]; exact h.tabs.n5, fun c m => h.tabs.names c ((oT.map (·.1)).mem_iff.mp m), (oT.map (·.1)).nodup_iff.mpr h.tabs.nd, fun p m => h.tabs.cols p (oT.mem_iff.mp m)⟩
  keys := ⟨(oL.map (·.1)).nodup_iff.mpr h.keys.nd, fun p m => by
    obtain ⟨cs, a, b⟩ := h.keys.keys p (oL.mem_iff.mp m)
    exact ⟨cs, oT.mem_iff.mpr a, b⟩⟩
  ways := ⟨by rw [oW.length_eq]; exact h.ways.n4, fun c m => h.ways.names c ((oW.map (·.1)).mem_iff.mp m), (oW.map (·.1)).nodup_iff.mpr h.ways.nd, fun p m => by
    have r := h.ways.ways p (oW.mem_iff.mp m)
    obtain ⟨cs, a1, a2⟩ := r.tab
    obtain ⟨ks, b1, b2⟩ := r.key
    exact ⟨⟨cs, oT.mem_iff.mpr a1, a2⟩, (oT.map (·.1)).mem_iff.mpr r.par, r.ne, ⟨ks, oL.mem_iff.mpr b1, b2⟩, r.len, r.nd⟩, by
    obtain ⟨rank, rr⟩ := h.ways.rank
    exact ⟨rank, fun s m => rr s ((oW.map _).mem_iff.mp m)⟩⟩
/-- in its place, or at the end -/
def putX {α : Type} (X : List (Str × α)) (t : Str) (y : α) : List (Str × α) := X.map fun p => if p.1 = t then (t, y) else p
theorem put_ent {α : Type} {R : Addr → α → Prop} {t : Str} {c : Addr} {y : α} (r : R c y) : ∀ {ks : List (Key × V)} {X : List (Str × α)}, Paired (EntOf R) ks X → Paired (EntOf R) (ks.map fun kv => if kv.1 = .inr t then (kv.1, V.ref c) else kv) (putX X t y)
  | _, _, .nil => .nil
  | _, _, .cons (a := e) (b := z) h p => by
    refine .cons ?_ (put_ent r p)
    show EntOf R (if e.1 = .inr t then (e.1, V.ref c) else e) (if z.1 = t then (t, y) else z)
    by_cases q : z.1 = t
    · have q2 : e.1 = .inr t := by rw [h.1, q]
      rw [if_pos q, if_pos q2]
      exact ⟨q2, c, rfl, r⟩
    · rw [if_neg q, if_neg (fun w => q (Sum.inr.inj (h.1.symm.trans w)))]
      exact h
theorem put_in {α : Type} {R : Addr → α → Prop} {t : Str} {c : Addr} {y : α} (r : R c y) {ks : List (Key × V)} {X : List (Str × α)} (p : Paired (EntOf R) ks X) (nd : (X.map (·.1)).Nodup) (m : t ∈ X.map (·.1)) : Paired (EntOf R) (putK ks (.inr t) (.ref c)) (putX X t y) := by
  have s := val_some (t := t) p nd
  rw [decide_eq_true m] at s
  unfold putK
  rw [valV_any, if_pos s]
  exact put_ent r p
theorem filt_ent {α : Type} {R : Addr → α → Prop} {t : Str} : ∀ {ks : List (Key × V)} {X : List (Str × α)}, Paired (EntOf R) ks X → Paired (EntOf R) (ks.filter fun kv => decide (kv.1 ≠ .inr t)) (X.filter fun p => decide (p.1 ≠ t))
  | _, _, .nil => .nil
  | _, _, .cons (a := e) (b := z) h p => by
    rw [List.filter_cons, List.filter_cons]
    by_cases q : z.1 = t
    · have q2 : e.1 = .inr t := by rw [h.1, q]
      rw [if_neg (by simp [q2]), if_neg (by simp [q])]
      exact filt_ent p
    · have q2 : e.1 ≠ .inr t := fun w => q (Sum.inr.inj (h.1.symm.trans w))
      rw [if_pos (by simp [q2]), if_pos (by simp [q])]
      exact .cons h (filt_ent p)
theorem put_perm {α : Type} {t : Str} {y : α} : ∀ {X : List (Str × α)}, (X.map (·.1)).Nodup → t ∈ X.map (·.1) → (putX X t y).Perm (X.filter (fun p => decide (p.1 ≠ t)) ++ [(t, y)])
  | [], _, m => by cases m
  | p :: X, nd, m => by
    rw [List.map_cons, List.nodup_cons] at nd
    show ((if p.1 = t then (t, y) else p) :: putX X t y).Perm _
    by_cases q : p.1 = t
    · have n1 : t ∉ X.map (·.1) := fun z => nd.1 (by rw [q]; exact z)
      have e1 : putX X t y = X := by
        exact (List.map_congr_left (g := id) fun z hz => if_neg fun w => n1 (by rw [← w]; exact List.mem_map_of_mem hz)).trans (List.map_id X)
      have e2 : (p :: X).filter (fun p => decide (p.1 ≠ t)) = X := by
        rw [List.filter_cons, if_neg (by simp [q])]
        exact List.filter_eq_self.mpr fun z hz => decide_eq_true fun w => n1 (by rw [← w]; exact List.mem_map_of_mem hz)
      rw [if_pos q, e1, e2]
      exact (List.perm_append_singleton _ _).symm
    · have m2 : t ∈ X.map (·.1) := by
        rcases List.mem_cons.mp m with e | e
        · exact absurd e.symm q
        · exact e
      rw [if_neg q, List.filter_cons, if_pos (by simp [q])]
      exact (put_perm nd.2 m2).cons _
/-- the keys that the law builds without one -/
def restL (S : Sch) (t : Str) (ks : List (List Str)) (k : List Str) : List (Str × List (List Str)) := if ks.filter (fun z => decide (z ≠ k)) = [] then S.L.filter (fun p => decide (p.1 ≠ t)) else putX S.L t (ks.filter fun z => decide (z ≠ k))
theorem rest_perm {S : Sch} (ok : SchOk S) {t : Str} {ks : List (List Str)} {k : List Str} (m : (t, ks) ∈ S.L) : (restL S t ks k).Perm (dropKey S t k).L := by
  unfold restL
  show (if _ then _ else _ : List (Str × List (List Str))).Perm (_ ++ (if (valsOf S.L t).filter _ = [] then _ else _))
  rw [vals_in ok.keys.nd m]
  by_cases c : ks.filter (fun z => decide (z ≠ k)) = []
  · rw [if_pos c, if_pos c, List.append_nil]
  · rw [if_neg c, if_neg c]
    exact put_perm ok.keys.nd (List.mem_map_of_mem m)
theorem drop_perm {S S1 : Sch} (o : SortOf S S1) (ok : SchOk S) {t : Str} {ks : List (List Str)} {k : List Str} (m : (t, ks) ∈ S.L) : (dropKey S1 t k).L.Perm (dropKey S t k).L := by
  show (_ ++ (if (valsOf S1.L t).filter _ = [] then _ else _) : List (Str × List (List Str))).Perm (_ ++ (if (valsOf S.L t).filter _ = [] then _ else _))
  rw [vals_in ok.keys.nd m, vals_in (ok.perm o).keys.nd (o.k.mem_iff.mpr m)]
  exact (o.k.filter _).append_right _
theorem used_perm {S S1 : Sch} (o : SortOf S S1) (t : Str) (k : List Str) : usedKey S1 t k ↔ usedKey S t k :=
  ⟨fun ⟨p, m, h⟩ => ⟨p, o.w.mem_iff.mp m, h⟩, fun ⟨p, m, h⟩ => ⟨p, o.w.mem_iff.mpr m, h⟩⟩
theorem noKey_go {K : PySem.W.Frag} {C CO : Addr} {vs : List V} {H : Hp} {Q1 : VK} {E1 : XK} (tl : V → Hp → Prop) (h : spNoKey K C CO vs H tl (fun c _ H' => c = .ref CO ∧ tl .non H')) (hQ : ∀ v H', tl v H' → Q1 v H') (hE : ∀ H', Q1 .non H' → E1 (.ref CO) none H') : spNoKey K C CO vs H Q1 E1 := by
  obtain ⟨x, S, et, ek, ew, t, c, k, h1, h2, h3, h4, h5, h6⟩ := h
  exact ⟨x, S, et, ek, ew, t, c, k, h1, h2, h3, h4, fun u H1 s => hE _ (hQ _ _ (h5 u H1 s).2), fun nu y H1 S1 ft fk fw s o q n1 n2 n3 n4 => hQ _ _ (h6 nu y H1 S1 ft fk fw s o q n1 n2 n3 n4)⟩
theorem sch_ty (T : Txt K mg a) {H : Hp} {x : Addr} {S : Sch} {et ek ew : Addr} (h : SchO a.c_Schema H x S et ek ew) : TyX K H (.ref x) (.ref a.c_Schema) := by
  obtain ⟨dx, p1, p2, hx⟩ := h.at_
  exact .base (.ins hx T.cl_Schema T.ti1 T.ti2 T.ti3 T.ti4)
theorem SchO.own {C : Addr} {H : Hp} {x : Addr} {S : Sch} {et ek ew : Addr} (h : SchO C H x S et ek ew) : Ow.Own H C x := by
  obtain ⟨dx, p1, p2, hx⟩ := h.at_
  exact ⟨dx, _, hx⟩
theorem drop_ne {S : Sch} (ok : SchOk S) {t : Str} {ks : List (List Str)} {k : List Str} (m : (t, ks) ∈ S.L) (mk : k ∈ ks) : (t, ks) ∉ (dropKey S t k).L := by
  show (t, ks) ∉ (_ ++ (if (valsOf S.L t).filter _ = [] then _ else _) : List (Str × List (List Str)))
  rw [vals_in ok.keys.nd m]
  intro h
  rcases List.mem_append.mp h with h | h
  · exact of_decide_eq_true (List.mem_filter.mp h).2 rfl
  · by_cases c : ks.filter (fun z => decide (z ≠ k)) = []
    · rw [if_pos c] at h
      cases h
    · rw [if_neg c] at h
      have e : ks = ks.filter (fun z => decide (z ≠ k)) := congrArg Prod.snd (List.mem_singleton.mp h)
      rw [e] at mk
      exact of_decide_eq_true (List.mem_filter.mp mk).2 rfl
theorem es_nd {dt dk dw : Addr} : (([(.inr "tables", .ref dt), (.inr "locks", .ref dk), (.inr "ways", .ref dw)] : List (Key × V)).map (·.1)).Nodup := by
  show ([Sum.inr "tables", Sum.inr "locks", Sum.inr "ways"] : List Key).Nodup
  decide +kernel
def spLess (C : Addr) : Sp := fun vs H Q _ => ∃ (x p : Addr) (S S1 : Sch) (et ek ew dt dk dw : Addr), vs = [.ref x, .ref p] ∧ SchO C H x S1 et ek ew ∧ PlainO H p S dt dk dw ∧ SortOf S S1 ∧ Apart x et ek ew p dt dk dw ∧ ∀ H', Same H H' → Q (.bl true) H'
theorem ok_less_right (T : Txt K mg a) : FnOk P w K mg base CX0 9 a.less_right a.fd_less_right ps__law_less_right (spLess a.c_Schema) := by
  have F := T.F_less_right
  refine F.ok (k := 8) sc__law_less_right (fun vs H Q E h => ?_) (fun cdv A outer s H vs Q E hr h => ?_)
  · obtain ⟨x, p, S, S1, et, ek, ew, dt, dk, dw, rfl, hS, hp, srt, ap, k⟩ := h
    rfl
  · obtain ⟨x, p, S, S1, et, ek, ew, dt, dk, dw, rfl, hS, hp, srt, ap, k⟩ := h
    have hu := hu_of hr
    refine ⟨_, (pss_cons (ps_lock (ps_for PassesOwn.never rfl (pi_keys (pe_dget hu (pv 1) pe_str (fun _ _ => rfl))) (pg_name (i := 2) sc__law_less_right.nd rfl (Or.inr rfl)) (pss_one (ps_for PassesOwn.never rfl (pi_tup (pe_dget hu (pe_dget hu (pv 1) pe_str (fun _ _ => rfl)) (pv 2) (fun _ _ => rfl))) (pg_name (i := 3) sc__law_less_right.nd rfl (Or.inr rfl)) (pss_cons (ps_set (i := 4) sc__law_less_right.nd rfl (Or.inl rfl) (pe_cmpR (Le.op_neL hr.units) (pe_lock (pe_lc (own := [("_law_one", 5)]) rfl sc__law_less_right.nd (pi_keys (pe_dget hu (pv 1) pe_str (fun _ _ => rfl))) (blkOk_by (N := nm__law_less_right) (sc := defScope s__law_less_right) (by decide +kernel)) (fun _ _ _ _ _ => (pg_name (i := 5) sc__law_less_right.nd rfl (Or.inl rfl))) (fun _ _ _ _ _ => (pts_one (pt_cmpR (r := rEqD K) (op_eqD hr.units) (pe_slice (r := Ts.rSlS K) Ts.sl_tupS (pe_dget hu (pe_dget hu (pv 1) pe_str (fun _ _ => rfl)) (pv 5) (fun _ _ => rfl)) (po_some pe_int) po_none) (pe_tup (pa_cons (pv 2) (pa_cons (pv 3) pa_nil))) (nomark _)))) (fun _ _ _ _ _ => (pv 5)))) (pe_lst pa_nil) (nomark _)))
      (pss_cons (Exs.ps_try_cl (Wout := fun _ _ _ _ => False) rfl rfl takes0 (fun W pn xe tk _ => (pss_one (ps_set (i := 6) sc__law_less_right.nd rfl (Or.inl rfl) (Mt.pe_methT (pv 0) T.cl_Schema T.m_without_key (ok_Schema_without_key T) (hr.mono (by decide)) (b_Schema_without_key T) (fun σ => passAt tk σ) (pa_cons (pv 2) (pa_cons (pv 3) pa_nil)))))) (.cons (Exs.asks_one (hc := ⟨by rfl, by decide, .inl T.g_c_InvalidOperation⟩)) (fun a0 oe cls d0 pn hz hf => (pss_one (ps_set (i := 6) sc__law_less_right.nd rfl (Or.inl rfl) pe_non))) .nil))
      (pss_cons (ps_if (pt_cmpR op_ne (pe_cmpR op_isN (pv 6) pe_non (nomark _)) (pv 4) (nomark _)) (pss_one (ps_ret pe_bl)) pss_nil)
      (pss_cons (ps_set (i := 7) sc__law_less_right.nd rfl (Or.inl rfl) (pe_callTy call_tuple_of (by rfl) T.tuple (by decide +kernel) (pa_cons (pe_lc (own := [("_law_one", 5)]) rfl sc__law_less_right.nd (pi_tup (pe_dget hu (pe_dget hu (pv 1) pe_str (fun _ _ => rfl)) (pv 2) (fun _ _ => rfl))) (blkOk_by (N := nm__law_less_right) (sc := defScope s__law_less_right) (by decide +kernel)) (fun _ _ _ _ _ => (pg_name (i := 5) sc__law_less_right.nd rfl (Or.inl rfl))) (fun _ _ _ _ _ => (pts_one (pt_cmpR (r := rNeD K) (op_neD hr.units) (pv 5) (pv 3) (nomark _)))) (fun _ _ _ _ _ => (pv 5))) pa_nil)))
      (pss_one (ps_if (PW.pt (pw_or (PW.pt (pw_and (pt_not (pt_val (pv 4))) (pw_and1 (pt_cmpR (Ow.op_neO ⟨T.fi__eq__, T.fn__eq__, ok_Schema___eq__ T, b_Schema___eq__ T⟩ T.ne_A T.so_A (hr.mono (by decide)) pass0) (pv 6) (pe_call (ok_rest T) (hr.mono (by decide)) (by rfl) T.g_rest T.F_rest.kp (b_rest T) .nil pass0 (pa_cons (pv 1) (pa_cons pe_str (pa_cons (pv 2) (pa_cons (pv 7) pa_nil))))) (nomark _))))) (pw_or1 (pt_cmpR (Ow.op_eqN ⟨T.fi__eq__, T.fn__eq__, ok_Schema___eq__ T, b_Schema___eq__ T⟩ T.sn_A (hr.mono (by decide)) pass0) (pv 6) (pv 0) (nomark _))))) (pss_one (ps_ret pe_bl)) pss_nil))))))))))
      (pss_cons (ps_lock (ps_for PassesOwn.never rfl (pi_keys (pe_dget hu (pv 1) pe_str (fun _ _ => rfl))) (pg_name (i := 8) sc__law_less_right.nd rfl (Or.inl rfl)) (pss_cons (ps_set (i := 6) sc__law_less_right.nd rfl (Or.inl rfl) (pe_meth (pv 0) T.cl_Schema T.m_without_reference (ok_Schema_without_reference T) (hr.mono (by decide)) (b_Schema_without_reference T) .nil never (pa_cons (pv 8) pa_nil)))
      (pss_one (ps_if (PW.pt (pw_or (pt_cmpR (Ow.op_neO ⟨T.fi__eq__, T.fn__eq__, ok_Schema___eq__ T, b_Schema___eq__ T⟩ T.ne_A T.so_A (hr.mono (by decide)) pass0) (pv 6) (pe_call (ok_rest T) (hr.mono (by decide)) (by rfl) T.g_rest T.F_rest.kp (b_rest T) .nil pass0 (pa_cons (pv 1) (pa_cons pe_str (pa_cons (pv 8) (pa_cons (pe_tup pa_nil) pa_nil))))) (nomark _)) (pw_or (pt_cmpR (Ow.op_eqN ⟨T.fi__eq__, T.fn__eq__, ok_Schema___eq__ T, b_Schema___eq__ T⟩ T.sn_A (hr.mono (by decide)) pass0) (pv 6) (pv 0) (nomark _)) (pw_or1 (pt_cmp (pc_din hu (pv 8) (pe_prop (pv 6) T.cl_Schema T.p_references (ok_Schema_references T) (hr.mono (by decide)) (b_Schema_references T) .nil pass0 rfl))))))) (pss_one (ps_ret pe_bl)) pss_nil)))))
      (pss_one (ps_ret pe_bl)))), ?_⟩
    obtain ⟨kt, ht, pT⟩ := hp.data.tabs
    obtain ⟨kk, hk, pL⟩ := hp.data.keys
    obtain ⟨kw, hw, pW⟩ := hp.data.ways
    have lw : kw.length = S.W.length := pW.length
    have n4 := hp.ok.ways.n4
    have ok1 := hS.ok
    refine ⟨dk, .dK kk, hk, trivial, fun od => ?_⟩
    have offL : Off dk H (upd H dk (.frz od (.dK kk))) := Off.lock
    have eL : upd H dk (.frz od (.dK kk)) dk = some (.frz od (.dK kk)) := upd_same
    generalize upd H dk (.frz od (.dK kk)) = HL at offL eL ⊢
    refine ⟨_, rfl, p, .ref dk, rfl, .inl ⟨_, .inr "locks", .inl (offL _ _ hp.pk hp.at_), rfl, rfl⟩, dk, od, rfl, .inl ⟨kk, eL, ?_⟩⟩
    refine for_it (walk_keys (o := od) (d := dk) (kvs := kk)) (fun i σ Hi => ∃ x2 x3 x4 x5 x6 x7 x8, σ = [some (.ref x), some (.ref p), x2, x3, x4, x5, x6, x7, x8] ∧ Same HL Hi) ⟨none, none, none, none, none, none, none, rfl, Same.refl _⟩ (fun i σ Hi hi q => by
      obtain ⟨_, _, _, _, _, _, _, _, q⟩ := q
      exact q _ _ eL) ?_ ?_
    · rintro i y σ Hi Hi2 hi ⟨x2, x3, x4, x5, x6, x7, x8, rfl, Si⟩ ⟨rfl, kx, v2, hkx, rfl⟩
      obtain ⟨e, he, e1, bt, ev, hbt⟩ := paired_at pL hkx
      have e1 : kx = .inr e.1 := e1
      have ev : v2 = .ref bt := ev
      subst e1 ev
      have em := List.mem_of_getElem? he
      have eV := (valV_at (nd_ent pL hp.ok.keys.nd) hkx).symm
      have offi : Off dk H Hi2 := offL.same Si
      obtain ⟨bs, hb, pb⟩ := KeyT.off offi hk hbt
      obtain ⟨cs, mcs, k1, k2, kok, klex⟩ := hp.ok.keys.keys _ em
      refine ⟨_, rfl, p, .ref dk, rfl, .inl ⟨_, .inr "locks", .inl (offi _ _ hp.pk hp.at_), rfl, rfl⟩, _, rfl, dk, .ref bt, rfl, .inl ⟨kk, .inr e.1, .inr ⟨od, Si _ _ eL⟩, rfl, eV⟩, ?_⟩
      refine ⟨bt, rfl, ⟨_, SqT.of hb⟩, ?_⟩
      refine for_it (walk_tup (K := K) (a := bt) (xs := bs.map V.ref)) (fun j σ Hj => ∃ x3 x4 x5 x6 x7 x8, σ = [some (.ref x), some (.ref p), some (.str e.1), x3, x4, x5, x6, x7, x8] ∧ Same Hi2 Hj) ⟨x3, x4, x5, x6, x7, x8, rfl, Same.refl _⟩ (fun j σ Hj hj q => by
        obtain ⟨_, _, _, _, _, _, _, q⟩ := q
        exact SqT.of (q _ _ hb)) ?_ ?_
      · rintro j y σ Hj Hj2 hj ⟨x3, x4, x5, x6, x7, x8, rfl, Sj⟩ ⟨rfl, hy⟩
        rw [List.getElem?_map] at hy
        obtain ⟨b, hbj, rfl⟩ := Option.map_eq_some_iff.mp hy
        obtain ⟨key, hkey, hkb⟩ := paired_at pb hbj
        have mkey := List.mem_of_getElem? hkey
        have off0 : Off dk H Hj2 := offi.same Sj
        have ed0 : Hj2 dk = some (.frz od (.dK kk)) := Sj _ _ (Si _ _ eL)
        have hw0 := off0 _ _ (Ne.symm hp.kw) hw
        have hp0 := off0 _ _ hp.pk hp.at_
        have hb0 := Sj _ _ hb
        have hk0 : Hj2 b = some (.tup (key.map V.str)) := Sj _ _ hkb
        have okN := hp.ok.tabName (List.mem_map_of_mem mcs)
        have okKs := hp.ok.keyTexts em
        have okk := okKs _ mkey
        have hS0 : SchO a.c_Schema Hj2 x S1 et ek ew := hS.off off0 hk ap.k.2.1 ap.k.2.2.1 ap.k.2.2.2
        have pW0 := ent_off (fun _ _ e => WayT.off off0 hk e) pW
        refine ⟨dw, .dK kw, hw0, trivial, fun od2 => ?_⟩
        have off2 : Off dw Hj2 (upd Hj2 dw (.frz od2 (.dK kw))) := Off.lock
        have eL2 : upd Hj2 dw (.frz od2 (.dK kw)) dw = some (.frz od2 (.dK kw)) := upd_same
        generalize upd Hj2 dw (.frz od2 (.dK kw)) = HL2 at off2 eL2 ⊢
        refine ⟨_, rfl, p, .ref dw, rfl, .inl ⟨_, .inr "ways", .inl (off2 _ _ hp.pw hp0), rfl, rfl⟩, dw, od2, rfl, .inl ⟨kw, eL2, fun D hD => ?_⟩⟩
        refine lc_it (walk_keys (o := od2) (d := dw) (kvs := kw)) (fun q Hq => Same HL2 Hq ∧ Hq D = some (.lst ((((S.W.take q).filter fun w => decide (w.2.par = e.1 ∧ w.2.key = key)).map (·.1)).map V.str))) ⟨sameNew hD, upd_same⟩ ?_ ?_ ?_
        · rintro q Hq hq ⟨Sm, _⟩
          exact Sm _ _ eL2
        · rintro q y Hq Hq2 hq ⟨Sm, eD⟩ ⟨rfl, kx, v2, hkx2, rfl⟩
          obtain ⟨w1, hw1, f1, bw, fv, hbw⟩ := paired_at pW0 hkx2
          have f1 : kx = .inr w1.1 := f1
          have fv : v2 = .ref bw := fv
          subst f1 fv
          have eVw := (valV_at (nd_ent pW0 hp.ok.ways.nd) hkx2).symm
          obtain ⟨c2, kd, hb2, hc2, hkd⟩ := hbw.off off2 hw0
          have hbi := Sm _ _ hb2
          have mW := List.mem_of_getElem? hw1
          refine ⟨rfl, ?_⟩
          refine ⟨_, rfl, p, .ref dw, rfl, .inl ⟨_, .inr "ways", .inl (Sm _ _ (off2 _ _ hp.pw hp0)), rfl, rfl⟩, _, rfl, dw, .ref bw, rfl, .inl ⟨kw, .inr w1.1, .inr ⟨od2, Sm _ _ eL2⟩, rfl, eVw⟩, _, rfl, bw, _, rfl, SqT.of hbi, fun r Hr Sr hr => ?_⟩
          rw [show cutV [V.str w1.2.tab, .ref c2, .str w1.2.par, .ref kd] (some 2) none = [V.str w1.2.par, .ref kd] from Ts.cut_from _ 2] at hr
          refine ⟨_, rfl, _, rfl, by show 2 ≤ sizeLine; decide, fun p3 np3 => ?_⟩
          generalize EHs : upd Hr p3 _ = Hs
          have hp3 := (congrFun EHs p3).symm.trans upd_same
          have S3 : Same Hr Hs := by rw [← EHs]; exact sameNew np3
          have Sms := (Sm.trans Sr).trans S3
          have eDs := S3 _ _ (Sr _ _ eD)
          have hks : Hs b = some (.tup (key.map V.str)) := Sms _ _ (off2 _ _ (fun z => by rw [z, hw0] at hk0; cases hk0) hk0)
          obtain ⟨ks2, m1, m2⟩ := (hp.ok.ways.ways _ mW).key
          refine ⟨Sp4.pairD w1.2.par w1.2.key, Sp4.pairD e.1 key, .tup (sqt_same S3 hr) (.cons (.str _) (.cons (dp_key (SqT.of (Sms _ _ hkd))) .nil)), .tup (SqT.of hp3) (.cons (.str _) (.cons (dp_key (SqT.of hks)) .nil)), sh_pair (hp.ok.tabName (hp.ok.ways.ways _ mW).par) (hp.ok.keyTexts m1 _ m2), sh_pair okN okk, ?_⟩
          rw [eqv_pair]
          refine ⟨_, rfl, ?_⟩
          have fl : (S.W.take (q + 1)).filter (fun w => decide (w.2.par = e.1 ∧ w.2.key = key)) = (S.W.take q).filter (fun w => decide (w.2.par = e.1 ∧ w.2.key = key)) ++ (if w1.2.par = e.1 ∧ w1.2.key = key then [w1] else []) := by
            rw [take_at hw1, List.filter_append]
            by_cases c : w1.2.par = e.1 ∧ w1.2.key = key <;> simp [c]
          have lq : ((S.W.take q).filter (fun w => decide (w.2.par = e.1 ∧ w.2.key = key))).length ≤ 4 := by
            have := List.length_filter_le (fun w => decide (w.2.par = e.1 ∧ w.2.key = key)) (S.W.take q)
            rw [List.length_take] at this
            omega
          refine iteD (fun c => ?_) (fun c => ⟨Sms, ?_⟩)
          · refine ⟨_, rfl, _, eDs, by rw [List.length_map, List.length_map, sizeLine_eq]; omega, same_upd Sms hD, ?_⟩
            rw [fl, if_pos c, List.map_append, List.map_append]
            exact upd_same
          · rw [fl, if_neg c, List.append_nil]
            exact eDs
        rintro HF ⟨SF, eD⟩
        rw [lw, List.take_length] at eD
        have nDw : D ≠ dw := fun z => by rw [z, eL2] at hD; cases hD
        refine ⟨SF _ _ eL2, ?_⟩
        have SB : Same Hj2 (upd HF dw (.dK kw)) := (off2.same SF).back hw0
        have eDB : upd HF dw (.dK kw) D = some (.lst (((S.W.filter fun w => decide (w.2.par = e.1 ∧ w.2.key = key)).map (·.1)).map V.str)) := by rw [upd_ne nDw]; exact eD
        generalize upd HF dw (.dK kw) = HB at SB eDB ⊢
        refine ⟨by show 0 ≤ sizeLine; decide, fun e1 ne1 => ?_⟩
        generalize EHC : upd HB e1 _ = HC
        have he1 := (congrFun EHC e1).symm.trans upd_same
        have SC : Same HB HC := by rw [← EHC]; exact sameNew ne1
        have eD2 := SC _ _ eDB
        have SBC := SB.trans SC
        obtain ⟨u, hu2, hne⟩ : ∃ u : Bool, (u = true ↔ usedKey S e.1 key) ∧ ∀ Q2 : VK, Q2 (.bl u) HC → Le.rNeL K (.ref D) (.ref e1) HC Q2 := by
          cases eF : (S.W.filter fun w => decide (w.2.par = e.1 ∧ w.2.key = key)) with
          | nil =>
            rw [eF] at eD2
            refine ⟨false, ⟨fun z => (by cases z), fun ⟨w, m, h⟩ => ?_⟩, fun Q2 q => .inl ⟨.list [], .list [], .lst (SqL.of eD2) .nil, .lst (SqL.of he1) .nil, (by decide +kernel), (by decide +kernel), q⟩⟩
            have : w ∈ S.W.filter fun w => decide (w.2.par = e.1 ∧ w.2.key = key) := List.mem_filter.mpr ⟨m, decide_eq_true h⟩
            rw [eF] at this
            cases this
          | cons w W =>
            rw [eF] at eD2
            have hw' : w ∈ S.W.filter fun w => decide (w.2.par = e.1 ∧ w.2.key = key) := by rw [eF]; exact List.mem_cons_self
            obtain ⟨m1, m2⟩ := List.mem_filter.mp hw'
            exact ⟨true, ⟨fun _ => ⟨w, m1, of_decide_eq_true m2⟩, fun _ => rfl⟩, fun Q2 q => .inr ⟨D, e1, _, [], rfl, rfl, eD2, he1, (by simp), q⟩⟩
        refine hne _ ?_
        have hSC := hS0.same SBC
        obtain ⟨dx, p1, p2, hx⟩ := hSC.at_
        have mvals : key ∈ valsOf S1.L e.1 := by rw [vals_in hS.ok.keys.nd (srt.k.mem_iff.mpr em)]; exact mkey
        refine ⟨_, rfl, x, dx, _, rfl, hx, rfl, ?_⟩
        refine ⟨_, rfl, _, rfl, ?_⟩
        refine noKey_go (fun v HX => Same HC HX ∧ (v = .non ∧ u = true ∨ ∃ y S2 ft fk fw, v = .ref y ∧ u = false ∧ SchO a.c_Schema HX y S2 ft fk fw ∧ SortOf (dropKey S1 e.1 key) S2)) ⟨x, S1, et, ek, ew, e.1, b, key, rfl, hSC, SqT.of (SBC _ _ hk0), mvals, fun us HX SX => ⟨rfl, SX, .inl ⟨rfl, hu2.mpr ((used_perm srt _ _).mp us)⟩⟩, fun nus y HX S2 ft fk fw SX hY o2 _ _ _ _ => ⟨SX, .inr ⟨y, S2, ft, fk, fw, rfl, Bool.eq_false_iff.mpr fun z => nus ((used_perm srt _ _).mpr (hu2.mp z)), hY, o2⟩⟩⟩ (fun v HX hv => ?_) (fun HX q => ⟨true, T.em_OO, fun _ ae hae => q, fun z => by cases z⟩)
        obtain ⟨SX, hv⟩ := hv
        have eis : decide (v = V.non) = u := by
          rcases hv with ⟨h1, h2⟩ | ⟨y, S2, ft, fk, fw, h1, h2, _⟩
          · rw [h1, h2]; rfl
          · rw [h1, h2]; rfl
        refine ⟨_, rfl, rfl, _, rfl, rfl, _, rfl, ?_⟩
        rw [show (!decide (V.bl (decide (v = V.non)) = V.bl u)) = false from by rw [eis, decide_eq_true rfl]; rfl]
        refine iteF ?_
        unfold tNext
        dsimp only
        unfold tSeq
        have S0X := SBC.trans SX
        have offX : Off dk H HX := off0.same S0X
        have hpX := S0X _ _ hp0
        have edX := S0X _ _ ed0
        have hbX := S0X _ _ hb0
        have pbX := Paired.mapP pb fun _ _ z => S0X _ _ (Sj _ _ z)
        have lbs : bs.length = e.2.length := pb.length
        refine ⟨_, rfl, p, .ref dk, rfl, .inl ⟨_, .inr "locks", .inl hpX, rfl, rfl⟩, _, rfl, dk, .ref bt, rfl, .inl ⟨kk, .inr e.1, .inr ⟨od, edX⟩, rfl, eV⟩, ?_⟩
        refine ⟨bt, rfl, ⟨_, SqT.of hbX⟩, fun D2 hD2 => ?_⟩
        refine lc_it (walk_tup (K := K) (a := bt) (xs := bs.map V.ref)) (fun i Hi => Same HX Hi ∧ ∃ zs : List Addr, Hi D2 = some (.lst (zs.map V.ref)) ∧ Paired (fun c z => HX c = some (.tup (z.map V.str))) zs ((e.2.take i).filter fun z => decide (z ≠ key))) ⟨sameNew hD2, [], upd_same, .nil⟩ ?_ ?_ ?_
        · rintro i Hi hi ⟨Sm, _⟩
          exact SqT.of (Sm _ _ hbX)
        · rintro i y Hi Hi2 hi ⟨Sm, zs, eD, hz⟩ ⟨rfl, hy⟩
          rw [List.getElem?_map] at hy
          obtain ⟨b2, hb2, rfl⟩ := Option.map_eq_some_iff.mp hy
          obtain ⟨z, hz1, hz2⟩ := paired_at pbX hb2
          have okz := okKs _ (List.mem_of_getElem? hz1)
          refine ⟨rfl, ?_⟩
          refine ⟨_, rfl, _, rfl, Sp4.kD z, Sp4.kD key, dp_key (SqT.of (Sm _ _ hz2)), dp_key (SqT.of (Sm _ _ (S0X _ _ hk0))), sh_key _ okz, sh_key _ okk, _, rfl, ?_⟩
          rw [eqv_key]
          have fl : (e.2.take (i + 1)).filter (fun z => decide (z ≠ key)) = (e.2.take i).filter (fun z => decide (z ≠ key)) ++ (if z ≠ key then [z] else []) := by
            rw [take_at hz1, List.filter_append]
            by_cases c : z = key <;> simp [c]
          have lz : zs.length ≤ 2 := by
            rw [hz.length]
            have := List.length_filter_le (fun z => decide (z ≠ key)) (e.2.take i)
            rw [List.length_take] at this
            omega
          by_cases c : z = key
          · rw [decide_eq_true c]
            refine iteF ⟨Sm, zs, eD, ?_⟩
            rw [fl, if_neg (fun e => e c), List.append_nil]
            exact hz
          · rw [decide_eq_false c]
            refine iteT ?_
            refine ⟨_, rfl, _, eD, by rw [List.length_map, sizeLine_eq]; omega, same_upd Sm hD2, zs ++ [b2], by rw [List.map_append]; exact upd_same, ?_⟩
            rw [fl, if_pos c]
            exact paired_snoc hz hz2
        rintro H4 ⟨S4, zs, eD4, hz⟩
        rw [List.length_map, lbs, List.take_length] at hz
        refine ⟨D2, _, rfl, .inl ⟨SqL.of eD4, fun l hl => ?_⟩⟩
        generalize EH5 : upd H4 l _ = H5
        have hl5 := (congrFun EH5 l).symm.trans upd_same
        have S5 : Same H4 H5 := by rw [← EH5]; exact sameNew hl
        have SX5 := S4.trans S5
        have S05 := S0X.trans SX5
        have hz5 : Paired (fun c z => H5 c = some (.tup (z.map V.str))) zs (e.2.filter fun z => decide (z ≠ key)) := Paired.mapP hz fun _ _ e => SX5 _ _ e
        have lzs : zs.length = (e.2.filter fun z => decide (z ≠ key)).length := hz.length
        have off5 : Off dk H H5 := off0.same S05
        have hS5 := hS0.same S05
        refine ⟨_, rfl, _, rfl, ?_⟩
        rcases hv with ⟨rfl, rfl⟩ | ⟨y, S2, ft, fk, fw, rfl, rfl, hY, o2⟩
        · refine iteF ?_
          refine iteF ?_
          refine ⟨_, rfl, _, rfl, .inr ⟨x, rfl, rfl, hS5.own, x, S1, et, ek, ew, .non, rfl, hS5, .inr ⟨_, .base .non, T.ko_NoneType, false, rfl, ?_⟩⟩⟩
          refine ⟨_, rfl, ?_⟩
          refine iteF ?_
          exact ⟨_, _, _, _, _, _, rfl, Sj.trans (SBC.trans (SX.trans SX5))⟩
        · refine iteT ?_
          have nus : ¬ usedKey S e.1 key := fun z => Bool.false_ne_true (hu2.mpr z)
          have mv : key ∈ valsOf S.L e.1 := by rw [vals_in hp.ok.keys.nd em]; exact mkey
          have lkk : kk.length = S.L.length := pL.length
          have l5 := len_keys hp.ok
          refine ⟨_, rfl, _, rfl, _, rfl, _, rfl, p, _, "locks", e.1, dk, l, kk, S.L.map (·.1), zs.map V.ref, (e.2.filter fun z => decide (z ≠ key)).map Sp4.kD, rfl, S05 _ _ hp0, by show 3 ≤ 100; decide, es_nd, rfl, .inr ⟨od, S05 _ _ ed0⟩, keys_ent pL, hp.ok.keys.nd, by omega, SqT.of hl5, dp_keys hz5, sh_keys _ fun k hk => okKs _ (List.mem_filter.mp hk).1, fun H6 D3 q S6 nD3 nq nDq hD3 hq => ?_⟩
          have off6 := off5.same S6
          have hw6 := off6 _ _ (Ne.symm hp.kw) hw
          refine ⟨⟨S.T, restL S e.1 e.2 key, S.W⟩, dt, D3, dw, ⟨by rw [hq]; rfl, ⟨⟨kt, off6 _ _ hp.tk ht, ent_off (fun _ _ e => ColT.off off6 hk e) pT⟩, ⟨_, hD3, ?_⟩, ⟨kw, hw6, ent_off (fun _ _ e => WayT.off off6 hk e) pW⟩⟩, SchOk.perm3 (hp.ok.dropKey mv nus) (.refl _) (rest_perm hp.ok em) (.refl _), fun z => by rw [z, S05 _ _ hw0] at nD3; cases nD3⟩, fun y2 H7 S3 gt gk gw S7 hY2 o3 _ _ _ _ => ?_⟩
          · have pL6 := ent_off (fun _ _ e => KeyT.off off6 hk e) pL
            unfold restL
            by_cases c : e.2.filter (fun z => decide (z ≠ key)) = []
            · rw [if_pos c, if_pos (by rw [c] at lzs; rw [List.length_eq_zero_iff.mp lzs]; rfl)]
              exact filt_ent pL6
            · rw [if_neg c, if_neg (fun z => c (List.length_eq_zero_iff.mp (by rw [← lzs, ← List.length_map (f := V.ref), z]; rfl)))]
              exact put_in ⟨zs, S6 _ _ hl5, Paired.mapP hz5 fun _ _ z => S6 _ _ z⟩ pL6 hp.ok.keys.nd (List.mem_map_of_mem em)
          have hY7 := hY.same ((SX5.trans S6).trans S7)
          have hS7 := hS5.same (S6.trans S7)
          refine ⟨y, _, rfl, hY7.own, sch_ty T hY2, T.nfi_Schema, y, S2, ft, fk, fw, .ref y2, rfl, hY7, .inl ⟨y2, S3, gt, gk, gw, rfl, hY2, fun b1 ib => ⟨b1, rfl, ?_⟩⟩⟩
          have eb1 : b1 = true := ib.mpr ⟨(o2.t.trans srt.t).trans o3.t.symm, ((o2.k.trans (drop_perm srt hp.ok em)).trans (rest_perm hp.ok em).symm).trans o3.k.symm, (o2.w.trans srt.w).trans o3.w.symm⟩
          subst eb1
          refine ⟨_, rfl, ?_⟩
          refine iteF ?_
          refine ⟨_, rfl, _, rfl, .inl ⟨y, _, rfl, hY7.own, sch_ty T hS7, T.nfi_Schema, y, S2, ft, fk, fw, .ref x, rfl, hY7, .inl ⟨x, S1, et, ek, ew, rfl, hS7, fun b1 ib => ⟨b1, rfl, ?_⟩⟩⟩⟩
          have eb1 : b1 = false := Bool.eq_false_iff.mpr fun z => by
            have g := (ib.mp z).k
            exact drop_ne hp.ok em mkey (((drop_perm srt hp.ok em).mem_iff.mp (o2.k.mem_iff.mp (g.mem_iff.mpr (srt.k.mem_iff.mpr em)))))
          subst eb1
          refine ⟨_, rfl, ?_⟩
          refine iteF ?_
          exact ⟨_, _, _, _, _, _, rfl, Sj.trans (SBC.trans (SX.trans (SX5.trans (S6.trans S7))))⟩
      rintro σ Hj ⟨x3, x4, x5, x6, x7, x8, rfl, Sj⟩
      exact ⟨_, _, _, _, _, _, _, rfl, Si.trans Sj⟩
    rintro σ Hi ⟨x2, x3, x4, x5, x6, x7, x8, rfl, Si⟩
    refine ⟨Si _ _ eL, ?_⟩
    have SU : Same H (upd Hi dk (.dK kk)) := (offL.same Si).back hk
    generalize upd Hi dk (.dK kk) = HU at SU ⊢
    have hwU := SU _ _ hw
    refine ⟨dw, .dK kw, hwU, trivial, fun od2 => ?_⟩
    have off2 : Off dw H (upd HU dw (.frz od2 (.dK kw))) := fun b u n e => by rw [upd_ne n]; exact SU _ _ e
    have eL2 : upd HU dw (.frz od2 (.dK kw)) dw = some (.frz od2 (.dK kw)) := upd_same
    generalize upd HU dw (.frz od2 (.dK kw)) = HW at off2 eL2 ⊢
    refine ⟨_, rfl, p, .ref dw, rfl, .inl ⟨_, .inr "ways", .inl (off2 _ _ hp.pw hp.at_), rfl, rfl⟩, dw, od2, rfl, .inl ⟨kw, eL2, ?_⟩⟩
    refine for_it (walk_keys (o := od2) (d := dw) (kvs := kw)) (fun i σ Hi => ∃ x2 x3 x4 x5 x6 x7 x8, σ = [some (.ref x), some (.ref p), x2, x3, x4, x5, x6, x7, x8] ∧ Same HW Hi) ⟨x2, x3, x4, x5, x6, x7, x8, rfl, Same.refl _⟩ (fun i σ Hi hi q => by
      obtain ⟨_, _, _, _, _, _, _, _, q⟩ := q
      exact q _ _ eL2) ?_ ?_
    · rintro i y σ Hi Hi2 hi ⟨x2, x3, x4, x5, x6, x7, x8, rfl, Si⟩ ⟨rfl, kx, v2, hkx, rfl⟩
      obtain ⟨e, he, e1, bw, ev, hbw⟩ := paired_at pW hkx
      have e1 : kx = .inr e.1 := e1
      subst e1
      have em := List.mem_of_getElem? he
      have off0 : Off dw H Hi2 := off2.same Si
      have ed0 : Hi2 dw = some (.frz od2 (.dK kw)) := Si _ _ eL2
      have hS0 : SchO a.c_Schema Hi2 x S1 et ek ew := hS.off off0 hw ap.w.2.1 ap.w.2.2.1 ap.w.2.2.2
      obtain ⟨dx, p1, p2, hx⟩ := hS0.at_
      refine ⟨_, rfl, x, dx, _, rfl, hx, rfl, ?_⟩
      refine ⟨_, rfl, x, S1, et, ek, ew, e.1, rfl, hS0, (srt.w.map _).mem_iff.mpr (List.mem_map_of_mem em), fun y H5 S2 ft fk fw S5 hY o2 _ _ _ _ => ?_⟩
      refine ⟨_, rfl, _, rfl, _, rfl, by show 0 ≤ sizeLine; decide, fun t0 nt0 => ?_⟩
      generalize EH6 : upd H5 t0 _ = H6
      have ht0 := (congrFun EH6 t0).symm.trans upd_same
      have S6 : Same H5 H6 := by rw [← EH6]; exact sameNew nt0
      have S06 := S5.trans S6
      have off6 := off0.same S06
      refine ⟨p, _, "ways", e.1, dw, t0, kw, S.W.map (·.1), [], [], rfl, off6 _ _ hp.pw hp.at_, by show 3 ≤ 100; decide, es_nd, rfl, .inr ⟨od2, S06 _ _ ed0⟩, keys_ent pW, hp.ok.ways.nd, by omega, SqT.of ht0, .nil, by decide +kernel, fun H7 D3 q S7 nD3 nq nDq hD3 hq => ?_⟩
      have off7 := off6.same S7
      have nDk : dk ≠ D3 := fun z => by rw [← z, off6 _ _ hp.kw hk] at nD3; cases nD3
      refine ⟨dropRef S e.1, dt, dk, D3, ⟨by rw [hq]; rfl, ⟨⟨kt, off7 _ _ hp.tw ht, ent_off (fun _ _ e => ColT.off off7 hw e) pT⟩, ⟨kk, off7 _ _ hp.kw hk, ent_off (fun _ _ e => KeyT.off off7 hw e) pL⟩, ⟨_, hD3, ?_⟩⟩, hp.ok.dropRef e.1, nDk⟩, fun y2 H8 S3 gt gk gw S8 hY2 o3 _ _ _ _ => ?_⟩
      · rw [if_pos rfl]
        exact filt_ent (ent_off (fun _ _ e => WayT.off off7 hw e) pW)
      have hY8 := hY.same ((S6.trans S7).trans S8)
      have hS8 := hS0.same ((S06.trans S7).trans S8)
      refine ⟨y, _, rfl, hY8.own, sch_ty T hY2, T.nfi_Schema, y, S2, ft, fk, fw, .ref y2, rfl, hY8, .inl ⟨y2, S3, gt, gk, gw, rfl, hY2, fun b1 ib => ⟨b1, rfl, ?_⟩⟩⟩
      have eb1 : b1 = true := ib.mpr ⟨(o2.t.trans srt.t).trans o3.t.symm, (o2.k.trans srt.k).trans o3.k.symm, (o2.w.trans (srt.w.filter _)).trans o3.w.symm⟩
      subst eb1
      refine ⟨_, rfl, ?_⟩
      refine iteF ?_
      refine ⟨_, rfl, _, rfl, .inl ⟨y, _, rfl, hY8.own, sch_ty T hS8, T.nfi_Schema, y, S2, ft, fk, fw, .ref x, rfl, hY8, .inl ⟨x, S1, et, ek, ew, rfl, hS8, fun b1 ib => ⟨b1, rfl, ?_⟩⟩⟩⟩
      have out : e.1 ∉ S2.W.map (·.1) := fun z => by
        obtain ⟨q, hq, eq⟩ := List.mem_map.mp z
        exact of_decide_eq_true (List.mem_filter.mp (o2.w.mem_iff.mp hq)).2 eq
      have eb1 : b1 = false := Bool.eq_false_iff.mpr fun z => out (((ib.mp z).w.map _).mem_iff.mpr ((srt.w.map _).mem_iff.mpr (List.mem_map_of_mem em)))
      subst eb1
      refine ⟨_, rfl, ?_⟩
      refine iteF ?_
      obtain ⟨dy, q1, q2, hy⟩ := hY8.at_
      refine ⟨_, rfl, _, rfl, y, dy, _, rfl, hy, y, S2, ft, fk, fw, rfl, hY8, fun D H9 kw9 S9 nD hD pD => ?_⟩
      refine ⟨D, _, rfl, DGet.k (k := .inr e.1) hD, ?_⟩
      rw [val_no pD out]
      refine ⟨_, rfl, ?_⟩
      refine iteF ?_
      exact ⟨_, _, _, _, _, _, _, rfl, Si.trans ((S06.trans S7).trans (S8.trans S9))⟩
    rintro σ Hi ⟨x2, x3, x4, x5, x6, x7, x8, rfl, Si⟩
    refine ⟨Si _ _ eL2, ?_⟩
    exact k _ ((off2.same Si).back hw)
end
end K04

set_option Elab.async false
set_option linter.all false
set_option maxRecDepth 100000
set_option maxHeartbeats 4000000
open L2 in
local macro_rules | `(tactic| walk_at "q1") => `(tactic| first
  | refine ⟨_, rfl, ?_⟩
  | refine ⟨_, _, rfl, rfl, ?_⟩
  | refine And.intro (show CMul _ _ from Or.inr ⟨by decide, by decide⟩) ?_
  | refine And.intro (show CMul _ _ from Or.inl ⟨by first | decide | omega, by first | decide | omega⟩) ?_
  | refine And.intro (show CMul _ _ from Or.inr ⟨by omega, by omega⟩) ?_
  | refine And.intro (show CDiv _ _ from ⟨by omega, by omega⟩) ?_
  | refine And.intro (show Dt.CPowG _ _ from ⟨by decide, by decide +kernel⟩) ?_
  | refine And.intro (by first | decide | omega) ?_
  | refine And.intro (Int.pow_pos (Int.pow_pos (by decide))) ?_
  | refine ⟨_, _, _, _, rfl, rfl, SqL.of (by first | assumption | exact upd_same), (by rfl), ?_⟩
  | refine ⟨_, _, _, _, rfl, rfl, (by first | assumption | exact upd_same), (by rfl), ?_⟩
  | refine Or.inl ⟨_, rfl, ?_⟩
  | refine Or.inr ⟨_, rfl, ?_⟩)
local macro_rules | `(tactic| walk_at "q") => `(tactic| repeat (walk_at "q1"))
local macro_rules | `(tactic| walk_at "eqt") => `(tactic| (refine ⟨_, rfl, ?_⟩; refine ⟨rfl, ?_⟩; first
  | (refine ⟨true, rfl, ?_⟩; refine L2.iteT ?_)
  | (refine ⟨false, rfl, ?_⟩; refine L2.iteF ?_)))
local macro_rules | `(tactic| walk_at "sz") => `(tactic| (rw [PySem.sizeLine_eq]; simp))
namespace K04
open PySem PySem.Spec PyProof.Rows L2 Dt An Rp Sp4
section
variable {P : Program} {w : World} {K : PySem.W.Frag} {mg : Str → Option Value} {base : Heap} {a : Ads}
def spRows (C : Addr) : Sp := fun vs H Q _ => ∃ (d x p : Addr) (S S1 : Sch) (et ek ew dt dk dw : Addr), vs = [.ref d, .ref x, .ref p] ∧ Die H d ∧ SchO C H x S1 et ek ew ∧ PlainO H p S dt dk dw ∧ SortOf S S1 ∧ Apart x et ek ew p dt dk dw ∧ ∀ H', Rolled d H H' → Q (.bl true) H'
theorem SchO.roll {C d : Addr} {H H1 : Hp} {x : Addr} {S : Sch} {et ek ew : Addr} (D : Die H d) (r : Rolled d H H1) (h : SchO C H x S et ek ew) : SchO C H1 x S et ek ew := by
  have ts := TS.roll D r
  obtain ⟨u1, u2, u3, q⟩ := D
  have ne : ∀ {b : Addr} {o : HO}, H b = some o → (∀ xs, o ≠ .lst xs) → H1 b = some o := fun {b o} e n => r.keep _ _ (fun z => by rw [z, q] at e; exact n _ (Option.some.inj e).symm) e
  exact ⟨let ⟨dx, p1, p2, e⟩ := h.at_; ⟨dx, p1, p2, ne e fun _ z => by cases z⟩,
    ⟨let ⟨k, a, b⟩ := h.data.tabs; ⟨k, ne a (fun _ z => by cases z), ent_off (fun _ _ e => ColT.ts ts e) b⟩, let ⟨k, a, b⟩ := h.data.keys; ⟨k, ne a (fun _ z => by cases z), ent_off (fun _ _ e => KeyT.ts ts e) b⟩, let ⟨k, a, b⟩ := h.data.ways; ⟨k, ne a (fun _ z => by cases z), ent_off (fun _ _ e => WayT.ts ts e) b⟩⟩, h.ok⟩
theorem dk_ne {d b : Addr} {H : Hp} {ks : List (Key × V)} (D : Die H d) (e : H b = some (.dK ks)) : b ≠ d := fun z => by
  obtain ⟨u1, u2, u3, q⟩ := D
  rw [z, q] at e
  cases e
theorem cut_m1 (xs : List V) : cutV xs none (some (-1)) = xs.take (xs.length - 1) := by
  unfold cutV
  rw [HT.sIx_none, Nat.sub_zero, List.drop_zero]
  have e : HT.sIx xs.length xs.length (some (-1)) = xs.length - 1 := by
    show (if (-1 : Int) < 0 then ((-1 : Int) + (xs.length : Int)).toNat else min (-1 : Int).toNat xs.length) = _
    rw [if_pos (by decide)]
    omega
  rw [e]
/-- no row of n integers -/
def NoRow (K : PySem.W.Frag) (n : Nat) (H : Hp) (v : V) : Prop := ∃ d, Dq K H v d ∧ (areIntsD d && decide (lenD d = n)) = false
theorem norow_len {K : PySem.W.Frag} {n : Nat} {H : Hp} {q : Addr} {rs : List Int} (h : SqT K H q (rs.map V.int)) (ne : rs.length ≠ n) : NoRow K n H (.ref q) :=
  ⟨.tuple (rs.map PyData.int), .tup h (Ts.intsQ rs), by
    rw [show lenD (.tuple (rs.map PyData.int)) = rs.length from List.length_map .., decide_eq_false ne, Bool.and_false]⟩
theorem ok_rows_right (T : Txt K mg a) : FnOk P w K mg base CX0 5 a.rows_right a.fd_rows_right ps__law_rows_right (spRows a.c_Schema) := by
  have F := T.F_rows_right
  refine F.ok (k := 4) sc__law_rows_right (fun vs H Q E h => ?_) (fun cdv A outer s H vs Q E hr h => ?_)
  · obtain ⟨d, x, p, S, S1, et, ek, ew, dt, dk, dw, rfl, hD, hS, hp, srt, ap, k⟩ := h
    rfl
  · obtain ⟨d, x, p, S, S1, et, ek, ew, dt, dk, dw, rfl, hD, hS, hp, srt, ap, k⟩ := h
    have hu := hu_of hr
    refine ⟨_, (pss_cons (ps_lock (ps_for PassesOwn.never rfl (pi_keys (pe_dget hu (pv 2) pe_str (fun _ _ => rfl))) (pg_name (i := 3) sc__law_rows_right.nd rfl (Or.inr rfl)) (pss_cons (ps_set (i := 4) sc__law_rows_right.nd rfl (Or.inl rfl) (pe_callB call_len (by rfl) T.len (by decide +kernel) (pa_cons (pe_dget hu (pe_dget hu (pv 2) pe_str (fun _ _ => rfl)) (pv 3) (fun _ _ => rfl)) pa_nil)))
      (pss_cons (ps_set (i := 5) sc__law_rows_right.nd rfl (Or.inl rfl) (pe_callTy call_tuple_of (by rfl) T.tuple (by decide +kernel) (pa_cons (pe_lc (own := [("_law_at", 6)]) rfl sc__law_rows_right.nd (pi_range1 (by rfl) T.range (pa_cons (pv 4) pa_nil)) (blkOk_by (N := nm__law_rows_right) (sc := defScope s__law_rows_right) (by decide +kernel)) (fun _ _ _ _ _ => (pg_name (i := 6) sc__law_rows_right.nd rfl (Or.inl rfl))) (fun _ _ _ _ _ => pts_nil) (fun _ _ _ _ _ => (pe_call (ok_pick T) (hr.mono (by decide)) (by rfl) T.g_pick T.F_pick.kp (b_pick T) .nil pass0 (pa_cons (pv 0) (pa_cons (pe_lst (pa_cons pe_int (pa_cons (pe_un un_neg pe_int) (pa_cons pe_int (pa_cons (pe_op op_sub (pe_op op_powG pe_int pe_int) pe_int) (pa_cons (pe_op op_sub pe_int (pe_op op_powG pe_int pe_int)) pa_nil)))))) pa_nil))))) pa_nil)))
      (pss_cons (ps_par (i := 6) (j := 7) rfl sc__law_rows_right.nd rfl rfl (by decide) rfl rfl (pa_cons (pe_call (ok_roll T) (hr.mono (by decide)) (by rfl) T.g_roll T.F_roll.kp (b_roll T) .nil pass0 (pa_cons (pv 0) (pa_cons (pv 4) pa_nil))) (pa_cons (pe_call (ok_pick T) (hr.mono (by decide)) (by rfl) T.g_pick T.F_pick.kp (b_pick T) .nil pass0 (pa_cons (pv 0) (pa_cons (pe_lst (pa_cons pe_bl (pa_cons pe_non (pa_cons pe_str (pa_cons (pe_op op_powG pe_int pe_int) (pa_cons (pe_un un_neg (pe_op op_powG pe_int pe_int)) (pa_cons (pe_tup (pa_cons pe_int pa_nil)) (pa_cons (pe_lst pa_nil) (pa_cons pe_bl pa_nil))))))))) pa_nil))) pa_nil)) (by rfl))
      (pss_cons (ps_set (i := 8) sc__law_rows_right.nd rfl (Or.inl rfl) (pe_lst (pa_cons (pe_slice Ts.sl_tupS (pv 5) po_none (po_some (pe_un un_neg pe_int))) (pa_cons (pe_op Ts.op_catS (pv 5) (pe_tup (pa_cons pe_int pa_nil))) (pa_cons (pe_op Ts.op_catS (pv 5) (pe_tup (pa_cons pe_int (pa_cons pe_int pa_nil)))) (pa_cons (pe_callTy call_list_of (by rfl) T.list (by decide +kernel) (pa_cons (pv 5) pa_nil)) (pa_cons (pe_op Ts.op_catS (pe_op Ts.op_catS (pe_slice Ts.sl_tupS (pv 5) po_none (po_some (pv 6))) (pe_tup (pa_cons (pv 7) pa_nil))) (pe_slice Ts.sl_tupS (pv 5) (po_some (pe_op op_add (pv 6) pe_int)) po_none)) pa_nil)))))))
      (pss_cons (ps_expr (pe_bm PySem.F.plainAttrs_list PySem.F.slot_list_extend PySem.F.type_list_extend mt_extend (pv 8) (pa_cons (pe_lst (pa_cons (pe_tup (pa_cons (pv 5) pa_nil)) (pa_cons pe_non (pa_cons pe_int (pa_cons pe_str (pa_cons (pe_tup pa_nil) pa_nil)))))) pa_nil)))
      (pss_one (ps_if (PW.pt (pw_or (pt_cmpR Isb.op_isNotB (pe_meth (pv 1) T.cl_Schema T.m_is_row_of (ok_Schema_is_row_of T) (hr.mono (by decide)) (b_Schema_is_row_of T) .nil never (pa_cons (pv 3) (pa_cons (pv 5) pa_nil))) pe_bl (nomark _)) (pw_or1 (pt_cmpR (op_neD hr.units) (pe_lc (own := [("_law_one", 9)]) rfl sc__law_rows_right.nd (pi_list (pv 8)) (blkOk_by (N := nm__law_rows_right) (sc := defScope s__law_rows_right) (by decide +kernel)) (fun _ _ _ _ _ => (pg_name (i := 9) sc__law_rows_right.nd rfl (Or.inl rfl))) (fun _ _ _ _ _ => (pts_one (pt_val (pe_meth (pv 1) T.cl_Schema T.m_is_row_of (ok_Schema_is_row_of T) (hr.mono (by decide)) (b_Schema_is_row_of T) .nil never (pa_cons (pv 3) (pa_cons (pv 9) pa_nil)))))) (fun _ _ _ _ _ => (pv 9))) (pe_lst pa_nil) (nomark _))))) (pss_one (ps_ret pe_bl)) pss_nil)))))))))
      (pss_one (ps_ret pe_bl))), ?_⟩
    have nd_t : dt ≠ d := by
      obtain ⟨kt, ht, pT⟩ := hp.data.tabs
      exact dk_ne hD ht
    have npd : p ≠ d := dk_ne hD hp.at_
    obtain ⟨kt, ht, pT⟩ := hp.data.tabs
    refine ⟨dt, .dK kt, ht, trivial, fun od => ?_⟩
    have offL : Off dt H (upd H dt (.frz od (.dK kt))) := Off.lock
    have eL : upd H dt (.frz od (.dK kt)) dt = some (.frz od (.dK kt)) := upd_same
    have DL : Die (upd H dt (.frz od (.dK kt))) d := by
      obtain ⟨u1, u2, u3, q⟩ := hD
      exact ⟨u1, u2, u3, by rw [upd_ne (Ne.symm nd_t)]; exact q⟩
    generalize upd H dt (.frz od (.dK kt)) = HL at offL eL DL ⊢
    have hSL : SchO a.c_Schema HL x S1 et ek ew := hS.off offL ht ap.t.2.1 ap.t.2.2.1 ap.t.2.2.2
    have pTL := ent_off (fun _ _ e => ColT.off offL ht e) pT
    have hpL := offL _ _ hp.pt hp.at_
    refine ⟨_, rfl, p, .ref dt, rfl, .inl ⟨_, .inr "tables", .inl hpL, rfl, rfl⟩, dt, od, rfl, .inl ⟨kt, eL, ?_⟩⟩
    refine for_it (walk_keys (o := od) (d := dt) (kvs := kt)) (fun i σ Hi => ∃ x3 x4 x5 x6 x7 x8 x9, σ = [some (.ref d), some (.ref x), some (.ref p), x3, x4, x5, x6, x7, x8, x9] ∧ Rolled d HL Hi) ⟨none, none, none, none, none, none, none, rfl, Rolled.refl DL⟩ (fun i σ Hi hi q => by
      obtain ⟨_, _, _, _, _, _, _, _, q⟩ := q
      exact q.keep _ _ nd_t eL) ?_ ?_
    · rintro i y σ Hi Hi2 hi ⟨x3, x4, x5, x6, x7, x8, x9, rfl, R⟩ ⟨rfl, kx, v2, hkx, rfl⟩
      obtain ⟨e, he, e1, ct, ev, hct⟩ := paired_at pTL hkx
      have e1 : kx = .inr e.1 := e1
      have ev : v2 = .ref ct := ev
      subst e1 ev
      have em := List.mem_of_getElem? he
      have eV := (valV_at (nd_ent pTL hp.ok.tabs.nd) hkx).symm
      have tsi := TS.roll DL R
      have oc := hp.ok.tabs.cols _ em
      refine ⟨_, rfl, p, .ref dt, rfl, .inl ⟨_, .inr "tables", .inl (R.keep _ _ npd hpL), rfl, rfl⟩, _, rfl, dt, .ref ct, rfl, .inl ⟨kt, .inr e.1, .inr ⟨od, R.keep _ _ nd_t eL⟩, rfl, eV⟩, ?_⟩
      refine ⟨_, _, rfl, .inr ⟨_, SqT.of (tsi _ _ hct), rfl⟩, ?_⟩
      rw [List.length_map]
      obtain ⟨m, hm⟩ : ∃ m, e.2.length = m := ⟨_, rfl⟩
      have m1 : 1 ≤ m := hm ▸ oc.2.1
      have m4 : m ≤ 4 := hm ▸ oc.2.2.1
      rw [hm]
      refine ⟨_, rfl, (m : Int), rfl, by omega, by omega, fun D hD0 => ?_⟩
      rw [Int.toNat_natCast]
      have nDd : D ≠ d := R.die.ne hD0
      refine lc_range (lo := 0) (n := m) (fun j Hq => ∃ rs : List Int, rs.length = j ∧ (∀ r ∈ rs, isIntD (.int r) = true) ∧ Hq D = some (.lst (rs.map V.int)) ∧ Rolled d Hi2 Hq) ⟨[], rfl, (fun _ m => by cases m), upd_same, (Rolled.refl R.die).new hD0⟩ ?_ ?_
      · rintro j Hq hq ⟨rs, lr, okr, eD, Rq⟩
        refine ⟨rfl, ?_⟩
        dsimp only [tYes]
        rw [if_pos rfl]
        refine ⟨_, rfl, 1, rfl, 10, 60, rfl, rfl, (show Dt.CPowG _ _ from ⟨by decide, by decide +kernel⟩), _, _, rfl, rfl, 10, 60, rfl, rfl, (show Dt.CPowG _ _ from ⟨by decide, by decide +kernel⟩), _, _, rfl, rfl, by show 5 ≤ sizeLine; decide, fun l0 nl0 => ?_⟩
        generalize EH5 : upd Hq l0 _ = H5
        have hl0 := (congrFun EH5 l0).symm.trans upd_same
        have S5 : Same Hq H5 := by rw [← EH5]; exact sameNew nl0
        refine ⟨d, .ref l0, _, rfl, die_same Rq.die S5, ⟨Rq.die.ne nl0, .inl (SqL.of hl0)⟩, by simp, by simp, fun v H6 hv R6 => ?_⟩
        obtain ⟨r, rfl, okr1⟩ : ∃ r : Int, v = .int r ∧ isIntD (.int r) = true := by
          simp only [List.mem_cons, List.mem_nil_iff, or_false] at hv
          rcases hv with h | h | h | h | h <;> exact ⟨_, h, by decide +kernel⟩
        refine ⟨_, R6.keep _ _ nDd (S5 _ _ eD), by rw [List.length_map, sizeLine_eq]; omega, rs ++ [r], by rw [List.length_append, lr]; rfl, fun y my => ?_, by rw [upd_same, List.map_append]; rfl, ((roll_same Rq S5).trans R6).mut hD0 nDd⟩
        rcases List.mem_append.mp my with my | my
        · exact okr y my
        · rw [List.mem_singleton.mp my]
          exact okr1
      rintro Hq ⟨rs, lr, okr, eD, Rq⟩
      refine ⟨D, _, rfl, .inl ⟨SqL.of eD, fun l nl => ?_⟩⟩
      generalize EH5 : upd Hq l _ = H5
      have hl := (congrFun EH5 l).symm.trans upd_same
      have S5 : Same Hq H5 := by rw [← EH5]; exact sameNew nl
      have R5 := roll_same Rq S5
      refine ⟨_, rfl, _, rfl, d, (m : Int), rfl, R5.die, by omega, by omega, fun q H6 q0 q1 R6 => ?_⟩
      obtain ⟨at_, rfl⟩ := Int.eq_ofNat_of_zero_le q0
      have hl6 := R6.keep _ _ (Rq.die.ne nl) hl
      refine ⟨_, rfl, 10, 60, rfl, rfl, (show Dt.CPowG _ _ from ⟨by decide, by decide +kernel⟩), 10, 60, rfl, rfl, (show Dt.CPowG _ _ from ⟨by decide, by decide +kernel⟩), _, rfl, by show 1 ≤ sizeLine; decide, fun t1 nt1 => ?_⟩
      generalize EH7 : upd H6 t1 _ = H7
      have ht1 := (congrFun EH7 t1).symm.trans upd_same
      have S7 : Same H6 H7 := by rw [← EH7]; exact sameNew nt1
      refine ⟨by show 0 ≤ sizeLine; decide, fun t2 nt2 => ?_⟩
      generalize EH8 : upd H7 t2 _ = H8
      have ht2 := (congrFun EH8 t2).symm.trans upd_same
      have S8 : Same H7 H8 := by rw [← EH8]; exact sameNew nt2
      refine ⟨by show 8 ≤ sizeLine; decide, fun l1 nl1 => ?_⟩
      generalize EH9 : upd H8 l1 _ = H9
      have hl1 := (congrFun EH9 l1).symm.trans upd_same
      have S9 : Same H8 H9 := by rw [← EH9]; exact sameNew nl1
      have S69 := (S7.trans S8).trans S9
      have R69 := roll_same R6 S69
      refine ⟨d, .ref l1, _, rfl, R69.die, ⟨(roll_same R6 (S7.trans S8)).die.ne nl1, .inl (SqL.of hl1)⟩, by simp, by simp, fun v HA hv RA => ?_⟩
      have RA6 := R69.trans RA
      have nt1d : t1 ≠ d := R6.die.ne nt1
      have nt2d : t2 ≠ d := (roll_same R6 S7).die.ne nt2
      have htA1 := RA.keep _ _ nt1d (S9 _ _ (S8 _ _ ht1))
      have htA2 := RA.keep _ _ nt2d (S9 _ _ ht2)
      have hlA := RA.keep _ _ (Rq.die.ne nl) (S69 _ _ hl6)
      obtain ⟨oD, bad, hodd⟩ : ∃ o : PyData, isIntD o = false ∧ ∀ HF, Same HA HF → Dq K HF v o := by
        simp only [List.mem_cons, List.mem_nil_iff, or_false] at hv
        rcases hv with h | h | h | h | h | h | h | h
        · rw [h]; exact ⟨.bool true, rfl, fun _ _ => .bl true⟩
        · rw [h]; exact ⟨.none, rfl, fun _ _ => .non⟩
        · rw [h]; exact ⟨.str _, rfl, fun _ _ => .str _⟩
        · rw [h]; exact ⟨.int _, by decide +kernel, fun _ _ => .int _⟩
        · rw [h]; exact ⟨.int _, by decide +kernel, fun _ _ => .int _⟩
        · rw [h]; exact ⟨.tuple [.int 1], rfl, fun HF sF => .tup (SqT.of (sF _ _ htA1)) (.cons (.int 1) .nil)⟩
        · rw [h]; exact ⟨.list [], rfl, fun HF sF => .lst (SqL.of (sF _ _ htA2)) .nil⟩
        · rw [h]; exact ⟨.bool false, rfl, fun _ _ => .bl false⟩
      refine ⟨_, _, rfl, ?_⟩
      refine ⟨_, rfl, 1, rfl, _, rfl, l, _, rfl, SqT.of hlA, fun a1 HB SB ha1 => ?_⟩
      refine ⟨_, rfl, by show 1 ≤ sizeLine; decide, fun u1 nu1 => ?_⟩
      generalize EHC : upd HB u1 _ = HC
      have hu1 := (congrFun EHC u1).symm.trans upd_same
      have SC : Same HB HC := by rw [← EHC]; exact sameNew nu1
      have hlC := SC _ _ (SB _ _ hlA)
      refine ⟨l, u1, _, [.int 1], rfl, rfl, SqT.of hlC, SqT.of hu1, by rw [List.length_map, lr, sizeLine_eq]; show m + 1 ≤ _; omega, fun a2 HE SE ha2 => ?_⟩
      refine ⟨_, rfl, by show 2 ≤ sizeLine; decide, fun u2 nu2 => ?_⟩
      generalize EHF : upd HE u2 _ = HF
      have hu2 := (congrFun EHF u2).symm.trans upd_same
      have SF : Same HE HF := by rw [← EHF]; exact sameNew nu2
      have hlF := SF _ _ (SE _ _ hlC)
      refine ⟨l, u2, _, [.int 1, .int 2], rfl, rfl, SqT.of hlF, SqT.of hu2, by rw [List.length_map, lr, sizeLine_eq]; show m + 2 ≤ _; omega, fun a3 HG SG ha3 => ?_⟩
      have hlG := SG _ _ hlF
      refine ⟨_, rfl, l, _, rfl, .inr (SqT.of hlG), fun a4 na4 => ?_⟩
      generalize EHI : upd HG a4 _ = HI
      have ha4 := (congrFun EHI a4).symm.trans upd_same
      have SI : Same HG HI := by rw [← EHI]; exact sameNew na4
      have hlI := SI _ _ hlG
      refine ⟨_, rfl, _, rfl, _, rfl, l, _, rfl, SqT.of hlI, fun b1 HJ SJ hb1 => ?_⟩
      rw [Ts.cut_to, ← List.map_take] at hb1
      refine ⟨_, rfl, by show 1 ≤ sizeLine; decide, fun u3 nu3 => ?_⟩
      generalize EH20 : upd HJ u3 _ = H20
      have hu3 := (congrFun EH20 u3).symm.trans upd_same
      have S20 : Same HJ H20 := by rw [← EH20]; exact sameNew nu3
      refine ⟨b1, u3, _, [v], rfl, rfl, sqt_same S20 hb1, SqT.of hu3, by rw [List.length_map, List.length_take, sizeLine_eq]; show _ + 1 ≤ _; omega, fun b2 H21 S21 hb2 => ?_⟩
      have hl21 := S21 _ _ (S20 _ _ (SJ _ _ hlI))
      refine ⟨_, rfl, _, rfl, (at_ : Int), 1, rfl, rfl, _, rfl, l, _, rfl, SqT.of hl21, fun b3 H22 S22 hb3 => ?_⟩
      rw [show ((at_ : Int) + 1) = ((at_ + 1 : Nat) : Int) from by omega, Ts.cut_from, ← List.map_drop] at hb3
      refine ⟨b2, b3, _, _, rfl, rfl, sqt_same S22 hb2, hb3, by rw [List.length_append, List.length_map, List.length_map, List.length_take, List.length_drop, sizeLine_eq]; show _ + 1 + _ ≤ _; omega, fun a5 H23 S23 ha5 => ?_⟩
      refine ⟨by show 5 ≤ sizeLine; decide, fun nr nnr => ?_⟩
      generalize EH24 : upd H23 nr _ = H24
      have hnr := (congrFun EH24 nr).symm.trans upd_same
      have S24 : Same H23 H24 := by rw [← EH24]; exact sameNew nnr
      refine ⟨_, rfl, .inl ⟨rfl, _, SqL.of hnr⟩, ?_⟩
      refine ⟨_, rfl, by show 1 ≤ sizeLine; decide, fun w1 nw1 => ?_⟩
      generalize EH25 : upd H24 w1 _ = H25
      have hw1 := (congrFun EH25 w1).symm.trans upd_same
      have S25 : Same H24 H25 := by rw [← EH25]; exact sameNew nw1
      refine ⟨by show 0 ≤ sizeLine; decide, fun w2 nw2 => ?_⟩
      generalize EH26 : upd H25 w2 _ = H26
      have hw2 := (congrFun EH26 w2).symm.trans upd_same
      have S26 : Same H25 H26 := by rw [← EH26]; exact sameNew nw2
      refine ⟨by show 5 ≤ sizeLine; decide, fun w3 nw3 => ?_⟩
      generalize EH27 : upd H26 w3 _ = H27
      have hw3 := (congrFun EH27 w3).symm.trans upd_same
      have S27 : Same H26 H27 := by rw [← EH27]; exact sameNew nw3
      have S2427 := (S25.trans S26).trans S27
      have hnr27 := S2427 _ _ hnr
      refine ⟨nr, w3, _, _, rfl, rfl, hnr27, hw3, by show 5 + 5 ≤ sizeLine; decide, ?_⟩
      have offN : Off nr H27 (upd H27 nr (.lst ([V.ref a1, V.ref a2, V.ref a3, V.ref a4, V.ref a5] ++ [V.ref w1, V.non, V.int 0, V.str (Str.ofString "a"), V.ref w2]))) := Off.lock
      have hN : upd H27 nr (.lst ([V.ref a1, V.ref a2, V.ref a3, V.ref a4, V.ref a5] ++ [V.ref w1, V.non, V.int 0, V.str (Str.ofString "a"), V.ref w2])) nr = some (.lst [V.ref a1, V.ref a2, V.ref a3, V.ref a4, V.ref a5, V.ref w1, V.non, V.int 0, V.str (Str.ofString "a"), V.ref w2]) := upd_same
      generalize upd H27 nr (.lst ([V.ref a1, V.ref a2, V.ref a3, V.ref a4, V.ref a5] ++ [V.ref w1, V.non, V.int 0, V.str (Str.ofString "a"), V.ref w2])) = HN at offN hN ⊢
      -- all of what came before stays, the list apart
      have SA24 : Same HA H23 := SB.trans (SC.trans (SE.trans (SF.trans (SG.trans (SI.trans (SJ.trans (S20.trans (S21.trans (S22.trans S23)))))))))
      have keepN : Same HA HN := fun b o z => offN _ _ (fun w => by rw [← w, SA24 _ _ z] at nnr; cases nnr) (S2427 _ _ (S24 _ _ (SA24 _ _ z)))
      have tup24 : ∀ {b : Addr} {xs : List V}, SqT K H23 b xs → SqT K HN b xs := fun {b xs} h => by
        rcases h with (z | ⟨o, z⟩) | z
        · exact .inl (.inl (offN _ _ (fun w => by rw [← w, z] at nnr; cases nnr) (S2427 _ _ (S24 _ _ z))))
        · exact .inl (.inr ⟨o, offN _ _ (fun w => by rw [← w, z] at nnr; cases nnr) (S2427 _ _ (S24 _ _ z))⟩)
        · exact .inr z
      have RN : Rolled d HL HN := by
        have RA2 : Rolled d HL HA := ((R.trans R5).trans RA6)
        have ndn : nr ≠ d := (roll_same RA2 SA24).die.ne nnr
        obtain ⟨z1, z2, z3, z4⟩ := RA2.die
        exact ⟨⟨z1, z2, z3, keepN _ _ z4⟩, fun b o nb z => keepN _ _ (RA2.keep _ _ nb z)⟩
      have hSN := hSL.roll DL RN
      have hlN := keepN _ _ hlA
      obtain ⟨dx, p1, p2, hx⟩ := hSN.at_
      have mT : (e.1, e.2) ∈ S1.T := srt.t.mem_iff.mpr em
      have all1 : ∀ L : List Int, (∀ r ∈ L, isIntD (.int r) = true) → areIntsD (.tuple (L.map PyData.int)) = true := fun L h => List.all_eq_true.mpr fun z hz => by
        obtain ⟨r, hr, rfl⟩ := List.mem_map.mp hz
        exact h r hr
      refine ⟨_, rfl, x, dx, _, rfl, hx, rfl, ?_⟩
      refine ⟨_, rfl, _, rfl, x, S1, et, ek, ew, e.1, .ref l, .tuple (rs.map PyData.int), e.2, rfl, hSN, mT, .inl (.tup (SqT.of hlN) (Ts.intsQ rs)), ?_⟩
      refine ⟨_, _, rfl, rfl, ?_⟩
      rw [all1 rs okr, show lenD (.tuple (rs.map PyData.int)) = e.2.length from by show (rs.map PyData.int).length = _; rw [List.length_map, lr, hm], decide_eq_true rfl]
      refine ⟨_, rfl, ?_⟩
      refine iteF ?_
      refine ⟨_, rfl, ?_⟩
      have keep23 : Same H23 HN := fun b o z => offN _ _ (fun w => by rw [← w, z] at nnr; cases nnr) (S2427 _ _ (S24 _ _ z))
      have k22 := S23.trans keep23
      have k21 := S22.trans k22
      have k20 := S21.trans k21
      have kJ := S20.trans k20
      have kI := SJ.trans kJ
      have kG := SI.trans kI
      have kF := SG.trans kG
      have kE := SF.trans kF
      have kC := SE.trans kE
      have kB := SC.trans kC
      have nw1n : w1 ≠ nr := fun z => by rw [z, hnr] at nw1; cases nw1
      have nw2n : w2 ≠ nr := fun z => by rw [z, S25 _ _ hnr] at nw2; cases nw2
      have hw1N := offN _ _ nw1n (S27 _ _ (S26 _ _ hw1))
      have hw2N := offN _ _ nw2n (S27 _ _ hw2)
      have hall : ∀ y ∈ [V.ref a1, V.ref a2, V.ref a3, V.ref a4, V.ref a5, V.ref w1, V.non, V.int 0, V.str (Str.ofString "a"), V.ref w2], ∀ Hi, Same HN Hi → NoRow K e.2.length Hi y := by
        intro y hy Hi Sm
        simp only [List.mem_cons, List.mem_nil_iff, or_false] at hy
        rcases hy with h | h | h | h | h | h | h | h | h | h
        · rw [h]
          refine norow_len (rs := rs.take (m - 1)) (sqt_same (kB.trans Sm) ?_) (by rw [List.length_take]; omega)
          have q := ha1
          have q2 : SqT K HB a1 (cutV (rs.map V.int) none (some (-1))) := q
          rw [cut_m1, List.length_map, lr, ← List.map_take] at q2
          exact q2
        · rw [h]
          exact norow_len (rs := rs ++ [1]) (by rw [List.map_append]; exact sqt_same (kE.trans Sm) ha2) (by rw [List.length_append, lr]; show m + 1 ≠ _; omega)
        · rw [h]
          exact norow_len (rs := rs ++ [1, 2]) (by rw [List.map_append]; exact sqt_same (kG.trans Sm) ha3) (by rw [List.length_append, lr]; show m + 2 ≠ _; omega)
        · rw [h]
          exact ⟨.list (rs.map PyData.int), .lst (SqL.of (Sm _ _ (kI _ _ ha4))) (Ts.intsQ rs), rfl⟩
        · rw [h]
          refine ⟨.tuple (((rs.take at_).map PyData.int ++ [oD]) ++ (rs.drop (at_ + 1)).map PyData.int), .tup (sqt_same (keep23.trans Sm) ha5) (Ts.dqs_app (Ts.dqs_app (Ts.intsQ _) (.cons (hodd _ (keepN.trans Sm)) .nil)) (Ts.intsQ _)), ?_⟩
          rw [show areIntsD (.tuple (((rs.take at_).map PyData.int ++ [oD]) ++ (rs.drop (at_ + 1)).map PyData.int)) = false from ?_, Bool.false_and]
          refine all_at (f := isIntD) (i := ((rs.take at_).map PyData.int).length) (y := oD) ?_ bad
          rw [List.append_assoc, List.getElem?_append_right (Nat.le_refl _), Nat.sub_self]
          rfl
        · rw [h]
          exact ⟨.tuple [.tuple (rs.map PyData.int)], .tup (SqT.of (Sm _ _ hw1N)) (.cons (.tup (SqT.of (Sm _ _ hlN)) (Ts.intsQ rs)) .nil), rfl⟩
        · rw [h]
          exact ⟨.none, .non, rfl⟩
        · rw [h]
          exact ⟨.int 0, .int 0, rfl⟩
        · rw [h]
          exact ⟨.str _, .str _, rfl⟩
        · rw [h]
          exact norow_len (rs := []) (SqT.of (Sm _ _ hw2N)) (by show 0 ≠ _; omega)
      refine ⟨nr, rfl, ⟨_, SqL.of hN⟩, fun D2 hD2 => ?_⟩
      refine lc_it (walk_list (K := K) (a := nr) (xs := [V.ref a1, V.ref a2, V.ref a3, V.ref a4, V.ref a5, V.ref w1, V.non, V.int 0, V.str (Str.ofString "a"), V.ref w2])) (fun i Hi => Same HN Hi ∧ Hi D2 = some (.lst [])) ⟨sameNew hD2, upd_same⟩ ?_ ?_ ?_
      · rintro i Hi hi ⟨Sm, _⟩
        exact SqL.of (Sm _ _ hN)
      · rintro i y Hi Hi2 hi ⟨Sm, eD2⟩ ⟨rfl, hy⟩
        obtain ⟨dz, hz1, hz2⟩ := hall y (List.mem_of_getElem? hy) _ Sm
        refine ⟨rfl, ?_⟩
        refine ⟨_, rfl, x, dx, _, rfl, Sm _ _ hx, rfl, ?_⟩
        refine ⟨_, rfl, _, rfl, x, S1, et, ek, ew, e.1, y, dz, e.2, rfl, hSN.same Sm, mT, .inl hz1, ?_⟩
        rw [hz2]
        refine ⟨_, rfl, ?_⟩
        exact iteF ⟨Sm, eD2⟩
      rintro HZ ⟨SZ, eD2⟩
      refine ⟨by show 0 ≤ sizeLine; decide, fun z1 nz1 => ?_⟩
      generalize EHY : upd HZ z1 _ = HY
      have hz1 := (congrFun EHY z1).symm.trans upd_same
      have SY : Same HZ HY := by rw [← EHY]; exact sameNew nz1
      refine ⟨.list [], .list [], .lst (SqL.of (SY _ _ eD2)) .nil, .lst (SqL.of hz1) .nil, (by decide +kernel), (by decide +kernel), ?_⟩
      refine ⟨_, rfl, ?_⟩
      refine ite_f (by decide +kernel) ?_
      exact ⟨_, _, _, _, _, _, _, rfl, roll_same RN (SZ.trans SY)⟩
    rintro σ Hi ⟨x3, x4, x5, x6, x7, x8, x9, rfl, R⟩
    refine ⟨R.keep _ _ nd_t eL, ?_⟩
    refine k _ ⟨?_, fun b o nb z => ?_⟩
    · obtain ⟨u1, u2, u3, q⟩ := R.die
      exact ⟨u1, u2, u3, by rw [upd_ne (Ne.symm nd_t)]; exact q⟩
    · by_cases c : b = dt
      · rw [c] at z ⊢
        rw [ht] at z
        cases z
        exact upd_same
      · rw [upd_ne c]
        exact R.keep _ _ nb (offL _ _ c z)
end
end K04

set_option Elab.async false
set_option linter.all false
set_option maxRecDepth 100000
set_option maxHeartbeats 4000000
open L2 in
local macro_rules | `(tactic| walk_at "q1") => `(tactic| first
  | refine ⟨_, rfl, ?_⟩
  | refine ⟨_, _, rfl, rfl, ?_⟩
  | refine And.intro (show CMul _ _ from Or.inr ⟨by decide, by decide⟩) ?_
  | refine And.intro (show CMul _ _ from Or.inl ⟨by first | decide | omega, by first | decide | omega⟩) ?_
  | refine And.intro (show CMul _ _ from Or.inr ⟨by omega, by omega⟩) ?_
  | refine And.intro (show CDiv _ _ from ⟨by omega, by omega⟩) ?_
  | refine And.intro (show Dt.CPowG _ _ from ⟨by decide, by decide +kernel⟩) ?_
  | refine And.intro (by first | decide | omega) ?_
  | refine And.intro (Int.pow_pos (Int.pow_pos (by decide))) ?_
  | refine ⟨_, _, _, _, rfl, rfl, SqL.of (by first | assumption | exact upd_same), (by rfl), ?_⟩
  | refine ⟨_, _, _, _, rfl, rfl, (by first | assumption | exact upd_same), (by rfl), ?_⟩
  | refine Or.inl ⟨_, rfl, ?_⟩
  | refine Or.inr ⟨_, rfl, ?_⟩)
local macro_rules | `(tactic| walk_at "q") => `(tactic| repeat (walk_at "q1"))
local macro_rules | `(tactic| walk_at "eqt") => `(tactic| (refine ⟨_, rfl, ?_⟩; refine ⟨rfl, ?_⟩; first
  | (refine ⟨true, rfl, ?_⟩; refine L2.iteT ?_)
  | (refine ⟨false, rfl, ?_⟩; refine L2.iteF ?_)))
local macro_rules | `(tactic| walk_at "sz") => `(tactic| (rw [PySem.sizeLine_eq]; simp))
namespace K04
open PySem PySem.Spec PyProof.Rows L2 Dt An Rp Sp4
section
variable {P : Program} {w : World} {K : PySem.W.Frag} {mg : Str → Option Value} {base : Heap} {a : Ads}
theorem mkP {γ α β : Type} {P : α → β → Prop} (f : γ → α) (g : γ → β) : ∀ {Z : List γ}, (∀ z ∈ Z, P (f z) (g z)) → Paired P (Z.map f) (Z.map g)
  | [], _ => .nil
  | z :: Z, h => .cons (h z List.mem_cons_self) (mkP f g fun y m => h y (List.mem_cons_of_mem _ m))
theorem zip3 {α : Type} {R : Addr → α → Prop} {P : Addr → Key × V → Prop} : ∀ {ts : List Addr} {kvs : List (Key × V)} {X : List (Str × α)}, Paired P ts kvs → Paired (EntOf R) kvs X → ∃ Z : List (Addr × (Key × V) × (Str × α)), ts = Z.map (·.1) ∧ kvs = Z.map (·.2.1) ∧ X = Z.map (·.2.2) ∧ ∀ z ∈ Z, P z.1 z.2.1 ∧ EntOf R z.2.1 z.2.2
  | _, _, _, .nil, .nil => ⟨[], rfl, rfl, rfl, fun _ m => by cases m⟩
  | _, _, _, .cons (a := t) (b := kv) h1 t1, .cons (b := x) h2 t2 => by
    obtain ⟨Z, e1, e2, e3, h⟩ := zip3 t1 t2
    refine ⟨(t, kv, x) :: Z, by rw [e1]; rfl, by rw [e2]; rfl, by rw [e3]; rfl, fun z m => ?_⟩
    rcases List.mem_cons.mp m with e | m
    · rw [e]
      exact ⟨h1, h2⟩
    · exact h z m
theorem turn_part {α : Type} {R : Addr → α → Prop} {P : Addr → Key × V → Prop} {ts : List Addr} {kvs : List (Key × V)} {X : List (Str × α)} (h1 : Paired P ts kvs) (h2 : Paired (EntOf R) kvs X) {ys : List V} (pm : ys.Perm (ts.map V.ref)) :
    ∃ ps kvs' X', ys = ps.map V.ref ∧ Paired P ps kvs' ∧ Paired (EntOf R) kvs' X' ∧ X'.Perm X := by
  obtain ⟨Z, e1, e2, e3, h⟩ := zip3 h1 h2
  obtain ⟨Z', pz, ez⟩ := Dh.perm_back (f := fun z : Addr × (Key × V) × (Str × α) => V.ref z.1) pm.symm Z (by rw [e1, List.map_map]; rfl)
  exact ⟨Z'.map (·.1), Z'.map (·.2.1), Z'.map (·.2.2), by rw [← ez, List.map_map]; rfl, mkP _ _ fun z m => (h z (pz.mem_iff.mp m)).1, mkP _ _ fun z m => (h z (pz.mem_iff.mp m)).2, by rw [e3]; exact pz.map _⟩
theorem inr_keys {α : Type} {R : Addr → α → Prop} {kvs : List (Key × V)} {X : List (Str × α)} (p : Paired (EntOf R) kvs X) (nd : (X.map (·.1)).Nodup) : (kvs.map (·.1)).Nodup := nd_keys (keys_ent p) nd
theorem mixed_part {K : PySem.W.Frag} {α : Type} {R : Hp → Addr → α → Prop} (mono : ∀ {H H1 : Hp} {b : Addr} {x : α}, TS H H1 → R H b x → R H1 b x) {σ : L2.St} {d p dd : Addr} {es kvs : List (Key × V)} {X : List (Str × α)} {part : Str} {H : Hp} {Q2 : VK}
    (s0 : σ[0]? = some (some (.ref d))) (s2 : σ[2]? = some (some (.ref p))) (s5 : σ[5]? = some (some (.str part))) (D : Die H d) (hp : Rd H p (.dK es)) (ev : valV es (.inr part) = some (.ref dd)) (hd : Rd H dd (.dK kvs)) (pX : Paired (EntOf (R H)) kvs X) (nd : (X.map (·.1)).Nodup) (few : X.length ≤ 5)
    (k : ∀ c H1 kvs' X', Rolled d H H1 → H c = none → H1 c = some (.dK kvs') → Paired (EntOf (R H1)) kvs' X' → X'.Perm X → Q2 (.ref c) H1) :
    tCB (fun xs H_1 Q => ∃ (a_1 : Addr) (ps : List Addr) (kvs : List (Key × V)), xs = [V.ref a_1] ∧ SqL K H_1 a_1 (List.map V.ref ps) ∧ Paired (fun p kv => SqT K H_1 p [kV kv.1, kv.2]) ps kvs ∧ ∀ (p : Addr), H_1 p = none → Q (V.ref p) (upd H_1 p (HO.dK (mergeK [] kvs))))
      (tCons (tCall (spMixed K) [] E0 (tCons (tVar 0) (tCons (Li.tListItemsR (tDGet (tVar 2) (tVar 5))) tNil))) tNil) σ H Q2 := by
  refine ⟨_, s0, _, s2, _, s5, p, .ref dd, rfl, .inl ⟨es, .inr part, hp, rfl, ev.symm⟩, dd, kvs, rfl, hd, fun H1 l ts S1 nl nts nil_ hl pts => ?_⟩
  have lk : kvs.length = X.length := pX.length
  have lt : ts.length = kvs.length := pts.length
  have D1 := die_same D S1
  refine ⟨d, l, _, rfl, D1, .inl (SqL.of hl), by rw [List.length_map]; omega, fun z ys H2 pm R2 nz hz => ?_⟩
  obtain ⟨ps, kvs', X', e1, e2, e3, e4⟩ := turn_part pts (ent_off (fun _ _ e => mono (TS.of S1) e) pX) pm
  subst e1
  have ts2 := TS.roll D1 R2
  refine ⟨z, ps, kvs', rfl, SqL.of hz, Paired.mapP e2 fun _ _ e => SqT.of (ts2 _ _ e), fun c nc => ?_⟩
  have nd' : (kvs'.map (·.1)).Nodup := inr_keys e3 ((e4.map _).nodup_iff.mpr nd)
  rw [merge_self nd']
  have R02 : Rolled d H H2 := (same_roll D S1).trans R2
  exact k c _ kvs' X' (roll_same R02 (sameNew nc)) (R02.free nc) upd_same (ent_off (fun _ _ e => mono (ts2.trans (TS.of (sameNew nc))) e) e3) e4
theorem PlainO.roll {d : Addr} {H H1 : Hp} {p dt dk dw : Addr} {S : Sch} (D : Die H d) (r : Rolled d H H1) (h : PlainO H p S dt dk dw) : PlainO H1 p S dt dk dw := by
  have ts := TS.roll D r
  have ne : ∀ {b : Addr} {ks : List (Key × V)}, H b = some (.dK ks) → H1 b = some (.dK ks) := fun {b ks} e => r.keep _ _ (dk_ne D e) e
  exact ⟨ne h.at_, ⟨let ⟨k, a, b⟩ := h.data.tabs; ⟨k, ne a, ent_off (fun _ _ e => ColT.ts ts e) b⟩, let ⟨k, a, b⟩ := h.data.keys; ⟨k, ne a, ent_off (fun _ _ e => KeyT.ts ts e) b⟩, let ⟨k, a, b⟩ := h.data.ways; ⟨k, ne a, ent_off (fun _ _ e => WayT.ts ts e) b⟩⟩, h.ok, h.kw⟩
theorem PlainO.same {H H1 : Hp} {p dt dk dw : Addr} {S : Sch} (s : Same H H1) (h : PlainO H p S dt dk dw) : PlainO H1 p S dt dk dw := ⟨s _ _ h.at_, h.data.same s, h.ok, h.kw⟩
def ddS (S : Sch) : List (Key × List (Key × PyData)) := [(.inr "tables", colD S.T), (.inr "locks", keyD S.L), (.inr "ways", refD S.W)]
theorem ddd_of {K : PySem.W.Frag} {H : Hp} {p dt dk dw : Addr} {S : Sch} (h : PlainO H p S dt dk dw) : Dq1.DDD K H p (ddS S) [dt, dk, dw] := by
  obtain ⟨kt, ht, pT⟩ := h.data.tabs
  obtain ⟨kk, hk, pL⟩ := h.data.keys
  obtain ⟨kw, hw, pW⟩ := h.data.ways
  exact ⟨⟨_, .inl h.at_, .cons ⟨rfl, dt, rfl, by simp, dd_tabs h.ok (.inl ht) pT⟩ (.cons ⟨rfl, dk, rfl, by simp, dd_keys h.ok (.inl hk) pL⟩ (.cons ⟨rfl, dw, rfl, by simp, dd_ways h.ok (.inl hw) pW⟩ .nil))⟩, by
    show ([Sum.inr "tables", Sum.inr "locks", Sum.inr "ways"] : List Key).Nodup
    decide +kernel⟩
theorem dd_same {S So : Sch} (a : SchOk S) (b : SchOk So) : Dq1.eqBy (Dq1.eqBy PyData.eqv) (ddS S) (ddS So) = true ↔ SameS S So := by
  have e : Dq1.eqBy (Dq1.eqBy PyData.eqv) (ddS S) (ddS So) = (true && (Dq1.eqBy PyData.eqv (colD S.T) (colD So.T) && (Dq1.eqBy PyData.eqv (keyD S.L) (keyD So.L) && (Dq1.eqBy PyData.eqv (refD S.W) (refD So.W) && true)))) := rfl
  rw [e, Bool.true_and, Bool.and_eq_true, Bool.and_eq_true, Bool.and_true, eq_tabs a b, eq_keys a b, eq_refs a b]
  exact ⟨fun ⟨x, y, z⟩ => ⟨x, y, z⟩, fun h => ⟨h.t, h.k, h.w⟩⟩
theorem same_sort {S S1 So S5 : Sch} (o : SortOf S S1) (o5 : SortOf So S5) : SameS S1 S5 ↔ SameS S So :=
  ⟨fun h => ⟨o.t.symm.trans (h.t.trans o5.t), o.k.symm.trans (h.k.trans o5.k), o.w.symm.trans (h.w.trans o5.w)⟩, fun h => ⟨o.t.trans (h.t.trans o5.t.symm), o.k.trans (h.k.trans o5.k.symm), o.w.trans (h.w.trans o5.w.symm)⟩⟩
theorem SameS.symm {S So : Sch} (h : SameS S So) : SameS So S := ⟨h.t.symm, h.k.symm, h.w.symm⟩
theorem bool_iff {a b : Bool} (h : a = true ↔ b = true) : a = b := by
  cases a <;> cases b <;> simp_all
def lj : List Str := Lx.signs "abcdefghij"
theorem lj_nd : lj.Nodup := by decide +kernel
theorem lj_nm : ∀ c ∈ lj, nameS c = true := by decide +kernel
theorem lj_len : lj.length = 10 := by decide +kernel
theorem putX_keys {α : Type} {t : Str} {y : α} (X : List (Str × α)) : (putX X t y).map (·.1) = X.map (·.1) := by
  unfold putX
  rw [List.map_map]
  refine List.map_congr_left fun p _ => ?_
  show (if p.1 = t then (t, y) else p).1 = p.1
  by_cases c : p.1 = t
  · rw [if_pos c, c]
  · rw [if_neg c]
theorem putX_mem {α : Type} {t : Str} {y : α} {X : List (Str × α)} {p : Str × α} (h : p ∈ putX X t y) : p = (t, y) ∨ (p ∈ X ∧ p.1 ≠ t) := by
  obtain ⟨q, hq, e⟩ := List.mem_map.mp h
  have e : (if q.1 = t then (t, y) else q) = p := e
  by_cases c : q.1 = t
  · rw [if_pos c] at e
    exact .inl e.symm
  · rw [if_neg c] at e
    subst e
    exact .inr ⟨hq, c⟩
theorem mem_putX {α : Type} {t : Str} {y : α} {X : List (Str × α)} {p : Str × α} (h : p ∈ X) (n : p.1 ≠ t) : p ∈ putX X t y := List.mem_map.mpr ⟨p, h, if_neg n⟩
theorem mem_putX_at {α : Type} {t : Str} {y : α} {X : List (Str × α)} (h : t ∈ X.map (·.1)) : (t, y) ∈ putX X t y := by
  obtain ⟨p, hp, e⟩ := List.mem_map.mp h
  exact List.mem_map.mpr ⟨p, hp, if_pos e⟩
theorem at_uniq {α : Type} : ∀ {X : List (Str × α)} {t : Str} {a b : α}, (X.map (·.1)).Nodup → (t, a) ∈ X → (t, b) ∈ X → a = b
  | [], _, _, _, _, h, _ => by cases h
  | p :: X, t, a, b, nd, h1, h2 => by
    rw [List.map_cons, List.nodup_cons] at nd
    rcases List.mem_cons.mp h1 with e1 | m1 <;> rcases List.mem_cons.mp h2 with e2 | m2
    · rw [← e1] at e2
      exact (congrArg Prod.snd e2).symm
    · exact absurd (by rw [← e1]; exact List.mem_map_of_mem (f := (·.1)) m2) nd.1
    · exact absurd (by rw [← e2]; exact List.mem_map_of_mem (f := (·.1)) m1) nd.1
    · exact at_uniq nd.2 m1 m2
theorem SchOk.moreCols {S : Sch} (h : SchOk S) {n : Str} {cs more : List Str} (m : (n, cs) ∈ S.T) (sub : ∀ c ∈ cs, c ∈ more) (ok : ColsOk more) : SchOk ⟨putX S.T n more, S.L, S.W⟩ := by
  have mn : n ∈ S.T.map (·.1) := List.mem_map_of_mem (f := (·.1)) m
  have up : ∀ {t : Str} {c0 : List Str}, (t, c0) ∈ S.T → ∃ c1, (t, c1) ∈ putX S.T n more ∧ ∀ c ∈ c0, c ∈ c1 := fun {t c0} q => by
    by_cases e : t = n
    · subst e
      exact ⟨more, mem_putX_at mn, by rw [at_uniq h.tabs.nd q m]; exact sub⟩
    · exact ⟨c0, mem_putX q e, fun _ z => z⟩
  refine ⟨⟨by rw [show (putX S.T n more).length = S.T.length from List.length_map ..]; exact h.tabs.n1, by rw [show (putX S.T n more).length = S.T.length from List.length_map ..]; exact h.tabs.n5, by rw [putX_keys]; exact h.tabs.names, by rw [putX_keys]; exact h.tabs.nd, fun p q => ?_⟩, ⟨h.keys.nd, fun p q => ?_⟩, ⟨h.ways.n4, h.ways.names, h.ways.nd, fun p q => ?_, h.ways.rank⟩⟩
  · rcases putX_mem q with e | ⟨e, _⟩
    · rw [e]
      exact ok
    · exact h.tabs.cols p e
  · obtain ⟨c0, a, b1, b2, b3, b4⟩ := h.keys.keys p q
    obtain ⟨c1, u1, u2⟩ := up a
    exact ⟨c1, u1, b1, b2, fun k hk => ⟨(b3 k hk).1, (b3 k hk).2.1, fun c mc => u2 _ ((b3 k hk).2.2.1 c mc), (b3 k hk).2.2.2⟩, b4⟩
  · have r := h.ways.ways p q
    obtain ⟨c0, a1, a2⟩ := r.tab
    obtain ⟨c1, u1, u2⟩ := up a1
    exact ⟨⟨c1, u1, fun c mc => u2 _ (a2 c mc)⟩, by rw [putX_keys]; exact r.par, r.ne, r.key, r.len, r.nd⟩
theorem SchOk.putWay {S : Sch} (h : SchOk S) {n : Str} {r r' : Way} (m : (n, r) ∈ S.W) (e1 : r'.tab = r.tab) (e2 : r'.par = r.par) (e3 : r'.key = r.key) (hc : ∀ c ∈ r'.cols, c ∈ r.cols) (hl : r'.cols.length = r.cols.length) (hn : r'.cols.Nodup) : SchOk ⟨S.T, S.L, putX S.W n r'⟩ := by
  refine ⟨h.tabs, h.keys, ⟨by rw [show (putX S.W n r').length = S.W.length from List.length_map ..]; exact h.ways.n4, by rw [putX_keys]; exact h.ways.names, by rw [putX_keys]; exact h.ways.nd, fun p q => ?_, ?_⟩⟩
  · rcases putX_mem q with e | ⟨e, _⟩
    · rw [e]
      have k := h.ways.ways _ m
      obtain ⟨c0, a1, a2⟩ := k.tab
      exact ⟨⟨c0, by show (r'.tab, c0) ∈ _; rw [e1]; exact a1, fun c mc => a2 _ (hc c mc)⟩, by show r'.par ∈ _; rw [e2]; exact k.par, by show r'.tab ≠ r'.par; rw [e1, e2]; exact k.ne, by
        obtain ⟨ks, b1, b2⟩ := k.key
        exact ⟨ks, by show (r'.par, ks) ∈ _; rw [e2]; exact b1, by show r'.key ∈ _; rw [e3]; exact b2⟩, by show r'.cols.length = r'.key.length; rw [hl, e3]; exact k.len, hn⟩
    · exact h.ways.ways p e
  · obtain ⟨rank, rr⟩ := h.ways.rank
    refine ⟨rank, fun s hs => ?_⟩
    obtain ⟨p, hp, rfl⟩ := List.mem_map.mp hs
    rcases putX_mem hp with e | ⟨e, _⟩
    · rw [e]
      show rank r'.tab < rank r'.par
      rw [e1, e2]
      exact rr _ (List.mem_map_of_mem (f := fun x : Str × Way => (x.2.tab, x.2.par)) m)
    · exact rr _ (List.mem_map_of_mem (f := fun x : Str × Way => (x.2.tab, x.2.par)) e)
theorem SchOk.rename {S : Sch} (h : SchOk S) {n f : Str} {r : Way} (m : (n, r) ∈ S.W) (nf : f ∉ S.W.map (·.1)) (nm : nameS f = true) : SchOk ⟨S.T, S.L, S.W.filter (fun p => decide (p.1 ≠ n)) ++ [(f, r)]⟩ := by
  have sub : ∀ p ∈ S.W.filter (fun p => decide (p.1 ≠ n)), p ∈ S.W := fun p q => (List.mem_filter.mp q).1
  have lt : (S.W.filter (fun p => decide (p.1 ≠ n))).length < S.W.length := by
    have := filt_lt (p := fun p : Str × Way => decide (p.1 ≠ n)) (q := fun _ => true) (L := S.W) (fun _ _ _ => rfl) ⟨(n, r), m, rfl, by simp⟩
    rw [List.filter_eq_self.mpr (fun _ _ => rfl)] at this
    exact this
  have n4 := h.ways.n4
  have keys : ∀ c ∈ (S.W.filter (fun p => decide (p.1 ≠ n)) ++ [(f, r)]).map (·.1), c ∈ S.W.map (·.1) ∨ c = f := fun c q => by
    rw [List.map_append] at q
    rcases List.mem_append.mp q with q | q
    · obtain ⟨z, hz, e⟩ := List.mem_map.mp q
      exact .inl (e ▸ List.mem_map_of_mem (f := (·.1)) (sub _ hz))
    · exact .inr (List.mem_singleton.mp q)
  refine ⟨h.tabs, h.keys, ⟨by rw [List.length_append]; show _ + 1 ≤ 4; omega, fun c q => ?_, ?_, fun p q => ?_, ?_⟩⟩
  · rcases keys c q with e | e
    · exact h.ways.names c e
    · rw [e]
      exact nm
  · rw [List.map_append, List.nodup_append]
    refine ⟨h.ways.nd.sublist (List.filter_sublist.map _), List.pairwise_singleton _ _, fun a ha b hb e => nf ?_⟩
    have hb : b = f := List.mem_singleton.mp hb
    obtain ⟨z, hz, e2⟩ := List.mem_map.mp ha
    rw [← hb, ← e, ← e2]
    exact List.mem_map_of_mem (f := (·.1)) (sub _ hz)
  · rcases List.mem_append.mp q with q | q
    · exact h.ways.ways p (sub _ q)
    · rw [List.mem_singleton.mp q]
      have k := h.ways.ways _ m
      exact ⟨k.tab, k.par, k.ne, k.key, k.len, k.nd⟩
  · obtain ⟨rank, rr⟩ := h.ways.rank
    refine ⟨rank, fun s hs => ?_⟩
    obtain ⟨p, hp, rfl⟩ := List.mem_map.mp hs
    rcases List.mem_append.mp hp with q | q
    · exact rr _ (List.mem_map_of_mem (f := fun x : Str × Way => (x.2.tab, x.2.par)) (sub _ q))
    · rw [List.mem_singleton.mp q]
      exact rr (r.tab, r.par) (List.mem_map.mpr ⟨(n, r), m, rfl⟩)
theorem sign_at {z : Str} {i : Nat} {c : Nat} (h : z.cps[i]? = some c) : (Lx.signs z)[i]? = some ⟨#[c]⟩ := by
  unfold Lx.signs
  rw [List.getElem?_map, Array.getElem?_toList, h]
  rfl
theorem rev_ne {l : List Str} (nd : l.Nodup) (h : 1 < l.length) : l ≠ l.reverse := fun e => by
  have h0 : l[0]? = l[l.length - 1]? := by
    have a : l[0]? = l.reverse[0]? := by rw [← e]
    rw [a, List.getElem?_reverse (by omega)]
    rfl
  have := (List.getElem?_inj (by omega) nd).mp h0
  omega
theorem and_tail {P : Prop} [Decidable P] {t : L2.St → Hp → (Bool → Hp → Prop) → Prop} {σ : L2.St} {H : Hp} {Q : Bool → Hp → Prop} {Z : Prop} (G : Hp → Prop) (g : G H) (tail : ∀ HX, G HX → Q false HX) (hz : Q false H → Z) (h : P → (∀ HX, G HX → Q false HX) → t σ H Q) :
    if decide P = true then t σ H Q else Z := iteD (fun c => h c tail) (fun _ => hz (tail _ g))
def spEqR (C : Addr) : Sp := fun vs H Q _ => ∃ (d x p o : Addr) (S S1 So : Sch) (et ek ew dt dk dw ot ok ow : Addr), vs = [.ref d, .ref x, .ref p, .ref o] ∧ Die H d ∧ SchO C H x S1 et ek ew ∧ PlainO H p S dt dk dw ∧ PlainO H o So ot ok ow ∧ SortOf S S1 ∧ (∀ c ∈ [dt, dk, dw], c ∉ [ot, ok, ow]) ∧ ∀ H', Rolled d H H' → Q (.bl true) H'
theorem ok_equal_right (T : Txt K mg a) : FnOk P w K mg base CX0 10 a.equal_right a.fd_equal_right ps__law_equal_right (spEqR a.c_Schema) := by
  have F := T.F_equal_right
  refine F.ok (k := 9) sc__law_equal_right (fun vs H Q E h => ?_) (fun cdv A outer s H vs Q E hr h => ?_)
  · obtain ⟨d, x, p, o, S, S1, So, et_, ek, ew, dt, dk, dw, ot, ok, ow, rfl, hD, hS, hp, ho, srt, dis, k⟩ := h
    rfl
  · obtain ⟨d, x, p, o, S, S1, So, et_, ek, ew, dt, dk, dw, ot, ok, ow, rfl, hD, hS, hp, ho, srt, dis, k⟩ := h
    have hu := hu_of hr
    refine ⟨_, (pss_cons (ps_set (i := 4) sc__law_equal_right.nd rfl (Or.inl rfl) pe_dnewK)
      (pss_cons (ps_lock (ps_for PassesOwn.never rfl (pi_keys (pv 2)) (pg_name (i := 5) sc__law_equal_right.nd rfl (Or.inl rfl)) (pss_one (ps_dput hu (pv 4) (pv 5) (pe_callTy (call_dictP rfl) (by rfl) T.dict (by decide +kernel) (pa_cons (pe_call (ok_mixed T) (hr.mono (by decide)) (by rfl) T.g_mixed T.F_mixed.kp (b_mixed T) .nil pass0 (pa_cons (pv 0) (pa_cons (Li.pe_listItemsR rfl (pe_dget hu (pv 2) (pv 5) (fun _ _ => rfl)) (by rfl) T.list (by decide +kernel)) pa_nil))) pa_nil)) rfl))))
      (pss_cons (ps_if (PW.pt (pw_or (pt_cmpR (Ow.op_neO ⟨T.fi__eq__, T.fn__eq__, ok_Schema___eq__ T, b_Schema___eq__ T⟩ T.ne_A T.so_A (hr.mono (by decide)) pass0) (pv 1) (pe_call (ok_schema_made T) (hr.mono (by decide)) (by rfl) T.g_schema_made T.F_schema_made.kp (b_schema_made T) .nil pass0 (pa_cons (pv 4) pa_nil)) (nomark _)) (pw_or1 (pt_not (pt_cmpR (Ow.op_eqO ⟨T.fi__eq__, T.fn__eq__, ok_Schema___eq__ T, b_Schema___eq__ T⟩ (hr.mono (by decide)) pass0) (pv 1) (pe_call (ok_schema_made T) (hr.mono (by decide)) (by rfl) T.g_schema_made T.F_schema_made.kp (b_schema_made T) .nil pass0 (pa_cons (pv 4) pa_nil)) (nomark _)))))) (pss_one (ps_ret pe_bl)) pss_nil)
      (pss_cons (ps_set (i := 6) sc__law_equal_right.nd rfl (Or.inl rfl) (pe_call (ok_schema_made T) (hr.mono (by decide)) (by rfl) T.g_schema_made T.F_schema_made.kp (b_schema_made T) .nil pass0 (pa_cons (pv 3) pa_nil)))
      (pss_cons (ps_if (PW.pt (pw_or (pt_cmpR op_ne (pe_cmpR (Ow.op_eqO ⟨T.fi__eq__, T.fn__eq__, ok_Schema___eq__ T, b_Schema___eq__ T⟩ (hr.mono (by decide)) pass0) (pv 1) (pv 6) (nomark _)) (pe_cmpR (Dq1.op_eqDDk (un67 hr)) (pv 2) (pv 3) (nomark _)) (nomark _)) (pw_or1 (pt_cmpR op_eq (pe_cmpR (Ow.op_neO ⟨T.fi__eq__, T.fn__eq__, ok_Schema___eq__ T, b_Schema___eq__ T⟩ T.ne_A T.so_A (hr.mono (by decide)) pass0) (pv 6) (pv 1) (nomark _)) (pe_cmpR (Dq1.op_eqDDk (un67 hr)) (pv 2) (pv 3) (nomark _)) (nomark _))))) (pss_one (ps_ret pe_bl)) pss_nil)
      (pss_cons (ps_for PassesOwn.never rfl (pi_list (pe_callB (call_sortedD rfl) (by rfl) T.sorted (by decide +kernel) (pa_cons (pe_dget hu (pv 2) pe_str (fun _ _ => rfl)) pa_nil))) (pg_name (i := 7) sc__law_equal_right.nd rfl (Or.inl rfl)) (pss_cons (ps_set (i := 8) sc__law_equal_right.nd rfl (Or.inr rfl) (pe_dget hu (pe_dget hu (pv 2) pe_str (fun _ _ => rfl)) (pv 7) (fun _ _ => rfl)))
      (pss_cons (ps_set (i := 9) sc__law_equal_right.nd rfl (Or.inl rfl) (pe_callB cr_sortedS (by rfl) T.sorted (by decide +kernel) (pa_cons (pe_op op_cat (pe_callTy call_list_of (by rfl) T.list (by decide +kernel) (pa_cons (pv 8) pa_nil)) (pe_slice sl_list (pe_lc (own := [("_law_one", 10)]) rfl sc__law_equal_right.nd (pi_str pe_str) (blkOk_by (N := nm__law_equal_right) (sc := defScope s__law_equal_right) (by decide +kernel)) (fun _ _ _ _ _ => (pg_name (i := 10) sc__law_equal_right.nd rfl (Or.inl rfl))) (fun _ _ _ _ _ => (pts_one (pt_cmpR (r := rIn K true) op_notIn_seq (pv 10) (pv 8) (by rfl)))) (fun _ _ _ _ _ => (pv 10))) po_none (po_some pe_int))) pa_nil)))
      (pss_one (ps_if (PW.pt (pw_and (pt_cmpR op_lt (pe_callB call_len (by rfl) T.len (by decide +kernel) (pa_cons (pv 8) pa_nil)) pe_int (nomark _)) (pw_and1 (pt_cmpR (Ow.op_eqO ⟨T.fi__eq__, T.fn__eq__, ok_Schema___eq__ T, b_Schema___eq__ T⟩ (hr.mono (by decide)) pass0) (pv 1) (pe_call (ok_rest T) (hr.mono (by decide)) (by rfl) T.g_rest T.F_rest.kp (b_rest T) .nil pass0 (pa_cons (pv 2) (pa_cons pe_str (pa_cons (pv 7) (pa_cons (pe_callTy call_tuple_of (by rfl) T.tuple (by decide +kernel) (pa_cons (pv 9) pa_nil)) pa_nil))))) (nomark _))))) (pss_one (ps_ret pe_bl)) pss_nil)))))
      (pss_cons (ps_for PassesOwn.never rfl (pi_list (pe_callB (call_sortedD rfl) (by rfl) T.sorted (by decide +kernel) (pa_cons (pe_dget hu (pv 2) pe_str (fun _ _ => rfl)) pa_nil))) (pg_name (i := 7) sc__law_equal_right.nd rfl (Or.inl rfl)) (pss_cons (ps_asg (pe_dget hu (pe_dget hu (pv 2) pe_str (fun _ _ => rfl)) (pv 7) (fun _ _ => rfl)) (pg_tup rfl (pgs_cons (pg_name (i := 11) sc__law_equal_right.nd rfl (Or.inl rfl)) (pgs_cons (pg_name (i := 8) sc__law_equal_right.nd rfl (Or.inr rfl)) (pgs_cons (pg_name (i := 12) sc__law_equal_right.nd rfl (Or.inl rfl)) (pgs_cons (pg_name (i := 13) sc__law_equal_right.nd rfl (Or.inl rfl)) pgs_nil))))))
      (pss_cons (ps_set (i := 4) sc__law_equal_right.nd rfl (Or.inl rfl) (pe_tup (pa_cons (pv 11) (pa_cons (Rvt.pe_revT (pv 8)) (pa_cons (pv 12) (pa_cons (pv 13) pa_nil))))))
      (pss_cons (ps_if (PW.pt (pw_and (pt_cmpR op_gt (pe_callB call_len (by rfl) T.len (by decide +kernel) (pa_cons (pv 8) pa_nil)) pe_int (nomark _)) (pw_and1 (pt_cmpR (Ow.op_eqO ⟨T.fi__eq__, T.fn__eq__, ok_Schema___eq__ T, b_Schema___eq__ T⟩ (hr.mono (by decide)) pass0) (pv 1) (pe_call (ok_rest T) (hr.mono (by decide)) (by rfl) T.g_rest T.F_rest.kp (b_rest T) .nil pass0 (pa_cons (pv 2) (pa_cons pe_str (pa_cons (pv 7) (pa_cons (pv 4) pa_nil))))) (nomark _))))) (pss_one (ps_ret pe_bl)) pss_nil)
      (pss_cons (ps_set (i := 14) sc__law_equal_right.nd rfl (Or.inl rfl) (pe_ix ix_list (pe_lc (own := [("_law_one", 10)]) rfl sc__law_equal_right.nd (pi_str pe_str) (blkOk_by (N := nm__law_equal_right) (sc := defScope s__law_equal_right) (by decide +kernel)) (fun _ _ _ _ _ => (pg_name (i := 10) sc__law_equal_right.nd rfl (Or.inl rfl))) (fun _ _ _ _ _ => (pts_one (pt_cmp (pc_dnotin hu (pv 10) (pe_dget hu (pv 2) pe_str (fun _ _ => rfl)))))) (fun _ _ _ _ _ => (pv 10))) pe_int (fun _ _ => rfl)))
      (pss_cons (ps_set (i := 15) sc__law_equal_right.nd rfl (Or.inl rfl) (pe_call (ok_with T) (hr.mono (by decide)) (by rfl) T.g_with T.F_with.kp (b_with T) .nil pass0 (pa_cons (pe_call (ok_without T) (hr.mono (by decide)) (by rfl) T.g_without T.F_without.kp (b_without T) .nil pass0 (pa_cons (pe_dget hu (pv 2) pe_str (fun _ _ => rfl)) (pa_cons (pv 7) pa_nil))) (pa_cons (pv 14) (pa_cons (pe_dget hu (pe_dget hu (pv 2) pe_str (fun _ _ => rfl)) (pv 7) (fun _ _ => rfl)) pa_nil)))))
      (pss_one (ps_if (pt_cmpR (Ow.op_eqO ⟨T.fi__eq__, T.fn__eq__, ok_Schema___eq__ T, b_Schema___eq__ T⟩ (hr.mono (by decide)) pass0) (pv 1) (pe_call (ok_schema_made T) (hr.mono (by decide)) (by rfl) T.g_schema_made T.F_schema_made.kp (b_schema_made T) .nil pass0 (pa_cons (pe_call (ok_with T) (hr.mono (by decide)) (by rfl) T.g_with T.F_with.kp (b_with T) .nil pass0 (pa_cons (pv 2) (pa_cons pe_str (pa_cons (pv 15) pa_nil)))) pa_nil)) (nomark _)) (pss_one (ps_ret pe_bl)) pss_nil))))))))
      (pss_one (ps_ret (pe_cmpR (op_eqD hr.units) (pe_lc (own := [("_law_one", 10)]) rfl sc__law_equal_right.nd (pi_list (pe_lst (pa_cons pe_non (pa_cons pe_int (pa_cons (pv 2) (pa_cons (pe_dget hu (pv 2) pe_str (fun _ _ => rfl)) (pa_cons (pe_callTy (Ow.call_strO ⟨T.fi__str__, T.fn__str__, ok_Schema___str__ T, b_Schema___str__ T⟩ (hr.mono (by decide)) pass0) (by rfl) T.str (by decide +kernel) (pa_cons (pv 1) pa_nil)) (pa_cons (pe_tup pa_nil) (pa_cons (pe_lst (pa_cons (pv 1) pa_nil)) pa_nil))))))))) (blkOk_by (N := nm__law_equal_right) (sc := defScope s__law_equal_right) (by decide +kernel)) (fun _ _ _ _ _ => (pg_name (i := 10) sc__law_equal_right.nd rfl (Or.inl rfl))) (fun _ _ _ _ _ => pts_nil) (fun _ _ _ _ _ => (pe_cmpR (r := Ow.rEqO K a.c_Schema (spEqS K a.c_Schema) E0) (Ow.op_eqO ⟨T.fi__eq__, T.fn__eq__, ok_Schema___eq__ T, b_Schema___eq__ T⟩ (hr.mono (by decide)) pass0) (pv 1) (pv 10) (nomark _)))) (pe_op op_rep (pe_lst (pa_cons pe_bl pa_nil)) pe_int) (nomark _))))))))))), ?_⟩
    obtain ⟨kt, ht, pT⟩ := hp.data.tabs
    obtain ⟨kk, hk, pL⟩ := hp.data.keys
    obtain ⟨kw, hw, pW⟩ := hp.data.ways
    have n5 := hp.ok.tabs.n5
    have n4 := hp.ok.ways.n4
    have l5 := len_keys hp.ok
    intro t0 nt0
    generalize EH1 : upd H t0 _ = H1
    have ht0 := (congrFun EH1 t0).symm.trans upd_same
    have SH1 : Same H H1 := by rw [← EH1]; exact sameNew nt0
    have npd : p ≠ d := dk_ne hD hp.at_
    have ntp : t0 ≠ p := fun z => by rw [z, hp.at_] at nt0; cases nt0
    have ntd : t0 ≠ d := hD.ne nt0
    refine ⟨p, .dK _, SH1 _ _ hp.at_, trivial, fun od => ?_⟩
    have offL : ∀ b u, b ≠ p → H b = some u → upd H1 p (.frz od (.dK [(.inr "tables", .ref dt), (.inr "locks", .ref dk), (.inr "ways", .ref dw)])) b = some u := fun b u n e => by rw [upd_ne n]; exact SH1 _ _ e
    have eL : upd H1 p (.frz od (.dK [(.inr "tables", .ref dt), (.inr "locks", .ref dk), (.inr "ways", .ref dw)])) p = some (.frz od (.dK [(.inr "tables", .ref dt), (.inr "locks", .ref dk), (.inr "ways", .ref dw)])) := upd_same
    have tL : upd H1 p (.frz od (.dK [(.inr "tables", .ref dt), (.inr "locks", .ref dk), (.inr "ways", .ref dw)])) t0 = some (.dK []) := by rw [upd_ne ntp]; exact ht0
    generalize upd H1 p (.frz od (.dK [(.inr "tables", .ref dt), (.inr "locks", .ref dk), (.inr "ways", .ref dw)])) = HL at offL eL tL ⊢
    have DL : Die HL d := by
      obtain ⟨u1, u2, u3, q⟩ := hD
      exact ⟨u1, u2, u3, offL _ _ (Ne.symm npd) q⟩
    have tsH : ∀ (Hi : Hp), (∀ b u, b ≠ d → b ≠ t0 → HL b = some u → Hi b = some u) → TS H Hi := fun Hi kp b ys e => kp _ _ (fun z => by
        obtain ⟨_, _, _, q⟩ := hD
        rw [z, q] at e
        cases e) (fun z => by rw [z, nt0] at e; cases e) (offL _ _ (fun z => by rw [z, hp.at_] at e; cases e) e)
    have dictH : ∀ (Hi : Hp), (∀ b u, b ≠ d → b ≠ t0 → HL b = some u → Hi b = some u) → ∀ {c : Addr} {ks : List (Key × V)}, H c = some (HO.dK ks) → c ≠ p → Hi c = some (.dK ks) := fun Hi kp c ks e n => kp _ _ (dk_ne hD e) (fun z => by rw [z, nt0] at e; cases e) (offL _ _ n e)
    refine ⟨_, rfl, p, od, rfl, .inl ⟨_, eL, ?_⟩⟩
    refine for_it (walk_keys (o := od) (d := p) (kvs := [(.inr "tables", .ref dt), (.inr "locks", .ref dk), (.inr "ways", .ref dw)])) (fun i σ Hi => ∃ x5 c1 c2 c3, σ = [some (.ref d), some (.ref x), some (.ref p), some (.ref o), some (.ref t0), x5, none, none, none, none, none, none, none, none, none, none] ∧ Die Hi d ∧ (∀ b u, b ≠ d → b ≠ t0 → HL b = some u → Hi b = some u) ∧
        Hi t0 = some (.dK ([(.inr "tables", .ref c1), (.inr "locks", .ref c2), (.inr "ways", .ref c3)].take i)) ∧ (1 ≤ i → c1 ≠ t0 ∧ ∃ k T, Hi c1 = some (.dK k) ∧ Paired (EntOf (ColT Hi)) k T ∧ T.Perm S.T) ∧ (2 ≤ i → c2 ≠ t0 ∧ ∃ k L, Hi c2 = some (.dK k) ∧ Paired (EntOf (KeyT Hi)) k L ∧ L.Perm S.L) ∧
        (3 ≤ i → c3 ≠ t0 ∧ c2 ≠ c3 ∧ ∃ k W, Hi c3 = some (.dK k) ∧ Paired (EntOf (WayT Hi)) k W ∧ W.Perm S.W)) ⟨none, 0, 0, 0, rfl, DL, fun _ _ _ _ e => e, tL, fun z => absurd z (by decide), fun z => absurd z (by decide), fun z => absurd z (by decide)⟩ (fun i σ Hi hi q => by
      obtain ⟨_, _, _, _, _, _, q, _⟩ := q
      exact q _ _ npd (Ne.symm ntp) eL) ?_ ?_
    · rintro i y σ Hi Hi2 hi ⟨x5, c1, c2, c3, rfl, Di, kp, et, f1, f2, f3⟩ ⟨rfl, kx, v2, hkx, rfl⟩
      have hi : i < 3 := hi
      have tsi := tsH _ kp
      have hpi : Rd Hi2 p (.dK [(.inr "tables", .ref dt), (.inr "locks", .ref dk), (.inr "ways", .ref dw)]) := .inr ⟨od, kp _ _ npd (Ne.symm ntp) eL⟩
      have wr : ∀ {H2 : Hp} {es : List (Key × V)}, Rolled d Hi2 H2 → Die (upd H2 t0 (.dK es)) d ∧ (∀ b u, b ≠ d → b ≠ t0 → HL b = some u → upd H2 t0 (.dK es) b = some u) ∧ TS H2 (upd H2 t0 (.dK es)) := fun {H2 es} R2 => ⟨by
          obtain ⟨u1, u2, u3, q⟩ := R2.die
          exact ⟨u1, u2, u3, by rw [upd_ne (Ne.symm ntd)]; exact q⟩, fun b u n1 n2 e => by rw [upd_ne n2]; exact R2.keep _ _ n1 (kp _ _ n1 n2 e), TS.off Off.lock fun ys z => by rw [R2.keep _ _ ntd et] at z; cases z⟩
      obtain rfl | rfl | rfl : i = 0 ∨ i = 1 ∨ i = 2 := by omega
      · cases hkx
        unfold gName sDPut
        refine mixed_part (part := "tables") (K := K) (σ := [some (.ref d), some (.ref x), some (.ref p), some (.ref o), some (.ref t0), some (.str "tables"), none, none, none, none, none, none, none, none, none, none]) (R := ColT) (fun t h => ColT.ts t h) (by rfl) (by rfl) (by rfl) Di hpi (by rfl) (.inl (dictH _ kp ht (Ne.symm hp.pt))) (ent_off (fun _ _ e => ColT.ts tsi e) pT) hp.ok.tabs.nd n5 fun c H2 kvs' X' R2 nc hc pc pm => ?_
        have et2 := R2.keep _ _ ntd et
        obtain ⟨w1, w2, w3⟩ := wr (es := [(.inr "tables", .ref c)]) R2
        have nct : c ≠ t0 := fun z => by rw [z, et] at nc; cases nc
        refine ⟨_, rfl, _, rfl, t0, _, rfl, .inl ⟨_, .inr "tables", et2, rfl, by show 0 + 1 ≤ _; decide, rfl⟩, ?_⟩
        exact ⟨_, c, 0, 0, rfl, w1, w2, upd_same, fun _ => ⟨nct, kvs', X', by rw [upd_ne nct]; exact hc, ent_off (fun _ _ e => ColT.ts w3 e) pc, pm⟩, fun z => absurd z (by decide), fun z => absurd z (by decide)⟩
      · cases hkx
        unfold gName sDPut
        refine mixed_part (part := "locks") (K := K) (σ := [some (.ref d), some (.ref x), some (.ref p), some (.ref o), some (.ref t0), some (.str "locks"), none, none, none, none, none, none, none, none, none, none]) (R := KeyT) (fun t h => KeyT.ts t h) (by rfl) (by rfl) (by rfl) Di hpi (by rfl) (.inl (dictH _ kp hk (Ne.symm hp.pk))) (ent_off (fun _ _ e => KeyT.ts tsi e) pL) hp.ok.keys.nd l5 fun c H2 kvs' X' R2 nc hc pc pm => ?_
        have et2 := R2.keep _ _ ntd et
        obtain ⟨w1, w2, w3⟩ := wr (es := [(.inr "tables", .ref c1), (.inr "locks", .ref c)]) R2
        have nct : c ≠ t0 := fun z => by rw [z, et] at nc; cases nc
        obtain ⟨g1, k1, T1, g2, g3, g4⟩ := f1 (Nat.le_refl _)
        have t2 := TS.roll Di R2
        refine ⟨_, rfl, _, rfl, t0, _, rfl, .inl ⟨_, .inr "locks", et2, rfl, by show 1 + 1 ≤ _; decide, rfl⟩, ?_⟩
        exact ⟨_, c1, c, 0, rfl, w1, w2, upd_same, fun _ => ⟨g1, k1, T1, by rw [upd_ne g1]; exact R2.keep _ _ (dk_ne Di g2) g2, ent_off (fun _ _ e => ColT.ts (t2.trans w3) e) g3, g4⟩, fun _ => ⟨nct, kvs', X', by rw [upd_ne nct]; exact hc, ent_off (fun _ _ e => KeyT.ts w3 e) pc, pm⟩, fun z => absurd z (by decide)⟩
      · cases hkx
        unfold gName sDPut
        refine mixed_part (part := "ways") (K := K) (σ := [some (.ref d), some (.ref x), some (.ref p), some (.ref o), some (.ref t0), some (.str "ways"), none, none, none, none, none, none, none, none, none, none]) (R := WayT) (fun t h => WayT.ts t h) (by rfl) (by rfl) (by rfl) Di hpi (by rfl) (.inl (dictH _ kp hw (Ne.symm hp.pw))) (ent_off (fun _ _ e => WayT.ts tsi e) pW) hp.ok.ways.nd (by omega) fun c H2 kvs' X' R2 nc hc pc pm => ?_
        have et2 := R2.keep _ _ ntd et
        obtain ⟨w1, w2, w3⟩ := wr (es := [(.inr "tables", .ref c1), (.inr "locks", .ref c2), (.inr "ways", .ref c)]) R2
        have nct : c ≠ t0 := fun z => by rw [z, et] at nc; cases nc
        obtain ⟨g1, k1, T1, g2, g3, g4⟩ := f1 (by decide)
        obtain ⟨h1, k2, L1, h2, h3, h4⟩ := f2 (by decide)
        have t2 := TS.roll Di R2
        refine ⟨_, rfl, _, rfl, t0, _, rfl, .inl ⟨_, .inr "ways", et2, rfl, by show 2 + 1 ≤ _; decide, rfl⟩, ?_⟩
        exact ⟨_, c1, c2, c, rfl, w1, w2, upd_same, fun _ => ⟨g1, k1, T1, by rw [upd_ne g1]; exact R2.keep _ _ (dk_ne Di g2) g2, ent_off (fun _ _ e => ColT.ts (t2.trans w3) e) g3, g4⟩, fun _ => ⟨h1, k2, L1, by rw [upd_ne h1]; exact R2.keep _ _ (dk_ne Di h2) h2, ent_off (fun _ _ e => KeyT.ts (t2.trans w3) e) h3, h4⟩, fun _ => ⟨nct, (fun z => by rw [z, nc] at h2; cases h2), kvs', X', by rw [upd_ne nct]; exact hc, ent_off (fun _ _ e => WayT.ts w3 e) pc, pm⟩⟩
    rintro σ Hi ⟨x5, c1, c2, c3, rfl, Di, kp, et, f1, f2, f3⟩
    refine ⟨kp _ _ npd (Ne.symm ntp) eL, ?_⟩
    obtain ⟨g1, k1, T1, g2, g3, g4⟩ := f1 (by show 1 ≤ 3; decide)
    obtain ⟨h1, k2, L1, h2, h3, h4⟩ := f2 (by show 2 ≤ 3; decide)
    obtain ⟨j1, j0, k3, W1, j2, j3, j4⟩ := f3 (by show 3 ≤ 3; decide)
    have epi := kp _ _ npd (Ne.symm ntp) eL
    have np1 : c1 ≠ p := fun z => by rw [z, epi] at g2; cases g2
    have np2 : c2 ≠ p := fun z => by rw [z, epi] at h2; cases h2
    have np3 : c3 ≠ p := fun z => by rw [z, epi] at j2; cases j2
    have tsU : TS Hi (upd Hi p (.dK [(.inr "tables", .ref dt), (.inr "locks", .ref dk), (.inr "ways", .ref dw)])) := TS.off Off.lock fun ys z => by rw [epi] at z; cases z
    have RU : Rolled d H (upd Hi p (.dK [(.inr "tables", .ref dt), (.inr "locks", .ref dk), (.inr "ways", .ref dw)])) := ⟨by
        obtain ⟨u1, u2, u3, q⟩ := Di
        exact ⟨u1, u2, u3, by rw [upd_ne (Ne.symm npd)]; exact q⟩, fun b u n e => by
        by_cases c : b = p
        · rw [c] at e ⊢
          rw [hp.at_] at e
          cases e
          exact upd_same
        · rw [upd_ne c]
          exact kp _ _ n (fun z => by rw [z, nt0] at e; cases e) (offL _ _ c e)⟩
    have hTu : PlainO (upd Hi p (.dK [(.inr "tables", .ref dt), (.inr "locks", .ref dk), (.inr "ways", .ref dw)])) t0 ⟨T1, L1, W1⟩ c1 c2 c3 := ⟨by rw [upd_ne ntp]; exact et, ⟨⟨k1, by rw [upd_ne np1]; exact g2, ent_off (fun _ _ e => ColT.ts tsU e) g3⟩, ⟨k2, by rw [upd_ne np2]; exact h2, ent_off (fun _ _ e => KeyT.ts tsU e) h3⟩, ⟨k3, by rw [upd_ne np3]; exact j2, ent_off (fun _ _ e => WayT.ts tsU e) j3⟩⟩, hp.ok.perm3 g4 h4 j4, j0⟩
    generalize upd Hi p (.dK [(.inr "tables", .ref dt), (.inr "locks", .ref dk), (.inr "ways", .ref dw)]) = HU at RU hTu ⊢
    have hSU := hS.roll hD RU
    have hpU := hp.roll hD RU
    have hoU := ho.roll hD RU
    refine ⟨_, rfl, _, rfl, t0, _, c1, c2, c3, rfl, hTu, fun y3 H3 S3 q1 q2 q3 S03 hY3 o3 _ _ _ _ => ?_⟩
    have hS3 := hSU.same S03
    refine ⟨x, _, rfl, hS3.own, sch_ty T hY3, T.nfi_Schema, x, S1, et_, ek, ew, .ref y3, rfl, hS3, .inl ⟨y3, S3, q1, q2, q3, rfl, hY3, fun b1 ib => ⟨b1, rfl, ?_⟩⟩⟩
    have eb1 : b1 = true := ib.mpr ⟨srt.t.trans (g4.symm.trans o3.t.symm), srt.k.trans (h4.symm.trans o3.k.symm), srt.w.trans (j4.symm.trans o3.w.symm)⟩
    subst eb1
    refine ⟨_, rfl, ?_⟩
    refine iteF ?_
    refine ⟨_, rfl, _, rfl, t0, _, c1, c2, c3, rfl, hTu.same S03, fun y4 H4 S4 r1 r2 r3 S04 hY4 o4 _ _ _ _ => ?_⟩
    have hS4 := hS3.same S04
    refine ⟨x, _, rfl, hS4.own, sch_ty T hY4, T.nfi_Schema, x, S1, et_, ek, ew, .ref y4, rfl, hS4, .inl ⟨y4, S4, r1, r2, r3, rfl, hY4, fun b1 ib => ⟨b1, rfl, ?_⟩⟩⟩
    have eb1 : b1 = true := ib.mpr ⟨srt.t.trans (g4.symm.trans o4.t.symm), srt.k.trans (h4.symm.trans o4.k.symm), srt.w.trans (j4.symm.trans o4.w.symm)⟩
    subst eb1
    refine ⟨_, rfl, ?_⟩
    refine iteF ?_
    have SU4 := S03.trans S04
    refine ⟨_, rfl, o, So, ot, ok, ow, rfl, hoU.same SU4, fun y5 H5 S5 r1 r2 r3 S05 hY5 o5 _ _ _ _ => ?_⟩
    have SU5 := SU4.trans S05
    have hS5 := hS4.same S05
    refine ⟨_, rfl, _, rfl, x, _, rfl, hS5.own, sch_ty T hY5, T.nfi_Schema, x, S1, et_, ek, ew, .ref y5, rfl, hS5, .inl ⟨y5, S5, r1, r2, r3, rfl, hY5, fun b1 ib1 => ⟨b1, rfl, ?_⟩⟩⟩
    refine ⟨_, rfl, _, rfl, p, o, ddS S, ddS So, [dt, dk, dw], [ot, ok, ow], rfl, rfl, ddd_of (hpU.same SU5), ddd_of (hoU.same SU5), dis, ?_⟩
    have eb2 : Dq1.eqBy (Dq1.eqBy PyData.eqv) (ddS S) (ddS So) = b1 := bool_iff ((dd_same hp.ok ho.ok).trans ((same_sort srt o5).symm.trans ib1.symm))
    rw [eb2]
    refine ⟨rfl, _, rfl, ?_⟩
    rw [decide_eq_true rfl]
    refine iteF ?_
    refine ⟨_, rfl, _, rfl, y5, _, rfl, hY5.own, sch_ty T hS5, T.nfi_Schema, y5, S5, r1, r2, r3, .ref x, rfl, hY5, .inl ⟨x, S1, et_, ek, ew, rfl, hS5, fun b3 ib3 => ⟨b3, rfl, ?_⟩⟩⟩
    refine ⟨_, rfl, _, rfl, p, o, ddS S, ddS So, [dt, dk, dw], [ot, ok, ow], rfl, rfl, ddd_of (hpU.same SU5), ddd_of (hoU.same SU5), dis, ?_⟩
    have eb3 : b3 = b1 := bool_iff (ib3.trans (⟨SameS.symm, SameS.symm⟩ : SameS S5 S1 ↔ SameS S1 S5) |>.trans ib1.symm)
    rw [eb2, eb3]
    refine ⟨rfl, _, rfl, ?_⟩
    rw [show decide (V.bl (!b1) = V.bl b1) = false from by cases b1 <;> decide]
    refine iteF ?_
    have hp5 := hpU.same SU5
    obtain ⟨kt5, ht5, pT5⟩ := hp5.data.tabs
    obtain ⟨kk5, hk5, pL5⟩ := hp5.data.keys
    obtain ⟨kw5, hw5, pW5⟩ := hp5.data.ways
    have lt5 : kt5.length = S.T.length := pT5.length
    have lw5 : kw5.length = S.W.length := pW5.length
    have R5 : Rolled d H H5 := roll_same RU SU5
    refine ⟨_, rfl, p, .ref dt, rfl, .inl ⟨_, .inr "tables", .inl hp5.at_, rfl, rfl⟩, dt, kt5, S.T.map (·.1), rfl, .inl ht5, keys_ent pT5, by rw [List.length_map]; omega, fun ys p0 py srt0 np0 => ?_⟩
    generalize EH6 : upd H5 p0 _ = H6
    have hp0 := (congrFun EH6 p0).symm.trans upd_same
    have S6 : Same H5 H6 := by rw [← EH6]; exact sameNew np0
    refine ⟨p0, rfl, ⟨_, SqL.of hp0⟩, ?_⟩
    refine for_it (walk_list (K := K) (a := p0) (xs := ys.map V.str)) (fun i σ Hi => ∃ x7 x8 x9 x10 x11 x12 x13 x14 x15, σ = [some (.ref d), some (.ref x), some (.ref p), some (.ref o), some (.ref t0), x5, some (.ref y5), x7, x8, x9, x10, x11, x12, x13, x14, x15] ∧ Same H6 Hi) ⟨none, none, none, none, none, none, none, none, none, rfl, Same.refl _⟩ (fun i σ Hi hi q => by
      obtain ⟨_, _, _, _, _, _, _, _, _, _, q⟩ := q
      exact SqL.of (q _ _ hp0)) ?_ ?_
    · rintro i y σ Hi Hi2 hi ⟨x7, x8, x9, x10, x11, x12, x13, x14, x15, rfl, Si⟩ ⟨rfl, hy⟩
      rw [List.getElem?_map] at hy
      obtain ⟨n, hn, rfl⟩ := Option.map_eq_some_iff.mp hy
      have hnm : n ∈ S.T.map (·.1) := py.mem_iff.mp (List.mem_of_getElem? hn)
      obtain ⟨e, em, rfl⟩ := List.mem_map.mp hnm
      have S5i := S6.trans Si
      have hpi := hp5.same S5i
      have hti := S5i _ _ ht5
      have pTi := ent_off (fun _ _ e => ColT.same S5i e) pT5
      obtain ⟨ct, ct1, ct2⟩ := val_ent (x := e.1) (y := e.2) pTi hp.ok.tabs.nd em
      have ct2 : Hi2 ct = some (.tup (e.2.map V.str)) := ct2
      have oc := hp.ok.tabs.cols _ em
      have oc1 := oc.2.1
      have oc4 := oc.2.2.1
      refine ⟨_, rfl, p, .ref dt, rfl, .inl ⟨_, .inr "tables", .inl hpi.at_, rfl, rfl⟩, _, rfl, dt, .ref ct, rfl, .inl ⟨kt5, .inr e.1, .inl hti, rfl, ct1.symm⟩, ?_⟩
      refine ⟨_, rfl, ct, _, rfl, .inr (SqT.of ct2), fun l1 nl1 => ?_⟩
      generalize EH7 : upd Hi2 l1 _ = H7
      have hl1 := (congrFun EH7 l1).symm.trans upd_same
      have S7 : Same Hi2 H7 := by rw [← EH7]; exact sameNew nl1
      refine ⟨_, rfl, fun D hD0 => ?_⟩
      refine lc_it (walk_str (z := "abcdefghij")) (fun q Hq => Same H7 Hq ∧ Hq D = some (.lst (((lj.take q).filter fun z => decide (z ∉ e.2)).map V.str))) ⟨sameNew hD0, upd_same⟩ ?_ ?_ ?_
      · rintro q Hq hq ⟨Sm, _⟩
        trivial
      · rintro q y Hq Hq2 hq ⟨Sm, eD⟩ ⟨rfl, c, hc, rfl⟩
        have hz : lj[q]? = some ⟨#[c]⟩ := sign_at hc
        refine ⟨rfl, ?_⟩
        refine ⟨_, rfl, _, rfl, ct, _, rfl, .inr (SqT.of (Sm _ _ (S7 _ _ ct2))), rfl, flat_strs e.2, ?_⟩
        rw [inV_strs]
        have fl : (lj.take (q + 1)).filter (fun z => decide (z ∉ e.2)) = (lj.take q).filter (fun z => decide (z ∉ e.2)) ++ (if (⟨#[c]⟩ : Str) ∉ e.2 then [⟨#[c]⟩] else []) := by
          rw [take_at hz, List.filter_append]
          by_cases g : (⟨#[c]⟩ : Str) ∈ e.2 <;> simp [g]
        have lq : ((lj.take q).filter (fun z => decide (z ∉ e.2))).length ≤ 10 := by
          have := List.length_filter_le (fun z => decide (z ∉ e.2)) (lj.take q)
          rw [List.length_take, lj_len] at this
          omega
        refine ⟨_, rfl, ?_⟩
        by_cases g : (⟨#[c]⟩ : Str) ∈ e.2
        · rw [decide_eq_true g]
          refine iteF ⟨Sm, ?_⟩
          rw [fl, if_neg (fun z => z g), List.append_nil]
          exact eD
        · rw [decide_eq_false g]
          refine iteT ?_
          refine ⟨_, rfl, _, eD, by rw [List.length_map, sizeLine_eq]; omega, same_upd Sm hD0, ?_⟩
          rw [fl, if_pos g, List.map_append]
          exact upd_same
      rintro H8 ⟨S8, eD⟩
      rw [show lj.take (Str.ofString "abcdefghij").cps.size = lj from by decide +kernel] at eD
      have fne : lj.filter (fun z => decide (z ∉ e.2)) ≠ [] := fun z => by
        have h10 := len_sub (B := e.2) lj_nd fun y my => by
          by_cases c : y ∈ e.2
          · exact c
          · have : y ∈ lj.filter (fun z => decide (z ∉ e.2)) := List.mem_filter.mpr ⟨my, decide_eq_true c⟩
            rw [z] at this
            cases this
        rw [lj_len] at h10
        omega
      obtain ⟨f0, fr, ef⟩ := List.exists_cons_of_ne_nil fne
      have mf : f0 ∈ lj.filter (fun z => decide (z ∉ e.2)) := by rw [ef]; exact List.mem_cons_self
      obtain ⟨mf1, mf2⟩ := List.mem_filter.mp mf
      have nf0 : f0 ∉ e.2 := of_decide_eq_true mf2
      rw [ef] at eD
      refine ⟨_, rfl, D, _, rfl, SqL.of eD, fun q nq => ?_⟩
      rw [show (1 : Int) = ((1 : Nat) : Int) from rfl, Ts.cut_to, ← List.map_take, show (f0 :: fr).take 1 = [f0] from rfl]
      generalize EH9 : upd H8 q _ = H9
      have hq := (congrFun EH9 q).symm.trans upd_same
      have S9 : Same H8 H9 := by rw [← EH9]; exact sameNew nq
      refine ⟨l1, q, _, _, rfl, rfl, S9 _ _ (S8 _ _ hl1), hq, by rw [List.length_map, sizeLine_eq]; show _ + 1 ≤ _; omega, fun c nc => ?_⟩
      generalize EH10 : upd H9 c _ = H10
      have hc := (congrFun EH10 c).symm.trans upd_same
      have S10 : Same H9 H10 := by rw [← EH10]; exact sameNew nc
      refine ⟨c, e.2 ++ [f0], rfl, SqL.of (by rw [List.map_append]; exact hc), by rw [List.length_append]; show _ + 1 < 64; omega, fun ks p2 pk srt2 np2 => ?_⟩
      generalize EH11 : upd H10 p2 _ = H11
      have hp2 := (congrFun EH11 p2).symm.trans upd_same
      have S11 : Same H10 H11 := by rw [← EH11]; exact sameNew np2
      have S711 := S7.trans (S8.trans (S9.trans (S10.trans S11)))
      refine ⟨_, rfl, _, _, rfl, .inr ⟨_, SqT.of (S711 _ _ ct2), rfl⟩, ?_⟩
      refine ⟨_, _, rfl, rfl, _, rfl, ?_⟩
      rw [List.length_map]
      refine iteD (fun c4 => ?_) (fun c4 => ⟨_, _, _, _, _, _, _, _, _, rfl, Si.trans S711⟩)
      have c4 : e.2.length < 4 := by omega
      refine ⟨_, rfl, _, rfl, _, rfl, _, rfl, p2, _, rfl, .inl ⟨SqL.of hp2, fun l2 nl2 => ?_⟩⟩
      generalize EH12 : upd H11 l2 _ = H12
      have hl2 := (congrFun EH12 l2).symm.trans upd_same
      have S12 : Same H11 H12 := by rw [← EH12]; exact sameNew nl2
      have S512 := S5i.trans (S711.trans S12)
      have hp12 := hp5.same S512
      have ks1 : ks.length = e.2.length + 1 := by rw [pk.length_eq, List.length_append]; rfl
      have ndk : ks.Nodup := pk.nodup_iff.mpr (List.nodup_append.mpr ⟨nd_of_asc oc, List.pairwise_singleton _ _, fun a ha b hb z => nf0 (by rw [← List.mem_singleton.mp hb, ← z]; exact ha)⟩)
      have nmk : Nms ks := fun z hz => by
        rcases List.mem_append.mp (pk.mem_iff.mp hz) with g | g
        · exact oc.1 z g
        · rw [List.mem_singleton.mp g]
          exact lj_nm _ mf1
      have okk : ColsOk ks := ⟨nmk, by omega, by omega, asc_of srt2 ndk⟩
      have subk : ∀ z ∈ e.2, z ∈ ks := fun z hz => pk.mem_iff.mpr (List.mem_append_left _ hz)
      have kne : ks ≠ [] := fun z => by rw [z] at ks1; cases ks1
      refine ⟨p, _, "tables", e.1, dt, l2, kt5, S.T.map (·.1), ks.map V.str, ks.map PyData.str, rfl, hp12.at_, by show 3 ≤ 100; decide, es_nd, rfl, .inl (S512 _ _ ht5), keys_ent pT5, hp.ok.tabs.nd, by omega, SqT.of hl2, dp_strs ks, sh_key ks fun z hz => name_ok (nmk z hz), fun H13 D3 q3 S13 nD3 nq3 nDq3 hD3 hq3 => ?_⟩
      have hp13 := hp12.same S13
      have S513 := S512.trans S13
      have pT13 := ent_off (fun _ _ e => ColT.same S513 e) pT5
      refine ⟨⟨putX S.T e.1 ks, S.L, S.W⟩, D3, dk, dw, ⟨by rw [hq3]; rfl, ⟨⟨_, hD3, ?_⟩, hp13.data.keys, hp13.data.ways⟩, hp.ok.moreCols em subk okk, hp.kw⟩, fun y6 H14 S6' r1' r2' r3' S14 hY6 o6 _ _ _ _ => ?_⟩
      · rw [if_neg (fun z => kne (List.map_eq_nil_iff.mp z))]
        exact put_in (S13 _ _ hl2) pT13 hp.ok.tabs.nd hnm
      have hS14 := hS5.same (S513.trans S14)
      refine ⟨x, _, rfl, hS14.own, sch_ty T hY6, T.nfi_Schema, x, S1, et_, ek, ew, .ref y6, rfl, hS14, .inl ⟨y6, S6', r1', r2', r3', rfl, hY6, fun b1 ib => ⟨b1, rfl, ?_⟩⟩⟩
      have eb1 : b1 = false := Bool.eq_false_iff.mpr fun z => by
        have g := o6.t.mem_iff.mp ((ib.mp z).t.mem_iff.mp (srt.t.mem_iff.mpr em))
        rcases putX_mem g with g | g
        · have : e.2 = ks := congrArg Prod.snd g
          rw [← this] at ks1
          omega
        · exact g.2 rfl
      subst eb1
      refine ⟨_, rfl, ?_⟩
      refine iteF ?_
      exact ⟨_, _, _, _, _, _, _, _, _, rfl, Si.trans (S711.trans (S12.trans (S13.trans S14)))⟩
    rintro σ Hi ⟨x7, x8, x9, x10, x11, x12, x13, x14, x15, rfl, Si⟩
    have S5H := S6.trans Si
    have hpH := hp5.same S5H
    have hwH := S5H _ _ hw5
    have pWH := ent_off (fun _ _ e => WayT.same S5H e) pW5
    have hSH := hS5.same S5H
    have RH := roll_same R5 S5H
    have ndW := hp.ok.ways.nd
    generalize S5H = S5H' at *
    refine ⟨_, rfl, p, .ref dw, rfl, .inl ⟨_, .inr "ways", .inl hpH.at_, rfl, rfl⟩, dw, kw5, S.W.map (·.1), rfl, .inl hwH, keys_ent pWH, by rw [List.length_map]; omega, fun ys2 p1 py2 srt1 np1 => ?_⟩
    generalize EH6b : upd Hi p1 _ = H6b
    have hp1' := (congrFun EH6b p1).symm.trans upd_same
    have S6b : Same Hi H6b := by rw [← EH6b]; exact sameNew np1
    refine ⟨p1, rfl, ⟨_, SqL.of hp1'⟩, ?_⟩
    refine for_it (walk_list (K := K) (a := p1) (xs := ys2.map V.str)) (fun i σ Hj => ∃ x4 x7 x8 x9 x10 x11 x12 x13 x14 x15, σ = [some (.ref d), some (.ref x), some (.ref p), some (.ref o), x4, x5, some (.ref y5), x7, x8, x9, x10, x11, x12, x13, x14, x15] ∧ Same H6b Hj) ⟨some (.ref t0), x7, x8, x9, x10, x11, x12, x13, x14, x15, rfl, Same.refl _⟩ (fun i σ Hj hj q => by
      obtain ⟨_, _, _, _, _, _, _, _, _, _, _, q⟩ := q
      exact SqL.of (q _ _ hp1')) ?_ ?_
    · rintro i y σ Hj Hj2 hi ⟨x4, x7, x8, x9, x10, x11, x12, x13, x14, x15, rfl, Sj⟩ ⟨rfl, hy⟩
      rw [List.getElem?_map] at hy
      obtain ⟨n, hn, rfl⟩ := Option.map_eq_some_iff.mp hy
      have hnm : n ∈ S.W.map (·.1) := py2.mem_iff.mp (List.mem_of_getElem? hn)
      obtain ⟨e, em, rfl⟩ := List.mem_map.mp hnm
      have SHj := S6b.trans Sj
      have hpj := hpH.same SHj
      have hwj := SHj _ _ hwH
      have pWj := ent_off (fun _ _ e => WayT.same SHj e) pWH
      obtain ⟨bw, bw1, cc, kd, hbw, hcc, hkd⟩ := val_ent (x := e.1) (y := e.2) pWj ndW em
      have rok := hp.ok.ways.ways _ em
      obtain ⟨tx1, tx2, tx3, tx4⟩ := hp.ok.refTexts em
      refine ⟨_, rfl, p, .ref dw, rfl, .inl ⟨_, .inr "ways", .inl hpj.at_, rfl, rfl⟩, _, rfl, dw, .ref bw, rfl, .inl ⟨kw5, .inr e.1, .inl hwj, rfl, bw1.symm⟩, ?_⟩
      refine ⟨bw, _, rfl, SqT.of hbw, rfl, _, _, rfl, _, _, rfl, _, _, rfl, _, _, rfl, rfl, ?_⟩
      refine ⟨_, rfl, _, rfl, cc, _, rfl, SqT.of hcc, fun r1 nr1 => ?_⟩
      generalize EH7 : upd Hj2 r1 _ = H7
      have hr1 := (congrFun EH7 r1).symm.trans upd_same
      have S7 : Same Hj2 H7 := by rw [← EH7]; exact sameNew nr1
      refine ⟨_, rfl, _, rfl, by show 4 ≤ sizeLine; decide, fun tt ntt => ?_⟩
      generalize EH8 : upd H7 tt _ = H8
      have htt := (congrFun EH8 tt).symm.trans upd_same
      have S8 : Same H7 H8 := by rw [← EH8]; exact sameNew ntt
      have S78 := S7.trans S8
      refine ⟨_, rfl, _, _, rfl, .inr ⟨_, SqT.of (S78 _ _ hcc), rfl⟩, ?_⟩
      refine ⟨_, _, rfl, rfl, _, rfl, ?_⟩
      rw [List.length_map]
      refine and_tail (fun HX => Same H8 HX) (Same.refl _) (fun HX SX => ?_) (fun h => h) (fun c1 tail => ?_)
      · refine iteF ?_
        have SjX := SHj.trans (S78.trans SX)
        have hpX := hpH.same SjX
        have hwX := SjX _ _ hwH
        have pWX := ent_off (fun _ _ e => WayT.same SjX e) pWH
        unfold tNext
        dsimp only
        unfold tSeq
        refine ⟨_, rfl, fun D hD0 => ?_⟩
        refine lc_it (walk_str (z := "abcdefghij")) (fun q Hq => Same HX Hq ∧ Hq D = some (.lst (((lj.take q).filter fun z => decide (z ∉ S.W.map (·.1))).map V.str))) ⟨sameNew hD0, upd_same⟩ ?_ ?_ ?_
        · rintro q Hq hq ⟨Sm, _⟩
          trivial
        · rintro q y Hq Hq2 hq ⟨Sm, eD⟩ ⟨rfl, c, hc, rfl⟩
          have hz : lj[q]? = some ⟨#[c]⟩ := sign_at hc
          refine ⟨rfl, ?_⟩
          refine ⟨_, rfl, _, rfl, p, .ref dw, rfl, .inl ⟨_, .inr "ways", .inl (Sm _ _ hpX.at_), rfl, rfl⟩, dw, _, rfl, DGet.k (k := .inr ⟨#[c]⟩) (Sm _ _ hwX), ?_⟩
          rw [val_some pWX ndW]
          have fl : (lj.take (q + 1)).filter (fun z => decide (z ∉ S.W.map (·.1))) = (lj.take q).filter (fun z => decide (z ∉ S.W.map (·.1))) ++ (if (⟨#[c]⟩ : Str) ∉ S.W.map (·.1) then [⟨#[c]⟩] else []) := by
            rw [take_at hz, List.filter_append]
            by_cases g : (⟨#[c]⟩ : Str) ∈ S.W.map (·.1) <;> simp [g]
          have lq : ((lj.take q).filter (fun z => decide (z ∉ S.W.map (·.1)))).length ≤ 10 := by
            have := List.length_filter_le (fun z => decide (z ∉ S.W.map (·.1))) (lj.take q)
            rw [List.length_take, lj_len] at this
            omega
          refine ⟨_, rfl, ?_⟩
          by_cases g : (⟨#[c]⟩ : Str) ∈ S.W.map (·.1)
          · rw [decide_eq_true g]
            refine iteF ⟨Sm, ?_⟩
            rw [fl, if_neg (fun z => z g), List.append_nil]
            exact eD
          · rw [decide_eq_false g]
            refine iteT ?_
            refine ⟨_, rfl, _, eD, by rw [List.length_map, sizeLine_eq]; omega, same_upd Sm hD0, ?_⟩
            rw [fl, if_pos g, List.map_append]
            exact upd_same
        rintro H9 ⟨S9, eD⟩
        rw [show lj.take (Str.ofString "abcdefghij").cps.size = lj from by decide +kernel] at eD
        have fne : lj.filter (fun z => decide (z ∉ S.W.map (·.1))) ≠ [] := fun z => by
          have h10 := len_sub (B := S.W.map (·.1)) lj_nd fun y my => by
            by_cases c : y ∈ S.W.map (·.1)
            · exact c
            · have : y ∈ lj.filter (fun z => decide (z ∉ S.W.map (·.1))) := List.mem_filter.mpr ⟨my, decide_eq_true c⟩
              rw [z] at this
              cases this
          rw [lj_len, List.length_map] at h10
          omega
        obtain ⟨f0, fr, ef⟩ := List.exists_cons_of_ne_nil fne
        have mf : f0 ∈ lj.filter (fun z => decide (z ∉ S.W.map (·.1))) := by rw [ef]; exact List.mem_cons_self
        obtain ⟨mf1, mf2⟩ := List.mem_filter.mp mf
        have nf0 : f0 ∉ S.W.map (·.1) := of_decide_eq_true mf2
        refine ⟨D, _, 0, .str f0, rfl, rfl, SqL.of eD, by rw [ef]; show atI _ ((0 : Nat) : Int) = _; exact atI_nat rfl, ?_⟩
        have hp9 := hpX.same S9
        have hw9 := S9 _ _ hwX
        refine ⟨_, rfl, p, .ref dw, rfl, .inl ⟨_, .inr "ways", .inl hp9.at_, rfl, rfl⟩, _, rfl, dw, kw5, S.W.map (·.1), e.1, rfl, .inl hw9, keys_ent pWX, ndW, by omega, fun q1 H10 S10 nq1 hq1 => ?_⟩
        have hp10 := hp9.same S10
        refine ⟨_, rfl, _, rfl, p, .ref dw, rfl, .inl ⟨_, .inr "ways", .inl hp10.at_, rfl, rfl⟩, _, rfl, dw, .ref bw, rfl, .inl ⟨kw5, .inr e.1, .inl (S10 _ _ hw9), rfl, bw1.symm⟩, q1, _, f0, .ref bw, rfl, .inl hq1, ((inr_keys pWX ndW).sublist (List.filter_sublist.map _)), Nat.le_trans (List.length_filter_le _ _) (by omega), fun q2 H11 S11 nq2 hq2 => ?_⟩
        have hp11 := hp10.same S11
        refine ⟨_, rfl, _, rfl, _, rfl, p, _, "ways", .ref q2, rfl, .inl hp11.at_, es_nd, by show 3 ≤ 100; decide, fun q3 H12 S12 nq3 hq3 => ?_⟩
        have SX12 := S9.trans (S10.trans (S11.trans S12))
        have hp12 := hpX.same SX12
        have pW12 := ent_off (fun _ _ e => WayT.same SX12 e) pWX
        have nkq : dk ≠ q2 := fun z => by
          obtain ⟨_, g, _⟩ := hp10.data.keys
          rw [z, nq2] at g
          cases g
        have nof : f0 ∉ (S.W.filter fun p => decide (p.1 ≠ e.1)).map (·.1) := fun z => nf0 ((List.filter_sublist.map _).subset z)
        have hbw12 : WayT H12 bw e.2 := WayT.same SX12 (WayT.same (S78.trans SX) ⟨cc, kd, hbw, hcc, hkd⟩)
        refine ⟨q3, ⟨S.T, S.L, S.W.filter (fun p => decide (p.1 ≠ e.1)) ++ [(f0, e.2)]⟩, dt, dk, q2, rfl, ⟨by rw [hq3]; rfl, ⟨hp12.data.tabs, hp12.data.keys, ⟨_, S12 _ _ hq2, ?_⟩⟩, hp.ok.rename em nf0 (lj_nm _ mf1), nkq⟩, fun y7 H13 S7' r1' r2' r3' S13 hY7 o7 _ _ _ _ => ?_⟩
        · rw [putK_new _ (val_no (filt_ent pW12) nof)]
          exact paired_snoc (filt_ent pW12) ⟨rfl, bw, rfl, hbw12⟩
        have hS13 := hSH.same (SjX.trans (SX12.trans S13))
        refine ⟨x, _, rfl, hS13.own, sch_ty T hY7, T.nfi_Schema, x, S1, et_, ek, ew, .ref y7, rfl, hS13, .inl ⟨y7, S7', r1', r2', r3', rfl, hY7, fun b1 ib => ⟨b1, rfl, ?_⟩⟩⟩
        have eb1 : b1 = false := Bool.eq_false_iff.mpr fun z => by
          have g := (o7.w.map (·.1)).mem_iff.mp (((ib.mp z).w.map (·.1)).mem_iff.mp ((srt.w.map _).mem_iff.mpr hnm))
          rw [List.map_append] at g
          rcases List.mem_append.mp g with g | g
          · obtain ⟨q, hq, eq⟩ := List.mem_map.mp g
            exact of_decide_eq_true (List.mem_filter.mp hq).2 eq
          · have g' : e.1 = f0 := List.mem_singleton.mp g
            exact nf0 (g' ▸ hnm)
        subst eb1
        refine ⟨_, rfl, ?_⟩
        refine iteF ?_
        exact ⟨_, _, _, _, _, _, _, _, _, _, rfl, Sj.trans (S78.trans (SX.trans (SX12.trans S13)))⟩
      · have c1 : 1 < e.2.cols.length := by omega
        have hp8 := hpj.same S78
        have hw8 := S78 _ _ hwj
        refine ⟨_, rfl, _, rfl, _, rfl, _, rfl, p, _, "ways", e.1, dw, tt, kw5, S.W.map (·.1), [.str e.2.tab, .ref r1, .str e.2.par, .ref kd], [.str e.2.tab, Sp4.kD e.2.cols.reverse, .str e.2.par, Sp4.kD e.2.key], rfl, hp8.at_, by show 3 ≤ 100; decide, es_nd, rfl, .inl hw8, keys_ent pWj, ndW, by omega, SqT.of htt, .cons (.str _) (.cons (dp_key (SqT.of (by rw [← List.map_reverse] at hr1; exact S8 _ _ hr1))) (.cons (.str _) (.cons (dp_key (SqT.of (S78 _ _ hkd))) .nil))), sh_way tx1 (fun z hz => tx2 z (List.mem_reverse.mp hz)) tx3 tx4, fun H9 D3 q3 S9 nD3 nq3 nDq3 hD3 hq3 => ?_⟩
        have hp9 := hp8.same S9
        have pW9 := ent_off (fun _ _ e => WayT.same (S78.trans S9) e) pWj
        have nkD : dk ≠ D3 := fun z => by
          obtain ⟨_, g, _⟩ := hp8.data.keys
          rw [z, nD3] at g
          cases g
        refine ⟨⟨S.T, S.L, putX S.W e.1 ⟨e.2.tab, e.2.cols.reverse, e.2.par, e.2.key⟩⟩, dt, dk, D3, ⟨by rw [hq3]; rfl, ⟨hp9.data.tabs, hp9.data.keys, ⟨_, hD3, ?_⟩⟩, hp.ok.putWay em rfl rfl rfl (fun c hc => List.mem_reverse.mp hc) List.length_reverse ((List.reverse_perm _).nodup_iff.mpr rok.nd), nkD⟩, fun y6 H10 S6' r1' r2' r3' S10 hY6 o6 _ _ _ _ => ?_⟩
        · rw [if_neg (fun z => by cases z)]
          exact put_in ⟨r1, kd, S9 _ _ htt, by rw [List.map_reverse]; exact S9 _ _ (S8 _ _ hr1), S9 _ _ (S78 _ _ hkd)⟩ pW9 ndW hnm
        have hS10 := hSH.same (SHj.trans (S78.trans (S9.trans S10)))
        refine ⟨x, _, rfl, hS10.own, sch_ty T hY6, T.nfi_Schema, x, S1, et_, ek, ew, .ref y6, rfl, hS10, .inl ⟨y6, S6', r1', r2', r3', rfl, hY6, fun b1 ib => ⟨b1, rfl, ?_⟩⟩⟩
        have eb1 : b1 = false := Bool.eq_false_iff.mpr fun z => by
          have g := o6.w.mem_iff.mp ((ib.mp z).w.mem_iff.mp (srt.w.mem_iff.mpr em))
          rcases putX_mem g with g | g
          · have g : e.2 = ⟨e.2.tab, e.2.cols.reverse, e.2.par, e.2.key⟩ := congrArg Prod.snd g
            exact rev_ne rok.nd c1 (congrArg Way.cols g)
          · exact g.2 rfl
        subst eb1
        refine ⟨_, rfl, ?_⟩
        exact tail _ (S9.trans S10)
    rintro σ Hj ⟨x4, x7, x8, x9, x10, x11, x12, x13, x14, x15, rfl, Sj⟩
    have SHj := S6b.trans Sj
    have hpj := hpH.same SHj
    have hSj := hSH.same SHj
    have RJ := roll_same RH SHj
    obtain ⟨ktj, htj, pTj⟩ := hpj.data.tabs
    refine ⟨_, rfl, _, rfl, p, .ref dt, rfl, .inl ⟨_, .inr "tables", .inl hpj.at_, rfl, rfl⟩, _, rfl, x, rfl, hSj.own, x, S1, et_, ek, ew, rfl, hSj, fun zz H7 S7 => ⟨zz, rfl, ?_⟩⟩
    refine ⟨by show 0 ≤ sizeLine; decide, fun w1 nw1 => ?_⟩
    generalize EH8 : upd H7 w1 _ = H8
    have hw1 := (congrFun EH8 w1).symm.trans upd_same
    have S8 : Same H7 H8 := by rw [← EH8]; exact sameNew nw1
    refine ⟨_, rfl, by show 1 ≤ sizeLine; decide, fun w2 nw2 => ?_⟩
    generalize EH9 : upd H8 w2 _ = H9
    have hw2 := (congrFun EH9 w2).symm.trans upd_same
    have S9 : Same H8 H9 := by rw [← EH9]; exact sameNew nw2
    refine ⟨by show 7 ≤ sizeLine; decide, fun w3 nw3 => ?_⟩
    generalize EH10 : upd H9 w3 _ = H10
    have hw3 := (congrFun EH10 w3).symm.trans upd_same
    have S10 : Same H9 H10 := by rw [← EH10]; exact sameNew nw3
    have S710 := S7.trans (S8.trans (S9.trans S10))
    have hS10 := hSj.same S710
    refine ⟨w3, rfl, ⟨_, SqL.of hw3⟩, fun D hD0 => ?_⟩
    have hall : ∀ y ∈ [V.non, V.int 0, V.ref p, V.ref dt, V.str zz, V.ref w1, V.ref w2], ∀ Hi : Hp, Same H10 Hi → ∃ t, TyX K Hi y t ∧ PySem.W.notFirst K a.c_Schema t = true ∧ PySem.W.kitOne K t (.ref a.c_Schema) = some false := by
      intro y hy Hi Sm
      simp only [List.mem_cons, List.mem_nil_iff, or_false] at hy
      rcases hy with h | h | h | h | h | h | h
      · rw [h]; exact ⟨_, .base .non, T.nfi_NoneType, T.ko_NoneType⟩
      · rw [h]; exact ⟨_, .base (.int 0), T.nfi_int, T.ko_int⟩
      · rw [h]; exact ⟨_, .base (.dK (Sm _ _ (S710 _ _ hpj.at_))), T.nfi_dict, T.ko_dict⟩
      · rw [h]; exact ⟨_, .base (.dK (Sm _ _ (S710 _ _ htj))), T.nfi_dict, T.ko_dict⟩
      · rw [h]; exact ⟨_, .base (.str _), T.nfi_str, T.ko_str⟩
      · rw [h]; exact ⟨_, .base (.tup (Sm _ _ (S10 _ _ (S9 _ _ hw1)))), T.nfi_tuple, T.ko_tuple⟩
      · rw [h]; exact ⟨_, .base (.lst (Sm _ _ (S10 _ _ hw2))), T.nfi_list, T.ko_list⟩
    refine lc_it (walk_list (K := K) (a := w3) (xs := [V.non, V.int 0, V.ref p, V.ref dt, V.str zz, V.ref w1, V.ref w2])) (fun i Hi => Same H10 Hi ∧ Hi D = some (.lst (List.replicate i (V.bl false)))) ⟨sameNew hD0, upd_same⟩ ?_ ?_ ?_
    · rintro i Hi hi ⟨Sm, _⟩
      exact SqL.of (Sm _ _ hw3)
    · rintro i y Hi Hi2 hi ⟨Sm, eD⟩ ⟨rfl, hy⟩
      obtain ⟨t, ty, h1, h2⟩ := hall y (List.mem_of_getElem? hy) _ Sm
      have hi : i < 7 := hi
      refine ⟨rfl, ?_⟩
      dsimp only [tYes]
      rw [if_pos rfl]
      refine ⟨_, rfl, _, rfl, x, t, rfl, (hS10.same Sm).own, ty, h1, x, S1, et_, ek, ew, y, rfl, hS10.same Sm, .inr ⟨t, ty, h2, false, rfl, ?_⟩⟩
      refine ⟨_, eD, by rw [List.length_replicate, sizeLine_eq]; omega, same_upd Sm hD0, ?_⟩
      rw [upd_same, ← List.replicate_succ']
    rintro HZ ⟨SZ, eD⟩
    refine ⟨by show 1 ≤ sizeLine; decide, fun z1 nz1 => ?_⟩
    generalize EHY : upd HZ z1 _ = HY
    have hz1 := (congrFun EHY z1).symm.trans upd_same
    have SY : Same HZ HY := by rw [← EHY]; exact sameNew nz1
    refine ⟨z1, 7, _, rfl, rfl, hz1, by decide, by decide, by show 1 * 7 ≤ sizeLine; decide, fun z2 nz2 => ?_⟩
    generalize EHX : upd HY z2 _ = HX
    have hz2 := (congrFun EHX z2).symm.trans upd_same
    have SX : Same HY HX := by rw [← EHX]; exact sameNew nz2
    have hz2' : HX z2 = some (.lst (List.replicate 7 (V.bl false))) := hz2
    have eDX := SX _ _ (SY _ _ eD)
    have dts : ∀ n, DpAll K HX (List.replicate n (V.bl false)) (List.replicate n (PyData.bool false)) := fun n => by
      induction n with
      | zero => exact .nil
      | succ n ih => exact .cons (.bl false) ih
    refine ⟨.list (List.replicate 7 (.bool false)), .list (List.replicate 7 (.bool false)), .lst (SqL.of eDX) (dts 7), .lst (SqL.of hz2') (dts 7), by decide +kernel, by decide +kernel, ?_⟩
    rw [show PyData.eqv (.list (List.replicate 7 (.bool false))) (.list (List.replicate 7 (.bool false))) = true from by decide +kernel]
    exact k _ (roll_same RJ (S710.trans (SZ.trans (SY.trans SX))))
end
end K04

set_option Elab.async false
set_option linter.all false
set_option maxRecDepth 100000
set_option maxHeartbeats 4000000
open L2 in
local macro_rules | `(tactic| walk_at "q1") => `(tactic| first
  | refine ⟨_, rfl, ?_⟩
  | refine ⟨_, _, rfl, rfl, ?_⟩
  | refine And.intro (show CMul _ _ from Or.inr ⟨by decide, by decide⟩) ?_
  | refine And.intro (show CMul _ _ from Or.inl ⟨by first | decide | omega, by first | decide | omega⟩) ?_
  | refine And.intro (show CMul _ _ from Or.inr ⟨by omega, by omega⟩) ?_
  | refine And.intro (show CDiv _ _ from ⟨by omega, by omega⟩) ?_
  | refine And.intro (show Dt.CPowG _ _ from ⟨by decide, by decide +kernel⟩) ?_
  | refine And.intro (by first | decide | omega) ?_
  | refine And.intro (Int.pow_pos (Int.pow_pos (by decide))) ?_
  | refine ⟨_, _, _, _, rfl, rfl, SqL.of (by first | assumption | exact upd_same), (by rfl), ?_⟩
  | refine ⟨_, _, _, _, rfl, rfl, (by first | assumption | exact upd_same), (by rfl), ?_⟩
  | refine Or.inl ⟨_, rfl, ?_⟩
  | refine Or.inr ⟨_, rfl, ?_⟩)
local macro_rules | `(tactic| walk_at "q") => `(tactic| repeat (walk_at "q1"))
local macro_rules | `(tactic| walk_at "eqt") => `(tactic| (refine ⟨_, rfl, ?_⟩; refine ⟨rfl, ?_⟩; first
  | (refine ⟨true, rfl, ?_⟩; refine L2.iteT ?_)
  | (refine ⟨false, rfl, ?_⟩; refine L2.iteF ?_)))
local macro_rules | `(tactic| walk_at "sz") => `(tactic| (rw [PySem.sizeLine_eq]; simp))
namespace K04
open PySem PySem.Spec PyProof.Rows L2 Dt An Rp Sp4
section
variable {P : Program} {w : World} {K : PySem.W.Frag} {mg : Str → Option Value} {base : Heap} {a : Ads}
def pD (p : Str × List Str) : PyData := Sp4.pairD p.1 p.2
def tlD (T : List (Str × List Str)) : PyData := .list (T.map pD)
theorem eqv_tl : ∀ T : List (Str × List Str), PyData.eqv (tlD T) (tlD T) = true
  | [] => by decide +kernel
  | p :: T => by
    have u : PyData.eqv (tlD (p :: T)) (tlD (p :: T)) = (PyData.eqv (pD p) (pD p) && PyData.eqv (tlD T) (tlD T)) := by
      simp only [tlD, PyData.eqv, PyData.eqvAll, List.map_cons]
    rw [u, eqv_tl T, show PyData.eqv (pD p) (pD p) = true from (eqv_pair _ _ _ _).trans (decide_eq_true ⟨rfl, rfl⟩)]
    rfl
theorem lay_tl : ∀ T : List (Str × List Str), (∀ p ∈ T, PyData.strOk p.1 = true ∧ ∀ x ∈ p.2, PyData.strOk x = true) → PyData.canLayAll0 (T.map pD) = true
  | [], _ => rfl
  | p :: T, h => by
    show ((PyData.strOk p.1 && (PyData.canLayAll0 (p.2.map PyData.str) && true)) && PyData.canLayAll0 (T.map pD)) = true
    obtain ⟨h1, h2⟩ := h p List.mem_cons_self
    rw [lay_tl T fun q m => h q (List.mem_cons_of_mem _ m), h1, lay_strs p.2 h2]
    rfl
theorem dep_tl : ∀ T : List (Str × List Str), PyData.depthAll (T.map pD) ≤ 3
  | [] => by decide
  | p :: T => by
    rw [List.map_cons]
    unfold PyData.depthAll
    refine Nat.max_le.mpr ⟨Nat.succ_le_succ ?_, dep_tl T⟩
    show PyData.depthAll [.str p.1, kD p.2] ≤ 2
    unfold PyData.depthAll
    refine Nat.max_le.mpr ⟨by unfold PyData.depth; decide, ?_⟩
    unfold PyData.depthAll
    exact Nat.max_le.mpr ⟨Nat.succ_le_succ (dep_strs p.2), by unfold PyData.depthAll; decide⟩
theorem sh_tl (T : List (Str × List Str)) (h : ∀ p ∈ T, PyData.strOk p.1 = true ∧ ∀ x ∈ p.2, PyData.strOk x = true) : SeqAt.shaped (tlD T) = true := by
  show (PyData.canLayAll0 (T.map pD) && decide ((tlD T).depth ≤ 64)) = true
  rw [lay_tl T h, decide_eq_true (show (tlD T).depth ≤ 64 from Nat.le_trans (Nat.succ_le_succ (dep_tl T)) (by decide))]
  rfl
theorem asc_pw : ∀ {l : List Str}, Asc l → l.Pairwise fun a b => a.cps.toList < b.cps.toList
  | [], _ => .nil
  | x :: l, h => List.pairwise_cons.mpr ⟨fun y m => asc_lt h y m, asc_pw fun i a b e1 e2 => h (i + 1) a b e1 e2⟩
theorem perm_uniq {α : Type} {lt : α → α → Prop} (asym : ∀ a b, lt a b → ¬ lt b a) : ∀ {A B : List α}, A.Perm B → A.Pairwise lt → B.Pairwise lt → A = B
  | [], B, p, _, _ => (List.nil_perm.mp p).symm
  | a :: A, [], p, _, _ => absurd p.length_eq (by simp)
  | a :: A, b :: B, p, h1, h2 => by
    rw [List.pairwise_cons] at h1 h2
    have ha := p.mem_iff.mp (List.mem_cons_self (a := a) (l := A))
    have hb := p.mem_iff.mpr (List.mem_cons_self (a := b) (l := B))
    have ab : a = b := by
      rcases List.mem_cons.mp ha with e | ma
      · exact e
      · rcases List.mem_cons.mp hb with e | mb
        · exact e.symm
        · exact absurd (h1.1 b mb) (asym _ _ (h2.1 a ma))
    subst ab
    rw [perm_uniq asym (List.Perm.cons_inv p) h1.2 h2.2]
theorem ent_zip {α : Type} {R : Addr → α → Prop} : ∀ {ks : List (Key × V)} {X : List (Str × α)}, Paired (EntOf R) ks X → ∃ Z : List (Addr × (Str × α)), ks = Z.map (fun z => (Sum.inr z.2.1, V.ref z.1)) ∧ X = Z.map (·.2) ∧ ∀ z ∈ Z, R z.1 z.2.2
  | _, _, .nil => ⟨[], rfl, rfl, fun _ m => by cases m⟩
  | _, _, .cons (a := e) (b := x) h t => by
    obtain ⟨Z, e1, e2, e3⟩ := ent_zip t
    obtain ⟨h1, b, h2, h3⟩ := h
    obtain ⟨k, v⟩ := e
    have h1 : k = .inr x.1 := h1
    have h2 : v = .ref b := h2
    subst h1 h2
    refine ⟨(b, x) :: Z, by rw [e1]; rfl, by rw [e2]; rfl, fun z m => ?_⟩
    rcases List.mem_cons.mp m with e | m
    · rw [e]
      exact h3
    · exact e3 z m
theorem dps_of_tl {K : PySem.W.Frag} {H : Hp} : ∀ {γ : Type} (f : γ → Addr) (g : γ → Str × List Str) (L : List γ), (∀ z ∈ L, Dp K H (.ref (f z)) (pD (g z))) → DpAll K H (L.map fun z => V.ref (f z)) ((L.map g).map pD)
  | _, _, _, [], _ => .nil
  | _, f, g, z :: L, h => .cons (h z List.mem_cons_self) (dps_of_tl f g L fun y m => h y (List.mem_cons_of_mem _ m))
theorem at_addr : ∀ {Z : List (Addr × (Str × List Str))} {q : Str × Addr}, q ∈ Z.map (fun z => (z.2.1, z.1)) → ∃ z ∈ Z, q = (z.2.1, z.1) := fun h => by
  obtain ⟨z, m, e⟩ := List.mem_map.mp h
  exact ⟨z, m, e.symm⟩
theorem dps_paired {K : PySem.W.Frag} {H : Hp} {γ δ : Type} (f : γ → Addr) (g : δ → Str × List Str) : ∀ {A : List γ} {B : List δ}, Paired (fun a b => Dp K H (.ref (f a)) (pD (g b))) A B → DpAll K H (A.map fun a => V.ref (f a)) ((B.map g).map pD)
  | _, _, .nil => .nil
  | _, _, .cons h t => .cons h (dps_paired f g t)
theorem maps_paired {α β γ : Type} {P : α → β → Prop} (f : α → γ) (g : β → γ) : ∀ {A : List α} {B : List β}, A.map f = B.map g → (∀ a ∈ A, ∀ b ∈ B, f a = g b → P a b) → Paired P A B
  | [], [], _, _ => .nil
  | [], _ :: _, e, _ => by cases e
  | _ :: _, [], e, _ => by cases e
  | a :: A, b :: B, e, h => .cons (h a List.mem_cons_self b List.mem_cons_self (List.cons.inj e).1) (maps_paired f g (List.cons.inj e).2 fun x hx y hy => h x (List.mem_cons_of_mem _ hx) y (List.mem_cons_of_mem _ hy))
def spRight : Sp := fun vs H Q _ => ∃ d, vs = [.ref d] ∧ Die H d ∧ ∀ H', Rolled d H H' → Q (.bl true) H'
theorem ok_right (T : Txt K mg a) : Rp.FnG P w K mg base CX0 11 a.right a.fd_right ps__law_right spRight := by
  have F := T.F_right
  refine Rp.okG (k := 10) F sc__law_right (fun vs H Q E h => ?_) (fun cdv A outer s H vs Q E hr hg h => ?_)
  · obtain ⟨d, rfl, hD, k⟩ := h
    rfl
  · obtain ⟨d, rfl, hD, k⟩ := h
    have hu := hu_of hr
    refine ⟨_, (pss_cons (ps_par (i := 1) (j := 2) rfl sc__law_right.nd rfl rfl (by decide) rfl rfl (pa_cons (pe_call (ok_schema T) (hr.mono (by decide)) (by rfl) T.g_schema T.F_schema.kp (b_schema T) .nil pass0 (pa_cons (pv 0) (pa_cons pe_int pa_nil))) (pa_cons (pe_call (ok_schema T) (hr.mono (by decide)) (by rfl) T.g_schema T.F_schema.kp (b_schema T) .nil pass0 (pa_cons (pv 0) (pa_cons pe_int pa_nil))) pa_nil)) (by rfl))
      (pss_cons (ps_set (i := 3) sc__law_right.nd rfl (Or.inl rfl) (pe_call (ok_schema_made T) (hr.mono (by decide)) (by rfl) T.g_schema_made T.F_schema_made.kp (b_schema_made T) .nil pass0 (pa_cons (pv 1) pa_nil)))
      (pss_cons (ps_if (PW.pt (pw_or (pt_not (pt_val (Rp.pe_callG (ok_ways_right T) (hr.mono (by decide)) hg (by rfl) T.g_ways_right T.F_ways_right.kp (b_ways_right T) pass0 (pa_cons (pv 3) (pa_cons (pv 1) pa_nil))))) (pw_or1 (pt_not (pt_val (pe_call (ok_less_right T) (hr.mono (by decide)) (by rfl) T.g_less_right T.F_less_right.kp (b_less_right T) .nil pass0 (pa_cons (pv 3) (pa_cons (pv 1) pa_nil)))))))) (pss_one (ps_ret pe_bl)) pss_nil)
      (pss_cons (ps_if (PW.pt (pw_or (pt_not (pt_val (pe_call (ok_rows_right T) (hr.mono (by decide)) (by rfl) T.g_rows_right T.F_rows_right.kp (b_rows_right T) .nil pass0 (pa_cons (pv 0) (pa_cons (pv 3) (pa_cons (pv 1) pa_nil)))))) (pw_or1 (pt_not (pt_val (pe_call (ok_equal_right T) (hr.mono (by decide)) (by rfl) T.g_equal_right T.F_equal_right.kp (b_equal_right T) .nil pass0 (pa_cons (pv 0) (pa_cons (pv 3) (pa_cons (pv 1) (pa_cons (pv 2) pa_nil)))))))))) (pss_one (ps_ret pe_bl)) pss_nil)
      (pss_one (ps_ret (pe_cmpR (op_eqD hr.units) (Li.pe_listItemsR rfl (pe_prop (pv 3) T.cl_Schema T.p_tables (ok_Schema_tables T) (hr.mono (by decide)) (b_Schema_tables T) .nil pass0 rfl) (by rfl) T.list (by decide +kernel)) (Li.pe_sortItems rfl (pe_dget hu (pv 1) pe_str (fun _ _ => rfl)) (by rfl) T.sorted) (nomark _)))))))), ?_⟩
    refine ⟨_, rfl, d, 5, rfl, hD, by decide, by decide, fun p H1 S dt dk dw R1 hp np ndt ndk ndw => ?_⟩
    refine ⟨_, rfl, d, 2, rfl, R1.die, by decide, by decide, fun o H2 So ot ok ow R2 ho no not_ nok now_ => ?_⟩
    refine ⟨_, _, rfl, ?_⟩
    have hp2 := hp.roll R1.die R2
    obtain ⟨kt, ht, pT⟩ := hp.data.tabs
    obtain ⟨kk, hk, pL⟩ := hp.data.keys
    obtain ⟨kw, hw, pW⟩ := hp.data.ways
    obtain ⟨kt2, ht2, pT2⟩ := hp2.data.tabs
    obtain ⟨kk2, hk2, pL2⟩ := hp2.data.keys
    obtain ⟨kw2, hw2, pW2⟩ := hp2.data.ways
    have dis : ∀ c ∈ [dt, dk, dw], c ∉ [ot, ok, ow] := fun c hc hm => by
      simp only [List.mem_cons, List.mem_nil_iff, or_false] at hc hm
      have here : H1 c ≠ none := by
        rcases hc with h | h | h
        · rw [h, ht]; exact fun z => by cases z
        · rw [h, hk]; exact fun z => by cases z
        · rw [h, hw]; exact fun z => by cases z
      rcases hm with h | h | h <;> rw [h] at here
      · exact here not_
      · exact here nok
      · exact here now_
    refine ⟨_, rfl, p, S, dt, dk, dw, rfl, hp2, fun x H3 S1 et_ ek ew S3 hS srt nx net nek new_ => ?_⟩
    have nn2 : ∀ {a c : Addr} {ks : List (Key × V)}, H2 c = some (.dK ks) → H2 a = none → a ≠ c := fun {a c ks} e n z => by rw [z, e] at n; cases n
    have ap : Apart x et_ ek ew p dt dk dw := ⟨⟨nn2 ht2 nx, nn2 ht2 net, nn2 ht2 nek, nn2 ht2 new_⟩, ⟨nn2 hk2 nx, nn2 hk2 net, nn2 hk2 nek, nn2 hk2 new_⟩, ⟨nn2 hw2 nx, nn2 hw2 net, nn2 hw2 nek, nn2 hw2 new_⟩⟩
    have hp3 := hp2.same S3
    have ho3 := ho.same S3
    have R3 : Rolled d H H3 := roll_same (R1.trans R2) S3
    refine ⟨_, rfl, _, rfl, x, p, S, S1, et_, ek, ew, dt, dk, dw, rfl, hS, hp3, srt, ap, fun H4 S4 => ?_⟩
    refine ⟨_, rfl, ?_⟩
    refine iteF ?_
    refine ⟨_, rfl, _, rfl, x, p, S, S1, et_, ek, ew, dt, dk, dw, rfl, hS.same S4, hp3.same S4, srt, ap, fun H5 S5 => ?_⟩
    refine ⟨_, rfl, ?_⟩
    refine iteF ?_
    have S35 := S4.trans S5
    have R5 := roll_same R3 S35
    have hS5 := hS.same S35
    have hp5 := hp3.same S35
    have ho5 := ho3.same S35
    refine ⟨_, rfl, _, rfl, _, rfl, d, x, p, S, S1, et_, ek, ew, dt, dk, dw, rfl, R5.die, hS5, hp5, srt, ap, fun H6 R6 => ?_⟩
    refine ⟨_, rfl, ?_⟩
    refine iteF ?_
    refine ⟨_, rfl, _, rfl, _, rfl, _, rfl, d, x, p, o, S, S1, So, et_, ek, ew, dt, dk, dw, ot, ok, ow, rfl, R6.die, hS5.roll R5.die R6, hp5.roll R5.die R6, ho5.roll R5.die R6, srt, dis, fun H7 R7 => ?_⟩
    refine ⟨_, rfl, ?_⟩
    refine iteF ?_
    have R57 := R6.trans R7
    have hS7 := hS5.roll R5.die R57
    have hp7 := hp5.roll R5.die R57
    obtain ⟨dx, g1, g2, hx⟩ := hS7.at_
    refine ⟨_, rfl, x, dx, _, rfl, hx, x, S1, et_, ek, ew, rfl, hS7, fun D H8 kt8 S8 nD hD8 pD8 => ?_⟩
    refine ⟨D, kt8, rfl, .inl hD8, fun H9 l ts S9 nl nts nil_ hl pts => ?_⟩
    have S79 := S8.trans S9
    have hp9 := hp7.same S79
    obtain ⟨kt9, ht9, pT9⟩ := hp9.data.tabs
    obtain ⟨Z, eZ1, eZ2, eZ3⟩ := ent_zip pT9
    have ndT := hp.ok.tabs.nd
    refine ⟨_, rfl, p, .ref dt, rfl, .inl ⟨_, .inr "tables", .inl hp9.at_, rfl, rfl⟩, dt, Z.map (fun z => (z.2.1, z.1)), rfl, .inl (by rw [ht9, eZ1, List.map_map]; rfl), (by rw [List.map_map]; rw [eZ2, List.map_map] at ndT; exact ndT), fun H10 q ps S10 nq pp srt2 hq hps => ?_⟩
    obtain ⟨Z', pZ, eZ'⟩ := Dh.perm_back (f := fun z : Addr × (Str × List Str) => (z.2.1, z.1)) pp.symm Z rfl
    have nd2 : (Z'.map fun z => z.2.1).Nodup := by
      have e : (Z.map fun z => z.2.1).Nodup := by rw [eZ2, List.map_map] at ndT; exact ndT
      exact ((pZ.map fun z => z.2.1).nodup_iff).mpr e
    have pT2 : (Z'.map (·.2)).Perm S.T := by rw [eZ2]; exact pZ.map _
    have pw2 : (Z'.map (·.2)).Pairwise fun a b => a.1.cps.toList < b.1.cps.toList := by
      have a1 : (ps.map (·.2)).Pairwise fun a b => ¬ b.1.cps.toList < a.1.cps.toList := List.pairwise_map.mpr srt2
      rw [← eZ'] at a1
      have a2 := List.pairwise_map.mp a1
      have a3 : Z'.Pairwise fun a b => a.2.1 ≠ b.2.1 := List.pairwise_map.mp nd2
      refine List.pairwise_map.mpr ((a2.and a3).imp fun {a b} h => ?_)
      exact lt_of_not (by rw [PyProof.Rows.ltCps_eq]; exact decide_eq_false h.1) h.2
    have pw1 : S1.T.Pairwise fun a b => a.1.cps.toList < b.1.cps.toList := (List.pairwise_map (f := fun p : Str × List Str => p.1) (R := fun a b : Str => a.cps.toList < b.cps.toList)).mp (asc_pw (asc_of srt.st hS.ok.tabs.nd))
    have eT : S1.T = Z'.map (·.2) := perm_uniq (lt := fun a b : Str × List Str => a.1.cps.toList < b.1.cps.toList) (fun a b h1 h2 => List.lt_irrefl _ (List.lt_trans h1 h2)) (srt.t.trans pT2.symm) pw1 pw2
    obtain ⟨Z3, f1, f2, f3, f4⟩ := zip3 pts pD8
    have left : Dp K H10 (.ref l) (tlD S1.T) := by
      refine .lst (SqL.of (S10 _ _ hl)) ?_
      rw [f1, f3, List.map_map]
      refine dps_of_tl (fun z : Addr × (Key × V) × (Str × List Str) => z.1) (fun z => z.2.2) Z3 fun z hz => ?_
      obtain ⟨h1, h2, b, h3, h4⟩ := f4 z hz
      rw [h2, h3] at h1
      exact .tup (SqT.of (S10 _ _ h1)) (.cons (.str _) (.cons (dp_key (SqT.of (S10 _ _ (S9 _ _ h4)))) .nil))
    have right : Dp K H10 (.ref q) (tlD (Z'.map (·.2))) := by
      refine .lst (SqL.of hq) (dps_paired (fun z : Addr × Str × Addr => z.1) (fun z : Addr × (Str × List Str) => z.2) (maps_paired (·.2) (fun z : Addr × (Str × List Str) => (z.2.1, z.1)) eZ'.symm fun a ha b hb e => ?_))
      have h1 := hps a ha
      rw [show a.2.1 = b.2.1 from congrArg Prod.fst e, show a.2.2 = b.1 from congrArg Prod.snd e] at h1
      exact .tup (SqT.of h1) (.cons (.str _) (.cons (dp_key (SqT.of (S10 _ _ (eZ3 b (pZ.mem_iff.mp hb))))) .nil))
    rw [← eT] at right
    have shp := sh_tl S1.T fun q hq => ⟨hS.ok.tabName (List.mem_map_of_mem hq), hS.ok.texts (t := q.1) hq⟩
    refine ⟨tlD S1.T, tlD S1.T, left, right, shp, shp, ?_⟩
    rw [eqv_tl]
    exact k _ (roll_same (R5.trans R57) (S79.trans S10))
end
end K04

set_option Elab.async false
set_option linter.all false
set_option maxRecDepth 100000
set_option maxHeartbeats 4000000
open L2 in
local macro_rules | `(tactic| walk_at "q1") => `(tactic| first
  | refine ⟨_, rfl, ?_⟩
  | refine ⟨_, _, rfl, rfl, ?_⟩
  | refine And.intro (show CMul _ _ from Or.inr ⟨by decide, by decide⟩) ?_
  | refine And.intro (show CMul _ _ from Or.inl ⟨by first | decide | omega, by first | decide | omega⟩) ?_
  | refine And.intro (show CMul _ _ from Or.inr ⟨by omega, by omega⟩) ?_
  | refine And.intro (show CDiv _ _ from ⟨by omega, by omega⟩) ?_
  | refine And.intro (show Dt.CPowG _ _ from ⟨by decide, by decide +kernel⟩) ?_
  | refine And.intro (by first | decide | omega) ?_
  | refine And.intro (Int.pow_pos (Int.pow_pos (by decide))) ?_
  | refine ⟨_, _, _, _, rfl, rfl, SqL.of (by first | assumption | exact upd_same), (by rfl), ?_⟩
  | refine ⟨_, _, _, _, rfl, rfl, (by first | assumption | exact upd_same), (by rfl), ?_⟩
  | refine Or.inl ⟨_, rfl, ?_⟩
  | refine Or.inr ⟨_, rfl, ?_⟩)
local macro_rules | `(tactic| walk_at "q") => `(tactic| repeat (walk_at "q1"))
local macro_rules | `(tactic| walk_at "eqt") => `(tactic| (refine ⟨_, rfl, ?_⟩; refine ⟨rfl, ?_⟩; first
  | (refine ⟨true, rfl, ?_⟩; refine L2.iteT ?_)
  | (refine ⟨false, rfl, ?_⟩; refine L2.iteF ?_)))
local macro_rules | `(tactic| walk_at "sz") => `(tactic| (rw [PySem.sizeLine_eq]; simp))
namespace K04
open PySem PySem.Spec PyProof.Rows L2 Dt An Rp Sp4
section
variable {P : Program} {w : World} {K : PySem.W.Frag} {mg : Str → Option Value} {base : Heap} {a : Ads}
theorem count_of (L : Nat) : ∃ m : Nat, (if (if (L : Int) < 4 then (L : Int) else 4) > 1 then (if (L : Int) < 4 then (L : Int) else 4) else 1) = (m : Int) ∧ m ≤ 4 := by
  by_cases h : (L : Int) < 4
  · rw [if_pos h]
    by_cases h1 : (L : Int) > 1
    · rw [if_pos h1]
      exact ⟨L, rfl, by omega⟩
    · rw [if_neg h1]
      exact ⟨1, rfl, by decide⟩
  · rw [if_neg h]
    exact ⟨4, rfl, by decide⟩
def sg : List Str := Lx.signs "pqrst"
def T5 : List (Str × List Str) := sg.map fun n => (n, ["a", "b"])
def L5 : List (Str × List (List Str)) := sg.map fun n => (n, [["a"], ["b"]])
def W4 : List (Str × Way) := ((Lx.signs "pqrs").zip (Lx.signs "qrst")).map fun z => (z.1 ++ z.2, ⟨z.1, ["b"], z.2, ["a"]⟩)
def W2 : List (Str × Way) := [("x", ⟨"p", ["b"], "q", ["a"]⟩), ("y", ⟨"p", ["b"], "q", ["a"]⟩), ("z", ⟨"p", ["a"], "r", ["a"]⟩), ("w", ⟨"q", ["b"], "r", ["a"]⟩)]
theorem colsAB : ColsOk ["a", "b"] := ⟨by unfold Nms; decide +kernel, by decide, by decide, asc_of (by decide +kernel) (by decide +kernel)⟩
theorem keyA : KeyOk ["a", "b"] ["a"] := ⟨by decide, by decide, by decide +kernel, asc_of (by decide +kernel) (by decide +kernel)⟩
theorem keyB : KeyOk ["a", "b"] ["b"] := ⟨by decide, by decide, by decide +kernel, asc_of (by decide +kernel) (by decide +kernel)⟩
theorem keysAB : KeysOk ["a", "b"] [["a"], ["b"]] := ⟨by decide, by decide, fun k hk => by
    rcases List.mem_cons.mp hk with e | e
    · rw [e]; exact keyA
    · rw [List.mem_singleton.mp e]; exact keyB, fun a b h1 h2 => by
    cases h1
    cases h2
    decide +kernel⟩
theorem t5_ok : TabsOk T5 := ⟨by decide +kernel, by decide +kernel, by unfold Nms; decide +kernel, by decide +kernel, fun p hp => by
  obtain ⟨n, _, rfl⟩ := List.mem_map.mp hp
  exact colsAB⟩
theorem l5_ok : KeysD T5 L5 := ⟨by decide +kernel, fun p hp => by
  obtain ⟨n, hn, rfl⟩ := List.mem_map.mp hp
  exact ⟨_, List.mem_map.mpr ⟨n, hn, rfl⟩, keysAB⟩⟩
theorem ways_ok {W : List (Str × Way)} (n4 : W.length ≤ 4) (nm : Nms (W.map (·.1))) (nd : (W.map (·.1)).Nodup) (all : ∀ p ∈ W, p.2.tab ∈ sg ∧ p.2.par ∈ sg ∧ p.2.tab ≠ p.2.par ∧ (p.2.cols = (["a"] : List Str) ∨ p.2.cols = (["b"] : List Str)) ∧ p.2.key = (["a"] : List Str))
    (rk : ∀ s ∈ steps W, pos sg s.1 < pos sg s.2) : WaysD T5 L5 W := ⟨n4, nm, nd, fun p hp => by
  obtain ⟨h1, h2, h3, h4, h5⟩ := all p hp
  refine ⟨⟨["a", "b"], List.mem_map.mpr ⟨_, h1, rfl⟩, ?_⟩, List.mem_map.mpr ⟨_, List.mem_map.mpr ⟨_, h2, rfl⟩, rfl⟩, h3, ⟨[["a"], ["b"]], List.mem_map.mpr ⟨_, h2, rfl⟩, by rw [h5]; exact List.mem_cons_self⟩, ?_, ?_⟩
  · rcases h4 with e | e <;> rw [e] <;> decide +kernel
  · rw [h5]
    rcases h4 with e | e <;> rw [e] <;> rfl
  · rcases h4 with e | e <;> rw [e] <;> decide +kernel, ⟨pos sg, rk⟩⟩
theorem w4_rk : ∀ s ∈ steps W4, pos sg s.1 < pos sg s.2 := by decide +kernel
theorem w2_rk : ∀ s ∈ steps W2, pos sg s.1 < pos sg s.2 := by decide +kernel
theorem s5_ok : SchOk ⟨T5, L5, W4⟩ := ⟨t5_ok, l5_ok, ways_ok (by decide +kernel) (by unfold Nms; decide +kernel) (by decide +kernel) (by decide +kernel) w4_rk⟩
theorem s2_ok : SchOk ⟨T5, L5, W2⟩ := ⟨t5_ok, l5_ok, ways_ok (by decide +kernel) (by unfold Nms; decide +kernel) (by decide +kernel) (by decide +kernel) w2_rk⟩
theorem lead {S : Sch} {W0 : List (Str × Way)} (p : S.W.Perm W0) (rk : ∀ s ∈ steps W0, pos sg s.1 < pos sg s.2) (n : W0.length ≤ 5) (t u : Str) {b : Bool} (ib : b = true ↔ Reach (steps S.W) t u) : b = decide (u ∈ turns t (steps W0) 5) := by
  refine bool_iff (ib.trans (Iff.trans ⟨fun ⟨m, q⟩ => ⟨m, path_sub (fun s h => (p.map _).mem_iff.mp h) q⟩, fun ⟨m, q⟩ => ⟨m, path_sub (fun s h => (p.map _).mem_iff.mpr h) q⟩⟩ (Iff.trans (reach5 ⟨pos sg, rk⟩ (by show (W0.map _).length ≤ 5; rw [List.length_map]; exact n) t u).symm (decide_eq_true_iff).symm)))
def pk {α : Type} (z : Addr × (Str × α)) : Key × V := (Sum.inr z.2.1, V.ref z.1)
abbrev PZ {α : Type} (R : Hp → Addr → α → Prop) (H : Hp) (es : List Addr) (Zs : List (Addr × (Str × α))) : Prop := Paired (fun e z => H e = some (.tup [.str z.2.1, .ref z.1]) ∧ R H z.1 z.2.2) es Zs
theorem pd1 {K : PySem.W.Frag} {α : Type} {R : Hp → Addr → α → Prop} {H : Hp} : ∀ {es : List Addr} {Zs : List (Addr × (Str × α))}, PZ R H es Zs → Paired (fun p (kv : Key × V) => SqT K H p [kV kv.1, kv.2]) es (Zs.map pk)
  | _, _, .nil => .nil
  | _, _, .cons h t => .cons (SqT.of h.1) (pd1 t)
theorem pd2 {α : Type} {R : Hp → Addr → α → Prop} {H H1 : Hp} (mono : ∀ {b : Addr} {x : α}, R H b x → R H1 b x) : ∀ {es : List Addr} {Zs : List (Addr × (Str × α))}, PZ R H es Zs → Paired (EntOf (R H1)) (Zs.map pk) (Zs.map (·.2))
  | _, _, .nil => .nil
  | _, _, .cons h t => .cons ⟨rfl, _, rfl, mono h.2⟩ (pd2 mono t)
theorem pd3 {α : Type} {Zs : List (Addr × (Str × α))} {X : List (Str × α)} (e : Zs.map (·.2) = X) (nd : (X.map (·.1)).Nodup) : mergeK [] (Zs.map pk) = Zs.map pk := by
  refine merge_self (nd_keys (ks := X.map (·.1)) ?_ nd)
  rw [← e, List.map_map, List.map_map, List.map_map]
  rfl
def W4c : List (Str × Way) := W4.filter fun p => decide (p.1 ≠ "qr")
theorem w4c_rk : ∀ s ∈ steps W4c, pos sg s.1 < pos sg s.2 := by decide +kernel
theorem kept {S S7 : Sch} (ok : SchOk S) (ok7 : SchOk S7) {t : Str} {k : List Str} {ks left : List (List Str)} (m : (t, ks) ∈ S.L) (lf : ks.filter (fun z => decide (z ≠ k)) = left) (ne : left ≠ []) (o : SortOf (dropKey S t k) S7) : valsOf S7.L t = left := by
  refine vals_in ok7.keys.nd (o.k.mem_iff.mpr ?_)
  show (t, left) ∈ (_ ++ (if (valsOf S.L t).filter _ = [] then _ else _) : List (Str × List (List Str)))
  rw [vals_in ok.keys.nd m, lf, if_neg ne]
  exact List.mem_append_right _ (List.mem_singleton.mpr rfl)
theorem not_used {S : Sch} {W0 : List (Str × Way)} (p : S.W.Perm W0) {t : Str} {k : List Str} (h : ∀ q ∈ W0, ¬ (q.2.par = t ∧ q.2.key = k)) : ¬ usedKey S t k := fun ⟨q, m, a, b⟩ => h q (p.mem_iff.mp m) ⟨a, b⟩
theorem way_sort {S1 : Sch} {W0 W1 : List (Str × Way)} (ok : SchOk S1) (p : S1.W.Perm W0) (st : sortedS (S1.W.map (·.1)) = true) (q : W1.Perm W0) (pw : W1.Pairwise fun a b => a.1.cps.toList < b.1.cps.toList) : S1.W = W1 :=
  perm_uniq (lt := fun a b : Str × Way => a.1.cps.toList < b.1.cps.toList) (fun a b h1 h2 => List.lt_irrefl _ (List.lt_trans h1 h2)) (p.trans q.symm) ((List.pairwise_map (f := fun p : Str × Way => p.1) (R := fun a b : Str => a.cps.toList < b.cps.toList)).mp (asc_pw (asc_of st ok.ways.nd))) pw
def W2s : List (Str × Way) := [("w", ⟨"q", ["b"], "r", ["a"]⟩), ("x", ⟨"p", ["b"], "q", ["a"]⟩), ("y", ⟨"p", ["b"], "q", ["a"]⟩), ("z", ⟨"p", ["a"], "r", ["a"]⟩)]
theorem w2_perm : W2s.Perm W2 := List.perm_append_comm (l₁ := ([("w", ⟨"q", ["b"], "r", ["a"]⟩)] : List (Str × Way))) (l₂ := ([("x", ⟨"p", ["b"], "q", ["a"]⟩), ("y", ⟨"p", ["b"], "q", ["a"]⟩), ("z", ⟨"p", ["a"], "r", ["a"]⟩)] : List (Str × Way)))
theorem w2_pw : W2s.Pairwise fun a b => a.1.cps.toList < b.1.cps.toList := by decide +kernel
def W3 : List (Str × Way) := W2.filter fun p => decide (p.1 ≠ "x")
def W3s : List (Str × Way) := W2s.filter fun p => decide (p.1 ≠ "x")
theorem w3_perm : W3s.Perm W3 := w2_perm.filter _
theorem w3_pw : W3s.Pairwise fun a b => a.1.cps.toList < b.1.cps.toList := by decide +kernel
theorem w3_rk : ∀ s ∈ steps W3, pos sg s.1 < pos sg s.2 := by decide +kernel
def spLaw (K : PySem.W.Frag) : Sp := fun vs H Q _ => ∃ (s : Addr) (ns : List Int), vs = [.ref s] ∧ SqL K H s (ns.map V.int) ∧ ns.length ≤ 63 ∧ ∀ H', Q (.bl true) H'
theorem ok_law (T : Txt K mg a) : Rp.FnG P w K mg base CX0 12 a.law a.fd_law ps_law (spLaw K) := by
  have F := T.F_law
  refine Rp.okG (k := 11) F sc_law (fun vs H Q E h => ?_) (fun cdv A outer s H vs Q E hr hg h => ?_)
  · obtain ⟨s0, ns, rfl, hS, hl, k⟩ := h
    rfl
  · obtain ⟨s0, ns, rfl, hS, hl, k⟩ := h
    have hu := hu_of hr
    obtain ⟨kmv, kbS⟩ := kb_Schema___init__ T
    refine ⟨_, (pss_cons (ps_for PassesOwn.never rfl (pi_range1 (by rfl) T.range (pa_cons (pe_callB (call_max2 rfl) (by rfl) T.max (by decide +kernel) (pa_cons pe_int (pa_cons (pe_callB (call_min2 rfl) (by rfl) T.min (by decide +kernel) (pa_cons pe_int (pa_cons (pe_callB call_len (by rfl) T.len (by decide +kernel) (pa_cons (pv 0) pa_nil)) pa_nil))) pa_nil))) pa_nil)) (pg_name (i := 1) sc_law.nd rfl (Or.inl rfl)) (pss_cons (ps_set (i := 2) sc_law.nd rfl (Or.inl rfl) (pe_call (ok_dice T) (hr.mono (by decide)) (by rfl) T.g_dice T.F_dice.kp (b_dice T) .nil pass0 (pa_cons (pv 0) (pa_cons (pv 1) pa_nil))))
      (pss_one (ps_for PassesOwn.never rfl (pi_range1 (by rfl) T.range (pa_cons pe_int pa_nil)) (pg_name (i := 3) sc_law.nd rfl (Or.inl rfl)) (pss_one (ps_if (pt_not (pt_val (Rp.pe_callG (ok_right T) (hr.mono (by decide)) hg (by rfl) T.g_right T.F_right.kp (b_right T) pass0 (pa_cons (pv 2) pa_nil)))) (pss_one (ps_ret pe_bl)) pss_nil))))))
      (pss_cons (ps_set (i := 4) sc_law.nd rfl (Or.inl rfl) (pe_callTy (call_dictP rfl) (by rfl) T.dict (by decide +kernel) (pa_cons (pe_lc (own := [("_law_one", 5)]) rfl sc_law.nd (pi_str pe_str) (blkOk_by (N := nm_law) (sc := defScope s_law) (by decide +kernel)) (fun _ _ _ _ _ => (pg_name (i := 5) sc_law.nd rfl (Or.inl rfl))) (fun _ _ _ _ _ => pts_nil) (fun _ _ _ _ _ => (pe_tup (pa_cons (pv 5) (pa_cons (pe_tup (pa_cons pe_str (pa_cons pe_str pa_nil))) pa_nil))))) pa_nil)))
      (pss_cons (ps_set (i := 6) sc_law.nd rfl (Or.inl rfl) (pe_callTy (call_dictP rfl) (by rfl) T.dict (by decide +kernel) (pa_cons (pe_lc (own := [("_law_one", 5)]) rfl sc_law.nd (pi_str pe_str) (blkOk_by (N := nm_law) (sc := defScope s_law) (by decide +kernel)) (fun _ _ _ _ _ => (pg_name (i := 5) sc_law.nd rfl (Or.inl rfl))) (fun _ _ _ _ _ => pts_nil) (fun _ _ _ _ _ => (pe_tup (pa_cons (pv 5) (pa_cons (pe_tup (pa_cons (pe_tup (pa_cons pe_str pa_nil)) (pa_cons (pe_tup (pa_cons pe_str pa_nil)) pa_nil))) pa_nil))))) pa_nil)))
      (pss_cons (ps_set (i := 7) sc_law.nd rfl (Or.inl rfl) (pe_callTy (call_dictP rfl) (by rfl) T.dict (by decide +kernel) (pa_cons (pe_lc (own := [("_law_one", 5), ("_law_two", 8)]) rfl sc_law.nd (Zs.pi_zipS (by rfl) T.zip (pa_cons pe_str (pa_cons pe_str pa_nil))) (blkOk_by (N := nm_law) (sc := defScope s_law) (by decide +kernel)) (fun _ _ _ _ _ => (show PG _ _ (gTup K 2 (gCons (gName 5) (gCons (gName 8) gNil))) from pg_tup rfl (pgs_cons (pg_name (i := 5) sc_law.nd rfl (Or.inl rfl)) (pgs_cons (pg_name (i := 8) sc_law.nd rfl (Or.inl rfl)) pgs_nil)))) (fun _ _ _ _ _ => pts_nil) (fun _ _ _ _ _ => (pe_tup (pa_cons (pe_op op_add_str (pv 5) (pv 8)) (pa_cons (pe_tup (pa_cons (pv 5) (pa_cons (pe_tup (pa_cons pe_str pa_nil)) (pa_cons (pv 8) (pa_cons (pe_tup (pa_cons pe_str pa_nil)) pa_nil))))) pa_nil))))) pa_nil)))
      (pss_cons (ps_set (i := 9) sc_law.nd rfl (Or.inl rfl) (pe_makeK T.mk_Schema (ok_Schema___init__ T) (hr.mono (by decide)) (by rfl) T.g_c_Schema kbS never (pa_cons (pv 4) pa_nil) (pk_cons (pv 6) (pk_cons (pv 7) pk_nil))))
      (pss_cons (ps_set (i := 10) sc_law.nd rfl (Or.inl rfl) (pe_lst (pa_cons (pe_meth (pv 9) T.cl_Schema T.m_leads_to (ok_Schema_leads_to T) (hr.mono (by decide)) (b_Schema_leads_to T) .nil pass0 (pa_cons pe_str (pa_cons pe_str pa_nil))) (pa_cons (pe_meth (pv 9) T.cl_Schema T.m_leads_to (ok_Schema_leads_to T) (hr.mono (by decide)) (b_Schema_leads_to T) .nil pass0 (pa_cons pe_str (pa_cons pe_str pa_nil))) (pa_cons (pe_meth (pv 9) T.cl_Schema T.m_leads_to (ok_Schema_leads_to T) (hr.mono (by decide)) (b_Schema_leads_to T) .nil pass0 (pa_cons pe_str (pa_cons pe_str pa_nil))) (pa_cons (pe_meth (pv 9) T.cl_Schema T.m_leads_to (ok_Schema_leads_to T) (hr.mono (by decide)) (b_Schema_leads_to T) .nil pass0 (pa_cons pe_str (pa_cons pe_str pa_nil))) pa_nil))))))
      (pss_cons (ps_set (i := 11) sc_law.nd rfl (Or.inl rfl) (pe_meth (pv 9) T.cl_Schema T.m_without_reference (ok_Schema_without_reference T) (hr.mono (by decide)) (b_Schema_without_reference T) .nil never (pa_cons pe_str pa_nil)))
      (pss_cons (ps_set (i := 10) sc_law.nd rfl (Or.inl rfl) (pe_op op_cat (pv 10) (pe_lst (pa_cons (pe_meth (pv 11) T.cl_Schema T.m_leads_to (ok_Schema_leads_to T) (hr.mono (by decide)) (b_Schema_leads_to T) .nil pass0 (pa_cons pe_str (pa_cons pe_str pa_nil))) (pa_cons (pe_meth (pv 11) T.cl_Schema T.m_leads_to (ok_Schema_leads_to T) (hr.mono (by decide)) (b_Schema_leads_to T) .nil pass0 (pa_cons pe_str (pa_cons pe_str pa_nil))) pa_nil)))))
      (pss_cons (ps_if (PW.pt (pw_or (pt_cmpR (op_neD hr.units) (pv 10) (pe_lst (pa_cons pe_bl (pa_cons pe_bl (pa_cons pe_bl (pa_cons pe_bl (pa_cons pe_bl (pa_cons pe_bl pa_nil))))))) (nomark _)) (pw_or1 (pt_cmpR (op_neD hr.units) (pe_meth (pe_meth (pv 11) T.cl_Schema T.m_without_key (ok_Schema_without_key T) (hr.mono (by decide)) (b_Schema_without_key T) .nil never (pa_cons pe_str (pa_cons (pe_tup (pa_cons pe_str pa_nil)) pa_nil))) T.cl_Schema T.m_keys_of (ok_Schema_keys_of T) (hr.mono (by decide)) (b_Schema_keys_of T) .nil never (pa_cons pe_str pa_nil)) (pe_tup (pa_cons (pe_tup (pa_cons pe_str pa_nil)) pa_nil)) (nomark _))))) (pss_one (ps_ret pe_bl)) pss_nil)
      (pss_cons (ps_if (pt_cmpR (op_neD hr.units) (pe_meth (pe_meth (pv 9) T.cl_Schema T.m_without_key (ok_Schema_without_key T) (hr.mono (by decide)) (b_Schema_without_key T) .nil never (pa_cons pe_str (pa_cons (pe_tup (pa_cons pe_str pa_nil)) pa_nil))) T.cl_Schema T.m_keys_of (ok_Schema_keys_of T) (hr.mono (by decide)) (b_Schema_keys_of T) .nil never (pa_cons pe_str pa_nil)) (pe_tup (pa_cons (pe_tup (pa_cons pe_str pa_nil)) pa_nil)) (nomark _)) (pss_one (ps_ret pe_bl)) pss_nil)
      (pss_cons (ps_set (i := 7) sc_law.nd rfl (Or.inl rfl) (pe_disp (pps_cons pe_str (pe_tup (pa_cons pe_str (pa_cons (pe_tup (pa_cons pe_str pa_nil)) (pa_cons pe_str (pa_cons (pe_tup (pa_cons pe_str pa_nil)) pa_nil))))) (pps_cons pe_str (pe_tup (pa_cons pe_str (pa_cons (pe_tup (pa_cons pe_str pa_nil)) (pa_cons pe_str (pa_cons (pe_tup (pa_cons pe_str pa_nil)) pa_nil))))) (pps_cons pe_str (pe_tup (pa_cons pe_str (pa_cons (pe_tup (pa_cons pe_str pa_nil)) (pa_cons pe_str (pa_cons (pe_tup (pa_cons pe_str pa_nil)) pa_nil))))) pps_nil))) (by rfl) (by rfl) (fun z => by cases z) (by decide)))
      (pss_cons (ps_set (i := 12) sc_law.nd rfl (Or.inl rfl) (pe_makeK T.mk_Schema (ok_Schema___init__ T) (hr.mono (by decide)) (by rfl) T.g_c_Schema kbS never (pa_cons (pv 4) pa_nil) (pk_cons (pv 6) (pk_cons (pe_call (ok_with T) (hr.mono (by decide)) (by rfl) T.g_with T.F_with.kp (b_with T) .nil pass0 (pa_cons (pv 7) (pa_cons pe_str (pa_cons (pe_tup (pa_cons pe_str (pa_cons (pe_tup (pa_cons pe_str pa_nil)) (pa_cons pe_str (pa_cons (pe_tup (pa_cons pe_str pa_nil)) pa_nil))))) pa_nil)))) pk_nil))))
      (pss_cons (ps_set (i := 13) sc_law.nd rfl (Or.inl rfl) (pe_meth (pv 12) T.cl_Schema T.m_without_reference (ok_Schema_without_reference T) (hr.mono (by decide)) (b_Schema_without_reference T) .nil never (pa_cons pe_str pa_nil)))
      (pss_cons (ps_set (i := 10) sc_law.nd rfl (Or.inl rfl) (pe_lst (pa_cons (pe_meth (pv 12) T.cl_Schema T.m_references_of (ok_Schema_references_of T) (hr.mono (by decide)) (b_Schema_references_of T) .nil never (pa_cons pe_str pa_nil)) (pa_cons (pe_meth (pv 13) T.cl_Schema T.m_references_of (ok_Schema_references_of T) (hr.mono (by decide)) (b_Schema_references_of T) .nil never (pa_cons pe_str pa_nil)) (pa_cons (pe_meth (pv 12) T.cl_Schema T.m_leads_to (ok_Schema_leads_to T) (hr.mono (by decide)) (b_Schema_leads_to T) .nil pass0 (pa_cons pe_str (pa_cons pe_str pa_nil))) (pa_cons (pe_meth (pv 12) T.cl_Schema T.m_leads_to (ok_Schema_leads_to T) (hr.mono (by decide)) (b_Schema_leads_to T) .nil pass0 (pa_cons pe_str (pa_cons pe_str pa_nil))) pa_nil))))))
      (pss_one (ps_ret (pe_and (pe_cmpR (op_eqD hr.units) (pv 10) (pe_lst (pa_cons (pe_tup (pa_cons pe_str (pa_cons pe_str (pa_cons pe_str pa_nil)))) (pa_cons (pe_tup (pa_cons pe_str (pa_cons pe_str pa_nil))) (pa_cons pe_bl (pa_cons pe_bl pa_nil))))) (nomark _)) (pe_and (pe_cmpR (Ow.op_neO ⟨T.fi__eq__, T.fn__eq__, ok_Schema___eq__ T, b_Schema___eq__ T⟩ T.ne_A T.so_A (hr.mono (by decide)) pass0) (pv 13) (pv 12) (nomark _)) (pe_one (pe_meth (pv 13) T.cl_Schema T.m_leads_to (ok_Schema_leads_to T) (hr.mono (by decide)) (b_Schema_leads_to T) .nil pass0 (pa_cons pe_str (pa_cons pe_str pa_nil)))))))))))))))))))))), ?_⟩
    have hL : LenV K (.ref s0) H ns.length := .inl ⟨_, hS, by rw [List.length_map]⟩
    refine ⟨_, rfl, ?_⟩
    refine ⟨_, _, rfl, hL, ?_⟩
    refine ⟨4, _, rfl, ?_⟩
    refine ⟨1, _, rfl, ?_⟩
    obtain ⟨m, hm, h12⟩ := count_of ns.length
    rw [hm]
    refine ⟨(m : Int), rfl, by omega, by omega, ?_⟩
    rw [Int.toNat_natCast]
    refine for_range (lo := 0) (n := m) (fun i σ H1 => ∃ x1 x2 x3, σ = [some (.ref s0), x1, x2, x3, none, none, none, none, none, none, none, none, none, none] ∧ SqL K H1 s0 (ns.map V.int)) ?_ ?_ ?_
    · exact ⟨_, _, _, rfl, hS⟩
    · rintro i σ H1 hi ⟨x1, x2, x3, rfl, hS1⟩
      rw [Int.zero_add]
      refine ⟨_, rfl, _, rfl, s0, ns, i, rfl, hS1, hl, by omega, fun p H2 np hp S2 => ?_⟩
      refine ⟨_, rfl, by decide, by decide, ?_⟩
      refine for_range (lo := 0) (n := 2) (fun j σ Hj => ∃ x3, σ = [some (.ref s0), some (.int (i : Int)), some (.ref p), x3, none, none, none, none, none, none, none, none, none, none] ∧ Rolled p H2 Hj) ⟨_, rfl, Rolled.refl hp⟩ ?_ ?_
      · rintro j σ Hj hj ⟨x3, rfl, Rj⟩
        refine ⟨_, rfl, p, rfl, Rj.die, fun H3 R3 => ?_⟩
        refine ⟨_, rfl, ?_⟩
        refine iteF ?_
        exact ⟨_, rfl, Rj.trans R3⟩
      rintro σ Hj ⟨x3, rfl, Rj⟩
      refine ⟨_, _, _, rfl, ?_⟩
      have up : ∀ b u, H1 b = some u → Hj b = some u := fun b u e => Rj.keep _ _ (ne_of_none e np) (S2 _ _ e)
      rcases hS1 with (z | ⟨o, z⟩) | z
      · exact .inl (.inl (up _ _ z))
      · exact .inl (.inr ⟨o, up _ _ z⟩)
      · exact .inr z
    rintro σ H1 ⟨x1, x2, x3, rfl, hS1⟩
    -- the tables
    refine ⟨_, rfl, fun D hD0 => ?_⟩
    refine lc_it (walk_str (z := "pqrst")) (fun q Hq => Same H1 Hq ∧ ∃ (es : List Addr) (Zs : List (Addr × (Str × List Str))), Hq D = some (.lst (es.map V.ref)) ∧ es.length = q ∧ Paired (fun e z => Hq e = some (.tup [.str z.2.1, .ref z.1]) ∧ ColT Hq z.1 z.2.2) es Zs ∧ Zs.map (·.2) = (sg.take q).map fun n => (n, (["a", "b"] : List Str))) ⟨sameNew hD0, [], [], upd_same, rfl, .nil, rfl⟩ ?_ ?_ ?_
    · rintro q Hq hq ⟨Sm, _⟩
      trivial
    · rintro q y Hq Hq2 hq ⟨Sm, es, Zs, eD, le, pz, ez⟩ ⟨rfl, c, hc, rfl⟩
      have hz : sg[q]? = some ⟨#[c]⟩ := sign_at hc
      have hq5 : q < 5 := hq
      refine ⟨rfl, ?_⟩
      dsimp only [tYes]
      rw [if_pos rfl]
      refine ⟨_, rfl, by show 2 ≤ sizeLine; decide, fun u nu => ?_⟩
      generalize EH3 : upd Hq2 u _ = H3
      have hu := (congrFun EH3 u).symm.trans upd_same
      have S3 : Same Hq2 H3 := by rw [← EH3]; exact sameNew nu
      refine ⟨by show 2 ≤ sizeLine; decide, fun v nv => ?_⟩
      generalize EH4 : upd H3 v _ = H4
      have hv := (congrFun EH4 v).symm.trans upd_same
      have S4 : Same H3 H4 := by rw [← EH4]; exact sameNew nv
      have S34 := S3.trans S4
      have eD4 := S34 _ _ eD
      have t5 : TS H4 (upd H4 D (.lst (es.map V.ref ++ [V.ref v]))) := TS.off Off.lock fun ys z => by rw [eD4] at z; cases z
      have t25 : TS Hq2 (upd H4 D (.lst (es.map V.ref ++ [V.ref v]))) := (TS.of S34).trans t5
      refine ⟨_, eD4, by rw [List.length_map, sizeLine_eq]; omega, same_upd (Sm.trans S34) hD0, es ++ [v], Zs ++ [(u, ((⟨#[c]⟩ : Str), (["a", "b"] : List Str)))], by rw [List.map_append]; exact upd_same, by rw [List.length_append, le]; rfl, ?_, ?_⟩
      · refine paired_snoc ?_ ?_
        · exact Paired.mapP pz fun _ _ e => And.intro (t25 _ _ e.1) (ColT.ts t25 e.2)
        · exact ⟨t5 _ _ hv, t5 _ _ (S4 _ _ hu)⟩
      · rw [take_at hz, List.map_append, List.map_append, ez]
        rfl
    rintro H2 ⟨S2, es, Zs, eD, le, pz, ez⟩
    rw [show sg.take (Str.ofString "pqrst").cps.size = sg from by decide +kernel] at ez
    have ez : Zs.map (·.2) = T5 := ez
    refine ⟨D, es, Zs.map pk, rfl, SqL.of eD, pd1 pz, fun dt ndt => ?_⟩
    rw [pd3 ez (by decide +kernel)]
    have pT := pd2 (H1 := upd H2 dt (.dK (Zs.map pk))) (fun h => ColT.same (sameNew ndt) h) pz
    generalize EHt : upd H2 dt _ = Ht
    have hdt := (congrFun EHt dt).symm.trans upd_same
    have St : Same H2 Ht := by rw [← EHt]; exact sameNew ndt
    rw [EHt, ez] at pT
    -- the keys
    refine ⟨_, rfl, fun D hD0 => ?_⟩
    refine lc_it (walk_str (z := "pqrst")) (fun q Hq => Same Ht Hq ∧ ∃ (es : List Addr) (Zs : List (Addr × (Str × List (List Str)))), Hq D = some (.lst (es.map V.ref)) ∧ es.length = q ∧ Paired (fun e z => Hq e = some (.tup [.str z.2.1, .ref z.1]) ∧ KeyT Hq z.1 z.2.2) es Zs ∧ Zs.map (·.2) = (sg.take q).map fun n => (n, ([["a"], ["b"]] : List (List Str)))) ⟨sameNew hD0, [], [], upd_same, rfl, .nil, rfl⟩ ?_ ?_ ?_
    · rintro q Hq hq ⟨Sm, _⟩
      trivial
    · rintro q y Hq Hq2 hq ⟨Sm, es, Zs, eD, le, pz, ez⟩ ⟨rfl, c, hc, rfl⟩
      have hz : sg[q]? = some ⟨#[c]⟩ := sign_at hc
      have hq5 : q < 5 := hq
      refine ⟨rfl, ?_⟩
      dsimp only [tYes]
      rw [if_pos rfl]
      refine ⟨_, rfl, by show 1 ≤ sizeLine; decide, fun ka nka => ?_⟩
      generalize EH2a : upd Hq2 ka _ = H2a
      have hka := (congrFun EH2a ka).symm.trans upd_same
      have S2a : Same Hq2 H2a := by rw [← EH2a]; exact sameNew nka
      refine ⟨by show 1 ≤ sizeLine; decide, fun kb nkb => ?_⟩
      generalize EH2b : upd H2a kb _ = H2b
      have hkb := (congrFun EH2b kb).symm.trans upd_same
      have S2b : Same H2a H2b := by rw [← EH2b]; exact sameNew nkb
      refine ⟨by show 2 ≤ sizeLine; decide, fun u nu => ?_⟩
      generalize EH3 : upd H2b u _ = H3
      have hu := (congrFun EH3 u).symm.trans upd_same
      have S3 : Same H2b H3 := by rw [← EH3]; exact sameNew nu
      refine ⟨by show 2 ≤ sizeLine; decide, fun v nv => ?_⟩
      generalize EH4 : upd H3 v _ = H4
      have hv := (congrFun EH4 v).symm.trans upd_same
      have S4 : Same H3 H4 := by rw [← EH4]; exact sameNew nv
      have S34 := S2a.trans (S2b.trans (S3.trans S4))
      have eD4 := S34 _ _ eD
      have t5 : TS H4 (upd H4 D (.lst (es.map V.ref ++ [V.ref v]))) := TS.off Off.lock fun ys z => by rw [eD4] at z; cases z
      have t25 : TS Hq2 (upd H4 D (.lst (es.map V.ref ++ [V.ref v]))) := (TS.of S34).trans t5
      refine ⟨_, eD4, by rw [List.length_map, sizeLine_eq]; omega, same_upd (Sm.trans S34) hD0, es ++ [v], Zs ++ [(u, ((⟨#[c]⟩ : Str), ([["a"], ["b"]] : List (List Str))))], by rw [List.map_append]; exact upd_same, by rw [List.length_append, le]; rfl, ?_, ?_⟩
      · refine paired_snoc ?_ ?_
        · exact Paired.mapP pz fun _ _ e => And.intro (t25 _ _ e.1) (KeyT.ts t25 e.2)
        · exact ⟨t5 _ _ hv, [ka, kb], t5 _ _ (S4 _ _ hu), .cons (t5 _ _ (S4 _ _ (S3 _ _ (S2b _ _ hka)))) (.cons (t5 _ _ (S4 _ _ (S3 _ _ hkb))) .nil)⟩
      · rw [take_at hz, List.map_append, List.map_append, ez]
        rfl
    rintro H3 ⟨S3, es, Zs, eD, le, pz, ez⟩
    rw [show sg.take (Str.ofString "pqrst").cps.size = sg from by decide +kernel] at ez
    have ez : Zs.map (·.2) = L5 := ez
    refine ⟨D, es, Zs.map pk, rfl, SqL.of eD, pd1 pz, fun dk ndk => ?_⟩
    rw [pd3 ez (by decide +kernel)]
    have pL := pd2 (H1 := upd H3 dk (.dK (Zs.map pk))) (fun h => KeyT.same (sameNew ndk) h) pz
    generalize EHk : upd H3 dk _ = Hk
    have hdk := (congrFun EHk dk).symm.trans upd_same
    have Sk : Same H3 Hk := by rw [← EHk]; exact sameNew ndk
    rw [EHk, ez] at pL
    -- the ways
    refine ⟨"pqrs", "qrst", rfl, by decide +kernel, by decide +kernel, fun D hD0 => ?_⟩
    refine lc_it (_root_.Zs.walk_ (x := "pqrs") (y := "qrst") (n := 4) (by decide +kernel)) (fun q Hq => Same Hk Hq ∧ ∃ (es : List Addr) (Zs : List (Addr × (Str × Way))), Hq D = some (.lst (es.map V.ref)) ∧ es.length = q ∧ Paired (fun e z => Hq e = some (.tup [.str z.2.1, .ref z.1]) ∧ WayT Hq z.1 z.2.2) es Zs ∧ Zs.map (·.2) = W4.take q) ⟨sameNew hD0, [], [], upd_same, rfl, .nil, rfl⟩ ?_ ?_ ?_
    · rintro q Hq hq ⟨Sm, _⟩
      trivial
    · rintro q y Hq Hq2 hq ⟨Sm, es, Zs, eD, le, pz, ez⟩ ⟨T0, c, c2, rfl, nT0, eH, hc, hc2⟩
      have hz : (Lx.signs "pqrs")[q]? = some ⟨#[c]⟩ := sign_at hc
      have hz2 : (Lx.signs "qrst")[q]? = some ⟨#[c2]⟩ := sign_at hc2
      have hT0 : Hq2 T0 = some (.tup [.str ⟨#[c]⟩, .str ⟨#[c2]⟩]) := by rw [eH]; exact upd_same
      have S0 : Same Hq Hq2 := by rw [eH]; exact sameNew nT0
      have hq4 : q < 4 := hq
      have ew : W4[q]? = some (⟨#[c]⟩ ++ ⟨#[c2]⟩, ⟨⟨#[c]⟩, ["b"], ⟨#[c2]⟩, ["a"]⟩) := by
        show (List.map _ _)[q]? = _
        rw [List.getElem?_map, List.getElem?_zip_eq_some.mpr (show (Lx.signs "pqrs")[q]? = some ((⟨#[c]⟩, ⟨#[c2]⟩) : Str × Str).1 ∧ (Lx.signs "qrst")[q]? = some ((⟨#[c]⟩, ⟨#[c2]⟩) : Str × Str).2 from ⟨hz, hz2⟩)]
        rfl
      refine ⟨T0, _, rfl, SqT.of hT0, rfl, _, _, rfl, _, _, rfl, rfl, ?_⟩
      refine ⟨rfl, ?_⟩
      dsimp only [tYes]
      rw [if_pos rfl]
      refine ⟨_, rfl, _, rfl, _, _, rfl, rfl, by show 1 + 1 ≤ sizeLine; decide, ?_⟩
      refine ⟨_, rfl, by show 1 ≤ sizeLine; decide, fun ka nka => ?_⟩
      generalize EH2a : upd Hq2 ka _ = H2a
      have hka := (congrFun EH2a ka).symm.trans upd_same
      have S2a : Same Hq2 H2a := by rw [← EH2a]; exact sameNew nka
      refine ⟨_, rfl, by show 1 ≤ sizeLine; decide, fun kb nkb => ?_⟩
      generalize EH2b : upd H2a kb _ = H2b
      have hkb := (congrFun EH2b kb).symm.trans upd_same
      have S2b : Same H2a H2b := by rw [← EH2b]; exact sameNew nkb
      refine ⟨by show 4 ≤ sizeLine; decide, fun u nu => ?_⟩
      generalize EH3 : upd H2b u _ = H3
      have hu := (congrFun EH3 u).symm.trans upd_same
      have S3 : Same H2b H3 := by rw [← EH3]; exact sameNew nu
      refine ⟨by show 2 ≤ sizeLine; decide, fun v nv => ?_⟩
      generalize EH4 : upd H3 v _ = H4
      have hv := (congrFun EH4 v).symm.trans upd_same
      have S4 : Same H3 H4 := by rw [← EH4]; exact sameNew nv
      have S34 := S0.trans (S2a.trans (S2b.trans (S3.trans S4)))
      have eD4 := S34 _ _ eD
      have t5 : TS H4 (upd H4 D (.lst (es.map V.ref ++ [V.ref v]))) := TS.off Off.lock fun ys z => by rw [eD4] at z; cases z
      have t25 : TS Hq (upd H4 D (.lst (es.map V.ref ++ [V.ref v]))) := (TS.of S34).trans t5
      refine ⟨_, eD4, by rw [List.length_map, sizeLine_eq]; omega, same_upd (Sm.trans S34) hD0, es ++ [v], Zs ++ [(u, (⟨#[c]⟩ ++ ⟨#[c2]⟩, ⟨⟨#[c]⟩, ["b"], ⟨#[c2]⟩, ["a"]⟩))], by rw [List.map_append]; exact upd_same, by rw [List.length_append, le]; rfl, ?_, ?_⟩
      · refine paired_snoc ?_ ?_
        · exact Paired.mapP pz fun _ _ e => And.intro (t25 _ _ e.1) (WayT.ts t25 e.2)
        · exact ⟨t5 _ _ hv, ka, kb, t5 _ _ (S4 _ _ hu), t5 _ _ (S4 _ _ (S3 _ _ (S2b _ _ hka))), t5 _ _ (S4 _ _ (S3 _ _ hkb))⟩
      · rw [take_at ew, List.map_append, ez]
        rfl
    rintro H4 ⟨S4, es, Zs, eD, le, pz, ez⟩
    have ez : Zs.map (·.2) = W4 := ez.trans (List.take_of_length_le (by decide +kernel))
    refine ⟨D, es, Zs.map pk, rfl, SqL.of eD, pd1 pz, fun dw ndw => ?_⟩
    rw [pd3 ez (by decide +kernel)]
    have pW := pd2 (H1 := upd H4 dw (.dK (Zs.map pk))) (fun h => WayT.same (sameNew ndw) h) pz
    generalize EHw : upd H4 dw _ = Hw
    have hdw := (congrFun EHw dw).symm.trans upd_same
    have Sw : Same H4 Hw := by rw [← EHw]; exact sameNew ndw
    rw [EHw, ez] at pW
    have Skw := S4.trans Sw
    have Stw := S3.trans (Sk.trans Skw)
    have hT3 : Three Hw dt dk dw ⟨T5, L5, W4⟩ := ⟨⟨_, Stw _ _ hdt, ent_off (fun _ _ e => ColT.same Stw e) pT⟩, ⟨_, Skw _ _ hdk, ent_off (fun _ _ e => KeyT.same Skw e) pL⟩, ⟨_, hdw, pW⟩⟩
    have nkw : dk ≠ dw := fun z => by rw [← z, S4 _ _ hdk] at ndw; cases ndw
    refine ⟨_, rfl, _, rfl, _, rfl, rfl, rfl, ?_⟩
    intro x9 d9 nx9 nd9 ne9
    refine ⟨x9, d9, dt, dk, dw, ⟨T5, L5, W4⟩, rfl, upd_same, hT3.same (two_new nx9 nd9 ne9), nkw, s5_ok, fun Hx S9 et9 ek9 ew9 of9 hS9 o9 _ _ _ => ⟨rfl, ?_⟩⟩
    have Sx : Same Hw Hx := fun b u e => of9 b u (fun z => by rw [z] at e; rw [e] at nx9; cases nx9) (two_new nx9 nd9 ne9 _ _ e)
    obtain ⟨dx9, f1, f2, hx9⟩ := hS9.at_
    have in9 : ∀ {n}, n ∈ T5.map (·.1) → n ∈ S9.T.map (·.1) := fun {n} h => (o9.t.map _).mem_iff.mpr h
    -- leads_to, four times
    refine ⟨_, rfl, x9, dx9, _, rfl, hx9, rfl, ?_⟩
    refine ⟨x9, S9, et9, ek9, ew9, "p", "t", rfl, hS9, in9 (by decide +kernel), in9 (by decide +kernel), fun b1 G1 Y1 i1 => ?_⟩
    refine ⟨_, rfl, x9, dx9, _, rfl, Y1 _ _ hx9, rfl, ?_⟩
    refine ⟨x9, S9, et9, ek9, ew9, "t", "p", rfl, hS9.same Y1, in9 (by decide +kernel), in9 (by decide +kernel), fun b2 G2 Y2 i2 => ?_⟩
    have Y12 := Y1.trans Y2
    refine ⟨_, rfl, x9, dx9, _, rfl, Y12 _ _ hx9, rfl, ?_⟩
    refine ⟨x9, S9, et9, ek9, ew9, "p", "p", rfl, hS9.same Y12, in9 (by decide +kernel), in9 (by decide +kernel), fun b3 G3 Y3 i3 => ?_⟩
    have Y13 := Y12.trans Y3
    refine ⟨_, rfl, x9, dx9, _, rfl, Y13 _ _ hx9, rfl, ?_⟩
    refine ⟨x9, S9, et9, ek9, ew9, "q", "s", rfl, hS9.same Y13, in9 (by decide +kernel), in9 (by decide +kernel), fun b4 G4 Y4 i4 => ?_⟩
    have Y14 := Y13.trans Y4
    rw [show b1 = true from (lead o9.w w4_rk (by decide +kernel) _ _ i1).trans (by decide +kernel), show b2 = false from (lead o9.w w4_rk (by decide +kernel) _ _ i2).trans (by decide +kernel), show b3 = false from (lead o9.w w4_rk (by decide +kernel) _ _ i3).trans (by decide +kernel), show b4 = true from (lead o9.w w4_rk (by decide +kernel) _ _ i4).trans (by decide +kernel)]
    refine ⟨by show 4 ≤ sizeLine; decide, fun tl ntl => ?_⟩
    generalize EG5 : upd G4 tl _ = G5
    have htl := (congrFun EG5 tl).symm.trans upd_same
    have Y5 : Same G4 G5 := by rw [← EG5]; exact sameNew ntl
    have Y15 := Y14.trans Y5
    -- the cut
    refine ⟨_, rfl, x9, dx9, _, rfl, Y15 _ _ hx9, rfl, ?_⟩
    refine ⟨x9, S9, et9, ek9, ew9, "qr", rfl, hS9.same Y15, (o9.w.map _).mem_iff.mpr (by decide +kernel), fun c9 G6 S6 et6 ek6 ew6 Y6 hS6 o6 _ _ _ _ => ?_⟩
    obtain ⟨dx6, f3, f4, hx6⟩ := hS6.at_
    have p6 : S6.W.Perm W4c := o6.w.trans (o9.w.filter _)
    have in6 : ∀ {n}, n ∈ T5.map (·.1) → n ∈ S6.T.map (·.1) := fun {n} h => (o6.t.map _).mem_iff.mpr ((o9.t.map _).mem_iff.mpr h)
    refine ⟨_, rfl, _, rfl, c9, dx6, _, rfl, hx6, rfl, ?_⟩
    refine ⟨c9, S6, et6, ek6, ew6, "p", "t", rfl, hS6, in6 (by decide +kernel), in6 (by decide +kernel), fun b5 G7 Y7 i5 => ?_⟩
    refine ⟨_, rfl, c9, dx6, _, rfl, Y7 _ _ hx6, rfl, ?_⟩
    refine ⟨c9, S6, et6, ek6, ew6, "r", "t", rfl, hS6.same Y7, in6 (by decide +kernel), in6 (by decide +kernel), fun b6 G8 Y8 i6 => ?_⟩
    rw [show b5 = false from (lead p6 w4c_rk (by decide +kernel) _ _ i5).trans (by decide +kernel), show b6 = true from (lead p6 w4c_rk (by decide +kernel) _ _ i6).trans (by decide +kernel)]
    refine ⟨by show 2 ≤ sizeLine; decide, fun tm ntm => ?_⟩
    generalize EG9 : upd G8 tm _ = G9
    have htm := (congrFun EG9 tm).symm.trans upd_same
    have Y9 : Same G8 G9 := by rw [← EG9]; exact sameNew ntm
    have Y69 := Y7.trans (Y8.trans Y9)
    refine ⟨tl, tm, _, _, rfl, rfl, Y69 _ _ (Y6 _ _ htl), htm, by show 4 + 2 ≤ sizeLine; decide, fun tn ntn => ?_⟩
    generalize EGA : upd G9 tn _ = GA
    have htn := (congrFun EGA tn).symm.trans upd_same
    have YA : Same G9 GA := by rw [← EGA]; exact sameNew ntn
    have Y6A := Y69.trans YA
    refine ⟨_, rfl, by show 6 ≤ sizeLine; decide, fun l6 nl6 => ?_⟩
    generalize EGB : upd GA l6 _ = GB
    have hl6 := (congrFun EGB l6).symm.trans upd_same
    have YB : Same GA GB := by rw [← EGB]; exact sameNew nl6
    have Y6B := Y6A.trans YB
    have d6 : ∀ {H : Hp} {q : Addr}, H q = some (.lst [.bl true, .bl false, .bl false, .bl true, .bl false, .bl true]) → Dp K H (.ref q) (.list [.bool true, .bool false, .bool false, .bool true, .bool false, .bool true]) := fun {H q} h => .lst (SqL.of h) (.cons (.bl _) (.cons (.bl _) (.cons (.bl _) (.cons (.bl _) (.cons (.bl _) (.cons (.bl _) .nil))))))
    refine ⟨_, _, d6 (YB _ _ htn), d6 hl6, by decide +kernel, by decide +kernel, ?_⟩
    refine ⟨_, rfl, ?_⟩
    refine ite_f (by decide +kernel) ?_
    -- a key left out of the cut
    refine ⟨_, rfl, c9, dx6, _, rfl, Y6B _ _ hx6, rfl, ?_⟩
    refine ⟨by show 1 ≤ sizeLine; decide, fun ka nka => ?_⟩
    generalize EGC : upd GB ka _ = GC
    have hka := (congrFun EGC ka).symm.trans upd_same
    have YC : Same GB GC := by rw [← EGC]; exact sameNew nka
    have hSC := hS6.same (Y6B.trans YC)
    have mr6 : (("r", [["a"], ["b"]]) : Str × List (List Str)) ∈ S6.L := o6.k.mem_iff.mpr (o9.k.mem_iff.mpr (by show _ ∈ L5; decide +kernel))
    have nu6 : ¬ usedKey S6 "r" ["a"] := not_used p6 (by decide +kernel)
    refine ⟨c9, S6, et6, ek6, ew6, "r", ka, ["a"], rfl, hSC, SqT.of hka, by rw [vals_in hS6.ok.keys.nd mr6]; exact List.mem_cons_self, fun u _ _ => (nu6 u).elim, fun _ y GD S7 et7 ek7 ew7 YD hS7 o7 _ _ _ _ => ?_⟩
    obtain ⟨dx7, f5, f6, hx7⟩ := hS7.at_
    refine ⟨y, dx7, _, rfl, hx7, rfl, ?_⟩
    refine ⟨y, S7, et7, ek7, ew7, "r", rfl, hS7, (o7.t.map _).mem_iff.mpr (in6 (by decide +kernel)), fun b0 GE YE kb0 => ?_⟩
    rw [kept hS6.ok hS7.ok mr6 (left := [["b"]]) (by decide +kernel) (by decide) o7] at kb0
    obtain ⟨bs0, kb1, kb2⟩ := kb0
    refine ⟨by show 1 ≤ sizeLine; decide, fun kc nkc => ?_⟩
    generalize EGF : upd GE kc _ = GF
    have hkc := (congrFun EGF kc).symm.trans upd_same
    have YF : Same GE GF := by rw [← EGF]; exact sameNew nkc
    refine ⟨by show 1 ≤ sizeLine; decide, fun kd nkd => ?_⟩
    generalize EGG : upd GF kd _ = GG
    have hkd := (congrFun EGG kd).symm.trans upd_same
    have YG : Same GF GG := by rw [← EGG]; exact sameNew nkd
    have YFG := YF.trans YG
    refine ⟨Sp4.ksD [["b"]], Sp4.ksD [["b"]], .tup (SqT.of (YFG _ _ kb1)) (dp_keys (Paired.mapP kb2 fun _ _ e => YFG _ _ e)), .tup (SqT.of hkd) (.cons (dp_key (SqT.of (YG _ _ hkc))) .nil), by decide +kernel, by decide +kernel, ?_⟩
    refine ⟨_, rfl, ?_⟩
    refine ite_f (by decide +kernel) ?_
    have YBG := YC.trans (YD.trans (YE.trans YFG))
    have Y6G := Y6B.trans YBG
    have Y9G := Y15.trans (Y6.trans Y6G)
    -- a key left out of the whole
    refine ⟨_, rfl, x9, dx9, _, rfl, Y9G _ _ hx9, rfl, ?_⟩
    refine ⟨by show 1 ≤ sizeLine; decide, fun kj nkj => ?_⟩
    generalize EGH : upd GG kj _ = GH
    have hkj := (congrFun EGH kj).symm.trans upd_same
    have YH : Same GG GH := by rw [← EGH]; exact sameNew nkj
    have hS9H := hS9.same (Y9G.trans YH)
    have mq9 : (("q", [["a"], ["b"]]) : Str × List (List Str)) ∈ S9.L := o9.k.mem_iff.mpr (by show _ ∈ L5; decide +kernel)
    have nu9 : ¬ usedKey S9 "q" ["b"] := not_used o9.w (by decide +kernel)
    refine ⟨x9, S9, et9, ek9, ew9, "q", kj, ["b"], rfl, hS9H, SqT.of hkj, by rw [vals_in hS9.ok.keys.nd mq9]; exact List.mem_cons_of_mem _ List.mem_cons_self, fun u _ _ => (nu9 u).elim, fun _ y8 GI S8 et8 ek8 ew8 YI hS8 o8 _ _ _ _ => ?_⟩
    obtain ⟨dx8, f7, f8, hx8⟩ := hS8.at_
    refine ⟨y8, dx8, _, rfl, hx8, rfl, ?_⟩
    refine ⟨y8, S8, et8, ek8, ew8, "q", rfl, hS8, (o8.t.map _).mem_iff.mpr (in9 (by decide +kernel)), fun b7 GJ YJ kb7 => ?_⟩
    rw [kept hS9.ok hS8.ok mq9 (left := [["a"]]) (by decide +kernel) (by decide) o8] at kb7
    obtain ⟨bs7, kb8, kb9⟩ := kb7
    refine ⟨by show 1 ≤ sizeLine; decide, fun ke nke => ?_⟩
    generalize EGK : upd GJ ke _ = GK
    have hke := (congrFun EGK ke).symm.trans upd_same
    have YK : Same GJ GK := by rw [← EGK]; exact sameNew nke
    refine ⟨by show 1 ≤ sizeLine; decide, fun kf nkf => ?_⟩
    generalize EGL : upd GK kf _ = GL
    have hkf := (congrFun EGL kf).symm.trans upd_same
    have YL : Same GK GL := by rw [← EGL]; exact sameNew nkf
    have YKL := YK.trans YL
    refine ⟨Sp4.ksD [["a"]], Sp4.ksD [["a"]], .tup (SqT.of (YKL _ _ kb8)) (dp_keys (Paired.mapP kb9 fun _ _ e => YKL _ _ e)), .tup (SqT.of hkf) (.cons (dp_key (SqT.of (YL _ _ hke))) .nil), by decide +kernel, by decide +kernel, ?_⟩
    refine ⟨_, rfl, ?_⟩
    refine ite_f (by decide +kernel) ?_
    have YwL : Same Hw GL := Sx.trans (Y9G.trans (YH.trans (YI.trans (YJ.trans YKL))))
    unfold tNext
    dsimp only
    unfold tSeq
    intro pd npd
    generalize EM0 : upd GL pd _ = M0
    have hpd := (congrFun EM0 pd).symm.trans upd_same
    have Z0 : Same GL M0 := by rw [← EM0]; exact sameNew npd
    refine ⟨by show 1 ≤ sizeLine; decide, fun cx ncx => ?_⟩
    generalize EM1 : upd M0 cx _ = M1
    have hcx := (congrFun EM1 cx).symm.trans upd_same
    have Z1 : Same M0 M1 := by rw [← EM1]; exact sameNew ncx
    refine ⟨by show 1 ≤ sizeLine; decide, fun kx nkx => ?_⟩
    generalize EM2 : upd M1 kx _ = M2
    have hkx := (congrFun EM2 kx).symm.trans upd_same
    have Z2 : Same M1 M2 := by rw [← EM2]; exact sameNew nkx
    refine ⟨by show 4 ≤ sizeLine; decide, fun vx nvx => ?_⟩
    generalize EM3 : upd M2 vx _ = M3
    have hvx := (congrFun EM3 vx).symm.trans upd_same
    have Z3 : Same M2 M3 := by rw [← EM3]; exact sameNew nvx
    refine ⟨by show 1 ≤ sizeLine; decide, fun cy ncy => ?_⟩
    generalize EM4 : upd M3 cy _ = M4
    have hcy := (congrFun EM4 cy).symm.trans upd_same
    have Z4 : Same M3 M4 := by rw [← EM4]; exact sameNew ncy
    refine ⟨by show 1 ≤ sizeLine; decide, fun ky nky => ?_⟩
    generalize EM5 : upd M4 ky _ = M5
    have hky := (congrFun EM5 ky).symm.trans upd_same
    have Z5 : Same M4 M5 := by rw [← EM5]; exact sameNew nky
    refine ⟨by show 4 ≤ sizeLine; decide, fun vy nvy => ?_⟩
    generalize EM6 : upd M5 vy _ = M6
    have hvy := (congrFun EM6 vy).symm.trans upd_same
    have Z6 : Same M5 M6 := by rw [← EM6]; exact sameNew nvy
    refine ⟨by show 1 ≤ sizeLine; decide, fun cz ncz => ?_⟩
    generalize EM7 : upd M6 cz _ = M7
    have hcz := (congrFun EM7 cz).symm.trans upd_same
    have Z7 : Same M6 M7 := by rw [← EM7]; exact sameNew ncz
    refine ⟨by show 1 ≤ sizeLine; decide, fun kz nkz => ?_⟩
    generalize EM8 : upd M7 kz _ = M8
    have hkz := (congrFun EM8 kz).symm.trans upd_same
    have Z8 : Same M7 M8 := by rw [← EM8]; exact sameNew nkz
    refine ⟨by show 4 ≤ sizeLine; decide, fun vz nvz => ?_⟩
    generalize EM9 : upd M8 vz _ = M9
    have hvz := (congrFun EM9 vz).symm.trans upd_same
    have Z9 : Same M8 M9 := by rw [← EM9]; exact sameNew nvz
    have Z09 : Same M0 M9 := Z1.trans (Z2.trans (Z3.trans (Z4.trans (Z5.trans (Z6.trans (Z7.trans (Z8.trans Z9)))))))
    have wx : WayT M9 vx ⟨"p", ["b"], "q", ["a"]⟩ := WayT.same (Z4.trans (Z5.trans (Z6.trans (Z7.trans (Z8.trans Z9))))) ⟨cx, kx, hvx, Z3 _ _ (Z2 _ _ hcx), Z3 _ _ hkx⟩
    have wy : WayT M9 vy ⟨"p", ["b"], "q", ["a"]⟩ := WayT.same (Z7.trans (Z8.trans Z9)) ⟨cy, ky, hvy, Z6 _ _ (Z5 _ _ hcy), Z6 _ _ hky⟩
    have wz : WayT M9 vz ⟨"p", ["a"], "r", ["a"]⟩ := ⟨cz, kz, hvz, Z9 _ _ (Z8 _ _ hcz), Z9 _ _ hkz⟩
    have hpd9 := Z09 _ _ hpd
    refine ⟨hpd9, [(.inr "x", .ref vx), (.inr "y", .ref vy), (.inr "z", .ref vz)], rfl, by show 3 ≤ 15; decide, ?_⟩
    have offP : Off pd M9 (upd M9 pd (.dK (mergeK [] [(.inr "x", .ref vx), (.inr "y", .ref vy), (.inr "z", .ref vz)]))) := Off.lock
    have tsP : TS M9 (upd M9 pd (.dK (mergeK [] [(.inr "x", .ref vx), (.inr "y", .ref vy), (.inr "z", .ref vz)]))) := TS.off offP fun ys z => by rw [hpd9] at z; cases z
    have hpdA : upd M9 pd (.dK (mergeK [] [(.inr "x", .ref vx), (.inr "y", .ref vy), (.inr "z", .ref vz)])) pd = some (.dK [(.inr "x", .ref vx), (.inr "y", .ref vy), (.inr "z", .ref vz)]) := upd_same
    have SwA : Same Hw (upd M9 pd (.dK (mergeK [] [(.inr "x", .ref vx), (.inr "y", .ref vy), (.inr "z", .ref vz)]))) := fun b u e => offP _ _ (fun z => by rw [← z, YwL _ _ e] at npd; cases npd) (Z09 _ _ (Z0 _ _ (YwL _ _ e)))
    generalize upd M9 pd (.dK (mergeK [] [(.inr "x", .ref vx), (.inr "y", .ref vy), (.inr "z", .ref vz)])) = MA at tsP hpdA SwA ⊢
    refine ⟨_, rfl, _, rfl, _, rfl, by show 1 ≤ sizeLine; decide, fun cw ncw => ?_⟩
    generalize EMB : upd MA cw _ = MB
    have hcw := (congrFun EMB cw).symm.trans upd_same
    have ZB : Same MA MB := by rw [← EMB]; exact sameNew ncw
    refine ⟨by show 1 ≤ sizeLine; decide, fun kw_ nkw_ => ?_⟩
    generalize EMC : upd MB kw_ _ = MC
    have hkw_ := (congrFun EMC kw_).symm.trans upd_same
    have ZC : Same MB MC := by rw [← EMC]; exact sameNew nkw_
    refine ⟨by show 4 ≤ sizeLine; decide, fun vw nvw => ?_⟩
    generalize EMD : upd MC vw _ = MD
    have hvw := (congrFun EMD vw).symm.trans upd_same
    have ZD : Same MC MD := by rw [← EMD]; exact sameNew nvw
    have ZAD := ZB.trans (ZC.trans ZD)
    refine ⟨pd, _, "w", .ref vw, rfl, .inl (ZAD _ _ hpdA), (by show ([Sum.inr "x", Sum.inr "y", Sum.inr "z"] : List Key).Nodup; decide +kernel), by show 3 ≤ 100; decide, fun d2 ME ZE nd2 hd2 => ?_⟩
    refine ⟨rfl, rfl, ?_⟩
    have SwE : Same Hw ME := SwA.trans (ZAD.trans ZE)
    have tsE : TS M9 ME := tsP.trans (TS.of (ZAD.trans ZE))
    have wwE : WayT ME vw ⟨"q", ["b"], "r", ["a"]⟩ := WayT.same ZE ⟨cw, kw_, hvw, ZD _ _ (ZC _ _ hcw), ZD _ _ hkw_⟩
    have pW2 : Paired (EntOf (WayT ME)) [(.inr "x", .ref vx), (.inr "y", .ref vy), (.inr "z", .ref vz), (.inr "w", .ref vw)] W2 := .cons ⟨rfl, _, rfl, WayT.ts tsE wx⟩ (.cons ⟨rfl, _, rfl, WayT.ts tsE wy⟩ (.cons ⟨rfl, _, rfl, WayT.ts tsE wz⟩ (.cons ⟨rfl, _, rfl, wwE⟩ .nil)))
    have hd2' : ME d2 = some (.dK [(.inr "x", .ref vx), (.inr "y", .ref vy), (.inr "z", .ref vz), (.inr "w", .ref vw)]) := hd2
    have hT3E := hT3.same SwE
    have nk2 : dk ≠ d2 := fun z => by
      obtain ⟨_, g, _⟩ := (hT3.same (SwA.trans ZAD)).keys
      rw [z, nd2] at g
      cases g
    have hT2 : Three ME dt dk d2 ⟨T5, L5, W2⟩ := ⟨hT3E.tabs, hT3E.keys, ⟨_, hd2', pW2⟩⟩
    intro xc dc nxc ndc nec
    refine ⟨xc, dc, dt, dk, d2, ⟨T5, L5, W2⟩, rfl, upd_same, hT2.same (two_new nxc ndc nec), nk2, s2_ok, fun Hy SC etc ekc ewc ofc hSC2 oc _ _ _ => ⟨rfl, ?_⟩⟩
    obtain ⟨dxc, j1, j2, hxc⟩ := hSC2.at_
    have inc : ∀ {n}, n ∈ T5.map (·.1) → n ∈ SC.T.map (·.1) := fun {n} h => (oc.t.map _).mem_iff.mpr h
    have eWc : SC.W = W2s := way_sort hSC2.ok oc.w oc.sw w2_perm w2_pw
    refine ⟨_, rfl, xc, dxc, _, rfl, hxc, rfl, ?_⟩
    refine ⟨xc, SC, etc, ekc, ewc, "x", rfl, hSC2, (oc.w.map _).mem_iff.mpr (by decide +kernel), fun xb N1 SB etb ekb ewb U1 hSB ob _ _ _ _ => ?_⟩
    obtain ⟨dxb, j3, j4, hxb⟩ := hSB.at_
    have pb3 : SB.W.Perm W3 := ob.w.trans (oc.w.filter _)
    have inb : ∀ {n}, n ∈ T5.map (·.1) → n ∈ SB.T.map (·.1) := fun {n} h => (ob.t.map _).mem_iff.mpr (inc h)
    have eWb : SB.W = W3s := way_sort hSB.ok pb3 ob.sw w3_perm w3_pw
    -- what is told
    refine ⟨_, rfl, xc, dxc, _, rfl, U1 _ _ hxc, rfl, ?_⟩
    refine ⟨xc, SC, etc, ekc, ewc, "p", rfl, hSC2.same U1, inc (by decide +kernel), fun ta N2 U2 hta => ?_⟩
    refine ⟨_, rfl, xb, dxb, _, rfl, U2 _ _ hxb, rfl, ?_⟩
    refine ⟨xb, SB, etb, ekb, ewb, "p", rfl, hSB.same U2, inb (by decide +kernel), fun tb N3 U3 htb => ?_⟩
    have U23 := U2.trans U3
    refine ⟨_, rfl, xc, dxc, _, rfl, U23 _ _ (U1 _ _ hxc), rfl, ?_⟩
    refine ⟨xc, SC, etc, ekc, ewc, "p", "r", rfl, hSC2.same (U1.trans U23), inc (by decide +kernel), inc (by decide +kernel), fun e1 N4 U4 h1 => ?_⟩
    refine ⟨_, rfl, xc, dxc, _, rfl, U4 _ _ (U23 _ _ (U1 _ _ hxc)), rfl, ?_⟩
    refine ⟨xc, SC, etc, ekc, ewc, "r", "p", rfl, hSC2.same (U1.trans (U23.trans U4)), inc (by decide +kernel), inc (by decide +kernel), fun e2 N5 U5 h2 => ?_⟩
    rw [show e1 = true from (lead oc.w w2_rk (by decide +kernel) _ _ h1).trans (by decide +kernel), show e2 = false from (lead oc.w w2_rk (by decide +kernel) _ _ h2).trans (by decide +kernel)]
    refine ⟨by show 4 ≤ sizeLine; decide, fun to nto => ?_⟩
    generalize EN6 : upd N5 to _ = N6
    have hto := (congrFun EN6 to).symm.trans upd_same
    have U6 : Same N5 N6 := by rw [← EN6]; exact sameNew nto
    rw [eWc, show waysAt W2s "p" = (["x", "y", "z"] : List Str) from by decide +kernel] at hta
    rw [eWb, show waysAt W3s "p" = (["y", "z"] : List Str) from by decide +kernel] at htb
    refine ⟨_, rfl, by show 3 ≤ sizeLine; decide, fun q1 nq1 => ?_⟩
    generalize EN7 : upd N6 q1 _ = N7
    have hq1 := (congrFun EN7 q1).symm.trans upd_same
    have U7 : Same N6 N7 := by rw [← EN7]; exact sameNew nq1
    refine ⟨by show 2 ≤ sizeLine; decide, fun q2 nq2 => ?_⟩
    generalize EN8 : upd N7 q2 _ = N8
    have hq2 := (congrFun EN8 q2).symm.trans upd_same
    have U8 : Same N7 N8 := by rw [← EN8]; exact sameNew nq2
    refine ⟨by show 4 ≤ sizeLine; decide, fun q3 nq3 => ?_⟩
    generalize EN9 : upd N8 q3 _ = N9
    have hq3 := (congrFun EN9 q3).symm.trans upd_same
    have U9 : Same N8 N9 := by rw [← EN9]; exact sameNew nq3
    have U69 := U7.trans (U8.trans U9)
    have U39 := U4.trans (U5.trans (U6.trans U69))
    refine ⟨.list [Sp4.kD ["x", "y", "z"], Sp4.kD ["y", "z"], .bool true, .bool false], .list [Sp4.kD ["x", "y", "z"], Sp4.kD ["y", "z"], .bool true, .bool false], .lst (SqL.of (U69 _ _ hto)) (.cons (dp_key (SqT.of (U39 _ _ (U3 _ _ hta)))) (.cons (dp_key (SqT.of (U39 _ _ htb))) (.cons (.bl _) (.cons (.bl _) .nil)))), .lst (SqL.of hq3) (.cons (dp_key (k := ["x", "y", "z"]) (SqT.of (U9 _ _ (U8 _ _ hq1)))) (.cons (dp_key (k := ["y", "z"]) (SqT.of (U9 _ _ hq2))) (.cons (.bl _) (.cons (.bl _) .nil)))), by decide +kernel, by decide +kernel, ?_⟩
    refine ⟨_, rfl, ?_⟩
    rw [if_pos (by decide +kernel)]
    have U19 := U23.trans U39
    have hSB9 := hSB.same U19
    have hSC9 := hSC2.same (U1.trans U19)
    refine ⟨_, rfl, _, rfl, xb, _, rfl, hSB9.own, sch_ty T hSC9, T.nfi_Schema, xb, SB, etb, ekb, ewb, .ref xc, rfl, hSB9, .inl ⟨xc, SC, etc, ekc, ewc, rfl, hSC9, fun b8 i8 => ⟨b8, rfl, ?_⟩⟩⟩
    have eb8 : b8 = false := Bool.eq_false_iff.mpr fun z => by
      have g := (i8.mp z).w.length_eq
      rw [eWb, eWc] at g
      exact absurd g (by decide +kernel)
    subst eb8
    refine ⟨_, rfl, ?_⟩
    rw [if_pos (by decide)]
    refine ⟨_, rfl, xb, dxb, _, rfl, U19 _ _ hxb, rfl, ?_⟩
    refine ⟨xb, SB, etb, ekb, ewb, "p", "q", rfl, hSB9, inb (by decide +kernel), inb (by decide +kernel), fun b9 NA UA i9 => ?_⟩
    rw [show b9 = true from (lead pb3 w3_rk (by decide +kernel) _ _ i9).trans (by decide +kernel)]
    exact k _
end
end K04

set_option Elab.async false
set_option linter.all false
set_option maxRecDepth 100000
set_option maxHeartbeats 4000000
namespace K04
open PySem PySem.Spec PyProof.Rows L2 Dt An Rp Sp4
abbrev keT : List Value := [.type "KeyError", .type "LookupError", .type "Exception", .type "BaseException", .type "object"]
theorem end_sp : ∀ (K : PySem.W.Frag) (H : Hp) (a : Addr) (ns : List Int), ns.length ≤ 63 → SqL K H a (ns.map V.int) → spLaw K [.ref a] H (fun v _ => v = .bl true) fun _ _ _ => False :=
  fun K H a ns hl hS => ⟨a, ns, rfl, hS, hl, fun _ => rfl⟩
theorem all_mk {P : Program} {w : World} {K : PySem.W.Frag} {h : Heap} {mg : Str → Option Value} {fa : Addr} (X : K.In h) (G : h.Ns mainGlobals mg) (hfa : mg "law" = some (.ref fa))
    {p_tables p_references o_kwd c_Schema c_InvalidSchema c_InvalidOperation c_UnknownName c_DealError f_is_name f_are_integers f_are_names f_is_ascending f_UnknownName___init__ f__are_columns f__are_tables f__is_key_of f__are_keys_of f__are_keys f__is_reference f__lead_round f__are_references f__reached f__many f_Schema___init__ f_Schema_tables f_Schema_references f_Schema___contains__ f_Schema__check_table f_Schema_keys_of f_Schema_references_of f_Schema_is_row_of f_Schema_leads_to f_Schema_without_key f_Schema_without_reference f_Schema___len__ f_Schema___eq__ f_Schema___str__ f_dice f_roll f_pick f_mixed f_names f_some f_ways f_schema f_schema_made f_with f_without f_reached f_ways_right f_rest f_less_right f_rows_right f_equal_right f_right f_law : Addr}
    {od_is_name an_is_name od_are_integers an_are_integers od_are_names an_are_names od_is_ascending an_is_ascending od_UnknownName___init__ an_UnknownName___init__ od__are_columns an__are_columns od__are_tables an__are_tables od__is_key_of an__is_key_of od__are_keys_of an__are_keys_of od__are_keys an__are_keys od__is_reference an__is_reference od__lead_round an__lead_round od__are_references an__are_references od__reached an__reached od__many an__many od_Schema___init__ an_Schema___init__ od_Schema_tables an_Schema_tables od_Schema_references an_Schema_references od_Schema___contains__ an_Schema___contains__ od_Schema__check_table an_Schema__check_table od_Schema_keys_of an_Schema_keys_of od_Schema_references_of an_Schema_references_of od_Schema_is_row_of an_Schema_is_row_of od_Schema_leads_to an_Schema_leads_to od_Schema_without_key an_Schema_without_key od_Schema_without_reference an_Schema_without_reference od_Schema___len__ an_Schema___len__ od_Schema___eq__ an_Schema___eq__ od_Schema___str__ an_Schema___str__ od_dice an_dice od_roll an_roll od_pick an_pick od_mixed an_mixed od_names an_names od_some an_some od_ways an_ways od_schema an_schema od_schema_made an_schema_made od_with an_with od_without an_without od_reached an_reached od_ways_right an_ways_right od_rest an_rest od_less_right an_less_right od_rows_right an_rows_right od_equal_right an_equal_right od_right an_right od_law an_law : Option Addr}
    {sl_is_name sl_are_integers sl_are_names sl_is_ascending sl_UnknownName___init__ sl__are_columns sl__are_tables sl__is_key_of sl__are_keys_of sl__are_keys sl__is_reference sl__lead_round sl__are_references sl__reached sl__many sl_Schema___init__ sl_Schema_tables sl_Schema_references sl_Schema___contains__ sl_Schema__check_table sl_Schema_keys_of sl_Schema_references_of sl_Schema_is_row_of sl_Schema_leads_to sl_Schema_without_key sl_Schema_without_reference sl_Schema___len__ sl_Schema___eq__ sl_Schema___str__ sl_dice sl_roll sl_pick sl_mixed sl_names sl_some sl_ways sl_schema sl_schema_made sl_with sl_without sl_reached sl_ways_right sl_rest sl_less_right sl_rows_right sl_equal_right sl_right sl_law : Array (Option Value)}
    {oc_is_name kV_is_name dc_is_name pm_is_name cd_is_name ct_is_name oc_are_integers kV_are_integers dc_are_integers pm_are_integers cd_are_integers ct_are_integers oc_are_names kV_are_names dc_are_names pm_are_names cd_are_names ct_are_names oc_is_ascending kV_is_ascending dc_is_ascending pm_is_ascending cd_is_ascending ct_is_ascending oc_UnknownName___init__ kV_UnknownName___init__ dc_UnknownName___init__ pm_UnknownName___init__ cd_UnknownName___init__ ct_UnknownName___init__ oc__are_columns kV__are_columns dc__are_columns pm__are_columns cd__are_columns ct__are_columns oc__are_tables kV__are_tables dc__are_tables pm__are_tables cd__are_tables ct__are_tables oc__is_key_of kV__is_key_of dc__is_key_of pm__is_key_of cd__is_key_of ct__is_key_of oc__are_keys_of kV__are_keys_of dc__are_keys_of pm__are_keys_of cd__are_keys_of ct__are_keys_of oc__are_keys kV__are_keys dc__are_keys pm__are_keys cd__are_keys ct__are_keys oc__is_reference kV__is_reference dc__is_reference pm__is_reference cd__is_reference ct__is_reference oc__lead_round kV__lead_round dc__lead_round pm__lead_round cd__lead_round ct__lead_round oc__are_references kV__are_references dc__are_references pm__are_references cd__are_references ct__are_references oc__reached kV__reached dc__reached pm__reached cd__reached ct__reached oc__many kV__many dc__many pm__many cd__many ct__many oc_Schema___init__  dc_Schema___init__ pm_Schema___init__ cd_Schema___init__ ct_Schema___init__ oc_Schema_tables kV_Schema_tables dc_Schema_tables pm_Schema_tables cd_Schema_tables ct_Schema_tables oc_Schema_references kV_Schema_references dc_Schema_references pm_Schema_references cd_Schema_references ct_Schema_references oc_Schema___contains__ kV_Schema___contains__ dc_Schema___contains__ pm_Schema___contains__ cd_Schema___contains__ ct_Schema___contains__ oc_Schema__check_table kV_Schema__check_table dc_Schema__check_table pm_Schema__check_table cd_Schema__check_table ct_Schema__check_table oc_Schema_keys_of kV_Schema_keys_of dc_Schema_keys_of pm_Schema_keys_of cd_Schema_keys_of ct_Schema_keys_of oc_Schema_references_of kV_Schema_references_of dc_Schema_references_of pm_Schema_references_of cd_Schema_references_of ct_Schema_references_of oc_Schema_is_row_of kV_Schema_is_row_of dc_Schema_is_row_of pm_Schema_is_row_of cd_Schema_is_row_of ct_Schema_is_row_of oc_Schema_leads_to kV_Schema_leads_to dc_Schema_leads_to pm_Schema_leads_to cd_Schema_leads_to ct_Schema_leads_to oc_Schema_without_key kV_Schema_without_key dc_Schema_without_key pm_Schema_without_key cd_Schema_without_key ct_Schema_without_key oc_Schema_without_reference kV_Schema_without_reference dc_Schema_without_reference pm_Schema_without_reference cd_Schema_without_reference ct_Schema_without_reference oc_Schema___len__ kV_Schema___len__ dc_Schema___len__ pm_Schema___len__ cd_Schema___len__ ct_Schema___len__ oc_Schema___eq__ kV_Schema___eq__ dc_Schema___eq__ pm_Schema___eq__ cd_Schema___eq__ ct_Schema___eq__ oc_Schema___str__ kV_Schema___str__ dc_Schema___str__ pm_Schema___str__ cd_Schema___str__ ct_Schema___str__ oc_dice kV_dice dc_dice pm_dice cd_dice ct_dice oc_roll kV_roll dc_roll pm_roll cd_roll ct_roll oc_pick kV_pick dc_pick pm_pick cd_pick ct_pick oc_mixed kV_mixed dc_mixed pm_mixed cd_mixed ct_mixed oc_names kV_names dc_names pm_names cd_names ct_names oc_some kV_some dc_some pm_some cd_some ct_some oc_ways kV_ways dc_ways pm_ways cd_ways ct_ways oc_schema kV_schema dc_schema pm_schema cd_schema ct_schema oc_schema_made kV_schema_made dc_schema_made pm_schema_made cd_schema_made ct_schema_made oc_with kV_with dc_with pm_with cd_with ct_with oc_without kV_without dc_without pm_without cd_without ct_without oc_reached kV_reached dc_reached pm_reached cd_reached ct_reached oc_ways_right kV_ways_right dc_ways_right pm_ways_right cd_ways_right ct_ways_right oc_rest kV_rest dc_rest pm_rest cd_rest ct_rest oc_less_right kV_less_right dc_less_right pm_less_right cd_less_right ct_less_right oc_rows_right kV_rows_right dc_rows_right pm_rows_right cd_rows_right ct_rows_right oc_equal_right kV_equal_right dc_equal_right pm_equal_right cd_equal_right ct_equal_right oc_right kV_right dc_right pm_right cd_right ct_right oc_law kV_law dc_law pm_law cd_law ct_law : Value}
    {tk__INTEGER_BOUND tk_MAX_LETTERS tk_MAX_TABLES tk_MAX_COLUMNS tk_MAX_KEYS tk_MAX_REFERENCES : Tok}
    {rest_tables rest_references : List Value}
    {nm_U qn_U : Str}
    {N_U : Addr}
    {bs_U sub_U : List Value}
    {sn_U : List Str}
    {ab_U : Bool}
    {col_U : Option Bool}
    {dd_U : Option Addr}
    {k0_U k1_U k2_U k3_U k5_U : Option Value}
    (ac_Schema : PySem.W.nsIn K mainGlobals "Schema" = some (some (.ref c_Schema)))
    (ac_InvalidSchema : PySem.W.nsIn K mainGlobals "InvalidSchema" = some (some (.ref c_InvalidSchema)))
    (ac_InvalidOperation : PySem.W.nsIn K mainGlobals "InvalidOperation" = some (some (.ref c_InvalidOperation)))
    (ac_UnknownName : PySem.W.nsIn K mainGlobals "UnknownName" = some (some (.ref c_UnknownName)))
    (ac_DealError : PySem.W.nsIn K mainGlobals "DealError" = some (some (.ref c_DealError)))
    (a_is_name : PySem.W.nsIn K mainGlobals "is_name" = some (some (.ref f_is_name)))
    (l_is_name : K.lookup f_is_name = some ⟨oc_is_name, od_is_name, .func (PySem.W.fnOf "is_name" "is_name" (defArgs s_is_name) (defBody s_is_name) (defScope s_is_name) .none kV_is_name dc_is_name pm_is_name an_is_name cd_is_name ct_is_name), sl_is_name⟩)
    (cc_is_name : PySem.W.codeIn K cd_is_name "is_name" = true)
    (kk_is_name : PySem.W.keepIn K (.ref f_is_name) = true)
    (a_are_integers : PySem.W.nsIn K mainGlobals "are_integers" = some (some (.ref f_are_integers)))
    (l_are_integers : K.lookup f_are_integers = some ⟨oc_are_integers, od_are_integers, .func (PySem.W.fnOf "are_integers" "are_integers" (defArgs s_are_integers) (defBody s_are_integers) (defScope s_are_integers) .none kV_are_integers dc_are_integers pm_are_integers an_are_integers cd_are_integers ct_are_integers), sl_are_integers⟩)
    (cc_are_integers : PySem.W.codeIn K cd_are_integers "are_integers" = true)
    (kk_are_integers : PySem.W.keepIn K (.ref f_are_integers) = true)
    (a_are_names : PySem.W.nsIn K mainGlobals "are_names" = some (some (.ref f_are_names)))
    (l_are_names : K.lookup f_are_names = some ⟨oc_are_names, od_are_names, .func (PySem.W.fnOf "are_names" "are_names" (defArgs s_are_names) (defBody s_are_names) (defScope s_are_names) .none kV_are_names dc_are_names pm_are_names an_are_names cd_are_names ct_are_names), sl_are_names⟩)
    (cc_are_names : PySem.W.codeIn K cd_are_names "are_names" = true)
    (kk_are_names : PySem.W.keepIn K (.ref f_are_names) = true)
    (a_is_ascending : PySem.W.nsIn K mainGlobals "is_ascending" = some (some (.ref f_is_ascending)))
    (l_is_ascending : K.lookup f_is_ascending = some ⟨oc_is_ascending, od_is_ascending, .func (PySem.W.fnOf "is_ascending" "is_ascending" (defArgs s_is_ascending) (defBody s_is_ascending) (defScope s_is_ascending) .none kV_is_ascending dc_is_ascending pm_is_ascending an_is_ascending cd_is_ascending ct_is_ascending), sl_is_ascending⟩)
    (cc_is_ascending : PySem.W.codeIn K cd_is_ascending "is_ascending" = true)
    (kk_is_ascending : PySem.W.keepIn K (.ref f_is_ascending) = true)
    (i_UnknownName : PySem.W.findIn K (.ref c_UnknownName) "__init__" = some (some (.ref f_UnknownName___init__)))
    (ti_UnknownName : PySem.W.typeIn K (.ref f_UnknownName___init__) = some (.type "function"))
    (l_UnknownName___init__ : K.lookup f_UnknownName___init__ = some ⟨oc_UnknownName___init__, od_UnknownName___init__, .func (PySem.W.fnOf "__init__" "UnknownName.__init__" (defArgs s_UnknownName___init__) (defBody s_UnknownName___init__) (defScope s_UnknownName___init__) .none kV_UnknownName___init__ dc_UnknownName___init__ pm_UnknownName___init__ an_UnknownName___init__ cd_UnknownName___init__ ct_UnknownName___init__), sl_UnknownName___init__⟩)
    (cc_UnknownName___init__ : PySem.W.codeIn K cd_UnknownName___init__ "UnknownName.__init__" = true)
    (kk_UnknownName___init__ : PySem.W.keepIn K (.ref f_UnknownName___init__) = true)
    (a__are_columns : PySem.W.nsIn K mainGlobals "_are_columns" = some (some (.ref f__are_columns)))
    (l__are_columns : K.lookup f__are_columns = some ⟨oc__are_columns, od__are_columns, .func (PySem.W.fnOf "_are_columns" "_are_columns" (defArgs s__are_columns) (defBody s__are_columns) (defScope s__are_columns) .none kV__are_columns dc__are_columns pm__are_columns an__are_columns cd__are_columns ct__are_columns), sl__are_columns⟩)
    (cc__are_columns : PySem.W.codeIn K cd__are_columns "_are_columns" = true)
    (kk__are_columns : PySem.W.keepIn K (.ref f__are_columns) = true)
    (a__are_tables : PySem.W.nsIn K mainGlobals "_are_tables" = some (some (.ref f__are_tables)))
    (l__are_tables : K.lookup f__are_tables = some ⟨oc__are_tables, od__are_tables, .func (PySem.W.fnOf "_are_tables" "_are_tables" (defArgs s__are_tables) (defBody s__are_tables) (defScope s__are_tables) .none kV__are_tables dc__are_tables pm__are_tables an__are_tables cd__are_tables ct__are_tables), sl__are_tables⟩)
    (cc__are_tables : PySem.W.codeIn K cd__are_tables "_are_tables" = true)
    (kk__are_tables : PySem.W.keepIn K (.ref f__are_tables) = true)
    (a__is_key_of : PySem.W.nsIn K mainGlobals "_is_key_of" = some (some (.ref f__is_key_of)))
    (l__is_key_of : K.lookup f__is_key_of = some ⟨oc__is_key_of, od__is_key_of, .func (PySem.W.fnOf "_is_key_of" "_is_key_of" (defArgs s__is_key_of) (defBody s__is_key_of) (defScope s__is_key_of) .none kV__is_key_of dc__is_key_of pm__is_key_of an__is_key_of cd__is_key_of ct__is_key_of), sl__is_key_of⟩)
    (cc__is_key_of : PySem.W.codeIn K cd__is_key_of "_is_key_of" = true)
    (kk__is_key_of : PySem.W.keepIn K (.ref f__is_key_of) = true)
    (a__are_keys_of : PySem.W.nsIn K mainGlobals "_are_keys_of" = some (some (.ref f__are_keys_of)))
    (l__are_keys_of : K.lookup f__are_keys_of = some ⟨oc__are_keys_of, od__are_keys_of, .func (PySem.W.fnOf "_are_keys_of" "_are_keys_of" (defArgs s__are_keys_of) (defBody s__are_keys_of) (defScope s__are_keys_of) .none kV__are_keys_of dc__are_keys_of pm__are_keys_of an__are_keys_of cd__are_keys_of ct__are_keys_of), sl__are_keys_of⟩)
    (cc__are_keys_of : PySem.W.codeIn K cd__are_keys_of "_are_keys_of" = true)
    (kk__are_keys_of : PySem.W.keepIn K (.ref f__are_keys_of) = true)
    (a__are_keys : PySem.W.nsIn K mainGlobals "_are_keys" = some (some (.ref f__are_keys)))
    (l__are_keys : K.lookup f__are_keys = some ⟨oc__are_keys, od__are_keys, .func (PySem.W.fnOf "_are_keys" "_are_keys" (defArgs s__are_keys) (defBody s__are_keys) (defScope s__are_keys) .none kV__are_keys dc__are_keys pm__are_keys an__are_keys cd__are_keys ct__are_keys), sl__are_keys⟩)
    (cc__are_keys : PySem.W.codeIn K cd__are_keys "_are_keys" = true)
    (kk__are_keys : PySem.W.keepIn K (.ref f__are_keys) = true)
    (a__is_reference : PySem.W.nsIn K mainGlobals "_is_reference" = some (some (.ref f__is_reference)))
    (l__is_reference : K.lookup f__is_reference = some ⟨oc__is_reference, od__is_reference, .func (PySem.W.fnOf "_is_reference" "_is_reference" (defArgs s__is_reference) (defBody s__is_reference) (defScope s__is_reference) .none kV__is_reference dc__is_reference pm__is_reference an__is_reference cd__is_reference ct__is_reference), sl__is_reference⟩)
    (cc__is_reference : PySem.W.codeIn K cd__is_reference "_is_reference" = true)
    (kk__is_reference : PySem.W.keepIn K (.ref f__is_reference) = true)
    (a__lead_round : PySem.W.nsIn K mainGlobals "_lead_round" = some (some (.ref f__lead_round)))
    (l__lead_round : K.lookup f__lead_round = some ⟨oc__lead_round, od__lead_round, .func (PySem.W.fnOf "_lead_round" "_lead_round" (defArgs s__lead_round) (defBody s__lead_round) (defScope s__lead_round) .none kV__lead_round dc__lead_round pm__lead_round an__lead_round cd__lead_round ct__lead_round), sl__lead_round⟩)
    (cc__lead_round : PySem.W.codeIn K cd__lead_round "_lead_round" = true)
    (kk__lead_round : PySem.W.keepIn K (.ref f__lead_round) = true)
    (a__are_references : PySem.W.nsIn K mainGlobals "_are_references" = some (some (.ref f__are_references)))
    (l__are_references : K.lookup f__are_references = some ⟨oc__are_references, od__are_references, .func (PySem.W.fnOf "_are_references" "_are_references" (defArgs s__are_references) (defBody s__are_references) (defScope s__are_references) .none kV__are_references dc__are_references pm__are_references an__are_references cd__are_references ct__are_references), sl__are_references⟩)
    (cc__are_references : PySem.W.codeIn K cd__are_references "_are_references" = true)
    (kk__are_references : PySem.W.keepIn K (.ref f__are_references) = true)
    (a__reached : PySem.W.nsIn K mainGlobals "_reached" = some (some (.ref f__reached)))
    (l__reached : K.lookup f__reached = some ⟨oc__reached, od__reached, .func (PySem.W.fnOf "_reached" "_reached" (defArgs s__reached) (defBody s__reached) (defScope s__reached) .none kV__reached dc__reached pm__reached an__reached cd__reached ct__reached), sl__reached⟩)
    (cc__reached : PySem.W.codeIn K cd__reached "_reached" = true)
    (kk__reached : PySem.W.keepIn K (.ref f__reached) = true)
    (a__many : PySem.W.nsIn K mainGlobals "_many" = some (some (.ref f__many)))
    (l__many : K.lookup f__many = some ⟨oc__many, od__many, .func (PySem.W.fnOf "_many" "_many" (defArgs s__many) (defBody s__many) (defScope s__many) .none kV__many dc__many pm__many an__many cd__many ct__many), sl__many⟩)
    (cc__many : PySem.W.codeIn K cd__many "_many" = true)
    (kk__many : PySem.W.keepIn K (.ref f__many) = true)
    (at___init__ : PySem.W.findIn K (.ref c_Schema) "__init__" = some (some (.ref f_Schema___init__)))
    (l_Schema___init__ : K.lookup f_Schema___init__ = some ⟨oc_Schema___init__, od_Schema___init__, .func (PySem.W.fnOf "__init__" "Schema.__init__" (defArgs s_Schema___init__) (defBody s_Schema___init__) (defScope s_Schema___init__) .none (.ref o_kwd) dc_Schema___init__ pm_Schema___init__ an_Schema___init__ cd_Schema___init__ ct_Schema___init__), sl_Schema___init__⟩)
    (cc_Schema___init__ : PySem.W.codeIn K cd_Schema___init__ "Schema.__init__" = true)
    (kk_Schema___init__ : PySem.W.keepIn K (.ref f_Schema___init__) = true)
    (at_tables : PySem.W.findIn K (.ref c_Schema) "tables" = some (some (.ref p_tables)))
    (rc_tables : PySem.W.recIn K p_tables "property" = some (.ref f_Schema_tables :: rest_tables))
    (l_Schema_tables : K.lookup f_Schema_tables = some ⟨oc_Schema_tables, od_Schema_tables, .func (PySem.W.fnOf "tables" "Schema.tables" (defArgs s_Schema_tables) (defBody s_Schema_tables) (defScope s_Schema_tables) .none kV_Schema_tables dc_Schema_tables pm_Schema_tables an_Schema_tables cd_Schema_tables ct_Schema_tables), sl_Schema_tables⟩)
    (cc_Schema_tables : PySem.W.codeIn K cd_Schema_tables "Schema.tables" = true)
    (kk_Schema_tables : PySem.W.keepIn K (.ref f_Schema_tables) = true)
    (at_references : PySem.W.findIn K (.ref c_Schema) "references" = some (some (.ref p_references)))
    (rc_references : PySem.W.recIn K p_references "property" = some (.ref f_Schema_references :: rest_references))
    (l_Schema_references : K.lookup f_Schema_references = some ⟨oc_Schema_references, od_Schema_references, .func (PySem.W.fnOf "references" "Schema.references" (defArgs s_Schema_references) (defBody s_Schema_references) (defScope s_Schema_references) .none kV_Schema_references dc_Schema_references pm_Schema_references an_Schema_references cd_Schema_references ct_Schema_references), sl_Schema_references⟩)
    (cc_Schema_references : PySem.W.codeIn K cd_Schema_references "Schema.references" = true)
    (kk_Schema_references : PySem.W.keepIn K (.ref f_Schema_references) = true)
    (at___contains__ : PySem.W.findIn K (.ref c_Schema) "__contains__" = some (some (.ref f_Schema___contains__)))
    (l_Schema___contains__ : K.lookup f_Schema___contains__ = some ⟨oc_Schema___contains__, od_Schema___contains__, .func (PySem.W.fnOf "__contains__" "Schema.__contains__" (defArgs s_Schema___contains__) (defBody s_Schema___contains__) (defScope s_Schema___contains__) .none kV_Schema___contains__ dc_Schema___contains__ pm_Schema___contains__ an_Schema___contains__ cd_Schema___contains__ ct_Schema___contains__), sl_Schema___contains__⟩)
    (cc_Schema___contains__ : PySem.W.codeIn K cd_Schema___contains__ "Schema.__contains__" = true)
    (kk_Schema___contains__ : PySem.W.keepIn K (.ref f_Schema___contains__) = true)
    (at__check_table : PySem.W.findIn K (.ref c_Schema) "_check_table" = some (some (.ref f_Schema__check_table)))
    (l_Schema__check_table : K.lookup f_Schema__check_table = some ⟨oc_Schema__check_table, od_Schema__check_table, .func (PySem.W.fnOf "_check_table" "Schema._check_table" (defArgs s_Schema__check_table) (defBody s_Schema__check_table) (defScope s_Schema__check_table) .none kV_Schema__check_table dc_Schema__check_table pm_Schema__check_table an_Schema__check_table cd_Schema__check_table ct_Schema__check_table), sl_Schema__check_table⟩)
    (cc_Schema__check_table : PySem.W.codeIn K cd_Schema__check_table "Schema._check_table" = true)
    (kk_Schema__check_table : PySem.W.keepIn K (.ref f_Schema__check_table) = true)
    (at_keys_of : PySem.W.findIn K (.ref c_Schema) "keys_of" = some (some (.ref f_Schema_keys_of)))
    (l_Schema_keys_of : K.lookup f_Schema_keys_of = some ⟨oc_Schema_keys_of, od_Schema_keys_of, .func (PySem.W.fnOf "keys_of" "Schema.keys_of" (defArgs s_Schema_keys_of) (defBody s_Schema_keys_of) (defScope s_Schema_keys_of) .none kV_Schema_keys_of dc_Schema_keys_of pm_Schema_keys_of an_Schema_keys_of cd_Schema_keys_of ct_Schema_keys_of), sl_Schema_keys_of⟩)
    (cc_Schema_keys_of : PySem.W.codeIn K cd_Schema_keys_of "Schema.keys_of" = true)
    (kk_Schema_keys_of : PySem.W.keepIn K (.ref f_Schema_keys_of) = true)
    (at_references_of : PySem.W.findIn K (.ref c_Schema) "references_of" = some (some (.ref f_Schema_references_of)))
    (l_Schema_references_of : K.lookup f_Schema_references_of = some ⟨oc_Schema_references_of, od_Schema_references_of, .func (PySem.W.fnOf "references_of" "Schema.references_of" (defArgs s_Schema_references_of) (defBody s_Schema_references_of) (defScope s_Schema_references_of) .none kV_Schema_references_of dc_Schema_references_of pm_Schema_references_of an_Schema_references_of cd_Schema_references_of ct_Schema_references_of), sl_Schema_references_of⟩)
    (cc_Schema_references_of : PySem.W.codeIn K cd_Schema_references_of "Schema.references_of" = true)
    (kk_Schema_references_of : PySem.W.keepIn K (.ref f_Schema_references_of) = true)
    (at_is_row_of : PySem.W.findIn K (.ref c_Schema) "is_row_of" = some (some (.ref f_Schema_is_row_of)))
    (l_Schema_is_row_of : K.lookup f_Schema_is_row_of = some ⟨oc_Schema_is_row_of, od_Schema_is_row_of, .func (PySem.W.fnOf "is_row_of" "Schema.is_row_of" (defArgs s_Schema_is_row_of) (defBody s_Schema_is_row_of) (defScope s_Schema_is_row_of) .none kV_Schema_is_row_of dc_Schema_is_row_of pm_Schema_is_row_of an_Schema_is_row_of cd_Schema_is_row_of ct_Schema_is_row_of), sl_Schema_is_row_of⟩)
    (cc_Schema_is_row_of : PySem.W.codeIn K cd_Schema_is_row_of "Schema.is_row_of" = true)
    (kk_Schema_is_row_of : PySem.W.keepIn K (.ref f_Schema_is_row_of) = true)
    (at_leads_to : PySem.W.findIn K (.ref c_Schema) "leads_to" = some (some (.ref f_Schema_leads_to)))
    (l_Schema_leads_to : K.lookup f_Schema_leads_to = some ⟨oc_Schema_leads_to, od_Schema_leads_to, .func (PySem.W.fnOf "leads_to" "Schema.leads_to" (defArgs s_Schema_leads_to) (defBody s_Schema_leads_to) (defScope s_Schema_leads_to) .none kV_Schema_leads_to dc_Schema_leads_to pm_Schema_leads_to an_Schema_leads_to cd_Schema_leads_to ct_Schema_leads_to), sl_Schema_leads_to⟩)
    (cc_Schema_leads_to : PySem.W.codeIn K cd_Schema_leads_to "Schema.leads_to" = true)
    (kk_Schema_leads_to : PySem.W.keepIn K (.ref f_Schema_leads_to) = true)
    (at_without_key : PySem.W.findIn K (.ref c_Schema) "without_key" = some (some (.ref f_Schema_without_key)))
    (l_Schema_without_key : K.lookup f_Schema_without_key = some ⟨oc_Schema_without_key, od_Schema_without_key, .func (PySem.W.fnOf "without_key" "Schema.without_key" (defArgs s_Schema_without_key) (defBody s_Schema_without_key) (defScope s_Schema_without_key) .none kV_Schema_without_key dc_Schema_without_key pm_Schema_without_key an_Schema_without_key cd_Schema_without_key ct_Schema_without_key), sl_Schema_without_key⟩)
    (cc_Schema_without_key : PySem.W.codeIn K cd_Schema_without_key "Schema.without_key" = true)
    (kk_Schema_without_key : PySem.W.keepIn K (.ref f_Schema_without_key) = true)
    (at_without_reference : PySem.W.findIn K (.ref c_Schema) "without_reference" = some (some (.ref f_Schema_without_reference)))
    (l_Schema_without_reference : K.lookup f_Schema_without_reference = some ⟨oc_Schema_without_reference, od_Schema_without_reference, .func (PySem.W.fnOf "without_reference" "Schema.without_reference" (defArgs s_Schema_without_reference) (defBody s_Schema_without_reference) (defScope s_Schema_without_reference) .none kV_Schema_without_reference dc_Schema_without_reference pm_Schema_without_reference an_Schema_without_reference cd_Schema_without_reference ct_Schema_without_reference), sl_Schema_without_reference⟩)
    (cc_Schema_without_reference : PySem.W.codeIn K cd_Schema_without_reference "Schema.without_reference" = true)
    (kk_Schema_without_reference : PySem.W.keepIn K (.ref f_Schema_without_reference) = true)
    (at___len__ : PySem.W.findIn K (.ref c_Schema) "__len__" = some (some (.ref f_Schema___len__)))
    (l_Schema___len__ : K.lookup f_Schema___len__ = some ⟨oc_Schema___len__, od_Schema___len__, .func (PySem.W.fnOf "__len__" "Schema.__len__" (defArgs s_Schema___len__) (defBody s_Schema___len__) (defScope s_Schema___len__) .none kV_Schema___len__ dc_Schema___len__ pm_Schema___len__ an_Schema___len__ cd_Schema___len__ ct_Schema___len__), sl_Schema___len__⟩)
    (cc_Schema___len__ : PySem.W.codeIn K cd_Schema___len__ "Schema.__len__" = true)
    (kk_Schema___len__ : PySem.W.keepIn K (.ref f_Schema___len__) = true)
    (at___eq__ : PySem.W.findIn K (.ref c_Schema) "__eq__" = some (some (.ref f_Schema___eq__)))
    (l_Schema___eq__ : K.lookup f_Schema___eq__ = some ⟨oc_Schema___eq__, od_Schema___eq__, .func (PySem.W.fnOf "__eq__" "Schema.__eq__" (defArgs s_Schema___eq__) (defBody s_Schema___eq__) (defScope s_Schema___eq__) .none kV_Schema___eq__ dc_Schema___eq__ pm_Schema___eq__ an_Schema___eq__ cd_Schema___eq__ ct_Schema___eq__), sl_Schema___eq__⟩)
    (cc_Schema___eq__ : PySem.W.codeIn K cd_Schema___eq__ "Schema.__eq__" = true)
    (kk_Schema___eq__ : PySem.W.keepIn K (.ref f_Schema___eq__) = true)
    (at___str__ : PySem.W.findIn K (.ref c_Schema) "__str__" = some (some (.ref f_Schema___str__)))
    (l_Schema___str__ : K.lookup f_Schema___str__ = some ⟨oc_Schema___str__, od_Schema___str__, .func (PySem.W.fnOf "__str__" "Schema.__str__" (defArgs s_Schema___str__) (defBody s_Schema___str__) (defScope s_Schema___str__) .none kV_Schema___str__ dc_Schema___str__ pm_Schema___str__ an_Schema___str__ cd_Schema___str__ ct_Schema___str__), sl_Schema___str__⟩)
    (cc_Schema___str__ : PySem.W.codeIn K cd_Schema___str__ "Schema.__str__" = true)
    (kk_Schema___str__ : PySem.W.keepIn K (.ref f_Schema___str__) = true)
    (a_dice : PySem.W.nsIn K mainGlobals "_law_dice" = some (some (.ref f_dice)))
    (l_dice : K.lookup f_dice = some ⟨oc_dice, od_dice, .func (PySem.W.fnOf "_law_dice" "_law_dice" (defArgs s__law_dice) (defBody s__law_dice) (defScope s__law_dice) .none kV_dice dc_dice pm_dice an_dice cd_dice ct_dice), sl_dice⟩)
    (cc_dice : PySem.W.codeIn K cd_dice "_law_dice" = true)
    (kk_dice : PySem.W.keepIn K (.ref f_dice) = true)
    (a_roll : PySem.W.nsIn K mainGlobals "_law_roll" = some (some (.ref f_roll)))
    (l_roll : K.lookup f_roll = some ⟨oc_roll, od_roll, .func (PySem.W.fnOf "_law_roll" "_law_roll" (defArgs s__law_roll) (defBody s__law_roll) (defScope s__law_roll) .none kV_roll dc_roll pm_roll an_roll cd_roll ct_roll), sl_roll⟩)
    (cc_roll : PySem.W.codeIn K cd_roll "_law_roll" = true)
    (kk_roll : PySem.W.keepIn K (.ref f_roll) = true)
    (a_pick : PySem.W.nsIn K mainGlobals "_law_pick" = some (some (.ref f_pick)))
    (l_pick : K.lookup f_pick = some ⟨oc_pick, od_pick, .func (PySem.W.fnOf "_law_pick" "_law_pick" (defArgs s__law_pick) (defBody s__law_pick) (defScope s__law_pick) .none kV_pick dc_pick pm_pick an_pick cd_pick ct_pick), sl_pick⟩)
    (cc_pick : PySem.W.codeIn K cd_pick "_law_pick" = true)
    (kk_pick : PySem.W.keepIn K (.ref f_pick) = true)
    (a_mixed : PySem.W.nsIn K mainGlobals "_law_mixed" = some (some (.ref f_mixed)))
    (l_mixed : K.lookup f_mixed = some ⟨oc_mixed, od_mixed, .func (PySem.W.fnOf "_law_mixed" "_law_mixed" (defArgs s__law_mixed) (defBody s__law_mixed) (defScope s__law_mixed) .none kV_mixed dc_mixed pm_mixed an_mixed cd_mixed ct_mixed), sl_mixed⟩)
    (cc_mixed : PySem.W.codeIn K cd_mixed "_law_mixed" = true)
    (kk_mixed : PySem.W.keepIn K (.ref f_mixed) = true)
    (a_names : PySem.W.nsIn K mainGlobals "_law_names" = some (some (.ref f_names)))
    (l_names : K.lookup f_names = some ⟨oc_names, od_names, .func (PySem.W.fnOf "_law_names" "_law_names" (defArgs s__law_names) (defBody s__law_names) (defScope s__law_names) .none kV_names dc_names pm_names an_names cd_names ct_names), sl_names⟩)
    (cc_names : PySem.W.codeIn K cd_names "_law_names" = true)
    (kk_names : PySem.W.keepIn K (.ref f_names) = true)
    (a_some : PySem.W.nsIn K mainGlobals "_law_some" = some (some (.ref f_some)))
    (l_some : K.lookup f_some = some ⟨oc_some, od_some, .func (PySem.W.fnOf "_law_some" "_law_some" (defArgs s__law_some) (defBody s__law_some) (defScope s__law_some) .none kV_some dc_some pm_some an_some cd_some ct_some), sl_some⟩)
    (cc_some : PySem.W.codeIn K cd_some "_law_some" = true)
    (kk_some : PySem.W.keepIn K (.ref f_some) = true)
    (a_ways : PySem.W.nsIn K mainGlobals "_law_ways" = some (some (.ref f_ways)))
    (l_ways : K.lookup f_ways = some ⟨oc_ways, od_ways, .func (PySem.W.fnOf "_law_ways" "_law_ways" (defArgs s__law_ways) (defBody s__law_ways) (defScope s__law_ways) .none kV_ways dc_ways pm_ways an_ways cd_ways ct_ways), sl_ways⟩)
    (cc_ways : PySem.W.codeIn K cd_ways "_law_ways" = true)
    (kk_ways : PySem.W.keepIn K (.ref f_ways) = true)
    (a_schema : PySem.W.nsIn K mainGlobals "_law_schema" = some (some (.ref f_schema)))
    (l_schema : K.lookup f_schema = some ⟨oc_schema, od_schema, .func (PySem.W.fnOf "_law_schema" "_law_schema" (defArgs s__law_schema) (defBody s__law_schema) (defScope s__law_schema) .none kV_schema dc_schema pm_schema an_schema cd_schema ct_schema), sl_schema⟩)
    (cc_schema : PySem.W.codeIn K cd_schema "_law_schema" = true)
    (kk_schema : PySem.W.keepIn K (.ref f_schema) = true)
    (a_schema_made : PySem.W.nsIn K mainGlobals "_law_schema_made" = some (some (.ref f_schema_made)))
    (l_schema_made : K.lookup f_schema_made = some ⟨oc_schema_made, od_schema_made, .func (PySem.W.fnOf "_law_schema_made" "_law_schema_made" (defArgs s__law_schema_made) (defBody s__law_schema_made) (defScope s__law_schema_made) .none kV_schema_made dc_schema_made pm_schema_made an_schema_made cd_schema_made ct_schema_made), sl_schema_made⟩)
    (cc_schema_made : PySem.W.codeIn K cd_schema_made "_law_schema_made" = true)
    (kk_schema_made : PySem.W.keepIn K (.ref f_schema_made) = true)
    (a_with : PySem.W.nsIn K mainGlobals "_law_with" = some (some (.ref f_with)))
    (l_with : K.lookup f_with = some ⟨oc_with, od_with, .func (PySem.W.fnOf "_law_with" "_law_with" (defArgs s__law_with) (defBody s__law_with) (defScope s__law_with) .none kV_with dc_with pm_with an_with cd_with ct_with), sl_with⟩)
    (cc_with : PySem.W.codeIn K cd_with "_law_with" = true)
    (kk_with : PySem.W.keepIn K (.ref f_with) = true)
    (a_without : PySem.W.nsIn K mainGlobals "_law_without" = some (some (.ref f_without)))
    (l_without : K.lookup f_without = some ⟨oc_without, od_without, .func (PySem.W.fnOf "_law_without" "_law_without" (defArgs s__law_without) (defBody s__law_without) (defScope s__law_without) .none kV_without dc_without pm_without an_without cd_without ct_without), sl_without⟩)
    (cc_without : PySem.W.codeIn K cd_without "_law_without" = true)
    (kk_without : PySem.W.keepIn K (.ref f_without) = true)
    (a_reached : PySem.W.nsIn K mainGlobals "_law_reached" = some (some (.ref f_reached)))
    (l_reached : K.lookup f_reached = some ⟨oc_reached, od_reached, .func (PySem.W.fnOf "_law_reached" "_law_reached" (defArgs s__law_reached) (defBody s__law_reached) (defScope s__law_reached) .none kV_reached dc_reached pm_reached an_reached cd_reached ct_reached), sl_reached⟩)
    (cc_reached : PySem.W.codeIn K cd_reached "_law_reached" = true)
    (kk_reached : PySem.W.keepIn K (.ref f_reached) = true)
    (a_ways_right : PySem.W.nsIn K mainGlobals "_law_ways_right" = some (some (.ref f_ways_right)))
    (l_ways_right : K.lookup f_ways_right = some ⟨oc_ways_right, od_ways_right, .func (PySem.W.fnOf "_law_ways_right" "_law_ways_right" (defArgs s__law_ways_right) (defBody s__law_ways_right) (defScope s__law_ways_right) .none kV_ways_right dc_ways_right pm_ways_right an_ways_right cd_ways_right ct_ways_right), sl_ways_right⟩)
    (cc_ways_right : PySem.W.codeIn K cd_ways_right "_law_ways_right" = true)
    (kk_ways_right : PySem.W.keepIn K (.ref f_ways_right) = true)
    (a_rest : PySem.W.nsIn K mainGlobals "_law_rest" = some (some (.ref f_rest)))
    (l_rest : K.lookup f_rest = some ⟨oc_rest, od_rest, .func (PySem.W.fnOf "_law_rest" "_law_rest" (defArgs s__law_rest) (defBody s__law_rest) (defScope s__law_rest) .none kV_rest dc_rest pm_rest an_rest cd_rest ct_rest), sl_rest⟩)
    (cc_rest : PySem.W.codeIn K cd_rest "_law_rest" = true)
    (kk_rest : PySem.W.keepIn K (.ref f_rest) = true)
    (a_less_right : PySem.W.nsIn K mainGlobals "_law_less_right" = some (some (.ref f_less_right)))
    (l_less_right : K.lookup f_less_right = some ⟨oc_less_right, od_less_right, .func (PySem.W.fnOf "_law_less_right" "_law_less_right" (defArgs s__law_less_right) (defBody s__law_less_right) (defScope s__law_less_right) .none kV_less_right dc_less_right pm_less_right an_less_right cd_less_right ct_less_right), sl_less_right⟩)
    (cc_less_right : PySem.W.codeIn K cd_less_right "_law_less_right" = true)
    (kk_less_right : PySem.W.keepIn K (.ref f_less_right) = true)
    (a_rows_right : PySem.W.nsIn K mainGlobals "_law_rows_right" = some (some (.ref f_rows_right)))
    (l_rows_right : K.lookup f_rows_right = some ⟨oc_rows_right, od_rows_right, .func (PySem.W.fnOf "_law_rows_right" "_law_rows_right" (defArgs s__law_rows_right) (defBody s__law_rows_right) (defScope s__law_rows_right) .none kV_rows_right dc_rows_right pm_rows_right an_rows_right cd_rows_right ct_rows_right), sl_rows_right⟩)
    (cc_rows_right : PySem.W.codeIn K cd_rows_right "_law_rows_right" = true)
    (kk_rows_right : PySem.W.keepIn K (.ref f_rows_right) = true)
    (a_equal_right : PySem.W.nsIn K mainGlobals "_law_equal_right" = some (some (.ref f_equal_right)))
    (l_equal_right : K.lookup f_equal_right = some ⟨oc_equal_right, od_equal_right, .func (PySem.W.fnOf "_law_equal_right" "_law_equal_right" (defArgs s__law_equal_right) (defBody s__law_equal_right) (defScope s__law_equal_right) .none kV_equal_right dc_equal_right pm_equal_right an_equal_right cd_equal_right ct_equal_right), sl_equal_right⟩)
    (cc_equal_right : PySem.W.codeIn K cd_equal_right "_law_equal_right" = true)
    (kk_equal_right : PySem.W.keepIn K (.ref f_equal_right) = true)
    (a_right : PySem.W.nsIn K mainGlobals "_law_right" = some (some (.ref f_right)))
    (l_right : K.lookup f_right = some ⟨oc_right, od_right, .func (PySem.W.fnOf "_law_right" "_law_right" (defArgs s__law_right) (defBody s__law_right) (defScope s__law_right) .none kV_right dc_right pm_right an_right cd_right ct_right), sl_right⟩)
    (cc_right : PySem.W.codeIn K cd_right "_law_right" = true)
    (kk_right : PySem.W.keepIn K (.ref f_right) = true)
    (a_law : PySem.W.nsIn K mainGlobals "law" = some (some (.ref f_law)))
    (l_law : K.lookup f_law = some ⟨oc_law, od_law, .func (PySem.W.fnOf "law" "law" (defArgs s_law) (defBody s_law) (defScope s_law) .none kV_law dc_law pm_law an_law cd_law ct_law), sl_law⟩)
    (cc_law : PySem.W.codeIn K cd_law "law" = true)
    (kk_law : PySem.W.keepIn K (.ref f_law) = true)
    (kw1 : PySem.W.nsIn K o_kwd "keys" = some (some .none))
    (kw2 : PySem.W.nsIn K o_kwd "references" = some (some .none))
    (a__INTEGER_BOUND : PySem.W.nsIn K mainGlobals "_INTEGER_BOUND" = some (some (.int (10 ^ 60) tk__INTEGER_BOUND)))
    (a_MAX_LETTERS : PySem.W.nsIn K mainGlobals "MAX_LETTERS" = some (some (.int (8) tk_MAX_LETTERS)))
    (a_MAX_TABLES : PySem.W.nsIn K mainGlobals "MAX_TABLES" = some (some (.int (5) tk_MAX_TABLES)))
    (a_MAX_COLUMNS : PySem.W.nsIn K mainGlobals "MAX_COLUMNS" = some (some (.int (4) tk_MAX_COLUMNS)))
    (a_MAX_KEYS : PySem.W.nsIn K mainGlobals "MAX_KEYS" = some (some (.int (2) tk_MAX_KEYS)))
    (a_MAX_REFERENCES : PySem.W.nsIn K mainGlobals "MAX_REFERENCES" = some (some (.int (4) tk_MAX_REFERENCES)))
    (b_len : PySem.W.nsIn K mainGlobals "len" = some none)
    (b_isinstance : PySem.W.nsIn K mainGlobals "isinstance" = some none)
    (b_all : PySem.W.nsIn K mainGlobals "all" = some none)
    (b_any : PySem.W.nsIn K mainGlobals "any" = some none)
    (b_str : PySem.W.nsIn K mainGlobals "str" = some none)
    (b_int : PySem.W.nsIn K mainGlobals "int" = some none)
    (b_bool : PySem.W.nsIn K mainGlobals "bool" = some none)
    (b_tuple : PySem.W.nsIn K mainGlobals "tuple" = some none)
    (b_dict : PySem.W.nsIn K mainGlobals "dict" = some none)
    (b_set : PySem.W.nsIn K mainGlobals "set" = some none)
    (b_sorted : PySem.W.nsIn K mainGlobals "sorted" = some none)
    (b_list : PySem.W.nsIn K mainGlobals "list" = some none)
    (b_repr : PySem.W.nsIn K mainGlobals "repr" = some none)
    (b_abs : PySem.W.nsIn K mainGlobals "abs" = some none)
    (b_range : PySem.W.nsIn K mainGlobals "range" = some none)
    (b_min : PySem.W.nsIn K mainGlobals "min" = some none)
    (b_max : PySem.W.nsIn K mainGlobals "max" = some none)
    (b_sum : PySem.W.nsIn K mainGlobals "sum" = some none)
    (b_zip : PySem.W.nsIn K mainGlobals "zip" = some none)
    (pgA : PySem.W.plainGet K c_Schema Str.empty = true)
    (hdA : PySem.W.hasDictIn K c_Schema = true)
    (poA : PySem.W.plainOver K c_Schema = true)
    (saA : PySem.W.findIn K (.ref c_Schema) "__setattr__" = some (some (.builtin "object.__setattr__")))
    (n_tables : PySem.W.findIn K (.ref c_Schema) "_tables" = some none)
    (n_keys : PySem.W.findIn K (.ref c_Schema) "_keys" = some none)
    (n_references : PySem.W.findIn K (.ref c_Schema) "_references" = some none)
    (n_places_by_table : PySem.W.findIn K (.ref c_Schema) "_places_by_table" = some none)
    (n_steps_by_table : PySem.W.findIn K (.ref c_Schema) "_steps_by_table" = some none)
    (mkI : PySem.W.makesIn K c_Schema = true)
    (kpA : PySem.W.keepIn K (.ref c_Schema) = true)
    (fnI : PySem.W.isFn K (.ref f_Schema___init__) = true)
    (ti1 : PySem.W.findIn K (.ref c_Schema) "__class__" = some (some (.builtin "object.__class__")))
    (ti2 : PySem.W.specialIn K (.builtin "object.__class__") "__get__" = some (some (.builtin "getset_descriptor.__get__")))
    (ti3 : PySem.W.takesIn K (.builtin "object.__class__") = some true)
    (ti4 : PySem.W.mroIn K c_Schema (.type "object") = some true)
    (kc1 : PySem.W.kitOne K (.ref c_Schema) (.type "tuple") = some false)
    (kpI : PySem.W.keepIn K (.ref c_InvalidSchema) = true)
    (bI : PySem.W.subIn K (.ref c_InvalidSchema) (.type "BaseException") = some true)
    (tyI : PySem.W.typeIn K (.ref c_InvalidSchema) = some (.type "type"))
    (kpO : PySem.W.keepIn K (.ref c_InvalidOperation) = true)
    (bO : PySem.W.subIn K (.ref c_InvalidOperation) (.type "BaseException") = some true)
    (tyO : PySem.W.typeIn K (.ref c_InvalidOperation) = some (.type "type"))
    (e1O : PySem.W.findIn K (.ref c_InvalidOperation) "__getattribute__" = some (some (.builtin "BaseException.__getattribute__")))
    (e2O : PySem.W.findIn K (.ref c_InvalidOperation) "__getattr__" = some none)
    (e4O : PySem.W.hasDictIn K c_InvalidOperation = true)
    (e5O : PySem.W.findIn K (.ref c_InvalidOperation) "__class__" = some (some (.builtin "object.__class__")))
    (e8O : PySem.W.mroIn K c_InvalidOperation (.type "object") = some true)
    (emOO : PySem.W.exmOne K (.ref c_InvalidOperation) (.ref c_InvalidOperation) = some true)
    (pgt_tables : PySem.W.specialIn K (.ref p_tables) "__get__" = some (some (.builtin "property.__get__")))
    (ptk_tables : PySem.W.takesIn K (.ref p_tables) = some true)
    (pgt_references : PySem.W.specialIn K (.ref p_references) "__get__" = some (some (.builtin "property.__get__")))
    (ptk_references : PySem.W.takesIn K (.ref p_references) = some true)
    (neA : PySem.W.findIn K (.ref c_Schema) "__ne__" = some (some (.builtin "object.__ne__")))
    (soA : PySem.W.subIn K (.ref c_Schema) (.type "object") = some true)
    (snA : PySem.W.subIn K (.ref c_Schema) (.type "NoneType") = some false)
    (ktA : PySem.W.kitOne K (.ref c_Schema) (.ref c_Schema) = some true)
    (nfiA : PySem.W.notFirst K c_Schema (.ref c_Schema) = true)
    (koNoneType : PySem.W.kitOne K (.type "NoneType") (.ref c_Schema) = some false)
    (nfiNoneType : PySem.W.notFirst K c_Schema (.type "NoneType") = true)
    (koint : PySem.W.kitOne K (.type "int") (.ref c_Schema) = some false)
    (nfiint : PySem.W.notFirst K c_Schema (.type "int") = true)
    (kodict : PySem.W.kitOne K (.type "dict") (.ref c_Schema) = some false)
    (nfidict : PySem.W.notFirst K c_Schema (.type "dict") = true)
    (kostr : PySem.W.kitOne K (.type "str") (.ref c_Schema) = some false)
    (nfistr : PySem.W.notFirst K c_Schema (.type "str") = true)
    (kotuple : PySem.W.kitOne K (.type "tuple") (.ref c_Schema) = some false)
    (nfituple : PySem.W.notFirst K c_Schema (.type "tuple") = true)
    (kolist : PySem.W.kitOne K (.type "list") (.ref c_Schema) = some false)
    (nfilist : PySem.W.notFirst K c_Schema (.type "list") = true)
    (fn__contains__ : PySem.W.isFn K (.ref f_Schema___contains__) = true)
    (fn__eq__ : PySem.W.isFn K (.ref f_Schema___eq__) = true)
    (fn__str__ : PySem.W.isFn K (.ref f_Schema___str__) = true)
    (fn_check_table : PySem.W.isFn K (.ref f_Schema__check_table) = true)
    (fnkeys_of : PySem.W.isFn K (.ref f_Schema_keys_of) = true)
    (fnreferences_of : PySem.W.isFn K (.ref f_Schema_references_of) = true)
    (fnis_row_of : PySem.W.isFn K (.ref f_Schema_is_row_of) = true)
    (fnleads_to : PySem.W.isFn K (.ref f_Schema_leads_to) = true)
    (fnwithout_key : PySem.W.isFn K (.ref f_Schema_without_key) = true)
    (fnwithout_reference : PySem.W.isFn K (.ref f_Schema_without_reference) = true)
    (x_UnknownName : K.lookup c_UnknownName = some (excClassObj nm_U qn_U c_UnknownName N_U bs_U (keT) true sn_U sub_U ab_U col_U dd_U k0_U k1_U k2_U k3_U k5_U "LookupError.__new__"))
    (kp_UnknownName : PySem.W.keepIn K (.ref c_UnknownName) = true)
    (sa_UnknownName : PySem.W.findIn K (.ref c_UnknownName) "__setattr__" = some (some (.builtin "object.__setattr__")))
    (nf_UnknownName : PySem.W.findIn K (.ref c_UnknownName) "name" = some none)
    (q_I : PySem.W.excIn K c_InvalidSchema veT "ValueError.__new__" = true)
    (q_O : PySem.W.excIn K c_InvalidOperation veT "ValueError.__new__" = true) :
    ∃ fd : FuncData, (∀ (s : Shared) (u : Value), BindsTo s fd ⟨[u], []⟩ [("_law_script", u)]) ∧ ∀ base : Heap, K.In base → base.Ns mainGlobals mg → Rp.FnG P w K mg base CX0 12 fa fd ["_law_script"] (spLaw K) := by
  obtain rfl : f_law = fa := by
    have e := hfa.symm.trans (PySem.W.mg_of X G a_law)
    cases e
    rfl
  have X_UnknownName := Exs.XObj.mk x_UnknownName
  have T : Txt K mg ⟨f_is_name, (PySem.W.fnOf "is_name" "is_name" (defArgs s_is_name) (defBody s_is_name) (defScope s_is_name) .none kV_is_name dc_is_name pm_is_name an_is_name cd_is_name ct_is_name), f_are_integers, (PySem.W.fnOf "are_integers" "are_integers" (defArgs s_are_integers) (defBody s_are_integers) (defScope s_are_integers) .none kV_are_integers dc_are_integers pm_are_integers an_are_integers cd_are_integers ct_are_integers), f_are_names, (PySem.W.fnOf "are_names" "are_names" (defArgs s_are_names) (defBody s_are_names) (defScope s_are_names) .none kV_are_names dc_are_names pm_are_names an_are_names cd_are_names ct_are_names), f_is_ascending, (PySem.W.fnOf "is_ascending" "is_ascending" (defArgs s_is_ascending) (defBody s_is_ascending) (defScope s_is_ascending) .none kV_is_ascending dc_is_ascending pm_is_ascending an_is_ascending cd_is_ascending ct_is_ascending), f_UnknownName___init__, (PySem.W.fnOf "__init__" "UnknownName.__init__" (defArgs s_UnknownName___init__) (defBody s_UnknownName___init__) (defScope s_UnknownName___init__) .none kV_UnknownName___init__ dc_UnknownName___init__ pm_UnknownName___init__ an_UnknownName___init__ cd_UnknownName___init__ ct_UnknownName___init__), f__are_columns, (PySem.W.fnOf "_are_columns" "_are_columns" (defArgs s__are_columns) (defBody s__are_columns) (defScope s__are_columns) .none kV__are_columns dc__are_columns pm__are_columns an__are_columns cd__are_columns ct__are_columns), f__are_tables, (PySem.W.fnOf "_are_tables" "_are_tables" (defArgs s__are_tables) (defBody s__are_tables) (defScope s__are_tables) .none kV__are_tables dc__are_tables pm__are_tables an__are_tables cd__are_tables ct__are_tables), f__is_key_of, (PySem.W.fnOf "_is_key_of" "_is_key_of" (defArgs s__is_key_of) (defBody s__is_key_of) (defScope s__is_key_of) .none kV__is_key_of dc__is_key_of pm__is_key_of an__is_key_of cd__is_key_of ct__is_key_of), f__are_keys_of, (PySem.W.fnOf "_are_keys_of" "_are_keys_of" (defArgs s__are_keys_of) (defBody s__are_keys_of) (defScope s__are_keys_of) .none kV__are_keys_of dc__are_keys_of pm__are_keys_of an__are_keys_of cd__are_keys_of ct__are_keys_of), f__are_keys, (PySem.W.fnOf "_are_keys" "_are_keys" (defArgs s__are_keys) (defBody s__are_keys) (defScope s__are_keys) .none kV__are_keys dc__are_keys pm__are_keys an__are_keys cd__are_keys ct__are_keys), f__is_reference, (PySem.W.fnOf "_is_reference" "_is_reference" (defArgs s__is_reference) (defBody s__is_reference) (defScope s__is_reference) .none kV__is_reference dc__is_reference pm__is_reference an__is_reference cd__is_reference ct__is_reference), f__lead_round, (PySem.W.fnOf "_lead_round" "_lead_round" (defArgs s__lead_round) (defBody s__lead_round) (defScope s__lead_round) .none kV__lead_round dc__lead_round pm__lead_round an__lead_round cd__lead_round ct__lead_round), f__are_references, (PySem.W.fnOf "_are_references" "_are_references" (defArgs s__are_references) (defBody s__are_references) (defScope s__are_references) .none kV__are_references dc__are_references pm__are_references an__are_references cd__are_references ct__are_references), f__reached, (PySem.W.fnOf "_reached" "_reached" (defArgs s__reached) (defBody s__reached) (defScope s__reached) .none kV__reached dc__reached pm__reached an__reached cd__reached ct__reached), f__many, (PySem.W.fnOf "_many" "_many" (defArgs s__many) (defBody s__many) (defScope s__many) .none kV__many dc__many pm__many an__many cd__many ct__many), f_Schema___init__, (PySem.W.fnOf "__init__" "Schema.__init__" (defArgs s_Schema___init__) (defBody s_Schema___init__) (defScope s_Schema___init__) .none (.ref o_kwd) dc_Schema___init__ pm_Schema___init__ an_Schema___init__ cd_Schema___init__ ct_Schema___init__), f_Schema_tables, (PySem.W.fnOf "tables" "Schema.tables" (defArgs s_Schema_tables) (defBody s_Schema_tables) (defScope s_Schema_tables) .none kV_Schema_tables dc_Schema_tables pm_Schema_tables an_Schema_tables cd_Schema_tables ct_Schema_tables), f_Schema_references, (PySem.W.fnOf "references" "Schema.references" (defArgs s_Schema_references) (defBody s_Schema_references) (defScope s_Schema_references) .none kV_Schema_references dc_Schema_references pm_Schema_references an_Schema_references cd_Schema_references ct_Schema_references), f_Schema___contains__, (PySem.W.fnOf "__contains__" "Schema.__contains__" (defArgs s_Schema___contains__) (defBody s_Schema___contains__) (defScope s_Schema___contains__) .none kV_Schema___contains__ dc_Schema___contains__ pm_Schema___contains__ an_Schema___contains__ cd_Schema___contains__ ct_Schema___contains__), f_Schema__check_table, (PySem.W.fnOf "_check_table" "Schema._check_table" (defArgs s_Schema__check_table) (defBody s_Schema__check_table) (defScope s_Schema__check_table) .none kV_Schema__check_table dc_Schema__check_table pm_Schema__check_table an_Schema__check_table cd_Schema__check_table ct_Schema__check_table), f_Schema_keys_of, (PySem.W.fnOf "keys_of" "Schema.keys_of" (defArgs s_Schema_keys_of) (defBody s_Schema_keys_of) (defScope s_Schema_keys_of) .none kV_Schema_keys_of dc_Schema_keys_of pm_Schema_keys_of an_Schema_keys_of cd_Schema_keys_of ct_Schema_keys_of), f_Schema_references_of, (PySem.W.fnOf "references_of" "Schema.references_of" (defArgs s_Schema_references_of) (defBody s_Schema_references_of) (defScope s_Schema_references_of) .none kV_Schema_references_of dc_Schema_references_of pm_Schema_references_of an_Schema_references_of cd_Schema_references_of ct_Schema_references_of), f_Schema_is_row_of, (PySem.W.fnOf "is_row_of" "Schema.is_row_of" (defArgs s_Schema_is_row_of) (defBody s_Schema_is_row_of) (defScope s_Schema_is_row_of) .none kV_Schema_is_row_of dc_Schema_is_row_of pm_Schema_is_row_of an_Schema_is_row_of cd_Schema_is_row_of ct_Schema_is_row_of), f_Schema_leads_to, (PySem.W.fnOf "leads_to" "Schema.leads_to" (defArgs s_Schema_leads_to) (defBody s_Schema_leads_to) (defScope s_Schema_leads_to) .none kV_Schema_leads_to dc_Schema_leads_to pm_Schema_leads_to an_Schema_leads_to cd_Schema_leads_to ct_Schema_leads_to), f_Schema_without_key, (PySem.W.fnOf "without_key" "Schema.without_key" (defArgs s_Schema_without_key) (defBody s_Schema_without_key) (defScope s_Schema_without_key) .none kV_Schema_without_key dc_Schema_without_key pm_Schema_without_key an_Schema_without_key cd_Schema_without_key ct_Schema_without_key), f_Schema_without_reference, (PySem.W.fnOf "without_reference" "Schema.without_reference" (defArgs s_Schema_without_reference) (defBody s_Schema_without_reference) (defScope s_Schema_without_reference) .none kV_Schema_without_reference dc_Schema_without_reference pm_Schema_without_reference an_Schema_without_reference cd_Schema_without_reference ct_Schema_without_reference), f_Schema___len__, (PySem.W.fnOf "__len__" "Schema.__len__" (defArgs s_Schema___len__) (defBody s_Schema___len__) (defScope s_Schema___len__) .none kV_Schema___len__ dc_Schema___len__ pm_Schema___len__ an_Schema___len__ cd_Schema___len__ ct_Schema___len__), f_Schema___eq__, (PySem.W.fnOf "__eq__" "Schema.__eq__" (defArgs s_Schema___eq__) (defBody s_Schema___eq__) (defScope s_Schema___eq__) .none kV_Schema___eq__ dc_Schema___eq__ pm_Schema___eq__ an_Schema___eq__ cd_Schema___eq__ ct_Schema___eq__), f_Schema___str__, (PySem.W.fnOf "__str__" "Schema.__str__" (defArgs s_Schema___str__) (defBody s_Schema___str__) (defScope s_Schema___str__) .none kV_Schema___str__ dc_Schema___str__ pm_Schema___str__ an_Schema___str__ cd_Schema___str__ ct_Schema___str__), f_dice, (PySem.W.fnOf "_law_dice" "_law_dice" (defArgs s__law_dice) (defBody s__law_dice) (defScope s__law_dice) .none kV_dice dc_dice pm_dice an_dice cd_dice ct_dice), f_roll, (PySem.W.fnOf "_law_roll" "_law_roll" (defArgs s__law_roll) (defBody s__law_roll) (defScope s__law_roll) .none kV_roll dc_roll pm_roll an_roll cd_roll ct_roll), f_pick, (PySem.W.fnOf "_law_pick" "_law_pick" (defArgs s__law_pick) (defBody s__law_pick) (defScope s__law_pick) .none kV_pick dc_pick pm_pick an_pick cd_pick ct_pick), f_mixed, (PySem.W.fnOf "_law_mixed" "_law_mixed" (defArgs s__law_mixed) (defBody s__law_mixed) (defScope s__law_mixed) .none kV_mixed dc_mixed pm_mixed an_mixed cd_mixed ct_mixed), f_names, (PySem.W.fnOf "_law_names" "_law_names" (defArgs s__law_names) (defBody s__law_names) (defScope s__law_names) .none kV_names dc_names pm_names an_names cd_names ct_names), f_some, (PySem.W.fnOf "_law_some" "_law_some" (defArgs s__law_some) (defBody s__law_some) (defScope s__law_some) .none kV_some dc_some pm_some an_some cd_some ct_some), f_ways, (PySem.W.fnOf "_law_ways" "_law_ways" (defArgs s__law_ways) (defBody s__law_ways) (defScope s__law_ways) .none kV_ways dc_ways pm_ways an_ways cd_ways ct_ways), f_schema, (PySem.W.fnOf "_law_schema" "_law_schema" (defArgs s__law_schema) (defBody s__law_schema) (defScope s__law_schema) .none kV_schema dc_schema pm_schema an_schema cd_schema ct_schema), f_schema_made, (PySem.W.fnOf "_law_schema_made" "_law_schema_made" (defArgs s__law_schema_made) (defBody s__law_schema_made) (defScope s__law_schema_made) .none kV_schema_made dc_schema_made pm_schema_made an_schema_made cd_schema_made ct_schema_made), f_with, (PySem.W.fnOf "_law_with" "_law_with" (defArgs s__law_with) (defBody s__law_with) (defScope s__law_with) .none kV_with dc_with pm_with an_with cd_with ct_with), f_without, (PySem.W.fnOf "_law_without" "_law_without" (defArgs s__law_without) (defBody s__law_without) (defScope s__law_without) .none kV_without dc_without pm_without an_without cd_without ct_without), f_reached, (PySem.W.fnOf "_law_reached" "_law_reached" (defArgs s__law_reached) (defBody s__law_reached) (defScope s__law_reached) .none kV_reached dc_reached pm_reached an_reached cd_reached ct_reached), f_ways_right, (PySem.W.fnOf "_law_ways_right" "_law_ways_right" (defArgs s__law_ways_right) (defBody s__law_ways_right) (defScope s__law_ways_right) .none kV_ways_right dc_ways_right pm_ways_right an_ways_right cd_ways_right ct_ways_right), f_rest, (PySem.W.fnOf "_law_rest" "_law_rest" (defArgs s__law_rest) (defBody s__law_rest) (defScope s__law_rest) .none kV_rest dc_rest pm_rest an_rest cd_rest ct_rest), f_less_right, (PySem.W.fnOf "_law_less_right" "_law_less_right" (defArgs s__law_less_right) (defBody s__law_less_right) (defScope s__law_less_right) .none kV_less_right dc_less_right pm_less_right an_less_right cd_less_right ct_less_right), f_rows_right, (PySem.W.fnOf "_law_rows_right" "_law_rows_right" (defArgs s__law_rows_right) (defBody s__law_rows_right) (defScope s__law_rows_right) .none kV_rows_right dc_rows_right pm_rows_right an_rows_right cd_rows_right ct_rows_right), f_equal_right, (PySem.W.fnOf "_law_equal_right" "_law_equal_right" (defArgs s__law_equal_right) (defBody s__law_equal_right) (defScope s__law_equal_right) .none kV_equal_right dc_equal_right pm_equal_right an_equal_right cd_equal_right ct_equal_right), f_right, (PySem.W.fnOf "_law_right" "_law_right" (defArgs s__law_right) (defBody s__law_right) (defScope s__law_right) .none kV_right dc_right pm_right an_right cd_right ct_right), f_law, (PySem.W.fnOf "law" "law" (defArgs s_law) (defBody s_law) (defScope s_law) .none kV_law dc_law pm_law an_law cd_law ct_law), c_Schema, c_InvalidSchema, c_InvalidOperation, c_UnknownName, c_DealError, p_tables, p_references, tk__INTEGER_BOUND, tk_MAX_LETTERS, tk_MAX_TABLES, tk_MAX_COLUMNS, tk_MAX_KEYS, tk_MAX_REFERENCES⟩ :=
    { F_is_name := fun_mk l_is_name cc_is_name kk_is_name,
      g_is_name := PySem.W.mg_of X G a_is_name,
      F_are_integers := fun_mk l_are_integers cc_are_integers kk_are_integers,
      g_are_integers := PySem.W.mg_of X G a_are_integers,
      F_are_names := fun_mk l_are_names cc_are_names kk_are_names,
      g_are_names := PySem.W.mg_of X G a_are_names,
      F_is_ascending := fun_mk l_is_ascending cc_is_ascending kk_is_ascending,
      g_is_ascending := PySem.W.mg_of X G a_is_ascending,
      F_UnknownName___init__ := fun_mk l_UnknownName___init__ cc_UnknownName___init__ kk_UnknownName___init__,
      F__are_columns := fun_mk l__are_columns cc__are_columns kk__are_columns,
      g__are_columns := PySem.W.mg_of X G a__are_columns,
      F__are_tables := fun_mk l__are_tables cc__are_tables kk__are_tables,
      g__are_tables := PySem.W.mg_of X G a__are_tables,
      F__is_key_of := fun_mk l__is_key_of cc__is_key_of kk__is_key_of,
      g__is_key_of := PySem.W.mg_of X G a__is_key_of,
      F__are_keys_of := fun_mk l__are_keys_of cc__are_keys_of kk__are_keys_of,
      g__are_keys_of := PySem.W.mg_of X G a__are_keys_of,
      F__are_keys := fun_mk l__are_keys cc__are_keys kk__are_keys,
      g__are_keys := PySem.W.mg_of X G a__are_keys,
      F__is_reference := fun_mk l__is_reference cc__is_reference kk__is_reference,
      g__is_reference := PySem.W.mg_of X G a__is_reference,
      F__lead_round := fun_mk l__lead_round cc__lead_round kk__lead_round,
      g__lead_round := PySem.W.mg_of X G a__lead_round,
      F__are_references := fun_mk l__are_references cc__are_references kk__are_references,
      g__are_references := PySem.W.mg_of X G a__are_references,
      F__reached := fun_mk l__reached cc__reached kk__reached,
      g__reached := PySem.W.mg_of X G a__reached,
      F__many := fun_mk l__many cc__many kk__many,
      g__many := PySem.W.mg_of X G a__many,
      F_Schema___init__ := ⟨⟨oc_Schema___init__, od_Schema___init__, .none, .ref o_kwd, dc_Schema___init__, pm_Schema___init__, an_Schema___init__, cd_Schema___init__, ct_Schema___init__, sl_Schema___init__, rfl, l_Schema___init__, cc_Schema___init__, .inl ⟨rfl, rfl⟩, .inr ⟨o_kwd, rfl, fun q hq => by
        rcases List.mem_cons.mp hq with e | e
        · rw [e]; exact ⟨_, kw1, rfl⟩
        · rw [List.mem_singleton.mp e]; exact ⟨_, kw2, rfl⟩⟩⟩, kk_Schema___init__⟩,
      F_Schema_tables := fun_mk l_Schema_tables cc_Schema_tables kk_Schema_tables,
      F_Schema_references := fun_mk l_Schema_references cc_Schema_references kk_Schema_references,
      F_Schema___contains__ := fun_mk l_Schema___contains__ cc_Schema___contains__ kk_Schema___contains__,
      F_Schema__check_table := fun_mk l_Schema__check_table cc_Schema__check_table kk_Schema__check_table,
      F_Schema_keys_of := fun_mk l_Schema_keys_of cc_Schema_keys_of kk_Schema_keys_of,
      F_Schema_references_of := fun_mk l_Schema_references_of cc_Schema_references_of kk_Schema_references_of,
      F_Schema_is_row_of := fun_mk l_Schema_is_row_of cc_Schema_is_row_of kk_Schema_is_row_of,
      F_Schema_leads_to := fun_mk l_Schema_leads_to cc_Schema_leads_to kk_Schema_leads_to,
      F_Schema_without_key := fun_mk l_Schema_without_key cc_Schema_without_key kk_Schema_without_key,
      F_Schema_without_reference := fun_mk l_Schema_without_reference cc_Schema_without_reference kk_Schema_without_reference,
      F_Schema___len__ := fun_mk l_Schema___len__ cc_Schema___len__ kk_Schema___len__,
      F_Schema___eq__ := fun_mk l_Schema___eq__ cc_Schema___eq__ kk_Schema___eq__,
      F_Schema___str__ := fun_mk l_Schema___str__ cc_Schema___str__ kk_Schema___str__,
      F_dice := fun_mk l_dice cc_dice kk_dice,
      g_dice := PySem.W.mg_of X G a_dice,
      F_roll := fun_mk l_roll cc_roll kk_roll,
      g_roll := PySem.W.mg_of X G a_roll,
      F_pick := fun_mk l_pick cc_pick kk_pick,
      g_pick := PySem.W.mg_of X G a_pick,
      F_mixed := fun_mk l_mixed cc_mixed kk_mixed,
      g_mixed := PySem.W.mg_of X G a_mixed,
      F_names := fun_mk l_names cc_names kk_names,
      g_names := PySem.W.mg_of X G a_names,
      F_some := fun_mk l_some cc_some kk_some,
      g_some := PySem.W.mg_of X G a_some,
      F_ways := fun_mk l_ways cc_ways kk_ways,
      g_ways := PySem.W.mg_of X G a_ways,
      F_schema := fun_mk l_schema cc_schema kk_schema,
      g_schema := PySem.W.mg_of X G a_schema,
      F_schema_made := fun_mk l_schema_made cc_schema_made kk_schema_made,
      g_schema_made := PySem.W.mg_of X G a_schema_made,
      F_with := fun_mk l_with cc_with kk_with,
      g_with := PySem.W.mg_of X G a_with,
      F_without := fun_mk l_without cc_without kk_without,
      g_without := PySem.W.mg_of X G a_without,
      F_reached := fun_mk l_reached cc_reached kk_reached,
      g_reached := PySem.W.mg_of X G a_reached,
      F_ways_right := fun_mk l_ways_right cc_ways_right kk_ways_right,
      g_ways_right := PySem.W.mg_of X G a_ways_right,
      F_rest := fun_mk l_rest cc_rest kk_rest,
      g_rest := PySem.W.mg_of X G a_rest,
      F_less_right := fun_mk l_less_right cc_less_right kk_less_right,
      g_less_right := PySem.W.mg_of X G a_less_right,
      F_rows_right := fun_mk l_rows_right cc_rows_right kk_rows_right,
      g_rows_right := PySem.W.mg_of X G a_rows_right,
      F_equal_right := fun_mk l_equal_right cc_equal_right kk_equal_right,
      g_equal_right := PySem.W.mg_of X G a_equal_right,
      F_right := fun_mk l_right cc_right kk_right,
      g_right := PySem.W.mg_of X G a_right,
      F_law := fun_mk l_law cc_law kk_law,
      g_law := PySem.W.mg_of X G a_law,
      len := PySem.W.mg_none_of X G b_len,
      isinstance := PySem.W.mg_none_of X G b_isinstance,
      all := PySem.W.mg_none_of X G b_all,
      any := PySem.W.mg_none_of X G b_any,
      str := PySem.W.mg_none_of X G b_str,
      int := PySem.W.mg_none_of X G b_int,
      bool := PySem.W.mg_none_of X G b_bool,
      tuple := PySem.W.mg_none_of X G b_tuple,
      dict := PySem.W.mg_none_of X G b_dict,
      set := PySem.W.mg_none_of X G b_set,
      sorted := PySem.W.mg_none_of X G b_sorted,
      list := PySem.W.mg_none_of X G b_list,
      repr := PySem.W.mg_none_of X G b_repr,
      abs := PySem.W.mg_none_of X G b_abs,
      range := PySem.W.mg_none_of X G b_range,
      min := PySem.W.mg_none_of X G b_min,
      max := PySem.W.mg_none_of X G b_max,
      sum := PySem.W.mg_none_of X G b_sum,
      zip := PySem.W.mg_none_of X G b_zip,
      m__INTEGER_BOUND := PySem.W.mg_of X G a__INTEGER_BOUND,
      m_MAX_LETTERS := PySem.W.mg_of X G a_MAX_LETTERS,
      m_MAX_TABLES := PySem.W.mg_of X G a_MAX_TABLES,
      m_MAX_COLUMNS := PySem.W.mg_of X G a_MAX_COLUMNS,
      m_MAX_KEYS := PySem.W.mg_of X G a_MAX_KEYS,
      m_MAX_REFERENCES := PySem.W.mg_of X G a_MAX_REFERENCES,
      g_c_InvalidSchema := PySem.W.mg_of X G ac_InvalidSchema,
      q_InvalidSchema := q_I,
      kp_InvalidSchema := kpI,
      b_InvalidSchema := bI,
      ty_InvalidSchema := tyI,
      g_c_InvalidOperation := PySem.W.mg_of X G ac_InvalidOperation,
      q_InvalidOperation := q_O,
      kp_InvalidOperation := kpO,
      b_InvalidOperation := bO,
      ty_InvalidOperation := tyO,
      e_InvalidOperation := ⟨e1O, e2O, bO, e4O, e5O, ti2, ti3, e8O⟩,
      em_OO := emOO,
      cl_Schema := ⟨pgA, hdA, poA, saA⟩,
      mk_Schema := ⟨mkI, at___init__, fnI, kpA⟩,
      g_c_Schema := PySem.W.mg_of X G ac_Schema,
      n_tables := n_tables,
      n_keys := n_keys,
      n_references := n_references,
      n_places_by_table := n_places_by_table,
      n_steps_by_table := n_steps_by_table,
      m__check_table := ⟨at__check_table, fn_check_table, kk_Schema__check_table⟩,
      m_keys_of := ⟨at_keys_of, fnkeys_of, kk_Schema_keys_of⟩,
      m_references_of := ⟨at_references_of, fnreferences_of, kk_Schema_references_of⟩,
      m_is_row_of := ⟨at_is_row_of, fnis_row_of, kk_Schema_is_row_of⟩,
      m_leads_to := ⟨at_leads_to, fnleads_to, kk_Schema_leads_to⟩,
      m_without_key := ⟨at_without_key, fnwithout_key, kk_Schema_without_key⟩,
      m_without_reference := ⟨at_without_reference, fnwithout_reference, kk_Schema_without_reference⟩,
      fi__contains__ := at___contains__,
      fn__contains__ := fn__contains__,
      fi__eq__ := at___eq__,
      fn__eq__ := fn__eq__,
      fi__str__ := at___str__,
      fn__str__ := fn__str__,
      p_tables := ⟨at_tables, pgt_tables, ptk_tables, _, rc_tables⟩,
      p_references := ⟨at_references, pgt_references, ptk_references, _, rc_references⟩,
      ne_A := neA,
      so_A := soA,
      sn_A := snA,
      kt_Schema := ktA,
      nfi_Schema := nfiA,
      ti1 := ti1,
      ti2 := ti2,
      ti3 := ti3,
      ti4 := ti4,
      kc_tuple := kc1,
      ko_NoneType := koNoneType,
      nfi_NoneType := nfiNoneType,
      ko_int := koint,
      nfi_int := nfiint,
      ko_dict := kodict,
      nfi_dict := nfidict,
      ko_str := kostr,
      nfi_str := nfistr,
      ko_tuple := kotuple,
      nfi_tuple := nfituple,
      ko_list := kolist,
      nfi_list := nfilist,
      k1_UnknownName := X_UnknownName.cls1 (t := keT) PySem.F.excBase_LookupError ⟨by rfl, by rfl, by rfl⟩ (by simp [Exs.endsIn]) (fun _ => by rfl) (by rfl) (by decide) (by rfl) sa_UnknownName kp_UnknownName,
      i_UnknownName := i_UnknownName,
      ti_UnknownName := ti_UnknownName,
      nf_UnknownName := nf_UnknownName,
      g_c_UnknownName := PySem.W.mg_of X G ac_UnknownName }
  exact ⟨(PySem.W.fnOf "law" "law" (defArgs s_law) (defBody s_law) (defScope s_law) .none kV_law dc_law pm_law an_law cd_law ct_law), fun s u => .of_eq rfl, fun base _ _ => ok_law T⟩
end K04

set_option Elab.async false
open PySem PySem.W PyProof.Rows
set_option maxRecDepth 100000 in
set_option maxHeartbeats 0 in
theorem PySem.Challenge.cw_dealtrows_k04_ways_and_parts_left_out_holds : PySem.Challenge.rw_dealtrows_k04_ways_and_parts_left_out.Holds := by
  w_on; o_law; k_head; (case hw => w_witness2)
  k_fill
  refine Rp.walk_ofG (n := 63) (k := 12) (x := "_law_script") (sp := K04.spLaw) (by decide +kernel) (by decide) rfl ⟨rfl, by decide, by decide⟩ (fun w h Y => PySem.W.kIn_of Y) ?F (fun K H a ns hl hS => K04.end_sp K H a ns hl hS)
  case F =>
    intro w mg fa h KX G hmg
    refine' K04.all_mk KX G hmg ?ac_Schema ?ac_InvalidSchema ?ac_InvalidOperation ?ac_UnknownName ?ac_DealError ?a_is_name ?l_is_name ?cc_is_name ?kk_is_name ?a_are_integers ?l_are_integers ?cc_are_integers ?kk_are_integers ?a_are_names ?l_are_names ?cc_are_names ?kk_are_names ?a_is_ascending ?l_is_ascending ?cc_is_ascending ?kk_is_ascending ?i_UnknownName ?ti_UnknownName ?l_UnknownName___init__ ?cc_UnknownName___init__ ?kk_UnknownName___init__ ?a__are_columns ?l__are_columns ?cc__are_columns ?kk__are_columns ?a__are_tables ?l__are_tables ?cc__are_tables ?kk__are_tables ?a__is_key_of ?l__is_key_of ?cc__is_key_of ?kk__is_key_of ?a__are_keys_of ?l__are_keys_of ?cc__are_keys_of ?kk__are_keys_of ?a__are_keys ?l__are_keys ?cc__are_keys ?kk__are_keys ?a__is_reference ?l__is_reference ?cc__is_reference ?kk__is_reference ?a__lead_round ?l__lead_round ?cc__lead_round ?kk__lead_round ?a__are_references ?l__are_references ?cc__are_references ?kk__are_references ?a__reached ?l__reached ?cc__reached ?kk__reached ?a__many ?l__many ?cc__many ?kk__many ?at___init__ ?l_Schema___init__ ?cc_Schema___init__ ?kk_Schema___init__ ?at_tables ?rc_tables ?l_Schema_tables ?cc_Schema_tables ?kk_Schema_tables ?at_references ?rc_references ?l_Schema_references ?cc_Schema_references ?kk_Schema_references ?at___contains__ ?l_Schema___contains__ ?cc_Schema___contains__ ?kk_Schema___contains__ ?at__check_table ?l_Schema__check_table ?cc_Schema__check_table ?kk_Schema__check_table ?at_keys_of ?l_Schema_keys_of ?cc_Schema_keys_of ?kk_Schema_keys_of ?at_references_of ?l_Schema_references_of ?cc_Schema_references_of ?kk_Schema_references_of ?at_is_row_of ?l_Schema_is_row_of ?cc_Schema_is_row_of ?kk_Schema_is_row_of ?at_leads_to ?l_Schema_leads_to ?cc_Schema_leads_to ?kk_Schema_leads_to ?at_without_key ?l_Schema_without_key ?cc_Schema_without_key ?kk_Schema_without_key ?at_without_reference ?l_Schema_without_reference ?cc_Schema_without_reference ?kk_Schema_without_reference ?at___len__ ?l_Schema___len__ ?cc_Schema___len__ ?kk_Schema___len__ ?at___eq__ ?l_Schema___eq__ ?cc_Schema___eq__ ?kk_Schema___eq__ ?at___str__ ?l_Schema___str__ ?cc_Schema___str__ ?kk_Schema___str__ ?a_dice ?l_dice ?cc_dice ?kk_dice ?a_roll ?l_roll ?cc_roll ?kk_roll ?a_pick ?l_pick ?cc_pick ?kk_pick ?a_mixed ?l_mixed ?cc_mixed ?kk_mixed ?a_names ?l_names ?cc_names ?kk_names ?a_some ?l_some ?cc_some ?kk_some ?a_ways ?l_ways ?cc_ways ?kk_ways ?a_schema ?l_schema ?cc_schema ?kk_schema ?a_schema_made ?l_schema_made ?cc_schema_made ?kk_schema_made ?a_with ?l_with ?cc_with ?kk_with ?a_without ?l_without ?cc_without ?kk_without ?a_reached ?l_reached ?cc_reached ?kk_reached ?a_ways_right ?l_ways_right ?cc_ways_right ?kk_ways_right ?a_rest ?l_rest ?cc_rest ?kk_rest ?a_less_right ?l_less_right ?cc_less_right ?kk_less_right ?a_rows_right ?l_rows_right ?cc_rows_right ?kk_rows_right ?a_equal_right ?l_equal_right ?cc_equal_right ?kk_equal_right ?a_right ?l_right ?cc_right ?kk_right ?a_law ?l_law ?cc_law ?kk_law ?kw1 ?kw2 ?a__INTEGER_BOUND ?a_MAX_LETTERS ?a_MAX_TABLES ?a_MAX_COLUMNS ?a_MAX_KEYS ?a_MAX_REFERENCES ?b_len ?b_isinstance ?b_all ?b_any ?b_str ?b_int ?b_bool ?b_tuple ?b_dict ?b_set ?b_sorted ?b_list ?b_repr ?b_abs ?b_range ?b_min ?b_max ?b_sum ?b_zip ?pgA ?hdA ?poA ?saA ?n_tables ?n_keys ?n_references ?n_places_by_table ?n_steps_by_table ?mkI ?kpA ?fnI ?ti1 ?ti2 ?ti3 ?ti4 ?kc1 ?kpI ?bI ?tyI ?kpO ?bO ?tyO ?e1O ?e2O ?e4O ?e5O ?e8O ?emOO ?pgt_tables ?ptk_tables ?pgt_references ?ptk_references ?neA ?soA ?snA ?ktA ?nfiA ?koNoneType ?nfiNoneType ?koint ?nfiint ?kodict ?nfidict ?kostr ?nfistr ?kotuple ?nfituple ?kolist ?nfilist ?fn__contains__ ?fn__eq__ ?fn__str__ ?fn_check_table ?fnkeys_of ?fnreferences_of ?fnis_row_of ?fnleads_to ?fnwithout_key ?fnwithout_reference ?x_UnknownName ?kp_UnknownName ?sa_UnknownName ?nf_UnknownName ?q_I ?q_O
    (case ac_Schema => k_is)
    (case ac_InvalidSchema => k_is)
    (case ac_InvalidOperation => k_is)
    (case ac_UnknownName => k_is)
    (case ac_DealError => k_is)
    (case a_is_name => k_is)
    (case l_is_name => k_is)
    (case cc_is_name => k_is)
    (case kk_is_name => k_is)
    (case a_are_integers => k_is)
    (case l_are_integers => k_is)
    (case cc_are_integers => k_is)
    (case kk_are_integers => k_is)
    (case a_are_names => k_is)
    (case l_are_names => k_is)
    (case cc_are_names => k_is)
    (case kk_are_names => k_is)
    (case a_is_ascending => k_is)
    (case l_is_ascending => k_is)
    (case cc_is_ascending => k_is)
    (case kk_is_ascending => k_is)
    (case i_UnknownName => k_is)
    (case ti_UnknownName => k_is)
    (case l_UnknownName___init__ => k_is)
    (case cc_UnknownName___init__ => k_is)
    (case kk_UnknownName___init__ => k_is)
    (case a__are_columns => k_is)
    (case l__are_columns => k_is)
    (case cc__are_columns => k_is)
    (case kk__are_columns => k_is)
    (case a__are_tables => k_is)
    (case l__are_tables => k_is)
    (case cc__are_tables => k_is)
    (case kk__are_tables => k_is)
    (case a__is_key_of => k_is)
    (case l__is_key_of => k_is)
    (case cc__is_key_of => k_is)
    (case kk__is_key_of => k_is)
    (case a__are_keys_of => k_is)
    (case l__are_keys_of => k_is)
    (case cc__are_keys_of => k_is)
    (case kk__are_keys_of => k_is)
    (case a__are_keys => k_is)
    (case l__are_keys => k_is)
    (case cc__are_keys => k_is)
    (case kk__are_keys => k_is)
    (case a__is_reference => k_is)
    (case l__is_reference => k_is)
    (case cc__is_reference => k_is)
    (case kk__is_reference => k_is)
    (case a__lead_round => k_is)
    (case l__lead_round => k_is)
    (case cc__lead_round => k_is)
    (case kk__lead_round => k_is)
    (case a__are_references => k_is)
    (case l__are_references => k_is)
    (case cc__are_references => k_is)
    (case kk__are_references => k_is)
    (case a__reached => k_is)
    (case l__reached => k_is)
    (case cc__reached => k_is)
    (case kk__reached => k_is)
    (case a__many => k_is)
    (case l__many => k_is)
    (case cc__many => k_is)
    (case kk__many => k_is)
    (case at___init__ => k_is)
    (case l_Schema___init__ => k_is)
    (case cc_Schema___init__ => k_is)
    (case kk_Schema___init__ => k_is)
    (case at_tables => k_is)
    (case rc_tables => k_is)
    (case l_Schema_tables => k_is)
    (case cc_Schema_tables => k_is)
    (case kk_Schema_tables => k_is)
    (case at_references => k_is)
    (case rc_references => k_is)
    (case l_Schema_references => k_is)
    (case cc_Schema_references => k_is)
    (case kk_Schema_references => k_is)
    (case at___contains__ => k_is)
    (case l_Schema___contains__ => k_is)
    (case cc_Schema___contains__ => k_is)
    (case kk_Schema___contains__ => k_is)
    (case at__check_table => k_is)
    (case l_Schema__check_table => k_is)
    (case cc_Schema__check_table => k_is)
    (case kk_Schema__check_table => k_is)
    (case at_keys_of => k_is)
    (case l_Schema_keys_of => k_is)
    (case cc_Schema_keys_of => k_is)
    (case kk_Schema_keys_of => k_is)
    (case at_references_of => k_is)
    (case l_Schema_references_of => k_is)
    (case cc_Schema_references_of => k_is)
    (case kk_Schema_references_of => k_is)
    (case at_is_row_of => k_is)
    (case l_Schema_is_row_of => k_is)
    (case cc_Schema_is_row_of => k_is)
    (case kk_Schema_is_row_of => k_is)
    (case at_leads_to => k_is)
    (case l_Schema_leads_to => k_is)
    (case cc_Schema_leads_to => k_is)
    (case kk_Schema_leads_to => k_is)
    (case at_without_key => k_is)
    (case l_Schema_without_key => k_is)
    (case cc_Schema_without_key => k_is)
    (case kk_Schema_without_key => k_is)
    (case at_without_reference => k_is)
    (case l_Schema_without_reference => k_is)
    (case cc_Schema_without_reference => k_is)
    (case kk_Schema_without_reference => k_is)
    (case at___len__ => k_is)
    (case l_Schema___len__ => k_is)
    (case cc_Schema___len__ => k_is)
    (case kk_Schema___len__ => k_is)
    (case at___eq__ => k_is)
    (case l_Schema___eq__ => k_is)
    (case cc_Schema___eq__ => k_is)
    (case kk_Schema___eq__ => k_is)
    (case at___str__ => k_is)
    (case l_Schema___str__ => k_is)
    (case cc_Schema___str__ => k_is)
    (case kk_Schema___str__ => k_is)
    (case a_dice => k_is)
    (case l_dice => k_is)
    (case cc_dice => k_is)
    (case kk_dice => k_is)
    (case a_roll => k_is)
    (case l_roll => k_is)
    (case cc_roll => k_is)
    (case kk_roll => k_is)
    (case a_pick => k_is)
    (case l_pick => k_is)
    (case cc_pick => k_is)
    (case kk_pick => k_is)
    (case a_mixed => k_is)
    (case l_mixed => k_is)
    (case cc_mixed => k_is)
    (case kk_mixed => k_is)
    (case a_names => k_is)
    (case l_names => k_is)
    (case cc_names => k_is)
    (case kk_names => k_is)
    (case a_some => k_is)
    (case l_some => k_is)
    (case cc_some => k_is)
    (case kk_some => k_is)
    (case a_ways => k_is)
    (case l_ways => k_is)
    (case cc_ways => k_is)
    (case kk_ways => k_is)
    (case a_schema => k_is)
    (case l_schema => k_is)
    (case cc_schema => k_is)
    (case kk_schema => k_is)
    (case a_schema_made => k_is)
    (case l_schema_made => k_is)
    (case cc_schema_made => k_is)
    (case kk_schema_made => k_is)
    (case a_with => k_is)
    (case l_with => k_is)
    (case cc_with => k_is)
    (case kk_with => k_is)
    (case a_without => k_is)
    (case l_without => k_is)
    (case cc_without => k_is)
    (case kk_without => k_is)
    (case a_reached => k_is)
    (case l_reached => k_is)
    (case cc_reached => k_is)
    (case kk_reached => k_is)
    (case a_ways_right => k_is)
    (case l_ways_right => k_is)
    (case cc_ways_right => k_is)
    (case kk_ways_right => k_is)
    (case a_rest => k_is)
    (case l_rest => k_is)
    (case cc_rest => k_is)
    (case kk_rest => k_is)
    (case a_less_right => k_is)
    (case l_less_right => k_is)
    (case cc_less_right => k_is)
    (case kk_less_right => k_is)
    (case a_rows_right => k_is)
    (case l_rows_right => k_is)
    (case cc_rows_right => k_is)
    (case kk_rows_right => k_is)
    (case a_equal_right => k_is)
    (case l_equal_right => k_is)
    (case cc_equal_right => k_is)
    (case kk_equal_right => k_is)
    (case a_right => k_is)
    (case l_right => k_is)
    (case cc_right => k_is)
    (case kk_right => k_is)
    (case a_law => k_is)
    (case l_law => k_is)
    (case cc_law => k_is)
    (case kk_law => k_is)
    (case kw1 => k_is)
    (case kw2 => k_is)
    (case a__INTEGER_BOUND => k_is)
    (case a_MAX_LETTERS => k_is)
    (case a_MAX_TABLES => k_is)
    (case a_MAX_COLUMNS => k_is)
    (case a_MAX_KEYS => k_is)
    (case a_MAX_REFERENCES => k_is)
    (case b_len => k_is)
    (case b_isinstance => k_is)
    (case b_all => k_is)
    (case b_any => k_is)
    (case b_str => k_is)
    (case b_int => k_is)
    (case b_bool => k_is)
    (case b_tuple => k_is)
    (case b_dict => k_is)
    (case b_set => k_is)
    (case b_sorted => k_is)
    (case b_list => k_is)
    (case b_repr => k_is)
    (case b_abs => k_is)
    (case b_range => k_is)
    (case b_min => k_is)
    (case b_max => k_is)
    (case b_sum => k_is)
    (case b_zip => k_is)
    (case pgA => k_is)
    (case hdA => k_is)
    (case poA => k_is)
    (case saA => k_is)
    (case n_tables => k_is)
    (case n_keys => k_is)
    (case n_references => k_is)
    (case n_places_by_table => k_is)
    (case n_steps_by_table => k_is)
    (case mkI => k_is)
    (case kpA => k_is)
    (case fnI => k_is)
    (case ti1 => k_is)
    (case ti2 => k_is)
    (case ti3 => k_is)
    (case ti4 => k_is)
    (case kc1 => kernel_rfl)
    (case kpI => k_is)
    (case bI => k_is)
    (case tyI => k_is)
    (case kpO => k_is)
    (case bO => k_is)
    (case tyO => k_is)
    (case e1O => k_is)
    (case e2O => k_is)
    (case e4O => k_is)
    (case e5O => k_is)
    (case e8O => k_is)
    (case emOO => kernel_rfl)
    (case pgt_tables => k_is)
    (case ptk_tables => k_is)
    (case pgt_references => k_is)
    (case ptk_references => k_is)
    (case neA => k_is)
    (case soA => k_is)
    (case snA => k_is)
    (case ktA => kernel_rfl)
    (case nfiA => kernel_rfl)
    (case koNoneType => kernel_rfl)
    (case nfiNoneType => kernel_rfl)
    (case koint => kernel_rfl)
    (case nfiint => kernel_rfl)
    (case kodict => kernel_rfl)
    (case nfidict => kernel_rfl)
    (case kostr => kernel_rfl)
    (case nfistr => kernel_rfl)
    (case kotuple => kernel_rfl)
    (case nfituple => kernel_rfl)
    (case kolist => kernel_rfl)
    (case nfilist => kernel_rfl)
    (case fn__contains__ => k_is)
    (case fn__eq__ => k_is)
    (case fn__str__ => k_is)
    (case fn_check_table => k_is)
    (case fnkeys_of => k_is)
    (case fnreferences_of => k_is)
    (case fnis_row_of => k_is)
    (case fnleads_to => k_is)
    (case fnwithout_key => k_is)
    (case fnwithout_reference => k_is)
    (case x_UnknownName => k_is)
    (case kp_UnknownName => k_is)
    (case sa_UnknownName => k_is)
    (case nf_UnknownName => k_is)
    (case q_I => k_exc)
    (case q_O => k_exc)

