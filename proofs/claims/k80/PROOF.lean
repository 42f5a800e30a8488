import PyProof.Rows.All
import Wide.All
import OpenK.AllK
import Wide.FinOn
import PyProof.EqAt
import PyProof.EqKinds
import PyProof.TupleCall
import KE.KExcSuper
import HandS.ForMost
import HandS.ForExc
import HandS.Wide
import HandS.EndBits
import HandS.Nested
import HandS.ExcInit
import HandS.ExcIs
import PyProof.ReprRoads
import KE.KExcIs
import HandS.IsInst
import HandS.Walk
import HandS.SetKeys
import HandS.DictComp
import HandS.Property
import HandS.Star
import KE.GoesMore
import HandS.Small
import HandS.More
import PyProof.Rows.SetFrom
import HandS.Conv
import HandS.Style
import HandS.TupAny
import HandS.Defaults
import KE.OsRunLaw
import HandS.ExcField
import HandS.ListItems
import HandS.Deep
import HandS.Text
import HandS.StrMore
import HandS.NoneIn
import HandS.Words
import KE.KUnpack
import KE.KxText
import KE.KIntText
import KE.IntTextLaws
import PyProof.StrLawsTight
import PyProof.StrLawsChain
import PyProof.Rows.StrItems
import PyProof.Rows.ReprOcc
import PyProof.CollectIter
import PyProof.Draws
import PyProof.StrOps2
import PyProof.StrLawsRepr
import PyProof.ReprLen
import PySem.Challenge.RW_growlists_k80_texts_of_editions
set_option Elab.async false
set_option linter.all false
set_option maxRecDepth 100000
set_option maxHeartbeats 4000000
set_option autoImplicit false
namespace Gk
open PySem PySem.Spec PyProof.Rows L2
def top (i : Nat) : Stmt := PySem.Challenge.pw_growlists_k80_texts_of_editions.main.body.getD i (.Pass ⟨0, 0, 0, 0⟩)
/-! ### powers of any size -/
def CPowW (i j : Int) : Prop := 0 ≤ j ∧ (Builtin.Int.intBits i : Int) * j ≤ 2 ^ 27
section
variable {X : Cx}
theorem op_powW : OpR X (binaryOp .Pow) (rI CPowW fun i j => .int (i ^ j.toNat)) := opI fun _ _ _ _ _ _ _ hc q => pow_int hc.1 hc.2 q
theorem boot_int : bootBuiltins "int" = some (.type "int") := by decide +kernel
end
theorem bits_lt {i : Int} {n : Nat} (h : i.natAbs < 2 ^ n) : Builtin.Int.intBits i ≤ n := by
  unfold Builtin.Int.intBits
  by_cases h0 : i = 0
  · simp [h0]
  · have h1 : i.natAbs ≠ 0 := by omega
    have := (Nat.log2_lt h1).mpr h
    simp only [beq_iff_eq, h0, if_false]
    omega
theorem lt_bits (i : Int) : i.natAbs < 2 ^ Builtin.Int.intBits i := by
  unfold Builtin.Int.intBits
  by_cases h0 : i = 0
  · simp [h0]
  · simp only [beq_iff_eq, h0, if_false]
    exact Nat.lt_log2_self
theorem bits_mix {m z : Int} (h0 : 0 ≤ m) (h1 : m ≤ 2147483647) (hz : Builtin.Int.intBits z ≤ 1048576) : CPowW (m * 43867 + z) 3 := by
  refine ⟨by decide, ?_⟩
  have hz1 : z.natAbs < 2 ^ 1048576 := Nat.lt_of_lt_of_le (lt_bits z) (Nat.pow_le_pow_right (by decide) hz)
  have hb : Builtin.Int.intBits (m * 43867 + z) ≤ 1048577 := by
    refine bits_lt ?_
    have e : (2 : Nat) ^ 1048577 = 2 ^ 1048576 + 2 ^ 1048576 := by rw [Nat.pow_succ]; omega
    have l : (2 : Nat) ^ 64 ≤ 2 ^ 1048576 := Nat.pow_le_pow_right (by decide) (by decide)
    have l64 : (2 : Nat) ^ 64 = 18446744073709551616 := by decide
    rw [e]
    generalize (2 : Nat) ^ 1048576 = N at *
    rw [l64] at l
    omega
  have : ((Builtin.Int.intBits (m * 43867 + z) : Nat) : Int) ≤ 1048577 := by omega
  have e27 : (2 : Int) ^ 27 = 134217728 := by decide
  rw [e27]
  omega
/-! ### what a source is: its second item -/
def SrcOk (m : Int) : Prop := 0 ≤ m ∧ m ≤ 2147483647
def srcO (r m : Int) : HO := .lst [.int r, .int m]
def Src (H : Hp) (p : Addr) : Prop := ∃ r m, H p = some (srcO r m) ∧ SrcOk m
def spSource (K : PySem.W.Frag) : Sp := fun vs H Q _ => ∃ (a : Addr) (ns : List Int) (st : Int), vs = [.ref a, .int st] ∧ SqL K H a (ns.map V.int) ∧ ns.length ≤ 63 ∧ (∀ z ∈ ns, Builtin.Int.intBits z ≤ 1048576) ∧ 0 ≤ st ∧ st ≤ 10 ∧
  ∀ p r m, H p = none → SrcOk m → Q (.ref p) (upd H p (srcO r m))
def spDraw : Sp := fun vs H Q _ => ∃ (p : Addr) (span r m : Int), vs = [.ref p, .int span] ∧ H p = some (srcO r m) ∧ SrcOk m ∧ 0 < span ∧ span < 1000000 ∧
  ∀ k r' m', 0 ≤ k → k < span → SrcOk m' → Q (.int k) (upd H p (srcO r' m'))
def spPick (K : PySem.W.Frag) : Sp := fun vs H Q _ => ∃ (p e : Addr) (r m : Int) (xs : List V), vs = [.ref p, .ref e] ∧ H p = some (srcO r m) ∧ SrcOk m ∧ SqL K H e xs ∧ e ≠ p ∧ 0 < xs.length ∧ xs.length < 1000000 ∧
  ∀ (i : Nat) v r' m', xs[i]? = some v → SrcOk m' → Q v (upd H p (srcO r' m'))
/-- a list that stands apart from p is still there behind a store at p -/
theorem SqL.apart {K : PySem.W.Frag} {H : Hp} {e p : Addr} {xs : List V} {o : HO} (h : SqL K H e xs) (ne : e ≠ p) : SqL K (upd H p o) e xs := by
  rcases h with (h | ⟨u, h⟩) | h
  · exact .inl (.inl (by rw [upd_ne ne]; exact h))
  · exact .inl (.inr ⟨u, by rw [upd_ne ne]; exact h⟩)
  · exact .inr h
section
variable {P : Program} {w : World} {K : PySem.W.Frag} {mg : Str → Option Value} {base : Heap}
theorem src_at0 (r m : Int) : atI [V.int r, V.int m] 0 = some (V.int r) := rfl
theorem src_at1 (r m : Int) : atI [V.int r, V.int m] 1 = some (V.int m) := rfl
end
end Gk
/-! ### readings, one step at a time -/
namespace Gk
open PySem PySem.Spec PyProof.Rows L2
section
variable {t u : TS} {D : Ends} {σ : L2.St} {H : Hp} {te ta tb tc : TE} {g : TG} {tl : TA} {r : R2} {Q : VK} {i : Nat} {v : V} {rc : List V → Hp → VK → Prop} {tt tu : TT} {QT : Bool → Hp → Prop} {QA : List V → Hp → Prop}
theorem rd_seq (h : t { D with nx := u D } σ H) : tSeq t u D σ H := h
theorem rd_asg (h : te σ H fun x H1 => g x σ H1 D.nx) : tAsg te g D σ H := h
theorem rd_ret (h : te σ H D.rt) : tRet te D σ H := h
theorem rd_drop (h : te σ H fun _ H1 => D.nx σ H1) : tDrop te D σ H := h
theorem rd_op (h : ta σ H fun x H1 => tb σ H1 fun y H2 => r x y H2 Q) : tOp r ta tb σ H Q := h
theorem rd_var (e : σ[i]? = some (some v)) (h : Q v H) : tVar i σ H Q := ⟨v, e, h⟩
theorem rd_c (h : Q v H) : tC v σ H Q := h
theorem rd_cb (h : tl σ H fun vs H1 => rc vs H1 Q) : tCB rc tl σ H Q := h
theorem rd_cons (h : te σ H fun x H1 => tl σ H1 fun xs H2 => QA (x :: xs) H2) : tCons te tl σ H QA := h
theorem rd_nil (h : QA [] H) : tNil σ H QA := h
theorem rd_lst (h : tl σ H fun xs H1 => xs.length ≤ sizeLine ∧ ∀ p, H1 p = none → Q (.ref p) (upd H1 p (.lst xs))) : tLst tl σ H Q := h
theorem rd_tup (h : tl σ H fun xs H1 => xs.length ≤ sizeLine ∧ ∀ p, H1 p = none → Q (.ref p) (upd H1 p (.tup xs))) : tTup tl σ H Q := h
theorem rd_if (h : tt σ H fun b H1 => if b = true then t D σ H1 else u D σ H1) : tIfS tt t u D σ H := h
theorem rd_test (h : te σ H fun x H1 => ∃ k, x = .bl k ∧ QT k H1) : tTest te σ H QT := h
theorem rd_b (h : te σ H fun x H1 => ∃ k, x = .bl k ∧ QT k H1) : tB te σ H QT := h
theorem rd_not (h : tt σ H fun c H1 => QT (!c) H1) : tNot tt σ H QT := h
theorem rd_and (h : tt σ H fun c H1 => if c = true then tu σ H1 QT else QT false H1) : tAnd tt tu σ H QT := h
theorem rd_or (h : tt σ H fun c H1 => if c = true then QT true H1 else tu σ H1 QT) : tOr tt tu σ H QT := h
theorem rd_call {sp : Sp} {dvs : List V} {E : XK} (h : tl σ H fun vs H1 => sp (vs ++ dvs) H1 Q E) : tCall sp dvs E tl σ H Q := h
theorem rd_gn {QS : L2.St → Hp → Prop} (h : QS (σ.set i (some v)) H) : gName i v σ H QS := h
theorem rd_next (h : D.nx σ H) : tNext D σ H := h
variable {j : Nat} {K : PySem.W.Frag} {T : String} {rm : V → List V → Hp → VK → Prop}
theorem rd_par (h : tl σ H fun vs H1 => ∃ v w, vs = [v, w] ∧ D.nx ((σ.set i (some v)).set j (some w)) H1) : tPar i j tl D σ H := h
theorem rd_bm (h : te σ H fun x H1 => tyV K T x H1 ∧ tl σ H1 fun xs H2 => rm x xs H2 Q) : tBM K T rm te tl σ H Q := h
theorem rd_bm0 (h : te σ H fun x H1 => tyV K T x H1 ∧ rm x [] H1 Q) : tBM0 K T rm te σ H Q := h
end
end Gk
open Gk in
local macro_rules | `(tactic| walk_at "rd1") => `(tactic| (with_reducible first | refine rd_seq ?_ | refine rd_asg ?_ | refine rd_ret ?_ | refine rd_drop ?_ | refine rd_op ?_ | refine rd_c ?_ | refine rd_cb ?_ | refine rd_cons ?_ | refine rd_nil ?_ | refine rd_lst ?_ | refine rd_tup ?_ | refine rd_if ?_ | refine rd_test ?_ | refine rd_b ?_ | refine rd_not ?_ | refine rd_and ?_ | refine rd_or ?_ | refine rd_call ?_ | refine rd_next ?_ | refine rd_par ?_ | refine rd_bm ?_ | refine rd_bm0 ?_ | refine rd_gn ?_ | refine rd_var (by with_unfolding_all rfl) ?_))
local macro_rules | `(tactic| walk_at "rd") => `(tactic| repeat (walk_at "rd1"))
/-! ### set(..) of a list or tuple of ints and texts, its size -/
namespace Gk
open PySem PySem.Spec PyProof.Rows L2
def inK (ks : List Key) (j : Key) : Bool := ks.any fun y => decide (y = j)
theorem inK_iff {ks : List Key} {j : Key} : inK ks j = true ↔ j ∈ ks := by
  unfold inK
  rw [List.any_eq_true]
  exact ⟨fun ⟨y, h, e⟩ => of_decide_eq_true e ▸ h, fun h => ⟨j, h, decide_eq_true rfl⟩⟩
theorem inK_not {ks : List Key} {j : Key} : inK ks j = false ↔ ¬ j ∈ ks := by rw [← inK_iff, Bool.not_eq_true]
def insK (g : List Key) (k : Key) : List Key := if inK g k = true then g else g ++ [k]
/-- the different ones, as they come -/
def uniq (ks : List Key) : List Key := ks.foldl insK []
theorem uniq_more (ks : List Key) (k : Key) : uniq (ks ++ [k]) = insK (uniq ks) k := by unfold uniq; rw [List.foldl_append]; rfl
theorem mem_insK {g : List Key} {k j : Key} : j ∈ insK g k ↔ j ∈ g ∨ j = k := by
  unfold insK
  split
  · rename_i z
    exact ⟨.inl, fun h => h.elim id fun e => e ▸ inK_iff.mp z⟩
  · rw [List.mem_append, List.mem_singleton]
theorem mem_foldK : ∀ (ks g : List Key) (j : Key), j ∈ ks.foldl insK g ↔ j ∈ g ∨ j ∈ ks
  | [], g, j => by simp
  | k :: ks, g, j => by rw [List.foldl_cons, mem_foldK ks, mem_insK, List.mem_cons, or_assoc]
theorem mem_uniq {ks : List Key} {j : Key} : j ∈ uniq ks ↔ j ∈ ks := by unfold uniq; rw [mem_foldK]; simp
theorem insK_len {g : List Key} {k : Key} : (insK g k).length = if inK g k = true then g.length else g.length + 1 := by unfold insK; split <;> simp
theorem foldK_le : ∀ (ks g : List Key), (ks.foldl insK g).length ≤ g.length + ks.length
  | [], g => by simp
  | k :: ks, g => by
    rw [List.foldl_cons, List.length_cons]
    have h1 := foldK_le ks (insK g k)
    have h2 := insK_len (g := g) (k := k)
    split at h2 <;> omega
theorem uniq_le (ks : List Key) : (uniq ks).length ≤ ks.length := by have := foldK_le ks []; simpa [uniq] using this
theorem foldK_eq : ∀ (ks g : List Key), (ks.foldl insK g).length = g.length + ks.length ↔ ks.Nodup ∧ ∀ k ∈ ks, k ∉ g
  | [], g => by simp
  | k :: ks, g => by
    rw [List.foldl_cons, List.length_cons, List.nodup_cons]
    have h1 := foldK_le ks (insK g k)
    have h2 := insK_len (g := g) (k := k)
    have h3 := foldK_eq ks (insK g k)
    by_cases hk : k ∈ g
    · rw [if_pos (inK_iff.mpr hk)] at h2
      constructor
      · intro e
        omega
      · intro e
        exact absurd hk (e.2 k List.mem_cons_self)
    · rw [if_neg fun z => hk (inK_iff.mp z)] at h2
      constructor
      · intro e
        obtain ⟨a, b⟩ := h3.mp (by omega)
        refine ⟨⟨fun h => b k h (mem_insK.mpr (.inr rfl)), a⟩, fun j hj hg => ?_⟩
        rcases List.mem_cons.mp hj with rfl | hj
        · exact hk hg
        · exact b j hj (mem_insK.mpr (.inl hg))
      · rintro ⟨⟨a, b⟩, c⟩
        have := h3.mpr ⟨b, fun j hj hg => (mem_insK.mp hg).elim (c j (List.mem_cons_of_mem _ hj)) fun e => a (e ▸ hj)⟩
        omega
/-- no one twice -/
theorem uniq_eq {ks : List Key} : (uniq ks).length = ks.length ↔ ks.Nodup := by
  have := foldK_eq ks []
  simpa [uniq] using this
theorem uniq_lt {ks : List Key} : (uniq ks).length < ks.length ↔ ¬ ks.Nodup := by
  rw [← uniq_eq]
  have := uniq_le ks
  omega
section
variable {prog : Program} {w : World} {A : Around} {R : Result → Shared → Prop} {I : Addr} {fp wr : List Addr} {G : Array GenState → Array GenState → Prop} {n : Nat} {P : Nat → Value → Prop} {St : Nat → Shared → Prop}
theorem setK_later {h h' : Heap} {a : Addr} {S : Key → Bool} {m : Nat} (z : h.SetOf (mixKind prog w) a S m) (k : ∀ o, h.get? a = some o → h'.get? a = some o) : h'.SetOf (mixKind prog w) a S m := by
  obtain ⟨o, es, ep, t, ho, r⟩ := z
  exact ⟨o, es, ep, t, k o ho, r⟩
theorem fillK (W : WalksS prog w A.in1 I fp wr G n P St) (S : Addr) (hS : S ∉ fp) (ks : List Key) (hn : ks.length = n) (hv : ∀ i v, P i v → ∃ k, ks[i]? = some k ∧ RelV (kV k) v) (hb : n + 1 < scanBound) : ∀ (d i : Nat) (s : Shared), n - i = d → i ≤ n → St i s →
    s.heap.SetOf (mixKind prog w) S (inK (ks.take i)) (uniq (ks.take i)).length → (∀ s', Moved (S :: wr) G s s' → s'.heap.SetOf (mixKind prog w) S (inK ks) (uniq ks).length → R (.ok (.ret .none)) s') → codeAny (model prog w) A (.builtin "set.update.loop" ⟨[.ref S, .ref I], []⟩) R s := by
  have off : S ∉ wr := fun z => hS (W.sub _ z)
  have up : ∀ b ∈ wr, b ∈ S :: wr := fun b z => List.mem_cons_of_mem _ z
  intro d
  induction d with
  | zero =>
    intro i s hd hi st hs k
    obtain rfl : i = n := by omega
    rw [List.take_of_length_le (Nat.le_of_eq hn)] at hs
    refine codeAny_builtin PyProof.Rows.F.entry_set_update_loop ?_
    rw [Around.under_plainId PyProof.Rows.F.plain_set_update_loop _]
    show wpAny _ A.in1 (pyNext (.ref I) >>= _) _ _ s
    exact wpAny_bind (W.done s _ _ st fun s' mv => wpAny_pure (k s' (mv.mono up) (setK_later hs fun o e => mv.heap S o off e)))
  | succ d ih =>
    intro i s hd hi st hs k
    have lt : i < n := by omega
    refine codeAny_builtin PyProof.Rows.F.entry_set_update_loop ?_
    rw [Around.under_plainId PyProof.Rows.F.plain_set_update_loop _]
    show wpAny _ A.in1 (pyNext (.ref I) >>= _) _ _ s
    refine wpAny_bind (W.item i s _ _ lt st fun v s' hP st' mv => ?_)
    obtain ⟨x, hx, rx⟩ := hv i v hP
    have hs' := setK_later hs fun o e => mv.heap S o off e
    show wpAny _ A.in1 (holding [v] (setAdd S v) >>= _) _ _ s'
    refine wpAny_bind (wpAny_holding ?_)
    unfold setAdd
    refine wpAny_holding (wpAny_bind ((mixKind prog w).pyHash (k := x) (kV_is rx) ?_))
    have room : (uniq (ks.take i)).length + 1 < scanBound := by
      have h1 := uniq_le (ks.take i)
      have h2 := List.length_take_le i ks
      omega
    refine wpAny_setAddHashed_of (knd := mixKind prog w) (s := { s' with toks := s'.toks + 1 }) (kV_is rx) (key_scan rx) hs' room fun h' sb new => ?_
    have et : ks.take (i + 1) = ks.take i ++ [x] := by rw [List.take_add_one, hx]; rfl
    have new1 : h'.SetOf (mixKind prog w) S (inK (ks.take (i + 1))) (uniq (ks.take (i + 1))).length := by
      have e1 : (fun j => inK (ks.take i) j || decide (j = x)) = inK (ks.take (i + 1)) := by
        funext j
        rw [et, Bool.eq_iff_iff, Bool.or_eq_true, inK_iff, inK_iff, decide_eq_true_eq, List.mem_append, List.mem_singleton]
      have e2 : (if inK (ks.take i) x = true then (uniq (ks.take i)).length else (uniq (ks.take i)).length + 1) = (uniq (ks.take (i + 1))).length := by
        rw [et, uniq_more, insK_len]
        by_cases hm : x ∈ ks.take i
        · rw [if_pos (inK_iff.mpr hm), if_pos (inK_iff.mpr (mem_uniq.mpr hm))]
        · rw [if_neg fun z => hm (inK_iff.mp z), if_neg fun z => hm (mem_uniq.mp (inK_iff.mp z))]
      rw [← e1, ← e2]
      exact new
    refine wpAny_pure ⟨plainId_quiet PyProof.Rows.F.plain_set_update_loop _, ih (i + 1) _ (by omega) lt (W.frame _ s' _ _ st' (Nat.le_succ _) fun b z o e => ?_) new1 fun s2 mv2 hs2 => k s2 (Moved.trans W.gtrans ((mv.mono up).then_heap (Nat.le_succ _) fun b o z e => ?_) mv2) hs2⟩
    · rw [sb.2 b fun y : b = S => hS (y ▸ z)]
      exact e
    · rw [sb.2 b fun y : b = S => z (y ▸ List.mem_cons_self)]
      exact e
end
theorem paired_right {α β : Type} {F : α → β → Prop} : ∀ {xs : List α} {ys : List β} {i : Nat} {y : β}, Paired F xs ys → ys[i]? = some y → ∃ x, xs[i]? = some x ∧ F x y
  | _, _, _, _, .nil, h => by simp at h
  | _, _, 0, _, .cons r t, h => ⟨_, rfl, Option.some.inj h ▸ r⟩
  | _, _, i + 1, y, .cons r t, h => paired_right (i := i) t h
/-- an empty set, as it is made -/
abbrev noneSet (led : Bool) : Obj := { cls := .type "set", dict := none, data := .set #[] 0 (.fresh 0 0 led) }
section
variable {prog : Program} {w : World} {A : Around} {E : Value → Shared → Prop} {s : Shared}
set_option maxHeartbeats 8000000 in
theorem call_setK {l : Addr} {its : Array Value} {ks : List Key} {Q : Value → Shared → Prop} (hh : A.handled = none) (hl : s.heap.IsList l its ∨ s.heap.IsTuple l its) (hv : Vals (ks.map kV) its.toList) (hb : ks.length + 1 < scanBound)
    (q : ∀ (h' : Heap) (tk : Nat), h'.SetOf (mixKind prog w) s.heap.objs.size (inK ks) (uniq ks).length → (∀ b o, b < s.heap.objs.size → s.heap.get? b = some o → h'.get? b = some o) → Q (.ref s.heap.objs.size) { s with heap := h', toks := tk }) :
    wpAny (model prog w) A (call (.type "set") [.ref l]) Q E s := by
  obtain ⟨c, tl, mro⟩ := PySem.F.called_set.mro
  have made := PySem.F.called_set.made; have sub := PySem.F.called_set.sub
  refine wpAny_call (codeAny_of_tree ?_); show wpAny _ _ (callAny (.type "set") _) _ _ _
  refine wpAny_pure ⟨Code.quiet_builtin _ (by decide +kernel), codeAny_builtin PySem.F.entry_type_call ?_⟩; rw [Around.under_plain (weight_type_call_type "set" [.ref l] []) rfl]
  have y1 := PySem.F.called_set.notType; have y2 := PySem.F.called_set.canCreate; have y3 := PySem.F.typeCall_set_1 (.ref l)
  repeat (any_goals (first | assumption | wp_step))
  refine codeAny_mono (code_set_new_1 (.ref l) (E := E) (Q₁ := fun x t => ∃ led : Bool, x = .ref s.heap.objs.size ∧ t = { s with heap := s.heap.push (noneSet led) }) fun led => ⟨led, rfl, rfl⟩) fun r t hr => ?_
  cases r with
  | error e => exact hr
  | ok fl =>
    cases fl with
    | ret x =>
      obtain ⟨led, rfl, rfl⟩ := hr
      have at0 : (s.heap.push (noneSet led)).get? s.heap.objs.size = some (noneSet led) := Heap.get?_push_size _ rfl
      have ty0 : Shared.TypeIs { s with heap := s.heap.push (noneSet led) } (.ref s.heap.objs.size) "set" := ⟨_, at0, rfl⟩
      have y4 := PySem.F.called_set.init.lookup; have y5 := PySem.F.called_set.init.bind (.ref s.heap.objs.size)
      repeat (any_goals (first | assumption | wp_step))
      refine codeAny_mono (codeAny_call_builtin (R := wants (fun r t => r = .none ∧ ∃ h' tk, t = { s with heap := h', toks := tk } ∧ h'.SetOf (mixKind prog w) s.heap.objs.size (inK ks) (uniq ks).length ∧ ∀ b o, b < s.heap.objs.size → s.heap.get? b = some o → h'.get? b = some o) E)
        PySem.F.called_set.init.plain PySem.F.entry_set_init (check_set_init_1 ty0 ?_)) fun r t hr => ?_
      · have len : ks.length = its.size := by rw [← Array.length_toList, ← hv.length, List.length_map]
        have val : ∀ (i : Nat) (v : Value), its[i]? = some v → ∃ k, ks[i]? = some k ∧ RelV (kV k) v := fun i v e => by
          have e' : its.toList[i]? = some v := by rw [Array.getElem?_toList]; exact e
          obtain ⟨k, hk, rk⟩ := paired_right hv e'
          rw [List.getElem?_map] at hk
          cases z : ks[i]? with
          | none => rw [z] at hk; cases hk
          | some j => rw [z] at hk; exact ⟨j, rfl, Option.some.inj hk ▸ rk⟩
        have ins : A.in1.in1.in1.handled = none := by simp [hh]
        have ne0 : (Value.type "list" == Value.type "dict") = false := by decide
        have ne1 : (Value.type "tuple" == Value.type "dict") = false := by decide
        have z1 := PySem.F.sub_list_set; have z2 := PySem.F.sub_list_frozenset; have z3 := PySem.F.sub_tuple_set; have z4 := PySem.F.sub_tuple_frozenset
        obtain ⟨ol, hol, y6⟩ : ∃ ol, s.heap.get? l = some ol ∧ ((ol.cls = .type "list" ∨ ol.cls = .type "tuple") ∧ ∃ n, ol.data = .seq its n) := by
          rcases hl with ⟨ol, a, b, n, d⟩ | ⟨ol, a, b, n, d⟩
          · exact ⟨ol, a, .inl b, n, d⟩
          · exact ⟨ol, a, .inr b, n, d⟩
        obtain ⟨cl, dd, dt, sl⟩ := ol
        obtain ⟨hc, n, hd⟩ := y6
        simp only at hc hd
        subst hd
        have old : l < s.heap.objs.size := Heap.lt_size hol
        have hol1 : (s.heap.push (noneSet led)).get? l = some ⟨cl, dd, .seq its n, sl⟩ := Heap.get?_push_of_some _ hol
        have apart : l ≠ (s.heap.push (noneSet led)).objs.size := by rw [Heap.size_push]; exact Nat.ne_of_lt (Nat.lt_succ_of_lt old)
        have off : s.heap.objs.size ∉ [(s.heap.push (noneSet led)).objs.size, l] := by
          rw [Heap.size_push]
          simp only [List.mem_cons, List.not_mem_nil, or_false]
          exact fun z => z.elim (Nat.ne_of_lt (Nat.lt_succ_self _)) (Nat.ne_of_gt old)
        unfold Builtin.«set.__init__» noKeywords Builtin.Frozenset.updateFrom
        rcases hc with rfl | rfl
        · have seq : (s.heap.push (noneSet led)).IsList l its := ⟨_, hol1, rfl, n, rfl⟩
          generalize hPI : pyIter = PI
          wp_walk
          subst hPI
          refine wpAny_pyIter_list seq (wpAny_bind (wpAny_runValue ?_))
          refine fillK ((Walks.list ins _ l apart its).toS) s.heap.objs.size off ks len val (by rw [← len]; exact hb) its.size 0 _ (by omega) (Nat.zero_le _) ⟨⟨_, Heap.get?_push_size _ rfl, rfl, rfl⟩, (seq.push _)⟩ ?_ fun t mv new => ?_
          · exact ⟨_, #[], 0, _, Heap.get?_push_of_some _ at0, ⟨rfl, rfl, rfl⟩, rfl, fun e z => by simp at z, fun k => by simp [inK], by decide, by rfl, rfl⟩
          · obtain ⟨hp, g, dr, tk, os⟩ := t
            obtain rfl : g = s.gens := mv.gens; obtain rfl : dr = s.drawn := mv.drawn; obtain rfl : os = s.os := mv.os
            show wpAny _ _ _ _ _ _
            refine wpAny_pure ?_
            show wpAny _ _ (ret Value.none) _ _ _
            refine wpAny_pure ⟨rfl, hp, tk, rfl, new, fun b o lt e => mv.heap b o ?_ (Heap.get?_push_of_some _ (Heap.get?_push_of_some _ e))⟩
            have lt2 : b ≠ (s.heap.push (noneSet led)).objs.size := by rw [Heap.size_push]; exact Nat.ne_of_lt (Nat.lt_succ_of_lt lt)
            simp only [List.mem_cons, List.not_mem_nil, or_false]
            exact fun z => z.elim (Nat.ne_of_lt lt) lt2
        · have seq : (s.heap.push (noneSet led)).IsTuple l its := ⟨_, hol1, rfl, n, rfl⟩
          generalize hPI : pyIter = PI
          wp_walk
          subst hPI
          refine wpAny_pyIter_tuple seq (wpAny_bind (wpAny_runValue ?_))
          refine fillK ((Walks.tuple ins _ l apart its).toS) s.heap.objs.size off ks len val (by rw [← len]; exact hb) its.size 0 _ (by omega) (Nat.zero_le _) ⟨⟨_, Heap.get?_push_size _ rfl, rfl, rfl⟩, (seq.push _)⟩ ?_ fun t mv new => ?_
          · exact ⟨_, #[], 0, _, Heap.get?_push_of_some _ at0, ⟨rfl, rfl, rfl⟩, rfl, fun e z => by simp at z, fun k => by simp [inK], by decide, by rfl, rfl⟩
          · obtain ⟨hp, g, dr, tk, os⟩ := t
            obtain rfl : g = s.gens := mv.gens; obtain rfl : dr = s.drawn := mv.drawn; obtain rfl : os = s.os := mv.os
            show wpAny _ _ _ _ _ _
            refine wpAny_pure ?_
            show wpAny _ _ (ret Value.none) _ _ _
            refine wpAny_pure ⟨rfl, hp, tk, rfl, new, fun b o lt e => mv.heap b o ?_ (Heap.get?_push_of_some _ (Heap.get?_push_of_some _ e))⟩
            have lt2 : b ≠ (s.heap.push (noneSet led)).objs.size := by rw [Heap.size_push]; exact Nat.ne_of_lt (Nat.lt_succ_of_lt lt)
            simp only [List.mem_cons, List.not_mem_nil, or_false]
            exact fun z => z.elim (Nat.ne_of_lt lt) lt2
      · cases r with
        | error e => exact hr
        | ok fl =>
          cases fl with
          | ret x =>
            obtain ⟨rfl, h', tk, rfl, a1, a2⟩ := hr
            repeat (any_goals (first | assumption | wp_step))
            exact q _ _ a1 a2
          | _ => exact hr.elim
    | _ => exact hr.elim
end
end Gk
/-! ### heaps in which only new things come, or a new one changes -/
namespace Gk
open PySem PySem.W PySem.Spec PyProof.Rows L2 NdefX
theorem _root_.L2.Same.new {H H1 : Hp} {p : Addr} {o : HO} (s : Same H H1) (h : H1 p = none) : Same H (upd H1 p o) := fun b u e => by
  rw [upd_ne (ne_of_none (s b u e) h)]
  exact s b u e
theorem _root_.L2.Same.mut {H H1 : Hp} {p : Addr} {o : HO} (s : Same H H1) (h : H p = none) : Same H (upd H1 p o) := fun b u e => by
  rw [upd_ne (ne_of_none e h)]
  exact s b u e
end Gk
/-! ### the draws that mix a list -/
namespace Gk
open PySem PySem.W PySem.Spec PyProof.Rows L2 NdefX
/-- the heap goes on: what stood stands, but the source at p has been drawn from -/
structure Drawn (p : Addr) (H H' : Hp) : Prop where
  keep : ∀ b u, b ≠ p → H b = some u → H' b = some u
  was : ∃ r m, H p = some (srcO r m)
  src : ∃ r m, H' p = some (srcO r m) ∧ SrcOk m
theorem Drawn.trans {p : Addr} {H H1 H2 : Hp} (a : Drawn p H H1) (b : Drawn p H1 H2) : Drawn p H H2 := ⟨fun c u n e => b.keep c u n (a.keep c u n e), a.was, b.src⟩
theorem Drawn.same {p : Addr} {H H1 H2 : Hp} (a : Drawn p H H1) (s : Same H1 H2) : Drawn p H H2 := by
  obtain ⟨r, m, e, o⟩ := a.src
  exact ⟨fun c u n e => s c u (a.keep c u n e), a.was, r, m, s _ _ e, o⟩
theorem Drawn.start {p : Addr} {H : Hp} {r m : Int} (e : H p = some (srcO r m)) (o : SrcOk m) : Drawn p H H := ⟨fun _ _ _ e => e, ⟨r, m, e⟩, r, m, e, o⟩
theorem Drawn.draw {p : Addr} {H H1 : Hp} {r m : Int} (a : Drawn p H H1) (o : SrcOk m) : Drawn p H (upd H1 p (srcO r m)) :=
  ⟨fun c u n e => by rw [upd_ne n]; exact a.keep c u n e, a.was, r, m, upd_same, o⟩
/-- a new thing -/
theorem Drawn.new {p q : Addr} {H H1 : Hp} {o : HO} (a : Drawn p H H1) (h : H1 q = none) : Drawn p H (upd H1 q o) := a.same ((Same.refl H1).new h)
/-- a thing that is newer than H changes -/
theorem Drawn.mut {p q : Addr} {H H1 : Hp} {o : HO} (a : Drawn p H H1) (h : H q = none) (n : q ≠ p) : Drawn p H (upd H1 q o) := by
  obtain ⟨r, m, e, k⟩ := a.src
  exact ⟨fun c u z e => by rw [upd_ne (ne_of_none e h)]; exact a.keep c u z e, a.was, r, m, by rw [upd_ne n.symm]; exact e, k⟩
theorem Drawn.free {p q : Addr} {H H1 : Hp} (a : Drawn p H H1) (h : H1 q = none) (n : q ≠ p) : H q = none := by
  cases e : H q with
  | none => rfl
  | some u => rw [a.keep q u n e] at h; cases h
theorem Drawn.ne {p q : Addr} {H H1 : Hp} (a : Drawn p H H1) (h : H1 q = none) : q ≠ p := by
  rintro rfl
  obtain ⟨r, m, e, _⟩ := a.src
  rw [e] at h
  cases h
/-- what a thing of another content keeps -/
theorem Drawn.other {p a : Addr} {H H1 : Hp} {o : HO} (d : Drawn p H H1) (h : H a = some o) (n : ∀ r m, o ≠ srcO r m) : H1 a = some o := by
  obtain ⟨r, m, e⟩ := d.was
  exact d.keep a o (ne_of h e (n r m)) h
theorem Drawn.tup {p a : Addr} {H H1 : Hp} {xs : List V} (d : Drawn p H H1) (h : H a = some (.tup xs)) : H1 a = some (.tup xs) := d.other h fun r m z => by cases z
theorem Drawn.dic {p a : Addr} {H H1 : Hp} {xs : List (Key × V)} (d : Drawn p H H1) (h : H a = some (.dK xs)) : H1 a = some (.dK xs) := d.other h fun r m z => by cases z
theorem Drawn.strs {p a : Addr} {H H1 : Hp} {xs : List Str} (d : Drawn p H H1) (h : H a = some (.lst (xs.map V.str))) : H1 a = some (.lst (xs.map V.str)) := d.other h fun r m z => by
  cases xs with
  | nil => cases z
  | cons x xs => cases z
theorem Drawn.refs {p a : Addr} {H H1 : Hp} {vs : List V} (d : Drawn p H H1) (h : H a = some (.lst vs)) (hv : ∀ v ∈ vs, ∃ b, v = .ref b) : H1 a = some (.lst vs) := d.other h fun r m z => by
  cases vs with
  | nil => cases z
  | cons x xs =>
    obtain ⟨b, rfl⟩ := hv x List.mem_cons_self
    cases z
theorem Drawn.seq {K : Frag} {p e : Addr} {H H1 : Hp} {xs : List V} (a : Drawn p H H1) (h : SqL K H e xs) (n : e ≠ p) : SqL K H1 e xs := by
  rcases h with (h | ⟨u, h⟩) | h
  · exact .inl (.inl (a.keep _ _ n h))
  · exact .inl (.inr ⟨u, a.keep _ _ n h⟩)
  · exact .inr h
def kD : Key → PyData
  | .inl i => .int i
  | .inr x => .str x
theorem dp_keys {K : Frag} {H : Hp} : ∀ ks : List Key, DpAll K H (ks.map kV) (ks.map kD)
  | [] => .nil
  | .inl i :: ks => .cons (.int i) (dp_keys ks)
  | .inr x :: ks => .cons (.str x) (dp_keys ks)
/-- a key that is data -/
def kOk : Key → Bool
  | .inl _ => true
  | .inr x => PyData.strOk x
theorem keys_lay : ∀ ks : List Key, (∀ k ∈ ks, kOk k = true) → PyData.canLayAll0 (ks.map kD) = true ∧ PyData.depthAll (ks.map kD) = 0
  | [], _ => ⟨rfl, rfl⟩
  | .inl i :: ks, h => by simp [kD, PyData.canLayAll0, PyData.canLay0, PyData.depthAll, PyData.depth, keys_lay ks fun k z => h k (List.mem_cons_of_mem _ z)]
  | .inr x :: ks, h => by
    have hx : PyData.strOk x = true := h _ List.mem_cons_self
    simp [kD, PyData.canLayAll0, PyData.canLay0, PyData.depthAll, PyData.depth, hx, keys_lay ks fun k z => h k (List.mem_cons_of_mem _ z)]
theorem keys_shaped (ks : List Key) (h : ∀ k ∈ ks, kOk k = true) : SeqAt.shaped (.list (ks.map kD)) = true := by
  simp [SeqAt.shaped, PyData.canLay0, PyData.depth, keys_lay ks h]
theorem keys_nil : ∀ ks : List Key, PyData.eqv (.list (ks.map kD)) (.list []) = ks.isEmpty
  | [] => by simp [PyData.eqv, PyData.eqvAll]
  | k :: ks => by cases k <;> simp [kD, PyData.eqv, PyData.eqvAll]
theorem er_map {α β : Type} {f : α → β} : ∀ (l : List α) (k : Nat), (l.map f).eraseIdx k = (l.eraseIdx k).map f
  | [], _ => rfl
  | _ :: _, 0 => rfl
  | x :: l, k + 1 => by rw [List.map_cons, List.eraseIdx_cons_succ, List.eraseIdx_cons_succ, List.map_cons, er_map l k]
theorem er_perm {α : Type} : ∀ {l : List α} {k : Nat} {y : α}, l[k]? = some y → (y :: l.eraseIdx k).Perm l
  | [], _, _, h => by simp at h
  | x :: l, 0, y, h => by
    obtain rfl := Option.some.inj h
    exact List.Perm.refl _
  | x :: l, k + 1, y, h => by
    rw [List.eraseIdx_cons_succ]
    exact (List.Perm.swap x y _).trans ((er_perm (l := l) (k := k) h).cons x)
theorem seq_ix {j : Int} {n : Nat} (h0 : 0 ≤ j) (h1 : j.toNat < n) : seqIndex? j n = some j.toNat := by
  unfold seqIndex?
  have e0 : ¬ j < 0 := by omega
  have e1 : j < (n : Int) := by omega
  simp [e0, h0, e1]
def spMixed (K : Frag) : Sp := fun vs H Q _ => ∃ (p e : Addr) (r m : Int) (ks : List Key), vs = [.ref p, .ref e] ∧ H p = some (srcO r m) ∧ SrcOk m ∧ SqL K H e (ks.map kV) ∧ e ≠ p ∧ ks.length ≤ 1000 ∧ (∀ k ∈ ks, kOk k = true) ∧
  ∀ (H' : Hp) (q : Addr) (js : List Key), Drawn p H H' → H q = none → q ≠ p → H' q = some (.lst (js.map kV)) → js.Perm ks → Q (.ref q) H'
section
variable {P : Program} {w : World} {K : Frag} {mg : Str → Option Value} {base : Heap}
theorem boot_list0 : bootBuiltins "list" = some (.type "list") := by decide +kernel
end
end Gk
/-! ### enumerate of a tuple -/
namespace Gk
open PySem PySem.Spec PyProof.Rows L2
theorem enumT_new (l : Addr) (its : Array Value) (n : Nat) (dct : Option Addr) (sl : Array (Option Value)) : Meets (Builtin.«enumerate.__new__» ⟨[.type "enumerate", .ref l], []⟩) (fun _ R s => s.heap.get? l = some { cls := .type "tuple", dict := dct, data := .seq its n, slots := sl } ∧
    R (.ok (.ret (.ref (s.heap.objs.size + 1)))) { s with heap := (s.heap.push { cls := .type "tuple_iterator", data := .fields #[.ref l, .int 0 0] }).push { cls := .type "enumerate", data := .fields #[.none, .bool false, .ref s.heap.objs.size, rawInt 0, .none, .none] } }) :=
  .of_wp fun prog w A R s h => by
    obtain ⟨hp, g, d, tk, os⟩ := s
    obtain ⟨hl, h⟩ := h
    have sub := sub_enumerate
    have hL : Heap.IsTuple (Shared.heap ⟨hp, g, d, tk, os⟩) l its := ⟨_, hl, rfl, n, rfl⟩
    have hz : (hp.push { cls := .type "tuple_iterator", data := .fields #[.ref l, .int 0 0] }).objs.size = hp.objs.size + 1 := Heap.size_push ..
    wp_walk using AutoSeq1.wpAny_loadPart' hl
    refine wpAny_stack_any fun st => wpAny_pure ?_
    split
    · rename_i c _ _ _ _ _
      cases (c == Value.type "enumerate") <;> wp_walk using AutoSeq1.wpAny_loadPart' hl, wpAny_pyIter_tuple hL <;> (refine ⟨_, rfl, ?_⟩; rw [← hz] at h; exact h)
    · wp_walk using AutoSeq1.wpAny_loadPart' hl, wpAny_pyIter_tuple hL
      refine ⟨_, rfl, ?_⟩
      rw [← hz] at h
      exact h
section
variable {prog : Program} {w : World} {A : Around} {E : Value → Shared → Prop} {s : Shared}
theorem call_enumT {l : Addr} {its : Array Value} {Q : Value → Shared → Prop} (hL : s.heap.IsTuple l its)
    (h : ∀ h', IsEnum h' (s.heap.objs.size + 1) s.heap.objs.size ((0 : Nat) : Int) .none → h'.IsTupleIter s.heap.objs.size l 0 → (∀ b o, s.heap.get? b = some o → h'.get? b = some o) → Q (.ref (s.heap.objs.size + 1)) { s with heap := h' }) : wpAny (model prog w) A (call (.type "enumerate") [.ref l]) Q E s := by
  obtain ⟨⟨c, dct, dt, sl⟩, hl, hc, n, hd⟩ := hL
  obtain rfl : c = .type "tuple" := hc
  obtain rfl : dt = .seq its n := hd
  refine callType_new PySem.F.called_enumerate (by decide) (PySem.F.typeCall_enumerate_1 _) (PySem.F.newCall_enumerate_1 _) (fun x => F.args_object_init_2 x _) PySem.F.entry_enumerate_new (enumT_new l its n dct sl) ⟨hl, ?_⟩
  have hz : (s.heap.push { cls := .type "tuple_iterator", data := .fields #[.ref l, .int 0 0] }).objs.size = s.heap.objs.size + 1 := Heap.size_push ..
  have he := Heap.get?_push_size (s.heap.push { cls := .type "tuple_iterator", data := .fields #[.ref l, .int 0 0] }) (o := { cls := .type "enumerate", data := .fields #[.none, .bool false, .ref s.heap.objs.size, rawInt 0, .none, .none] }) rfl
  rw [hz] at he
  exact ⟨⟨_, he, rfl⟩, h _ he ⟨_, Heap.get?_push_of_some _ (Heap.get?_push_size _ rfl), rfl, rfl⟩ fun b o y => Heap.get?_push_of_some _ (Heap.get?_push_of_some _ y)⟩
end
/-- the tuple at a, each item in a new pair -/
def Iteq (K : PySem.W.Frag) (a : Addr) : It :=
  ⟨fun i H => ∃ (xs : List V) (x : V), SqT K H a xs ∧ xs[i]? = some x, fun i H v H' => ∃ T x, v = .ref T ∧ H T = none ∧ H' = upd H T (.tup [.int (i : Nat), x]) ∧ ∀ xs, SqT K H a xs → xs[i]? = some x, fun i H => ∃ xs : List V, SqT K H a xs ∧ xs.length = i⟩
theorem turn_enumT {P : Program} {w : World} {K : PySem.W.Frag} {elts : List Expr} {kk : Nat} {tpos : Pos} (a e it : Addr) (nai : a ≠ it) (nae : e ≠ a) (nei : e ≠ it) :
    Turn P w K (.Tuple elts kk tpos) (Iteq K a) [e, it] e (fun i h => (∃ old, IsEnum h e it ((i : Nat) : Int) old) ∧ h.IsTupleIter it a i) where
  mem := by simp
  obj := fun i h st b hb => by
    obtain ⟨⟨old, he⟩, o, ho, hc, hd⟩ := st
    rcases (show b = e ∨ b = it by simpa using hb) with rfl | rfl
    · exact ⟨_, he, fun v q => nomatch q⟩
    · exact ⟨o, ho, fun v q => by rw [hd] at q; cases q⟩
  keep := fun i h h' st k => let ⟨⟨old, he⟩, hi⟩ := st; ⟨⟨old, k e (by simp) _ he⟩, hi.at fun o q => k it (by simp) o q⟩
  item := by
    intro X hP hw hK hc i pins s σ H E I hf st hg
    subst hP hw hK
    obtain ⟨⟨old, he⟩, hit⟩ := st
    obtain ⟨xs, x, hq, hx⟩ := hg
    obtain ⟨its, rv, p, hz⟩ := I.tuple hq
    obtain ⟨u, hu, ru⟩ := rv.get hx
    have hel : e < s.heap.objs.size := Heap.lt_size he
    have hil : it < s.heap.objs.size := by obtain ⟨_, q, _⟩ := hit; exact Heap.lt_size q
    have hs : X.A.in1.handled = none := by have := I.ok.hd hc; simp [this]
    have lt : i < its.toArray.size := by rw [List.size_toArray]; exact (List.getElem?_eq_some_iff.mp hu).1
    refine wpAny_pyNext_enum_itemD (PySem.Draws.tuple hs it a nai its.toArray) he ⟨hit, p⟩ lt nei (by simp [nei, nae]) fun y h' tk hy ho hit' hT hsz hk => ?_
    obtain rfl : y = u := by
      rw [show its.toArray[i]? = some u by simpa using hu] at hy
      exact (Option.some.inj hy).symm
    refine ⟨_, rfl, wpAny_letOwnedTupleGo_enum (s := { s with heap := h', toks := tk + 1 }) ho fun h2 he' sb => ?_⟩
    have hT2 : h2.get? s.heap.objs.size = some { cls := .type "tuple", data := .seq #[.int i tk, y] } := (sb.2 _ (Nat.ne_of_gt hel)).trans hT
    have new : ObjOk X.prog X.w (upd H s.heap.objs.size (.tup [.int (i : Nat), x])) h2 s.heap.objs.size (.tup [.int (i : Nat), x]) := ⟨by show 2 ≤ sizeLine; decide, [.int i tk, y], .cons ⟨_, rfl⟩ (.cons ru .nil), ⟨_, hT2, rfl, _, rfl⟩⟩
    have I1 : Inv X pins σ (upd H s.heap.objs.size (.tup [.int (i : Nat), x])) { s with heap := h2, toks := tk + 1 } :=
      I.turnedNew (ch := [e, it]) (fun b ob hb q => (sb.2 b (fun z => hb (by simp [z]))).trans (hk b ob (fun z => hb (by simp [z])) (fun z => hb (by simp [z])) q)) hf (Nat.le_refl _) new
    refine ⟨.ref s.heap.objs.size, _, I1, rfl, ⟨_, x, rfl, I.hok.fresh (Nat.le_refl _), rfl, fun ys hy => by rw [I.tuple_inj hy hq]; exact hx⟩, ⟨⟨y, ?_⟩, hit'.1.at fun o q => (sb.2 it (Ne.symm nei)).trans q⟩, fun b hb => ?_⟩
    · have e1 : ((i + 1 : Nat) : Int) = (i : Int) + 1 := by omega
      rw [e1]
      exact he'
    · have lb : b < s.heap.objs.size := by
        rcases (show b = e ∨ b = it by simpa using hb) with rfl | rfl
        · exact hel
        · exact hil
      rw [upd_ne (Nat.ne_of_lt lb)]
      exact (hf b hb).1
  done := by
    intro X hP hw hK hc i pins s σ H E I hf st hg
    subst hP hw hK
    obtain ⟨⟨old, he⟩, hit⟩ := st
    obtain ⟨xs, hq, hx⟩ := hg
    obtain ⟨its, rv, p, hz⟩ := I.tuple hq
    obtain ⟨f0, f1, f2, f3, f4, f5⟩ := hf it (by simp)
    have hl := rv.length
    have hs : X.A.in1.handled = none := by have := I.ok.hd hc; simp [this]
    have ei : i = its.toArray.size := by rw [List.size_toArray, ← hl]; exact hx.symm
    refine wpAny_pyNext_enum_endD (PySem.Draws.tuple hs it a nai its.toArray) (i := i) he (by rw [← ei]; exact ⟨hit, p⟩) fun h' eb => ⟨rfl, I.turned (t' := s.toks) (fun b o hb q => eb b o hb q) f0 f1 f3 f4 f5⟩
  self := fun A i s Q E st h => let ⟨⟨_, he⟩, _⟩ := st; wpAny_pyIter_enum he h
def iEnumT (K : PySem.W.Frag) (ta : TA) : TI := fun σ H R => ta σ H fun vs H1 => ∃ a xs, vs = [.ref a] ∧ SqT K H1 a xs ∧ R (Iteq K a) H1
theorem pi_enumT {X : Cx} {e : Expr} {ta : TA} {p pos tpos : Pos} {elts : List Expr} {kk : Nat} (hg : Gl X "enumerate") (hm : X.mg "enumerate" = none) (ha : PA X [e] ta) (hs : starEach [e] X.env = [(false, eval e X.env)] := by rfl) : PI X (.Tuple elts kk tpos) (.Call (.Name "enumerate" p) [e] [] pos) (iEnumT X.K ta) := by
  refine ⟨fun pins s σ H R I h => ?_⟩
  refine Call_ (ld_blt I hg hm boot_enumerate (PyProof.Rows.callWith_type1 (thn (ha.run pos pins s σ H _ I h) fun us s1 ⟨vs, H1, I1, r1, q1⟩ => ?_) hs rfl))
  obtain ⟨a, xs, rfl, hq, q⟩ := q1
  obtain ⟨u, rfl, r⟩ := vals1 r1
  cases r
  obtain ⟨its, rv, p', hz⟩ := I1.tuple hq
  have old : a < s1.heap.objs.size := by obtain ⟨o, ho, _⟩ := p'; exact Heap.lt_size ho
  refine call_enumT p' fun h' he hit hk => wpAny_pyIter_enum he ?_
  have I2 : Inv X pins σ H1 { s1 with heap := h' } := I1.kept (t' := s1.toks) hk
  refine ⟨s1.heap.objs.size + 1, [s1.heap.objs.size + 1, s1.heap.objs.size], _, _, H1, rfl, I2, turn_enumT a (s1.heap.objs.size + 1) s1.heap.objs.size (Nat.ne_of_lt old) (Nat.ne_of_gt (Nat.lt_succ_of_lt old)) (Nat.succ_ne_self _), ⟨⟨.none, he⟩, hit⟩, fun b hb => ?_, q⟩
  have le : s1.heap.objs.size ≤ b := by
    rcases (show b = s1.heap.objs.size + 1 ∨ b = s1.heap.objs.size by simpa using hb) with z | z
    · rw [z]; exact Nat.le_add_right _ _
    · rw [z]; exact Nat.le_refl _
  exact I1.fpOk le (I1.hok.fresh le)
theorem walk_enumT {K : PySem.W.Frag} {a : Addr} {xs : List V} : Walk (Iteq K a) xs.length (fun H => SqT K H a xs) (YPair (fun i => some (.int (i : Nat))) (fun i => xs[i]?)) := by
  refine ⟨fun i _ hi q => ⟨xs, xs[i], q, by simp [hi]⟩, fun _ q => ⟨xs, q, rfl⟩, fun i H v H' _ q y => ?_⟩
  obtain ⟨T, x, h1, h2, h3, h4⟩ := y
  exact ⟨T, .int (i : Nat), x, h1, h2, h3, rfl, h4 xs q⟩
end Gk
/-! ### sorted of a tuple of texts -/
namespace Gk
open PySem PySem.Spec PyProof.Rows L2
def rSortedTS (K : PySem.W.Frag) : List V → Hp → VK → Prop := fun vs H Q => ∃ (a : Addr) (xs : List Str), vs = [V.ref a] ∧ SqT K H a (xs.map V.str) ∧ xs.length < 64 ∧
  ∀ (ys : List Str) (p : Addr), ys.Perm xs → sortedS ys = true → H p = none → ∀ H', (∀ b u, H b = some u → H' b = some u) → H' p = some (.lst (ys.map V.str)) → Q (.ref p) H'
theorem cr_sortedTS {X : Cx} : CallR X (.builtin "sorted") (rSortedTS X.K) := by
  intro pins s σ H vs us Q I r q
  obtain ⟨a, xs, rfl, hs, h64, q⟩ := q
  obtain ⟨its, rv, pl, hz⟩ := I.tuple hs
  obtain ⟨u, rfl, ru⟩ := vals1 r
  cases ru
  obtain ⟨o, ho, hc, n, hd⟩ := pl
  have hS : StrsAre its xs := rv.strs
  have hl : its.length = xs.length := hS.len_eq
  refine Calls.call_function_entry kind_sorted plain_sorted entry_sorted (args_sorted1 _) ?_
  unfold Builtin.«sorted»; refine wpAny_bind (m := checkCount "sorted" 1 1 _) (wpAny_pure ?_)
  refine wpAny_bind (wpAny_collect_seq a (.inr rfl) ho hc hd (fun h1 hk => ?_) (by rw [List.size_toArray, hl, sizeLine_eq]; omega))
  show wpAny _ _ _ _ _ { s with heap := h1 }
  rw [List.toList_toArray]
  have I1 : Inv X pins σ H { s with heap := h1 } := I.kept (t' := s.toks) hk
  refine wpAny_bind (wpAny_newList ?_ (by rw [hl, sizeLine_eq]; omega))
  have at1 : (h1.push (seqObj "list" its.toArray 0)).get? h1.objs.size = some (seqObj "list" its.toArray 0) := Heap.get?_push_size _ rfl
  show wpAny _ _ _ _ _ { s with heap := h1.push (seqObj "list" its.toArray 0) }
  refine wpAny_bind (wpAny_holding (wpAny_call_entry slot_list_sort ⟨_, at1, rfl⟩ entry_list_sort (list_sort_treeK strKind_oneLt (s := { s with heap := h1.push (seqObj "list" its.toArray 0) }) at1 hS.keysOf (fun v1 v2 rest e => keyKind_strs (by rw [← e]; exact hS)) (by rw [hl]; exact h64) fun st hp hq => ⟨_, rfl, ?_⟩) (args_list_sort _)))
  obtain ⟨ys, g1, g2, g3⟩ := sorted_out_str hS hp hq
  obtain ⟨ep, he⟩ := sortedHeap_at (vs := its) (out := (arrOf st).map (·.2)) at1
  have len : (ys.map V.str).length ≤ sizeLine := by rw [List.length_map, g2.length_eq, sizeLine_eq]; omega
  have fr := I1.hok.fresh (Nat.le_refl _)
  refine wpAny_pure ⟨_, rfl, .ref h1.objs.size, upd H h1.objs.size (.lst (ys.map V.str)), I1.laid (t' := s.toks) (fun b u e => ?_) (Nat.le_refl _) (show ObjOk X.prog X.w _ _ _ (.lst (ys.map V.str)) from ⟨len, ((arrOf st).map (·.2)).toList, ep, vals_of_strs g1, by rw [Array.toArray_toList]; exact he⟩), rfl,
    q ys _ g2 g3 fr _ (fun b u e => by rw [upd_ne (ne_of_none e fr)]; exact e) upd_same⟩
  have hb : b < h1.objs.size := Heap.lt_size e
  rw [sortedHeap_old (Nat.ne_of_lt hb) (by rw [Heap.size_push]; exact Nat.lt_succ_of_lt hb)]; exact Heap.get?_push_of_some _ e
end Gk
/-! ### {k: v for a in xs for b in ys} -/
namespace Gk
open PySem PySem.Spec PyProof.Rows L2
section
variable {prog : Program} {w : World} {A : Around} {R : Result → Shared → Prop} {s : Shared} {kx vx t0 i0 t1 i1 : Expr} {c0 c1 : List Expr} {scope : Scope} {pos : Pos} {it : Value} {D : Addr} {env : Env}
abbrev DC2 (kx vx t0 i0 t1 i1 : Expr) (c0 c1 : List Expr) (scope : Scope) (pos : Pos) : Expr := .DictComp kx vx [⟨t0, i0, c0, 0⟩, ⟨t1, i1, c1, 0⟩] scope pos
abbrev testsOf (cs : List Expr) (env : Env) : Sem Bool := forIn cs true fun c r => if r = true then do let ok ← isTrue c env (eval c env); pure (ForInStep.yield ok) else pure (ForInStep.yield r)
abbrev NBy (prog : Program) (w : World) (A : Around) (env : Env) (R : Result → Shared → Prop) : Value → Shared → Prop := notedBy (model prog w) A env fun e s' => R (.error e) s'
theorem turn2_out (acc : Value) : compTurn (DC2 kx vx t0 i0 t1 i1 c0 c1 scope pos) 0 it acc env = (do
    standAt i0.pos
    match ← pyNext it with
    | none => pure (.done .next)
    | some v =>
      letOwnedTupleGo t0 it v
      assign t0 env v
      let mut ok := true
      for c in c0 do
        if ok then ok ← isTrue c env (eval c env)
      if ok then
        let x ← eval i1 env
        standAt i1.pos
        let x ← foldedSetIterable i1 env x
        let _ ← runOwn (.compStart (DC2 kx vx t0 i0 t1 i1 c0 c1 scope pos) 1 (← holding [x] (pyIter x)) acc env) env
      again (.compLoop (DC2 kx vx t0 i0 t1 i1 c0 c1 scope pos) 0 it acc env)) := by rfl
theorem turn2_in : compTurn (DC2 kx vx t0 i0 t1 i1 c0 c1 scope pos) 1 it (.ref D) env = (do
    standAt i1.pos
    match ← pyNext it with
    | none => pure (.done .next)
    | some v =>
      letOwnedTupleGo t1 it v
      assign t1 env v
      let mut ok := true
      for c in c1 do
        if ok then ok ← isTrue c env (eval c env)
      if ok then
        (do
          let kv ← eval kx env
          let vv ← holding [kv] (eval vx env)
          standAt { kx.pos with endLine := vx.pos.endLine, endCol := vx.pos.endCol }
          holding [kv, vv] (dictSet D kv vv))
      again (.compLoop (DC2 kx vx t0 i0 t1 i1 c0 c1 scope pos) 1 it (.ref D) env)) := by rfl
theorem loop2_out (fs : ∀ x, foldedSetIterable i1 env x = pure x) (I : Nat → Shared → Prop) (acc : Value)
    (turn : ∀ n s, I n s → wpAny (model prog w) A (pyNext it) (fun r a1 => match r with
      | none => R (.ok .next) a1
      | some v => wpAny (model prog w) A (letOwnedTupleGo t0 it v) (fun _ a2 => wpAny (model prog w) A (assign t0 env v) (fun _ a3 => wpAny (model prog w) A (testsOf c0 env) (fun ok a4 =>
          if ok = true then wpAny (model prog w) A (eval i1 env) (fun x a5 => wpAny (model prog w) A (pyIter x) (fun it1 a6 => codeAny (model prog w) A (.compStart (DC2 kx vx t0 i0 t1 i1 c0 c1 scope pos) 1 it1 acc env)
            (fun r a7 => match r with
              | .ok _ => ∃ m, m < n ∧ I m a7
              | .error _ => False) a6) (NBy prog w A env R) a5) (NBy prog w A env R) a4
          else ∃ m, m < n ∧ I m a4) (NBy prog w A env R) a3) (NBy prog w A env R) a2) (NBy prog w A env R) a1) (NBy prog w A env R) s) (n : Nat) (h : I n s) :
    codeAny (model prog w) A (.compLoop (DC2 kx vx t0 i0 t1 i1 c0 c1 scope pos) 0 it acc env) R s := by
  refine codeAny_loop rfl I (fun n s hI => ?_) n h
  show wpAny _ A ((compTurn (DC2 kx vx t0 i0 t1 i1 c0 c1 scope pos) 0 it acc env).onRaise (fun x => do noteFrame x env; theTreesLotGoes x)) _ _ s
  refine wpAny_noted ?_; rw [turn2_out]
  refine wpAny_bind (wpAny_standAt (wpAny_bind (wpAny_mono (turn n s hI) (fun r a1 b1 => ?_) fun _ _ z => z)))
  cases r with
  | none => exact wpAny_pure b1
  | some v =>
    refine wpAny_bind (wpAny_mono b1 (fun _ a2 b2 => ?_) fun _ _ z => z)
    refine wpAny_bind (wpAny_mono b2 (fun _ a3 b3 => wpAny_bind (wpAny_mono b3 (fun ok a4 b4 => ?_) fun _ _ z => z)) fun _ _ z => z)
    cases ok with
    | false => exact wpAny_pure ⟨rfl, b4⟩
    | true =>
      refine wpAny_bind (wpAny_mono b4 (fun x a5 b5 => ?_) fun _ _ z => z)
      refine wpAny_bind (wpAny_standAt (wpAny_bind (wpAny_of_eq (fs x) (wpAny_bind (wpAny_holding (wpAny_mono b5 (fun it1 a6 b6 => ?_) fun _ _ z => z))))))
      refine wpAny_bind (wpAny_runOwn ?_); rw [Around.mark_none]
      refine codeAny_mono b6 fun r a7 b7 => ?_
      cases r with
      | error e => exact b7.elim
      | ok f => first | exact wpAny_pure ⟨rfl, b7⟩ | exact wpAny_bind (wpAny_pure (wpAny_pure ⟨rfl, b7⟩))
theorem loop2_in (I : Nat → Shared → Prop)
    (turn : ∀ n s, I n s → wpAny (model prog w) A (pyNext it) (fun r a1 => match r with
      | none => R (.ok .next) a1
      | some v => wpAny (model prog w) A (letOwnedTupleGo t1 it v) (fun _ a2 => wpAny (model prog w) A (assign t1 env v) (fun _ a3 => wpAny (model prog w) A (testsOf c1 env) (fun ok a4 =>
          if ok = true then wpAny (model prog w) A (eval kx env) (fun kv a5 => wpAny (model prog w) A (eval vx env) (fun vv a6 => wpAny (model prog w) A (dictSet D kv vv) (fun _ a7 => ∃ m, m < n ∧ I m a7) (NBy prog w A env R) a6) (NBy prog w A env R) a5) (NBy prog w A env R) a4
          else ∃ m, m < n ∧ I m a4) (NBy prog w A env R) a3) (NBy prog w A env R) a2) (NBy prog w A env R) a1) (NBy prog w A env R) s) (n : Nat) (h : I n s) :
    codeAny (model prog w) A (.compLoop (DC2 kx vx t0 i0 t1 i1 c0 c1 scope pos) 1 it (.ref D) env) R s := by
  refine codeAny_loop rfl I (fun n s hI => ?_) n h
  show wpAny _ A ((compTurn (DC2 kx vx t0 i0 t1 i1 c0 c1 scope pos) 1 it (.ref D) env).onRaise (fun x => do noteFrame x env; theTreesLotGoes x)) _ _ s
  refine wpAny_noted ?_; rw [turn2_in]
  refine wpAny_bind (wpAny_standAt (wpAny_bind (wpAny_mono (turn n s hI) (fun r a1 b1 => ?_) fun _ _ z => z)))
  cases r with
  | none => exact wpAny_pure b1
  | some v =>
    refine wpAny_bind (wpAny_mono b1 (fun _ a2 b2 => ?_) fun _ _ z => z)
    refine wpAny_bind (wpAny_mono b2 (fun _ a3 b3 => wpAny_bind (wpAny_mono b3 (fun ok a4 b4 => ?_) fun _ _ z => z)) fun _ _ z => z)
    cases ok with
    | false => exact wpAny_pure ⟨rfl, b4⟩
    | true => exact wpAny_bind (wpAny_bind (wpAny_mono b4 (fun kv a5 b5 => wpAny_bind (wpAny_holding (wpAny_mono b5 (fun vv a6 b6 => wpAny_bind (wpAny_standAt (wpAny_holding (wpAny_mono b6 (fun _ a7 b7 => wpAny_pure ⟨rfl, b7⟩) fun _ _ z => z)))) fun _ _ z => z))) fun _ _ z => z))
theorem start2_in {acc : Value} (h0 : codeAny (model prog w) A (.compLoop (DC2 kx vx t0 i0 t1 i1 c0 c1 scope pos) 1 it acc env) R s)
    (h : wpAny (model prog w) A (pyIter it) (fun j a => codeAny (model prog w) A (.compLoop (DC2 kx vx t0 i0 t1 i1 c0 c1 scope pos) 1 j acc env) R a) (NBy prog w A env R) s) :
    codeAny (model prog w) A (.compStart (DC2 kx vx t0 i0 t1 i1 c0 c1 scope pos) 1 it acc env) R s := by
  refine codeAny_of_tree ?_
  show wpAny _ _ ((compStart (DC2 kx vx t0 i0 t1 i1 c0 c1 scope pos) 1 it acc env).onRaise (fun x => do noteFrame x env; standAt theWindowsPlace)) _ _ s
  refine wpAny_notedAt ?_; unfold compStart; show wpAny _ _ (ask >>= _) _ _ s
  refine wpAny_bind (wpAny_askSetting (wpAny_ite ?_)); split
  · first | exact wpAny_bind (wpAny_pure (wpAny_pure (And.intro rfl h0))) | exact wpAny_pure (And.intro rfl h0)
  · first
      | exact wpAny_bind (wpAny_rule (wpAny_bind (wpAny_standAt (wpAny_bind (wpAny_mono h (fun _ _ b => wpAny_pure (And.intro rfl b)) fun _ _ z => z)))))
      | (refine wpAny_bind (wpAny_rule ?_); show wpAny _ _ (standAt i1.pos >>= _) _ _ s; exact wpAny_bind (wpAny_standAt (wpAny_bind (wpAny_mono h (fun _ _ b => wpAny_pure (And.intro rfl b)) fun _ _ z => z))))
end
section
variable {X : Cx}
/-- {k: v for g in wi if tt for g1 in w1 if u1}: D the new dict; the inner source's loop stands behind each store of the outer target; vs the block's names, vs1 those of the inner target -/
def tDc2 (wi : TI) (g : TG) (tt : TT) (w1 : TI) (g1 : TG) (u1 : TT) (tk tv : TE) (vs vs1 : List Nat) : TE := fun σ H Q => wi σ H fun J H1 => ∀ D, H1 D = none → ∃ W : Nat → Nat → Hp → Prop, (∃ m, W 0 m (upd H1 D (.dK []))) ∧ ∀ i m H, W i m H →
  (J.stop i H ∧ Q (.ref D) H) ∨ (J.go i H ∧ ∃ Nx : Hp → Prop, (∀ H', Nx H' → ∃ m', m' < m ∧ W (i + 1) m' H') ∧ ∀ x H', J.yld i H x H' → g x (wipe σ vs) H' fun σ2 H2 => wipe σ2 vs = wipe σ vs ∧ tt σ2 H2 fun b H3 =>
    if b = true then w1 σ2 H3 fun J1 H4 => ∃ W1 : Nat → Nat → Hp → Prop, (∃ m, W1 0 m H4) ∧ ∀ j k H, W1 j k H →
      (J1.stop j H ∧ Nx H) ∨ (J1.go j H ∧ ∃ Nx1 : Hp → Prop, (∀ H', Nx1 H' → ∃ k', k' < k ∧ W1 (j + 1) k' H') ∧ ∀ x H', J1.yld j H x H' → g1 x (wipe σ2 vs1) H' fun σ3 H5 => wipe σ3 vs1 = wipe σ2 vs1 ∧ u1 σ3 H5 fun b H6 =>
        if b = true then tk σ3 H6 fun y H7 => tv σ3 H7 fun z H8 => ∃ kvs k, y = kV k ∧ H8 D = some (.dK kvs) ∧ kvs.length < sizeLine ∧ Nx1 (upd H8 D (.dK (putK kvs k z))) else Nx1 H6)
    else Nx H3)
abbrev OnB (X : Cx) (scope : Scope) (p : Cx → Prop) : Prop := ∀ (s : Shared) (H : Hp) (C : Addr) (cl : List (Str × Addr)) (fp : List Addr), p (X.blk s H scope (compEnvC scope cl C X.env) fp)
theorem dc2_core {pins : List (Addr × Obj)} {s : Shared} {σ : L2.St} {H : Hp} {Q : VK} {kx vx t0 i0 t1 i1 : Expr} {c0 c1 : List Expr} {scope : Scope} {own : List (Str × Nat)} {vs1 : List Nat} {pos : Pos} {wi w1 : TI} {g g1 : TG} {tt u1 : TT} {tk tv : TE} (hc : X.calm = true) (hN : X.N.Nodup) (I : Inv X pins σ H s)
    (hi : PI X t0 i0 wi) (ok : BlkOk X.N X.env.scope scope own) (hv : ∀ i ∈ vs1, i ∈ own.map (·.2)) (hg : OnB X scope fun Y => PG Y t0 g) (ht : OnB X scope fun Y => PTs Y c0 tt) (hk : OnB X scope fun Y => PE Y kx tk) (he : OnB X scope fun Y => PE Y vx tv)
    (fs : ∀ x, foldedSetIterable i0 X.env x = pure x) (hi1 : OnB X scope fun Y => PI Y t1 i1 w1) (hg1 : OnB X scope fun Y => PG Y t1 g1) (ht1 : OnB X scope fun Y => PTs Y c1 u1) (fs1 : ∀ env x, foldedSetIterable i1 env x = pure x)
    (h : tDc2 wi g tt w1 g1 u1 tk tv (own.map (·.2)) vs1 σ H Q) {pos' : Pos} {use : Option (Value → Sem Unit)} {Qf : Value → Shared → Prop} (hR : ∀ D C s' m H', Inv X pins σ H' s' → Q (.ref D) H' → s'.heap.Ns C m → FpOk X pins H' C → compPost (model X.prog X.w) X.A X.xe use Qf (.ref D) C (.ok .next) s') :
    wpAny (model X.prog X.w) X.A (comprehension (DC2 kx vx t0 i0 t1 i1 c0 c1 scope pos) scope X.env pos' newDict false (eval i0 X.env) use) Qf X.xe s := by
  have free : ∀ y ∈ scope.names, y.2 = .free → ∃ c, X.env.cells.lookup y.1 = some c := fun y hy e => (ok.free y hy e).elim (fun z => I.ok.has _ (.inl z)) fun z => I.ok.has _ (.inr z)
  refine wpAny_comprehension_free (use := use) rfl fs (closure_ok free) ok.kind (fun y hy e => by rw [ok.uniq y hy, e]) (thn (hi.run pins s σ H _ I h) fun x0 a1 hx => thn hx fun j0 a2 h2 => ?_)
  obtain ⟨it, fp, tn, J, H2, e, I2, T, st2, f2, q⟩ := h2
  subst e
  refine wpAny_newObj_type (newEnv_comp ?_)
  generalize hD : a2.heap.objs.size = D
  obtain ⟨W, ⟨m0, w0⟩, turn⟩ := q D (I2.hok.fresh (Nat.le_of_eq hD))
  generalize ha3 : ({ a2 with heap := a2.heap.push { cls := .type "dict", data := .dict #[] } } : Shared) = a3
  have I3 : Inv X pins σ (upd H2 D (.dK [])) a3 := by
    rw [← ha3]; refine I2.laid (t' := a2.toks) (fun b o e => Heap.get?_push_of_some _ e) (Nat.le_of_eq hD) ?_
    rw [← hD]; exact dk_empty a2.heap I2.big
  have h3 : a3.heap = a2.heap.push { cls := .type "dict", data := .dict #[] } := by rw [← ha3]
  have f3 : ∀ b ∈ fp, FpOk X pins (upd H2 D (.dK [])) b ∧ b < a3.heap.objs.size := fun b hb => by
    have lt : b < a2.heap.objs.size := by obtain ⟨o, e, _⟩ := T.obj _ _ st2 b hb; exact Heap.lt_size e
    refine ⟨⟨?_, (f2 b hb).2⟩, by rw [h3, Heap.size_push]; exact Nat.lt_succ_of_lt lt⟩
    rw [upd_ne (by rw [← hD]; exact Nat.ne_of_lt lt)]; exact (f2 b hb).1
  have st3 : tn 0 a3.heap := T.keep _ _ _ st2 fun b _ o e => by rw [h3]; exact Heap.get?_push_of_some _ e
  have I4 := block_start I3 ok hN f3
  generalize hcl : cellsFrom (a3.heap.objs.size + 1) scope.names (cloFrom X.env.cells scope.names []) = cl at I4 ⊢
  have pg := hg a3 (upd H2 D (.dK [])) a3.heap.objs.size cl fp; have pt := ht a3 (upd H2 D (.dK [])) a3.heap.objs.size cl fp
  have pk := hk a3 (upd H2 D (.dK [])) a3.heap.objs.size cl fp; have pe := he a3 (upd H2 D (.dK [])) a3.heap.objs.size cl fp
  have pi1 := hi1 a3 (upd H2 D (.dK [])) a3.heap.objs.size cl fp; have pg1 := hg1 a3 (upd H2 D (.dK [])) a3.heap.objs.size cl fp; have pt1 := ht1 a3 (upd H2 D (.dK [])) a3.heap.objs.size cl fp
  have nfp : ∀ b ∈ fp, (upd H2 D (.dK [])) b = none := fun b hb => (f3 b hb).1.1
  show codeAny _ _ (.compStart (DC2 kx vx t0 i0 t1 i1 c0 c1 scope pos) 0 (.ref it) (.ref D) (compEnvC scope cl a3.heap.objs.size X.env)) (compPost (model X.prog X.w) X.A X.xe use Qf (.ref D) a3.heap.objs.size) { a3 with heap := pushCells (a3.heap.push { cls := .type "dict", data := .dict #[] }) scope.names }
  generalize hce : compEnvC scope cl a3.heap.objs.size X.env = ce at I4 pg pt pk pe pi1 pg1 pt1 ⊢
  have cL : ce.locals = a3.heap.objs.size := by subst hce; rfl
  generalize hH3 : upd H2 D (.dK []) = H3 at I3 I4 pg pt pk pe pi1 pg1 pt1 w0 nfp f3
  generalize ha4 : ({ a3 with heap := pushCells (a3.heap.push { cls := .type "dict", data := .dict #[] }) scope.names } : Shared) = a4 at I4 ⊢
  have st4 : tn 0 a4.heap := T.keep _ _ _ st3 fun b _ o e => by rw [← ha4]; exact pushCells_keeps _ _ _ _ (Heap.get?_push_of_some _ e)
  have stat : ∀ {σ' : L2.St} {H' : Hp} {s' : Shared}, Inv (X.blk a3 H3 scope ce fp) [] σ' H' s' → (∀ b ∈ fp, H' b = none) → ∀ b ∈ fp, FpOk (X.blk a3 H3 scope ce fp) [] H' b := fun {σ' H' s'} I' hn b hb =>
    ⟨hn b hb, (I'.ok.exf b hb).1, I'.ok.exfs b hb, .inl hb, fun x c e => (I'.ok.exf b hb).2 x c e, fun p hp => absurd (show p ∈ ([] : List (Addr × Obj)) ++ [] from hp) (by simp)⟩
  have loop : codeAny (model X.prog X.w) X.A (.compLoop (DC2 kx vx t0 i0 t1 i1 c0 c1 scope pos) 0 (.ref it) (.ref D) ce) (compPost (model X.prog X.w) X.A X.xe use Qf (.ref D) a3.heap.objs.size) a4 := by
    refine loop2_out (fs1 ce) (fun n s' => ∃ i H', Inv (X.blk a3 H3 scope ce fp) [] (wipe σ (own.map (·.2))) H' s' ∧ tn i s'.heap ∧ (∀ b ∈ fp, H' b = none) ∧ W i n H') _ ?_ m0 ⟨0, H3, I4, st4, nfp, w0⟩
    rintro n a5 ⟨i, H5, I5, st5, n5, w5⟩
    rcases turn i n H5 w5 with ⟨stop, qq⟩ | ⟨go, Nx, hNx, step⟩
    · refine thnF (T.done (X.blk a3 H3 scope ce fp) rfl rfl rfl hc i [] a5 _ H5 (fun _ _ => False) I5 (stat I5 n5) st5 stop) fun r a6 ⟨hr, I6⟩ => ?_
      subst hr
      have I7 : Inv X pins σ H5 a6 := I3.call' (ch := fp) I6.os I6.base I6.hok I6.bare fun b hb => ⟨(f3 b hb).1.2.2.2.1, (f3 b hb).1.2.1, (f3 b hb).1.2.2.2.2.1, (f3 b hb).1.2.2.2.2.2⟩
      have nC : H5 a3.heap.objs.size = none := cL ▸ (show H5 ce.locals = none from I6.free)
      obtain ⟨m, hn, _⟩ := I6.loc
      exact hR D a3.heap.objs.size a6 m H5 I7 qq (cL ▸ (show a6.heap.Ns ce.locals m from hn)) (I3.fpOk (Nat.le_refl _) nC)
    · refine thnF (T.item (X.blk a3 H3 scope ce fp) rfl rfl rfl hc i [] a5 _ H5 (fun _ _ => False) I5 (stat I5 n5) st5 go) fun r a6 ⟨u, hr, h6⟩ => ?_
      subst hr
      refine thnF h6 fun _ a7 ⟨x, H7, I7, r7, y7, st7, n7⟩ => ?_
      have J7 := I7.pinned (stat I7 n7) (T.obj _ _ st7)
      refine thnF (pg.run _ a7 _ H7 x u _ J7 r7 (step x H7 y7)) fun _ a8 ⟨σ8, H8, I8, w8, q8⟩ => ?_
      refine thnF (pt.run _ a8 σ8 H8 _ I8 q8) fun b a9 ⟨H9, I9, q9⟩ => ?_
      have fin : ∀ {σ9 : L2.St} {s' : Shared} {H' : Hp}, Inv (X.blk a3 H3 scope ce fp) ([] ++ pinsAt fp a7.heap) σ9 H' s' → (wipe σ (own.map (·.2))).length = σ9.length → (∀ (j : Nat) v, (wipe σ (own.map (·.2)))[j]? = some (some v) → σ9[j]? = some (some v)) → Nx H' →
          ∃ m, m < n ∧ ∃ i H', Inv (X.blk a3 H3 scope ce fp) [] (wipe σ (own.map (·.2))) H' s' ∧ tn i s'.heap ∧ (∀ b ∈ fp, H' b = none) ∧ W i m H' := fun {σ9 s' H'} I' l' k' nx => by
        obtain ⟨m', lt, w'⟩ := hNx H' nx
        have pin : ∀ b ∈ fp, ∀ o, a7.heap.get? b = some o → s'.heap.get? b = some o ∧ H' b = none := fun b hb o e =>
          let z := I'.pin (b, o) (List.mem_append_right _ (List.mem_append_right _ (mem_pinsAt hb e)))
          ⟨z.1, z.2.1⟩
        refine ⟨m', lt, i + 1, H', (I'.unpinned (pins := [])).weak l' k', T.keep _ _ _ st7 fun b hb o e => (pin b hb o e).1, fun b hb => ?_, w'⟩
        obtain ⟨o, e, _⟩ := T.obj _ _ st7 b hb; exact (pin b hb o e).2
      have l8 : (wipe σ (own.map (·.2))).length = σ8.length := by rw [← w8, wipe_length]
      have k8 : ∀ (j : Nat) v, (wipe σ (own.map (·.2)))[j]? = some (some v) → σ8[j]? = some (some v) := fun j v e => (wipe_some (w8 ▸ e)).1
      have k9 : ∀ (j : Nat) v, (wipe σ (own.map (·.2)))[j]? = some (some v) → (wipe σ8 vs1)[j]? = some (some v) := fun j v e => by
        obtain ⟨e1, e2⟩ := wipe_some (w8 ▸ e)
        rw [wipe_out fun z => e2 (hv j z)]; exact e1
      cases b with
      | false =>
        simp only [Bool.false_eq_true, if_false] at q9 ⊢; exact fin I9 l8 k8 q9
      | true =>
        simp only [if_true] at q9 ⊢
        refine thnF (pi1.run _ a9 σ8 H9 _ I9 q9) fun x1 b1 z1 => thnF z1 fun j1 b2 h11 => ?_
        obtain ⟨it1, fp1, tn1, J1, H11, e1, I11, T1, st11, f11, W1, ⟨m1, w1'⟩, turn1⟩ := h11
        subst e1
        have stat1 : ∀ {H' : Hp}, (∀ b ∈ fp1, H' b = none) → ∀ b ∈ fp1, FpOk (X.blk a3 H3 scope ce fp) ([] ++ pinsAt fp a7.heap) H' b := fun hn b hb => ⟨hn b hb, (f11 b hb).2⟩
        have inner : codeAny (model X.prog X.w) X.A (.compLoop (DC2 kx vx t0 i0 t1 i1 c0 c1 scope pos) 1 (.ref it1) (.ref D) ce) (fun r s' => match r with
            | .ok _ => ∃ m, m < n ∧ ∃ i H', Inv (X.blk a3 H3 scope ce fp) [] (wipe σ (own.map (·.2))) H' s' ∧ tn i s'.heap ∧ (∀ b ∈ fp, H' b = none) ∧ W i m H'
            | .error _ => False) b2 := by
          refine loop2_in (fun k s' => ∃ j H', Inv (X.blk a3 H3 scope ce fp) ([] ++ pinsAt fp a7.heap) (wipe σ8 vs1) H' s' ∧ tn1 j s'.heap ∧ (∀ b ∈ fp1, H' b = none) ∧ W1 j k H') ?_ m1 ⟨0, H11, I11.weak (wipe_length _ _) (fun j v e => (wipe_some e).1), st11, fun b hb => (f11 b hb).1, w1'⟩
          rintro k b3 ⟨j, H12, I12, st12, n12, w12⟩
          rcases turn1 j k H12 w12 with ⟨stop1, nx1⟩ | ⟨go1, Nx1, hNx1, step1⟩
          · refine thnF (T1.done (X.blk a3 H3 scope ce fp) rfl rfl rfl hc j _ b3 (wipe σ8 vs1) H12 (fun _ _ => False) I12 (stat1 n12) st12 stop1) fun r b4 ⟨hr, I13⟩ => ?_
            subst hr; exact fin I13 (l8.trans (wipe_length σ8 vs1).symm) k9 nx1
          · refine thnF (T1.item (X.blk a3 H3 scope ce fp) rfl rfl rfl hc j _ b3 (wipe σ8 vs1) H12 (fun _ _ => False) I12 (stat1 n12) st12 go1) fun r b4 ⟨u2, hr, h13⟩ => ?_
            subst hr
            refine thnF h13 fun _ b5 ⟨x2, H14, I14, r14, y14, st14, n14⟩ => ?_
            refine thnF (pg1.run _ b5 (wipe σ8 vs1) H14 x2 u2 _ (I14.pinned (stat1 n14) (T1.obj _ _ st14)) r14 (step1 x2 H14 y14)) fun _ b6 ⟨σ15, H15, I15, w15, q15⟩ => ?_
            refine thnF (pt1.run _ b6 σ15 H15 _ I15 q15) fun b b7 ⟨H16, I16, q16⟩ => ?_
            have fin1 : ∀ {s' : Shared} {H' : Hp}, Inv (X.blk a3 H3 scope ce fp) (([] ++ pinsAt fp a7.heap) ++ pinsAt fp1 b5.heap) σ15 H' s' → Nx1 H' → ∃ m, m < k ∧ ∃ j H', Inv (X.blk a3 H3 scope ce fp) ([] ++ pinsAt fp a7.heap) (wipe σ8 vs1) H' s' ∧ tn1 j s'.heap ∧ (∀ b ∈ fp1, H' b = none) ∧ W1 j m H' := fun {s' H'} I' nx => by
              obtain ⟨m', lt, w'⟩ := hNx1 H' nx
              have pin : ∀ b ∈ fp1, ∀ o, b5.heap.get? b = some o → s'.heap.get? b = some o ∧ H' b = none := fun b hb o e =>
                let z := I'.pin (b, o) (List.mem_append_right _ (List.mem_append_right _ (mem_pinsAt hb e)))
                ⟨z.1, z.2.1⟩
              refine ⟨m', lt, j + 1, H', I'.unpinned.weak (by rw [← w15, wipe_length]) (fun j v e => (wipe_some (w15 ▸ e)).1), T1.keep _ _ _ st14 fun b hb o e => (pin b hb o e).1, fun b hb => ?_, w'⟩
              obtain ⟨o, e, _⟩ := T1.obj _ _ st14 b hb; exact (pin b hb o e).2
            cases b with
            | false =>
              simp only [Bool.false_eq_true, if_false] at q16 ⊢; exact fin1 I16 q16
            | true =>
              simp only [if_true] at q16 ⊢
              refine thnF (pk.run _ b7 σ15 H16 _ I16 q16) fun z b8 ⟨yk, H17, I17, r17, q17⟩ => ?_
              refine thnF (pe.run _ b8 σ15 H17 _ I17 q17) fun z2 b9 ⟨yv, H18, I18, r18, kvs, k', ek, hD18, hz18, nx⟩ => ?_
              subst ek
              exact d_dictSet (X := X.blk a3 H3 scope ce fp) I18 hD18 hz18 r17 r18 fun b10 I19 => fin1 I19 nx
        exact start2_in inner (T1.self X.A 0 _ _ _ st11 inner)
  exact codeAny_compStart_dict loop (T.self X.A 0 _ _ _ st4 loop)
theorem pe_dc2 {kx vx t0 i0 t1 i1 : Expr} {c0 c1 : List Expr} {scope : Scope} {own : List (Str × Nat)} {vs1 : List Nat} {pos : Pos} {wi w1 : TI} {g g1 : TG} {tt u1 : TT} {tk tv : TE} (hc : X.calm = true) (hN : X.N.Nodup) (hi : PI X t0 i0 wi) (ok : BlkOk X.N X.env.scope scope own) (hv : ∀ i ∈ vs1, i ∈ own.map (·.2))
    (hg : OnB X scope fun Y => PG Y t0 g) (ht : OnB X scope fun Y => PTs Y c0 tt) (hk : OnB X scope fun Y => PE Y kx tk) (he : OnB X scope fun Y => PE Y vx tv) (hi1 : OnB X scope fun Y => PI Y t1 i1 w1) (hg1 : OnB X scope fun Y => PG Y t1 g1) (ht1 : OnB X scope fun Y => PTs Y c1 u1)
    (fs : ∀ x, foldedSetIterable i0 X.env x = pure x := by intro _; rfl) (fs1 : ∀ env x, foldedSetIterable i1 env x = pure x := by intro _ _; rfl) : PE X (.DictComp kx vx [⟨t0, i0, c0, 0⟩, ⟨t1, i1, c1, 0⟩] scope pos) (tDc2 wi g tt w1 g1 u1 tk tv (own.map (·.2)) vs1) := by
  refine ⟨fun pins s σ H Q I h => ?_⟩
  rw [arm_eval_DictComp]
  refine dc2_core hc hN I hi ok hv hg ht hk he fs hi1 hg1 ht1 fs1 h fun D C s' m H' I' q hn f => ⟨m, hn, fun h2 sb => ?_⟩
  obtain ⟨e0, e1, e2, e3, e4, e5⟩ := f
  exact ⟨.ref D, H', I'.turned (t' := s'.toks) (fun b o hb e => (sb.2 b hb).trans e) e0 e1 e3 e4 e5, rfl, q⟩
end
end Gk
/-! ### t[::-1] of a tuple -/
namespace HT
open PySem PySem.Spec PyProof.Rows
section
variable {prog : Program} {w : World} {A : Around} {E : Value → Shared → Prop} {s : Shared}
theorem rev_adjust (n : Nat) : Builtin.Slice.sliceAdjust none none (-1) (n : Int) = ((n : Int) - 1, -1) := by
  unfold Builtin.Slice.sliceAdjust
  have h1 : ((-1 : Int) < 0) := by decide
  simp only [h1, if_true]
theorem rev_places (n : Nat) : Builtin.Slice.slicePlaces ((n : Int) - 1) (-1) (-1) = n := by
  unfold Builtin.Slice.slicePlaces
  have h1 : ¬ ((-1 : Int) > 0) := by decide
  simp only [h1, if_false]
  by_cases h : (n : Int) - 1 > -1
  · rw [if_pos h, show (-(-1) : Int) = 1 by decide, Int.ediv_one]
    omega
  · rw [if_neg h]
    omega
theorem fm_congr {α β : Type} {f g : α → Option β} : ∀ {l : List α}, (∀ x ∈ l, f x = g x) → l.filterMap f = l.filterMap g
  | [], _ => rfl
  | x :: l, h => by rw [List.filterMap_cons, List.filterMap_cons, h x List.mem_cons_self, fm_congr fun y hy => h y (List.mem_cons_of_mem _ hy)]
theorem rev_pick (xs : Array Value) : ((List.range xs.size).filterMap fun (k : Nat) => xs[(((xs.size : Int) - 1) + (k : Int) * (-1)).toNat]?).toArray = xs.toList.reverse.toArray := by
  have e : ∀ k ∈ List.range xs.size, xs[(((xs.size : Int) - 1) + (k : Int) * (-1)).toNat]? = xs[xs.size - 1 - k]? := fun k hk => by
    have := List.mem_range.mp hk
    have h : (((xs.size : Int) - 1) + (k : Int) * (-1)).toNat = xs.size - 1 - k := by omega
    rw [h]
  rw [fm_congr e]
  have g : (List.range xs.size).filterMap (fun k => xs[xs.size - 1 - k]?) = ((List.range xs.size).map fun k => xs.size - 1 - k).filterMap (fun j => xs[j]?) := by
    rw [List.filterMap_map]
    rfl
  rw [g, PySem.W.krv_range, List.filterMap_reverse, PySem.W.krv_all]
theorem sliceApplied_rev {sl : Addr} {vl vu vs : Value} {n : Nat} {Q : Int × Int × Nat → Shared → Prop} (hs : s.heap.IsSliceOf sl vl vu vs) (pl : IsPart vl none) (pu : IsPart vu none) (ps : IsPart vs (some (-1)))
    (h : Q ((n : Int) - 1, -1, n) s) : wpAny (model prog w) A (Builtin.Slice.sliceApplied (.ref sl) (pure (n : Int))) Q E s := by
  obtain ⟨os, hos, hcs, hds⟩ := id hs
  unfold Builtin.Slice.sliceApplied Builtin.Slice.sliceFields
  refine wpAny_bind (wpAny_bind (wpAny_field hos hds (x := vl) rfl (wpAny_bind (wpAny_field hos hds (x := vu) rfl (wpAny_bind (wpAny_field hos hds (x := vs) rfl (wpAny_pure ?_)))))))
  refine wpAny_bind (slicePart_ ps ?_)
  show wpAny _ _ (if ((-1 : Int) == 0) = true then _ else _) _ _ s
  rw [if_neg (by decide)]
  refine wpAny_bind (slicePart_ pl (wpAny_bind (slicePart_ pu (wpAny_bind (wpAny_pure ?_)))))
  show wpAny _ _ (match Builtin.Slice.sliceAdjust none none (-1) (n : Int) with | (lo, hi) => pure (lo, (-1 : Int), Builtin.Slice.slicePlaces lo hi (-1))) _ _ s
  rw [rev_adjust n]
  show wpAny _ _ (pure ((n : Int) - 1, (-1 : Int), Builtin.Slice.slicePlaces ((n : Int) - 1) (-1) (-1))) _ _ s
  rw [rev_places]
  exact wpAny_pure h
theorem getItem_tuple_rev {t sl : Addr} {items : Array Value} {vl vu vs : Value} {Q : Value → Shared → Prop} (ht : IsTup s.heap t items) (hs : s.heap.IsSliceOf sl vl vu vs) (pl : IsPart vl none) (pu : IsPart vu none) (ps : IsPart vs (some (-1)))
    (h : Q (.ref s.heap.objs.size) { s with heap := s.heap.push { cls := .type "tuple", data := .seq items.toList.reverse.toArray } }) (hsz : items.size ≤ sizeLine) : wpAny (model prog w) A (getItem (.ref t) (.ref sl)) Q E s := by
  have htake : sizeOk (.seq items.toList.reverse.toArray) := by
    show items.toList.reverse.toArray.size ≤ sizeLine
    rw [List.size_toArray, List.length_reverse, Array.length_toList]
    omega
  obtain ⟨os, hos, hcs, hds⟩ := id hs
  have hTs : s.TypeIs (.ref sl) "slice" := ⟨os, hos, hcs⟩
  unfold getItem
  try with_reducible refine wpAny_holding ?_
  first | refine wpAny_bind (wpAny_pure ?_) | skip
  refine wpAny_bind (wpAny_sequenceKey ht.typeIs (by decide) ?_)
  refine wpAny_bind (wpAny_callSpecial?_slot (name := Str.ofString "__getitem__") ht.typeIs PyProof.Rows.slot_tuple_getitem
    (wpAny_call_entry PyProof.Rows.slot_tuple_getitem ht.typeIs entry_tuple_getitem ?_ (args_tuple_getitem _ _)))
  show wpAny _ _ (Builtin.Tuple.tupleItemsOf (.ref t) >>= _) _ _ s
  refine wpAny_bind (tupleItemsOf_ ht ?_)
  refine wpAny_bind (wpAny_typeOf hTs ?_)
  rw [if_pos (by decide)]
  refine wpAny_bind (sliceApplied_rev hs pl pu ps ?_)
  have hno : ¬ ((((items.size : Int) - 1) == 0 && (-1 : Int) == 1 && items.size == items.size) = true) := by
    intro q
    rw [Bool.and_eq_true, Bool.and_eq_true] at q
    exact absurd q.1.2 (by decide)
  show wpAny _ _ (if (((items.size : Int) - 1) == 0 && (-1 : Int) == 1 && items.size == items.size) = true then _ else _) _ _ s
  rw [if_neg hno, rev_pick]
  first
    | exact wpAny_bind (m := Builtin.Tuple.tupleExact _) (wpAny_newObj_type (wpAny_pure ⟨_, rfl, wpAny_pure h⟩) htake)
    | exact wpAny_bind (m := Builtin.Tuple.tupleExact _) (wpAny_newObj_type (wpAny_bind (wpAny_pure (wpAny_pure ⟨_, rfl, wpAny_pure h⟩))) htake)
    | exact wpAny_bind (wpAny_bind (m := Builtin.Tuple.tupleExact _) (wpAny_newObj_type (wpAny_pure (wpAny_pure ⟨_, rfl, wpAny_pure h⟩)) htake))
    | exact wpAny_bind (wpAny_bind (m := Builtin.Tuple.tupleExact _) (wpAny_newObj_type (wpAny_pure ⟨_, rfl, wpAny_pure h⟩) htake))
end
end HT
namespace Gk
open PySem PySem.W PySem.Spec PyProof.Rows L2
def tRevT (K : PySem.W.Frag) (te : TE) : TE := fun σ H Q => te σ H fun x H1 => ∃ a xs, x = .ref a ∧ SqT K H1 a xs ∧ ∀ p, H1 p = none → Q (.ref p) (upd H1 p (.tup xs.reverse))
theorem pe_revT {X : Cx} {e : Expr} {te : TE} {k : Nat} {p1 p2 p3 pos : Pos} (he : PE X e te) : PE X (.Subscript e (.Slice none none (some (.UnaryOp .USub (.Constant (.int 1) k p1) p2)) p3) pos) (tRevT X.K te) := by
  refine ⟨fun pins s σ H Q I h => ?_⟩
  refine Subscript_ (thn (he.run pins s σ H _ I h) fun v s1 ⟨x, H1, I1, r1, q1⟩ => ?_)
  obtain ⟨a, xs, ex, hx, q⟩ := q1
  subst ex
  cases r1
  have hst : PO X (some (.UnaryOp .USub (.Constant (.int 1) k p1) p2)) (tPart (tUn (rU fun i => .int (-i)) (tC (.int 1)))) := po_some (pe_un un_neg pe_int)
  refine wpAny_Slice (thn (po_none.run pins s1 σ H1 (fun o H2 => o = none ∧ H2 = H1) I1 ⟨rfl, rfl⟩) fun vl s2 ⟨l, H2, I2, pl, el, e2⟩ => ?_)
  subst el e2
  refine thn (po_none.run pins s2 σ H2 (fun o H3 => o = none ∧ H3 = H2) I2 ⟨rfl, rfl⟩) fun vu s3 ⟨u, H3, I3, pu, eu, e3⟩ => ?_
  subst eu e3
  refine thn (hst.run pins s3 σ H3 (fun o H4 => o = some (-1) ∧ H4 = H3) I3 ⟨1, rfl, -1, rfl, rfl, rfl⟩) fun vs s4 ⟨o, H4, I4, ps, eo, e4⟩ => ?_
  subst eo e4
  have I5 : Inv X pins σ H4 { s4 with heap := s4.heap.push { cls := .type "slice", data := .fields #[vl, vu, vs] } } := I4.kept (t' := s4.toks) fun b ob q => Heap.get?_push_of_some _ q
  obtain ⟨its, r, ht, hz⟩ := I5.tuple hx
  have hlen := r.length
  show wpAny (model X.prog X.w) X.A (subscriptTail e (.Slice none none (some (.UnaryOp .USub (.Constant (.int 1) k p1) p2)) p3) (.ref a) (.ref s4.heap.objs.size)) (EP X pins σ Q) X.xe { s4 with heap := s4.heap.push { cls := .type "slice", data := .fields #[vl, vu, vs] } }
  refine tail_any (ops := [.ref a, .ref s4.heap.objs.size]) ht.typeIs (PyProof.Rows.slot_tuple_getitem.lookup) ?_ (by with_unfolding_all rfl)
  refine HT.getItem_tuple_rev ht (Heap.IsSliceOf.new _ vl vu vs) pl pu ps ?_ (by rw [List.size_toArray]; omega)
  refine ⟨.ref _, _, I5.laid (t' := s4.toks) (o := .tup xs.reverse) (fun b ob q => Heap.get?_push_of_some _ q) (Nat.le_refl _) ?_, rfl, q _ (I5.hok.fresh (Nat.le_refl _))⟩
  exact ⟨by rw [List.length_reverse]; exact hz, _, r.reverse, IsTup.new _ _⟩
end Gk
/-! ### x == y and x != y by an own __eq__, either answer -/
namespace Gk
open PySem PySem.W PySem.Spec PyProof.Rows L2 NdefX
def rEqI (K : Frag) (C : Addr) (sp : Sp) (E : XK) : R2 := fun x y H Q => ∃ (a dx : Addr) (fs : List (Str × V)) (t : Value), x = .ref a ∧ H a = some (.ins C dx fs) ∧ TyX K H y t ∧ notFirst K C t = true ∧ sp [x, y] H (fun v H' => ∃ b, v = .bl b ∧ Q (.bl b) H') E
def rNeI (K : Frag) (C : Addr) (sp : Sp) (E : XK) : R2 := fun x y H Q => ∃ (a dx : Addr) (fs : List (Str × V)) (t : Value), x = .ref a ∧ H a = some (.ins C dx fs) ∧ TyX K H y t ∧ notFirst K C t = true ∧ sp [x, y] H (fun v H' => ∃ b, v = .bl b ∧ Q (.bl (!b)) H') E
section
variable {X : Cx} {CX : CXT} {C f : Addr} {fd : FuncData} {ps : List Str} {sp : Sp} {E : XK} {n : Nat}
/-- the call of the own def, somewhere in a rich comparison -/
theorem eqI_call (F : FnOk X.prog X.w X.K X.mg X.base CX n f fd ps sp) (hb : Binds X.K fd ps []) (hx : Passes CX X E) {A : Around} (hr : Room n A) (hfr : A.frames = X.A.frames)
    {pins : List (Addr × Obj)} {s : Shared} {σ : L2.St} {H : Hp} {a : Addr} {y : V} {u : Value} {Q : VK} (I : Inv X pins σ H s) (ry : RelV y u) (q : sp [.ref a, y] H Q E) :
    wpAny (model X.prog X.w) A (call (.ref f) [.ref a, u]) (EP X pins σ Q) X.xe s := by
  have e0 : Env0 X.prog X.w X.K X.mg X.base A X.stack s H := by
    have e := I.env0
    exact ⟨by rw [hfr]; exact e.frames, e.mod, e.bs, e.bsz, e.funs, e.frf, e.hok, e.bare⟩
  have hl := F.len _ _ _ _ q
  have r2 : Vals [V.ref a, y] [Value.ref a, u] := .cons rfl (.cons ry .nil)
  refine wpAny_call (codeAny_mono (F.run A X.stack s H ⟨[.ref a, u], []⟩ [.ref a, u] [.ref a, y] _ E hr e0 (by
    have := hb s [.ref a, u] I.kIn (by simpa using hl)
    simpa using this) r2 q) fun r s' hq => ?_)
  cases r with
  | error e => exact hx pins σ H s e s' I hq
  | ok fl =>
    cases fl with
    | ret w =>
      obtain ⟨z, H', I', rz, qz⟩ := I.after hq
      exact ⟨z, H', I', rz, qz⟩
    | next => exact False.elim hq
    | brk => exact False.elim hq
    | cont => exact False.elim hq
theorem op_eqI (F : FnOk X.prog X.w X.K X.mg X.base CX n f fd ps sp) (hr : Room n X.A) (hs : findIn X.K (.ref C) "__eq__" = some (some (.ref f))) (hf : isFn X.K (.ref f) = true) (hb : Binds X.K fd ps []) (hx : Passes CX X E) : OpR X (compareOp .Eq) (rEqI X.K C sp E) := by
  intro pins s σ H x y v u Q I rx ry h
  obtain ⟨a, dx, fs, t, rfl, ha, ty, hn, q⟩ := h
  obtain rfl : v = Value.ref a := rx
  obtain ⟨mA, J, _⟩ := ins_get I.hok ha
  obtain ⟨od, J, _⟩ := J.look
  obtain ⟨m, hF⟩ := I.fr
  obtain ⟨Pp, Z, p, _⟩ := kit_of I ry ty
  show wpAny (model X.prog X.w) X.A (richCompare .Eq (.ref a) u) (EP X pins σ Q) X.xe s
  refine PySem.W.cmp_K (op := .Eq) (tb := t) hr.units0 hF I.ok.mod.kin J (Z.ty _ _ I.kIn p) hn hs hf ?_
  refine wpAny_mono (eqI_call F hb hx hr rfl I ry q) (fun v s' z => ?_) fun _ _ x => x
  obtain ⟨z', H', I', rz, b, ez, qz⟩ := z
  subst ez
  obtain rfl : v = Value.bool b := rz
  exact ⟨.bl b, H', I', rfl, qz⟩
theorem bound_ne {M : Model} {A : Around} {Er : Value → Shared → Prop} {s : Shared} {K : Frag} {x C : Addr} {ox : Obj} {od : Option Obj} {args : List Value} {Q : Option Value → Shared → Prop} (X : K.In s.heap) (I : InstAt s.heap x ox C od)
    (hs : findIn K (.ref C) "__ne__" = some (some (.builtin "object.__ne__"))) (h : wpAny M A (call (.builtin "object.__ne__") (.ref x :: args)) (fun v => Q (some v)) Er s) : wpAny M A (callSpecialIfBound? (.ref x) "__ne__" args) Q Er s := by
  have S := PySem.F.cmp_object.ne
  simp only [callSpecialIfBound?, bindSpecialIfBound?]
  refine wpAny_holding (wpAny_bind (wpAny_bind (wpAny_bind (I.type.here ((looks_findIn X hs).here ?_)))))
  refine wpAny_bind (wpAny_askSetting (wpAny_ite ?_))
  have fin : wpAny M A (call (.builtin "object.__ne__") ([.ref x] ++ args) >>= fun v => pure (some v)) Q Er s := wpAny_bind (wpAny_mono h (fun v s' h' => wpAny_pure h') fun _ _ h' => h')
  have hB : bindSpecial (.builtin "object.__ne__") (.ref x) = pure (.builtin "object.__ne__", [.ref x]) := S.bind _
  split
  · exact wpAny_bind ((Looks.of_pure hB).here (wpAny_pure (by exact fin)))
  · exact wpAny_tryCatch (wpAny_bind ((Looks.of_pure hB).here (wpAny_pure (by exact fin))))
theorem op_neI (F : FnOk X.prog X.w X.K X.mg X.base CX n f fd ps sp) (hr : Room (n + 1) X.A) (hs : findIn X.K (.ref C) "__eq__" = some (some (.ref f))) (hn' : findIn X.K (.ref C) "__ne__" = some (some (.builtin "object.__ne__"))) (hm : mroIn X.K C (.type "object") = some true)
    (hf : isFn X.K (.ref f) = true) (hb : Binds X.K fd ps []) (hx : Passes CX X E) : OpR X (compareOp .NotEq) (rNeI X.K C sp E) := by
  intro pins s σ H x y v u Q I rx ry h
  obtain ⟨a, dx, fs, t, rfl, ha, ty, hn, q⟩ := h
  obtain rfl : v = Value.ref a := rx
  obtain ⟨mA, J, _⟩ := ins_get I.hok ha
  obtain ⟨od, J, _⟩ := J.look
  obtain ⟨Pp, Z, p, _⟩ := kit_of I ry ty
  have hu : X.A.units < cLine := (hr.mono (Nat.zero_le _)).units0
  have hr1 : Room n X.A.in1 := hr.in1
  have hu1 : X.A.in1.units < cLine := hr1.units0
  have hT : Looks (model X.prog X.w) s.heap (typeOf u) t := Z.ty _ _ I.kIn p
  -- object.__ne__ asks the own __eq__
  have two : wpAny (model X.prog X.w) X.A (call (.builtin "object.__ne__") [.ref a, u]) (EP X pins σ Q) X.xe s := by
    have sub : Looks (model X.prog X.w) s.heap (isInstance (.ref a) (.type "object")) true := J.type.andThen (looks_mroIn I.kIn hm)
    refine wpAny_call (codeAny_call_builtin PySem.F.cmp_object.ne.plain PySem.F.cmpEntry_ne (@check_slot (model X.prog X.w) _ _ s "object.__ne__" "object" "__ne__" (.ref a) [u] [] _ PySem.F.cmpKind_ne PySem.F.cmpSplit_ne sub (PySem.F.cmpArgs_ne (.ref a) u) ?_))
    have call1 : wpAny (model X.prog X.w) X.A.in1 (callSpecialIfBound? (.ref a) "__eq__" [u]) (fun r s' => ∃ b, r = some (.bool b) ∧ EP X pins σ Q (.bool (!b)) s') X.xe s := by
      refine PySem.W.ifBound_K I.kIn J hs hf (wpAny_mono (eqI_call F hb hx hr1 rfl I ry q) (fun v s' z => ?_) fun _ _ x => x)
      obtain ⟨z', H', I', rz, b, ez, qz⟩ := z
      subst ez
      obtain rfl : v = Value.bool b := rz
      exact ⟨b, rfl, .bl (!b), H', I', rfl, qz⟩
    show wpAny (model X.prog X.w) X.A.in1 (Builtin.«object.__ne__» ⟨[.ref a, u], []⟩) _ _ s
    unfold Builtin.«object.__ne__»
    repeat (first
      | with_reducible refine wpAny_cRoomFor hu1 ?_
      | (refine wpAny_bind (m := callSpecialIfBound? (.ref a) (Str.ofString "__eq__") [u]) (wpAny_mono call1 (fun r s' hr => by
          obtain ⟨b, rfl, hq⟩ := hr
          repeat (first | exact hq | exact wpAny_pure hq | exact wpAny_truthy_bool hq | (refine wpAny_bind (m := truthy (.bool _)) (wpAny_truthy_bool ?_)) | wp_step)) fun _ _ e => e))
      | wp_step)
  have one : wpAny (model X.prog X.w) X.A (tryCompare (.ref a) (cmpInfo .NotEq).2.1 u) (fun r s' => ∃ v, r = some v ∧ EP X pins σ Q v s') X.xe s := by
    unfold tryCompare
    refine wpAny_bind (bound_ne I.kIn J hn' (wpAny_mono two (fun v s' hv => ?_) fun _ _ e => e))
    have hv' := hv
    obtain ⟨z, H', I', rz, qz⟩ := hv'
    cases v <;> first | exact wpAny_pure ⟨_, rfl, hv⟩ | (exfalso; cases z <;> first | exact rz.elim | (obtain ⟨_, rz⟩ := rz; cases rz) | cases rz)
  show wpAny (model X.prog X.w) X.A (richCompare .NotEq (.ref a) u) (EP X pins σ Q) X.xe s
  unfold richCompare
  simp only [oneThing_ref]
  refine wpAny_holding (wpAny_bind (wpAny_cRoomFor hu ?_))
  refine wpAny_bind (J.type.here (wpAny_bind (hT.here ?_)))
  split
  · rename_i q
    have e : subIn X.K t (.ref C) = some false := by
      rcases Bool.or_eq_true_iff.mp hn with e | e
      · rw [beq_iff_eq.mp e] at q; simp at q
      · exact beq_iff_eq.mp e
    refine wpAny_bind ((looks_subIn I.kIn e).here ?_)
    simp only [Bool.false_eq_true, if_false]
    refine wpAny_bind (wpAny_mono one (fun r s' z => ?_) fun _ _ e => e)
    obtain ⟨v, rfl, hq⟩ := z
    exact wpAny_pure hq
  · refine wpAny_bind (wpAny_pure ?_)
    simp only [Bool.false_eq_true, if_false]
    refine wpAny_bind (wpAny_mono one (fun r s' z => ?_) fun _ _ e => e)
    obtain ⟨v, rfl, hq⟩ := z
    exact wpAny_pure hq
end
end Gk
/-! ### operators of own classes: x in y, len(x), x op y, x[y] -/
namespace Gk
open PySem PySem.W PySem.Spec PyProof.Rows L2 NdefX
section
variable {X : Cx} {CX : CXT} {C f : Addr} {fd : FuncData} {ps : List Str} {sp : Sp} {E : XK} {n : Nat}
/-- the call of an own def, somewhere below the running body -/
theorem own_call (F : FnOk X.prog X.w X.K X.mg X.base CX n f fd ps sp) (hb : Binds X.K fd ps []) (hx : Passes CX X E) {A : Around} (hr : Room n A) (hfr : A.frames = X.A.frames)
    {pins : List (Addr × Obj)} {s : Shared} {σ : L2.St} {H : Hp} {vs : List V} {us : List Value} {Q : VK} (I : Inv X pins σ H s) (r : Vals vs us) (q : sp vs H Q E) :
    wpAny (model X.prog X.w) A (call (.ref f) us) (EP X pins σ Q) X.xe s := by
  have e0 : Env0 X.prog X.w X.K X.mg X.base A X.stack s H := by
    have e := I.env0
    exact ⟨by rw [hfr]; exact e.frames, e.mod, e.bs, e.bsz, e.funs, e.frf, e.hok, e.bare⟩
  have hl := F.len _ _ _ _ q
  refine wpAny_call (codeAny_mono (F.run A X.stack s H ⟨us, []⟩ us vs _ E hr e0 (by
    have := hb s us I.kIn (by rw [List.append_nil, ← r.length]; exact hl)
    rwa [List.append_nil] at this) r q) fun r s' hq => ?_)
  cases r with
  | error e => exact hx pins σ H s e s' I hq
  | ok fl =>
    cases fl with
    | ret w =>
      obtain ⟨z, H', I', rz, qz⟩ := I.after hq
      exact ⟨z, H', I', rz, qz⟩
    | next => exact False.elim hq
    | brk => exact False.elim hq
    | cont => exact False.elim hq
def rInI (C : Addr) (sp : Sp) (E : XK) : R2 := fun x y H Q => ∃ (a dx : Addr) (fs : List (Str × V)), y = .ref a ∧ H a = some (.ins C dx fs) ∧ sp [y, x] H (fun v H' => ∃ b, v = .bl b ∧ Q (.bl b) H') E
def rNotInI (C : Addr) (sp : Sp) (E : XK) : R2 := fun x y H Q => ∃ (a dx : Addr) (fs : List (Str × V)), y = .ref a ∧ H a = some (.ins C dx fs) ∧ sp [y, x] H (fun v H' => ∃ b, v = .bl b ∧ Q (.bl (!b)) H') E
theorem op_inI (F : FnOk X.prog X.w X.K X.mg X.base CX n f fd ps sp) (hr : Room n X.A) (hs : findIn X.K (.ref C) "__contains__" = some (some (.ref f))) (hf : isFn X.K (.ref f) = true) (hb : Binds X.K fd ps []) (hx : Passes CX X E) : OpR X (compareOp .In) (rInI C sp E) := by
  intro pins s σ H x y v u Q I rx ry h
  obtain ⟨a, dx, fs, rfl, ha, q⟩ := h
  obtain rfl : u = Value.ref a := ry
  obtain ⟨mA, J, _⟩ := ins_get I.hok ha
  obtain ⟨od, J, _⟩ := J.look
  obtain ⟨m, hF⟩ := I.fr
  refine PySem.W.in_K hF I.ok.mod.kin J hs hf (wpAny_mono (own_call (vs := [.ref a, x]) F hb hx hr rfl I (.cons rfl (.cons rx .nil)) q) (fun v s' z => ?_) fun _ _ x => x)
  obtain ⟨z', H', I', rz, b, ez, qz⟩ := z
  subst ez
  obtain rfl : v = Value.bool b := rz
  exact wpAny_truthy_bool ⟨.bl b, H', I', rfl, qz⟩
theorem op_notInI (F : FnOk X.prog X.w X.K X.mg X.base CX n f fd ps sp) (hr : Room n X.A) (hs : findIn X.K (.ref C) "__contains__" = some (some (.ref f))) (hf : isFn X.K (.ref f) = true) (hb : Binds X.K fd ps []) (hx : Passes CX X E) : OpR X (compareOp .NotIn) (rNotInI C sp E) := by
  intro pins s σ H x y v u Q I rx ry h
  obtain ⟨a, dx, fs, rfl, ha, q⟩ := h
  obtain rfl : u = Value.ref a := ry
  obtain ⟨mA, J, _⟩ := ins_get I.hok ha
  obtain ⟨od, J, _⟩ := J.look
  obtain ⟨m, hF⟩ := I.fr
  refine PySem.W.notIn_K hF I.ok.mod.kin J hs hf (wpAny_mono (own_call (vs := [.ref a, x]) F hb hx hr rfl I (.cons rfl (.cons rx .nil)) q) (fun v s' z => ?_) fun _ _ x => x)
  obtain ⟨z', H', I', rz, b, ez, qz⟩ := z
  subst ez
  obtain rfl : v = Value.bool b := rz
  exact wpAny_truthy_bool ⟨.bl (!b), H', I', rfl, qz⟩
def rLenI (C : Addr) (sp : Sp) (E : XK) : List V → Hp → VK → Prop := fun xs H Q => ∃ (a dx : Addr) (fs : List (Str × V)), xs = [.ref a] ∧ H a = some (.ins C dx fs) ∧ sp [.ref a] H (fun v H' => ∃ k : Nat, v = .int k ∧ k ≤ 1000000 ∧ Q (.int k) H') E
theorem call_lenI (F : FnOk X.prog X.w X.K X.mg X.base CX n f fd ps sp) (hr : Room (n + 1) X.A) (hs : findIn X.K (.ref C) "__len__" = some (some (.ref f))) (hf : isFn X.K (.ref f) = true) (hb : Binds X.K fd ps []) (hx : Passes CX X E) : CallR X (.builtin "len") (rLenI C sp E) := by
  intro pins s σ H xs us Q I r h
  obtain ⟨a, dx, fs, rfl, ha, q⟩ := h
  obtain ⟨u, rfl, ru⟩ := r.one
  obtain rfl : u = Value.ref a := ru
  obtain ⟨mA, J, _⟩ := ins_get I.hok ha
  obtain ⟨od, J, _⟩ := J.look
  obtain ⟨m, hF⟩ := I.fr
  refine PySem.W.len_K hF I.ok.mod.kin J hs hf (wpAny_mono (own_call (vs := [.ref a]) F hb hx hr.in1 rfl I (.cons rfl .nil) q) (fun v s' z => ?_) fun _ _ x => x)
  obtain ⟨z', H', I', rz, b, ez, hb, qz⟩ := z
  subst ez
  obtain ⟨t, rfl⟩ := (show ∃ t, v = Value.int b t from rz)
  exact ⟨⟨by omega, by omega⟩, .int b, H', I'.tok _, ⟨_, rfl⟩, qz⟩
/-- x op y, both of the class at C, by its own def -/
def rBinI (C : Addr) (sp : Sp) (E : XK) : R2 := fun x y H Q => ∃ (a b dx dy : Addr) (fs gs : List (Str × V)), x = .ref a ∧ y = .ref b ∧ H a = some (.ins C dx fs) ∧ H b = some (.ins C dy gs) ∧ sp [x, y] H (fun v H' => ∃ c, v = .ref c ∧ Q v H') E
theorem op_binI {op : Operator} (F : FnOk X.prog X.w X.K X.mg X.base CX n f fd ps sp) (hr : Room n X.A) (hc : selfFirst X.K C = true) (hs : findIn X.K (.ref C) (PySem.dunder op.info.2) = some (some (.ref f))) (hf : isFn X.K (.ref f) = true) (hb : Binds X.K fd ps []) (hx : Passes CX X E) : OpR X (binaryOp op) (rBinI C sp E) := by
  intro pins s σ H x y v u Q I rx ry h
  obtain ⟨a, b, dx, dy, fs, gs, rfl, rfl, ha, hb', q⟩ := h
  obtain rfl : v = Value.ref a := rx
  obtain rfl : u = Value.ref b := ry
  obtain ⟨mA, J, _⟩ := ins_get I.hok ha
  obtain ⟨od, J, _⟩ := J.look
  obtain ⟨mB, J', _⟩ := ins_get I.hok hb'
  obtain ⟨od', J', _⟩ := J'.look
  obtain ⟨m, hF⟩ := I.fr
  refine PySem.W.binop_K hF I.ok.mod.kin J J'.type hc hs hf (wpAny_mono (own_call (vs := [.ref a, .ref b]) F hb hx hr rfl I (.cons rfl (.cons rfl .nil)) q) (fun v s' z => ?_) fun _ _ x => x)
  obtain ⟨z', H', I', rz, c, ez, qz⟩ := z
  subst ez
  obtain rfl : v = Value.ref c := rz
  exact ⟨.ref c, H', I', rfl, qz⟩
/-- x[y] by an own __getitem__ -/
def rSubI (C : Addr) (sp : Sp) (E : XK) : R2 := fun x y H Q => ∃ (a dx : Addr) (fs : List (Str × V)), x = .ref a ∧ H a = some (.ins C dx fs) ∧ sp [x, y] H Q E
theorem pe_subI {a b : Expr} {pos : Pos} {ta tb : TE} (F : FnOk X.prog X.w X.K X.mg X.base CX n f fd ps sp) (hr : Room (n + 1) X.A) (hs : findIn X.K (.ref C) "__getitem__" = some (some (.ref f))) (hf : isFn X.K (.ref f) = true) (hfn : fnIn X.K f = true) (hb : Binds X.K fd ps []) (hx : Passes CX X E)
    (ea : PE X a ta) (eb : PE X b tb) (hsl : ∀ v i, subscripted b true v i = runValue (.builtin "lifetime.subscript" ⟨[v, i], []⟩)) : PE X (.Subscript a b pos) (tOp (rSubI C sp E) ta tb) := by
  refine ⟨fun pins s σ H Q I h => ?_⟩
  refine Subscript_ (binT ea eb I h fun v u s2 x y H2 I2 rx ry q => ?_)
  obtain ⟨c, dx, fs, rfl, hc, q⟩ := q
  obtain rfl : v = Value.ref c := rx
  obtain ⟨mA, J, _⟩ := ins_get I2.hok hc
  obtain ⟨od, J, _⟩ := J.look
  obtain ⟨m, hF⟩ := I2.fr
  refine PySem.W.sub_K hF I2.ok.mod.kin J hs hfn hf (own_call (vs := [.ref c, y]) F hb hx hr.in1 rfl I2 (.cons rfl (.cons ry .nil)) q) (hsl _ _)
end
end Gk
/-! ### bool(a tuple), bool(an own object) -/
namespace GBT
open PySem PySem.Builtin PyProof.Rows
open PySem.Sem (wp)
section
variable {prog : Program} {w : World} {A : Around} {E : Value → Shared → Prop} {s : Shared}
theorem noBool_tuple : typeLookup (.type "tuple") "__bool__" = pure none := by rw [typeLookup_type, builtinLookup_eq_fast]; kernel_rfl
theorem len_body_tuple {t : Addr} {items : Array Value} {Q : Value → Shared → Prop} (ht : IsTup s.heap t items) (hfit : (items.size : Int) < 2 ^ 63)
    (h : Q (.int items.size (s.toks + 1)) { s with toks := s.toks + 1 + 1 }) : wpAny (model prog w) A (Builtin.«len» ⟨[.ref t], []⟩) (fun fin s' => ∃ r, fin = .done (.ret r) ∧ Q r s') E s := by
  unfold Builtin.«len»
  refine wpAny_bind (m := oneArg "len" _) (wpAny_pure ?_)
  refine wpAny_bind (m := callSpecial? (.ref t) (Str.ofString "__len__")) (wpAny_callSpecial?_slot (name := Str.ofString "__len__") ht.typeIs slot_tuple_len
    (wpAny_call_entry slot_tuple_len ht.typeIs entry_tuple_len ?_ (args_tuple_len _)))
  · show wpAny _ _ (do retInt (← Builtin.Tuple.tupleItemsOf (.ref t)).size) _ _ s
    refine wpAny_bind (tupleItemsOf_ ht ?_)
    refine wpAny_bind (wpAny_mkInt (wpAny_pure ⟨_, rfl, ?_⟩))
    refine wpAny_bind (wpAny_holding (wpAny_pure ?_))
    refine wpAny_bind (wpAny_letGo ?_)
    show wpAny _ _ (if ((items.size : Nat) : Int) < 0 then _ else _) _ _ _
    rw [if_neg (by omega)]
    show wpAny _ _ (if ((items.size : Nat) : Int) ≥ 2 ^ 63 then _ else _) _ _ _
    rw [if_neg (by omega)]
    exact wpAny_bind (wpAny_mkInt (wpAny_pure ⟨_, rfl, h⟩))
theorem truthy_tuple {t : Addr} {items : Array Value} {Q : Bool → Shared → Prop} (ht : IsTup s.heap t items) (hfit : (items.size : Int) < 2 ^ 63)
    (h : Q (!items.isEmpty) { s with toks := s.toks + 1 + 1 }) : wpAny (model prog w) A (truthy (.ref t)) Q E s := by
  have hT := ht.typeIs
  have hne : ((items.size : Int) != 0) = !items.isEmpty := by
    unfold Array.isEmpty
    rcases Nat.eq_zero_or_pos items.size with e | e
    · rw [e]; rfl
    · have h2 : items.size ≠ 0 := by omega
      have h1 : ((items.size : Int) != 0) = true := bne_iff_ne.mpr (by omega)
      rw [h1, decide_eq_false h2]; rfl
  have key : wpAny (model prog w) A (runValue (.builtin "len" ⟨[.ref t], []⟩)) (fun r s' => r = .int items.size (s.toks + 1) ∧ Q (!items.isEmpty) s') E s := by
    refine wpAny_runValue (codeAny_builtin entry_len ?_)
    rw [Around.under_plainId plain_len _]
    exact wpAny_mono (len_body_tuple (Q := fun r s' => r = .int items.size (s.toks + 1) ∧ Q (!items.isEmpty) s') ht hfit ⟨rfl, h⟩)
      (fun fin s' h' => by obtain ⟨r, rfl, hq⟩ := h'; exact hq) fun _ _ e => e
  unfold truthy
  first
    | refine wpAny_bind (wpAny_callSpecial?_none (name := Str.ofString "__bool__") hT noBool_tuple ?_)
    | refine wpAny_bind (wpAny_pure (wpAny_bind (wpAny_callSpecial?_none (name := Str.ofString "__bool__") hT noBool_tuple ?_)))
  first
    | refine wpAny_bind (wpAny_specialOf (name := Str.ofString "__len__") hT slot_tuple_len.lookup ?_)
    | refine wpAny_bind (wpAny_pure (wpAny_bind (wpAny_specialOf (name := Str.ofString "__len__") hT slot_tuple_len.lookup ?_)))
  first
    | exact wpAny_bind (wpAny_mono key (fun r s' h' => by obtain ⟨rfl, hq⟩ := h'; exact wpAny_pure (hne ▸ hq)) fun _ _ e => e)
    | exact wpAny_bind (wpAny_pure (wpAny_bind (wpAny_mono key (fun r s' h' => by obtain ⟨rfl, hq⟩ := h'; exact wpAny_pure (hne ▸ hq)) fun _ _ e => e)))
/-- bool(x): whatever x's truth asks -/
theorem meets_bool (x : Value) : MeetsIn prog w (Builtin.«bool.__new__» ⟨[.type "bool", x], []⟩) (fun A R s => wpAny (model prog w) A.in1 (truthy x) (fun b s' => R (.ok (.ret (.bool b))) s') (fun e s' => R (.error e) s') s) :=
  .of_wp fun A R s hs => by
    have f1 := F.conv_sub_bool
    obtain ⟨hp, g, d, tk, os⟩ := s
    unfold Builtin.«bool.__new__»
    repeat (any_goals (first
      | assumption
      | (refine wpAny_bind (m := truthy x) (wpAny_mono hs (fun b s' q => ?_) fun _ _ e => e))
      | wp_step))
    all_goals first | exact ⟨_, rfl, q⟩ | exact q | skip
theorem call_bool_any {x : Value} {Q : Value → Shared → Prop} (h : wpAny (model prog w) A.in1.in1 (truthy x) (fun b s' => s'.TypeIs (.bool b) "bool" → Q (.bool b) s') E s) : wpAny (model prog w) A (call (.type "bool") [x]) Q E s :=
  callType_newIn F.called_bool F.newNe_bool (F.typeCall_bool_1 x) (F.newCall_bool_1 x) (fun obj => F.args_object_init_2 obj x) F.entry_bool_new (meets_bool x)
    (wpAny_mono h (fun b s' q => ⟨rfl, q rfl⟩) fun _ _ e => e)
end
end GBT
namespace Gk
open PySem PySem.W PySem.Spec PyProof.Rows L2 NdefX
section
variable {X : Cx} {CX : CXT} {C f : Addr} {fd : FuncData} {ps : List Str} {sp : Sp} {E : XK} {n : Nat}
theorem call_boolT : CallR X (.type "bool") (fun xs H Q => ∃ (a : Addr) (zs : List V), xs = [.ref a] ∧ SqT X.K H a zs ∧ Q (.bl (!zs.isEmpty)) H) := by
  intro pins s σ H xs us Q I r h
  obtain ⟨a, zs, rfl, hq, q⟩ := h
  obtain rfl := Vals.ref1 r
  obtain ⟨its, rv, pl, hz⟩ := I.tuple hq
  have hl := line63
  have hlen := rv.length
  refine GBT.call_bool_any (GBT.truthy_tuple pl (by simp only [List.size_toArray]; omega) fun _ => ?_)
  exact ⟨.bl (!zs.isEmpty), H, I.tok _, by rw [isEmpty_of rv]; rfl, q⟩
/-- bool(x) by an own __bool__ -/
theorem call_boolI (F : FnOk X.prog X.w X.K X.mg X.base CX n f fd ps sp) (hr : Room (n + 2) X.A) (hs : findIn X.K (.ref C) "__bool__" = some (some (.ref f))) (hf : isFn X.K (.ref f) = true) (hb : Binds X.K fd ps []) (hx : Passes CX X E) :
    CallR X (.type "bool") (fun xs H Q => ∃ (a dx : Addr) (fs : List (Str × V)), xs = [.ref a] ∧ H a = some (.ins C dx fs) ∧ sp [.ref a] H (fun v H' => ∃ b, v = .bl b ∧ Q (.bl b) H') E) := by
  intro pins s σ H xs us Q I r h
  obtain ⟨a, dx, fs, rfl, ha, q⟩ := h
  obtain rfl := Vals.ref1 r
  obtain ⟨mA, J, _⟩ := ins_get I.hok ha
  obtain ⟨od, J, _⟩ := J.look
  obtain ⟨m, hF⟩ := I.fr
  have hr2 : Room n X.A.in1.in1 := (show Room (n + 1) X.A.in1 from Room.in1 hr).in1
  refine GBT.call_bool_any (PySem.W.truthy_K hF I.ok.mod.kin J hs hf (wpAny_mono (own_call (vs := [.ref a]) F hb hx hr2 rfl I (.cons rfl .nil) q) (fun v s' z => ?_) fun _ _ x => x))
  obtain ⟨z', H', I', rz, b, ez, qz⟩ := z
  subst ez
  obtain rfl : v = Value.bool b := rz
  exact fun _ => ⟨.bl b, H', I', rfl, qz⟩
end
end Gk
/-! ### the drawn model of an edition -/
namespace Gk
open PySem PySem.W PySem.Spec PyProof.Rows L2 NdefX
structure Row where
  name : Str
  al : List Str
  num : Int
def RowAt (H : Hp) (v : V) (x : Row) : Prop := ∃ t a, v = .ref t ∧ H t = some (.tup [.str x.name, .ref a, .int x.num]) ∧ H a = some (.tup (x.al.map V.str))
def RowsAt (H : Hp) (r : Addr) (rows : List Row) : Prop := ∃ vs, H r = some (.lst vs) ∧ Paired (RowAt H) vs rows
theorem RowAt.ref {H : Hp} {v : V} {x : Row} (h : RowAt H v x) : ∃ b, v = .ref b := by
  obtain ⟨t, a, rfl, _⟩ := h
  exact ⟨t, rfl⟩
theorem RowAt.on {p : Addr} {H H1 : Hp} {v : V} {x : Row} (h : RowAt H v x) (d : Drawn p H H1) : RowAt H1 v x := by
  obtain ⟨t, a, e, h1, h2⟩ := h
  exact ⟨t, a, e, d.tup h1, d.tup h2⟩
theorem RowAt.later {H H1 : Hp} {v : V} {x : Row} (h : RowAt H v x) (d : Same H H1) : RowAt H1 v x := by
  obtain ⟨t, a, e, h1, h2⟩ := h
  exact ⟨t, a, e, d _ _ h1, d _ _ h2⟩
theorem paired_refs {H : Hp} : ∀ {vs : List V} {rows : List Row}, Paired (RowAt H) vs rows → ∀ v ∈ vs, ∃ b, v = .ref b
  | _, _, .nil, v, h => by cases h
  | _, _, .cons r t, v, h => by
    rcases List.mem_cons.mp h with rfl | h
    · exact r.ref
    · exact paired_refs t v h
theorem paired_left {α β : Type} {F : α → β → Prop} : ∀ {xs : List α} {ys : List β} {i : Nat} {x : α}, Paired F xs ys → xs[i]? = some x → ∃ y, ys[i]? = some y ∧ F x y
  | _, _, _, _, .nil, h => by simp at h
  | _, _, 0, _, .cons r t, h => ⟨_, rfl, Option.some.inj h ▸ r⟩
  | _, _, i + 1, y, .cons r t, h => paired_left (i := i) t h
theorem paired_len {α β : Type} {F : α → β → Prop} : ∀ {xs : List α} {ys : List β}, Paired F xs ys → xs.length = ys.length
  | _, _, .nil => rfl
  | _, _, .cons r t => by rw [List.length_cons, List.length_cons, paired_len t]
theorem paired_more {α β : Type} {F : α → β → Prop} {x : α} {y : β} (h : F x y) : ∀ {xs : List α} {ys : List β}, Paired F xs ys → Paired F (xs ++ [x]) (ys ++ [y])
  | _, _, .nil => .cons h .nil
  | _, _, .cons r t => .cons r (paired_more h t)
theorem paired_map {α β : Type} {F G : α → β → Prop} (k : ∀ a b, F a b → G a b) : ∀ {xs : List α} {ys : List β}, Paired F xs ys → Paired G xs ys
  | _, _, .nil => .nil
  | _, _, .cons r t => .cons (k _ _ r) (paired_map k t)
theorem RowsAt.on {p r : Addr} {H H1 : Hp} {rows : List Row} (h : RowsAt H r rows) (d : Drawn p H H1) : RowsAt H1 r rows := by
  obtain ⟨vs, h1, h2⟩ := h
  exact ⟨vs, d.refs h1 (paired_refs h2), paired_map (fun v x z => z.on d) h2⟩
theorem RowsAt.later {r : Addr} {H H1 : Hp} {rows : List Row} (h : RowsAt H r rows) (d : Same H H1) : RowsAt H1 r rows := by
  obtain ⟨vs, h1, h2⟩ := h
  exact ⟨vs, d _ _ h1, paired_map (fun v x z => z.later d) h2⟩
/-- named sets, each with a list of its own -/
def SetKV (H : Hp) (kv : Key × V) (x : Str × List Str) : Prop := kv.1 = .inr x.1 ∧ ∃ l, kv.2 = .ref l ∧ H l = some (.lst (x.2.map V.str))
def SetsAt (H : Hp) (d : Addr) (sets : List (Str × List Str)) : Prop := ∃ kvs : List (Key × V), H d = some (.dK kvs) ∧ Paired (SetKV H) kvs sets
theorem SetKV.on {p : Addr} {H H1 : Hp} {kv : Key × V} {x : Str × List Str} (h : SetKV H kv x) (d : Drawn p H H1) : SetKV H1 kv x := by
  obtain ⟨e, l, e2, h1⟩ := h
  exact ⟨e, l, e2, d.strs h1⟩
theorem SetKV.later {H H1 : Hp} {kv : Key × V} {x : Str × List Str} (h : SetKV H kv x) (d : Same H H1) : SetKV H1 kv x := by
  obtain ⟨e, l, e2, h1⟩ := h
  exact ⟨e, l, e2, d _ _ h1⟩
theorem SetsAt.on {p r : Addr} {H H1 : Hp} {sets : List (Str × List Str)} (h : SetsAt H r sets) (d : Drawn p H H1) : SetsAt H1 r sets := by
  obtain ⟨vs, h1, h2⟩ := h
  exact ⟨vs, d.dic h1, paired_map (fun v x z => z.on d) h2⟩
theorem SetsAt.later {r : Addr} {H H1 : Hp} {sets : List (Str × List Str)} (h : SetsAt H r sets) (d : Same H H1) : SetsAt H1 r sets := by
  obtain ⟨vs, h1, h2⟩ := h
  exact ⟨vs, d _ _ h1, paired_map (fun v x z => z.later d) h2⟩
def setNames : List Str := ["s", "busy", "low"]
structure SetsOf (ns : List Str) (sets : List (Str × List Str)) : Prop where
  nd : (sets.map (·.1)).Nodup
  mem : ∀ x ∈ sets, x.1 ∈ setNames
  sub : ∀ x ∈ sets, x.2.Sublist ns
def poolL : List Str := ["a", "b", "c", "d", "low", "mid", "high", "top", "red", "blue", "first", "all", "x", "zzzzzzzz"]
def spPool : Sp := fun vs H Q _ => ∃ (p : Addr) (r m : Int), vs = [.ref p] ∧ H p = some (srcO r m) ∧ SrcOk m ∧ ∀ (H' : Hp) (q : Addr) (xs : List Str), Drawn p H H' → H q = none → q ≠ p → H' q = some (.lst (xs.map V.str)) → xs.Perm poolL → Q (.ref q) H'
def txtOf : Key → Str
  | .inr x => x
  | .inl _ => ""
theorem perm_strs {js : List Key} {xs : List Str} (h : js.Perm (xs.map Sum.inr)) : ∃ ys : List Str, js.map kV = ys.map V.str ∧ js = ys.map Sum.inr ∧ ys.Perm xs := by
  have all : ∀ k ∈ js, ∃ x, k = Sum.inr x := fun k hk => by
    obtain ⟨x, _, e⟩ := List.mem_map.mp (h.mem_iff.mp hk)
    exact ⟨x, e.symm⟩
  have back : ∀ l : List Key, (∀ k ∈ l, ∃ x, k = Sum.inr x) → ∃ ys : List Str, l = ys.map Sum.inr := by
    intro l
    induction l with
    | nil => exact fun _ => ⟨[], rfl⟩
    | cons k l ih =>
      intro a
      obtain ⟨x, rfl⟩ := a k List.mem_cons_self
      obtain ⟨ys, rfl⟩ := ih fun k z => a k (List.mem_cons_of_mem _ z)
      exact ⟨x :: ys, rfl⟩
  obtain ⟨ys, rfl⟩ := back js all
  refine ⟨ys, by rw [List.map_map]; rfl, rfl, ?_⟩
  have g := h.map txtOf
  rw [List.map_map, List.map_map] at g
  have i1 : ∀ l : List Str, l.map (txtOf ∘ Sum.inr) = l := fun l => by
    induction l with
    | nil => rfl
    | cons x l ih => rw [List.map_cons, ih]; rfl
  rwa [i1, i1] at g
def spSets (K : Frag) : Sp := fun vs H Q _ => ∃ (p rw : Addr) (r m : Int) (rows : List Row), vs = [.ref p, .ref rw] ∧ H p = some (srcO r m) ∧ SrcOk m ∧ RowsAt H rw rows ∧ rows.length ≤ 100 ∧
  ∀ (H' : Hp) (d : Addr) (sets : List (Str × List Str)), Drawn p H H' → H d = none → d ≠ p → SetsAt H' d sets → SetsOf (rows.map (·.name)) sets → Q (.ref d) H'
section
variable {P : Program} {w : World} {K : Frag} {mg : Str → Option Value} {base : Heap}
theorem pool_keys : poolL.map V.str = (poolL.map Sum.inr).map kV := rfl
end
end Gk
/-! ### == of two dicts by their data, either answer -/
namespace Gk
open PySem PySem.Spec PyProof.Rows L2
def DKV (K : PySem.W.Frag) (H : Hp) (kv : Key × V) (e : Key × PyData) : Prop := kv.1 = e.1 ∧ Dp K H kv.2 e.2 ∧ SeqAt.shaped e.2 = true
def lookD (db : List (Key × PyData)) (k : Key) : Option PyData := (db.find? fun e => decide (e.1 = k)).map (·.2)
def hitsD (db : List (Key × PyData)) : List (Key × PyData) → Bool
  | [] => true
  | (k, d) :: r => match lookD db k with
    | none => false
    | some e => PyData.eqv d e && hitsD db r
def eqDD (da db : List (Key × PyData)) : Bool := decide (da.length = db.length) && hitsD db da
theorem lookD_of {K : PySem.W.Frag} {H : Hp} {k : Key} : ∀ {ls : List (Key × V)} {db : List (Key × PyData)}, Paired (DKV K H) ls db → (valV ls k = none ∧ lookD db k = none) ∨ ∃ v d, valV ls k = some v ∧ lookD db k = some d ∧ Dp K H v d ∧ SeqAt.shaped d = true
  | _, _, .nil => .inl ⟨rfl, rfl⟩
  | p :: ls, e :: db, .cons h t => by
    obtain ⟨h1, h2, h3⟩ := h
    by_cases hk : p.1 = k
    · refine .inr ⟨p.2, e.2, valV_pos hk, ?_, h2, h3⟩
      unfold lookD
      rw [List.find?_cons, decide_eq_true (h1 ▸ hk)]
      rfl
    · have hk2 : ¬ e.1 = k := h1 ▸ hk
      rw [valV_neg hk]
      have := lookD_of (k := k) t
      unfold lookD at this ⊢
      rw [List.find?_cons, decide_eq_false hk2]
      exact this
def rEqDD (K : PySem.W.Frag) : R2 := fun x y H Q => ∃ a b ks ls da db, x = .ref a ∧ y = .ref b ∧ H a = some (.dK ks) ∧ H b = some (.dK ls) ∧ Paired (DKV K H) ks da ∧ Paired (DKV K H) ls db ∧ Q (.bl (eqDD da db)) H
theorem op_eqDD {X : Cx} (hu : X.A.units + 66 < cLine) : OpR X (compareOp .Eq) (rEqDD X.K) := by
  intro pins s σ H x y v u Q I rx ry h
  obtain ⟨a, b, ks, ls, da, db, rfl, rfl, ea, eb, pa, pb, q⟩ := h
  obtain rfl : v = Value.ref a := rx
  obtain rfl : u = Value.ref b := ry
  obtain ⟨_, ya, va, ra, ia⟩ := (show ObjOk X.prog X.w H s.heap a (.dK ks) from I.hok a _ ea)
  obtain ⟨_, yb, vb, rb, ib⟩ := (show ObjOk X.prog X.w H s.heap b (.dK ls) from I.hok b _ eb)
  have hits : ∀ {ks' : List (Key × V)} {va' : List (Key × Value)} {da' : List (Key × PyData)}, KV ks' va' → Paired (DKV X.K H) ks' da' → PySem.W.KeqHits X.A.in1 s vb va' (hitsD db da') := by
    intro ks' va' da' r
    unfold KV at r
    induction r generalizing da' with
    | nil =>
      intro p
      cases p
      exact .nil
    | @cons p q ps qs h t ih =>
      intro pd
      cases pd with
      | @cons _ e _ es hd td =>
        obtain ⟨k, w⟩ := q
        obtain ⟨h1, h2⟩ := h
        obtain ⟨k', d⟩ := e
        obtain ⟨e1, e2, e3⟩ := hd
        obtain rfl : k' = k := e1.symm.trans h1
        have rv := rb.val k'
        rcases lookD_of (k := k') pb with ⟨n1, n2⟩ | ⟨v2, d2, n1, n2, n3, n4⟩
        · rw [n1] at rv
          have hn : valueAt vb k' = none := by
            cases z : valueAt vb k' with
            | none => rfl
            | some y => rw [z] at rv; exact rv.elim
          show PySem.W.KeqHits X.A.in1 s vb ((k', w) :: qs) (match lookD db k' with | none => false | some e => PyData.eqv d e && hitsD db es)
          rw [n2]
          exact .miss hn
        · rw [n1] at rv
          obtain ⟨y, hy, ry⟩ := rv.some_of
          show PySem.W.KeqHits X.A.in1 s vb ((k', w) :: qs) (match lookD db k' with | none => false | some e => PyData.eqv d e && hitsD db es)
          rw [n2]
          obtain ⟨as, r1⟩ := Dp.reads I d p.2 w e2 h2
          obtain ⟨bs, r2⟩ := Dp.reads I d2 v2 y n3 ry
          have dp : d.depth ≤ 64 := SeqAt.depth_of_shaped e3
          exact .hit hy (SeqAt.eqAt_reads d d2 X.A.in1 s w y as bs r1 r2 (SeqAt.canLay_of_shaped e3) (SeqAt.canLay_of_shaped n4) (by show X.A.units + 1 + min d.depth d2.depth < cLine; omega)) (ih td)
  have hl : va.length = da.length := by rw [← ra.length]; exact paired_len pa
  have hm : vb.length = db.length := by rw [← rb.length]; exact paired_len pb
  refine PySem.W.keq_eq (knd := mixKind X.prog X.w) (r := hitsD db da) ya yb ia ib (by omega) (fun _ => hits ra pa) (fin_bl I q ?_)
  unfold eqDD
  rw [hl, hm]
  by_cases e : da.length = db.length
  · rw [decide_eq_true e, beq_iff_eq.mpr e]
  · rw [decide_eq_false e, beq_eq_false_iff_ne.mpr e]
end Gk
/-! ### the drawn rows -/
namespace Gk
open PySem PySem.W PySem.Spec PyProof.Rows L2 NdefX
def numL : List Int := [0, 1, 2, 3, 5, 8, 9, -1, 1000000000, -1000000000, 77]
def wordsOf (rows : List Row) : List Str := rows.flatMap fun r => r.name :: r.al
/-- what stands of a drawn model -/
structure ModelOk (rows : List Row) (sets : List (Str × List Str)) : Prop where
  nd : (wordsOf rows).Nodup
  mem : ∀ x ∈ wordsOf rows, x ∈ poolL
  nums : (rows.map (·.num)).Nodup
  numm : ∀ x ∈ rows.map (·.num), x ∈ numL
  few : ∀ r ∈ rows, r.al.length ≤ 2
  sets : SetsOf (rows.map (·.name)) sets
def spModel : Sp := fun vs H Q _ => ∃ (p : Addr) (r m many : Int), vs = [.ref p, .int many] ∧ H p = some (srcO r m) ∧ SrcOk m ∧ 1 ≤ many ∧ many ≤ 6 ∧
  ∀ (H' : Hp) (a rw d : Addr) (rows : List Row) (sets : List (Str × List Str)), Drawn p H H' → H a = none → a ≠ p → H rw = none → rw ≠ p → H d = none → d ≠ p → H' a = some (.tup [.ref rw, .ref d]) → RowsAt H' rw rows → SetsAt H' d sets → ModelOk rows sets → rows.length = many.toNat → Q (.ref a) H'
theorem RowAt.put {H : Hp} {q : Addr} {v : V} {x : Row} {xs ys : List V} (h : RowAt H v x) (hq : H q = some (.lst xs)) : RowAt (upd H q (.lst ys)) v x := by
  obtain ⟨t, a, e, h1, h2⟩ := h
  exact ⟨t, a, e, by rw [upd_ne (ne_of h1 hq fun z => by cases z)]; exact h1, by rw [upd_ne (ne_of h2 hq fun z => by cases z)]; exact h2⟩
theorem RowsAt.put {H : Hp} {q r : Addr} {rows : List Row} {xs ys : List V} (h : RowsAt H r rows) (hq : H q = some (.lst xs)) (n : r ≠ q) : RowsAt (upd H q (.lst ys)) r rows := by
  obtain ⟨vs, h1, h2⟩ := h
  exact ⟨vs, by rw [upd_ne n]; exact h1, paired_map (fun _ _ z => RowAt.put z hq) h2⟩
theorem RowsAt.more {H : Hp} {r : Addr} {rows : List Row} {v : V} {x : Row} (h : RowsAt H r rows) (hx : RowAt H v x) : ∃ vs, H r = some (.lst vs) ∧ vs.length = rows.length ∧ RowsAt (upd H r (.lst (vs ++ [v]))) r (rows ++ [x]) := by
  obtain ⟨vs, h1, h2⟩ := h
  exact ⟨vs, h1, paired_len h2, _, upd_same, paired_more (hx.put h1) (paired_map (fun _ _ z => RowAt.put z h1) h2)⟩
theorem last_of {α : Type} {xs : List α} (h : 0 < xs.length) : ∃ y, xs[xs.length - 1]? = some y ∧ xs.dropLast ++ [y] = xs := by
  have hne : xs ≠ [] := fun e => by rw [e] at h; exact absurd h (Nat.lt_irrefl 0)
  refine ⟨xs.getLast hne, ?_, List.dropLast_concat_getLast hne⟩
  rw [List.getLast_eq_getElem hne, List.getElem?_eq_getElem]
/-- the last of a list of texts -/
theorem pop_strs {H : Hp} {l : Addr} {xs : List Str} {Q : VK} (h : H l = some (.lst (xs.map V.str))) (z : 0 < xs.length) (q : ∀ y, xs.dropLast ++ [y] = xs → Q (.str y) (upd H l (.lst (xs.dropLast.map V.str)))) : rPop (.ref l) [] H Q := by
  obtain ⟨y, h1, h2⟩ := last_of z
  refine ⟨l, _, .str y, rfl, rfl, h, by rw [List.length_map, List.getElem?_map, h1]; rfl, ?_⟩
  rw [← List.map_dropLast]
  exact q y h2
section
variable {P : Program} {w : World} {K : Frag} {mg : Str → Option Value} {base : Heap}
def Far (p l : Addr) (H H' : Hp) : Prop := ∀ b u, b ≠ p → b ≠ l → H b = some u → H' b = some u
theorem Far.refl {p l : Addr} {H : Hp} : Far p l H H := fun _ _ _ _ e => e
theorem Far.trans {p l : Addr} {H H1 H2 : Hp} (a : Far p l H H1) (b : Far p l H1 H2) : Far p l H H2 := fun c u n m e => b c u n m (a c u n m e)
theorem Far.draw {p l : Addr} {H H1 : Hp} {o : HO} (a : Far p l H H1) : Far p l H (upd H1 p o) := fun c u n m e => by rw [upd_ne n]; exact a c u n m e
theorem Far.put {p l : Addr} {H H1 : Hp} {o : HO} (a : Far p l H H1) : Far p l H (upd H1 l o) := fun c u n m e => by rw [upd_ne m]; exact a c u n m e
theorem Far.new {p l q : Addr} {H H1 : Hp} {o : HO} (a : Far p l H H1) (h : H1 q = none) : Far p l H (upd H1 q o) := fun c u n m e => by
  have z := a c u n m e
  rw [upd_ne (ne_of_none z h)]
  exact z
theorem Far.mut {p l q : Addr} {H H1 : Hp} {o : HO} (a : Far p l H H1) (h : H q = none) : Far p l H (upd H1 q o) := fun c u n m e => by
  rw [upd_ne (ne_of_none e h)]
  exact a c u n m e
theorem Far.other {p l a : Addr} {H H1 : Hp} {o : HO} (f : Far p l H H1) {r m : Int} {xs : List V} (hp : H p = some (srcO r m)) (hl : H l = some (.lst xs)) (h : H a = some o) (n : ∀ ys, o ≠ .lst ys) : H1 a = some o :=
  f a o (ne_of h hp (n _)) (ne_of h hl (n _)) h
theorem RowsAt.far {H H1 : Hp} {p l r : Addr} {rows : List Row} {x m : Int} {xs : List V} (h : RowsAt H r rows) (f : Far p l H H1) (hp : H p = some (srcO x m)) (hl : H l = some (.lst xs)) (n1 : r ≠ p) (n2 : r ≠ l) : RowsAt H1 r rows := by
  obtain ⟨vs, h1, h2⟩ := h
  refine ⟨vs, f _ _ n1 n2 h1, paired_map (fun v y z => ?_) h2⟩
  obtain ⟨t, a, e, g1, g2⟩ := z
  exact ⟨t, a, e, f.other hp hl g1 fun ys z => (by cases z), f.other hp hl g2 fun ys z => by cases z⟩
end
end Gk
/-! ### growlists.checks -/
namespace Gk
open PySem PySem.W PySem.Spec PyProof.Rows L2 NdefX
abbrev sIsName : Stmt := (top 4)
abbrev sIsInt : Stmt := (top 5)
/-- any value, its type's name -/
inductive AnyV (K : Frag) (H : Hp) : V → String → Prop
  | non : AnyV K H .non "NoneType"
  | bl (b : Bool) : AnyV K H (.bl b) "bool"
  | int (i : Int) : AnyV K H (.int i) "int"
  | str (x : Str) : x.length ≤ sizeLine → AnyV K H (.str x) "str"
  | lst (a : Addr) (xs : List V) : SqL K H a xs → AnyV K H (.ref a) "list"
  | tup (a : Addr) (xs : List V) : SqT K H a xs → AnyV K H (.ref a) "tuple"
  | dic (a : Addr) (kvs : List (Key × V)) : H a = some (.dK kvs) → AnyV K H (.ref a) "dict"
theorem AnyV.ty {K : Frag} {H : Hp} {v : V} {T : String} (h : AnyV K H v T) : TyX K H v (.type T) := by
  cases h with
  | non => exact .base .non
  | bl b => exact .base (.bl b)
  | int i => exact .base (.int i)
  | str x _ => exact .base (.str x)
  | lst a xs h =>
    rcases h with (h | ⟨u, h⟩) | ⟨o, its, n, h, hc, _⟩
    · exact .base (.lst h)
    · exact .base (.frz h)
    · exact .kList h hc
  | tup a xs h =>
    rcases h with (h | ⟨u, h⟩) | ⟨o, its, n, h, hc, _⟩
    · exact .base (.tup h)
    · exact .fTuple h
    · exact .kTuple h hc
  | dic a kvs h => exact .base (.dK h)
theorem AnyV.later {K : Frag} {H H' : Hp} {v : V} {T : String} (h : AnyV K H v T) (s : Same H H') : AnyV K H' v T := by
  cases h with
  | non => exact .non
  | bl b => exact .bl b
  | int i => exact .int i
  | str x z => exact .str x z
  | lst a xs h => exact .lst a xs (s.seq h)
  | tup a xs h =>
    refine .tup a xs ?_
    rcases h with (h | ⟨u, h⟩) | h
    · exact .inl (.inl (s _ _ h))
    · exact .inl (.inr ⟨u, s _ _ h⟩)
    · exact .inr h
  | dic a kvs h => exact .dic a kvs (s _ _ h)
/-- isinstance(v, T) -/
theorem AnyV.isi {K : Frag} {H : Hp} {v : V} {T S : String} {b : Bool} {Q : VK} (h : AnyV K H v T) (e : kitB T S = some b) (q : Q (.bl b) H) : rIsi K [v, .ty S] H Q := ⟨_, _, _, _, b, rfl, .ty S, h.ty, kit_ty e, q⟩
def letters : Str := "abcdefghijklmnopqrstuvwxyz"
def letterB (c : Nat) : Bool := !(Builtin.Str.occurrences letters ⟨#[c]⟩ 0 letters.length 1).isEmpty
def nameB (x : Str) : Bool := decide ((1 : Int) ≤ (x.length : Int)) && (decide ((x.length : Int) ≤ 8) && x.cps.toList.all letterB)
def isNameV : V → Bool
  | .str x => nameB x
  | _ => false
def isIntV : V → Bool
  | .int _ => true
  | _ => false
def spIsName (K : Frag) : Sp := fun vs H Q _ => ∃ (v : V) (T : String), vs = [v] ∧ AnyV K H v T ∧ ∀ H', Same H H' → Q (.bl (isNameV v)) H'
def spIsInt (K : Frag) : Sp := fun vs H Q _ => ∃ (v : V) (T : String), vs = [v] ∧ AnyV K H v T ∧ Q (.bl (isIntV v)) H
theorem boot_isi' : bootBuiltins "isinstance" = some (.builtin "isinstance") := by decide +kernel
theorem boot_str' : bootBuiltins "str" = some (.type "str") := by decide +kernel
theorem boot_int' : bootBuiltins "int" = some (.type "int") := by decide +kernel
theorem boot_bool' : bootBuiltins "bool" = some (.type "bool") := by decide +kernel
theorem boot_all' : bootBuiltins "all" = some (.builtin "all") := by decide +kernel
theorem AnyV.str_or {K : Frag} {H : Hp} {v : V} {T : String} (h : AnyV K H v T) : (∃ x, v = .str x ∧ x.length ≤ sizeLine ∧ T = "str") ∨ (kitB T "str" = some false ∧ isNameV v = false) := by
  cases h with
  | str x z => exact .inl ⟨x, rfl, z, rfl⟩
  | _ => exact .inr ⟨by decide +kernel, rfl⟩
theorem AnyV.int_or {K : Frag} {H : Hp} {v : V} {T : String} (h : AnyV K H v T) : ∃ b c, kitB T "int" = some b ∧ kitB T "bool" = some c ∧ isIntV v = (b && !c) := by
  cases h with
  | bl b => exact ⟨true, true, by decide +kernel, by decide +kernel, rfl⟩
  | int i => exact ⟨true, false, by decide +kernel, by decide +kernel, rfl⟩
  | _ => exact ⟨false, false, by decide +kernel, by decide +kernel, rfl⟩
section
variable {P : Program} {w : World} {K : Frag} {mg : Str → Option Value} {base : Heap}
theorem rd_yes {σ : L2.St} {H : Hp} {A B : Hp → Prop} (h : A H) : tYes σ H (fun b H3 => if b = true then A H3 else B H3) := h
theorem scIsName : FnScope ["value", "sign"] ["value"] (defScope sIsName) := ⟨rfl, rfl, rfl, by decide +kernel, rfl, by decide +kernel, by decide +kernel⟩
theorem ok_isname {f : Addr} {fd : FuncData} (F : Fun K "is_name" "is_name" sIsName f fd) (ti : mg "isinstance" = none) (ts : mg "str" = none) (tl : mg "len" = none) (ta : mg "all" = none) {t1 t2 : Tok} (gL : mg "LETTERS" = some (.str letters t1)) (gN : mg "LONGEST_NAME" = some (.int 8 t2)) :
    FnOk P w K mg base CX0 1 f fd ["value"] (spIsName K) := by
  refine F.ok scIsName (fun vs H Q E h => ?_) (fun cdv A outer s H vs Q E hr h => ?_)
  · obtain ⟨v, T, rfl, _⟩ := h
    rfl
  · obtain ⟨v, T, rfl, hv, k⟩ := h
    have nd := scIsName.nd
    refine ⟨_, pss_cons (ps_if (PW.pt (pw_or (pt_not (pt_val (pe_callB call_isi (by rfl) ti boot_isi' (pa_cons (pv 0) (pa_cons (pe_bltn (v := .ty "str") (by rfl) ts boot_str' rfl) pa_nil)))))
        (pw_or1 (pt_not (pt_chain op_le op_le pe_int (pe_callB call_len_str (by rfl) tl PySem.boot_len (pa_cons (pv 0) pa_nil)) (pe_glob (v := .int 8) (by rfl) gN ⟨_, rfl⟩)))))) (pss_one (ps_ret pe_bl)) pss_nil)
      (pss_one (ps_ret (pe_callB (cr_all rfl) (by rfl) ta boot_all' (pa_cons (pe_lc (own := [("sign", 1)]) (te := tOp (fun x y H Q => ∃ i j, x = .str i ∧ y = .str j ∧ Q (.bl (!(Builtin.Str.occurrences j i 0 j.length 1).isEmpty)) H) (tVar 1) (tC (.str letters))) (g := gName 1) (tt := tYes) rfl nd (pi_str (pv 0)) (blkOk_by (N := ["value", "sign"]) (sc := defScope sIsName) (by decide +kernel))
        (fun _ _ _ _ _ => pg_name (i := 1) nd rfl (Or.inl rfl)) (fun _ _ _ _ _ => pts_nil) (fun _ _ _ _ _ => by exact (pe_cmpR op_in_str (pv 1) (pe_glob (v := .str letters) (by rfl) gL ⟨_, rfl⟩) (by rfl)))) pa_nil)))), ?_⟩
    walk_at "rd"
    rcases hv.str_or with ⟨x, rfl, hz, rfl⟩ | ⟨e, en⟩
    · refine hv.isi (b := true) (by decide +kernel) ⟨_, rfl, ?_⟩
      simp only [Bool.not_true, Bool.false_eq_true, if_false]
      refine rd_not (rd_test (rd_c (rd_cb (rd_cons (rd_var rfl (rd_nil ⟨x, rfl, hz, _, _, rfl, rfl, _, rfl, ?_⟩))))))
      have no : ∀ y, nameB x = y → y = false → Q (.bl false) H := fun y e1 e2 => by
        have := k H (Same.refl H)
        rw [show isNameV (.str x) = y from e1, e2] at this
        exact this
      refine ite2 (fun h1 => ?_) (fun h1 => ⟨false, rfl, no _ rfl (by unfold nameB; rw [Bool.eq_false_iff.mpr h1]; rfl)⟩)
      refine ⟨_, _, rfl, rfl, _, rfl, ?_⟩
      by_cases h2 : decide ((x.length : Int) ≤ 8) = true
      · rw [h2]
        simp only [Bool.not_true, Bool.false_eq_true, if_false]
        walk_at "rd"
        refine ⟨_, rfl, x, rfl, fun D hD => ?_⟩
        refine lc_it walk_str (fun i H' => Same H H' ∧ H' D = some (.lst (((x.cps.toList.take i).map letterB).map V.bl))) ⟨(Same.refl H).new hD, upd_same⟩ (fun _ _ _ _ => trivial) ?_ ?_
        · rintro i y H1 H2 hi ⟨s1, c1⟩ ⟨rfl, c, hc, rfl⟩
          refine rd_gn ⟨rfl, rd_yes ?_⟩
          refine rd_op (rd_var rfl (rd_c ⟨_, _, rfl, rfl, _, c1, ?_, s1.mut hD, ?_⟩))
          · rw [List.length_map, List.length_map]
            have h8 : (x.cps.size : Int) ≤ 8 := of_decide_eq_true h2
            have h9 : i < x.cps.size := hi
            rw [List.length_take, Array.length_toList]
            exact Nat.lt_of_le_of_lt (show min i x.cps.size ≤ 8 by omega) (by decide)
          · have e1 : x.cps.toList.take (i + 1) = x.cps.toList.take i ++ [c] := by
              have e0 : x.cps.toList[i]? = some c := by rw [Array.getElem?_toList]; exact hc
              rw [List.take_add_one, e0]
              rfl
            rw [upd_same, e1, List.map_append, List.map_append]
            rfl
        · rintro H1 ⟨s1, c1⟩
          have e1 : x.cps.toList.take x.cps.size = x.cps.toList := by rw [← Array.length_toList, List.take_length]
          rw [e1] at c1
          refine rd_nil ⟨D, _, rfl, SqL.of c1, ?_⟩
          have := k H1 s1
          have e2 : isNameV (.str x) = ((x.cps.toList.map letterB).all id) := by
            show nameB x = _
            unfold nameB
            rw [h1, h2, List.all_map]
            rfl
          rw [e2] at this
          exact this
      · have h2' := Bool.eq_false_iff.mpr h2
        rw [h2']
        simp only [Bool.not_false, if_true]
        exact no _ rfl (by unfold nameB; rw [h1, h2']; rfl)
    · refine hv.isi e ⟨_, rfl, ?_⟩
      simp only [Bool.not_false, if_true]
      refine rd_ret (rd_c ?_)
      have := k H (Same.refl H)
      rw [en] at this
      exact this
theorem scIsInt : FnScope ["value"] ["value"] (defScope sIsInt) := ⟨rfl, rfl, rfl, by decide +kernel, rfl, by decide +kernel, by decide +kernel⟩
theorem ok_isint {f : Addr} {fd : FuncData} (F : Fun K "is_integer" "is_integer" sIsInt f fd) (ti : mg "isinstance" = none) (ts : mg "int" = none) (tl : mg "bool" = none) : FnOk P w K mg base CX0 1 f fd ["value"] (spIsInt K) := by
  refine F.ok scIsInt (fun vs H Q E h => ?_) (fun cdv A outer s H vs Q E hr h => ?_)
  · obtain ⟨v, T, rfl, _⟩ := h
    rfl
  · obtain ⟨v, T, rfl, hv, k⟩ := h
    refine ⟨_, pss_one (ps_ret (pe_and (pe_callB call_isi (by rfl) ti boot_isi' (pa_cons (pv 0) (pa_cons (pe_bltn (v := .ty "int") (by rfl) ts boot_int' rfl) pa_nil))) (pe_one (pe_not (pe_callB call_isi (by rfl) ti boot_isi' (pa_cons (pv 0) (pa_cons (pe_bltn (v := .ty "bool") (by rfl) tl boot_bool' rfl) pa_nil))))))), ?_⟩
    obtain ⟨b, c, e1, e2, e3⟩ := hv.int_or
    rw [e3] at k
    refine rd_ret (rd_cb (rd_cons (rd_var rfl (rd_cons (rd_c (rd_nil (hv.isi e1 ⟨b, rfl, ?_⟩)))))))
    cases b with
    | false => exact k
    | true => exact rd_cb (rd_cons (rd_var rfl (rd_cons (rd_c (rd_nil (hv.isi e2 ⟨c, rfl, k⟩))))))
end
end Gk
/-! ### _is_entry, for entries as they must be -/
namespace Gk
open PySem PySem.W PySem.Spec PyProof.Rows L2 NdefX
abbrev sIsEntry : Stmt := (top 23)
/-- what is never reached may be anything -/
theorem pss_dead {X : Cx} {b : List Stmt} : PSs X b (fun _ _ _ => False) := ⟨fun _ _ _ _ _ _ h => h.elim⟩
theorem _root_.L2.Same.sqT {K : Frag} {H H' : Hp} {a : Addr} {xs : List V} (s : Same H H') (h : SqT K H a xs) : SqT K H' a xs := by
  rcases h with (h | ⟨u, h⟩) | h
  · exact .inl (.inl (s _ _ h))
  · exact .inl (.inr ⟨u, s _ _ h⟩)
  · exact .inr h
theorem ite_no {c : Bool} {A B : Prop} (h : c = false) (b : B) : if c = true then A else B := by subst h; exact b
theorem ite_yes {c : Bool} {A B : Prop} (h : c = true) (a : A) : if c = true then A else B := by subst h; exact a
def farI : Int := 1000000000
/-- an entry (name, aliases, number), new or written -/
def RowK (K : Frag) (H : Hp) (v : V) (x : Row) : Prop := ∃ t a, v = .ref t ∧ SqT K H t [.str x.name, .ref a, .int x.num] ∧ SqT K H a (x.al.map V.str)
structure RowOk (x : Row) : Prop where
  nm : nameB x.name = true
  als : ∀ y ∈ x.al, nameB y = true
  lo : -farI ≤ x.num
  hi : x.num ≤ farI
  few : x.al.length ≤ 100
theorem RowK.later {K : Frag} {H H' : Hp} {v : V} {x : Row} (h : RowK K H v x) (s : Same H H') : RowK K H' v x := by
  obtain ⟨t, a, e, h1, h2⟩ := h
  exact ⟨t, a, e, s.sqT h1, s.sqT h2⟩
theorem RowAt.k {K : Frag} {H : Hp} {v : V} {x : Row} (h : RowAt H v x) : RowK K H v x := by
  obtain ⟨t, a, e, h1, h2⟩ := h
  exact ⟨t, a, e, SqT.of h1, SqT.of h2⟩
theorem nameB_len {x : Str} (h : nameB x = true) : x.length ≤ sizeLine := by
  unfold nameB at h
  simp only [Bool.and_eq_true, decide_eq_true_eq] at h
  exact Nat.le_trans (show x.length ≤ 8 by omega) (by decide)
def spEntry (K : Frag) : Sp := fun vs H Q _ => ∃ (v : V) (x : Row), vs = [v] ∧ RowK K H v x ∧ RowOk x ∧ ∀ H', Same H H' → Q (.bl true) H'
theorem boot_tuple' : bootBuiltins "tuple" = some (.type "tuple") := by decide +kernel
section
variable {P : Program} {w : World} {K : Frag} {mg : Str → Option Value} {base : Heap}
abbrev nEntry : List Str := ["value", "name", "aliases", "number", "alias"]
theorem scEntry : FnScope nEntry ["value"] (defScope sIsEntry) := ⟨rfl, rfl, rfl, by decide +kernel, rfl, by decide +kernel, by decide +kernel⟩
theorem ok_entry {f fN fI : Addr} {fd fdN fdI : FuncData} (F : Fun K "_is_entry" "_is_entry" sIsEntry f fd) (ti : mg "isinstance" = none) (tt : mg "tuple" = none) (tl : mg "len" = none) (ta : mg "all" = none) {t1 : Tok} (gF : mg "FARTHEST_NUMBER" = some (.int farI t1))
    (GN : FnOk P w K mg base CX0 1 fN fdN ["value"] (spIsName K)) (bN : Binds K fdN ["value"] []) (gN : mg "is_name" = some (.ref fN)) (kN : PySem.W.keepIn K (.ref fN) = true)
    (GI : FnOk P w K mg base CX0 1 fI fdI ["value"] (spIsInt K)) (bI : Binds K fdI ["value"] []) (gI : mg "is_integer" = some (.ref fI)) (kI : PySem.W.keepIn K (.ref fI) = true) : FnOk P w K mg base CX0 2 f fd ["value"] (spEntry K) := by
  refine F.ok scEntry (fun vs H Q E h => ?_) (fun cdv A outer s H vs Q E hr h => ?_)
  · obtain ⟨v, x, rfl, _⟩ := h
    rfl
  · obtain ⟨v, x, rfl, ⟨t, a, rfl, ht, ha⟩, ok, k⟩ := h
    have nd := scEntry.nd
    refine ⟨_, pss_cons (ps_if (PW.pt (pw_or (pt_not (pt_val (pe_callB call_isi (by rfl) ti boot_isi' (pa_cons (pv 0) (pa_cons (pe_bltn (v := .ty "tuple") (by rfl) tt boot_tuple' rfl) pa_nil)))))
        (pw_or1 (pt_cmpR op_ne (pe_callB call_len_seq (by rfl) tl PySem.boot_len (pa_cons (pv 0) pa_nil)) pe_int (nomark _))))) pss_dead pss_nil)
      (pss_cons (ps_asg (pv 0) (pg_tup rfl (pgs_cons (pg_name (i := 1) nd rfl (Or.inl rfl)) (pgs_cons (pg_name (i := 2) nd rfl (Or.inl rfl)) (pgs_cons (pg_name (i := 3) nd rfl (Or.inl rfl)) pgs_nil)))))
      (pss_cons (ps_if (PW.pt (pw_or (pt_not (pt_val (pe_call GN hr rfl gN kN bN .nil pass0 (pa_cons (pv 1) pa_nil)))) (pw_or1 (pt_not (pt_val (pe_callB call_isi (by rfl) ti boot_isi' (pa_cons (pv 2) (pa_cons (pe_bltn (v := .ty "tuple") (by rfl) tt boot_tuple' rfl) pa_nil)))))))) pss_dead pss_nil)
      (pss_cons (ps_if (pt_not (pt_val (pe_callB (cr_all rfl) (by rfl) ta boot_all' (pa_cons (pe_lc (own := [("alias", 4)]) (te := tCall (spIsName K) [] E0 (tCons (tVar 4) tNil)) (g := gName 4) (tt := tYes) rfl nd (pi_tup (pv 2)) (blkOk_by (N := nEntry) (sc := defScope sIsEntry) (by decide +kernel))
        (fun _ _ _ _ _ => pg_name (i := 4) nd rfl (Or.inl rfl)) (fun _ _ _ _ _ => pts_nil) (fun _ _ _ _ _ => by exact (pe_call GN hr (by rfl) gN kN bN .nil pass0 (pa_cons (pv 4) pa_nil)))) pa_nil)))) pss_dead pss_nil)
      (pss_one (ps_ret (pe_and (pe_call GI hr rfl gI kI bI .nil pass0 (pa_cons (pv 3) pa_nil)) (pe_one (pe_chain op_le op_le (pe_un un_neg (pe_glob (v := .int farI) (by rfl) gF ⟨_, rfl⟩)) (pv 3) (pe_glob (v := .int farI) (by rfl) gF ⟨_, rfl⟩))))))))), ?_⟩
    walk_at "rd"
    refine (AnyV.tup t _ ht).isi (b := true) (by decide +kernel) ⟨true, rfl, ite_no rfl ?_⟩
    refine rd_test (rd_op (rd_cb (rd_cons (rd_var rfl (rd_nil ⟨t, _, rfl, .inr ht, rd_c ⟨rfl, _, rfl, ite_no (by rfl) ?_⟩⟩)))))
    walk_at "rd"
    refine ⟨t, _, rfl, ht, rfl, _, _, rfl, _, _, rfl, _, _, rfl, rfl, ?_⟩
    walk_at "rd"
    refine ⟨.str x.name, "str", rfl, .str _ (nameB_len ok.nm), fun H1 s1 => ⟨true, by rw [← ok.nm]; rfl, ite_no rfl ?_⟩⟩
    refine rd_not (rd_b (rd_cb (rd_cons (rd_var rfl (rd_cons (rd_c (rd_nil ((AnyV.tup a _ (s1.sqT ha)).isi (b := true) (by decide +kernel) ⟨true, rfl, ite_no rfl ?_⟩))))))))
    walk_at "rd"
    refine ⟨_, rfl, a, rfl, ⟨_, s1.sqT ha⟩, fun D hD => ?_⟩
    refine lc_tup (K := K) (a := a) (xs := x.al.map V.str) (fun i H' => Same H1 H' ∧ H' D = some (.lst ((List.replicate i true).map V.bl))) ⟨(Same.refl H1).new hD, upd_same⟩ (fun i H' _ z => (s1.trans z.1).sqT ha) ?_ ?_
    · rintro i y H2 hi ⟨s2, c2⟩
      obtain ⟨n, hn, rfl⟩ : ∃ n, x.al[i]? = some n ∧ y = V.str n := by
        rw [List.getElem?_map] at hi
        cases e : x.al[i]? with
        | none => rw [e] at hi; cases hi
        | some n => rw [e] at hi; exact ⟨n, rfl, (Option.some.inj hi).symm⟩
      have okn := ok.als n (List.mem_of_getElem? hn)
      have il : i < x.al.length := (List.getElem?_eq_some_iff.mp hn).1
      refine rd_gn ⟨rfl, rd_yes (rd_call (rd_cons (rd_var rfl (rd_nil ⟨.str n, "str", rfl, .str _ (nameB_len okn), fun H3 s3 => ⟨_, s3 _ _ c2, ?_, s2.trans s3 |>.mut hD, ?_⟩⟩))))⟩
      · have := ok.few
        rw [List.length_map, List.length_replicate]
        exact Nat.lt_of_le_of_lt (show i ≤ 100 by omega) (by decide)
      · have e1 : isNameV (.str n) = true := okn
        rw [upd_same, e1, List.replicate_succ', List.map_append]
        rfl
    · rintro H2 ⟨s2, c2⟩
      refine rd_nil ⟨D, _, rfl, SqL.of c2, true, ?_, ite_no rfl ?_⟩
      · rw [List.length_map]
        congr 1
        rw [List.all_eq_true]
        intro b hb
        rw [List.eq_of_mem_replicate hb]
        rfl
      walk_at "rd"
      have lo := ok.lo
      have hi := ok.hi
      refine ⟨_, rfl, .int x.num, "int", rfl, .int _, true, rfl, ite_yes rfl ?_⟩
      refine ⟨farI, rfl, _, rfl, _, _, rfl, rfl, _, rfl, ite_yes (decide_eq_true lo) ⟨_, _, rfl, rfl, ?_⟩⟩
      show Q (.bl (decide (x.num ≤ farI))) H2
      rw [decide_eq_true hi]
      exact k H2 (s1.trans s2)
end
end Gk
/-! ### set(..), len(..) as rules -/
namespace Gk
open PySem PySem.Spec PyProof.Rows L2
def rSetOfK (K : PySem.W.Frag) (P : Program) (w : World) : List V → Hp → VK → Prop := fun xs H Q => ∃ (l : Addr) (ks : List Key), xs = [.ref l] ∧ (SqL K H l (ks.map kV) ∨ SqT K H l (ks.map kV)) ∧ ks.length + 1 < scanBound ∧
  ∀ p, H p = none → Q (.ref p) (upd H p (SetK P w p (inK ks) (uniq ks).length))
def rLenK (P : Program) (w : World) : List V → Hp → VK → Prop := fun xs H Q => ∃ (a : Addr) (S : Key → Bool) (n : Nat), xs = [.ref a] ∧ H a = some (SetK P w a S n) ∧ Q (.int n) H
section
variable {X : Cx}
theorem cr_setOfK (hc : X.calm = true) : CallR X (.type "set") (rSetOfK X.K X.prog X.w) := by
  intro pins s σ H xs us Q I r h
  obtain ⟨l, ks, rfl, hq, hb, q⟩ := h
  obtain ⟨u, rfl, rx⟩ := vals1 r
  cases rx
  have fin : ∀ (h' : Heap) (tk : Nat), h'.SetOf (mixKind X.prog X.w) s.heap.objs.size (inK ks) (uniq ks).length → (∀ b o, b < s.heap.objs.size → s.heap.get? b = some o → h'.get? b = some o) → EP X pins σ Q (.ref s.heap.objs.size) { s with heap := h', toks := tk } := fun h' tk a1 a2 =>
    ⟨.ref _, upd H s.heap.objs.size (SetK X.prog X.w s.heap.objs.size (inK ks) (uniq ks).length), I.laid (t' := tk) (fun b u e => a2 b u (Heap.lt_size e) e) (Nat.le_refl _) (setK_new a1), rfl, q _ (I.hok.fresh (Nat.le_refl _))⟩
  rcases hq with hq | hq
  · obtain ⟨its, rv, pl, hz⟩ := I.list hq
    exact call_setK (I.ok.hd hc) (.inl pl.isList) rv hb fin
  · obtain ⟨its, rv, pl, hz⟩ := I.tuple hq
    exact call_setK (I.ok.hd hc) (.inr pl) rv hb fin
theorem cr_lenK : CallR X (.builtin "len") (rLenK X.prog X.w) := by
  intro pins s σ H xs us Q I r h
  obtain ⟨a, S, n, rfl, ha, q⟩ := h
  obtain ⟨u, rfl, rx⟩ := vals1 r
  cases rx
  obtain ⟨o, es, ep, t, ho, hex, hd, hel, hmem, hb, hf, hn⟩ := setK_get I ha
  refine call_len_set ho hex hd hf ?_ ⟨.int n, H, I.tok _, ⟨_, by rw [hn]⟩, q⟩
  have : scanBound < 2 ^ 62 := by unfold scanBound; decide
  have h2 : es.size < scanBound := hb
  omega
end
end Gk
/-! ### _rows_of, for members as they must be -/
namespace Gk
open PySem PySem.W PySem.Spec PyProof.Rows L2 NdefX
abbrev sRowsOf : Stmt := (top 22)
theorem pi_or {X : Cx} {tg e : Expr} {w1 w2 : TI} (h1 : PI X tg e w1) (h2 : PI X tg e w2) : PI X tg e (fun σ H R => w1 σ H R ∨ w2 σ H R) := ⟨fun pins s σ H R I h => h.elim (h1.run pins s σ H R I) (h2.run pins s σ H R I)⟩
def marksOf (rows : List Row) : List Key := rows.flatMap fun r => (Sum.inr r.name :: r.al.map Sum.inr) ++ [Sum.inl r.num]
structure SortedRow (x y : Row) : Prop where
  nm : y.name = x.name
  num : y.num = x.num
  perm : y.al.Perm x.al
  srt : sortedS y.al = true
def MembersK (K : Frag) (H : Hp) (a : Addr) (rows : List Row) : Prop := ∃ vs, (SqL K H a vs ∨ SqT K H a vs) ∧ Paired (RowK K H) vs rows
structure RowsOk (rows : List Row) : Prop where
  lo : 1 ≤ rows.length
  hi : rows.length ≤ 16
  each : ∀ x ∈ rows, RowOk x
  few : ∀ x ∈ rows, x.al.length < 20
  nd : (marksOf rows).Nodup
def spRowsOf (K : Frag) : Sp := fun vs H Q _ => ∃ (a : Addr) (rows : List Row), vs = [.ref a] ∧ MembersK K H a rows ∧ RowsOk rows ∧
  ∀ (H' : Hp) (q : Addr) (rows' : List Row), Same H H' → H q = none → RowsAt H' q rows' → Paired SortedRow rows rows' → Q (.ref q) H'
section
variable {P : Program} {w : World} {K : Frag} {mg : Str → Option Value} {base : Heap}
abbrev nRowsOf : List Str := ["members", "rows", "taken", "position", "entry", "name", "aliases", "number", "marks", "mark"]
theorem scRowsOf : FnScope nRowsOf ["members"] (defScope sRowsOf) := ⟨rfl, rfl, rfl, by decide +kernel, rfl, by decide +kernel, by decide +kernel⟩
theorem boot_set' : bootBuiltins "set" = some (.type "set") := by decide +kernel
theorem boot_any' : bootBuiltins "any" = some (.builtin "any") := by decide +kernel
theorem boot_sorted' : bootBuiltins "sorted" = some (.builtin "sorted") := by decide +kernel
theorem boot_list2 : bootBuiltins "list" = some (.type "list") := by decide +kernel
structure RowsTxt (P : Program) (w : World) (K : Frag) (mg : Str → Option Value) (base : Heap) : Prop where
  isi : mg "isinstance" = none
  tup : mg "tuple" = none
  lst : mg "list" = none
  len : mg "len" = none
  any : mg "any" = none
  set : mg "set" = none
  srt : mg "sorted" = none
  enum : mg "enumerate" = none
  most : ∃ t, mg "MOST_MEMBERS" = some (.int 16 t)
  ent : ∃ f fd, FnOk P w K mg base CX0 2 f fd ["value"] (spEntry K) ∧ Binds K fd ["value"] [] ∧ mg "_is_entry" = some (.ref f) ∧ keepIn K (.ref f) = true
end
end Gk
/-! ### one turn of _rows_of -/
namespace Gk
open PySem PySem.W PySem.Spec PyProof.Rows L2 NdefX
abbrev rLenSeq (K : Frag) : List V → Hp → VK → Prop := fun xs H Q => ∃ p ys, xs = [.ref p] ∧ (SqL K H p ys ∨ SqT K H p ys) ∧ Q (.int ys.length) H
abbrev rTupOf (K : Frag) : List V → Hp → VK → Prop := fun xs H Q => ∃ p ys, xs = [.ref p] ∧ ((SqL K H p ys ∧ ∀ l, H l = none → Q (.ref l) (upd H l (.tup ys))) ∨ (SqT K H p ys ∧ Q (.ref p) H))
abbrev tRowTurn (K : Frag) (P : Program) (w : World) : TS := tSeq (tIfS (tNot (tB (tCall (spEntry K) [] E0 (tCons (tVar 4) tNil)))) (fun _ _ _ => False) tNext)
  (tSeq (tAsg (tVar 4) (gTup K 3 (gCons (gName 5) (gCons (gName 6) (gCons (gName 7) gNil)))))
  (tSeq (tAsg (tLst (tCons (tVar 5) (StX.tStar K (tVar 6) (tCons (tVar 7) tNil)))) (gName 8))
  (tSeq (tIfS (tOr (tTest (tOp (rI0 fun i j => .bl (decide (i < j))) (tCB (rLenK P w) (tCons (tCB (rSetOfK K P w) (tCons (tVar 8) tNil)) tNil)) (tCB (rLenSeq K) (tCons (tVar 8) tNil))))
      (tB (tCB (rAny K) (tCons (tLc (iList K (tVar 8)) (gName 9) tYes (tDIn (tVar 9) (tVar 2)) [9]) tNil)))) (fun _ _ _ => False) tNext)
  (tSeq (tFor (iList K (tVar 8)) (gName 9) (tAsg (tC (.bl true)) (gSub (tVar 2) (tVar 9) rSetD)))
    (tDrop (tBM K "list" rAppend (tVar 1) (tCons (tTup (tCons (tVar 5) (tCons (tCB (rTupOf K) (tCons (tCB (rSortedTS K) (tCons (tVar 6) tNil)) tNil)) (tCons (tVar 7) tNil)))) tNil)))))))
theorem valV_no {kvs : List (Key × V)} {k : Key} (h : k ∉ kvs.map (·.1)) : valV kvs k = none := by
  induction kvs with
  | nil => rfl
  | cons p r ih =>
    rw [valV_neg fun e => h (by rw [List.map_cons]; exact List.mem_cons.mpr (.inl e.symm))]
    exact ih fun z => h (by rw [List.map_cons]; exact List.mem_cons_of_mem _ z)
theorem marks_one (x : Row) : V.str x.name :: (x.al.map V.str ++ [V.int x.num]) = (marksOf [x]).map kV := by
  simp only [marksOf, List.flatMap_cons, List.flatMap_nil, List.append_nil, List.map_append, List.map_cons, List.map_nil, List.map_map, List.cons_append]
  rfl
theorem marks_len (x : Row) : (marksOf [x]).length = x.al.length + 2 := by simp [marksOf]
theorem RowsAt.dput {H : Hp} {d r : Addr} {rows : List Row} {k1 k2 : List (Key × V)} (h : RowsAt H r rows) (hd : H d = some (.dK k1)) : RowsAt (upd H d (.dK k2)) r rows := by
  obtain ⟨vs, h1, h2⟩ := h
  refine ⟨vs, by rw [upd_ne (ne_of h1 hd fun z => by cases z)]; exact h1, paired_map (fun v y z => ?_) h2⟩
  obtain ⟨t, a, e, g1, g2⟩ := z
  exact ⟨t, a, e, by rw [upd_ne (ne_of g1 hd fun z => by cases z)]; exact g1, by rw [upd_ne (ne_of g2 hd fun z => by cases z)]; exact g2⟩
theorem RowK.on {K : Frag} {H H' : Hp} {v : V} {x : Row} (h : RowK K H v x) (s : Same H H') : RowK K H' v x := h.later s
theorem row_turn {P : Program} {w : World} {K : Frag} {H H1 : Hp} {rl tk : Addr} {v : V} {x : Row} {rows' : List Row} {kvs : List (Key × V)} {done : List Key} {s0 s3' s5' s6 s7 s8 s9 : Option V} {D : Ends} (s1 : Same H H1) (hv : RowK K H1 v x) (ok : RowOk x) (few : x.al.length < 20)
    (hR : RowsAt H1 rl rows') (hr : rows'.length ≤ 16) (hT : H1 tk = some (.dK kvs)) (eT : kvs.map (·.1) = done) (nd : (done ++ marksOf [x]).Nodup) (hz : done.length ≤ 1000) (n1 : H rl = none) (n2 : H tk = none)
    (k : ∀ H' y v5 v6 v7 v8 v9 kvs', Same H H' → RowsAt H' rl (rows' ++ [y]) → SortedRow x y → H' tk = some (.dK kvs') → kvs'.map (·.1) = done ++ marksOf [x] → D.nx [s0, some (.ref rl), some (.ref tk), s3', some v, v5, v6, v7, v8, v9] H') :
    tRowTurn K P w D [s0, some (.ref rl), some (.ref tk), s3', some v, s5', s6, s7, s8, s9] H1 := by
  refine rd_seq (rd_if (rd_not (rd_b (rd_call (rd_cons (rd_var rfl (rd_nil ⟨v, x, rfl, hv, ok, fun H2 s2 => ⟨true, rfl, ite_no rfl (rd_next ?_)⟩⟩)))))))
  have hv := hv.later s2
  have hR := hR.later s2
  have hT := s2 _ _ hT
  have s2 := s1.trans s2
  obtain ⟨t, al, rfl, ht, ha⟩ := hv
  refine rd_seq (rd_asg (rd_var rfl ⟨t, _, rfl, ht, rfl, _, _, rfl, _, _, rfl, _, _, rfl, rfl, ?_⟩))
  refine rd_seq (rd_asg (rd_lst (rd_cons (rd_var rfl ⟨_, rfl, al, _, rfl, .inl ha, rd_cons (rd_var rfl (rd_nil ⟨?_, fun m hm => ?_⟩))⟩))))
  · show (V.str x.name :: (x.al.map V.str ++ [V.int x.num])).length ≤ sizeLine
    simp only [List.length_cons, List.length_append, List.length_map, List.length_nil]
    exact Nat.le_trans (show x.al.length + (0 + 1) + 1 ≤ 100 by omega) (by decide)
  rw [marks_one]
  have ml := marks_len x
  generalize hks : marksOf [x] = ks at nd k ml
  have s3 : Same H2 (upd H2 m (.lst (ks.map kV))) := (Same.refl H2).new hm
  have cm : upd H2 m (.lst (ks.map kV)) m = some (.lst (ks.map kV)) := upd_same
  generalize upd H2 m (.lst (ks.map kV)) = H3 at s3 cm
  have hR := hR.later s3
  have hT := s3 _ _ hT
  have ha := s3.sqT ha
  have s3 := s2.trans s3
  have kl : (ks.map kV).length ≤ 100 := by rw [List.length_map]; omega
  obtain ⟨nd1, nd2, nd3⟩ := List.nodup_append.mp nd
  walk_at "rd"
  refine ⟨m, ks, rfl, .inl (SqL.of cm), ?_, fun sp hsp => ?_⟩
  · rw [List.length_map] at kl
    exact Nat.lt_of_le_of_lt (show ks.length + 1 ≤ 101 by omega) (by decide)
  have s4 : Same H3 (upd H3 sp (SetK P w sp (inK ks) (uniq ks).length)) := (Same.refl H3).new hsp
  have csp : upd H3 sp (SetK P w sp (inK ks) (uniq ks).length) sp = some (SetK P w sp (inK ks) (uniq ks).length) := upd_same
  generalize upd H3 sp (SetK P w sp (inK ks) (uniq ks).length) = H4 at s4 csp
  have cm := s4 _ _ cm
  have hR := hR.later s4
  have hT := s4 _ _ hT
  have ha := s4.sqT ha
  have s4 := s3.trans s4
  refine rd_nil ⟨sp, _, _, rfl, csp, ?_⟩
  walk_at "rd"
  refine ⟨m, _, rfl, .inl (SqL.of cm), _, _, rfl, rfl, _, rfl, ite_no ?_ ?_⟩
  · rw [decide_eq_false_iff_not, List.length_map, uniq_eq.mpr nd2]
    omega
  walk_at "rd"
  refine ⟨_, rfl, m, rfl, ⟨_, SqL.of cm⟩, fun D0 hD0 => ?_⟩
  refine lc_list (K := K) (a := m) (xs := ks.map kV) (fun i H' => Same H4 H' ∧ H' D0 = some (.lst ((List.replicate i false).map V.bl))) ⟨(Same.refl H4).new hD0, upd_same⟩ (fun i H' _ z => SqL.of (z.1 _ _ cm)) ?_ ?_
  · rintro i y H5 hi ⟨s5, c5⟩
    obtain ⟨j, hj, rfl⟩ : ∃ j, ks[i]? = some j ∧ y = kV j := by
      rw [List.getElem?_map] at hi
      cases e : ks[i]? with
      | none => rw [e] at hi; cases hi
      | some n => rw [e] at hi; exact ⟨n, rfl, (Option.some.inj hi).symm⟩
    have il : i < ks.length := (List.getElem?_eq_some_iff.mp hj).1
    have no : valV kvs j = none := valV_no fun z => nd3 j (by rw [← eT]; exact z) j (List.mem_of_getElem? hj) rfl
    refine rd_gn ⟨rfl, rd_yes ⟨_, rfl, _, rfl, tk, _, rfl, DGet.k (s5 _ _ hT), _, c5, ?_, s5.mut hD0, ?_⟩⟩
    · rw [List.length_map, List.length_replicate]
      exact Nat.lt_of_le_of_lt (show i ≤ 100 by rw [List.length_map] at kl; omega) (by decide)
    · rw [upd_same, no, List.replicate_succ', List.map_append]
      rfl
  rintro H5 ⟨s5, c5⟩
  refine rd_nil ⟨D0, _, rfl, SqL.of c5, false, ?_, ite_no rfl (rd_next ?_)⟩
  · congr 1
    rw [List.any_eq_false]
    intro b hb
    rw [List.eq_of_mem_replicate hb]
    decide
  have cm := s5 _ _ cm
  have hR := hR.later s5
  have hT := s5 _ _ hT
  have ha := s5.sqT ha
  have s5 := s4.trans s5
  have m0 : m ≠ tk := ne_of cm hT fun z => by cases z
  refine rd_seq ⟨_, rfl, m, rfl, ⟨_, SqL.of cm⟩, ?_⟩
  refine for_list (K := K) (a := m) (xs := ks.map kV) (fun i σ H' => ∃ v9 kv', σ = [s0, some (.ref rl), some (.ref tk), s3', some (.ref t), some (.str x.name), some (.ref al), some (.int x.num), some (.ref m), v9] ∧ Same H H' ∧ H' m = some (.lst (ks.map kV)) ∧ RowsAt H' rl rows' ∧ SqT K H' al (x.al.map V.str) ∧ H' tk = some (.dK kv') ∧ kv'.map (·.1) = done ++ ks.take i)
    ⟨_, kvs, rfl, s5, cm, hR, ha, hT, by rw [eT]; simp⟩ ?_ ?_ ?_
  · rintro i σ H' _ ⟨v9, kv', rfl, _, c, _⟩
    exact SqL.of c
  · rintro i y σ H' hi ⟨v9, kv', rfl, q, c, r, sa, ct, ek⟩
    obtain ⟨j, hj, rfl⟩ : ∃ j, ks[i]? = some j ∧ y = kV j := by
      rw [List.getElem?_map] at hi
      cases e : ks[i]? with
      | none => rw [e] at hi; cases hi
      | some n => rw [e] at hi; exact ⟨n, rfl, (Option.some.inj hi).symm⟩
    have il : i < ks.length := (List.getElem?_eq_some_iff.mp hj).1
    have no : valV kv' j = none := valV_no fun z => by
      rw [ek] at z
      rcases List.mem_append.mp z with z | z
      · exact nd3 j z j (List.mem_of_getElem? hj) rfl
      · obtain ⟨b, hb⟩ := List.mem_iff_getElem?.mp z
        rw [List.getElem?_take] at hb
        split at hb
        · rename_i hbi
          have := (List.getElem?_inj (by omega) nd2).mp (hb.trans hj.symm)
          omega
        · cases hb
    have kvl : kv'.length ≤ 1100 := by
      have := congrArg List.length ek
      rw [List.length_map, List.length_append, List.length_take] at this
      rw [List.length_map] at kl
      omega
    refine rd_gn (rd_asg (rd_c ⟨_, rfl, _, rfl, tk, _, rfl, DPut.k (k := j) ct (Nat.lt_of_le_of_lt kvl (by decide)), ?_⟩))
    rw [putK_new _ no]
    refine ⟨_, _, rfl, q.mut n2, ?_, r.dput ct, ?_, upd_same, ?_⟩
    · rw [upd_ne (ne_of c ct fun z => by cases z)]
      exact c
    · rcases sa with (sa | ⟨u, sa⟩) | sa
      · exact .inl (.inl (by rw [upd_ne (ne_of sa ct fun z => by cases z)]; exact sa))
      · exact .inl (.inr ⟨u, by rw [upd_ne (ne_of sa ct fun z => by cases z)]; exact sa⟩)
      · exact .inr sa
    · rw [List.map_append, ek, List.take_add_one, hj, List.append_assoc]
      rfl
  · rintro σ H' ⟨v9, kv', rfl, q, c, r, sa, ct, ek⟩
    rw [List.length_map, List.take_length] at ek
    obtain ⟨us, hus, lus⟩ : ∃ us, H' rl = some (.lst us) ∧ us.length = rows'.length := by
      obtain ⟨us, z1, z2⟩ := r
      exact ⟨us, z1, paired_len z2⟩
    refine rd_drop (rd_bm (rd_var rfl ⟨?_, ?_⟩))
    · exact .inl ⟨rfl, _, SqL.of hus⟩
    refine rd_cons (rd_tup (rd_cons (rd_var rfl (rd_cons (rd_cb (rd_cons (rd_cb (rd_cons (rd_var rfl (rd_nil ⟨al, x.al, rfl, sa, by omega, fun ys sl py sy hsl H6 s6 c6 => ?_⟩)))))))))) 
    refine rd_nil ⟨sl, _, rfl, .inl ⟨SqL.of c6, fun ta hta => ?_⟩⟩
    have s7 : Same H6 (upd H6 ta (.tup (ys.map V.str))) := (Same.refl H6).new hta
    have c7 : upd H6 ta (.tup (ys.map V.str)) ta = some (.tup (ys.map V.str)) := upd_same
    generalize upd H6 ta (.tup (ys.map V.str)) = H7 at s7 c7
    refine rd_cons (rd_var rfl (rd_nil ⟨Nat.le_trans (show 3 ≤ 100 by decide) (by decide), fun tt htt => ?_⟩))
    have s8 : Same H7 (upd H7 tt (.tup [.str x.name, .ref ta, .int x.num])) := (Same.refl H7).new htt
    have cx : RowAt (upd H7 tt (.tup [.str x.name, .ref ta, .int x.num])) (.ref tt) ⟨x.name, ys, x.num⟩ := ⟨tt, ta, rfl, upd_same, s8 _ _ c7⟩
    show tNil _ (upd H7 tt (.tup [.str x.name, .ref ta, .int x.num])) _
    generalize upd H7 tt (.tup [.str x.name, .ref ta, .int x.num]) = H8 at s8 cx
    have sx : Same H' H8 := fun b u e => s8 b u (s7 b u (s6 b u e))
    obtain ⟨us, hus, lus, rX⟩ := (r.later sx).more cx
    refine rd_nil ⟨rl, us, .ref tt, rfl, rfl, hus, Nat.lt_of_le_of_lt (show us.length ≤ 100 by omega) (by decide), ?_⟩
    refine k _ ⟨x.name, ys, x.num⟩ _ _ _ _ _ kv' ((q.trans sx).mut n1) rX ⟨rfl, rfl, py, sy⟩ ?_ ek
    rw [upd_ne (ne_of (sx _ _ ct) hus fun z => by cases z)]
    exact sx _ _ ct
end Gk
/-! ### _rows_of -/
namespace Gk
open PySem PySem.W PySem.Spec PyProof.Rows L2 NdefX
section
variable {P : Program} {w : World} {K : Frag} {mg : Str → Option Value} {base : Heap}
theorem enum_both {Hb H : Hp} {σ : L2.St} {a : Addr} {vs : List V} {R : It → Hp → Prop} (h0 : σ[0]? = some (some (.ref a))) (hq : SqL K Hb a vs ∨ SqT K Hb a vs) (s : Same Hb H)
    (h : ∀ (J : It) (G : Hp → Prop), Walk J vs.length G (YPair (fun i => some (.int (i : Nat))) fun i => vs[i]?) → (∀ H', Same Hb H' → G H') → R J H) : iEnum K (tCons (tVar 0) tNil) σ H R ∨ iEnumT K (tCons (tVar 0) tNil) σ H R := by
  rcases hq with hq | hq
  · exact .inl ⟨_, h0, a, vs, rfl, s.seq hq, h _ _ (walk_enum (xs := vs)) fun H' s' => s'.seq hq⟩
  · exact .inr ⟨_, h0, a, vs, rfl, s.sqT hq, h _ _ (walk_enumT (xs := vs)) fun H' s' => s'.sqT hq⟩
theorem marks_more (l : List Row) (x : Row) : marksOf (l ++ [x]) = marksOf l ++ marksOf [x] := by unfold marksOf; rw [List.flatMap_append]
theorem marks_size : ∀ {l : List Row}, (∀ x ∈ l, x.al.length < 20) → (marksOf l).length ≤ l.length * 22
  | [], _ => Nat.zero_le _
  | x :: l, h => by
    have h1 := marks_size fun y hy => h y (List.mem_cons_of_mem _ hy)
    have h2 := h x List.mem_cons_self
    have e : marksOf (x :: l) = marksOf [x] ++ marksOf l := by rw [← List.singleton_append]; unfold marksOf; rw [List.flatMap_append]
    rw [e, List.length_append, marks_len, List.length_cons]
    omega
theorem paired_take {α β : Type} {F : α → β → Prop} {xs : List α} {ys : List β} {x : α} {y : β} {i : Nat} (h : Paired F (xs.take i) ys) (hx : xs[i]? = some x) (f : F x y) : Paired F (xs.take (i + 1)) (ys ++ [y]) := by
  rw [List.take_add_one, hx]
  exact paired_more f h
theorem ok_rowsof {f : Addr} {fd : FuncData} (F : Fun K "_rows_of" "_rows_of" sRowsOf f fd) (T : RowsTxt P w K mg base) : FnOk P w K mg base CX0 3 f fd ["members"] (spRowsOf K) := by
  obtain ⟨t16, g16⟩ := T.most
  obtain ⟨fE, fdE, GE, bE, gE, kE⟩ := T.ent
  refine F.ok scRowsOf (fun vs H Q E h => ?_) (fun cdv A outer s H vs Q E hr h => ?_)
  · obtain ⟨a, rows, rfl, _⟩ := h
    rfl
  · obtain ⟨a, rows, rfl, hM, ok, k⟩ := h
    have nd := scRowsOf.nd
    have hu := hu_of hr
    refine ⟨_, (pss_cons (ps_if (PW.pt (pw_or (pt_not (pt_val (pe_callB call_isiT (by rfl) T.isi boot_isi' (pa_cons (pv 0) (pa_cons (pe_tup (pa_cons (pe_bltn (v := .ty "list") (by rfl) T.lst boot_list2 rfl) (pa_cons (pe_bltn (v := .ty "tuple") (by rfl) T.tup boot_tuple' rfl) pa_nil))) pa_nil))))) (pw_or1 (pt_not (pt_chain op_le op_le pe_int (pe_callB call_len_seq (by rfl) T.len PySem.boot_len (pa_cons (pv 0) pa_nil)) (pe_glob (v := .int 16) (by rfl) g16 ⟨_, rfl⟩)))))) pss_dead pss_nil)
      (pss_cons (ps_set (i := 1) nd rfl (Or.inl rfl) (pe_lst pa_nil))
      (pss_cons (ps_set (i := 2) nd rfl (Or.inr rfl) pe_dnewK)
      (pss_cons (ps_for PassesOwn.never rfl (pi_or (pi_enum (by rfl) T.enum (pa_cons (pv 0) pa_nil)) (pi_enumT (by rfl) T.enum (pa_cons (pv 0) pa_nil))) (pg_tup rfl (pgs_cons (pg_name (i := 3) nd rfl (Or.inl rfl)) (pgs_cons (pg_name (i := 4) nd rfl (Or.inl rfl)) pgs_nil))) (pss_cons (ps_if (pt_not (pt_val (pe_call GE hr (by rfl) gE kE bE .nil pass0 (pa_cons (pv 4) pa_nil)))) pss_dead pss_nil)
      (pss_cons (ps_asg (pv 4) (pg_tup rfl (pgs_cons (pg_name (i := 5) nd rfl (Or.inl rfl)) (pgs_cons (pg_name (i := 6) nd rfl (Or.inl rfl)) (pgs_cons (pg_name (i := 7) nd rfl (Or.inl rfl)) pgs_nil)))))
      (pss_cons (ps_set (i := 8) nd rfl (Or.inl rfl) (pe_lst (pa_cons (pv 5) (StX.pa_star (pv 6) (pa_cons (pv 7) pa_nil)))))
      (pss_cons (ps_if (PW.pt (pw_or (pt_cmpR op_lt (pe_callB cr_lenK (by rfl) T.len PySem.boot_len (pa_cons (pe_callTy (cr_setOfK rfl) (by rfl) T.set boot_set' (pa_cons (pv 8) pa_nil)) pa_nil)) (pe_callB call_len_seq (by rfl) T.len PySem.boot_len (pa_cons (pv 8) pa_nil)) (nomark _)) (pw_or1 (pt_val (pe_callB (cr_any rfl) (by rfl) T.any boot_any' (pa_cons (pe_lc (own := [("mark", 9)]) (te := tDIn (tVar 9) (tVar 2)) (g := gName 9) (tt := tYes) rfl nd (pi_list (pv 8)) (blkOk_by (N := nRowsOf) (sc := defScope sRowsOf) (by decide +kernel))
          (fun _ _ _ _ _ => pg_name (i := 9) nd rfl (Or.inl rfl)) (fun _ _ _ _ _ => pts_nil) (fun _ _ _ _ _ => by exact (pe_cmp (pc_din hu (pv 9) (pv 2))))) pa_nil)))))) pss_dead pss_nil)
      (pss_cons (ps_for PassesOwn.never rfl (pi_list (pv 8)) (pg_name (i := 9) nd rfl (Or.inl rfl)) (pss_one (ps_asg pe_bl (by exact (pg_sub (pv 2) (pv 9) (L2.set_dict hu))))))
      (pss_one (ps_expr (pe_bm PySem.F.plainAttrs_list PySem.F.slot_list_append PySem.F.type_list_append mt_append (pv 1) (pa_cons (pe_tup (pa_cons (pv 5) (pa_cons (pe_callTy call_tuple_of (by rfl) T.tup boot_tuple' (pa_cons (pe_callB cr_sortedTS (by rfl) T.srt boot_sorted' (pa_cons (pv 6) pa_nil)) pa_nil)) (pa_cons (pv 7) pa_nil)))) pa_nil))))))))))
      (pss_one (ps_ret (pv 1))))))), ?_⟩
    walk_at "rd"
    refine ⟨Nat.le_trans (show 2 ≤ 100 by decide) (by decide), fun tp htp => ?_⟩
    have s1 : Same H (upd H tp (.tup [V.ty "list", .ty "tuple"])) := (Same.refl H).new htp
    have ct : upd H tp (.tup [V.ty "list", .ty "tuple"]) tp = some (.tup [V.ty "list", .ty "tuple"]) := upd_same
    generalize upd H tp (.tup [V.ty "list", .ty "tuple"]) = H1 at s1 ct
    obtain ⟨vs, hseq, pv⟩ := hM
    have lv := paired_len pv
    have hseq1 : SqL K H1 a vs ∨ SqT K H1 a vs := hseq.imp s1.seq s1.sqT
    have isi : ∀ {Q : VK}, Q (.bl true) H1 → rIsiT K [.ref a, .ref tp] H1 Q := fun q => by
      rcases hseq1 with z | z
      · exact ⟨_, tp, _, _, _, true, rfl, ct, .cons (.ty "list") (.cons (.ty "tuple") .nil), (AnyV.lst a _ z).ty, kitAny_cons (b := true) (kit_ty (by decide +kernel)) (fun e => by cases e) (fun _ => rfl), q⟩
      · exact ⟨_, tp, _, _, _, true, rfl, ct, .cons (.ty "list") (.cons (.ty "tuple") .nil), (AnyV.tup a _ z).ty, kitAny_cons (b := false) (kit_ty (by decide +kernel)) (fun _ => kitAny_cons (b := true) (kit_ty (by decide +kernel)) (fun e => by cases e) (fun _ => rfl)) (fun e => by cases e), q⟩
    refine rd_nil (isi ⟨true, rfl, ite_no rfl ?_⟩)
    refine rd_not (rd_test (rd_c (rd_cb (rd_cons (rd_var rfl (rd_nil ⟨a, vs, rfl, hseq1, _, _, rfl, rfl, _, rfl, ?_⟩))))))
    have lo := ok.lo
    have hi := ok.hi
    refine ite_yes (by rw [decide_eq_true_eq, lv]; omega) (rd_c ⟨_, _, rfl, rfl, _, rfl, ite_no (by rw [decide_eq_true (by rw [lv]; omega)]; rfl) (rd_next ?_)⟩)
    walk_at "rd"
    refine ⟨Nat.zero_le _, fun rl hrl => ?_⟩
    have s2 : Same H (upd H1 rl (.lst [])) := s1.new hrl
    have cR : RowsAt (upd H1 rl (.lst [])) rl [] := ⟨[], upd_same, .nil⟩
    have nrl : H rl = none := s1.free hrl
    generalize upd H1 rl (.lst []) = H2 at s2 cR
    refine rd_gn ?_
    walk_at "rd"
    intro tk htk
    have s3 : Same H (upd H2 tk (.dK [])) := s2.new htk
    have cR := cR.later ((Same.refl H2).new (o := .dK []) htk)
    have cT : upd H2 tk (.dK []) tk = some (.dK []) := upd_same
    have ntk : H tk = none := s2.free htk
    generalize upd H2 tk (.dK []) = H3 at s3 cR cT
    refine rd_gn (rd_seq ?_)
    refine enum_both (K := K) (a := a) rfl hseq s3 fun J G wk hG => ?_
    refine for_it wk (fun i σ H' => ∃ s3' v4 v5 v6 v7 v8 v9 rows' kvs, σ = [some (.ref a), some (.ref rl), some (.ref tk), s3', v4, v5, v6, v7, v8, v9] ∧ Same H H' ∧ RowsAt H' rl rows' ∧ Paired SortedRow (rows.take i) rows' ∧ H' tk = some (.dK kvs) ∧ kvs.map (·.1) = marksOf (rows.take i))
      ⟨_, _, _, _, _, _, _, [], [], rfl, s3, cR, .nil, cT, rfl⟩ ?_ ?_ ?_
    · rintro i σ H' _ ⟨s3', v4, v5, v6, v7, v8, v9, rows', kvs, rfl, q, _⟩
      exact hG H' q
    · rintro i y σ Ha Hb hi ⟨s3', v4, v5, v6, v7, v8, v9, rows', kvs, rfl, q, r, ps, ct, ek⟩ ⟨T0, y1, y2, rfl, hT0, rfl, e1, e2⟩
      obtain rfl := Option.some.inj e1
      have e2 : vs[i]? = some y2 := e2
      obtain ⟨x, hx, hv⟩ := paired_left pv e2
      have il : i < rows.length := (List.getElem?_eq_some_iff.mp hx).1
      have q2 : Same Ha (upd Ha T0 (.tup [V.int (i : Nat), y2])) := (Same.refl Ha).new hT0
      have c2 : upd Ha T0 (.tup [V.int (i : Nat), y2]) T0 = some (.tup [V.int (i : Nat), y2]) := upd_same
      generalize upd Ha T0 (.tup [V.int (i : Nat), y2]) = Hc at q2 c2 ⊢
      refine ⟨T0, _, rfl, SqT.of c2, rfl, _, _, rfl, _, _, rfl, rfl, ?_⟩
      have mem := List.mem_of_getElem? hx
      have et : marksOf (rows.take (i + 1)) = marksOf (rows.take i) ++ marksOf [x] := by rw [List.take_add_one, hx]; exact marks_more _ _
      have lr : rows'.length ≤ 16 := by
        have := paired_len ps
        rw [List.length_take] at this
        omega
      have lm : (marksOf (rows.take i)).length ≤ 1000 := by
        have h1 := marks_size (l := rows.take i) fun z hz => ok.few z (List.mem_of_mem_take hz)
        have h2 := List.length_take_le i rows
        rw [List.length_take] at h1
        omega
      have ndp : (marksOf (rows.take i) ++ marksOf [x]).Nodup := by
        rw [← et]
        have e3 : marksOf rows = marksOf (rows.take (i + 1)) ++ marksOf (rows.drop (i + 1)) := by
          unfold marksOf
          rw [← List.flatMap_append, List.take_append_drop]
        have := ok.nd
        rw [e3] at this
        exact this.sublist (List.sublist_append_left _ _)
      exact row_turn (K := K) (P := P) (w := w) (q.trans q2) ((hv.later q).later q2) (ok.each x mem) (ok.few x mem) (r.later q2) lr (q2 _ _ ct) ek ndp lm nrl ntk fun H' y w5 w6 w7 w8 w9 kvs' qa ra sr ca ea => ⟨_, _, _, _, _, _, _, _, _, rfl, qa, ra, paired_take ps hx sr, ca, by rw [et]; exact ea⟩
    · rintro σ H' ⟨s3', v4, v5, v6, v7, v8, v9, rows', kvs, rfl, q, r, ps, ct, ek⟩
      rw [lv, List.take_length] at ps
      exact ⟨_, rfl, k H' rl rows' q nrl r ps⟩
end
end Gk
/-! ### _is_choice, for choices as they must be -/
namespace Gk
open PySem PySem.W PySem.Spec PyProof.Rows L2 NdefX
abbrev sIsChoice : Stmt := (top 25)
def spChoice (K : Frag) : Sp := fun vs H Q _ => ∃ (v n : Addr) (ws ns : List Str), vs = [.ref v, .ref n] ∧ (SqL K H v (ws.map V.str) ∨ SqT K H v (ws.map V.str)) ∧ SqL K H n (ns.map V.str) ∧ (∀ x ∈ ws, x ∈ ns) ∧ ws.Nodup ∧ ws.length ≤ 100 ∧ ∀ H', Same H H' → Q (.bl true) H'
section
variable {P : Program} {w : World} {K : Frag} {mg : Str → Option Value} {base : Heap}
theorem seq_both {Hb H : Hp} {σ : L2.St} {a : Addr} {xs : List V} {i : Nat} {R : It → Hp → Prop} (h0 : σ[i]? = some (some (.ref a))) (hq : SqL K Hb a xs ∨ SqT K Hb a xs) (s : Same Hb H)
    (h : ∀ (J : It) (G : Hp → Prop), Walk J xs.length G (YAt xs) → (∀ H', Same Hb H' → G H') → R J H) : iList K (tVar i) σ H R ∨ iTup K (tVar i) σ H R := by
  rcases hq with hq | hq
  · exact .inl ⟨_, h0, a, rfl, ⟨_, s.seq hq⟩, h _ _ (walk_list (xs := xs)) fun H' s' => s'.seq hq⟩
  · exact .inr ⟨_, h0, a, rfl, ⟨_, s.sqT hq⟩, h _ _ (walk_tup (xs := xs)) fun H' s' => s'.sqT hq⟩
theorem isi_both {H : Hp} {a tp : Addr} {vs : List V} {Q : VK} (hq : SqL K H a vs ∨ SqT K H a vs) (ct : H tp = some (.tup [V.ty "list", .ty "tuple"])) (q : Q (.bl true) H) : rIsiT K [.ref a, .ref tp] H Q := by
  rcases hq with z | z
  · exact ⟨_, tp, _, _, _, true, rfl, ct, .cons (.ty "list") (.cons (.ty "tuple") .nil), (AnyV.lst a _ z).ty, kitAny_cons (b := true) (kit_ty (by decide +kernel)) (fun e => by cases e) (fun _ => rfl), q⟩
  · exact ⟨_, tp, _, _, _, true, rfl, ct, .cons (.ty "list") (.cons (.ty "tuple") .nil), (AnyV.tup a _ z).ty, kitAny_cons (b := false) (kit_ty (by decide +kernel)) (fun _ => kitAny_cons (b := true) (kit_ty (by decide +kernel)) (fun e => by cases e) (fun _ => rfl)) (fun e => by cases e), q⟩
theorem flat_strs : ∀ ns : List Str, (ns.map V.str).all flatV = true
  | [] => rfl
  | x :: ns => by rw [List.map_cons, List.all_cons, flat_strs ns]; rfl
theorem in_strs {x : Str} {ns : List Str} : inV (.str x) (ns.map V.str) = true ↔ x ∈ ns := by
  unfold inV
  rw [List.any_map, List.any_eq_true]
  constructor
  · rintro ⟨y, hy, e⟩
    have e : (y == x) = true := e
    rw [beq_iff_eq] at e
    exact e ▸ hy
  · intro h
    exact ⟨x, h, show (x == x) = true from beq_self_eq_true x⟩
theorem nodup_inr : ∀ {ws : List Str}, ws.Nodup → (ws.map Sum.inr : List Key).Nodup
  | [], _ => List.nodup_nil
  | x :: ws, h => by
    rw [List.nodup_cons] at h
    rw [List.map_cons, List.nodup_cons]
    refine ⟨fun z => ?_, nodup_inr h.2⟩
    obtain ⟨y, hy, e⟩ := List.mem_map.mp z
    exact h.1 (Sum.inr.inj e ▸ hy)
abbrev nChoice : List Str := ["value", "names", "word"]
theorem scChoice : FnScope nChoice ["value", "names"] (defScope sIsChoice) := ⟨rfl, rfl, rfl, by decide +kernel, rfl, by decide +kernel, by decide +kernel⟩
theorem ok_choice {f : Addr} {fd : FuncData} (F : Fun K "_is_choice" "_is_choice" sIsChoice f fd) (ti : mg "isinstance" = none) (tt : mg "tuple" = none) (tL : mg "list" = none) (tl : mg "len" = none) (ta : mg "all" = none) (ts : mg "set" = none) : FnOk P w K mg base CX0 1 f fd ["value", "names"] (spChoice K) := by
  refine F.ok scChoice (fun vs H Q E h => ?_) (fun cdv A outer s H vs Q E hr h => ?_)
  · obtain ⟨v, n, ws, ns, rfl, _⟩ := h
    rfl
  · obtain ⟨v, n, ws, ns, rfl, hv, hn, sub, nod, lz, k⟩ := h
    have nd := scChoice.nd
    refine ⟨_, pss_cons (ps_if (PW.pt (pw_or (pt_not (pt_val (pe_callB call_isiT (by rfl) ti boot_isi' (pa_cons (pv 0) (pa_cons (pe_tup (pa_cons (pe_bltn (v := .ty "list") (by rfl) tL boot_list2 rfl) (pa_cons (pe_bltn (v := .ty "tuple") (by rfl) tt boot_tuple' rfl) pa_nil))) pa_nil)))))
        (pw_or1 (pt_not (pt_val (pe_callB (cr_all rfl) (by rfl) ta boot_all' (pa_cons (pe_lc (own := [("word", 2)]) (te := tOp (rIn K false) (tVar 2) (tVar 1)) (g := gName 2) (tt := tYes) rfl nd (pi_or (pi_list (pv 0)) (pi_tup (pv 0))) (blkOk_by (N := nChoice) (sc := defScope sIsChoice) (by decide +kernel))
          (fun _ _ _ _ _ => pg_name (i := 2) nd rfl (Or.inl rfl)) (fun _ _ _ _ _ => pts_nil) (fun _ _ _ _ _ => by exact (pe_cmpR op_in_seq (pv 2) (pv 1) (by rfl)))) pa_nil))))))) pss_dead pss_nil)
      (pss_one (ps_ret (pe_cmpR op_eq (pe_callB cr_lenK (by rfl) tl PySem.boot_len (pa_cons (pe_callTy (cr_setOfK rfl) (by rfl) ts boot_set' (pa_cons (pv 0) pa_nil)) pa_nil)) (pe_callB call_len_seq (by rfl) tl PySem.boot_len (pa_cons (pv 0) pa_nil)) (nomark _)))), ?_⟩
    walk_at "rd"
    refine ⟨Nat.le_trans (show 2 ≤ 100 by decide) (by decide), fun tp htp => ?_⟩
    have s1 : Same H (upd H tp (.tup [V.ty "list", .ty "tuple"])) := (Same.refl H).new htp
    have ct : upd H tp (.tup [V.ty "list", .ty "tuple"]) tp = some (.tup [V.ty "list", .ty "tuple"]) := upd_same
    generalize upd H tp (.tup [V.ty "list", .ty "tuple"]) = H1 at s1 ct
    have hv1 : SqL K H1 v (ws.map V.str) ∨ SqT K H1 v (ws.map V.str) := hv.imp s1.seq s1.sqT
    refine rd_nil (isi_both hv1 ct ⟨true, rfl, ite_no rfl ?_⟩)
    refine rd_not (rd_b (rd_cb (rd_cons ?_)))
    refine seq_both (K := K) (a := v) rfl hv s1 fun J G wk hG D hD => ?_
    refine lc_it wk (fun i H' => Same H1 H' ∧ H' D = some (.lst ((List.replicate i true).map V.bl))) ⟨(Same.refl H1).new hD, upd_same⟩ (fun i H' _ z => hG H' (s1.trans z.1)) ?_ ?_
    · rintro i y H2 H3 hi ⟨s2, c2⟩ ⟨rfl, hy⟩
      obtain ⟨x, hx, rfl⟩ : ∃ x, ws[i]? = some x ∧ y = V.str x := by
        rw [List.getElem?_map] at hy
        cases e : ws[i]? with
        | none => rw [e] at hy; cases hy
        | some n => rw [e] at hy; exact ⟨n, rfl, (Option.some.inj hy).symm⟩
      refine rd_gn ⟨rfl, rd_yes (rd_op (rd_var rfl (rd_var rfl ?_)))⟩
      have s3 := s1.trans s2
      have il : i < ws.length := (List.getElem?_eq_some_iff.mp hx).1
      refine ⟨n, _, rfl, .inl (s3.seq hn), rfl, flat_strs ns, _, c2, ?_, s2.mut hD, ?_⟩
      · rw [List.length_map, List.length_replicate]
        exact Nat.lt_of_le_of_lt (show i ≤ 100 by omega) (by decide)
      · have e1 : inV (.str x) (ns.map V.str) = true := in_strs.mpr (sub x (List.mem_of_getElem? hx))
        simp only [Bool.false_eq_true, if_false]
        rw [upd_same, e1, List.replicate_succ', List.map_append]
        rfl
    · rintro H2 ⟨s2, c2⟩
      refine rd_nil ⟨D, _, rfl, SqL.of c2, true, ?_, ite_no rfl (rd_next ?_)⟩
      · congr 1
        rw [List.all_eq_true]
        intro b hb
        rw [List.eq_of_mem_replicate hb]
        rfl
      have s3 := s1.trans s2
      have hv3 : SqL K H2 v (ws.map V.str) ∨ SqT K H2 v (ws.map V.str) := hv.imp s3.seq s3.sqT
      have kv : ws.map V.str = (ws.map Sum.inr).map kV := by rw [List.map_map]; rfl
      walk_at "rd"
      refine ⟨v, ws.map Sum.inr, rfl, by rw [← kv]; exact hv3, ?_, fun sp hsp => ?_⟩
      · rw [List.length_map]
        exact Nat.lt_of_le_of_lt (show ws.length + 1 ≤ 101 by omega) (by decide)
      generalize hG : upd H2 sp _ = H3
      have s4 : Same H2 H3 := by rw [← hG]; exact (Same.refl H2).new hsp
      have csp : H3 sp = some (SetK P w sp (inK (ws.map Sum.inr)) (uniq (ws.map Sum.inr)).length) := by rw [← hG]; exact upd_same
      clear hG
      refine rd_nil ⟨sp, _, _, rfl, csp, ?_⟩
      walk_at "rd"
      refine ⟨v, _, rfl, hv3.imp s4.seq s4.sqT, rfl, ?_⟩
      have nk : (ws.map Sum.inr : List Key).Nodup := nodup_inr nod
      rw [uniq_eq.mpr nk, List.length_map, List.length_map, decide_eq_true rfl]
      exact k H3 (s3.trans s4)
end
end Gk
/-! ### _groups_of, for sets as they must be -/
namespace Gk
open PySem PySem.W PySem.Spec PyProof.Rows L2 NdefX
abbrev sGroupsOf : Stmt := (top 24)
/-- the places of the names among ns that are in ws, below i -/
def plTo (ns ws : List Str) : Nat → List Int
  | 0 => []
  | i + 1 => plTo ns ws i ++ (match ns[i]? with
    | some x => if inV (.str x) (ws.map V.str) = true then [(i : Int)] else []
    | none => [])
theorem plTo_len (ns ws : List Str) : ∀ i, (plTo ns ws i).length ≤ i
  | 0 => Nat.zero_le _
  | i + 1 => by
    have := plTo_len ns ws i
    unfold plTo
    rw [List.length_append]
    split
    · split
      · simp; omega
      · simp; omega
    · simp; omega
def groupsOf (ns : List Str) (sets : List (Str × List Str)) : List (Str × List Int) := sets.map fun x => (x.1, plTo ns x.2 ns.length)
def SetIn (K : Frag) (H : Hp) (kv : Key × V) (x : Str × List Str) : Prop := kv.1 = .inr x.1 ∧ ∃ l, kv.2 = .ref l ∧ (SqL K H l (x.2.map V.str) ∨ SqT K H l (x.2.map V.str))
structure SetsGood (ns : List Str) (sets : List (Str × List Str)) : Prop where
  few : sets.length ≤ 3
  nd : (sets.map (·.1)).Nodup
  nm : ∀ x ∈ sets, nameB x.1 = true
  sub : ∀ x ∈ sets, ∀ y ∈ x.2, y ∈ ns
  each : ∀ x ∈ sets, x.2.Nodup
  len : ∀ x ∈ sets, x.2.length ≤ 100
def SetsArg (K : Frag) (H : Hp) (v : V) (ns : List Str) (sets : List (Str × List Str)) : Prop := (v = .non ∧ sets = []) ∨ ∃ d kvs, v = .ref d ∧ H d = some (.dK kvs) ∧ Paired (SetIn K H) kvs sets ∧ SetsGood ns sets
def GrpKV (H : Hp) (kv : Key × V) (x : Str × List Int) : Prop := kv.1 = .inr x.1 ∧ ∃ t, kv.2 = .ref t ∧ H t = some (.tup (x.2.map V.int))
def GroupsAt (H : Hp) (q : Addr) (gs : List (Str × List Int)) : Prop := ∃ kvs, H q = some (.dK kvs) ∧ Paired (GrpKV H) kvs gs
def spGroups (K : Frag) : Sp := fun vs H Q _ => ∃ (v : V) (n : Addr) (ns : List Str) (sets : List (Str × List Str)), vs = [v, .ref n] ∧ SqL K H n (ns.map V.str) ∧ ns.length ≤ 16 ∧ SetsArg K H v ns sets ∧
  ∀ (H' : Hp) (q : Addr), Same H H' → H q = none → GroupsAt H' q (groupsOf ns sets) → Q (.ref q) H'
section
variable {P : Program} {w : World} {K : Frag} {mg : Str → Option Value} {base : Heap}
theorem lc_places {H1 : Hp} {n l : Addr} {ns ws : List Str} {s0 s2 s3 s5 s6 : Option V} {Q : VK} (hn : SqL K H1 n (ns.map V.str)) (hl : SqL K H1 l (ws.map V.str) ∨ SqT K H1 l (ws.map V.str)) (z : ns.length ≤ 16)
    (k : ∀ H' q, Same H1 H' → H1 q = none → H' q = some (.lst ((plTo ns ws ns.length).map V.int)) → Q (.ref q) H') :
    tLc (iEnum K (tCons (tVar 1) tNil)) (gTup K 2 (gCons (gName 5) (gCons (gName 6) gNil))) (tTest (tOp (rIn K false) (tVar 6) (tVar 4))) (tVar 5) [5, 6] [s0, some (.ref n), s2, s3, some (.ref l), s5, s6] H1 Q := by
  refine ⟨_, rfl, n, _, rfl, hn, fun D hD => ?_⟩
  refine lc_it (walk_enum (xs := ns.map V.str)) (fun i H => Same H1 H ∧ H D = some (.lst ((plTo ns ws i).map V.int))) ⟨(Same.refl H1).new hD, upd_same⟩ (fun i H _ z => z.1.seq hn) ?_ ?_
  · rintro i y H2 H3 hi ⟨s1, c1⟩ ⟨T, y1, y2, rfl, hT, rfl, e1, e2⟩
    obtain rfl := Option.some.inj e1
    have e2 : (ns.map V.str)[i]? = some y2 := e2
    obtain ⟨x, hx, rfl⟩ : ∃ x, ns[i]? = some x ∧ y2 = V.str x := by
      rw [List.getElem?_map] at e2
      cases e : ns[i]? with
      | none => rw [e] at e2; cases e2
      | some n => rw [e] at e2; exact ⟨n, rfl, (Option.some.inj e2).symm⟩
    have il : i < ns.length := (List.getElem?_eq_some_iff.mp hx).1
    have s2 : Same H2 (upd H2 T (.tup [V.int (i : Nat), V.str x])) := (Same.refl H2).new hT
    have cT : upd H2 T (.tup [V.int (i : Nat), V.str x]) T = some (.tup [V.int (i : Nat), V.str x]) := upd_same
    generalize upd H2 T (.tup [V.int (i : Nat), V.str x]) = H4 at s2 cT ⊢
    have c4 := s2 _ _ c1
    have s4 := s1.trans s2
    refine ⟨T, _, rfl, SqT.of cT, rfl, _, _, rfl, _, _, rfl, rfl, rfl, ?_⟩
    have ep : plTo ns ws (i + 1) = plTo ns ws i ++ (if inV (.str x) (ws.map V.str) = true then [(i : Int)] else []) := by
      show plTo ns ws i ++ (match ns[i]? with | some x => _ | none => _) = _
      rw [hx]
    refine ⟨_, rfl, _, rfl, l, _, rfl, hl.imp s4.seq s4.sqT, rfl, flat_strs ws, _, rfl, ?_⟩
    simp only [Bool.false_eq_true, if_false]
    refine ite2 (fun c => ?_) (fun c => ?_)
    · rw [c, if_pos rfl] at ep
      refine ⟨_, rfl, _, c4, ?_, s4.mut hD, ?_⟩
      · have := plTo_len ns ws i
        rw [List.length_map]
        exact Nat.lt_of_le_of_lt (show _ ≤ 16 by omega) (by decide)
      · rw [upd_same, ep, List.map_append]
        rfl
    · rw [if_neg c, List.append_nil] at ep
      exact ⟨s4, by rw [ep]; exact c4⟩
  · rintro H2 ⟨s1, c1⟩
    rw [List.length_map] at c1
    exact k H2 D s1 hD c1
theorem seq_far {H H' : Hp} {l d : Addr} {xs : List V} {kvs : List (Key × V)} (hq : SqL K H l xs ∨ SqT K H l xs) (hd : H d = some (.dK kvs)) (far : ∀ b u, b ≠ d → H b = some u → H' b = some u) : SqL K H' l xs ∨ SqT K H' l xs := by
  rcases hq with ((h | ⟨u, h⟩) | h) | ((h | ⟨u, h⟩) | h)
  · exact .inl (.inl (.inl (far _ _ (ne_of h hd fun z => by cases z) h)))
  · exact .inl (.inl (.inr ⟨u, far _ _ (ne_of h hd fun z => by cases z) h⟩))
  · exact .inl (.inr h)
  · exact .inr (.inl (.inl (far _ _ (ne_of h hd fun z => by cases z) h)))
  · exact .inr (.inl (.inr ⟨u, far _ _ (ne_of h hd fun z => by cases z) h⟩))
  · exact .inr (.inr h)
theorem seqL_far {H H' : Hp} {l d : Addr} {xs : List V} {kvs : List (Key × V)} (hq : SqL K H l xs) (hd : H d = some (.dK kvs)) (far : ∀ b u, b ≠ d → H b = some u → H' b = some u) : SqL K H' l xs := by
  rcases hq with (h | ⟨u, h⟩) | h
  · exact .inl (.inl (far _ _ (ne_of h hd fun z => by cases z) h))
  · exact .inl (.inr ⟨u, far _ _ (ne_of h hd fun z => by cases z) h⟩)
  · exact .inr h
theorem GrpKV.far {H H' : Hp} {d : Addr} {o : HO} {kv : Key × V} {x : Str × List Int} (h : GrpKV H kv x) (hd : H d = some o) (no : ∀ xs, o ≠ .tup xs) (far : ∀ b u, b ≠ d → H b = some u → H' b = some u) : GrpKV H' kv x := by
  obtain ⟨e, t, e2, h1⟩ := h
  exact ⟨e, t, e2, far _ _ (ne_of h1 hd fun z => no _ z.symm) h1⟩
theorem grp_none {H : Hp} {n : Str} : ∀ {kvs : List (Key × V)} {gs : List (Str × List Int)}, Paired (GrpKV H) kvs gs → n ∉ gs.map (·.1) → valV kvs (.inr n : Key) = none
  | _, _, .nil, _ => rfl
  | (k, v) :: kvs, x :: gs, .cons r t, h => by
    have e : k = .inr x.1 := r.1
    rw [valV_neg (by rw [e]; exact fun z => h (by rw [List.map_cons]; exact List.mem_cons.mpr (.inl (Sum.inr.inj z).symm)))]
    exact grp_none t fun z => h (List.mem_cons_of_mem _ z)
abbrev nGroups : List Str := ["sets", "names", "groups", "key", "entry", "place", "name"]
theorem scGroups : FnScope nGroups ["sets", "names"] (defScope sGroupsOf) := ⟨rfl, rfl, rfl, by decide +kernel, rfl, by decide +kernel, by decide +kernel⟩
theorem boot_dict' : bootBuiltins "dict" = some (.type "dict") := by decide +kernel
theorem ok_groups {f fN fC : Addr} {fd fdN fdC : FuncData} (F : Fun K "_groups_of" "_groups_of" sGroupsOf f fd) (ti : mg "isinstance" = none) (td : mg "dict" = none) (tl : mg "len" = none) (tt : mg "tuple" = none) (te : mg "enumerate" = none) {t3 : Tok} (g3 : mg "MOST_SETS" = some (.int 3 t3))
    (GN : FnOk P w K mg base CX0 1 fN fdN ["value"] (spIsName K)) (bN : Binds K fdN ["value"] []) (gN : mg "is_name" = some (.ref fN)) (kN : PySem.W.keepIn K (.ref fN) = true)
    (GC : FnOk P w K mg base CX0 1 fC fdC ["value", "names"] (spChoice K)) (bC : Binds K fdC ["value", "names"] []) (gC : mg "_is_choice" = some (.ref fC)) (kC : PySem.W.keepIn K (.ref fC) = true) : FnOk P w K mg base CX0 2 f fd ["sets", "names"] (spGroups K) := by
  refine F.ok scGroups (fun vs H Q E h => ?_) (fun cdv A outer s H vs Q E hr h => ?_)
  · obtain ⟨v, n, ns, sets, rfl, _⟩ := h
    rfl
  · obtain ⟨v, n, ns, sets, rfl, hn, lns, hA, k⟩ := h
    have nd := scGroups.nd
    have hu := hu_of hr
    refine ⟨_, pss_cons (ps_if (pt_cmp (pc_isN (pv 0))) (pss_one (ps_ret pe_dnewK)) pss_nil)
      (pss_cons (ps_if (PW.pt (pw_or (pt_not (pt_val (pe_callB call_isi (by rfl) ti boot_isi' (pa_cons (pv 0) (pa_cons (pe_bltn (v := .ty "dict") (by rfl) td boot_dict' rfl) pa_nil)))))
          (pw_or1 (pt_cmpR op_gt (pe_callB call_lenD (by rfl) tl PySem.boot_len (pa_cons (pv 0) pa_nil)) (pe_glob (v := .int 3) (by rfl) g3 ⟨_, rfl⟩) (nomark _))))) pss_dead pss_nil)
      (pss_cons (ps_set (i := 2) nd rfl (Or.inl rfl) pe_dnewK)
      (pss_cons (ps_lock (ps_for PassesOwn.never rfl (pi_items (pv 0)) (pg_tup rfl (pgs_cons (pg_name (i := 3) nd rfl (Or.inl rfl)) (pgs_cons (pg_name (i := 4) nd rfl (Or.inr rfl)) pgs_nil)))
        (pss_cons (ps_if (PW.pt (pw_or (pt_not (pt_val (pe_call GN hr (by rfl) gN kN bN .nil pass0 (pa_cons (pv 3) pa_nil)))) (pw_or1 (pt_not (pt_val (pe_call GC hr (by rfl) gC kC bC .nil pass0 (pa_cons (pv 4) (pa_cons (pv 1) pa_nil)))))))) pss_dead pss_nil)
        (pss_one (ps_asg (by exact (pe_callTy call_tuple_of (by rfl) tt boot_tuple' (pa_cons (pe_lc (own := [("place", 5), ("name", 6)]) (te := tVar 5) (g := gTup K 2 (gCons (gName 5) (gCons (gName 6) gNil))) (tt := tTest (tOp (rIn K false) (tVar 6) (tVar 4))) rfl nd (pi_enum (by rfl) te (pa_cons (pv 1) pa_nil)) (blkOk_by (N := nGroups) (sc := defScope sGroupsOf) (by decide +kernel))
          (fun _ _ _ _ _ => pg_tup rfl (pgs_cons (pg_name (i := 5) nd rfl (Or.inl rfl)) (pgs_cons (pg_name (i := 6) nd rfl (Or.inl rfl)) pgs_nil))) (fun _ _ _ _ _ => by exact (pts_one (pt_cmpR op_in_seq (pv 6) (pv 4) (by rfl)))) (fun _ _ _ _ _ => by exact (pv 5))) pa_nil))) (by exact (pg_sub (pv 2) (pv 3) (L2.set_dict hu))))))))
      (pss_one (ps_ret (pv 2)))))), ?_⟩
    refine rd_seq (rd_if ?_)
    rcases hA with ⟨rfl, rfl⟩ | ⟨d, kvs, rfl, hd, pd, ok⟩
    · refine ⟨_, rfl, _, rfl, ite_yes rfl (rd_ret fun p hp => ?_)⟩
      exact k _ p ((Same.refl H).new hp) hp ⟨[], upd_same, .nil⟩
    refine ⟨_, rfl, _, rfl, ite_no rfl (rd_next ?_)⟩
    walk_at "rd"
    refine (AnyV.dic d kvs hd).isi (b := true) (by decide +kernel) ⟨true, rfl, ite_no rfl ?_⟩
    have lk : kvs.length ≤ 3 := by have := paired_len pd; have := ok.few; omega
    refine rd_test (rd_op (rd_cb (rd_cons (rd_var rfl (rd_nil ⟨d, kvs, rfl, hd, rd_c ⟨_, _, rfl, rfl, _, rfl, ite_no (by rw [decide_eq_false_iff_not]; omega) (rd_next ?_)⟩⟩)))))
    walk_at "rd"
    intro g hg
    have s1 : Same H (upd H g (.dK [])) := (Same.refl H).new hg
    have cg : upd H g (.dK []) g = some (.dK []) := upd_same
    have ndg : d ≠ g := ne_of_none hd hg
    generalize upd H g (.dK []) = H1 at s1 cg
    refine rd_gn (rd_seq ⟨d, _, s1 _ _ hd, trivial, fun od => ?_⟩)
    have nd1 : H1 d = some (.dK kvs) := s1 _ _ hd
    have far0 : ∀ b u, b ≠ d → H b = some u → upd H1 d (.frz od (.dK kvs)) b = some u := fun b u e z => by rw [upd_ne e]; exact s1 b u z
    have cd : upd H1 d (.frz od (.dK kvs)) d = some (.frz od (.dK kvs)) := upd_same
    have cg : upd H1 d (.frz od (.dK kvs)) g = some (.dK []) := by rw [upd_ne ndg.symm]; exact cg
    generalize upd H1 d (.frz od (.dK kvs)) = H2 at far0 cd cg
    refine ⟨_, rfl, d, od, kvs, rfl, cd, ?_⟩
    refine for_it (walk_items (d := d) (o := od) (kvs := kvs)) (fun i σ H' => ∃ v3 v4 v5 v6 gk, σ = [some (.ref d), some (.ref n), some (.ref g), v3, v4, v5, v6] ∧ (∀ b u, b ≠ d → H b = some u → H' b = some u) ∧ H' d = some (.frz od (.dK kvs)) ∧ H' g = some (.dK gk) ∧ Paired (GrpKV H') gk (groupsOf ns (sets.take i)))
      ⟨_, _, _, _, [], rfl, far0, cd, cg, .nil⟩ ?_ ?_ ?_
    · rintro i σ H' _ ⟨v3, v4, v5, v6, gk, rfl, _, c, _⟩
      exact c
    · rintro i y σ Ha Hb hi ⟨v3, v4, v5, v6, gk, rfl, far, cd, cg, pg⟩ ⟨T, y1, y2, rfl, hT, rfl, e1, e2⟩
      obtain ⟨kv, hkv⟩ : ∃ kv, kvs[i]? = some kv := ⟨_, List.getElem?_eq_getElem hi⟩
      have e1 : kvs[i]?.map (fun kv => kV kv.1) = some y1 := e1
      have e2 : kvs[i]?.map Prod.snd = some y2 := e2
      rw [hkv] at e1 e2
      obtain rfl := Option.some.inj e1
      obtain rfl := Option.some.inj e2
      obtain ⟨x, hx, ekey, l, eval, hl⟩ := paired_left pd hkv
      have il : i < sets.length := (List.getElem?_eq_some_iff.mp hx).1
      have mem := List.mem_of_getElem? hx
      have q2 : Same Ha (upd Ha T (.tup [kV kv.1, kv.2])) := (Same.refl Ha).new hT
      have cT : upd Ha T (.tup [kV kv.1, kv.2]) T = some (.tup [kV kv.1, kv.2]) := upd_same
      generalize upd Ha T (.tup [kV kv.1, kv.2]) = Hc at q2 cT ⊢
      refine ⟨T, _, rfl, SqT.of cT, rfl, _, _, rfl, _, _, rfl, rfl, ?_⟩
      rw [ekey, eval]
      have farc : ∀ b u, b ≠ d → H b = some u → Hc b = some u := fun b u e z => q2 b u (far b u e z)
      have okn := ok.nm x mem
      refine rd_seq (rd_if (rd_or (rd_not (rd_b (rd_call (rd_cons (rd_var rfl (rd_nil ⟨.str x.1, "str", rfl, .str _ (nameB_len okn), fun H3 s3 => ⟨true, by rw [← okn]; rfl, ite_no rfl ?_⟩⟩))))))))
      have far3 : ∀ b u, b ≠ d → H b = some u → H3 b = some u := fun b u e z => s3 b u (farc b u e z)
      refine rd_not (rd_b (rd_call (rd_cons (rd_var rfl (rd_cons (rd_var rfl (rd_nil ⟨l, n, x.2, ns, rfl, seq_far hl hd far3, seqL_far hn hd far3, ok.sub x mem, ok.each x mem, ok.len x mem, fun H4 s4 => ⟨true, rfl, ite_no rfl (rd_next ?_)⟩⟩)))))))
      have far4 : ∀ b u, b ≠ d → H b = some u → H4 b = some u := fun b u e z => s4 b u (far3 b u e z)
      have s4 : Same Ha H4 := q2.trans (s3.trans s4)
      walk_at "rd"
      refine lc_places (K := K) (seqL_far hn hd far4) (seq_far hl hd far4) lns fun H5 q s5 nq c5 => ?_
      refine rd_nil ⟨q, _, rfl, .inl ⟨SqL.of c5, fun t ht => ?_⟩⟩
      have s6 : Same H5 (upd H5 t (.tup ((plTo ns x.2 ns.length).map V.int))) := (Same.refl H5).new ht
      have c6 : upd H5 t (.tup ((plTo ns x.2 ns.length).map V.int)) t = some (.tup ((plTo ns x.2 ns.length).map V.int)) := upd_same
      generalize upd H5 t (.tup ((plTo ns x.2 ns.length).map V.int)) = H6 at s6 c6
      have sA : Same Ha H6 := s4.trans (s5.trans s6)
      have cg6 := sA _ _ cg
      have cd6 := sA _ _ cd
      have lg : gk.length ≤ 3 := by
        have h1 := paired_len pg
        have h2 := ok.few
        unfold groupsOf at h1
        rw [List.length_map, List.length_take] at h1
        omega
      have fresh : x.1 ∉ (groupsOf ns (sets.take i)).map (·.1) := by
        have e3 : (groupsOf ns (sets.take i)).map (·.1) = (sets.map (·.1)).take i := by unfold groupsOf; rw [List.map_map, List.map_take]; rfl
        rw [e3]
        intro hm
        obtain ⟨j, hj⟩ := List.mem_iff_getElem?.mp hm
        rw [List.getElem?_take] at hj
        split at hj
        · have hx1 : (sets.map (·.1))[i]? = some x.1 := by rw [List.getElem?_map, hx]; rfl
          have := (List.getElem?_inj (by rw [List.length_map]; omega) ok.nd).mp (hj.trans hx1.symm)
          omega
        · cases hj
      have pg6 : Paired (GrpKV H6) gk (groupsOf ns (sets.take i)) := paired_map (fun kv y z => by obtain ⟨e, t, e2, h1⟩ := z; exact ⟨e, t, e2, sA _ _ h1⟩) pg
      refine ⟨_, rfl, _, rfl, g, _, rfl, DPut.k (k := .inr x.1) cg6 (Nat.lt_of_le_of_lt lg (by decide)), ?_⟩
      rw [putK_new _ (grp_none pg6 fresh)]
      have hg0 : H g = none := hg
      refine ⟨_, _, _, _, gk ++ [(.inr x.1, .ref t)], rfl, fun b u e z => ?_, by rw [upd_ne ndg]; exact cd6, upd_same, ?_⟩
      · rw [upd_ne (ne_of_none z hg0)]
        exact sA b u (far b u e z)
      · have et : groupsOf ns (sets.take (i + 1)) = groupsOf ns (sets.take i) ++ [(x.1, plTo ns x.2 ns.length)] := by
          unfold groupsOf
          rw [List.take_add_one, hx, List.map_append]
          rfl
        rw [et]
        have up : ∀ b u, b ≠ g → H6 b = some u → upd H6 g (.dK (gk ++ [(.inr x.1, .ref t)])) b = some u := fun b u e z => by rw [upd_ne e]; exact z
        exact paired_more ⟨rfl, t, rfl, up _ _ (ne_of c6 cg6 fun z => by cases z) c6⟩ (paired_map (fun kv y z => z.far cg6 (fun xs z => by cases z) up) pg6)
    · rintro σ H' ⟨v3, v4, v5, v6, gk, rfl, far, cd, cg, pg⟩
      rw [show sets.take kvs.length = sets by rw [paired_len pd, List.take_length]] at pg
      refine ⟨cd, _, rfl, k _ g (fun b u e => ?_) hg ⟨gk, by rw [upd_ne ndg.symm]; exact cg, paired_map (fun kv y z => z.far cd (fun xs z => by cases z) fun b u e z => by rw [upd_ne e]; exact z) pg⟩⟩
      by_cases hb : b = d
      · subst hb
        rw [upd_same, ← e, hd]
      · rw [upd_ne hb]
        exact far b u hb e
end
end Gk
/-! ### Edition.__init__ and the property names -/
namespace Gk
open PySem PySem.W PySem.Spec PyProof.Rows L2 NdefX
abbrev sEdInit : Stmt := (inClass (top 21) 0)
abbrev sEdNames : Stmt := (inClass (top 21) 1)
def spEdNames (C : Addr) : Sp := fun vs H Q _ => ∃ (x dx r : Addr) (fs : List (Str × V)) (rows : List Row), vs = [.ref x] ∧ H x = some (.ins C dx fs) ∧ fs.lookup ("_rows" : Str) = some (V.ref r) ∧ RowsAt H r rows ∧ rows.length ≤ 16 ∧
  ∀ (H' : Hp) (q : Addr), Same H H' → H q = none → H' q = some (.lst ((rows.map (·.name)).map V.str)) → Q (.ref q) H'
/-- what the text says of the class -/
structure EdTxt (K : Frag) (C : Addr) : Prop where
  cl : Cls K C
  nR : NoAttr K C "_rows"
  nG : NoAttr K C "_groups"
  nP : NoAttr K C "_places"
  nN : NoAttr K C "_numbers"
section
variable {P : Program} {w : World} {K : Frag} {mg : Str → Option Value} {base : Heap}
theorem scEdNames : FnScope ["self", "row"] ["self"] (defScope sEdNames) := ⟨rfl, rfl, rfl, by decide +kernel, rfl, by decide +kernel, by decide +kernel⟩
theorem ok_ednames {f C : Addr} {fd : FuncData} (F : Fun K "names" "Edition.names" sEdNames f fd) (T : EdTxt K C) : FnOk P w K mg base CX0 1 f fd ["self"] (spEdNames C) := by
  refine F.ok scEdNames (fun vs H Q E h => ?_) (fun cdv A outer s H vs Q E hr h => ?_)
  · obtain ⟨x, dx, r, fs, rows, rfl, _⟩ := h
    rfl
  · obtain ⟨x, dx, r, fs, rows, rfl, hx, hf, hR, l16, k⟩ := h
    have nd := scEdNames.nd
    refine ⟨_, pss_one (ps_ret (pe_lc (own := [("row", 1)]) (te := tOp (rIxT K) (tVar 1) (tC (.int 0))) (g := gName 1) (tt := tYes) rfl nd (pi_list (pe_fld (pv 0) rfl)) (blkOk_by (N := ["self", "row"]) (sc := defScope sEdNames) (by decide +kernel)) (fun _ _ _ _ _ => pg_name (i := 1) nd rfl (Or.inl rfl))
      (fun _ _ _ _ _ => pts_nil) (fun _ _ _ _ _ => by exact (pe_ix ix_tup (pv 1) pe_int (fun _ _ => rfl))))), ?_⟩
    obtain ⟨vs, c1, hv⟩ := id hR
    have len := paired_len hv
    refine ⟨_, rfl, x, C, dx, fs, _, rfl, hx, T.cl, T.nR, hf, r, rfl, ⟨vs, SqL.of c1⟩, fun D hD => ?_⟩
    refine lc_list (K := K) (a := r) (xs := vs) (fun i H' => Same H H' ∧ H' D = some (.lst (((rows.take i).map (·.name)).map V.str))) ⟨(Same.refl H).new hD, upd_same⟩ (fun i H' _ z => SqL.of (z.1 _ _ c1)) ?_ ?_
    · rintro i v H1 hi ⟨s1, c2⟩
      obtain ⟨y, hy, t, a, rfl, ht, ha⟩ := paired_left hv hi
      have il : i < rows.length := (List.getElem?_eq_some_iff.mp hy).1
      refine rd_gn ⟨rfl, rd_yes (rd_op (rd_var rfl (rd_c ⟨t, _, _, _, rfl, rfl, SqT.of (s1 _ _ ht), rfl, _, c2, ?_, s1.mut hD, ?_⟩)))⟩
      · rw [List.length_map, List.length_map, List.length_take]
        exact Nat.lt_of_le_of_lt (show min i rows.length ≤ 16 by omega) (by decide)
      · rw [upd_same, List.take_add_one, hy, List.map_append, List.map_append]
        rfl
    · rintro H1 ⟨s1, c2⟩
      rw [len, List.take_length] at c2
      exact k H1 D s1 hD c2
abbrev nEdInit : List Str := ["self", "members", "sets", "place", "row", "word"]
theorem scEdInit : FnScope nEdInit ["self", "members", "sets"] (defScope sEdInit) := ⟨rfl, rfl, rfl, by decide +kernel, rfl, by decide +kernel, by decide +kernel⟩
def plKV (rows : List Row) : Nat → List (Key × V)
  | 0 => []
  | i + 1 => plKV rows i ++ (match rows[i]? with
    | some r => (r.name :: r.al).map fun y => (Sum.inr y, V.int (i : Nat))
    | none => [])
def nuKV (rows : List Row) : Nat → List (Key × V)
  | 0 => []
  | i + 1 => nuKV rows i ++ (match rows[i]? with
    | some r => [(Sum.inl r.num, V.int (i : Nat))]
    | none => [])
def edFs (r g pl nu : Addr) : List (Str × V) := putF "_numbers" (.ref nu) (putF "_places" (.ref pl) (putF "_groups" (.ref g) (putF "_rows" (.ref r) [])))
/-- an edition with these rows and groups -/
structure EdAt (C : Addr) (H : Hp) (x : Addr) (rows : List Row) (gs : List (Str × List Int)) : Prop where
  ob : ∃ dx r g pl nu, H x = some (.ins C dx (edFs r g pl nu)) ∧ RowsAt H r rows ∧ GroupsAt H g gs ∧ H pl = some (.dK (plKV rows rows.length)) ∧ H nu = some (.dK (nuKV rows rows.length))
/-- all but x stands as it stood -/
def But (x : Addr) (H H' : Hp) : Prop := ∀ b u, b ≠ x → H b = some u → H' b = some u
theorem But.same {x : Addr} {H H1 H2 : Hp} (a : But x H H1) (s : Same H1 H2) : But x H H2 := fun b u n e => s b u (a b u n e)
theorem But.trans {x : Addr} {H H1 H2 : Hp} (a : But x H H1) (c : But x H1 H2) : But x H H2 := fun b u n e => c b u n (a b u n e)
theorem But.of {x : Addr} {H : Hp} {o : HO} : But x H (upd H x o) := fun b u n e => by rw [upd_ne n]; exact e
theorem But.keep {x b C dx : Addr} {fs : List (Str × V)} {H H1 : Hp} {o : HO} (a : But x H H1) (hx : H x = some (.ins C dx fs)) (e : H b = some o) (n : ∀ C dx fs, o ≠ .ins C dx fs) : H1 b = some o := a b o (ne_of e hx (n _ _ _)) e
theorem RowsAt.but {x r C dx : Addr} {fs : List (Str × V)} {H H1 : Hp} {rows : List Row} (h : RowsAt H r rows) (a : But x H H1) (hx : H x = some (.ins C dx fs)) : RowsAt H1 r rows := by
  obtain ⟨vs, h1, h2⟩ := h
  refine ⟨vs, a.keep hx h1 (fun _ _ _ z => by cases z), paired_map (fun v y z => ?_) h2⟩
  obtain ⟨t, b, e, g1, g2⟩ := z
  exact ⟨t, b, e, a.keep hx g1 (fun _ _ _ z => by cases z), a.keep hx g2 (fun _ _ _ z => by cases z)⟩
theorem GroupsAt.but {x q C dx : Addr} {fs : List (Str × V)} {H H1 : Hp} {gs : List (Str × List Int)} (h : GroupsAt H q gs) (a : But x H H1) (hx : H x = some (.ins C dx fs)) : GroupsAt H1 q gs := by
  obtain ⟨kvs, h1, h2⟩ := h
  refine ⟨kvs, a.keep hx h1 (fun _ _ _ z => by cases z), paired_map (fun v y z => ?_) h2⟩
  obtain ⟨e, t, e2, g1⟩ := z
  exact ⟨e, t, e2, a.keep hx g1 (fun _ _ _ z => by cases z)⟩
theorem seq_but {K : Frag} {x l C dx : Addr} {fs : List (Str × V)} {xs : List V} {H H1 : Hp} (hq : SqL K H l xs ∨ SqT K H l xs) (a : But x H H1) (hx : H x = some (.ins C dx fs)) : SqL K H1 l xs ∨ SqT K H1 l xs := by
  rcases hq with ((h | ⟨u, h⟩) | h) | ((h | ⟨u, h⟩) | h)
  · exact .inl (.inl (.inl (a.keep hx h (fun _ _ _ z => by cases z))))
  · exact .inl (.inl (.inr ⟨u, a.keep hx h (fun _ _ _ z => by cases z)⟩))
  · exact .inl (.inr h)
  · exact .inr (.inl (.inl (a.keep hx h (fun _ _ _ z => by cases z))))
  · exact .inr (.inl (.inr ⟨u, a.keep hx h (fun _ _ _ z => by cases z)⟩))
  · exact .inr (.inr h)
theorem SetsArg.but {K : Frag} {x C dx : Addr} {fs : List (Str × V)} {H H1 : Hp} {v : V} {ns : List Str} {sets : List (Str × List Str)} (h : SetsArg K H v ns sets) (a : But x H H1) (hx : H x = some (.ins C dx fs)) : SetsArg K H1 v ns sets := by
  rcases h with h | ⟨d, kvs, e, hd, pd, ok⟩
  · exact .inl h
  · exact .inr ⟨d, kvs, e, a.keep hx hd (fun _ _ _ z => by cases z), paired_map (fun kv y z => by obtain ⟨e, l, e2, h1⟩ := z; exact ⟨e, l, e2, seq_but h1 a hx⟩) pd, ok⟩
theorem names_sorted {rows rows' : List Row} (h : Paired SortedRow rows rows') : rows'.map (·.name) = rows.map (·.name) := by
  induction h with
  | nil => rfl
  | cons r t ih => rw [List.map_cons, List.map_cons, ih, r.nm]
theorem walk_any {J : It} {n : Nat} {G : Hp → Prop} {Y : Nat → Hp → V → Hp → Prop} (wk : Walk J n G Y) {H0 : Hp} {Qd : Hp → Prop} {B : (Hp → Prop) → V → Hp → Prop} (Pv : Nat → Hp → Prop) (h0 : Pv 0 H0) (hG : ∀ i H, i ≤ n → Pv i H → G H)
    (hs : ∀ i x H H', i < n → Pv i H → Y i H x H' → B (Pv (i + 1)) x H') (hd : ∀ H, Pv n H → Qd H) :
    ∃ W : Nat → Nat → Hp → Prop, (∃ m, W 0 m H0) ∧ ∀ i m H, W i m H → (J.stop i H ∧ Qd H) ∨ (J.go i H ∧ ∃ Nx : Hp → Prop, (∀ H', Nx H' → ∃ m', m' < m ∧ W (i + 1) m' H') ∧ ∀ x H', J.yld i H x H' → B Nx x H') := by
  refine ⟨fun i m H => m = n - i ∧ i ≤ n ∧ Pv i H, ⟨n, by simp, Nat.zero_le _, h0⟩, ?_⟩
  rintro i m H ⟨rfl, hi, p⟩
  have q := hG i H hi p
  by_cases lt : i < n
  · exact .inr ⟨wk.goes i H lt q, Pv (i + 1), fun H' p' => ⟨n - (i + 1), by omega, rfl, lt, p'⟩, fun x H' y => hs i x H H' lt p (wk.yields i H x H' lt q y)⟩
  · obtain rfl : i = n := by omega
    exact .inl ⟨wk.stops H q, hd H p⟩
theorem marks_cons (x : Row) (l : List Row) : marksOf (x :: l) = marksOf [x] ++ marksOf l := by
  rw [← List.singleton_append]
  unfold marksOf
  rw [List.flatMap_append]
theorem marks_perm {rows rows' : List Row} (h : Paired SortedRow rows rows') : (marksOf rows').Perm (marksOf rows) := by
  induction h with
  | nil => exact List.Perm.refl _
  | @cons x y l l' r t ih =>
    rw [marks_cons x, marks_cons y]
    refine List.Perm.append ?_ ih
    simp only [marksOf, List.flatMap_cons, List.flatMap_nil, List.append_nil, r.nm, r.num]
    exact ((r.perm.map Sum.inr).cons _).append_right _
theorem marks_split {rows : List Row} {i : Nat} {x : Row} (hx : rows[i]? = some x) : ∃ post, marksOf rows = marksOf (rows.take i) ++ (marksOf [x] ++ post) := by
  refine ⟨marksOf (rows.drop (i + 1)), ?_⟩
  have e : rows = rows.take i ++ (x :: rows.drop (i + 1)) := by
    have h := List.take_append_drop i rows
    have lt := (List.getElem?_eq_some_iff.mp hx).1
    rw [List.drop_eq_getElem_cons lt, (List.getElem?_eq_some_iff.mp hx).2] at h
    exact h.symm
  conv => lhs; rw [e]
  rw [← marks_cons]
  unfold marksOf
  rw [List.flatMap_append]
theorem pl_keys (rows : List Row) : ∀ i, ∀ k ∈ (plKV rows i).map (·.1), k ∈ marksOf (rows.take i)
  | 0 => fun k h => by cases h
  | i + 1 => fun k h => by
    unfold plKV at h
    rw [List.map_append] at h
    rw [List.take_add_one]
    rcases List.mem_append.mp h with h | h
    · have := pl_keys rows i k h
      unfold marksOf at this ⊢
      rw [List.flatMap_append]
      exact List.mem_append_left _ this
    · cases e : rows[i]? with
      | none => rw [e] at h; cases h
      | some x =>
        rw [e] at h
        simp only [List.map_map] at h
        obtain ⟨y, hy, rfl⟩ := List.mem_map.mp h
        unfold marksOf
        rw [List.flatMap_append]
        refine List.mem_append_right _ ?_
        simp only [Option.toList, List.flatMap_cons, List.flatMap_nil, List.append_nil]
        refine List.mem_append_left _ ?_
        rcases List.mem_cons.mp hy with rfl | hy
        · exact List.mem_cons_self
        · exact List.mem_cons_of_mem _ (List.mem_map_of_mem hy)
theorem pl_size (rows : List Row) (h : ∀ x ∈ rows, x.al.length < 20) : ∀ i, (plKV rows i).length ≤ i * 21
  | 0 => Nat.zero_le _
  | i + 1 => by
    have ih := pl_size rows h i
    unfold plKV
    rw [List.length_append]
    cases e : rows[i]? with
    | none => simp; omega
    | some x =>
      have := h x (List.mem_of_getElem? e)
      simp
      omega
theorem nu_keys (rows : List Row) : ∀ i, ∀ k ∈ (nuKV rows i).map (·.1), k ∈ marksOf (rows.take i)
  | 0 => fun k h => by cases h
  | i + 1 => fun k h => by
    unfold nuKV at h
    rw [List.map_append] at h
    rw [List.take_add_one]
    rcases List.mem_append.mp h with h | h
    · have := nu_keys rows i k h
      unfold marksOf at this ⊢
      rw [List.flatMap_append]
      exact List.mem_append_left _ this
    · cases e : rows[i]? with
      | none => rw [e] at h; cases h
      | some x =>
        rw [e] at h
        obtain rfl := List.mem_singleton.mp h
        unfold marksOf
        rw [List.flatMap_append]
        refine List.mem_append_right _ ?_
        simp
theorem nu_size (rows : List Row) : ∀ i, (nuKV rows i).length ≤ i
  | 0 => Nat.zero_le _
  | i + 1 => by
    have ih := nu_size rows i
    unfold nuKV
    rw [List.length_append]
    cases rows[i]? with
    | none => simp; omega
    | some x => simp; omega
theorem nodup_of_inr : ∀ {ws : List Str}, (ws.map Sum.inr : List Key).Nodup → ws.Nodup
  | [], _ => List.nodup_nil
  | x :: ws, h => by
    rw [List.map_cons, List.nodup_cons] at h
    rw [List.nodup_cons]
    exact ⟨fun z => h.1 (List.mem_map_of_mem z), nodup_of_inr h.2⟩
def spEdInit (K : Frag) (C : Addr) : Sp := fun vs H Q _ => ∃ (x dx m : Addr) (v : V) (rows : List Row) (sets : List (Str × List Str)), vs = [.ref x, .ref m, v] ∧ H x = some (.ins C dx []) ∧ MembersK K H m rows ∧ RowsOk rows ∧ SetsArg K H v (rows.map (·.name)) sets ∧
  ∀ H' rows', But x H H' → Paired SortedRow rows rows' → EdAt C H' x rows' (groupsOf (rows.map (·.name)) sets) → Q .non H'
/-- a def with defaults, by its body -/
theorem fund_ok {x qual : Str} {st : Stmt} {dvs : List V} {kws : List (Str × V)} {f : Addr} {fd : FuncData} {N ps : List Str} {k : Nat} {sp : Sp} (F : FunD K x qual (defArgs st) (defBody st) (defScope st) dvs kws f fd) (S : FnScope N ps (defScope st)) (len : ∀ vs H Q E, sp vs H Q E → vs.length = ps.length)
    (hbody : ∀ (cdv : Value) (A : Around) (outer : List Env) (s : Shared) (H : Hp) (vs : List V) (Q : VK) (E : XK), Room k (A.deeper (envOfC qual (defScope st) s.heap.objs.size f cdv)) → sp vs H Q E →
      ∃ t, PSs (cxOf CX0 P w K mg base N qual (defScope st) f cdv A outer s H E).nox (defBody st) t ∧ t { nx := fun _ H' => Q .non H', rt := Q } (L2.start N vs) H) : FnOk P w K mg base CX0 (k + 1) f fd ps sp := by
  obtain ⟨oc, od, dV, kV, doc, pm, an, cdv, ct, osl, rfl, lk, hcd, _⟩ := F.ex
  refine fn_of lk hcd S len fun A outer s H vs Q E hr hsp => ?_
  obtain ⟨t, h, q⟩ := hbody cdv A outer s H vs Q E hr hsp
  exact ⟨t, h.nox, q⟩
theorem ok_edinit {f C fR fG fN pN : Addr} {fd fdR fdG fdN : FuncData} (F : FunD K "__init__" "Edition.__init__" (defArgs sEdInit) (defBody sEdInit) (defScope sEdInit) [.non] [] f fd) (T : EdTxt K C) (te : mg "enumerate" = none)
    (GR : FnOk P w K mg base CX0 3 fR fdR ["members"] (spRowsOf K)) (bR : Binds K fdR ["members"] []) (gR : mg "_rows_of" = some (.ref fR)) (kR : PySem.W.keepIn K (.ref fR) = true)
    (GG : FnOk P w K mg base CX0 2 fG fdG ["sets", "names"] (spGroups K)) (bG : Binds K fdG ["sets", "names"] []) (gG : mg "_groups_of" = some (.ref fG)) (kG : PySem.W.keepIn K (.ref fG) = true)
    (GN : FnOk P w K mg base CX0 1 fN fdN ["self"] (spEdNames C)) (bN : Binds K fdN ["self"] []) (pN : PropOf K C "names" pN fN) : FnOk P w K mg base CX0 4 f fd ["self", "members", "sets"] (spEdInit K C) := by
  refine fund_ok F scEdInit (fun vs H Q E h => ?_) (fun cdv A outer s H vs Q E hr h => ?_)
  · obtain ⟨x, dx, m, v, rows, sets, rfl, _⟩ := h
    rfl
  · obtain ⟨x, dx, m, v, rows, sets, rfl, hx, hM, ok, hA, k⟩ := h
    have nd := scEdInit.nd
    have hr2 : Room 2 _ := hr.mono (by decide)
    refine ⟨_, pss_cons (ps_fld (pv 0) (pe_call GR hr (by rfl) gR kR bR .nil pass0 (pa_cons (pv 1) pa_nil)) rfl)
      (pss_cons (ps_fld (pv 0) (pe_call GG hr2 (by rfl) gG kG bG .nil pass0 (pa_cons (pv 2) (pa_cons (pe_prop (pv 0) T.cl pN GN hr2 bN .nil pass0 rfl) pa_nil))) rfl)
      (pss_cons (ps_fld (pv 0) (by exact (pe_dc2 (own := [("place", 3), ("row", 4), ("word", 5)]) (vs1 := [5]) (g := gTup K 2 (gCons (gName 3) (gCons (gName 4) gNil))) (tt := tYes) (w1 := iTup K (tTup (tCons (tOp (rIxT K) (tVar 4) (tC (.int 0))) (StX.tStar K (tOp (rIxT K) (tVar 4) (tC (.int 1))) tNil)))) (g1 := gName 5) (u1 := tYes) (tk := tVar 5) (tv := tVar 3) rfl nd (pi_enum (by rfl) te (pa_cons (pe_fld (pv 0) rfl) pa_nil)) (blkOk_by (N := nEdInit) (sc := defScope sEdInit) (by decide +kernel)) (by decide)
          (fun _ _ _ _ _ => pg_tup rfl (pgs_cons (pg_name (i := 3) nd rfl (Or.inl rfl)) (pgs_cons (pg_name (i := 4) nd rfl (Or.inl rfl)) pgs_nil))) (fun _ _ _ _ _ => pts_nil) (fun _ _ _ _ _ => by exact (pv 5)) (fun _ _ _ _ _ => by exact (pv 3))
          (fun _ _ _ _ _ => by exact (pi_tup (pe_tup (pa_cons (pe_ix ix_tup (pv 4) pe_int (fun _ _ => rfl)) (StX.pa_star (pe_ix ix_tup (pv 4) pe_int (fun _ _ => rfl)) pa_nil))))) (fun _ _ _ _ _ => pg_name (i := 5) nd rfl (Or.inl rfl)) (fun _ _ _ _ _ => pts_nil))) rfl)
      (pss_one (ps_fld (pv 0) (by exact (pe_dc (own := [("place", 3), ("row", 4)]) (g := gTup K 2 (gCons (gName 3) (gCons (gName 4) gNil))) (tt := tYes) (tk := tOp (rIxT K) (tVar 4) (tC (.int 2))) (tv := tVar 3) rfl nd (pi_enum (by rfl) te (pa_cons (pe_fld (pv 0) rfl) pa_nil)) (blkOk_by (N := nEdInit) (sc := defScope sEdInit) (by decide +kernel))
          (fun _ _ _ _ _ => pg_tup rfl (pgs_cons (pg_name (i := 3) nd rfl (Or.inl rfl)) (pgs_cons (pg_name (i := 4) nd rfl (Or.inl rfl)) pgs_nil))) (fun _ _ _ _ _ => pts_nil) (fun _ _ _ _ _ => by exact (pe_ix ix_tup (pv 4) pe_int (fun _ _ => rfl))) (fun _ _ _ _ _ => by exact (pv 3)))) rfl)))), ?_⟩
    refine rd_seq (rd_call (rd_cons (rd_var rfl (rd_nil ⟨m, rows, rfl, hM, ok, fun H1 r rows' s1 nr hR ps => ?_⟩))))
    have hx1 := s1 _ _ hx
    have l16 : rows'.length ≤ 16 := by have := paired_len ps; have := ok.hi; omega
    refine ⟨_, rfl, x, C, dx, [], rfl, hx1, T.cl, T.nR, by decide, ?_⟩
    have b2 : But x H1 (upd H1 x (.ins C dx (putF "_rows" (.ref r) []))) := But.of
    have hx2 : upd H1 x (.ins C dx (putF "_rows" (.ref r) [])) x = some (.ins C dx (putF "_rows" (.ref r) [])) := upd_same
    have hR := hR.but b2 hx1
    have hA := (hA.but (x := x) (fun b u _ e => s1 b u e) hx).but b2 hx1
    have bb : But x H (upd H1 x (.ins C dx (putF "_rows" (.ref r) []))) := But.trans (fun b u _ e => s1 b u e) b2
    generalize upd H1 x (.ins C dx (putF "_rows" (.ref r) [])) = H2 at hx2 hR hA bb
    refine rd_seq (rd_call (rd_cons (rd_var rfl (rd_cons ⟨_, rfl, x, dx, _, rfl, hx2, x, dx, r, _, rows', rfl, hx2, by rw [lookup_putF, if_pos rfl], hR, l16, fun H3 q s3 nq c3 => ?_⟩))))
    rw [names_sorted ps] at c3
    have ln : (rows.map (·.name)).length ≤ 16 := by rw [List.length_map]; exact ok.hi
    have hA := hA.but (x := x) (fun b u _ e => s3 b u e) hx2
    refine rd_nil ⟨v, q, rows.map (·.name), sets, rfl, SqL.of c3, ln, hA, fun H4 g s4 ng hG => ?_⟩
    have s4 := s3.trans s4
    have hx4 := s4 _ _ hx2
    have hR := hR.later s4
    refine ⟨_, rfl, x, C, dx, _, rfl, hx4, T.cl, T.nG, by show 1 < 1000; decide, ?_⟩
    have b5 : But x H4 (upd H4 x (.ins C dx (putF "_groups" (.ref g) (putF "_rows" (.ref r) [])))) := But.of
    have hx5 : upd H4 x (.ins C dx (putF "_groups" (.ref g) (putF "_rows" (.ref r) []))) x = some (.ins C dx (putF "_groups" (.ref g) (putF "_rows" (.ref r) []))) := upd_same
    have hR := hR.but b5 hx4
    have hG := hG.but b5 hx4
    have bb := (bb.same s4).trans b5
    generalize upd H4 x (.ins C dx (putF "_groups" (.ref g) (putF "_rows" (.ref r) []))) = H5 at hx5 hR hG bb
    obtain ⟨us, hus, pu⟩ := id hR
    have lus := paired_len pu
    have gr : ¬ (("_groups" : Str) = "_rows") := by decide +kernel
    have rg : ¬ (("_rows" : Str) = "_groups") := by decide +kernel
    refine rd_seq ⟨_, rfl, x, C, dx, _, _, rfl, hx5, T.cl, T.nR, by rw [lookup_putF, if_neg rg, lookup_putF, if_pos rfl], r, us, rfl, SqL.of hus, fun pl hpl => ?_⟩
    have nd' : (marksOf rows').Nodup := (marks_perm ps).nodup_iff.mpr ok.nd
    have few' : ∀ y ∈ rows', y.al.length < 20 := by
      have : ∀ {l l' : List Row}, Paired SortedRow l l' → (∀ y ∈ l, y.al.length < 20) → ∀ y ∈ l', y.al.length < 20 := by
        intro l l' h
        induction h with
        | nil => exact fun _ y hy => by cases hy
        | cons r t ih =>
          intro a y hy
          rcases List.mem_cons.mp hy with rfl | hy
          · rw [r.perm.length_eq]
            exact a _ List.mem_cons_self
          · exact ih (fun z hz => a z (List.mem_cons_of_mem _ hz)) y hy
      exact this ps ok.few
    refine walk_any (walk_enum (xs := us)) (fun i H' => Same H5 H' ∧ H' pl = some (.dK (plKV rows' i))) ⟨(Same.refl H5).new hpl, upd_same⟩ (fun i H' _ z => SqL.of (z.1 _ _ hus)) ?_ ?_
    · rintro i v Ha Hb hi ⟨q1, cpl⟩ ⟨T0, y1, y2, rfl, hT0, rfl, e1, e2⟩
      obtain rfl := Option.some.inj e1
      have e2 : us[i]? = some y2 := e2
      obtain ⟨y, hy, t, al, rfl, ht, hal⟩ := paired_left pu e2
      have q2 : Same Ha (upd Ha T0 (.tup [V.int (i : Nat), .ref t])) := (Same.refl Ha).new hT0
      have c2 : upd Ha T0 (.tup [V.int (i : Nat), .ref t]) T0 = some (.tup [V.int (i : Nat), .ref t]) := upd_same
      generalize upd Ha T0 (.tup [V.int (i : Nat), .ref t]) = Hc at q2 c2 ⊢
      have q3 := q1.trans q2
      refine ⟨T0, _, rfl, SqT.of c2, rfl, _, _, rfl, _, _, rfl, rfl, rfl, rd_yes ?_⟩
      refine ⟨_, rfl, t, _, _, _, rfl, rfl, SqT.of (q3 _ _ ht), rfl, _, rfl, t, _, _, _, rfl, rfl, SqT.of (q3 _ _ ht), rfl, al, _, rfl, .inl (SqT.of (q3 _ _ hal)), ?_⟩
      have fy := few' y (List.mem_of_getElem? hy)
      refine rd_nil ⟨?_, fun tt htt => ?_⟩
      · simp only [List.length_cons, List.length_append, List.length_map, List.length_nil]
        exact Nat.le_trans (show y.al.length + 0 + 1 ≤ 100 by omega) (by decide)
      have ew : V.str y.name :: (y.al.map V.str ++ []) = (y.name :: y.al).map V.str := by rw [List.append_nil]; rfl
      rw [ew]
      have q4 : Same Hc (upd Hc tt (.tup ((y.name :: y.al).map V.str))) := (Same.refl Hc).new htt
      have c4 : upd Hc tt (.tup ((y.name :: y.al).map V.str)) tt = some (.tup ((y.name :: y.al).map V.str)) := upd_same
      generalize upd Hc tt (.tup ((y.name :: y.al).map V.str)) = Hd at q4 c4
      have q5 : Same H5 Hd := q3.trans q4
      have cpl := q4 _ _ (q2 _ _ cpl)
      refine ⟨tt, rfl, ⟨_, SqT.of c4⟩, ?_⟩
      obtain ⟨post, em⟩ := marks_split hy
      rw [em] at nd'
      have ep : plKV rows' (i + 1) = plKV rows' i ++ (y.name :: y.al).map fun z => (Sum.inr z, V.int (i : Nat)) := by
        show plKV rows' i ++ (match rows'[i]? with | some r => _ | none => _) = _
        rw [hy]
      obtain ⟨ndA, ndB, ndC⟩ := List.nodup_append.mp nd'
      have inM : ∀ z ∈ (y.name :: y.al), (Sum.inr z : Key) ∈ marksOf [y] := fun z hz => by
        simp only [marksOf, List.flatMap_cons, List.flatMap_nil, List.append_nil]
        refine List.mem_append_left _ ?_
        rcases List.mem_cons.mp hz with rfl | hz
        · exact List.mem_cons_self
        · exact List.mem_cons_of_mem _ (List.mem_map_of_mem hz)
      have ndY : (y.name :: y.al).Nodup := by
        have h1 := (List.nodup_append.mp ndB).1
        simp only [marksOf, List.flatMap_cons, List.flatMap_nil, List.append_nil] at h1
        have h2 := (List.nodup_append.mp h1).1
        have h3 : ((y.name :: y.al).map Sum.inr : List Key).Nodup := h2
        exact nodup_of_inr h3
      refine walk_any (walk_tup (xs := (y.name :: y.al).map V.str)) (fun j H' => Same H5 H' ∧ H' tt = some (.tup ((y.name :: y.al).map V.str)) ∧ H' pl = some (.dK (plKV rows' i ++ ((y.name :: y.al).take j).map fun z => (Sum.inr z, V.int (i : Nat))))) ⟨q5, c4, by simpa using cpl⟩ (fun j H' _ z => SqT.of z.2.1) ?_ ?_
      · rintro j w' He Hf hj ⟨r1, r2, r3⟩ ⟨rfl, hw⟩
        obtain ⟨z, hz, rfl⟩ : ∃ z, (y.name :: y.al)[j]? = some z ∧ w' = V.str z := by
          rw [List.getElem?_map] at hw
          cases e : (y.name :: y.al)[j]? with
          | none => rw [e] at hw; cases hw
          | some n => rw [e] at hw; exact ⟨n, rfl, (Option.some.inj hw).symm⟩
        have jl : j < (y.name :: y.al).length := (List.getElem?_eq_some_iff.mp hz).1
        have fresh : valV (plKV rows' i ++ ((y.name :: y.al).take j).map fun z => ((Sum.inr z : Key), V.int (i : Nat))) (.inr z : Key) = none := valV_no fun hm => by
          rw [List.map_append] at hm
          rcases List.mem_append.mp hm with hm | hm
          · exact ndC _ (pl_keys rows' i _ hm) _ (List.mem_append_left _ (inM z (List.mem_of_getElem? hz))) rfl
          · rw [List.map_map] at hm
            obtain ⟨z2, hz2, e⟩ := List.mem_map.mp hm
            obtain rfl := Sum.inr.inj e
            obtain ⟨b, hb⟩ := List.mem_iff_getElem?.mp hz2
            rw [List.getElem?_take] at hb
            split at hb
            · have := (List.getElem?_inj (by omega) ndY).mp (hb.trans hz.symm)
              omega
            · cases hb
        have sz : (plKV rows' i ++ ((y.name :: y.al).take j).map fun z => ((Sum.inr z : Key), V.int (i : Nat))).length ≤ 1000 := by
          have h1 := pl_size rows' few' i
          have h2 : i < rows'.length := (List.getElem?_eq_some_iff.mp hy).1
          rw [List.length_append, List.length_map, List.length_take]
          rw [List.length_cons] at jl ⊢
          omega
        refine rd_gn ⟨rfl, rd_yes ⟨_, rfl, _, rfl, _, .inr z, rfl, r3, Nat.lt_of_le_of_lt sz (by decide), r1.mut hpl, ?_, ?_⟩⟩
        · rw [upd_ne (ne_of r2 r3 fun z => by cases z)]
          exact r2
        · rw [upd_same, putK_new _ fresh, List.append_assoc, List.take_add_one, hz, List.map_append]
          rfl
      · rintro He ⟨r1, r2, r3⟩
        rw [List.length_map, List.take_length, ← ep] at r3
        exact ⟨r1, r3⟩
    · rintro H6 ⟨q6, c6⟩
      have lq : us.length = rows'.length := lus
      rw [lq] at c6
      have hx6 := q6 _ _ hx5
      have hR := hR.later q6
      have hG : GroupsAt H6 g (groupsOf (rows.map (·.name)) sets) := by
        obtain ⟨kvs, g1, g2⟩ := hG
        exact ⟨kvs, q6 _ _ g1, paired_map (fun kv y z => by obtain ⟨e, t, e2, h1⟩ := z; exact ⟨e, t, e2, q6 _ _ h1⟩) g2⟩
      have bb := bb.same q6
      have npx : pl ≠ x := (ne_of_none hx5 hpl).symm
      refine ⟨_, rfl, x, C, dx, _, rfl, hx6, T.cl, T.nP, by show 2 < 1000; decide, ?_⟩
      have b7 : But x H6 (upd H6 x (.ins C dx (putF "_places" (.ref pl) (putF "_groups" (.ref g) (putF "_rows" (.ref r) []))))) := But.of
      have hx7 : upd H6 x (.ins C dx (putF "_places" (.ref pl) (putF "_groups" (.ref g) (putF "_rows" (.ref r) [])))) x = some (.ins C dx (putF "_places" (.ref pl) (putF "_groups" (.ref g) (putF "_rows" (.ref r) [])))) := upd_same
      have hR := hR.but b7 hx6
      have hG := hG.but b7 hx6
      have c7 := b7 _ _ npx c6
      have bb := bb.trans b7
      generalize upd H6 x (.ins C dx (putF "_places" (.ref pl) (putF "_groups" (.ref g) (putF "_rows" (.ref r) [])))) = H7 at hx7 hR hG c7 bb
      obtain ⟨us, hus, pu⟩ := id hR
      have lus := paired_len pu
      have rp : ¬ (("_rows" : Str) = "_places") := by decide +kernel
      refine ⟨_, rfl, x, C, dx, _, _, rfl, hx7, T.cl, T.nR, by rw [lookup_putF, if_neg rp, lookup_putF, if_neg rg, lookup_putF, if_pos rfl], r, us, rfl, SqL.of hus, fun nu hnu => ?_⟩
      refine walk_any (walk_enum (xs := us)) (fun i H' => Same H7 H' ∧ H' nu = some (.dK (nuKV rows' i))) ⟨(Same.refl H7).new hnu, upd_same⟩ (fun i H' _ z => SqL.of (z.1 _ _ hus)) ?_ ?_
      · rintro i v Ha Hb hi ⟨q1, cnu⟩ ⟨T0, y1, y2, rfl, hT0, rfl, e1, e2⟩
        obtain rfl := Option.some.inj e1
        have e2 : us[i]? = some y2 := e2
        obtain ⟨y, hy, t, al, rfl, ht, hal⟩ := paired_left pu e2
        have q2 : Same Ha (upd Ha T0 (.tup [V.int (i : Nat), .ref t])) := (Same.refl Ha).new hT0
        have c2 : upd Ha T0 (.tup [V.int (i : Nat), .ref t]) T0 = some (.tup [V.int (i : Nat), .ref t]) := upd_same
        generalize upd Ha T0 (.tup [V.int (i : Nat), .ref t]) = Hc at q2 c2 ⊢
        have q3 := q1.trans q2
        have cnu := q2 _ _ cnu
        obtain ⟨post, em⟩ := marks_split hy
        rw [em] at nd'
        obtain ⟨ndA, ndB, ndC⟩ := List.nodup_append.mp nd'
        have fresh : valV (nuKV rows' i) (.inl y.num : Key) = none := valV_no fun hm => ndC _ (nu_keys rows' i _ hm) _ (List.mem_append_left _ (by simp [marksOf])) rfl
        have il : i < rows'.length := (List.getElem?_eq_some_iff.mp hy).1
        have sz := nu_size rows' i
        have ep : nuKV rows' (i + 1) = nuKV rows' i ++ [(Sum.inl y.num, V.int (i : Nat))] := by
          show nuKV rows' i ++ (match rows'[i]? with | some r => _ | none => _) = _
          rw [hy]
        refine ⟨T0, _, rfl, SqT.of c2, rfl, _, _, rfl, _, _, rfl, rfl, rfl, rd_yes ?_⟩
        refine ⟨_, rfl, t, _, _, _, rfl, rfl, SqT.of (q3 _ _ ht), rfl, _, rfl, _, .inl y.num, rfl, cnu, Nat.lt_of_le_of_lt (show (nuKV rows' i).length ≤ 16 by omega) (by decide), q3.mut hnu, ?_⟩
        rw [upd_same, putK_new _ fresh, ep]
      · rintro H8 ⟨q8, c8⟩
        rw [lus] at c8
        have hx8 := q8 _ _ hx7
        have nnx : nu ≠ x := (ne_of_none hx7 hnu).symm
        refine ⟨_, rfl, x, C, dx, _, rfl, hx8, T.cl, T.nN, by show 3 < 1000; decide, ?_⟩
        have b9 : But x H8 (upd H8 x (.ins C dx (edFs r g pl nu))) := But.of
        refine k _ rows' ((bb.same q8).trans b9) ps ⟨dx, r, g, pl, nu, upd_same, (hR.later q8).but b9 hx8, ?_, b9 _ _ npx (q8 _ _ c7), b9 _ _ nnx c8⟩
        have hG8 : GroupsAt H8 g (groupsOf (rows.map (·.name)) sets) := by
          obtain ⟨kvs, g1, g2⟩ := hG
          exact ⟨kvs, q8 _ _ g1, paired_map (fun kv y z => by obtain ⟨e, t, e2, h1⟩ := z; exact ⟨e, t, e2, q8 _ _ h1⟩) g2⟩
        exact hG8.but b9 hx8
end
end Gk
/-! ### a drawn model is right -/
namespace Gk
open PySem PySem.W PySem.Spec PyProof.Rows L2 NdefX
theorem pool_names : ∀ x ∈ poolL, nameB x = true := by decide +kernel
theorem set_names : ∀ x ∈ setNames, nameB x = true := by decide +kernel
theorem num_far : ∀ n ∈ numL, -farI ≤ n ∧ n ≤ farI := by decide +kernel
theorem words_cons (x : Row) (l : List Row) : wordsOf (x :: l) = (x.name :: x.al) ++ wordsOf l := rfl
theorem marks_apart : ∀ l : List Row, (marksOf l).Perm ((wordsOf l).map Sum.inr ++ (l.map (·.num)).map Sum.inl)
  | [] => List.Perm.refl _
  | x :: l => by
    rw [marks_cons, words_cons, List.map_cons, List.map_cons, List.map_append]
    have e : marksOf [x] = (x.name :: x.al).map Sum.inr ++ [Sum.inl x.num] := by simp [marksOf]
    rw [e, List.append_assoc, List.append_assoc]
    refine List.Perm.append_left _ ?_
    refine ((marks_apart l).cons (Sum.inl x.num)).trans ?_
    exact (List.perm_middle (a := (Sum.inl x.num : Key)) (l₁ := (wordsOf l).map Sum.inr) (l₂ := (l.map (·.num)).map Sum.inl)).symm
theorem nodup_map_inl : ∀ {ws : List Int}, ws.Nodup → (ws.map Sum.inl : List Key).Nodup
  | [], _ => List.nodup_nil
  | x :: ws, h => by
    rw [List.nodup_cons] at h
    rw [List.map_cons, List.nodup_cons]
    refine ⟨fun z => ?_, nodup_map_inl h.2⟩
    obtain ⟨y, hy, e⟩ := List.mem_map.mp z
    exact h.1 (Sum.inl.inj e ▸ hy)
theorem mem_words {l : List Row} {x : Row} (h : x ∈ l) : ∀ y ∈ x.name :: x.al, y ∈ wordsOf l := fun y hy => by
  unfold wordsOf
  exact List.mem_flatMap.mpr ⟨x, h, hy⟩
theorem ModelOk.rows {rows : List Row} {sets : List (Str × List Str)} (m : ModelOk rows sets) (lo : 1 ≤ rows.length) (hi : rows.length ≤ 16) : RowsOk rows := by
  refine ⟨lo, hi, fun x hx => ?_, fun x hx => Nat.lt_of_le_of_lt (m.few x hx) (by decide), ?_⟩
  · have far := num_far x.num (m.numm _ (List.mem_map_of_mem hx))
    exact ⟨pool_names _ (m.mem _ (mem_words hx _ List.mem_cons_self)), fun y hy => pool_names _ (m.mem _ (mem_words hx _ (List.mem_cons_of_mem _ hy))), far.1, far.2, Nat.le_trans (m.few x hx) (by decide)⟩
  · refine (marks_apart rows).nodup_iff.mpr (List.nodup_append.mpr ⟨nodup_inr m.nd, nodup_map_inl m.nums, fun a ha b hb e => ?_⟩)
    obtain ⟨y, _, rfl⟩ := List.mem_map.mp ha
    obtain ⟨z, _, rfl⟩ := List.mem_map.mp hb
    cases e
theorem three_of {ws : List Str} (nd : ws.Nodup) (sub : ∀ x ∈ ws, x ∈ setNames) : ws.length ≤ 3 := by
  have h : ∀ (l m : List Str), l.Nodup → (∀ x ∈ l, x ∈ m) → l.length ≤ m.length := by
    intro l
    induction l with
    | nil => exact fun m _ _ => Nat.zero_le _
    | cons x l ih =>
      intro m hn hs
      rw [List.nodup_cons] at hn
      obtain ⟨a, b, rfl⟩ := List.append_of_mem (hs x List.mem_cons_self)
      have := ih (a ++ b) hn.2 fun y hy => by
        rcases List.mem_append.mp (hs y (List.mem_cons_of_mem _ hy)) with z | z
        · exact List.mem_append_left _ z
        · rcases List.mem_cons.mp z with rfl | z
          · exact absurd hy hn.1
          · exact List.mem_append_right _ z
      rw [List.length_append] at this ⊢
      rw [List.length_cons, List.length_cons]
      omega
  exact h ws setNames nd sub
theorem ModelOk.good {rows : List Row} {sets : List (Str × List Str)} (m : ModelOk rows sets) (hi : rows.length ≤ 16) : SetsGood (rows.map (·.name)) sets := by
  have ndN : (rows.map (·.name)).Nodup := by
    have : ∀ l : List Row, (l.map (·.name)).Sublist (wordsOf l) := by
      intro l
      induction l with
      | nil => exact List.Sublist.refl _
      | cons x l ih =>
        rw [List.map_cons, words_cons, List.cons_append]
        exact List.Sublist.cons₂ _ (ih.trans (List.sublist_append_right _ _))
    exact m.nd.sublist (this rows)
  refine ⟨?_, m.sets.nd, fun x hx => set_names _ (m.sets.mem x hx), fun x hx y hy => (m.sets.sub x hx).subset hy, fun x hx => ndN.sublist (m.sets.sub x hx), fun x hx => ?_⟩
  · have := three_of m.sets.nd fun y hy => by
      obtain ⟨x, hx, rfl⟩ := List.mem_map.mp hy
      exact m.sets.mem x hx
    rwa [List.length_map] at this
  · have := (m.sets.sub x hx).length_le
    rw [List.length_map] at this
    omega
end Gk
/-! ### Edition.__eq__ -/
namespace Gk
open PySem PySem.W PySem.Spec PyProof.Rows L2 NdefX
abbrev sEdEq : Stmt := (inClass (top 21) 7)
def rowD (x : Row) : PyData := .tuple [.str x.name, .tuple (x.al.map .str), .int x.num]
def rowsD (rows : List Row) : PyData := .list (rows.map rowD)
def gsD (gs : List (Str × List Int)) : List (Key × PyData) := gs.map fun x => (Sum.inr x.1, .tuple (x.2.map .int))
/-- all texts are data -/
def EdLay (rows : List Row) : Prop := ∀ x ∈ rows, PyData.strOk x.name = true ∧ ∀ y ∈ x.al, PyData.strOk y = true
def eqEd (rows : List Row) (gs : List (Str × List Int)) (rows' : List Row) (gs' : List (Str × List Int)) : Bool := PyData.eqv (rowsD rows) (rowsD rows') && eqDD (gsD gs) (gsD gs')
def kinds7 : List String := ["NoneType", "bool", "int", "str", "list", "tuple", "dict"]
/-- what the text says of isinstance(.., C) and of ==, for a class C -/
structure ClsQ (K : Frag) (C : Addr) : Prop where
  cl : Cls K C
  ha : findIn K (.ref C) "__class__" = some (some (.builtin "object.__class__"))
  hn : specialIn K (.builtin "object.__class__") "__get__" = some (some (.builtin "getset_descriptor.__get__"))
  htk : takesIn K (.builtin "object.__class__") = some true
  hm : mroIn K C (.type "object") = some true
  own : kitOne K (.ref C) (.ref C) = some true
  oth : ∀ T ∈ kinds7, kitOne K (.type T) (.ref C) = some false
  nf : ∀ T ∈ kinds7, notFirst K C (.type T) = true
theorem ClsQ.ty {K : Frag} {C : Addr} (Z : ClsQ K C) {H : Hp} {a dx : Addr} {fs : List (Str × V)} (e : H a = some (.ins C dx fs)) : TyX K H (.ref a) (.ref C) := .base (.ins e Z.cl Z.ha Z.hn Z.htk Z.hm)
theorem ClsQ.self {K : Frag} {C : Addr} : notFirst K C (.ref C) = true := by simp [notFirst]
theorem dp_strs {K : Frag} {H : Hp} : ∀ ws : List Str, DpAll K H (ws.map V.str) (ws.map PyData.str)
  | [] => .nil
  | x :: ws => .cons (.str x) (dp_strs ws)
theorem dp_ints {K : Frag} {H : Hp} : ∀ ws : List Int, DpAll K H (ws.map V.int) (ws.map PyData.int)
  | [] => .nil
  | x :: ws => .cons (.int x) (dp_ints ws)
theorem dp_rows {K : Frag} {H : Hp} {vs : List V} {rows : List Row} (h : Paired (RowAt H) vs rows) : DpAll K H vs (rows.map rowD) := by
  induction h with
  | nil => exact .nil
  | cons r t ih =>
    obtain ⟨t, a, rfl, h1, h2⟩ := r
    exact .cons (.tup (SqT.of h1) (.cons (.str _) (.cons (.tup (SqT.of h2) (dp_strs _)) (.cons (.int _) .nil)))) ih
theorem strs_lay : ∀ ws : List Str, (∀ y ∈ ws, PyData.strOk y = true) → PyData.canLayAll0 (ws.map PyData.str) = true ∧ PyData.depthAll (ws.map PyData.str) = 0
  | [], _ => ⟨rfl, rfl⟩
  | x :: ws, h => by simp [PyData.canLayAll0, PyData.canLay0, PyData.depthAll, PyData.depth, h x List.mem_cons_self, strs_lay ws fun k z => h k (List.mem_cons_of_mem _ z)]
theorem ints_lay : ∀ ws : List Int, PyData.canLayAll0 (ws.map PyData.int) = true ∧ PyData.depthAll (ws.map PyData.int) = 0
  | [] => ⟨rfl, rfl⟩
  | x :: ws => by simp [PyData.canLayAll0, PyData.canLay0, PyData.depthAll, PyData.depth, ints_lay ws]
theorem rows_lay : ∀ rows : List Row, EdLay rows → PyData.canLayAll0 (rows.map rowD) = true ∧ PyData.depthAll (rows.map rowD) ≤ 2
  | [], _ => ⟨rfl, Nat.zero_le _⟩
  | x :: rows, h => by
    obtain ⟨h1, h2⟩ := h x List.mem_cons_self
    obtain ⟨a, b⟩ := rows_lay rows fun y z => h y (List.mem_cons_of_mem _ z)
    obtain ⟨c, d⟩ := strs_lay x.al h2
    simp only [List.map_cons, PyData.canLayAll0, PyData.depthAll, rowD, PyData.canLay0, PyData.depth, h1, c, a, d, Bool.and_true, Bool.and_self, true_and]
    omega
theorem rowsD_shaped {rows : List Row} (h : EdLay rows) : SeqAt.shaped (rowsD rows) = true := by
  obtain ⟨a, b⟩ := rows_lay rows h
  unfold rowsD SeqAt.shaped
  rw [PyData.canLay0, PyData.depth, a, Bool.true_and, decide_eq_true_eq]
  omega
theorem dkv_groups {K : Frag} {H : Hp} {kvs : List (Key × V)} {gs : List (Str × List Int)} (h : Paired (GrpKV H) kvs gs) : Paired (DKV K H) kvs (gsD gs) := by
  induction h with
  | nil => exact .nil
  | cons r t ih =>
    obtain ⟨e, t, e2, h1⟩ := r
    refine .cons ⟨e, ?_, ?_⟩ ih
    · rw [e2]
      exact .tup (SqT.of h1) (dp_ints _)
    · obtain ⟨c, d⟩ := ints_lay (by assumption : Str × List Int).2
      unfold SeqAt.shaped
      rw [PyData.canLay0, PyData.depth, c, d]
      rfl
def spEdEq (K : Frag) (C : Addr) : Sp := fun vs H Q _ => ∃ (x : Addr) (y : V) (rows : List Row) (gs : List (Str × List Int)), vs = [.ref x, y] ∧ EdAt C H x rows gs ∧ EdLay rows ∧
  ((∃ (b : Addr) (rows' : List Row) (gs' : List (Str × List Int)), y = .ref b ∧ EdAt C H b rows' gs' ∧ EdLay rows' ∧ Q (.bl (eqEd rows gs rows' gs')) H) ∨ ∃ T, T ∈ kinds7 ∧ TyX K H y (.type T) ∧ Q (.bl false) H)
theorem edFs_rows {r g pl nu : Addr} : (edFs r g pl nu).lookup ("_rows" : Str) = some (V.ref r) := by
  have h1 : ¬ (("_rows" : Str) = "_numbers") := by decide +kernel
  have h2 : ¬ (("_rows" : Str) = "_places") := by decide +kernel
  have h3 : ¬ (("_rows" : Str) = "_groups") := by decide +kernel
  unfold edFs
  rw [lookup_putF, if_neg h1, lookup_putF, if_neg h2, lookup_putF, if_neg h3, lookup_putF, if_pos rfl]
theorem edFs_groups {r g pl nu : Addr} : (edFs r g pl nu).lookup ("_groups" : Str) = some (V.ref g) := by
  have h1 : ¬ (("_groups" : Str) = "_numbers") := by decide +kernel
  have h2 : ¬ (("_groups" : Str) = "_places") := by decide +kernel
  unfold edFs
  rw [lookup_putF, if_neg h1, lookup_putF, if_neg h2, lookup_putF, if_pos rfl]
theorem hu66 {A : Around} {k : Nat} (hr : Room k A) : A.units + 66 < cLine := by have := hr.un; omega
section
variable {P : Program} {w : World} {K : Frag} {mg : Str → Option Value} {base : Heap}
theorem scEdEq : FnScope ["self", "other"] ["self", "other"] (defScope sEdEq) := ⟨rfl, rfl, rfl, by decide +kernel, rfl, by decide +kernel, by decide +kernel⟩
theorem ok_edeq {f C : Addr} {fd : FuncData} (F : Fun K "__eq__" "Edition.__eq__" sEdEq f fd) (T : EdTxt K C) (Z : ClsQ K C) (ti : mg "isinstance" = none) (gC : mg "Edition" = some (.ref C)) : FnOk P w K mg base CX0 1 f fd ["self", "other"] (spEdEq K C) := by
  refine F.ok scEdEq (fun vs H Q E h => ?_) (fun cdv A outer s H vs Q E hr h => ?_)
  · obtain ⟨x, y, rows, gs, rfl, _⟩ := h
    rfl
  · obtain ⟨x, y, rows, gs, rfl, hx, lay, k⟩ := h
    refine ⟨_, pss_cons (ps_if (pt_not (pt_val (pe_callB call_isi (by rfl) ti boot_isi' (pa_cons (pv 1) (pa_cons (pe_glob (v := .ref C) (by rfl) gC rfl) pa_nil))))) (pss_one (ps_ret pe_bl)) pss_nil)
      (pss_one (ps_ret (pe_and (pe_cmpR (op_eqD hr.units) (pe_fld (pv 0) rfl) (pe_fld (pv 1) rfl) (nomark _)) (pe_one (pe_cmpR (op_eqDD (hu66 hr)) (pe_fld (pv 0) rfl) (pe_fld (pv 1) rfl) (nomark _)))))), ?_⟩
    refine rd_seq (rd_if (rd_not (rd_b (rd_cb (rd_cons (rd_var rfl (rd_cons (rd_c (rd_nil ?_)))))))))
    rcases k with ⟨b, rows', gs', rfl, hb, lay', k⟩ | ⟨S, hS, ty, k⟩
    · obtain ⟨dx, r, g, pl, nu, ex, hR, hG, _⟩ := hx
      obtain ⟨dy, r', g', pl', nu', ey, hR', hG', _⟩ := hb
      refine ⟨_, _, _, _, true, rfl, .own C, Z.ty ey, Z.own, true, rfl, ?_⟩
      refine ite_no rfl (rd_next ?_)
      with_reducible refine rd_ret ?_
      obtain ⟨vs, c1, p1⟩ := hR
      obtain ⟨vs', c1', p1'⟩ := hR'
      refine rd_op ⟨_, rfl, x, C, dx, _, _, rfl, ex, T.cl, T.nR, edFs_rows, ?_⟩
      refine ⟨_, rfl, b, C, dy, _, _, rfl, ey, T.cl, T.nR, edFs_rows, ?_⟩
      refine ⟨rowsD rows, rowsD rows', .lst (SqL.of c1) (dp_rows p1), .lst (SqL.of c1') (dp_rows p1'), rowsD_shaped lay, rowsD_shaped lay', _, rfl, ?_⟩
      unfold eqEd at k
      cases e : PyData.eqv (rowsD rows) (rowsD rows') with
      | false =>
        rw [e, Bool.false_and] at k
        exact k
      | true =>
        rw [e, Bool.true_and] at k
        obtain ⟨kv, d1, q1⟩ := hG
        obtain ⟨kv', d1', q1'⟩ := hG'
        refine ite_yes rfl (rd_op ⟨_, rfl, x, C, dx, _, _, rfl, ex, T.cl, T.nG, edFs_groups, ?_⟩)
        refine ⟨_, rfl, b, C, dy, _, _, rfl, ey, T.cl, T.nG, edFs_groups, ?_⟩
        exact ⟨g, g', kv, kv', _, _, rfl, rfl, d1, d1', dkv_groups q1, dkv_groups q1', k⟩
    · exact ⟨_, _, _, _, false, rfl, .own C, ty, Z.oth S hS, false, rfl, ite_yes rfl (rd_ret (rd_c k))⟩
end
end Gk
/-! ### the property sets, everything, and what a Group is made of -/
namespace Gk
open PySem PySem.W PySem.Spec PyProof.Rows L2 NdefX
abbrev sEdSets : Stmt := (inClass (top 21) 2)
abbrev sEdAll : Stmt := (inClass (top 21) 10)
abbrev sGrInit : Stmt := (inClass (top 20) 0)
abbrev sGrEq : Stmt := (inClass (top 20) 5)
def spEdSets (C : Addr) : Sp := fun vs H Q _ => ∃ (x : Addr) (rows : List Row) (gs : List (Str × List Int)), vs = [.ref x] ∧ EdAt C H x rows gs ∧ gs.length < 64 ∧
  ∀ (H' : Hp) (q : Addr) (ys : List Str), Same H H' → H q = none → H' q = some (.lst (ys.map V.str)) → ys.Perm (gs.map (·.1)) → sortedS ys = true → Q (.ref q) H'
theorem grp_keys {H : Hp} {kvs : List (Key × V)} {gs : List (Str × List Int)} (h : Paired (GrpKV H) kvs gs) : kvs.map (·.1) = (gs.map (·.1)).map Sum.inr := by
  induction h with
  | nil => rfl
  | cons r t ih =>
    rw [List.map_cons, List.map_cons, List.map_cons, ih, r.1]
structure GrTxt (K : Frag) (C : Addr) : Prop where
  cl : Cls K C
  nE : NoAttr K C "_edition"
  nP : NoAttr K C "_places"
def grFs (e t : Addr) : List (Str × V) := putF "_places" (.ref t) (putF "_edition" (.ref e) [])
def GrAt (K : Frag) (C : Addr) (H : Hp) (x e : Addr) (ns : List Int) : Prop := ∃ dx t, H x = some (.ins C dx (grFs e t)) ∧ SqT K H t (ns.map V.int)
def spGrInit (K : Frag) (C : Addr) : Sp := fun vs H Q _ => ∃ (x dx e p : Addr) (ns : List Int), vs = [.ref x, .ref e, .ref p] ∧ H x = some (.ins C dx []) ∧ (SqL K H p (ns.map V.int) ∨ SqT K H p (ns.map V.int)) ∧
  ∀ H', But x H H' → GrAt K C H' x e ns → Q .non H'
def spEdAll (K : Frag) (CE CG : Addr) : Sp := fun vs H Q _ => ∃ (x : Addr) (rows : List Row) (gs : List (Str × List Int)), vs = [.ref x] ∧ EdAt CE H x rows gs ∧ rows.length ≤ 16 ∧
  ∀ (H' : Hp) (q : Addr), Same H H' → H q = none → GrAt K CG H' q x ((List.range rows.length).map fun (i : Nat) => (i : Int)) → Q (.ref q) H'
theorem sqt_but {K : Frag} {x l C dx : Addr} {fs : List (Str × V)} {xs : List V} {H H1 : Hp} (hq : SqT K H l xs) (a : But x H H1) (hx : H x = some (.ins C dx fs)) : SqT K H1 l xs := by
  rcases hq with (h | ⟨u, h⟩) | h
  · exact .inl (.inl (a.keep hx h (fun _ _ _ z => by cases z)))
  · exact .inl (.inr ⟨u, a.keep hx h (fun _ _ _ z => by cases z)⟩)
  · exact .inr h
theorem EdAt.later {C : Addr} {H H' : Hp} {x : Addr} {rows : List Row} {gs : List (Str × List Int)} (h : EdAt C H x rows gs) (s : Same H H') : EdAt C H' x rows gs := by
  obtain ⟨dx, r, g, pl, nu, h1, h2, h3, h4, h5⟩ := h.ob
  refine ⟨dx, r, g, pl, nu, s _ _ h1, h2.later s, ?_, s _ _ h4, s _ _ h5⟩
  obtain ⟨kvs, g1, g2⟩ := h3
  exact ⟨kvs, s _ _ g1, paired_map (fun kv y z => by obtain ⟨e, t, e2, q⟩ := z; exact ⟨e, t, e2, s _ _ q⟩) g2⟩
section
variable {P : Program} {w : World} {K : Frag} {mg : Str → Option Value} {base : Heap}
theorem scEdSets : FnScope ["self"] ["self"] (defScope sEdSets) := ⟨rfl, rfl, rfl, by decide +kernel, rfl, by decide +kernel, by decide +kernel⟩
theorem ok_edsets {f C : Addr} {fd : FuncData} (F : Fun K "sets" "Edition.sets" sEdSets f fd) (T : EdTxt K C) (ts : mg "sorted" = none) : FnOk P w K mg base CX0 1 f fd ["self"] (spEdSets C) := by
  refine F.ok scEdSets (fun vs H Q E h => ?_) (fun cdv A outer s H vs Q E hr h => ?_)
  · obtain ⟨x, rows, gs, rfl, _⟩ := h
    rfl
  · obtain ⟨x, rows, gs, rfl, hx, l64, k⟩ := h
    refine ⟨_, pss_one (ps_ret (pe_callB (call_sortedD rfl) (by rfl) ts boot_sorted' (pa_cons (pe_fld (pv 0) rfl) pa_nil))), ?_⟩
    obtain ⟨dx, r, g, pl, nu, ex, hR, hG, _⟩ := hx
    obtain ⟨kv, d1, q1⟩ := hG
    refine rd_ret (rd_cb (rd_cons ?_))
    refine ⟨_, rfl, x, C, dx, _, _, rfl, ex, T.cl, T.nG, edFs_groups, ?_⟩
    refine rd_nil ⟨g, kv, gs.map (·.1), rfl, .inl d1, grp_keys q1, by rw [List.length_map]; exact l64, fun ys p py sy hp => ?_⟩
    exact k _ p ys ((Same.refl H).new hp) hp upd_same py sy
end
theorem tupI_shaped (ns : List Int) : SeqAt.shaped (.tuple (ns.map .int)) = true := by
  obtain ⟨c, d⟩ := ints_lay ns
  unfold SeqAt.shaped
  rw [PyData.canLay0, PyData.depth, c, d]
  rfl
end Gk
/-! ### the property sets, everything, and what a Group is made of -/
namespace Gk
open PySem PySem.W PySem.Spec PyProof.Rows L2 NdefX
section
variable {P : Program} {w : World} {K : Frag} {mg : Str → Option Value} {base : Heap}
theorem scGrInit : FnScope ["self", "edition", "places"] ["self", "edition", "places"] (defScope sGrInit) := ⟨rfl, rfl, rfl, by decide +kernel, rfl, by decide +kernel, by decide +kernel⟩
theorem ok_grinit {f C : Addr} {fd : FuncData} (F : Fun K "__init__" "Group.__init__" sGrInit f fd) (T : GrTxt K C) (tT : mg "tuple" = none) : FnOk P w K mg base CX0 1 f fd ["self", "edition", "places"] (spGrInit K C) := by
  refine F.ok scGrInit (fun vs H Q E h => ?_) (fun cdv A outer s H vs Q E hr h => ?_)
  · obtain ⟨x, dx, e, p, ns, rfl, _⟩ := h
    rfl
  · obtain ⟨x, dx, e, p, ns, rfl, hx, hp, k⟩ := h
    refine ⟨_, pss_cons (ps_fld (pv 0) (pv 1) rfl) (pss_one (ps_fld (pv 0) (pe_callTy call_tuple_of (by rfl) tT boot_tuple' (pa_cons (pv 2) pa_nil)) rfl)), ?_⟩
    refine rd_seq ⟨_, rfl, _, rfl, x, C, dx, [], rfl, hx, T.cl, T.nE, by decide, ?_⟩
    have b1 : But x H (upd H x (.ins C dx (putF "_edition" (.ref e) []))) := But.of
    have hx1 : upd H x (.ins C dx (putF "_edition" (.ref e) [])) x = some (.ins C dx (putF "_edition" (.ref e) [])) := upd_same
    have hp := seq_but hp b1 hx
    generalize upd H x (.ins C dx (putF "_edition" (.ref e) [])) = H1 at b1 hx1 hp
    refine ⟨_, rfl, p, ns.map V.int, rfl, ?_⟩
    rcases hp with hp | hp
    · refine .inl ⟨hp, fun t ht => ?_⟩
      have s2 : Same H1 (upd H1 t (.tup (ns.map V.int))) := (Same.refl H1).new ht
      have c2 : upd H1 t (.tup (ns.map V.int)) t = some (.tup (ns.map V.int)) := upd_same
      generalize upd H1 t (.tup (ns.map V.int)) = H2 at s2 c2
      have hx2 := s2 _ _ hx1
      refine ⟨_, rfl, x, C, dx, _, rfl, hx2, T.cl, T.nP, by show 1 < 1000; decide, ?_⟩
      have b3 : But x H2 (upd H2 x (.ins C dx (grFs e t))) := But.of
      exact k _ ((b1.same s2).trans b3) ⟨dx, t, upd_same, sqt_but (SqT.of c2) b3 hx2⟩
    · refine .inr ⟨hp, ?_⟩
      refine ⟨_, rfl, x, C, dx, _, rfl, hx1, T.cl, T.nP, by show 1 < 1000; decide, ?_⟩
      have b3 : But x H1 (upd H1 x (.ins C dx (grFs e p))) := But.of
      exact k _ (b1.trans b3) ⟨dx, p, upd_same, sqt_but hp b3 hx1⟩
/-- Group == another kind of value -/
def spGrEq (K : Frag) (CE CG : Addr) : Sp := fun vs H Q _ => ∃ (x e : Addr) (y : V) (ns : List Int) (rows : List Row) (gs : List (Str × List Int)), vs = [.ref x, y] ∧ GrAt K CG H x e ns ∧ EdAt CE H e rows gs ∧ EdLay rows ∧
  ((∃ (b e' : Addr) (ns' : List Int) (rows' : List Row) (gs' : List (Str × List Int)), y = .ref b ∧ GrAt K CG H b e' ns' ∧ EdAt CE H e' rows' gs' ∧ EdLay rows' ∧ Q (.bl (PyData.eqv (.tuple (ns.map .int)) (.tuple (ns'.map .int)) && eqEd rows gs rows' gs')) H) ∨ ∃ t, TyX K H y t ∧ kitOne K t (.ref CG) = some false ∧ Q (.bl false) H)
theorem grFs_places {e t : Addr} : (grFs e t).lookup ("_places" : Str) = some (V.ref t) := by
  unfold grFs
  rw [lookup_putF, if_pos rfl]
theorem grFs_edition {e t : Addr} : (grFs e t).lookup ("_edition" : Str) = some (V.ref e) := by
  have h1 : ¬ (("_edition" : Str) = "_places") := by decide +kernel
  unfold grFs
  rw [lookup_putF, if_neg h1, lookup_putF, if_pos rfl]
theorem scGrEq : FnScope ["self", "other"] ["self", "other"] (defScope sGrEq) := ⟨rfl, rfl, rfl, by decide +kernel, rfl, by decide +kernel, by decide +kernel⟩
theorem ok_greq {f CE CG fE : Addr} {fd fdE : FuncData} (F : Fun K "__eq__" "Group.__eq__" sGrEq f fd) (T : GrTxt K CG) (Z : ClsQ K CG) (ZE : ClsQ K CE) (ti : mg "isinstance" = none) (gG : mg "Group" = some (.ref CG))
    (GE : FnOk P w K mg base CX0 1 fE fdE ["self", "other"] (spEdEq K CE)) (bE : Binds K fdE ["self", "other"] []) (hs : findIn K (.ref CE) "__eq__" = some (some (.ref fE))) (hf : isFn K (.ref fE) = true) : FnOk P w K mg base CX0 2 f fd ["self", "other"] (spGrEq K CE CG) := by
  refine F.ok scGrEq (fun vs H Q E h => ?_) (fun cdv A outer s H vs Q E hr h => ?_)
  · obtain ⟨x, e, y, ns, rows, gs, rfl, _⟩ := h
    rfl
  · obtain ⟨x, e, y, ns, rows, gs, rfl, hx, he, lay, k⟩ := h
    refine ⟨_, pss_cons (ps_if (pt_not (pt_val (pe_callB call_isi (by rfl) ti boot_isi' (pa_cons (pv 1) (pa_cons (pe_glob (v := .ref CG) (by rfl) gG rfl) pa_nil))))) (pss_one (ps_ret pe_bl)) pss_nil)
      (pss_one (ps_ret (pe_and (pe_cmpR (op_eqD hr.units) (pe_fld (pv 0) rfl) (pe_fld (pv 1) rfl) (nomark _)) (pe_one (pe_cmpR (op_eqI (E := E0) GE hr hs hf bE pass0) (pe_fld (pv 0) rfl) (pe_fld (pv 1) rfl) (nomark _)))))), ?_⟩
    refine rd_seq (rd_if (rd_not (rd_b (rd_cb (rd_cons (rd_var rfl (rd_cons (rd_c (rd_nil ?_)))))))))
    rcases k with ⟨b, e', ns', rows', gs', rfl, hb, he', lay', k⟩ | ⟨t, ty, ko, k⟩
    · obtain ⟨dx, t, ex, ht⟩ := hx
      obtain ⟨dy, t', ey, ht'⟩ := hb
      refine ⟨_, _, _, _, true, rfl, .own CG, Z.ty ey, Z.own, true, rfl, ?_⟩
      refine ite_no rfl (rd_next ?_)
      with_reducible refine rd_ret ?_
      refine rd_op ⟨_, rfl, x, CG, dx, _, _, rfl, ex, T.cl, T.nP, grFs_places, ?_⟩
      refine ⟨_, rfl, b, CG, dy, _, _, rfl, ey, T.cl, T.nP, grFs_places, ?_⟩
      refine ⟨_, _, .tup ht (dp_ints ns), .tup ht' (dp_ints ns'), tupI_shaped ns, tupI_shaped ns', _, rfl, ?_⟩
      cases h1 : PyData.eqv (.tuple (ns.map .int)) (.tuple (ns'.map .int)) with
      | false =>
        rw [h1, Bool.false_and] at k
        exact k
      | true =>
        rw [h1, Bool.true_and] at k
        refine ite_yes rfl (rd_op ⟨_, rfl, x, CG, dx, _, _, rfl, ex, T.cl, T.nE, grFs_edition, ?_⟩)
        refine ⟨_, rfl, b, CG, dy, _, _, rfl, ey, T.cl, T.nE, grFs_edition, ?_⟩
        obtain ⟨d1, r1, g1, p1, n1, o1, z1⟩ := id he.ob
        obtain ⟨d2, r2, g2, p2, n2, o2, z2⟩ := id he'.ob
        exact ⟨e, _, _, _, rfl, o1, ZE.ty o2, ClsQ.self, e, .ref e', rows, gs, rfl, he, lay, .inl ⟨e', rows', gs', rfl, he', lay', _, rfl, k⟩⟩
    · exact ⟨_, _, _, _, false, rfl, .own CG, ty, ko, false, rfl, ite_yes rfl (rd_ret (rd_c k))⟩
end
end Gk
/-! ### members, and what an edition tells by name -/
namespace Gk
open PySem PySem.W PySem.Spec PyProof.Rows L2 NdefX
abbrev sMemInit : Stmt := (inClass (top 19) 0)
abbrev sEdLen : Stmt := (inClass (top 21) 3)
abbrev sEdHas : Stmt := (inClass (top 21) 4)
abbrev sEdGet : Stmt := (inClass (top 21) 5)
def memFs (e al : Addr) (x : Row) (pl : Int) : List (Str × V) := putF "_edition" (.ref e) (putF "place" (.int pl) (putF "number" (.int x.num) (putF "aliases" (.ref al) (putF "name" (.str x.name) []))))
/-- a member, of the edition at e, of this row, at this place -/
def MemAt (C : Addr) (H : Hp) (q e : Addr) (x : Row) (pl : Nat) : Prop := ∃ dx al, H q = some (.ins C dx (memFs e al x (pl : Int))) ∧ H al = some (.tup (x.al.map V.str))
structure MemTxt (K : Frag) (C : Addr) : Prop where
  cl : Cls K C
  nN : NoAttr K C "name"
  nA : NoAttr K C "aliases"
  nU : NoAttr K C "number"
  nP : NoAttr K C "place"
  nE : NoAttr K C "_edition"
def spMemInit (CE CM : Addr) : Sp := fun vs H Q _ => ∃ (x dx e : Addr) (i : Nat) (rows : List Row) (gs : List (Str × List Int)) (r : Row), vs = [.ref x, .ref e, .int (i : Nat)] ∧ H x = some (.ins CM dx []) ∧ EdAt CE H e rows gs ∧ rows[i]? = some r ∧
  ∀ H', But x H H' → MemAt CM H' x e r i → Q .non H'
def spEdLen (CE : Addr) : Sp := fun vs H Q _ => ∃ (x : Addr) (rows : List Row) (gs : List (Str × List Int)), vs = [.ref x] ∧ EdAt CE H x rows gs ∧ Q (.int rows.length) H
/-- value in edition -/
def spEdHas (K : Frag) (CE : Addr) : Sp := fun vs H Q _ => ∃ (x : Addr) (y : V) (rows : List Row) (gs : List (Str × List Int)), vs = [.ref x, y] ∧ EdAt CE H x rows gs ∧
  ((∃ w : Str, y = .str w ∧ Q (.bl (decide (w ∈ wordsOf rows))) H) ∨ ∃ t, TyX K H y t ∧ kitOne K t (.type "str") = some false ∧ Q (.bl false) H)
def spEdGet (CE CM : Addr) : Sp := fun vs H Q _ => ∃ (x : Addr) (w : Str) (rows : List Row) (gs : List (Str × List Int)) (i : Nat) (r : Row), vs = [.ref x, .str w] ∧ EdAt CE H x rows gs ∧ (wordsOf rows).Nodup ∧ rows[i]? = some r ∧ w ∈ r.name :: r.al ∧
  ∀ H' q, Same H H' → H q = none → MemAt CM H' q x r i → Q (.ref q) H'
theorem edFs_places {r g pl nu : Addr} : (edFs r g pl nu).lookup ("_places" : Str) = some (V.ref pl) := by
  have h1 : ¬ (("_places" : Str) = "_numbers") := by decide +kernel
  unfold edFs
  rw [lookup_putF, if_neg h1, lookup_putF, if_pos rfl]
theorem edFs_numbers {r g pl nu : Addr} : (edFs r g pl nu).lookup ("_numbers" : Str) = some (V.ref nu) := by
  unfold edFs
  rw [lookup_putF, if_pos rfl]
/-! what _places holds -/
theorem valV_app_none {a b : List (Key × V)} {k : Key} (h : valV a k = none) : valV (a ++ b) k = valV b k := by
  induction a with
  | nil => rfl
  | cons p a ih =>
    obtain ⟨k', v⟩ := p
    by_cases e : k' = k
    · rw [show valV ((k', v) :: a) k = some v from valV_pos e] at h
      cases h
    · rw [List.cons_append, valV_neg e]
      rw [valV_neg e] at h
      exact ih h
theorem valV_app_some {a b : List (Key × V)} {k : Key} {v : V} (h : valV a k = some v) : valV (a ++ b) k = some v := by
  induction a with
  | nil => cases h
  | cons p a ih =>
    obtain ⟨k', u⟩ := p
    by_cases e : k' = k
    · rw [show valV ((k', u) :: a) k = some u from valV_pos e] at h
      rw [List.cons_append, show valV ((k', u) :: (a ++ b)) k = some u from valV_pos e]
      exact h
    · rw [valV_neg e] at h
      rw [List.cons_append, valV_neg e]
      exact ih h
theorem valV_words {w : Str} {v : V} : ∀ {ws : List Str}, w ∈ ws → valV (ws.map fun y => ((Sum.inr y : Key), v)) (.inr w) = some v
  | [], h => by cases h
  | x :: ws, h => by
    by_cases e : x = w
    · exact valV_pos (by rw [e])
    · rw [List.map_cons, valV_neg (fun z => e (Sum.inr.inj z))]
      exact valV_words (by
        rcases List.mem_cons.mp h with z | z
        · exact absurd z.symm e
        · exact z)
theorem valV_words_no {w : Str} {v : V} {ws : List Str} (h : w ∉ ws) : valV (ws.map fun y => ((Sum.inr y : Key), v)) (.inr w) = none := valV_no fun hm => by
  rw [List.map_map] at hm
  obtain ⟨y, hy, e⟩ := List.mem_map.mp hm
  exact h (Sum.inr.inj e ▸ hy)
theorem pl_val {rows : List Row} (nd : (wordsOf rows).Nodup) {w : Str} {i : Nat} {r : Row} (hr : rows[i]? = some r) (hw : w ∈ r.name :: r.al) : ∀ n, n ≤ rows.length → (i < n → valV (plKV rows n) (.inr w) = some (.int (i : Nat))) ∧ (n ≤ i → valV (plKV rows n) (.inr w) = none)
  | 0, _ => ⟨fun h => absurd h (Nat.not_lt_zero _), fun _ => rfl⟩
  | n + 1, hn => by
    obtain ⟨a, b⟩ := pl_val nd hr hw n (by omega)
    obtain ⟨y, hy⟩ : ∃ y, rows[n]? = some y := ⟨_, List.getElem?_eq_getElem (by omega)⟩
    have ep : plKV rows (n + 1) = plKV rows n ++ (y.name :: y.al).map fun z => (Sum.inr z, V.int (n : Nat)) := by
      show plKV rows n ++ (match rows[n]? with | some r => _ | none => _) = _
      rw [hy]
    rw [ep]
    refine ⟨fun h => ?_, fun h => ?_⟩
    · by_cases e : i < n
      · exact valV_app_some (a e)
      · obtain rfl : i = n := by omega
        rw [valV_app_none (b (Nat.le_refl _))]
        rw [hr] at hy
        obtain rfl := Option.some.inj hy
        exact valV_words hw
    · rw [valV_app_none (b (by omega))]
      refine valV_words_no fun hm => ?_
      -- w would stand in two rows
      have split : ∀ (l : List Row) (i n : Nat) (r y : Row), (wordsOf l).Nodup → l[n]? = some y → l[i]? = some r → n < i → w ∈ y.name :: y.al → w ∈ r.name :: r.al → False := by
        intro l
        induction l with
        | nil => exact fun i n r y _ h => by simp at h
        | cons x l ih =>
          intro i n r y nd hy hr lt h1 h2
          rw [words_cons] at nd
          cases i with
          | zero => omega
          | succ i =>
            cases n with
            | zero =>
              obtain rfl := Option.some.inj hy
              have m2 : w ∈ wordsOf l := List.mem_flatMap.mpr ⟨r, List.mem_of_getElem? hr, h2⟩
              exact (List.nodup_append.mp nd).2.2 w h1 w m2 rfl
            | succ n => exact ih i n r y (List.nodup_append.mp nd).2.1 hy hr (by omega) h1 h2
      exact split rows i n r y nd hy hr (by omega) hm hw
theorem pl_none {rows : List Row} {w : Str} (h : w ∉ wordsOf rows) : ∀ n, valV (plKV rows n) (.inr w) = none
  | 0 => rfl
  | n + 1 => by
    have ih := pl_none h n
    unfold plKV
    rw [valV_app_none ih]
    cases e : rows[n]? with
    | none => rfl
    | some y => exact valV_words_no fun hm => h (List.mem_flatMap.mpr ⟨y, List.mem_of_getElem? e, hm⟩)
theorem mem_row {rows : List Row} {w : Str} (h : w ∈ wordsOf rows) : ∃ (i : Nat) (r : Row), rows[i]? = some r ∧ w ∈ r.name :: r.al := by
  obtain ⟨r, hr, hw⟩ := List.mem_flatMap.mp h
  obtain ⟨i, hi⟩ := List.mem_iff_getElem?.mp hr
  exact ⟨i, r, hi, hw⟩
theorem putF_len (f : Str) (v : V) (fs : List (Str × V)) : (putF f v fs).length ≤ fs.length + 1 := by
  induction fs with
  | nil => exact Nat.le_refl _
  | cons p fs ih =>
    unfold putF
    split
    · simp
    · simp only [List.length_cons]
      omega
section
variable {P : Program} {w : World} {K : Frag} {mg : Str → Option Value} {base : Heap}
theorem scMemInit : FnScope ["self", "edition", "place", "row"] ["self", "edition", "place"] (defScope sMemInit) := ⟨rfl, rfl, rfl, by decide +kernel, rfl, by decide +kernel, by decide +kernel⟩
theorem ok_meminit {f CE CM : Addr} {fd : FuncData} (F : Fun K "__init__" "Member.__init__" sMemInit f fd) (T : EdTxt K CE) (TM : MemTxt K CM) : FnOk P w K mg base CX0 1 f fd ["self", "edition", "place"] (spMemInit CE CM) := by
  refine F.ok scMemInit (fun vs H Q E h => ?_) (fun cdv A outer s H vs Q E hr h => ?_)
  · obtain ⟨x, dx, e, i, rows, gs, r, rfl, _⟩ := h
    rfl
  · obtain ⟨x, dx, e, i, rows, gs, r, rfl, hx, he, hi, k⟩ := h
    have nd := scMemInit.nd
    refine ⟨_, pss_cons (ps_set (i := 3) nd rfl (Or.inl rfl) (pe_ix ix_list (pe_fld (pv 1) rfl) (pv 2) (fun _ _ => rfl)))
      (pss_cons (ps_fld (pv 0) (pe_ix ix_tup (pv 3) pe_int (fun _ _ => rfl)) rfl) (pss_cons (ps_fld (pv 0) (pe_ix ix_tup (pv 3) pe_int (fun _ _ => rfl)) rfl) (pss_cons (ps_fld (pv 0) (pe_ix ix_tup (pv 3) pe_int (fun _ _ => rfl)) rfl) (pss_cons (ps_fld (pv 0) (pv 2) rfl) (pss_one (ps_fld (pv 0) (pv 1) rfl)))))), ?_⟩
    obtain ⟨de, rl, g, pl, nu, h1, h2, h3, h4, h5⟩ := he.ob
    obtain ⟨us, hus, pu⟩ := h2
    have iu : i < us.length := by rw [paired_len pu]; exact (List.getElem?_eq_some_iff.mp hi).1
    obtain ⟨u, hu⟩ : ∃ u, us[i]? = some u := ⟨_, List.getElem?_eq_getElem iu⟩
    obtain ⟨y, hy, t, al, rfl, ht, hal⟩ := paired_left pu hu
    rw [hi] at hy
    obtain rfl := Option.some.inj hy
    have step : ∀ {f : Str} {v : V} {fs : List (Str × V)} {H : Hp}, H x = some (.ins CM dx fs) → H t = some (.tup [.str r.name, .ref al, .int r.num]) → H al = some (.tup (r.al.map V.str)) → But x H (upd H x (.ins CM dx (putF f v fs))) ∧ upd H x (.ins CM dx (putF f v fs)) x = some (.ins CM dx (putF f v fs)) ∧ upd H x (.ins CM dx (putF f v fs)) t = some (.tup [.str r.name, .ref al, .int r.num]) ∧ upd H x (.ins CM dx (putF f v fs)) al = some (.tup (r.al.map V.str)) :=
      fun hx ht hal => ⟨But.of, upd_same, by rw [upd_ne (ne_of ht hx fun z => by cases z)]; exact ht, by rw [upd_ne (ne_of hal hx fun z => by cases z)]; exact hal⟩
    with_reducible refine rd_seq ?_
    refine rd_asg ⟨_, rfl, e, CE, de, _, _, rfl, h1, T.cl, T.nR, edFs_rows, _, rfl, rl, us, _, _, rfl, rfl, SqL.of hus, at_of rfl hu, rd_gn ?_⟩
    obtain ⟨b1, x1, t1, a1⟩ := step (f := "name") (v := .str r.name) hx ht hal
    with_reducible refine rd_seq ?_
    refine ⟨_, rfl, t, _, _, _, rfl, rfl, SqT.of ht, rfl, _, rfl, x, CM, dx, [], rfl, hx, TM.cl, TM.nN, by decide, ?_⟩
    generalize upd H x (.ins CM dx (putF "name" (.str r.name) [])) = H1 at b1 x1 t1 a1
    obtain ⟨b2, x2, t2, a2⟩ := step (f := "aliases") (v := .ref al) x1 t1 a1
    with_reducible refine rd_seq ?_
    refine ⟨_, rfl, t, _, _, _, rfl, rfl, SqT.of t1, rfl, _, rfl, x, CM, dx, _, rfl, x1, TM.cl, TM.nA, by show 1 < 1000; decide, ?_⟩
    generalize upd H1 x (.ins CM dx (putF "aliases" (.ref al) (putF "name" (.str r.name) []))) = H2 at b2 x2 t2 a2
    obtain ⟨b3, x3, t3, a3⟩ := step (f := "number") (v := .int r.num) x2 t2 a2
    with_reducible refine rd_seq ?_
    refine ⟨_, rfl, t, _, _, _, rfl, rfl, SqT.of t2, rfl, _, rfl, x, CM, dx, _, rfl, x2, TM.cl, TM.nU, by show 2 < 1000; decide, ?_⟩
    generalize upd H2 x (.ins CM dx (putF "number" (.int r.num) (putF "aliases" (.ref al) (putF "name" (.str r.name) [])))) = H3 at b3 x3 t3 a3
    obtain ⟨b4, x4, t4, a4⟩ := step (f := "place") (v := .int (i : Nat)) x3 t3 a3
    with_reducible refine rd_seq ?_
    refine ⟨_, rfl, _, rfl, x, CM, dx, _, rfl, x3, TM.cl, TM.nP, by show 3 < 1000; decide, ?_⟩
    generalize upd H3 x (.ins CM dx (putF "place" (.int (i : Nat)) (putF "number" (.int r.num) (putF "aliases" (.ref al) (putF "name" (.str r.name) []))))) = H4 at b4 x4 t4 a4
    obtain ⟨b5, x5, t5, a5⟩ := step (f := "_edition") (v := .ref e) x4 t4 a4
    refine ⟨_, rfl, _, rfl, x, CM, dx, _, rfl, x4, TM.cl, TM.nE, by show 4 < 1000; decide, ?_⟩
    exact k _ ((((b1.trans b2).trans b3).trans b4).trans b5) ⟨dx, al, x5, a5⟩
theorem scEdLen : FnScope ["self"] ["self"] (defScope sEdLen) := ⟨rfl, rfl, rfl, by decide +kernel, rfl, by decide +kernel, by decide +kernel⟩
theorem ok_edlen {f CE : Addr} {fd : FuncData} (F : Fun K "__len__" "Edition.__len__" sEdLen f fd) (T : EdTxt K CE) (tN : mg "len" = none) : FnOk P w K mg base CX0 1 f fd ["self"] (spEdLen CE) := by
  refine F.ok scEdLen (fun vs H Q E h => ?_) (fun cdv A outer s H vs Q E hr h => ?_)
  · obtain ⟨x, rows, gs, rfl, _⟩ := h
    rfl
  · obtain ⟨x, rows, gs, rfl, he, k⟩ := h
    refine ⟨_, pss_one (ps_ret (pe_callB call_len_seq (by rfl) tN PySem.boot_len (pa_cons (pe_fld (pv 0) rfl) pa_nil))), ?_⟩
    obtain ⟨de, rl, g, pl, nu, h1, ⟨us, hus, pu⟩, _⟩ := he.ob
    rw [← paired_len pu] at k
    exact ⟨_, rfl, x, CE, de, _, _, rfl, h1, T.cl, T.nR, edFs_rows, rl, us, rfl, .inl (SqL.of hus), k⟩
theorem scEdHas : FnScope ["self", "value"] ["self", "value"] (defScope sEdHas) := ⟨rfl, rfl, rfl, by decide +kernel, rfl, by decide +kernel, by decide +kernel⟩
theorem ok_edhas {f CE : Addr} {fd : FuncData} (F : Fun K "__contains__" "Edition.__contains__" sEdHas f fd) (T : EdTxt K CE) (ti : mg "isinstance" = none) (ts : mg "str" = none) : FnOk P w K mg base CX0 1 f fd ["self", "value"] (spEdHas K CE) := by
  refine F.ok scEdHas (fun vs H Q E h => ?_) (fun cdv A outer s H vs Q E hr h => ?_)
  · obtain ⟨x, y, rows, gs, rfl, _⟩ := h
    rfl
  · obtain ⟨x, y, rows, gs, rfl, he, k⟩ := h
    have hu := hu_of hr
    refine ⟨_, pss_one (ps_ret (pe_and (pe_callB call_isi (by rfl) ti boot_isi' (pa_cons (pv 1) (pa_cons (pe_bltn (v := .ty "str") (by rfl) ts boot_str' rfl) pa_nil))) (pe_one (pe_cmp (pc_din hu (pv 1) (pe_fld (pv 0) rfl)))))), ?_⟩
    obtain ⟨de, rl, g, pl, nu, h1, h2, h3, h4, h5⟩ := he.ob
    rcases k with ⟨w, rfl, k⟩ | ⟨t, ty, ko, k⟩
    · refine rd_ret (rd_cb (rd_cons (rd_var rfl (rd_cons (rd_c (rd_nil ⟨_, _, _, _, true, rfl, .ty "str", .base (.str w), kit_ty (by decide +kernel), true, rfl, ite_yes rfl ?_⟩))))))
      refine ⟨_, rfl, _, rfl, x, CE, de, _, _, rfl, h1, T.cl, T.nP, edFs_places, pl, _, rfl, DGet.k (k := .inr w) h4, ?_⟩
      by_cases hw : w ∈ wordsOf rows
      · rw [decide_eq_true hw] at k
        have some_ : (valV (plKV rows rows.length) (.inr w : Key)).isSome = true := by
          have : ∀ n, n ≤ rows.length → ∀ (i : Nat) (r : Row), rows[i]? = some r → w ∈ r.name :: r.al → i < n → (valV (plKV rows n) (.inr w : Key)).isSome = true := by
            intro n
            induction n with
            | zero => exact fun _ i r _ _ h => absurd h (Nat.not_lt_zero _)
            | succ n ih =>
              intro hn i r hr hw lt
              cases hv : valV (plKV rows n) (.inr w : Key) with
              | some v =>
                unfold plKV
                rw [valV_app_some hv]
                rfl
              | none =>
                by_cases e : i < n
                · have := ih (by omega) i r hr hw e
                  rw [hv] at this
                  cases this
                · obtain rfl : i = n := by omega
                  unfold plKV
                  rw [valV_app_none hv, hr]
                  show (valV ((r.name :: r.al).map fun y => ((Sum.inr y : Key), V.int (i : Nat))) (.inr w)).isSome = true
                  rw [valV_words hw]
                  rfl
          obtain ⟨i, r, hr, hw⟩ := mem_row hw
          exact this rows.length (Nat.le_refl _) i r hr hw (List.getElem?_eq_some_iff.mp hr).1
        rw [some_]
        exact k
      · rw [decide_eq_false hw] at k
        rw [pl_none hw]
        exact k
    · exact rd_ret (rd_cb (rd_cons (rd_var rfl (rd_cons (rd_c (rd_nil ⟨_, _, _, _, false, rfl, .ty "str", ty, ko, false, rfl, ite_no rfl k⟩))))))
theorem scEdGet : FnScope ["self", "name"] ["self", "name"] (defScope sEdGet) := ⟨rfl, rfl, rfl, by decide +kernel, rfl, by decide +kernel, by decide +kernel⟩
theorem ok_edget {f CE CM fI : Addr} {fd fdI : FuncData} (F : Fun K "__getitem__" "Edition.__getitem__" sEdGet f fd) (T : EdTxt K CE) (ti : mg "isinstance" = none) (ts : mg "str" = none) (M : Mk K CM fI) (gM : mg "Member" = some (.ref CM))
    (GI : FnOk P w K mg base CX0 1 fI fdI ["self", "edition", "place"] (spMemInit CE CM)) (bI : Binds K fdI ["self", "edition", "place"] []) : FnOk P w K mg base CX0 3 f fd ["self", "name"] (spEdGet CE CM) := by
  refine F.ok scEdGet (fun vs H Q E h => ?_) (fun cdv A outer s H vs Q E hr h => ?_)
  · obtain ⟨x, w, rows, gs, i, r, rfl, _⟩ := h
    rfl
  · obtain ⟨x, w, rows, gs, i, r, rfl, he, nd, hi, hw, k⟩ := h
    have hu := hu_of hr
    refine ⟨_, pss_cons (ps_if (PW.pt (pw_or (pt_not (pt_val (pe_callB call_isi (by rfl) ti boot_isi' (pa_cons (pv 1) (pa_cons (pe_bltn (v := .ty "str") (by rfl) ts boot_str' rfl) pa_nil))))) (pw_or1 (pt_cmp (pc_dnotin hu (pv 1) (pe_fld (pv 0) rfl)))))) pss_dead pss_nil)
      (pss_one (ps_ret (pe_make M GI hr (by rfl) gM bI .nil pass0 (pa_cons (pv 0) (pa_cons (pe_dget hu (pe_fld (pv 0) rfl) (pv 1) (fun _ _ => rfl)) pa_nil))))), ?_⟩
    obtain ⟨de, rl, g, pl, nu, h1, h2, h3, h4, h5⟩ := id he.ob
    have il : i < rows.length := (List.getElem?_eq_some_iff.mp hi).1
    have hv : valV (plKV rows rows.length) (.inr w : Key) = some (.int (i : Nat)) := (pl_val nd hi hw rows.length (Nat.le_refl _)).1 il
    have g1 : DGet H pl (.str w) (some (.int (i : Nat))) := by
      have := DGet.k (k := .inr w) h4
      rw [hv] at this
      exact this
    with_reducible refine rd_seq ?_
    refine rd_if (rd_or (rd_not (rd_b (rd_cb (rd_cons (rd_var rfl (rd_cons (rd_c (rd_nil ⟨_, _, _, _, true, rfl, .ty "str", .base (.str w), kit_ty (by decide +kernel), true, rfl, ite_no rfl ?_⟩)))))))))
    refine ⟨_, rfl, _, rfl, x, CE, de, _, _, rfl, h1, T.cl, T.nP, edFs_places, pl, _, rfl, g1, _, rfl, ite_no rfl (rd_next ?_)⟩
    with_reducible refine rd_ret ?_
    unfold tMake
    refine rd_cons (rd_var rfl (rd_cons ?_))
    refine ⟨_, rfl, x, CE, de, _, _, rfl, h1, T.cl, T.nP, edFs_places, _, rfl, pl, _, rfl, g1, rd_nil fun y dy hy hdy ne => ?_⟩
    have s3 : Same H (upd (upd H dy (.own y)) y (.ins CM dy [])) := ((Same.refl H).new hdy).new (by rw [upd_ne ne.symm]; exact hy)
    have cy : upd (upd H dy (.own y)) y (.ins CM dy []) y = some (.ins CM dy []) := upd_same
    show spMemInit CE CM _ (upd (upd H dy (.own y)) y (.ins CM dy [])) _ _
    generalize upd (upd H dy (.own y)) y (.ins CM dy []) = H3 at s3 cy
    exact ⟨y, dy, x, i, rows, gs, r, rfl, cy, he.later s3, hi, fun H' bt ma => ⟨rfl, k H' y (fun b u z => bt b u (ne_of_none z hy) (s3 b u z)) hy ma⟩⟩
end
end Gk
/-! ### what a Group does -/
namespace Gk
open PySem PySem.W PySem.Spec PyProof.Rows L2 NdefX
abbrev sGrNames : Stmt := (inClass (top 20) 1)
abbrev sGrLen : Stmt := (inClass (top 20) 2)
abbrev sGrBool : Stmt := (inClass (top 20) 3)
abbrev sGrHas : Stmt := (inClass (top 20) 4)
abbrev sGrOr : Stmt := (inClass (top 20) 6)
abbrev sGrAnd : Stmt := (inClass (top 20) 7)
abbrev sGrSub : Stmt := (inClass (top 20) 8)
/-- places of an edition of so many members -/
def PlOk (ns : List Int) (n : Nat) : Prop := (∀ z ∈ ns, 0 ≤ z ∧ z < n) ∧ ns.length ≤ n
def namesAt (rows : List Row) (ns : List Int) : List Str := ns.map fun z => ((rows[z.toNat]?).map (·.name)).getD ""
theorem GrAt.later {K : Frag} {C : Addr} {H H' : Hp} {x e : Addr} {ns : List Int} (h : GrAt K C H x e ns) (s : Same H H') : GrAt K C H' x e ns := by
  obtain ⟨dx, t, h1, h2⟩ := h
  exact ⟨dx, t, s _ _ h1, s.sqT h2⟩
theorem MemAt.later {C : Addr} {H H' : Hp} {q e : Addr} {x : Row} {pl : Nat} (h : MemAt C H q e x pl) (s : Same H H') : MemAt C H' q e x pl := by
  obtain ⟨dx, al, h1, h2⟩ := h
  exact ⟨dx, al, s _ _ h1, s _ _ h2⟩
def spGrNames (K : Frag) (CE CG : Addr) : Sp := fun vs H Q _ => ∃ (x e : Addr) (ns : List Int) (rows : List Row) (gs : List (Str × List Int)), vs = [.ref x] ∧ GrAt K CG H x e ns ∧ EdAt CE H e rows gs ∧ PlOk ns rows.length ∧ rows.length ≤ 16 ∧
  ∀ H' q, Same H H' → H q = none → H' q = some (.lst ((namesAt rows ns).map V.str)) → Q (.ref q) H'
def spGrLen (K : Frag) (CG : Addr) : Sp := fun vs H Q _ => ∃ (x e : Addr) (ns : List Int), vs = [.ref x] ∧ GrAt K CG H x e ns ∧ Q (.int ns.length) H
def spGrBool (K : Frag) (CG : Addr) : Sp := fun vs H Q _ => ∃ (x e : Addr) (ns : List Int), vs = [.ref x] ∧ GrAt K CG H x e ns ∧ Q (.bl (!ns.isEmpty)) H
def spGrHas (K : Frag) (CE CG CM : Addr) : Sp := fun vs H Q _ => ∃ (x e : Addr) (y : V) (ns : List Int) (rows : List Row) (gs : List (Str × List Int)), vs = [.ref x, y] ∧ GrAt K CG H x e ns ∧ EdAt CE H e rows gs ∧ EdLay rows ∧
  ((∃ (q e' : Addr) (r : Row) (pl : Nat) (rows' : List Row) (gs' : List (Str × List Int)), y = .ref q ∧ MemAt CM H q e' r pl ∧ EdAt CE H e' rows' gs' ∧ EdLay rows' ∧ Q (.bl (decide ((pl : Int) ∈ ns) && eqEd rows' gs' rows gs)) H) ∨ ∃ t, TyX K H y t ∧ kitOne K t (.ref CM) = some false ∧ Q (.bl false) H)
/-- a new set of members, by the places of two -/
def spGrOp (K : Frag) (CE CG : Addr) (op : Nat → List Int → List Int → List Int) : Sp := fun vs H Q _ => ∃ (x y e e' : Addr) (ns ms : List Int) (rows : List Row) (gs : List (Str × List Int)), vs = [.ref x, .ref y] ∧ GrAt K CG H x e ns ∧ GrAt K CG H y e' ms ∧ EdAt CE H e rows gs ∧ rows.length ≤ 16 ∧ ns.length ≤ 100 ∧ ms.length ≤ 100 ∧
  ∀ H' q, Same H H' → H q = none → GrAt K CG H' q e (op rows.length ns ms) → Q (.ref q) H'
def rangeI (n : Nat) : List Int := (List.range n).map fun (i : Nat) => (i : Int)
def orP (n : Nat) (a b : List Int) : List Int := (rangeI n).filter fun z => decide (z ∈ a ++ b)
def andP (_ : Nat) (a b : List Int) : List Int := a.filter fun z => decide (z ∈ b)
def subP (_ : Nat) (a b : List Int) : List Int := a.filter fun z => !decide (z ∈ b)
theorem inV_ints (z : Int) (ws : List Int) : inV (.int z) (ws.map V.int) = decide (z ∈ ws) := by
  rw [Bool.eq_iff_iff, decide_eq_true_eq]
  unfold inV
  rw [List.any_map, List.any_eq_true]
  constructor
  · rintro ⟨y, hy, e⟩
    have : y = z := by simpa [eqV] using e
    exact this ▸ hy
  · exact fun h => ⟨z, h, by simp [eqV]⟩
theorem flat_ints (ws : List Int) : (ws.map V.int).all flatV = true := by
  rw [List.all_map, List.all_eq_true]
  exact fun _ _ => rfl
theorem filter_take {α : Type} {f : α → Bool} {xs : List α} {i : Nat} {x : α} (h : xs[i]? = some x) : (xs.take (i + 1)).filter f = (xs.take i).filter f ++ (if f x = true then [x] else []) := by
  rw [List.take_add_one, h, List.filter_append]
  congr 1
  by_cases c : f x = true
  · rw [if_pos c]; simp [c]
  · rw [if_neg c]; simp [c]
theorem memFs_place {e al : Addr} {x : Row} {pl : Int} : (memFs e al x pl).lookup ("place" : Str) = some (V.int pl) := by
  have h1 : ¬ (("place" : Str) = "_edition") := by decide +kernel
  unfold memFs
  rw [lookup_putF, if_neg h1, lookup_putF, if_pos rfl]
theorem memFs_edition {e al : Addr} {x : Row} {pl : Int} : (memFs e al x pl).lookup ("_edition" : Str) = some (V.ref e) := by
  unfold memFs
  rw [lookup_putF, if_pos rfl]
section
variable {P : Program} {w : World} {K : Frag} {mg : Str → Option Value} {base : Heap} {CE CG CM : Addr}
theorem scGrNames : FnScope ["self", "place"] ["self"] (defScope sGrNames) := ⟨rfl, rfl, rfl, by decide +kernel, rfl, by decide +kernel, by decide +kernel⟩
theorem ok_grnames {f : Addr} {fd : FuncData} (F : Fun K "names" "Group.names" sGrNames f fd) (TE : EdTxt K CE) (T : GrTxt K CG) : FnOk P w K mg base CX0 1 f fd ["self"] (spGrNames K CE CG) := by
  refine F.ok scGrNames (fun vs H Q E h => ?_) (fun cdv A outer s H vs Q E hr h => ?_)
  · obtain ⟨x, e, ns, rows, gs, rfl, _⟩ := h
    rfl
  · obtain ⟨x, e, ns, rows, gs, rfl, hx, he, ok, l16, k⟩ := h
    have nd := scGrNames.nd
    refine ⟨_, pss_one (ps_ret (by exact (pe_lc (own := [("place", 1)]) (te := tOp (rIxT K) (tOp (rIxL K) (tFld K (tFld K (tVar 0) "_edition") "_rows") (tVar 1)) (tC (.int 0))) (g := gName 1) (tt := tYes) rfl nd (pi_tup (pe_fld (pv 0) rfl)) (blkOk_by (N := ["self", "place"]) (sc := defScope sGrNames) (by decide +kernel)) (fun _ _ _ _ _ => pg_name (i := 1) nd rfl (Or.inl rfl))
      (fun _ _ _ _ _ => pts_nil) (fun _ _ _ _ _ => by exact (pe_ix ix_tup (pe_ix ix_list (pe_fld (pe_fld (pv 0) rfl) rfl) (pv 1) (fun _ _ => rfl)) pe_int (fun _ _ => rfl)))))), ?_⟩
    obtain ⟨dx, t, ex, ht⟩ := hx
    obtain ⟨de, rl, g, pl, nu, h1, ⟨us, hus, pu⟩, _⟩ := he.ob
    have lu := paired_len pu
    refine ⟨_, rfl, x, CG, dx, _, _, rfl, ex, T.cl, T.nP, grFs_places, t, rfl, ⟨_, ht⟩, fun LD hLD => ?_⟩
    refine lc_it (walk_tup (xs := ns.map V.int)) (fun i H' => Same H H' ∧ H' LD = some (.lst ((namesAt rows (ns.take i)).map V.str))) ⟨(Same.refl H).new hLD, upd_same⟩ (fun i H' _ z => z.1.sqT ht) ?_ ?_
    · rintro i v H1 H2 hi ⟨s1, c1⟩ ⟨rfl, hv⟩
      obtain ⟨z, hz, rfl⟩ : ∃ z, ns[i]? = some z ∧ v = V.int z := by
        rw [List.getElem?_map] at hv
        cases e : ns[i]? with
        | none => rw [e] at hv; cases hv
        | some n => rw [e] at hv; exact ⟨n, rfl, (Option.some.inj hv).symm⟩
      obtain ⟨z0, z1⟩ := ok.1 z (List.mem_of_getElem? hz)
      obtain ⟨j, rfl⟩ := Int.eq_ofNat_of_zero_le z0
      have jl : j < us.length := by omega
      obtain ⟨u, hu⟩ : ∃ u, us[j]? = some u := ⟨_, List.getElem?_eq_getElem jl⟩
      obtain ⟨y, hy, t2, al, rfl, ht2, hal⟩ := paired_left pu hu
      refine rd_gn ⟨rfl, rd_yes ?_⟩
      refine ⟨_, rfl, x, CG, dx, _, _, rfl, s1 _ _ ex, T.cl, T.nE, grFs_edition, e, CE, de, _, _, rfl, s1 _ _ h1, TE.cl, TE.nR, edFs_rows, _, rfl, rl, us, _, _, rfl, rfl, SqL.of (s1 _ _ hus), at_of rfl hu, t2, _, _, _, rfl, rfl, SqT.of (s1 _ _ ht2), rfl, ?_⟩
      have ln : (namesAt rows (ns.take i)).length ≤ 16 := by
        unfold namesAt
        rw [List.length_map, List.length_take]
        have := ok.2
        omega
      refine ⟨_, c1, by rw [List.length_map]; exact Nat.lt_of_le_of_lt ln (by decide), s1.mut hLD, ?_⟩
      rw [upd_same]
      unfold namesAt
      rw [List.take_add_one, hz, List.map_append, List.map_append]
      show some (HO.lst (_ ++ [V.str y.name])) = some (HO.lst (_ ++ [V.str (((rows[((j : Nat) : Int).toNat]?).map (·.name)).getD "")]))
      rw [Int.toNat_natCast, hy]
      rfl
    · rintro H1 ⟨s1, c1⟩
      rw [List.length_map, List.take_length] at c1
      exact k H1 LD s1 hLD c1
theorem scGrLen : FnScope ["self"] ["self"] (defScope sGrLen) := ⟨rfl, rfl, rfl, by decide +kernel, rfl, by decide +kernel, by decide +kernel⟩
theorem ok_grlen {f : Addr} {fd : FuncData} (F : Fun K "__len__" "Group.__len__" sGrLen f fd) (T : GrTxt K CG) (tN : mg "len" = none) : FnOk P w K mg base CX0 1 f fd ["self"] (spGrLen K CG) := by
  refine F.ok scGrLen (fun vs H Q E h => ?_) (fun cdv A outer s H vs Q E hr h => ?_)
  · obtain ⟨x, e, ns, rfl, _⟩ := h
    rfl
  · obtain ⟨x, e, ns, rfl, ⟨dx, t, ex, ht⟩, k⟩ := h
    refine ⟨_, pss_one (ps_ret (pe_callB call_len_seq (by rfl) tN PySem.boot_len (pa_cons (pe_fld (pv 0) rfl) pa_nil))), ?_⟩
    rw [← List.length_map (f := V.int)] at k
    exact ⟨_, rfl, x, CG, dx, _, _, rfl, ex, T.cl, T.nP, grFs_places, t, _, rfl, .inr ht, k⟩
theorem scGrBool : FnScope ["self"] ["self"] (defScope sGrBool) := ⟨rfl, rfl, rfl, by decide +kernel, rfl, by decide +kernel, by decide +kernel⟩
theorem boot_boolT : bootBuiltins "bool" = some (.type "bool") := by decide +kernel
theorem ok_grbool {f : Addr} {fd : FuncData} (F : Fun K "__bool__" "Group.__bool__" sGrBool f fd) (T : GrTxt K CG) (tB : mg "bool" = none) : FnOk P w K mg base CX0 1 f fd ["self"] (spGrBool K CG) := by
  refine F.ok scGrBool (fun vs H Q E h => ?_) (fun cdv A outer s H vs Q E hr h => ?_)
  · obtain ⟨x, e, ns, rfl, _⟩ := h
    rfl
  · obtain ⟨x, e, ns, rfl, ⟨dx, t, ex, ht⟩, k⟩ := h
    refine ⟨_, pss_one (ps_ret (pe_callTy call_boolT (by rfl) tB boot_boolT (pa_cons (pe_fld (pv 0) rfl) pa_nil))), ?_⟩
    have e1 : (ns.map V.int).isEmpty = ns.isEmpty := by cases ns <;> rfl
    rw [← e1] at k
    exact ⟨_, rfl, x, CG, dx, _, _, rfl, ex, T.cl, T.nP, grFs_places, t, _, rfl, ht, k⟩
theorem scGrHas : FnScope ["self", "value"] ["self", "value"] (defScope sGrHas) := ⟨rfl, rfl, rfl, by decide +kernel, rfl, by decide +kernel, by decide +kernel⟩
theorem ok_grhas {f fE : Addr} {fd fdE : FuncData} (F : Fun K "__contains__" "Group.__contains__" sGrHas f fd) (T : GrTxt K CG) (TM : MemTxt K CM) (ZM : ClsQ K CM) (ZE : ClsQ K CE) (ti : mg "isinstance" = none) (gM : mg "Member" = some (.ref CM))
    (GE : FnOk P w K mg base CX0 1 fE fdE ["self", "other"] (spEdEq K CE)) (bE : Binds K fdE ["self", "other"] []) (hs : findIn K (.ref CE) "__eq__" = some (some (.ref fE))) (hf : isFn K (.ref fE) = true) : FnOk P w K mg base CX0 2 f fd ["self", "value"] (spGrHas K CE CG CM) := by
  refine F.ok scGrHas (fun vs H Q E h => ?_) (fun cdv A outer s H vs Q E hr h => ?_)
  · obtain ⟨x, e, y, ns, rows, gs, rfl, _⟩ := h
    rfl
  · obtain ⟨x, e, y, ns, rows, gs, rfl, ⟨dx, t, ex, ht⟩, he, lay, k⟩ := h
    refine ⟨_, pss_cons (ps_if (pt_not (pt_val (pe_callB call_isi (by rfl) ti boot_isi' (pa_cons (pv 1) (pa_cons (pe_glob (v := .ref CM) (by rfl) gM rfl) pa_nil))))) (pss_one (ps_ret pe_bl)) pss_nil)
      (pss_one (ps_ret (pe_and (pe_cmpR op_in_seq (pe_fld (pv 1) rfl) (pe_fld (pv 0) rfl) (by rfl)) (pe_one (pe_cmpR (op_eqI (E := E0) GE hr hs hf bE pass0) (pe_fld (pv 1) rfl) (pe_fld (pv 0) rfl) (nomark _)))))), ?_⟩
    refine rd_seq (rd_if (rd_not (rd_b (rd_cb (rd_cons (rd_var rfl (rd_cons (rd_c (rd_nil ?_)))))))))
    rcases k with ⟨q, e', r, pl, rows', gs', rfl, ⟨dq, al, hq, hal⟩, he', lay', k⟩ | ⟨tt, ty, ko, k⟩
    · refine ⟨_, _, _, _, true, rfl, .own CM, ZM.ty hq, ZM.own, true, rfl, ?_⟩
      refine ite_no rfl (rd_next ?_)
      with_reducible refine rd_ret ?_
      refine ⟨_, rfl, q, CM, dq, _, _, rfl, hq, TM.cl, TM.nP, memFs_place, _, rfl, x, CG, dx, _, _, rfl, ex, T.cl, T.nP, grFs_places, t, _, rfl, .inr ht, rfl, flat_ints ns, _, rfl, ?_⟩
      simp only [Bool.false_eq_true, if_false]
      rw [inV_ints]
      cases h1 : decide ((pl : Int) ∈ ns) with
      | false =>
        rw [h1, Bool.false_and] at k
        exact k
      | true =>
        rw [h1, Bool.true_and] at k
        refine ite_yes rfl ⟨_, rfl, q, CM, dq, _, _, rfl, hq, TM.cl, TM.nE, memFs_edition, _, rfl, x, CG, dx, _, _, rfl, ex, T.cl, T.nE, grFs_edition, ?_⟩
        obtain ⟨d1, r1, g1, p1, n1, o1, z1⟩ := id he'.ob
        obtain ⟨d2, r2, g2, p2, n2, o2, z2⟩ := id he.ob
        exact ⟨e', _, _, _, rfl, o1, ZE.ty o2, ClsQ.self, e', .ref e, rows', gs', rfl, he', lay', .inl ⟨e, rows, gs, rfl, he, lay, _, rfl, k⟩⟩
    · exact ⟨_, _, _, _, false, rfl, .own CM, ty, ko, false, rfl, ite_yes rfl (rd_ret (rd_c k))⟩
/-- a Group is made of an edition and a list of places -/
theorem make_gr {H1 : Hp} {e l : Addr} {ns : List Int} {Q : VK} {E : XK} (hl : SqL K H1 l (ns.map V.int) ∨ SqT K H1 l (ns.map V.int)) (k : ∀ H' q, Same H1 H' → H1 q = none → GrAt K CG H' q e ns → Q (.ref q) H') :
    ∀ y dy, H1 y = none → H1 dy = none → dy ≠ y → spGrInit K CG [.ref y, .ref e, .ref l] (upd (upd H1 dy (.own y)) y (.ins CG dy [])) (fun u H2 => u = .non ∧ Q (.ref y) H2) E := by
  intro y dy hy hdy ne
  have s3 : Same H1 (upd (upd H1 dy (.own y)) y (.ins CG dy [])) := ((Same.refl H1).new hdy).new (by rw [upd_ne ne.symm]; exact hy)
  have cy : upd (upd H1 dy (.own y)) y (.ins CG dy []) y = some (.ins CG dy []) := upd_same
  generalize upd (upd H1 dy (.own y)) y (.ins CG dy []) = H3 at s3 cy
  exact ⟨y, dy, e, l, ns, rfl, cy, hl.imp s3.seq s3.sqT, fun H' bt ga => ⟨rfl, k H' y (fun b u z => bt b u (ne_of_none z hy) (s3 b u z)) hy ga⟩⟩
end
end Gk
/-! ## the error classes of the text: class X(GrowError): def __init__(self, f): super().__init__("..") ; self.f = f -/
namespace Gk
open PySem PySem.W PySem.Spec PySem.Calls PyProof.Rows L2 NdefX
/-- what its __init__ says, as a tree -/
def errBody (txt fld : Str) (j : Nat) (p0 p1 p2 p3 p4 p5 p6 p7 p8 p9 : Pos) : List Stmt :=
  [.Expr (.Call (.Attribute (.Call (.Name "super" p0) [] [] p1) "__init__" p2) [.Constant (.str txt) j p3] [] p4) p5, .Assign [.Attribute (.Name "self" p6) fld p7] (.Name fld p8) p9]
/-- how super().__init__("..") is evaluated: its positions are plain -/
def SupEval (txt : Str) (j : Nat) (p0 p1 p2 p3 p4 : Pos) : Prop := ∀ env : Env, ∃ pl : Sem Bool, eval (.Call (.Attribute (.Call (.Name "super" p0) [] [] p1) "__init__" p2) [.Constant (.str txt) j p3] [] p4) env = (do
  let ov ← attributeBase (.Call (.Name "super" p0) [] [] p1) "__init__" env (eval (.Call (.Name "super" p0) [] [] p1) env)
  standAt p2.atName
  let (f, first) ← holding [ov] (getMethod ov "__init__" pl)
  callWith p4 f first (backTo p4 (starEach [.Constant (.str txt) j p3] env)) [])
/-- __init__ promises: the field stands in a new dict of the exception -/
def spErr (C : Addr) (fld : Str) : Sp := fun vs H Q _ => ∃ (a : Addr) (v : V), vs = [.ref a, v] ∧ H a = some (exo a C none) ∧
  ∀ dx, H dx = none → dx ≠ a → Q .non (upd (upd H dx (exd dx [(fld, v)])) a (exo a C (some dx)))
/-- what the written part says of the class at C and of its __init__ at fI -/
structure ErrTxt (P : Program) (K : Frag) (mg : Str → Option Value) (x : Str) (C fI : Addr) (fd : FuncData) (fld : Str) : Prop where
  ox : OexC K C
  gC : mg x = some (.ref C)
  iC : findIn K (.ref C) "__init__" = some (some (.ref fI))
  tI : typeIn K (.ref fI) = some (.type "function")
  nof : findIn K (.ref C) fld = some none
  hB : subIn K (.ref C) (.type "ValueError") = some true
  hS : mroIn K C (.ref C) = some true
  hm : ks_superIn K C C "__init__" = some (some (.builtin "ValueError.__init__"))
  sup : mg "super" = none
  fn : ∃ (oc kV doc pm ct ccl cl : Value) (od an cdd cld : Option Addr) (osl ccs csl : Array (Option Value)) (q : Str) (pa : Arguments) (sc : Scope) (txt : Str) (j : Nat) (p0 p1 p2 p3 p4 p5 p6 p7 p8 p9 : Pos) (cc cd : Addr) (vs : Array Value) (file : Str) (tf : Tok) (ar : Arg),
    fd = fnX "__init__" q pa (errBody txt fld j p0 p1 p2 p3 p4 p5 p6 p7 p8 p9) sc [("__class__", cc)] .none kV doc pm an (.ref cd) ct ∧
    K.lookup fI = some ⟨oc, od, .func fd, osl⟩ ∧ codeIn K (.ref cd) q = true ∧ K.lookup cd = some ⟨ccl, cdd, .fields vs, ccs⟩ ∧ vs[2]? = some (.str file tf) ∧ ((P.main.file : Str) == file) = true ∧
    K.lookup cc = some ⟨cl, cld, .cell (some (.ref C)), csl⟩ ∧ NScope ["self", fld, "__class__"] ["self", fld] ["__class__"] sc ∧ sc.names.lookup ("super" : Str) = some .globalImplicit ∧ (pa.posonlyargs ++ pa.args).head? = some ar ∧ ar.arg = "self" ∧ SupEval txt j p0 p1 p2 p3 p4
  fd1 : (fld == ("__debug__" : Str)) = false
  fd2 : (fld == ("__classdict__" : Str)) = false
  top : (P.main.scope.names.lookup ("super" : Str)).isSome = false
  opq : nsIn K cStatics "thirdparty.any" = some none
section
variable {P : Program} {w : World} {K : Frag} {mg : Str → Option Value} {base : Heap} {x : Str} {C fI : Addr} {fd : FuncData} {fld : Str}
theorem boot_super : bootBuiltins "super" = some (.type "super") := by decide +kernel
theorem err_init (T : ErrTxt P K mg x C fI fd fld) : FnOk P w K mg base CX0 2 fI fd ["self", fld] (spErr C fld) := by
  obtain ⟨oc, kV, doc, pm, ct, ccl, cl, od, an, cdd, cld, osl, ccs, csl, q, pa, sc, txt, j, p0, p1, p2, p3, p4, p5, p6, p7, p8, p9, cc, cd, cvs, file, tf, ar, rfl, lk, hcd, lcd, hfl, hfile, lcc, S, ks, hpar, har, hev⟩ := T.fn
  refine ⟨fun vs H Q E h => ?_, fun A outer s H args us vs Q E hr e0 hb r hsp => ?_⟩
  · obtain ⟨a, v, rfl, _⟩ := h
    rfl
  obtain ⟨a, v, rfl, ha, k⟩ := hsp
  have KX : K.In s.heap := e0.mod.kin.keeps fun b o e => (e0.bs b o e).1
  have lim : s.heap.NoLimit := e0.mod.nolimit.keeps fun b o e => (e0.bs b o e).1
  let NFv : NF := ⟨"__init__", q, pa, errBody txt fld j p0 p1 p2 p3 p4 p5 p6 p7 p8 p9, sc, [("__class__", cc)], cd⟩
  refine codeAny_call_function hr.depth (KX _ _ lk) rfl S.co S.gen rfl (codeRec_of KX hcd) (hb _ _ _ _ ?_)
  refine wpAny_newFunctionEnv S.nocell (fun ⟨n, _⟩ hy => S.par n (List.of_mem_zip hy).1) (fun h₁ hns hsb => ⟨lim.fresh _ hsb, ?_⟩) S.kind
  show codeAny _ _ (.func NFv.body (envF NFv fI s.heap.objs.size)) _ _
  refine ks_codeAny_funcAt ?_
  have kp : ∀ b o, s.heap.get? b = some o → h₁.get? b = some o := fun b o e => hsb.extBut b o (Nat.ne_of_lt (Heap.lt_size e)) (Heap.get?_push_of_some _ e)
  have Cs : CellsAt NFv.cl ["__class__"] [some (.ref C)] s.heap H := by
    have one : ∀ y c, List.lookup y ([("__class__", cc)] : List (Str × Addr)) = some c → y = "__class__" ∧ c = cc := fun y c e => by
      have := PySem.mem_of_lookup e
      simp at this
      exact this
    refine ⟨rfl, fun y c e => ?_, fun y z c e e' => (one y c e).1.trans (one z c e').1.symm, fun i y hi => ?_⟩
    · obtain ⟨_, rfl⟩ := one y c e
      exact ⟨(e0.bs _ _ (e0.mod.kin _ _ lcc)).2, _, _, KX _ _ lcc, rfl⟩
    · cases i with
      | zero =>
        have e : ("__class__" : Str) = y := Option.some.inj hi
        subst e
        refine ⟨cc, rfl, fun v hv => ?_⟩
        have e2 : v = .ref C := (Option.some.inj (Option.some.inj hv)).symm
        subst e2
        exact ⟨_, rfl, _, KX _ _ lcc, rfl⟩
      | succ i => cases hi
  have I := inv_startN (CX := CX0) (N := ["self", fld, "__class__"]) (F := NFv) (f := fI) (E := E) (tk := s.toks + ((["self", fld] : List Str).zip us).length) S hr.hd e0 rfl r Cs hns kp
  -- super().__init__("..")
  have hint : interactive (envF NFv fI s.heap.objs.size) = false := by
    unfold interactive
    have : (envF NFv fI s.heap.objs.size).scope.kind = .function := S.kind
    rw [this]
    rfl
  obtain ⟨pl, hpl⟩ := hev (envF NFv fI s.heap.objs.size)
  have hself : startF ["self", fld, "__class__"] [V.ref a, v] [some (V.ref C)] = [some (V.ref a), some v, some (V.ref C)] := rfl
  refine ks_wpAt_execs_cons (ks_wpAt_Expr_any (ks_wpAt_MethodCall (pl := pl) ?_ hpl) hint rfl)
  have k1 : ∀ b o, base.get? b = some o → h₁.get? b = some o := fun b o e => kp b o (e0.bs b o e).1
  have X1 : K.In h₁ := KX.keeps kp
  refine ks_wpAt_super_base (env := envF NFv fI s.heap.objs.size) ks (S.frk _ (List.mem_cons_self ..)) rfl rfl (X1 _ _ lk) rfl hpar rfl (X1 _ _ lcd) rfl hfl hfile T.top ?_
  obtain ⟨mb, hb1, hb2⟩ := e0.mod.blt
  refine ks_loadName_global S.kind ks (loadGlobal_builtin (env := envF NFv fI s.heap.objs.size) (e0.mod.glob.keeps k1) T.sup (hb1.keeps k1) ((hb2 _ (by decide +kernel)).trans boot_super) ⟨rfl, ?_⟩)
  refine wpAny_loadName_free S.kind (S.frk _ (List.mem_cons_self ..)) rfl ⟨_, X1 _ _ lcc, rfl⟩ ?_
  obtain ⟨m, hm1, hm2⟩ := I.loc
  obtain ⟨u, ru, hlook⟩ := hm2 0 "self" (V.ref a) rfl rfl (Or.inl (S.par _ (List.mem_cons_self ..)))
  have u_eq : u = Value.ref a := ru
  subst u_eq
  have hmself : m "self" = some (Value.ref a) := by
    rcases hlook with ⟨_, e⟩ | ⟨e, _⟩
    · exact e
    · have e0 : (envF NFv fI s.heap.objs.size).kindOf "self" = some .local := S.par _ (List.mem_cons_self ..)
      have e' : (envF NFv fI s.heap.objs.size).kindOf "self" = some .cell ∨ (envF NFv fI s.heap.objs.size).kindOf "self" = some .free := e
      rw [e0] at e'
      rcases e' with z | z <;> cases z
  obtain ⟨nm, qn, N, bs, bm, sn, sub, ab, col, dd, c0, c1, c2, c3, c5, hC, hbm⟩ := T.ox.cls
  obtain ⟨t1, hobj⟩ := exo_at I.hok ha
  have hobj1 : h₁.get? a = some (excObj C t1 none .none) := hobj
  have hcl : clsIn K C = some { name := nm, bases := bs, mro := .ref C :: bm, ns := N, qualname := qn, hasDict := true, slotNames := sn, subclasses := sub, abstract := ab, collection := col, hasDel := false } := by
    unfold clsIn
    rw [hC] <;> rfl
  have IA : InstAt h₁ a (excObj C t1 none .none) C none := ⟨hobj1, rfl, rfl, trivial⟩
  refine wpAny_loadName_local S.kind (by rw [har]; exact S.par _ (List.mem_cons_self ..)) hm1 (by rw [har]; exact hmself) ?_
  refine ks_wpAny_isType_cls (X1 _ _ hC) rfl ⟨rfl, ?_⟩
  refine ks_wpAny_call_super (X1 _ _ hC) rfl hobj1 rfl (fun c e => by cases e) (looks_mroIn X1 T.hS) (fun h2 hso k2 => ?_)
  -- .__init__
  have X2 : K.In h2 := X1.keeps k2
  have IA2 : InstAt h2 a (excObj C t1 none .none) C none := ⟨k2 _ _ hobj1, rfl, rfl, trivial⟩
  have hsm := T.hm
  unfold ks_superIn at hsm
  rw [hcl] at hsm
  refine kxs_getMethod kxs_ValueError hso (looks_opaque X2 T.opq) (l₀ := .ref C :: bm) (fun A Q E s k q => wpAny_bind ((looks_clsIn X2 hcl) A _ E s k (wpAny_pure q))) rfl X2 hsm (IA2.type.andThen (looks_subIn X2 T.hB)) (ks_ne X2 IA2 hcl) (by decide +kernel) ?_
  -- (..)
  refine kxs_callWith (i := "ValueError.__init__") (x := a) rfl ?_
  refine evalArgs_plain (spliced_cons (Constant_str (pos := p3) (k := j) (spliced_nil ?_)))
  have hu : (h2.push (kxs_mw "ValueError.__init__" a)).get? h2.objs.size = some (kxs_mw "ValueError.__init__" a) := Heap.get?_push_at rfl rfl
  have k3 : ∀ b o, h2.get? b = some o → (h2.push (kxs_mw "ValueError.__init__" a)).get? b = some o := fun b o e => Heap.get?_push_of_some _ e
  refine ⟨hu, ?_⟩
  refine wpAny_call (codeAny_of_tree ?_)
  show wpAny _ _ (callAny (.ref h2.objs.size) ⟨[] ++ [Value.str txt _], []⟩) _ _ _
  simp only [callAny]
  refine wpAny_bind (wpAny_load hu ?_)
  simp only [kxs_mw, show (Value.type "method-wrapper" == Value.type "method" || Value.type "method-wrapper" == Value.type "builtin_function_or_method" || Value.type "method-wrapper" == Value.type "method-wrapper") = true by decide, if_true]
  refine KFB.if_so (by decide) ?_
  refine wpAny_bind (check_bound_init F.excBase_ValueError.toExcCallFacts (k3 _ _ (X2 _ _ hC)) (k3 _ _ (k2 _ _ hobj1)) rfl ?_)
  refine wpAny_bind (wpAny_pure (wpAny_pure ?_))
  refine ⟨plainId_quiet F.excBase_ValueError.init.plain _, codeAny_builtin F.excBase_ValueError.initEntry ?_⟩
  refine exc_init_tree (cls := .ref C) (t0 := t1) (dv := none) (c2 := .none) (c3 := .none) (b4 := .bool false) (k3 _ _ (k2 _ _ hobj1)) (by show 1 ≤ sizeLine; rw [sizeLine_eq]; omega) (fun h4 k4 e4 _ => ?_)
  show PySem.wpAt _ _ _ (execs [_] _) _ _ _
  refine wpAt_of_wpAny ?_
  have J := I.write (t' := s.toks + ((["self", fld] : List Str).zip us).length + 1 + 1) (h' := h4) (x := a) (e := a) (o := exo a C none) (by rw [ha]; exact True.intro) (.inl rfl) (fun b o hb e => k4 b o hb (k3 _ _ (k2 _ _ e))) ⟨_, e4⟩ (exo_ok e4)
  have eu : upd H a (exo a C none) = H := by
    funext b
    by_cases hb : b = a
    · rw [hb, upd_same, ha]
    · rw [upd_ne hb]
  rw [eu] at J
  have hfl1 : sc.names.lookup fld = some .local := S.par _ (List.mem_cons_of_mem _ (List.mem_cons_self ..))
  have hse1 : sc.names.lookup ("self" : Str) = some .local := S.par _ (List.mem_cons_self ..)
  have B : PSs (ncx CX0 P w K mg base ["self", fld, "__class__"] NFv fI A outer s H E) [Stmt.Assign [(Expr.Name (Str.ofString "self") p6).Attribute fld p7] (Expr.Name fld p8) p9] _ :=
    pss_one (ps_ost (pe_var (i := 0) rfl (Or.inl hse1) (by decide) (by decide)) (pe_var (i := 1) rfl (Or.inl hfl1) T.fd1 T.fd2))
  refine wpAny_mono (B.run [] _ _ H { nx := fun _ H' => Q .non H', rt := Q } J ?_) (fun fl s' hs => ?_) fun e s' h => h
  · refine ⟨v, rfl, _, rfl, a, C, rfl, T.ox, T.nof, .inl ⟨ha, fun dx h1 h2 => k dx h1 h2⟩⟩
  · have fin : ∀ {σ' : L2.St} {H' : Hp} {z : V} {u : Value}, L2.Inv (ncx CX0 P w K mg base ["self", fld, "__class__"] NFv fI A outer s H E) [] σ' H' s' → L2.RelV z u → Q z H' → CE outer P w H s Q u s' :=
      fun {σ' H' z u} J rv q => ⟨z, H', J.os, J.bare, J.base, J.hok, rv, q⟩
    cases fl with
    | ret u =>
      obtain ⟨z, σ', H', J', rv, q⟩ := hs
      exact fin J' rv q
    | next =>
      obtain ⟨σ', H', J', q⟩ := hs
      exact fin (z := V.non) (u := Value.none) J' rfl q
    | brk =>
      obtain ⟨_, _, _, q⟩ := hs
      exact False.elim q
    | cont =>
      obtain ⟨_, _, _, q⟩ := hs
      exact False.elim q
end
end Gk
/-! ### errors of the text that are raised, and methods that raise -/
namespace Gk
open PySem PySem.W PySem.Spec PyProof.Rows L2 NdefX
/-- as Fun.ok, the context with all that may leave it -/
theorem fun_okC {CX : CXT} {P : Program} {w : World} {K : Frag} {mg : Str → Option Value} {base : Heap} {x qual : Str} {st : Stmt} {f : Addr} {fd : FuncData} {N ps : List Str} {k : Nat} {sp : Sp} (F : Fun K x qual st f fd) (S : FnScope N ps (defScope st)) (len : ∀ vs H Q E, sp vs H Q E → vs.length = ps.length)
    (hbody : ∀ (cdv : Value) (A : Around) (outer : List Env) (s : Shared) (H : Hp) (vs : List V) (Q : VK) (E : XK), Room k (A.deeper (envOfC qual (defScope st) s.heap.objs.size f cdv)) → sp vs H Q E →
      ∃ t, PSs (cxOf CX P w K mg base N qual (defScope st) f cdv A outer s H E) (defBody st) t ∧ t { nx := fun _ H' => Q .non H', rt := Q } (L2.start N vs) H) : FnOk P w K mg base CX (k + 1) f fd ps sp := by
  obtain ⟨oc, od, kV, doc, pm, an, cdv, ct, osl, rfl, lk, hcd⟩ := F.ex
  exact fn_of lk hcd S len fun A outer s H vs Q E hr hsp => hbody cdv A outer s H vs Q E hr hsp
/-- o.m(..) of a method that may raise -/
def tMethR (C : Addr) (m : Str) (sp : Sp) (E : L2.St → XK) (ta : TE) (t : TA) : TE := fun σ H Q => ta σ H fun x H1 => ∃ a dx fs, x = .ref a ∧ H1 a = some (.ins C dx fs) ∧ fs.lookup m = none ∧ t σ H1 fun vs H2 => sp (x :: vs) H2 Q (E σ)
theorem pe_methR {X : Cx} {CX : CXT} {k : Nat} {f C : Addr} {fd : FuncData} {ps : List Str} {sp : Sp} {E : L2.St → XK} {m : Str} {pos apos : Pos} {e o : Expr} {es : List Expr} {ta : TE} {t : TA} {pl : Sem Bool} (he : PE X o ta) (c : Cls X.K C) (hm : Meth X.K C m f) (F : FnOk X.prog X.w X.K X.mg X.base CX k f fd ps sp) (hr : Room k X.A) (hb : Binds X.K fd ps []) (hx : ∀ σ, PassesAt CX X σ (E σ)) (ha : PA X (e :: es) t)
    (hst : starEach (e :: es) X.env = (false, eval e X.env) :: starEach es X.env := by rfl) (hpl : (backTo pos (starEach es X.env)).any (·.1) = false := by rfl)
    (ht : eval (.Call (.Attribute o m apos) (e :: es) [] pos) X.env = (do
      let ov ← eval o X.env
      standAt apos.atName
      let (f, first) ← holding [ov] (getMethod ov m pl)
      callWith pos f first (backTo pos (starEach (e :: es) X.env)) (backToKw pos (keywordEach [] X.env))) := by rfl) :
    PE X (.Call (.Attribute o m apos) (e :: es) [] pos) (tMethR C m sp E ta t) := by
  refine ⟨fun pins s σ H Q I h => ?_⟩
  refine PySem.W.methodCall_KW (pl := pl) (thn (he.run pins s σ H _ I h) fun u s1 ⟨x, H1, I1, rx, a, dx, fs, ex, ea, l, q⟩ => ?_) ht
  subst ex
  obtain rfl : u = Value.ref a := rx
  refine getmeth_ok I1 ea c hm l ?_
  refine PySem.W.callWith_K (first := [.ref a]) (h₀ := X.base) I.ok.mod.kin hm.kp (thn (ha.run pos pins s1 σ H1 _ I1 q) fun us s2 ⟨vs, H2, I2, r, q2⟩ => ⟨I2.kIn, ?_⟩) hst hpl
  exact run_fnS (us := .ref a :: us) (vs := .ref a :: vs) F hr hb (hx σ) I2 (.cons rfl r) q2
/-- what the making of such an error leads to: it stands alone in the heap, by its dict -/
theorem err_made {C : Addr} {fld : Str} {v : V} {H1 : Hp} {W : XK} (k : ∀ d, H1 d = none → W (.ref C) (some d) (upd H1 d (.xd [(fld, v)]))) : [v].length ≤ 1000 ∧ ∀ a, H1 a = none → spErr C fld (.ref a :: ([v] ++ [])) (upd H1 a (exo a C none))
    (fun v H2 => v = .non ∧ ∃ (d : Addr) (fs : List (Str × V)), H2 a = some (exo a C (some d)) ∧ H2 d = some (exd d fs) ∧ H1 d = none ∧ W (.ref C) (some d) (upd (del H2 a) d (.xd fs))) (fun _ _ _ => False) := by
  refine ⟨by show 1 ≤ 1000; decide, fun a ha => ⟨a, v, rfl, upd_same, fun dx hdx ne => ?_⟩⟩
  have hd1 : H1 dx = none := by rw [upd_ne ne] at hdx; exact hdx
  refine ⟨rfl, dx, [(fld, v)], upd_same, ?_, hd1, ?_⟩
  · rw [upd_ne ne, upd_same]
  · have e : upd (del (upd (upd (upd H1 a (exo a C none)) dx (exd dx [(fld, v)])) a (exo a C (some dx))) a) dx (.xd [(fld, v)]) = upd H1 dx (.xd [(fld, v)]) := by
      funext b
      by_cases hb : b = dx
      · rw [hb, upd_same, upd_same]
      · rw [upd_ne hb, upd_ne hb]
        by_cases hba : b = a
        · rw [hba, del_same, ha]
        · rw [del_ne hba, upd_ne hba, upd_ne hb, upd_ne hba]
    rw [e]
    exact k dx hd1
theorem err_read {C : Addr} {fld : Str} {σ : L2.St} {H : Hp} {i : Nat} {v : V} {W : XK} (e : σ[i]? = some (some v)) (k : ∀ d, H d = none → W (.ref C) (some d) (upd H d (.xd [(fld, v)]))) : tMkO C (spErr C fld) [] (tCons (tVar i) tNil) σ H W := ⟨v, e, err_made k⟩
end Gk
/-! ### errors of the text that are raised, and methods that raise -/
namespace Gk
open PySem PySem.W PySem.Spec PyProof.Rows L2 NdefX
abbrev sEdGroup : Stmt := (inClass (top 21) 9)
/-- a value that is no name of a set -/
def NoKey (K : Frag) (H : Hp) (y : V) (ks : List Str) : Prop := (∃ k : Str, y = .str k ∧ k ∉ ks) ∨ ∃ t, TyX K H y t ∧ kitOne K t (.type "str") = some false
def spEdGroup (K : Frag) (CE CG CN : Addr) : Sp := fun vs H Q E => ∃ (x : Addr) (y : V) (rows : List Row) (gs : List (Str × List Int)), vs = [.ref x, y] ∧ EdAt CE H x rows gs ∧ (gs.map (·.1)).Nodup ∧
  ((∃ (z : Str × List Int), y = .str z.1 ∧ z ∈ gs ∧ ∀ H' q, Same H H' → H q = none → GrAt K CG H' q x z.2 → Q (.ref q) H') ∨ (NoKey K H y (gs.map (·.1)) ∧ ∀ d, H d = none → E (.ref CN) (some d) (upd H d (.xd [("value", y)]))))
theorem grp_val {H : Hp} {kvs : List (Key × V)} {gs : List (Str × List Int)} (h : Paired (GrpKV H) kvs gs) (nd : (gs.map (·.1)).Nodup) : ∀ z ∈ gs, ∃ t, valV kvs (.inr z.1 : Key) = some (.ref t) ∧ H t = some (.tup (z.2.map V.int)) := by
  induction h with
  | nil => exact fun x hx => by cases hx
  | @cons kv y kvs gs r t ih =>
    obtain ⟨e, l, e2, hl⟩ := r
    rw [List.map_cons, List.nodup_cons] at nd
    intro x hx
    rcases List.mem_cons.mp hx with rfl | hx
    · exact ⟨l, by rw [← e2]; exact valV_pos e, hl⟩
    · obtain ⟨l', e3, hl'⟩ := ih nd.2 x hx
      refine ⟨l', ?_, hl'⟩
      rw [valV_neg (by rw [e]; exact fun z => nd.1 ((Sum.inr.inj z) ▸ List.mem_map_of_mem hx))]
      exact e3
section
variable {P : Program} {w : World} {K : Frag} {mg : Str → Option Value} {base : Heap} {CE CG CN : Addr}
theorem scEdGroup : FnScope ["self", "name"] ["self", "name"] (defScope sEdGroup) := ⟨rfl, rfl, rfl, by decide +kernel, rfl, by decide +kernel, by decide +kernel⟩
theorem ok_edgroup {f fI fN : Addr} {fd fdI fdN : FuncData} (F : Fun K "group" "Edition.group" sEdGroup f fd) (T : EdTxt K CE) (ti : mg "isinstance" = none) (ts : mg "str" = none) (M : Mk K CG fI) (gG : mg "Group" = some (.ref CG))
    (GI : FnOk P w K mg base CX0 1 fI fdI ["self", "edition", "places"] (spGrInit K CG)) (bI : Binds K fdI ["self", "edition", "places"] []) (TN : ErrTxt P K mg "NoSet" CN fN fdN "value") (bN : Binds K fdN ["self", "value"] []) : FnOk P w K mg base (L2.CX P w) 4 f fd ["self", "name"] (spEdGroup K CE CG CN) := by
  refine fun_okC F scEdGroup (fun vs H Q E h => ?_) (fun cdv A outer s H vs Q E hr h => ?_)
  · obtain ⟨x, y, rows, gs, rfl, _⟩ := h
    rfl
  · obtain ⟨x, y, rows, gs, rfl, he, nd, k⟩ := h
    have hu := hu_of hr
    refine ⟨_, pss_cons (ps_if (PW.pt (pw_or (pt_not (pt_val (pe_callB call_isi (by rfl) ti boot_isi' (pa_cons (pv 1) (pa_cons (pe_bltn (v := .ty "str") (by rfl) ts boot_str' rfl) pa_nil))))) (pw_or1 (pt_cmp (pc_dnotin hu (pv 1) (pe_fld (pv 0) rfl))))))
        (pss_one (by exact (ps_raise rfl (takes_of rfl rfl rfl rfl) (pmk_oex TN.ox TN.iC TN.tI (err_init TN) hr bN .nil pass0 (by rfl) TN.gC (pa_cons (pv 1) pa_nil))))) pss_nil)
      (pss_one (ps_ret (pe_make M GI (hr.mono (by decide)) (by rfl) gG bI .nil pass0 (pa_cons (pv 0) (pa_cons (pe_dget hu (pe_fld (pv 0) rfl) (pv 1) (fun _ _ => rfl)) pa_nil))))), ?_⟩
    obtain ⟨de, rl, g, pl, nu, h1, h2, ⟨kvs, hg, pg⟩, h4, h5⟩ := id he.ob
    with_reducible refine rd_seq ?_
    refine rd_if (rd_or (rd_not (rd_b (rd_cb (rd_cons (rd_var rfl (rd_cons (rd_c (rd_nil ?_)))))))))
    rcases k with ⟨z, rfl, hz, k⟩ | ⟨bad, k⟩
    · obtain ⟨t, hv, ht⟩ := grp_val pg nd z hz
      have g1 : DGet H g (.str z.1) (some (.ref t)) := by
        have := DGet.k (k := .inr z.1) hg
        rw [hv] at this
        exact this
      refine ⟨_, _, _, _, true, rfl, .ty "str", .base (.str _), kit_ty (by decide +kernel), true, rfl, ite_no rfl ?_⟩
      refine ⟨_, rfl, _, rfl, x, CE, de, _, _, rfl, h1, T.cl, T.nG, edFs_groups, g, _, rfl, g1, _, rfl, ite_no rfl (rd_next ?_)⟩
      with_reducible refine rd_ret ?_
      unfold tMake
      refine rd_cons (rd_var rfl (rd_cons ?_))
      refine ⟨_, rfl, x, CE, de, _, _, rfl, h1, T.cl, T.nG, edFs_groups, _, rfl, g, _, rfl, g1, rd_nil ?_⟩
      exact make_gr (Q := Q) (E := E0) (.inr (SqT.of ht)) fun H' q s hq ga => k H' q s hq ga
    · have last := err_read (C := CN) (fld := "value") (σ := L2.start ["self", "name"] [.ref x, y]) (i := 1) (v := y) (W := E) rfl k
      rcases bad with ⟨w, rfl, hw⟩ | ⟨t, ty, ko⟩
      · have g1 : DGet H g (.str w) none := by
          have := DGet.k (k := .inr w) hg
          rw [grp_none pg hw] at this
          exact this
        refine ⟨_, _, _, _, true, rfl, .ty "str", .base (.str _), kit_ty (by decide +kernel), true, rfl, ite_no rfl ?_⟩
        exact ⟨_, rfl, _, rfl, x, CE, de, _, _, rfl, h1, T.cl, T.nG, edFs_groups, g, _, rfl, g1, _, rfl, ite_yes rfl last⟩
      · exact ⟨_, _, _, _, false, rfl, .ty "str", ty, ko, false, rfl, ite_yes rfl (ite_yes rfl last)⟩
end
end Gk
/-! ## defs that run where no repr is under way (repr of lists asks for that) -/
namespace Gk
open PySem PySem.Spec PyProof.Rows L2
/-- a promise that holds where no guard is up -/
structure FnG (P : Program) (w : World) (K : PySem.W.Frag) (mg : Str → Option Value) (base : Heap) (CX : CXT) (k : Nat) (f : Addr) (fd : FuncData) (ps : List Str) (sp : Sp) : Prop where
  len : ∀ vs H Q E, sp vs H Q E → vs.length = ps.length
  run : ∀ (A : Around) (outer : List Env) (s : Shared) (H : Hp) (args : Args) (us : List Value) (vs : List V) (Q : VK) (E : XK), A.guards = some [] → Room k A → Env0 P w K mg base A outer s H → BindsTo s fd args (ps.zip us) → Vals vs us → sp vs H Q E →
    codeAny (model P w) A (.call (.ref f) args) (CR CX outer P w H s Q E) s
section
variable {P : Program} {w : World} {K : PySem.W.Frag} {mg : Str → Option Value} {base : Heap}
theorem FnG.of {CX : CXT} {k : Nat} {f : Addr} {fd : FuncData} {ps : List Str} {sp : Sp} (F : FnOk P w K mg base CX k f fd ps sp) : FnG P w K mg base CX k f fd ps sp :=
  ⟨F.len, fun A outer s H args us vs Q E _ => F.run A outer s H args us vs Q E⟩
theorem Fun.okG {x qual : Str} {st : Stmt} {f : Addr} {fd : FuncData} {N ps : List Str} {k : Nat} {sp : Sp} (F : Fun K x qual st f fd) (S : FnScope N ps (defScope st)) (len : ∀ vs H Q E, sp vs H Q E → vs.length = ps.length)
    (hbody : ∀ (cdv : Value) (A : Around) (outer : List Env) (s : Shared) (H : Hp) (vs : List V) (Q : VK) (E : XK), A.guards = some [] → Room k (A.deeper (envOfC qual (defScope st) s.heap.objs.size f cdv)) → sp vs H Q E →
      ∃ t, PSs (cxOf CX0 P w K mg base N qual (defScope st) f cdv A outer s H E).nox (defBody st) t ∧ t { nx := fun _ H' => Q .non H', rt := Q } (start N vs) H) : FnG P w K mg base CX0 (k + 1) f fd ps sp := by
  obtain ⟨oc, od, kV, doc, pm, an, cdv, ct, osl, rfl, lk, hcd⟩ := F.ex
  refine ⟨len, fun A outer s H args us vs Q E hG hr e0 hb r hsp => ?_⟩
  have hl := len _ _ _ _ hsp
  have KX : K.In s.heap := e0.mod.kin.keeps fun b o e => (e0.bs b o e).1
  have lim : s.heap.NoLimit := e0.mod.nolimit.keeps fun b o e => (e0.bs b o e).1
  have hkind : ∀ y ∈ ps.zip us, (defScope st).names.lookup y.1 = some .local ∨ ((defScope st).names.lookup y.1 = some .cell ∧ ((cellsFrom (s.heap.objs.size + 1) (defScope st).names []).lookup y.1).isSome = true) := fun ⟨n, v⟩ hy => by
    rcases S.par n (List.of_mem_zip hy).1 with q | q
    · exact .inl q
    · exact .inr ⟨q, PySem.W.cellsFrom_some _ _ _ (.inl q)⟩
  refine codeAny_call_function hr.depth (KX _ _ lk) rfl S.co S.gen rfl (PySem.W.codeRec_of KX hcd) (hb _ _ _ _ ?_)
  refine wpAny_newFunctionEnv_cells S.kind hkind fun env he s1 x => ?_
  subst he
  refine ⟨lim.keeps x.toInCall.keep, codeAny_func ?_⟩
  obtain ⟨t, ht0, hq⟩ := hbody cdv A outer s H vs Q E hG (hr.deeper _) hsp
  have ht := ht0.nox
  have I : Inv (cxOf CX0 P w K mg base N qual (defScope st) f cdv A outer s H E) [] (start N vs) H s1 := inv_start S hr.hd e0 hl r x
  refine wpAny_mono (ht.run [] s1 (start N vs) H _ I hq) (fun fl s' hs => ?_) fun e s' hs => hs
  have fin : ∀ {σ' : L2.St} {H' : Hp} {v : V} {u : Value}, Inv (cxOf CX0 P w K mg base N qual (defScope st) f cdv A outer s H E) [] σ' H' s' → RelV v u → Q v H' → CE outer P w H s Q u s' :=
    fun {σ' H' v u} J rv q => ⟨v, H', J.os, J.bare, J.base, J.hok, rv, q⟩
  cases fl with
  | ret u =>
    obtain ⟨v, σ', H', J, rv, q⟩ := hs
    exact fin J rv q
  | next =>
    obtain ⟨σ', H', J, q⟩ := hs
    exact fin (v := V.non) (u := Value.none) J rfl q
  | brk =>
    obtain ⟨_, _, _, q⟩ := hs
    exact False.elim q
  | cont =>
    obtain ⟨_, _, _, q⟩ := hs
    exact False.elim q
end
section
variable {X : Cx} {CX : CXT} {k : Nat} {f : Addr} {fd : FuncData} {ps : List Str} {sp : Sp} {E : XK} {ds : List Value} {dvs : List V} {x : Str} {e : Expr} {es : List Expr} {t : TA} {p pos : Pos}
theorem pe_callG (F : FnG X.prog X.w X.K X.mg X.base CX k f fd ps sp) (hG : X.A.guards = some []) (hr : Room k X.A) (hg : Gl X x) (hm : X.mg x = some (.ref f)) (hk : PySem.W.keepIn X.K (.ref f) = true) (hb : Binds X.K fd ps ds) (hd : Vals dvs ds) (hx : Passes CX X E)
    (ha : PA X (e :: es) t) (hdb : (x == ("__debug__" : Str)) = false := by decide) (he : starEach (e :: es) X.env = (false, eval e X.env) :: starEach es X.env := by rfl) (hpl : (backTo pos (starEach es X.env)).any (·.1) = false := by rfl) :
    PE X (.Call (.Name x p) (e :: es) [] pos) (tCall sp dvs E t) := by
  refine ⟨fun pins s σ H Q I h => ?_⟩
  refine wpAny_Call_Name_kw (ld_glob I hg hm ?_ hdb)
  refine PySem.W.callWith_K (h₀ := X.base) I.ok.mod.kin hk (thn (ha.run pos pins s σ H _ I h) fun us s1 ⟨vs, H1, I1, r, q⟩ => ⟨I1.kIn, ?_⟩) he hpl
  have r2 : Vals (vs ++ dvs) (us ++ ds) := r.append hd
  have hl : (us ++ ds).length = ps.length := by rw [← r2.length]; exact F.len _ _ _ _ q
  refine wpAny_call (codeAny_mono (F.run X.A X.stack s1 H1 ⟨us, []⟩ (us ++ ds) (vs ++ dvs) Q E hG hr I1.env0 (hb s1 us I1.kIn hl) r2 q) fun r s' hq => ?_)
  cases r with
  | error e => exact hx pins σ H1 s1 e s' I1 hq
  | ok fl =>
    cases fl with
    | ret u => exact I1.after hq
    | next => exact False.elim hq
    | brk => exact False.elim hq
    | cont => exact False.elim hq
/-- repr of data: a text that hangs on the data alone -/
def rRepr (K : PySem.W.Frag) : List V → Hp → VK → Prop := fun xs H Q => ∃ a d, xs = [.ref a] ∧ Dp K H (.ref a) d ∧ d.showable = true ∧ d.hasDict = false ∧ d.depth ≤ 40 ∧ d.shown.length ≤ sizeLine ∧ Q (.str d.shown) H
theorem call_reprD (hG : X.A.guards = some []) (hu : X.A.units + 60 < cLine) : CallR X (.builtin "repr") (rRepr X.K) := by
  intro pins s σ H xs us Q I r h
  obtain ⟨a, d, rfl, hd, hs, hh, hdp, hz, q⟩ := h
  cases r with
  | cons rx rr =>
    cases rr
    cases rx
    obtain ⟨as, hr⟩ := Dp.reads I d _ _ hd rfl
    refine repr_of_reads' hr hs (fun z => by rw [hh] at z; cases z) hG (by omega) (fun b o e => e) (fun h' u tk hk => ?_) hz
    exact ⟨.str d.shown, H, I.kept hk, ⟨_, rfl⟩, q⟩
end
/-! ### the law's own call -/
theorem law_callG {P : Program} {w : World} {K : PySem.W.Frag} {mg mb : Str → Option Value} {CX : CXT} {k : Nat} {fa a : Addr} {fd : FuncData} {x : Str} {sp : Sp} {s₁ : Shared} {vs : List Value} {ns : List Int}
    (KX : K.In s₁.heap) (hns : s₁.heap.Ns mainGlobals mg) (hb : s₁.heap.Ns builtinsNs mb) (hbb : ∀ x : Str, x ≠ "__name__" → mb x = bootBuiltins x) (hlim : s₁.heap.NoLimit) (hg : s₁.gens = #[])
    (ha : s₁.heap.get? a = some { cls := .type "list", data := .seq vs.toArray }) (hi : IntsAre vs ns) (hl : ns.length ≤ sizeLine) (hr : Room k callerA)
    (FG : ∀ base : Heap, K.In base → base.Ns mainGlobals mg → FnG P w K mg base CX k fa fd [x] sp) (hbind : ∀ (s : Shared) (u : Value), BindsTo s fd ⟨[u], []⟩ [(x, u)])
    (hsp : ∀ H : Hp, Only H → SqL K H a (ns.map V.int) → sp [.ref a] H (fun v _ => v = .bl true) fun _ _ _ => False)
    (hCX : ∀ H e s', CX [] H s₁ (fun _ _ _ => False) e s' → False) :
    codeAny (model P w) callerA (.call (.ref fa) ⟨[.ref a], []⟩) (fun r s' => r = .ok (.ret (.bool true)) ∧ OldK s₁.heap s'.heap ∧ s'.os = s₁.os ∧ AllBare s'.gens) s₁ := by
  have rv := vals_ints hi
  have lenV := hi.length
  have core : ∀ H : Hp, Only H → SqL K H a (ns.map V.int) → HOk P w H s₁.heap → (∀ b, H b ≠ none → b = a) → (H a ≠ none → K.lookup a = none) →
      codeAny (model P w) callerA (.call (.ref fa) ⟨[.ref a], []⟩) (fun r s' => r = .ok (.ret (.bool true)) ∧ OldK s₁.heap s'.heap ∧ s'.os = s₁.os ∧ AllBare s'.gens) s₁ := by
    intro H hO hS hok hA hK
    have free_of : ∀ {b : Addr}, b ≠ a → H b = none := fun {b} hb => by
      cases q : H b with
      | none => rfl
      | some u => exact absurd (hA b (by rw [q]; simp)) hb
    have noD : ∀ {b : Addr} {o : Obj} {es : Array DictEntry} {ep : Nat}, s₁.heap.get? b = some o → o.data = .dict es ep → H b = none := fun {b o es ep} e d => free_of fun z => by
      subst z
      rw [ha] at e; cases e
      have d' : Data.seq vs.toArray _ = Data.dict es ep := d
      cases d'
    have nsK : ∀ {b : Addr} {m : Str → Option Value}, s₁.heap.Ns b m → (hidT s₁.heap H).Ns b m := fun {b m} ⟨o, es, ep, e, d, r⟩ => ⟨o, es, ep, hidT_get e (noD e d), d, r⟩
    have hKb : K.In (hidT s₁.heap H) := fun b o e => hidT_get (KX b o e) (by
      cases q : H b with
      | none => rfl
      | some u =>
        have z : b = a := hA b (by rw [q]; simp)
        subst z
        rw [hK (by rw [q]; simp)] at e; cases e)
    have hM : Mod K mg (hidT s₁.heap H) := ⟨hKb, nsK hns, ⟨mb, nsK hb, hbb⟩, let ⟨mc, h1, h2⟩ := hlim; ⟨mc, nsK h1, h2⟩⟩
    have e0 : Env0 P w K mg (hidT s₁.heap H) callerA [] s₁ H := ⟨rfl, hM, fun b o e => of_hidT e, Nat.le_of_eq (hidT_size _ _), trivial, fun b hb => absurd (show b ∈ ([] : List Addr) from hb) (by simp), hok, .of_eq hg⟩
    refine codeAny_mono ((FG _ hKb (nsK hns)).run callerA [] s₁ H ⟨[.ref a], []⟩ [.ref a] [.ref a] _ _ rfl hr e0 (hbind s₁ (.ref a)) (.cons rfl .nil) (hsp H hO hS)) fun r s' h => ?_
    cases r with
    | error e => exact (hCX H e s' h).elim
    | ok fl =>
      cases fl with
      | next => exact False.elim h
      | brk => exact False.elim h
      | cont => exact False.elim h
      | ret u =>
        obtain ⟨v, H', os, bare, un, hok', r', q⟩ := h
        have q' : v = .bl true := q
        subst q'
        obtain rfl : u = Value.bool true := r'
        refine ⟨rfl, OldK.of_keep fun b o e => ?_, os, bare⟩
        cases q : H b with
        | none => exact un.keep b o e q (by intro z; exact absurd (show b ∈ ([] : List Addr) from z) (by simp)) (by simp)
        | some u =>
          rcases hO b with z | ⟨ob, xs, z⟩
          · rw [q] at z; cases z
          · obtain ⟨e1, _⟩ := hok b _ z
            obtain ⟨e2, _⟩ := hok' b _ (un.frzs b ob _ z)
            rw [e] at e1; cases e1
            exact e2
  cases hk : K.lookup a with
  | some o =>
    have e := KX a o hk
    rw [ha] at e
    cases e
    refine core (fun _ => none) (fun _ => .inl rfl) (.inr ⟨_, vs.toArray, _, hk, rfl, rfl, rfl, by rw [List.size_toArray, lenV]; exact hl, by simpa using rv⟩) (fun b u z => by have z' : (none : Option HO) = some u := z; cases z') (fun b z => absurd rfl z) fun z => absurd rfl z
  | none =>
    refine core (fun b => if b = a then some (.frz { cls := .type "list", data := .seq vs.toArray } (.lst (ns.map V.int))) else none) (fun b => ?_) (.inl (.inr ⟨{ cls := .type "list", data := .seq vs.toArray }, if_pos rfl⟩)) (fun b u z => ?_) (fun b z => ?_) fun _ => hk
    · by_cases hb : b = a
      · exact .inr ⟨_, _, if_pos hb⟩
      · exact .inl (if_neg hb)
    · by_cases hb : b = a
      · have z' := (if_pos hb).symm.trans z
        cases z'
        subst hb
        exact ⟨ha, by rw [List.length_map]; exact hl, vs, _, rv, ha⟩
      · have z' := (if_neg hb).symm.trans z
        cases z'
    · by_cases hb : b = a
      · exact hb
      · exact absurd (if_neg hb) z
theorem walk_ofG {l : PySem.W.OpenLaw} {n k : Nat} {q : Program} {loose : List Str} {XP : (Str → Option Value) → Heap → Prop} {YP : World → Heap → Prop} {d : DefRec} {K : Params → PySem.W.Frag} {CX : World → CXT} {sp : World → Sp} {x : Str}
    (hn : l.most = some n) (hn2 : n ≤ sizeLine) (hdf : d.params.defaults = []) (hr : Room k callerA)
    (hY : ∀ (w : World) (h : Heap), YP w h → (K w.params).In h)
    (FG : ∀ (w : World) (mg : Str → Option Value) (fa : Addr) (h : Heap), (K w.params).In h → h.Ns mainGlobals mg → mg d.name = some (.ref fa) →
      ∃ fd : FuncData, (∀ (s : Shared) (u : Value), BindsTo s fd ⟨[u], []⟩ [(x, u)]) ∧
        ∀ base : Heap, (K w.params).In base → base.Ns mainGlobals mg → FnG l.prog w (K w.params) mg base (CX w) k fa fd [x] (sp w))
    (hsp : ∀ (w : World) (H : Hp) (a : Addr) (ns : List Int), ns.length ≤ n → (∀ z ∈ ns, Builtin.Int.intBits z ≤ 1048576) → Only H → SqL (K w.params) H a (ns.map V.int) → sp w [.ref a] H (fun v _ => v = .bl true) fun _ _ _ => False)
    (hCX : ∀ (w : World) (H : Hp) (s : Shared) (e : Value) (s' : Shared), CX w [] H s (fun _ _ _ => False) e s' → False) :
    PySem.W.WalkO q loose XP YP l.row.toRowW d [] (fun f vs => PySem.call f vs) := by
  refine Att.attach_callB hn hdf fun w s₀ s₁ mg mb fa o pm cd doc a vs ns G Y ho hd hcd hmg hobj hints hlen hbits hg => ?_
  obtain ⟨fd, hb, hF⟩ := FG w mg fa _ (hY w _ Y) G.T.g hmg
  exact law_callG (hY w _ Y) G.T.g G.T.b G.T.builtins G.T.nolimit hg hobj hints (Nat.le_trans hlen hn2) hr hF hb (fun H hO hS => hsp w H a ns hlen hbits hO hS) fun H e s' => hCX w H s₁ e s'
end Gk
/-! ### what equality of editions means -/
namespace Gk
open PySem PySem.W PySem.Spec PyProof.Rows L2 NdefX
/-! sorted texts -/
def leT (x y : Str) : Prop := ltCps y.cps.toList x.cps.toList = false
theorem leT_iff {x y : Str} : leT x y ↔ ¬ y.cps.toList < x.cps.toList := by
  unfold leT
  rw [PyProof.Rows.ltCps_eq, decide_eq_false_iff_not]
theorem leT_trans {x y z : Str} (h1 : leT x y) (h2 : leT y z) : leT x z := by
  rw [leT_iff] at h1 h2 ⊢
  exact List.not_lt.mpr (List.le_trans (List.not_lt.mp h1) (List.not_lt.mp h2))
theorem leT_anti {x y : Str} (h1 : leT x y) (h2 : leT y x) : x = y := by
  rw [leT_iff] at h1 h2
  have e : x.cps.toList = y.cps.toList := List.le_antisymm (List.not_lt.mp h1) (List.not_lt.mp h2)
  cases x
  cases y
  simp only [Array.toList_inj] at e
  rw [e]
theorem rising_pw : ∀ (l : List Str) (p : Str), risingS p l = true → (p :: l).Pairwise leT
  | [], p, _ => List.pairwise_cons.mpr ⟨fun _ h => (by cases h), List.Pairwise.nil⟩
  | x :: r, p, h => by
    have h' : (!ltCps x.cps.toList p.cps.toList && risingS x r) = true := h
    rw [Bool.and_eq_true, Bool.not_eq_true'] at h'
    have ih := rising_pw r x h'.2
    refine List.pairwise_cons.mpr ⟨fun y hy => ?_, ih⟩
    rcases List.mem_cons.mp hy with rfl | hy
    · exact h'.1
    · exact leT_trans h'.1 ((List.pairwise_cons.mp ih).1 y hy)
theorem sorted_pw : ∀ {l : List Str}, sortedS l = true → l.Pairwise leT
  | [], _ => List.Pairwise.nil
  | x :: r, h => rising_pw r x h
theorem pw_unique : ∀ {l m : List Str}, l.Pairwise leT → m.Pairwise leT → l.Perm m → l = m
  | [], m, _, _, p => (List.nil_perm.mp p).symm ▸ rfl
  | x :: l, [], _, _, p => absurd p.length_eq (by simp)
  | x :: l, y :: m, h1, h2, p => by
    rw [List.pairwise_cons] at h1 h2
    have e : x = y := by
      rcases List.mem_cons.mp (p.mem_iff.mp List.mem_cons_self) with e | hx
      · exact e
      · rcases List.mem_cons.mp (p.mem_iff.mpr List.mem_cons_self) with e | hy
        · exact e.symm
        · exact leT_anti (h1.1 y hy) (h2.1 x hx)
    subst e
    rw [pw_unique h1.2 h2.2 p.cons_inv]
theorem sorted_unique {l m : List Str} (h1 : sortedS l = true) (h2 : sortedS m = true) (p : l.Perm m) : l = m := pw_unique (sorted_pw h1) (sorted_pw h2) p
theorem Row.ext' {x y : Row} (h1 : x.name = y.name) (h2 : x.al = y.al) (h3 : x.num = y.num) : x = y := by
  cases x
  cases y
  simp only at h1 h2 h3
  rw [h1, h2, h3]
/-- rows with the same names and numbers, and aliases in whatever sequence -/
def LikeRow (x y : Row) : Prop := y.name = x.name ∧ y.num = x.num ∧ y.al.Perm x.al
theorem sorted_same {rows rows' : List Row} (h : Paired LikeRow rows rows') : ∀ {r1 r2 : List Row}, Paired SortedRow rows r1 → Paired SortedRow rows' r2 → r1 = r2 := by
  induction h with
  | nil =>
    intro r1 r2 h1 h2
    cases h1
    cases h2
    rfl
  | cons r t ih =>
    intro r1 r2 h1 h2
    cases h1 with
    | cons a1 b1 =>
      cases h2 with
      | cons a2 b2 =>
        rw [ih b1 b2]
        congr 1
        refine Row.ext' (by rw [a1.nm, a2.nm, r.1]) (sorted_unique a1.srt a2.srt ?_) (by rw [a1.num, a2.num, r.2.1])
        exact a1.perm.trans (r.2.2.symm.trans a2.perm.symm)
/-! == of rows -/
theorem eqvAll_strs : ∀ a b : List Str, PyData.eqvAll (a.map .str) (b.map .str) = true → a = b
  | [], [], _ => rfl
  | [], _ :: _, h => by simp [PyData.eqvAll] at h
  | _ :: _, [], h => by simp [PyData.eqvAll] at h
  | x :: a, y :: b, h => by
    simp only [List.map_cons, PyData.eqvAll, PyData.eqv, Bool.and_eq_true, beq_iff_eq] at h
    rw [h.1, eqvAll_strs a b h.2]
theorem eqvAll_ints : ∀ a b : List Int, PyData.eqvAll (a.map .int) (b.map .int) = true → a = b
  | [], [], _ => rfl
  | [], _ :: _, h => by simp [PyData.eqvAll] at h
  | _ :: _, [], h => by simp [PyData.eqvAll] at h
  | x :: a, y :: b, h => by
    simp only [List.map_cons, PyData.eqvAll, PyData.eqv, Bool.and_eq_true, beq_iff_eq] at h
    rw [h.1, eqvAll_ints a b h.2]
theorem eqv_rows_of : ∀ a b : List Row, PyData.eqvAll (a.map rowD) (b.map rowD) = true → a = b
  | [], [], _ => rfl
  | [], _ :: _, h => by simp [PyData.eqvAll] at h
  | _ :: _, [], h => by simp [PyData.eqvAll] at h
  | x :: a, y :: b, h => by
    simp only [List.map_cons, PyData.eqvAll, rowD, PyData.eqv, Bool.and_eq_true, beq_iff_eq, Bool.and_true] at h
    obtain ⟨⟨h1, h2, h3⟩, h4⟩ := h
    rw [Row.ext' h1 (eqvAll_strs _ _ h2) h3, eqv_rows_of a b h4]
theorem eqv_rows {a b : List Row} (h : PyData.eqv (rowsD a) (rowsD b) = true) : a = b := by
  unfold rowsD at h
  rw [PyData.eqv] at h
  exact eqv_rows_of a b h
theorem eqv_rows_refl {a : List Row} (h : EdLay a) : PyData.eqv (rowsD a) (rowsD a) = true := SeqAt.eqv_refl _ (SeqAt.canLay_of_shaped (rowsD_shaped h))
theorem eqv_ints (a : List Int) : PyData.eqv (.tuple (a.map .int)) (.tuple (a.map .int)) = true := SeqAt.eqv_refl _ (SeqAt.canLay_of_shaped (tupI_shaped a))
/-! == of groups -/
theorem lookD_mem {gs : List (Str × List Int)} {k : Str} {d : PyData} (h : lookD (gsD gs) (.inr k) = some d) : ∃ x ∈ gs, x.1 = k ∧ d = .tuple (x.2.map .int) := by
  induction gs with
  | nil => cases h
  | cons x gs ih =>
    unfold lookD gsD at h
    rw [List.map_cons, List.find?_cons] at h
    by_cases e : x.1 = k
    · rw [decide_eq_true (by rw [e])] at h
      exact ⟨x, List.mem_cons_self, e, (Option.some.inj h).symm⟩
    · rw [decide_eq_false (fun z => e (Sum.inr.inj z))] at h
      obtain ⟨y, hy, e1, e2⟩ := ih h
      exact ⟨y, List.mem_cons_of_mem _ hy, e1, e2⟩
theorem lookD_of_mem {gs : List (Str × List Int)} (nd : (gs.map (·.1)).Nodup) {x : Str × List Int} (h : x ∈ gs) : lookD (gsD gs) (.inr x.1) = some (.tuple (x.2.map .int)) := by
  induction gs with
  | nil => cases h
  | cons y gs ih =>
    rw [List.map_cons, List.nodup_cons] at nd
    unfold lookD gsD
    rw [List.map_cons, List.find?_cons]
    rcases List.mem_cons.mp h with rfl | h
    · rw [decide_eq_true rfl]
      rfl
    · have ne : ¬ y.1 = x.1 := fun e => nd.1 (e ▸ List.mem_map_of_mem h)
      rw [decide_eq_false (fun z => ne (Sum.inr.inj z))]
      exact ih nd.2 h
theorem hits_of {gs : List (Str × List Int)} : ∀ {as : List (Str × List Int)}, hitsD (gsD gs) (gsD as) = true → ∀ x ∈ as, x ∈ gs
  | [], _, x, hx => by cases hx
  | a :: as, h, x, hx => by
    have h' : (match lookD (gsD gs) (.inr a.1) with | none => false | some e => PyData.eqv (.tuple (a.2.map .int)) e && hitsD (gsD gs) (gsD as)) = true := h
    cases e : lookD (gsD gs) (.inr a.1) with
    | none => rw [e] at h'; cases h'
    | some d =>
      rw [e] at h'
      have h' : (PyData.eqv (.tuple (a.2.map .int)) d && hitsD (gsD gs) (gsD as)) = true := h'
      rw [Bool.and_eq_true] at h'
      rcases List.mem_cons.mp hx with rfl | hx
      · obtain ⟨y, hy, e1, e2⟩ := lookD_mem e
        rw [e2, PyData.eqv] at h'
        have e3 := eqvAll_ints _ _ h'.1
        have : x = y := Prod.ext e1.symm e3
        rw [this]
        exact hy
      · exact hits_of h'.2 x hx
theorem hits_all {gs : List (Str × List Int)} (nd : (gs.map (·.1)).Nodup) : ∀ {as : List (Str × List Int)}, (∀ x ∈ as, x ∈ gs) → hitsD (gsD gs) (gsD as) = true
  | [], _ => rfl
  | a :: as, h => by
    show (match lookD (gsD gs) (.inr a.1) with | none => false | some e => PyData.eqv (.tuple (a.2.map .int)) e && hitsD (gsD gs) (gsD as)) = true
    rw [lookD_of_mem nd (h a List.mem_cons_self)]
    show (PyData.eqv (.tuple (a.2.map .int)) (.tuple (a.2.map .int)) && hitsD (gsD gs) (gsD as)) = true
    rw [eqv_ints, Bool.true_and]
    exact hits_all nd fun x hx => h x (List.mem_cons_of_mem _ hx)
theorem eqDD_all {as gs : List (Str × List Int)} (nd : (gs.map (·.1)).Nodup) (hl : as.length = gs.length) (h : ∀ x ∈ as, x ∈ gs) : eqDD (gsD as) (gsD gs) = true := by
  unfold eqDD
  rw [hits_all nd h, Bool.and_true, decide_eq_true_eq]
  unfold gsD
  rw [List.length_map, List.length_map, hl]
theorem eqDD_of {as gs : List (Str × List Int)} (h : eqDD (gsD as) (gsD gs) = true) : as.length = gs.length ∧ ∀ x ∈ as, x ∈ gs := by
  unfold eqDD at h
  rw [Bool.and_eq_true, decide_eq_true_eq] at h
  refine ⟨?_, hits_of h.2⟩
  have := h.1
  unfold gsD at this
  rwa [List.length_map, List.length_map] at this
theorem len_sub {α : Type} [DecidableEq α] : ∀ (l m : List α), l.Nodup → (∀ x ∈ l, x ∈ m) → l.length ≤ m.length := by
  intro l
  induction l with
  | nil => exact fun m _ _ => Nat.zero_le _
  | cons x l ih =>
    intro m hn hs
    rw [List.nodup_cons] at hn
    obtain ⟨a, b, rfl⟩ := List.append_of_mem (hs x List.mem_cons_self)
    have := ih (a ++ b) hn.2 fun y hy => by
      rcases List.mem_append.mp (hs y (List.mem_cons_of_mem _ hy)) with z | z
      · exact List.mem_append_left _ z
      · rcases List.mem_cons.mp z with rfl | z
        · exact absurd hy hn.1
        · exact List.mem_append_right _ z
    rw [List.length_append] at this ⊢
    rw [List.length_cons, List.length_cons]
    omega
theorem sub_back {α : Type} [DecidableEq α] {l m : List α} (hn : l.Nodup) (hs : ∀ x ∈ l, x ∈ m) (hl : m.length ≤ l.length) : ∀ x ∈ m, x ∈ l := fun x hx => by
  by_cases h : x ∈ l
  · exact h
  · have := len_sub (x :: l) m (List.nodup_cons.mpr ⟨h, hn⟩) fun y hy => by
      rcases List.mem_cons.mp hy with rfl | hy
      · exact hx
      · exact hs y hy
    rw [List.length_cons] at this
    omega
theorem eqDD_keys {as gs : List (Str × List Int)} (nd : (as.map (·.1)).Nodup) (h : eqDD (gsD as) (gsD gs) = true) : ∀ k, k ∈ as.map (·.1) ↔ k ∈ gs.map (·.1) := by
  obtain ⟨hl, hs⟩ := eqDD_of h
  have sub : ∀ k ∈ as.map (·.1), k ∈ gs.map (·.1) := fun k hk => by
    obtain ⟨x, hx, rfl⟩ := List.mem_map.mp hk
    exact List.mem_map_of_mem (hs x hx)
  exact fun k => ⟨sub k, sub_back nd sub (by rw [List.length_map, List.length_map, hl]; exact Nat.le_refl _) k⟩
end Gk
/-! ### a drawn model with one thing changed -/
namespace Gk
open PySem PySem.W PySem.Spec PyProof.Rows L2 NdefX
abbrev otherT : Str := "other"
structure Mod2 (rows : List Row) (sets : List (Str × List Str)) : Prop where
  nd : (wordsOf rows).Nodup
  mem : ∀ x ∈ wordsOf rows, x ∈ otherT :: poolL
  nums : (rows.map (·.num)).Nodup
  numm : ∀ x ∈ rows.map (·.num), x ∈ (4 : Int) :: numL
  few : ∀ r ∈ rows, r.al.length ≤ 3
  snd : (sets.map (·.1)).Nodup
  smem : ∀ x ∈ sets.map (·.1), x ∈ otherT :: setNames
  slen : sets.length ≤ 3
  ssub : ∀ x ∈ sets, ∀ y ∈ x.2, y ∈ rows.map (·.name)
  seach : ∀ x ∈ sets, x.2.Nodup
theorem names_sub (rows : List Row) : (rows.map (·.name)).Sublist (wordsOf rows) := by
  induction rows with
  | nil => exact List.Sublist.refl _
  | cons x l ih =>
    rw [List.map_cons, words_cons, List.cons_append]
    exact List.Sublist.cons₂ _ (ih.trans (List.sublist_append_right _ _))
theorem ModelOk.two {rows : List Row} {sets : List (Str × List Str)} (m : ModelOk rows sets) : Mod2 rows sets := by
  refine ⟨m.nd, fun x hx => List.mem_cons_of_mem _ (m.mem x hx), m.nums, fun x hx => List.mem_cons_of_mem _ (m.numm x hx), fun r hr => Nat.le_succ_of_le (m.few r hr), m.sets.nd, fun x hx => ?_, ?_, fun x hx y hy => (m.sets.sub x hx).subset hy, fun x hx => (m.nd.sublist (names_sub rows)).sublist (m.sets.sub x hx)⟩
  · obtain ⟨y, hy, rfl⟩ := List.mem_map.mp hx
    exact List.mem_cons_of_mem _ (m.sets.mem y hy)
  · have := three_of m.sets.nd fun y hy => by
      obtain ⟨x, hx, rfl⟩ := List.mem_map.mp hy
      exact m.sets.mem x hx
    rwa [List.length_map] at this
theorem pool2_names : ∀ x ∈ otherT :: poolL, nameB x = true := by decide +kernel
theorem pool2_lay : ∀ x ∈ otherT :: poolL, PyData.strOk x = true := by decide +kernel
theorem set2_names : ∀ x ∈ otherT :: setNames, nameB x = true := by decide +kernel
theorem num2_far : ∀ n ∈ (4 : Int) :: numL, -farI ≤ n ∧ n ≤ farI := by decide +kernel
theorem Mod2.rows {rows : List Row} {sets : List (Str × List Str)} (m : Mod2 rows sets) (lo : 1 ≤ rows.length) (hi : rows.length ≤ 16) : RowsOk rows := by
  refine ⟨lo, hi, fun x hx => ?_, fun x hx => Nat.lt_of_le_of_lt (m.few x hx) (by decide), ?_⟩
  · have far := num2_far x.num (m.numm _ (List.mem_map_of_mem hx))
    exact ⟨pool2_names _ (m.mem _ (mem_words hx _ List.mem_cons_self)), fun y hy => pool2_names _ (m.mem _ (mem_words hx _ (List.mem_cons_of_mem _ hy))), far.1, far.2, Nat.le_trans (m.few x hx) (by decide)⟩
  · refine (marks_apart rows).nodup_iff.mpr (List.nodup_append.mpr ⟨nodup_inr m.nd, nodup_map_inl m.nums, fun a ha b hb e => ?_⟩)
    obtain ⟨y, _, rfl⟩ := List.mem_map.mp ha
    obtain ⟨z, _, rfl⟩ := List.mem_map.mp hb
    cases e
theorem Mod2.good {rows : List Row} {sets : List (Str × List Str)} (m : Mod2 rows sets) (hi : rows.length ≤ 16) : SetsGood (rows.map (·.name)) sets := by
  refine ⟨m.slen, m.snd, fun x hx => set2_names _ (m.smem _ (List.mem_map_of_mem hx)), m.ssub, m.seach, fun x hx => ?_⟩
  have := len_sub x.2 _ (m.seach x hx) (m.ssub x hx)
  rw [List.length_map] at this
  omega
theorem Mod2.lay {rows r1 : List Row} {sets : List (Str × List Str)} (m : Mod2 rows sets) (p : Paired SortedRow rows r1) : EdLay r1 := by
  have h : ∀ x ∈ wordsOf rows, PyData.strOk x = true := fun x hx => pool2_lay x (m.mem x hx)
  clear m
  induction p with
  | nil => exact fun x hx => by cases hx
  | @cons x y l l' r t ih =>
    rw [words_cons] at h
    intro z hz
    rcases List.mem_cons.mp hz with rfl | hz
    · refine ⟨?_, fun w hw => ?_⟩
      · rw [r.nm]
        exact h _ (List.mem_append_left _ List.mem_cons_self)
      · exact h _ (List.mem_append_left _ (List.mem_cons_of_mem _ (r.perm.mem_iff.mp hw)))
    · exact ih (fun w hw => h w (List.mem_append_right _ hw)) z hz
theorem nums_sorted {rows rows' : List Row} (h : Paired SortedRow rows rows') : rows'.map (·.num) = rows.map (·.num) := by
  induction h with
  | nil => rfl
  | cons r t ih => rw [List.map_cons, List.map_cons, ih, r.num]
theorem als_sorted {rows rows' : List Row} {y : Str} (h : Paired SortedRow rows rows') : (∃ r ∈ rows, y ∈ r.al) ↔ ∃ r ∈ rows', y ∈ r.al := by
  induction h with
  | nil => exact Iff.rfl
  | cons r t ih =>
    constructor
    · rintro ⟨z, hz, hy⟩
      rcases List.mem_cons.mp hz with rfl | hz
      · exact ⟨_, List.mem_cons_self, r.perm.mem_iff.mpr hy⟩
      · obtain ⟨q, hq, h⟩ := ih.mp ⟨z, hz, hy⟩
        exact ⟨q, List.mem_cons_of_mem _ hq, h⟩
    · rintro ⟨z, hz, hy⟩
      rcases List.mem_cons.mp hz with rfl | hz
      · exact ⟨_, List.mem_cons_self, r.perm.mem_iff.mp hy⟩
      · obtain ⟨q, hq, h⟩ := ih.mpr ⟨z, hz, hy⟩
        exact ⟨q, List.mem_cons_of_mem _ hq, h⟩
theorem groups_keys (ns : List Str) (sets : List (Str × List Str)) : (groupsOf ns sets).map (·.1) = sets.map (·.1) := by
  unfold groupsOf
  rw [List.map_map]
  rfl
def Diff (rows : List Row) (rows' : List Row) (sets' : List (Str × List Str)) : Prop := rows.map (·.name) ≠ rows'.map (·.name) ∨ rows.map (·.num) ≠ rows'.map (·.num) ∨ (∃ r ∈ rows', otherT ∈ r.al) ∨ otherT ∈ sets'.map (·.1)
theorem other_pool : otherT ∉ poolL := by decide +kernel
theorem other_sets : otherT ∉ setNames := by decide +kernel
theorem diff_no {rows rows' r1 r2 : List Row} {sets sets' : List (Str × List Str)} {ns ns' : List Str} (m : ModelOk rows sets) (h : Diff rows rows' sets') (p : Paired SortedRow rows r1) (p' : Paired SortedRow rows' r2) (hr : r1 = r2) (hk : ∀ k, k ∈ sets.map (·.1) ↔ k ∈ sets'.map (·.1)) : False := by
  subst hr
  rcases h with h | h | h | h
  · exact h (by rw [← names_sorted p, ← names_sorted p'])
  · exact h (by rw [← nums_sorted p, ← nums_sorted p'])
  · obtain ⟨r, hr, hy⟩ := (als_sorted p).mpr ((als_sorted p').mp h)
    exact other_pool (m.mem _ (mem_words hr _ (List.mem_cons_of_mem _ hy)))
  · obtain ⟨x, hx, e⟩ := List.mem_map.mp ((hk otherT).mpr h)
    exact other_sets (e ▸ m.sets.mem x hx)
theorem diff_eq {rows rows' r1 r2 : List Row} {sets sets' : List (Str × List Str)} {ns ns' : List Str} (m : ModelOk rows sets) (nd' : (sets'.map (·.1)).Nodup) (h : Diff rows rows' sets') (p : Paired SortedRow rows r1) (p' : Paired SortedRow rows' r2) :
    eqEd r1 (groupsOf ns sets) r2 (groupsOf ns' sets') = false ∧ eqEd r2 (groupsOf ns' sets') r1 (groupsOf ns sets) = false := by
  constructor
  · cases e : eqEd r1 (groupsOf ns sets) r2 (groupsOf ns' sets') with
    | false => rfl
    | true =>
      unfold eqEd at e
      rw [Bool.and_eq_true] at e
      have k := eqDD_keys (by rw [groups_keys]; exact m.sets.nd) e.2
      rw [groups_keys, groups_keys] at k
      exact (diff_no (ns := ns) (ns' := ns') m h p p' (eqv_rows e.1) k).elim
  · cases e : eqEd r2 (groupsOf ns' sets') r1 (groupsOf ns sets) with
    | false => rfl
    | true =>
      unfold eqEd at e
      rw [Bool.and_eq_true] at e
      have k := eqDD_keys (by rw [groups_keys]; exact nd') e.2
      rw [groups_keys, groups_keys] at k
      exact (diff_no (ns := ns) (ns' := ns') m h p p' (eqv_rows e.1).symm fun q => (k q).symm).elim
/-! what is equal -/
theorem inV_strs (x : Str) (ws : List Str) : inV (.str x) (ws.map V.str) = true ↔ x ∈ ws := by
  unfold inV
  rw [List.any_map, List.any_eq_true]
  constructor
  · rintro ⟨y, hy, e⟩
    have : y = x := by simpa [eqV] using e
    exact this ▸ hy
  · exact fun h => ⟨x, h, by simp [eqV]⟩
theorem plTo_like {ns ws vs : List Str} (h : ∀ x, x ∈ ws ↔ x ∈ vs) : ∀ i, plTo ns ws i = plTo ns vs i
  | 0 => rfl
  | i + 1 => by
    unfold plTo
    rw [plTo_like h i]
    congr 1
    cases ns[i]? with
    | none => rfl
    | some x =>
      have : inV (.str x) (ws.map V.str) = inV (.str x) (vs.map V.str) := by
        rw [Bool.eq_iff_iff, inV_strs, inV_strs]
        exact h x
      show (if inV (.str x) (ws.map V.str) = true then [(i : Int)] else []) = (if inV (.str x) (vs.map V.str) = true then [(i : Int)] else [])
      rw [this]
theorem nodup_of_map {α β : Type} {f : α → β} : ∀ {l : List α}, (l.map f).Nodup → l.Nodup
  | [], _ => List.nodup_nil
  | x :: l, h => by
    rw [List.map_cons, List.nodup_cons] at h
    exact List.nodup_cons.mpr ⟨fun z => h.1 (List.mem_map_of_mem z), nodup_of_map h.2⟩
theorem same_eq {rows rows' r1 r2 : List Row} {sets sets' : List (Str × List Str)} (lay : EdLay r1) (nd : (sets.map (·.1)).Nodup) (nd' : (sets'.map (·.1)).Nodup) (hl : sets'.length = sets.length) (h : ∀ x ∈ sets', ∃ y ∈ sets, x.1 = y.1 ∧ ∀ z, z ∈ x.2 ↔ z ∈ y.2)
    (like : Paired LikeRow rows rows') (p : Paired SortedRow rows r1) (p' : Paired SortedRow rows' r2) : eqEd r1 (groupsOf (rows.map (·.name)) sets) r2 (groupsOf (rows'.map (·.name)) sets') = true ∧ eqEd r2 (groupsOf (rows'.map (·.name)) sets') r1 (groupsOf (rows.map (·.name)) sets) = true := by
  have e := sorted_same like p p'
  have en : rows'.map (·.name) = rows.map (·.name) := by rw [← names_sorted p, ← names_sorted p', e]
  subst e
  rw [en]
  have sub : ∀ x ∈ groupsOf (rows.map (·.name)) sets', x ∈ groupsOf (rows.map (·.name)) sets := fun x hx => by
    obtain ⟨y, hy, rfl⟩ := List.mem_map.mp hx
    obtain ⟨z, hz, e1, e2⟩ := h y hy
    refine List.mem_map.mpr ⟨z, hz, ?_⟩
    rw [e1, plTo_like e2]
  have hlg : (groupsOf (rows.map (·.name)) sets').length = (groupsOf (rows.map (·.name)) sets).length := by unfold groupsOf; rw [List.length_map, List.length_map, hl]
  have ndg : (groupsOf (rows.map (·.name)) sets').Nodup := by
    have : ((groupsOf (rows.map (·.name)) sets').map (·.1)).Nodup := by rw [groups_keys]; exact nd'
    exact nodup_of_map this
  unfold eqEd
  rw [eqv_rows_refl lay, Bool.true_and, Bool.true_and]
  exact ⟨eqDD_all (by rw [groups_keys]; exact nd') hlg.symm (sub_back ndg sub (by omega)), eqDD_all (by rw [groups_keys]; exact nd) hlg sub⟩
end Gk
/-! ### split of join; the text of a number is read back -/
namespace Tx
open PySem PySem.W PySem.W.KIN PySem.NumText PyProof.Rows PySem.Builtin.Str
theorem app_inj {c : Nat} : ∀ {x y A B : List Nat}, c ∉ x → c ∉ y → x ++ c :: A = y ++ c :: B → x = y ∧ A = B
  | [], [], A, B, _, _, h => ⟨rfl, (List.cons.inj h).2⟩
  | [], b :: y, A, B, _, hy, h => absurd (List.mem_cons.mpr (.inl (List.cons.inj h).1)) hy
  | a :: x, [], A, B, hx, _, h => absurd (List.mem_cons.mpr (.inl (List.cons.inj h).1.symm)) hx
  | a :: x, b :: y, A, B, hx, hy, h => by
    obtain ⟨e1, e2⟩ := List.cons.inj h
    obtain ⟨e3, e4⟩ := app_inj (fun z => hx (List.mem_cons_of_mem _ z)) (fun z => hy (List.mem_cons_of_mem _ z)) e2
    exact ⟨by rw [e1, e3], e4⟩
theorem str_ext {a b : Str} (h : a.cps.toList = b.cps.toList) : a = b := by
  cases a; cases b
  exact congrArg Str.mk (Array.toList_inj.mp h)
theorem join2 (c : Nat) (x y : Str) (r : List Str) : (Str.join ⟨#[c]⟩ (x :: y :: r)).cps.toList = x.cps.toList ++ c :: (Str.join ⟨#[c]⟩ (y :: r)).cps.toList := by
  show ((x.cps ++ #[c]) ++ (Str.join ⟨#[c]⟩ (y :: r)).cps).toList = _
  rw [Array.toList_append, Array.toList_append, List.append_assoc]
  rfl
theorem join_inj {c : Nat} : ∀ {xs ys : List Str}, xs ≠ [] → ys ≠ [] → (∀ p ∈ xs, c ∉ p.cps.toList) → (∀ p ∈ ys, c ∉ p.cps.toList) → Str.join ⟨#[c]⟩ xs = Str.join ⟨#[c]⟩ ys → xs = ys
  | [], _, h, _, _, _, _ => absurd rfl h
  | _ :: _, [], _, h, _, _, _ => absurd rfl h
  | [x], [y], _, _, _, _, h => by
    have h : x = y := h
    rw [h]
  | [x], y :: y' :: r, _, _, hx, _, h => by
    have h : x.cps.toList = (Str.join ⟨#[c]⟩ (y :: y' :: r)).cps.toList := congrArg (fun (z : Str) => z.cps.toList) h
    rw [join2] at h
    exact absurd (h ▸ List.mem_append_right _ List.mem_cons_self) (hx x List.mem_cons_self)
  | x :: x' :: r, [y], _, _, _, hy, h => by
    have h : (Str.join ⟨#[c]⟩ (x :: x' :: r)).cps.toList = y.cps.toList := congrArg (fun (z : Str) => z.cps.toList) h
    rw [join2] at h
    exact absurd (h ▸ List.mem_append_right _ List.mem_cons_self) (hy y List.mem_cons_self)
  | x :: x' :: r, y :: y' :: q, _, _, hx, hy, h => by
    have h : (Str.join ⟨#[c]⟩ (x :: x' :: r)).cps.toList = (Str.join ⟨#[c]⟩ (y :: y' :: q)).cps.toList := congrArg (fun (z : Str) => z.cps.toList) h
    rw [join2, join2] at h
    obtain ⟨e1, e2⟩ := app_inj (hx x List.mem_cons_self) (hy y List.mem_cons_self) h
    rw [str_ext e1, join_inj (List.cons_ne_nil _ _) (List.cons_ne_nil _ _) (fun p hp => hx p (List.mem_cons_of_mem _ hp)) (fun p hp => hy p (List.mem_cons_of_mem _ hp)) (str_ext e2)]
theorem split_join {c : Nat} {xs : List Str} (h : xs ≠ []) (hx : ∀ p ∈ xs, c ∉ p.cps.toList) : Txt.split (Txt.join ⟨#[c]⟩ xs) ⟨#[c]⟩ = xs := by
  refine join_inj (c := c) (fun e => ?_) h (StrLaws.split_free _ c) hx ?_
  · have := PyProof.Rows.split_pos (Txt.join ⟨#[c]⟩ xs) ⟨#[c]⟩
    rw [e] at this
    exact absurd this (by decide)
  · rw [StrLaws.join_split]
    exact StrLaws.glued_eq_join _ _
theorem join_len (sep : Str) (xs : List Str) : (Txt.join sep xs).length ≤ (xs.map (·.length)).sum + xs.length * sep.length := by
  show (glued sep xs).length ≤ _
  rw [StrLaws.glued_eq_join]
  exact StrLaws.join_length_le sep xs
theorem join_free {k c : Nat} (hk : k ≠ c) : ∀ {xs : List Str}, (∀ p ∈ xs, k ∉ p.cps.toList) → k ∉ (Str.join ⟨#[c]⟩ xs).cps.toList
  | [], _ => fun h => by cases h
  | [x], h => h x List.mem_cons_self
  | x :: y :: r, h => by
    rw [join2]
    intro z
    rcases List.mem_append.mp z with z | z
    · exact h x List.mem_cons_self z
    · rcases List.mem_cons.mp z with z | z
      · exact hk z
      · exact join_free hk (fun p hp => h p (List.mem_cons_of_mem _ hp)) z
theorem joinT_free {k c : Nat} (hk : k ≠ c) {xs : List Str} (h : ∀ p ∈ xs, k ∉ p.cps.toList) : k ∉ (Txt.join ⟨#[c]⟩ xs).cps.toList := by
  show k ∉ (glued _ xs).cps.toList
  rw [StrLaws.glued_eq_join]
  exact join_free hk h
/-! numbers -/
def numT (n : Int) : Str := Str.ofString (toString n)
theorem numT_neg {n : Int} (h : n < 0) : (numT n).cps.toList = 45 :: (numT (-n)).cps.toList := by
  obtain ⟨m, rfl⟩ : ∃ m : Nat, n = Int.negSucc m := ⟨(-n).toNat - 1, by omega⟩
  show (Str.ofString (toString (Int.negSucc m))).cps.toList = _
  rw [signs_ofString]
  show ("-" ++ (Nat.repr (m + 1))).toList.map Char.toNat = _
  rw [String.toList_append, List.map_append]
  show 45 :: _ = 45 :: _
  rw [show numT (-Int.negSucc m) = Str.ofString (toString ((m + 1 : Nat) : Int)) from rfl, signs_num, Nat.toList_repr]
  rfl
theorem numT_len {n : Int} (h : -(10 ^ 9 : Int) ≤ n ∧ n ≤ 10 ^ 9) : (numT n).length ≤ 11 := by
  by_cases z : 0 ≤ n
  · have := PySem.W.KT.len_num (n := n) z (by omega)
    exact Nat.le_trans this (by decide)
  · have h1 := PySem.W.KT.len_num (n := -n) (by omega) (by omega)
    have h2 : (numT n).length = (numT (-n)).length + 1 := by
      show (numT n).cps.size = (numT (-n)).cps.size + 1
      rw [← Array.length_toList, numT_neg (by omega), List.length_cons, Array.length_toList]
    rw [h2]
    exact Nat.succ_le_succ h1
theorem numT_digits {m : Nat} : AllDigits (numT (m : Int)).cps.toList ∧ (numT (m : Int)).cps.toList ≠ [] := by
  refine ⟨fun c hc => ?_, fun e => ?_⟩
  · unfold numT at hc
    rw [signs_num] at hc
    obtain ⟨ch, hch, e⟩ := List.mem_map.mp hc
    have r := digit_range (Nat.isDigit_of_mem_toDigits (by decide) (by decide) hch)
    rw [← e]
    exact r
  · unfold numT at e
    rw [signs_num] at e
    have h := toDigits_len_ge 10 m
    rw [List.map_eq_nil_iff.mp e] at h
    exact absurd h (by decide)
theorem numT_val {m : Nat} : digitsVal (numT (m : Int)).cps.toList = m := by
  unfold numT
  rw [signs_num, val_back]
theorem numT_reads {n : Int} (h : -(10 ^ 9 : Int) ≤ n ∧ n ≤ 10 ^ 9) : PySem.intText? (numT n) = some n := by
  have hl := numT_len h
  by_cases z : 0 ≤ n
  · obtain ⟨m, rfl⟩ := Int.eq_ofNat_of_zero_le z
    rw [intText_digits numT_digits.1 numT_digits.2 (Nat.le_trans hl (by decide)), numT_val]
  · obtain ⟨m, e⟩ := Int.eq_ofNat_of_zero_le (a := -n) (by omega)
    have e2 := numT_neg (n := n) (by omega)
    rw [e] at e2
    rw [intText_neg e2 numT_digits.1 numT_digits.2 (Nat.le_trans hl (by decide)), numT_val]
    exact congrArg some (by omega)
theorem dec_digits : ∀ c, 48 ≤ c → c ≤ 57 → Unicode.isDecimal c = true := by
  have h : ∀ i : Fin 10, Unicode.isDecimal (48 + i.val) = true := by decide +kernel
  intro c h1 h2
  have := h ⟨c - 48, by omega⟩
  rwa [show 48 + (c - 48) = c from by omega] at this
theorem numT_dec (m : Nat) : Txt.isdecimal (numT (m : Int)) = true := by
  have d := numT_digits (m := m)
  unfold Txt.isdecimal
  rw [Bool.and_eq_true]
  constructor
  · refine decide_eq_true ?_
    show 0 < (numT (m : Int)).cps.size
    rw [← Array.length_toList]
    exact List.length_pos_iff.mpr d.2
  · rw [← Array.all_toList, List.all_eq_true]
    intro c hc
    have := d.1 c hc
    exact dec_digits c this.1 this.2
abbrev dashT : Str := ⟨#[45]⟩
theorem starts_dash (x : Str) : Txt.startswith x dashT = (x.cps.toList.take 1 == [45]) := by
  unfold Txt.startswith
  rw [StrLaws.subAt_eq]
  show (decide (0 + 1 ≤ x.length) && ((x.cps.toList.drop 0).take 1 == [45])) = _
  rw [List.drop_zero]
  by_cases h : 0 + 1 ≤ x.length
  · rw [decide_eq_true h, Bool.true_and]
  · rw [decide_eq_false h, Bool.false_and]
    have : x.cps.toList.length = 0 := by rw [Array.length_toList]; have : x.length = x.cps.size := rfl; omega
    rw [List.length_eq_zero_iff.mp this]
    rfl
theorem numT_starts {n : Int} : Txt.startswith (numT n) dashT = decide (n < 0) := by
  rw [starts_dash]
  by_cases h : n < 0
  · rw [numT_neg h, decide_eq_true h]
    rfl
  · obtain ⟨m, rfl⟩ := Int.eq_ofNat_of_zero_le (a := n) (by omega)
    rw [decide_eq_false h]
    have d := (numT_digits (m := m)).1
    revert d
    cases (numT (m : Int)).cps.toList with
    | nil => intro _; rfl
    | cons c r =>
      intro d
      have := d c List.mem_cons_self
      show ([c] == [45]) = false
      rw [beq_eq_false_iff_ne]
      intro e
      have := (List.cons.inj e).1
      omega
theorem numT_cut {n : Int} (h : n < 0) : L2.cutS (numT n) (some 1) none = numT (-n) := by
  refine str_ext ?_
  have e := numT_neg h
  have l : (numT n).length = (numT (-n)).cps.toList.length + 1 := by
    show (numT n).cps.size = _
    rw [← Array.length_toList, e, List.length_cons]
  unfold L2.cutS
  show ((numT n).cps.toList.drop (HT.sIx (numT n).length 0 (some 1))).take (HT.sIx (numT n).length (numT n).length none - HT.sIx (numT n).length 0 (some 1)) = _
  have a1 : HT.sIx (numT n).length 0 (some 1) = 1 := by rw [l]; unfold HT.sIx; simp; try omega
  have a2 : HT.sIx (numT n).length (numT n).length none = (numT n).length := rfl
  rw [a1, a2, e, l]
  show ((numT (-n)).cps.toList).take _ = _
  exact List.take_of_length_le (by omega)
theorem numT_free {k : Nat} (hk : k ≠ 45 ∧ (k < 48 ∨ 57 < k)) (n : Int) : k ∉ (numT n).cps.toList := int_text_free' k hk n
end Tx
/-! ### (a, .., *r) = a list -/
namespace StarT
open PySem PySem.W PySem.Spec PyProof.Rows L2
theorem walks_from {prog : Program} {w : World} {A : Around} {I : Addr} {fp wr : List Addr} {n : Nat} {P : Nat → Value → Prop} {St : Nat → Heap → Prop} (W : Walks prog w A I fp wr n P St) (k : Nat) (h : k ≤ n) :
    Walks prog w A I fp wr (n - k) (fun i => P (k + i)) (fun i => St (k + i)) where
  sub := W.sub
  frame := fun i => W.frame (k + i)
  item := fun i s Q E hi st hQ => W.item (k + i) s Q E (by omega) st hQ
  done := fun s Q E st hQ => W.done s Q E (by rw [Nat.add_sub_cancel' h] at st; exact st) hQ
  self := fun i s Q E st hQ => W.self (k + i) s Q E st hQ
section
variable {prog : Program} {w : World} {A : Around} {E : Value → Shared → Prop} {s : Shared}
theorem star_items {l : Addr} {items : Array Value} {n : Nat} {Q : List Value → Shared → Prop} (hh : A.handled = none) (hl : s.heap.IsList l items) (hn : n ≤ items.size) (hsz : items.size ≤ sizeLine)
    (hQ : ∀ (h' : Heap) (tk : Nat), s.toks ≤ tk → (∀ b o, s.heap.get? b = some o → h'.get? b = some o) → Q (items.toList.take n ++ [.ref h'.objs.size]) { s with heap := h'.push { cls := .type "list", data := .seq (items.toList.drop n).toArray }, toks := tk }) :
    wpAny (model prog w) A (unpackItems (.ref l) (n + 1) (some n)) Q E s := by
  have hlt : l ≠ s.heap.objs.size := by obtain ⟨o, ho, _⟩ := hl; exact Nat.ne_of_lt (Heap.lt_size ho)
  unfold unpackItems
  refine wpAny_bind ?_
  unfold notIterableAtAll
  refine wpAny_bind (wpAny_specialOf hl.typeIs slot_list_iter.lookup ?_)
  refine wpAny_pure ?_
  simp only [Bool.false_eq_true, if_false]
  refine wpAny_bind (wpAny_holding (wpAny_pyIter_list hl ?_))
  refine wpAny_bind (wpAny_holding (kun_draw hlt n 0 _ _ ⟨_, Heap.get?_push_size _ rfl, rfl, rfl⟩ (hl.push _) (by omega) fun h₁ hit₁ hs₁ => ?_))
  rw [List.drop_zero]
  have ln : (items.toList.take n).length = n := by rw [List.length_take, Array.length_toList]; omega
  rw [if_neg (by rw [ln]; omega)]
  have hl₁ : h₁.IsList l items := (hl.push _).extBut hs₁.extBut hlt
  have W := (walks_from (Walks.list (prog := prog) (w := w) (A := A.in1) hh s.heap.objs.size l hlt items) n hn).toS
  rw [Nat.zero_add] at hit₁
  refine wpAny_bind (wpAny_holding (wpAny_collect_iter (T := "list_iterator") (.inr (.inr (.inl rfl))) W (fun i s st => st.1.typeIs) ⟨hit₁, hl₁⟩ (fun b hb => ?_) (by simp) (fun s' acc hm hacc => ?_) (by omega)))
  · show b < h₁.objs.size
    rcases List.mem_cons.mp hb with e | hb
    · obtain ⟨o, ho, _⟩ := hit₁
      exact e ▸ Heap.lt_size ho
    · obtain ⟨o, ho, _⟩ := hl₁
      exact (List.mem_singleton.mp hb) ▸ Heap.lt_size ho
  have ea : acc.toList = items.toList.drop n := by
    obtain ⟨e1, e2⟩ := hacc
    refine List.ext_getElem? fun j => ?_
    rw [List.getElem?_drop, Array.getElem?_toList, Array.getElem?_toList]
    by_cases hj : j < acc.size
    · have := e2 j acc[j] (by simp [hj])
      rw [this]
      simp [hj]
    · rw [Array.getElem?_eq_none (by omega), Array.getElem?_eq_none (by omega)]
  rw [ea]
  rw [if_neg (by omega)]
  have e0 : n + 1 - 1 - n = 0 := by omega
  rw [e0, Nat.sub_zero, List.take_length, List.drop_length]
  have hk : ∀ b o, s.heap.get? b = some o → s'.heap.get? b = some o := fun b o e => by
    have hb : b ≠ s.heap.objs.size := Nat.ne_of_lt (Heap.lt_size e)
    refine hm.heap b o (by simp [hb]) ?_
    exact hs₁.extBut b o hb (Heap.get?_push_of_some _ e)
  have et : s' = { s with heap := s'.heap, toks := s'.toks } := by
    obtain ⟨_, g, d, o, _⟩ := hm
    cases s'
    simp only at g d o
    subst g d o
    rfl
  have ht := hm.toks
  rw [et]
  generalize s'.heap = h2 at hk
  generalize s'.toks = tk at ht
  refine wpAny_bind (wpAny_newObj_type (wpAny_pure ?_) (hd := by show (List.drop n items.toList).toArray.size ≤ sizeLine; rw [List.size_toArray, List.length_drop, Array.length_toList]; omega))
  rw [List.append_nil]
  exact hQ h2 tk ht hk
end
/-- a, .., *r = a list of at least n things -/
def gStar (K : Frag) (n : Nat) (t : TGs) : TG := fun v σ H Q => ∃ a xs, v = .ref a ∧ SqL K H a xs ∧ n ≤ xs.length ∧ ∀ c, H c = none → t (xs.take n ++ [.ref c]) σ (upd H c (.lst (xs.drop n))) Q
section
variable {X : Cx} {pos : Pos}
theorem pgs_star {e : Expr} {p : Pos} {t : TG} (h : PG X e t) (hs : (assignEach [.Starred e p] X.env).map (·.2) = [assign e X.env] := by rfl) : PGs X [.Starred e p] (gCons t gNil) := by
  refine ⟨fun pins s σ H vs us Q I r hw => ?_⟩
  obtain ⟨v, vr, e1, hw⟩ := hw
  subst e1
  cases r with
  | cons r rr =>
    rw [hs]
    refine assignInOrder_cons (thn (h.run pins s σ H _ _ _ I r hw) fun _ s1 ⟨σ1, H1, I1, q1⟩ => ?_)
    obtain ⟨e2, q⟩ := q1
    subst e2
    cases rr
    exact assignInOrder_nil ⟨σ1, H1, I1, q⟩
theorem pg_star {es : List Expr} {k : Nat} {t : TGs} {n : Nat} (hc : X.calm = true) (h : PGs X es t)
    (hn : (assignEach es X.env).length = n + 1 := by rfl) (hst : (assignEach es X.env).findIdx? (·.1) = some n := by rfl) : PG X (.Tuple es k pos) (gStar X.K n t) := by
  refine ⟨fun pins s σ H v u Q I r hw => ?_⟩
  obtain ⟨a, xs, e1, hq, hl, hw⟩ := hw
  subst e1
  cases r
  obtain ⟨its, rv, pl, hz⟩ := I.list hq
  have hsz : its.length = xs.length := rv.length.symm
  rw [PyProof.Rows.assign_Tuple]
  refine wpAny_bind (wpAny_standAt ?_)
  unfold unpack
  rw [hn, hst]
  refine wpAny_bind (wpAny_holding (star_items (I.ok.hd hc) pl.isList (by rw [List.size_toArray]; omega) (by rw [List.size_toArray]; omega) fun h' tk ht hk => ?_))
  have I1 : Inv X pins σ H { s with heap := h', toks := tk } := I.kept (t' := tk) hk
  have rd : Vals (xs.drop n) (its.toArray.toList.drop n) := by
    rw [List.toList_toArray]
    exact rv.drop n
  have I2 := Inv.lnew (t' := tk) I1 rd (by rw [List.length_drop]; omega)
  have rt : Vals (xs.take n) (its.toArray.toList.take n) := by
    rw [List.toList_toArray]
    exact rv.take n
  have rc : RelV (V.ref h'.objs.size) (Value.ref h'.objs.size) := rfl
  exact h.run pins _ σ _ _ _ Q I2 (Vals.append rt (.cons rc .nil)) (hw _ I1.fresh)
end
end StarT
/-! ### enumerate(a text) -/
namespace StarT
open PySem PySem.W PySem.Spec PyProof.Rows L2
def Ites (x : Str) : It :=
  ⟨fun i _ => i < x.cps.size, fun i H v H' => ∃ T c, v = .ref T ∧ H T = none ∧ H' = upd H T (.tup [.int (i : Nat), .str ⟨#[c]⟩]) ∧ x.cps[i]? = some c, fun i _ => x.cps.size = i⟩
theorem turn_enumS {P : Program} {w : World} {K : PySem.W.Frag} {elts : List Expr} {kk : Nat} {tpos : Pos} (x : Str) (t : Tok) (e it : Addr) :
    Turn P w K (.Tuple elts kk tpos) (Ites x) [e, it] e (fun i h => (∃ old, IsEnum h e it ((i : Nat) : Int) old) ∧ h.IsStrIter it (strIterType x) x t i ∧ e ≠ it) where
  mem := by simp
  obj := fun i h st b hb => by
    obtain ⟨⟨old, he⟩, ⟨o, ho, hc, hd⟩, _⟩ := st
    have e' : b = e ∨ b = it := by simpa using hb
    rcases e' with z | z
    · rw [z]; exact ⟨_, he, fun v q => nomatch q⟩
    · rw [z]; exact ⟨o, ho, fun v q => by rw [hd] at q; cases q⟩
  keep := fun i h h' st k => let ⟨⟨old, he⟩, ⟨o, ho, r⟩, hne⟩ := st; ⟨⟨old, k e (by simp) _ he⟩, ⟨o, k it (by simp) o ho, r⟩, hne⟩
  item := by
    intro X hP hw hK hc i pins s σ H E I hf st hg
    subst hP hw hK
    obtain ⟨⟨old, he⟩, hit, hne⟩ := st
    have hel : e < s.heap.objs.size := Heap.lt_size he
    have hil : it < s.heap.objs.size := by obtain ⟨_, q, _⟩ := hit; exact Heap.lt_size q
    have hh : (X.A.in1).handled = none := I.ok.hd hc
    have D : Draws X.prog X.w X.A.in1 it [it] x.cps.size (SignAt x) (fun i h => h.IsStrIter it (strIterType x) x t i) := by
      unfold strIterType
      by_cases ha : x.cps.all (· < 128) = true
      · rw [if_pos ha]; exact Draws.strAscii hh it x t
      · rw [if_neg ha]; exact Draws.strWide hh it x t
    refine wpAny_pyNext_enum_itemD D he hit hg hne (by simpa using hne) fun u h' tk hv ho hit' hT hsz hk => ?_
    obtain ⟨c, tu, hcx, rfl⟩ := hv
    refine ⟨_, rfl, wpAny_letOwnedTupleGo_enum (s := { s with heap := h', toks := tk + 1 }) ho fun h'' he' sb => ?_⟩
    have hT2 : h''.get? s.heap.objs.size = some { cls := .type "tuple", data := .seq #[.int i tk, .str ⟨#[c]⟩ tu] } := (sb.2 _ (Nat.ne_of_gt hel)).trans hT
    have new : ObjOk X.prog X.w (upd H s.heap.objs.size (.tup [.int (i : Nat), .str ⟨#[c]⟩])) h'' s.heap.objs.size (.tup [.int (i : Nat), .str ⟨#[c]⟩]) :=
      ⟨by show 2 ≤ sizeLine; decide, [.int i tk, .str ⟨#[c]⟩ tu], .cons ⟨_, rfl⟩ (.cons ⟨_, rfl⟩ .nil), ⟨_, hT2, rfl, _, rfl⟩⟩
    have I1 : Inv X pins σ (upd H s.heap.objs.size (.tup [.int (i : Nat), .str ⟨#[c]⟩])) { s with heap := h'', toks := tk + 1 } :=
      I.turnedNew (ch := [e, it]) (fun b ob hb q => (sb.2 b (fun z => hb (by simp [z]))).trans (hk b ob (fun z => hb (by simp [z])) (fun z => hb (by simp [z])) q)) hf (Nat.le_refl _) new
    refine ⟨.ref s.heap.objs.size, _, I1, rfl, ⟨_, c, rfl, I.hok.fresh (Nat.le_refl _), rfl, hcx⟩, ⟨⟨.str ⟨#[c]⟩ tu, ?_⟩, ?_, hne⟩, fun b hb => ?_⟩
    · have e1 : ((i + 1 : Nat) : Int) = (i : Int) + 1 := by omega
      rw [e1]; exact he'
    · obtain ⟨o, ho', r⟩ := hit'
      exact ⟨o, (sb.2 it (Ne.symm hne)).trans ho', r⟩
    · have hb' : b < s.heap.objs.size := by
        have e' : b = e ∨ b = it := by simpa using hb
        rcases e' with z | z
        · rw [z]; exact hel
        · rw [z]; exact hil
      rw [upd_ne (Nat.ne_of_lt hb')]
      exact (hf b hb).1
  done := by
    intro X hP hw hK hc i pins s σ H E I hf st hg
    subst hP hw hK
    obtain ⟨⟨old, he⟩, hit, hne⟩ := st
    obtain ⟨f0, f1, f2, f3, f4, f5⟩ := hf it (by simp)
    have hh : (X.A.in1).handled = none := I.ok.hd hc
    have hg : x.cps.size = i := hg
    subst hg
    have D : Draws X.prog X.w X.A.in1 it [it] x.cps.size (SignAt x) (fun i h => h.IsStrIter it (strIterType x) x t i) := by
      unfold strIterType
      by_cases ha : x.cps.all (· < 128) = true
      · rw [if_pos ha]; exact Draws.strAscii hh it x t
      · rw [if_neg ha]; exact Draws.strWide hh it x t
    exact wpAny_pyNext_enum_endD D he hit fun h' eb => ⟨rfl, I.turned (t' := s.toks) (fun b o hb q => eb b o hb q) f0 f1 f3 f4 f5⟩
  self := fun A i s Q E st h => let ⟨⟨_, he⟩, _⟩ := st; wpAny_pyIter_enum he h
def iEnumS (ta : TA) : TI := fun σ H R => ta σ H fun vs H1 => ∃ x, vs = [.str x] ∧ R (Ites x) H1
theorem pi_enumS {X : Cx} {e : Expr} {ta : TA} {p pos tpos : Pos} {elts : List Expr} {kk : Nat} (hg : Gl X "enumerate") (hm : X.mg "enumerate" = none) (ha : PA X [e] ta) (hs : starEach [e] X.env = [(false, eval e X.env)] := by rfl) :
    PI X (.Tuple elts kk tpos) (.Call (.Name "enumerate" p) [e] [] pos) (iEnumS ta) := by
  refine ⟨fun pins s σ H R I h => ?_⟩
  refine Call_ (ld_blt I hg hm boot_enumerate (PyProof.Rows.callWith_type1 (thn (ha.run pos pins s σ H _ I h) fun us s1 ⟨vs, H1, I1, r1, q1⟩ => ?_) hs rfl))
  obtain ⟨x, ex, q⟩ := q1
  subst ex
  cases r1 with
  | cons r rr =>
    cases rr
    obtain ⟨t, rfl⟩ := r
    refine call_enumerate_str fun h' he hit hsz hk => wpAny_pyIter_enum he ?_
    have I2 : Inv X pins σ H1 { s1 with heap := h' } := I1.kept (t' := s1.toks) hk
    refine ⟨s1.heap.objs.size + 1, [s1.heap.objs.size + 1, s1.heap.objs.size], _, _, H1, rfl, I2, turn_enumS x t (s1.heap.objs.size + 1) s1.heap.objs.size, ⟨⟨.none, he⟩, hit, Nat.succ_ne_self _⟩, fun b hb => ?_, q⟩
    have e' : b = s1.heap.objs.size + 1 ∨ b = s1.heap.objs.size := by simpa using hb
    have hle : s1.heap.objs.size ≤ b := by
      rcases e' with z | z
      · rw [z]; exact Nat.le_add_right _ _
      · rw [z]; exact Nat.le_refl _
    exact I1.fpOk hle (I1.hok.fresh hle)
end StarT
/-! ### repr of a list, some of whose items are data, some a dict of two ints; != of lists of one object; `is` of truth values -/
namespace Gk
open PySem PySem.Spec PyProof.Rows L2
inductive Dq2 (K : PySem.W.Frag) (H : Hp) : V → PyData → Prop
  | dat {v : V} {d : PyData} : Dp K H v d → d.hasDict = false → Dq2 K H v d
  | dic {a : Addr} {x i : Int} : H a = some (.dK [(Sum.inl x, .int i)]) → Dq2 K H (.ref a) (.dict [(.int x, .int i)])
section
variable {X : Cx} {pins : List (Addr × Obj)} {σ : L2.St} {H : Hp} {s : Shared}
theorem dic_reads2 (I : Inv X pins σ H s) {a : Addr} {x i : Int} (h : H a = some (.dK [(Sum.inl x, .int i)])) : Reads s.heap (.ref a) (.dict [(.int x, .int i)]) [a] ∧ a ≠ sysModules := by
  obtain ⟨_, hne, vs, kv, o, es, ep, ho, hex, hd, _, hp, _⟩ := I.hok a _ h
  refine ⟨?_, fun e => by rw [e] at hne; cases hne⟩
  cases kv with
  | cons hk hr =>
    cases hr
    rename_i q _ _
    obtain ⟨h1, t, h2⟩ := hk
    have hel : ∃ e : DictEntry, es.toList = [e] ∧ (mixKind X.prog X.w).is (Sum.inl x) e.key = true ∧ e.val = .int i t := by
      generalize es.toList = l at hp
      cases hp with
      | cons a1 a2 a3 =>
        cases a3
        exact ⟨_, rfl, by rw [show (Sum.inl x : Key) = _ from h1]; exact a1, a2.trans h2⟩
    obtain ⟨e, he, hk1, hv1⟩ := hel
    obtain ⟨tk, hkey⟩ : ∃ tk, e.key = .int x tk := by
      rcases keyIs_shape (show keyIs (Sum.inl x) e.key = true from hk1) with ⟨j, t', e1, e2⟩ | ⟨y, t', e1, _⟩
      · cases e1
        exact ⟨t', e2⟩
      · cases e1
    have A1 : ReadsAll s.heap (es.toList.map (·.key)) ([((PyData.int x), (PyData.int i))].map (·.1)) [] := by
      rw [he]
      show ReadsAll s.heap [e.key] [PyData.int x] []
      rw [hkey]
      exact .cons (as := []) (bs := []) (.int x tk) .nil
    have A2 : ReadsAll s.heap (es.toList.map (·.val)) ([((PyData.int x), (PyData.int i))].map (·.2)) [] := by
      rw [he]
      show ReadsAll s.heap [e.val] [PyData.int i] []
      rw [hv1]
      exact .cons (as := []) (bs := []) (.int i t) .nil
    exact Reads.dict (as := []) (bs := []) ho hex.1 hd A1 A2
theorem dq_reads2 (I : Inv X pins σ H s) {v : V} {u : Value} {d : PyData} (h : Dq2 X.K H v d) (r : L2.RelV v u) : ∃ as, Reads s.heap u d as ∧ (d.hasDict = true → sysModules ∉ as) := by
  cases h with
  | dat h1 h2 =>
    obtain ⟨as, hr⟩ := Dp.reads I d v u h1 r
    exact ⟨as, hr, fun z => by rw [h2] at z; cases z⟩
  | dic h1 =>
    cases r
    obtain ⟨h2, h3⟩ := dic_reads2 I h1
    exact ⟨_, h2, fun _ z => h3 (List.mem_singleton.mp z).symm⟩
theorem dq_all2 (I : Inv X pins σ H s) : ∀ {vs : List V} {us : List Value} {ds : List PyData}, Vals vs us → Paired (Dq2 X.K H) vs ds → PyData.showableAll ds = true → (∀ t ∈ PyData.shownAll ds, t.length ≤ sizeLine) →
    ∃ as bs, ReadsAll s.heap us ds as ∧ ReadAtMost s.heap (PyData.depthAll ds) bs ∧ ReprAllK X.prog X.w bs s.heap (PyData.depthAll ds) us (PyData.shownAll ds)
  | _, _, _, .nil, .nil, _, _ => ⟨[], [], .nil, (fun _ h => nomatch h), (by simp only [PyData.shownAll]; exact .nil)⟩
  | _, _, _, .cons r rs, .cons (b := d) (l₂ := ds) h hs, hsh, hz => by
    have hs' : d.showable = true ∧ PyData.showableAll ds = true := by simpa [PyData.showableAll] using hsh
    obtain ⟨as, hr, hn⟩ := dq_reads2 I h r
    obtain ⟨b1, hb1, k1⟩ := ReprK.of_reads (prog := X.prog) (w := X.w) hr hs'.1 hn (hz _ (by simp only [PyData.shownAll]; exact List.mem_cons_self ..))
    obtain ⟨as2, b2, hr2, hb2, k2⟩ := dq_all2 I rs hs hs'.2 (fun t ht => hz t (by simp only [PyData.shownAll]; exact List.mem_cons_of_mem _ ht))
    refine ⟨_, b1 ++ b2, .cons hr hr2, ?_, ?_⟩
    · intro b hm
      simp only [PyData.depthAll]
      rcases List.mem_append.mp hm with hm | hm
      · obtain ⟨d', as', r', hd'⟩ := hb1 b hm
        exact ⟨d', as', r', Nat.le_trans hd' (Nat.le_max_left _ _)⟩
      · obtain ⟨d', as', r', hd'⟩ := hb2 b hm
        exact ⟨d', as', r', Nat.le_trans hd' (Nat.le_max_right _ _)⟩
    · simp only [PyData.depthAll, PyData.shownAll]
      exact .cons ((k1.more fun b hb => List.mem_append_left _ hb).level_le (Nat.le_max_left _ _)) (k2.more_le (fun b hb => List.mem_append_right _ hb) (Nat.le_max_right _ _))
/-- repr([..]): the text of the items' data -/
def rReprL2 (K : PySem.W.Frag) : List V → Hp → VK → Prop := fun xs H Q => ∃ a vs ds, xs = [.ref a] ∧ SqL K H a vs ∧ vs ≠ [] ∧ Paired (Dq2 K H) vs ds ∧ PyData.showableAll ds = true ∧ PyData.depthAll ds ≤ 40 ∧ (listText (PyData.shownAll ds)).length ≤ sizeLine ∧
  Q (.str (listText (PyData.shownAll ds))) H
theorem call_reprL2 (hG : X.A.guards = some []) (hu : X.A.units + 60 < cLine) : CallR X (.builtin "repr") (rReprL2 X.K) := by
  intro pins s σ H xs us Q I r h
  obtain ⟨a, vs, ds, rfl, hS, hne, hp, hs, hdp, hz, q⟩ := h
  cases r with
  | cons rx rr =>
    cases rr
    cases rx
    obtain ⟨its, rv, ⟨o, n, ho, hc, _, hd⟩, _⟩ := I.list hS
    obtain ⟨as, bs, hr, hb, hk⟩ := dq_all2 I rv hp hs (fun t ht => Nat.le_trans (listText_mem_le ht) hz)
    have hna : a ∉ bs := not_mem_of_deeper (.list ho hc hd hr) (by simp only [PyData.depth]; omega) hb
    have hw : ∃ y l, its = y :: l := by
      cases rv with
      | nil => exact absurd rfl hne
      | cons _ _ => exact ⟨_, _, rfl⟩
    obtain ⟨y, l, rfl⟩ := hw
    refine call_repr_slot (by omega) ⟨o, ho, hc⟩ F.slot_list_repr.toG ?_
    exact call_list_reprK ho hc hd hna (by simpa using hk.length_eq) (fun i y e => hk.item i y (by simpa using e)) hG (fun b _ => Clear.nil b) (by show X.A.units + 1 + (PyData.depthAll ds + 1) < cLine; omega) (fun _ _ e => e)
      (fun h' u tk hk' => ⟨_, _, rfl, ⟨V.str (listText (PyData.shownAll ds)), H, I.kept hk', ⟨_, rfl⟩, q⟩⟩) hz
/-- repr of such a list, or of such a dict -/
def rReprU (K : PySem.W.Frag) : List V → Hp → VK → Prop := fun xs H Q => rReprL2 K xs H Q ∨ ∃ (a : Addr) (i j : Int), xs = [.ref a] ∧ H a = some (.dK [(Sum.inl i, .int j)]) ∧ (PyData.dict [(.int i, .int j)]).showable = true ∧ (PyData.dict [(.int i, .int j)]).shown.length ≤ sizeLine ∧ Q (.str (PyData.dict [(.int i, .int j)]).shown) H
theorem call_reprU (hG : X.A.guards = some []) (hu : X.A.units + 60 < cLine) : CallR X (.builtin "repr") (rReprU X.K) := by
  intro pins s σ H xs us Q I r h
  rcases h with h | ⟨a, i, j, rfl, ha, hs, hz, q⟩
  · exact call_reprL2 hG hu pins s σ H xs us Q I r h
  · cases r with
    | cons rx rr =>
      cases rr
      cases rx
      obtain ⟨hr, hne⟩ := dic_reads2 I ha
      refine repr_of_reads' hr hs (fun _ z => hne (List.mem_singleton.mp z).symm) hG ?_ (fun b o e => e) (fun h' u tk hk => ?_) hz
      · have : (PyData.dict [(.int i, .int j)]).depth + 1 ≤ 60 := by simp [PyData.depth, PyData.depthAll, PyData.depthKv]
        omega
      · exact ⟨V.str _, H, I.kept hk, ⟨_, rfl⟩, q⟩
/-- != of two lists that hold the same object -/
def rNeS : R2 := fun x y H Q => ∃ a b c, x = .ref a ∧ y = .ref b ∧ H a = some (.lst [.ref c]) ∧ H b = some (.lst [.ref c]) ∧ Q (.bl false) H
theorem op_neS (hu : X.A.units < cLine) : OpR X (compareOp .NotEq) rNeS := by
  intro pins s σ H x y v u Q I rx ry h
  obtain ⟨a, b, c, rfl, rfl, ha, hb, q⟩ := h
  cases rx
  cases ry
  obtain ⟨its, rv, ⟨o, n, ho, hc, _, hd⟩, _⟩ := I.list (SqL.of ha)
  obtain ⟨its2, rv2, ⟨o2, n2, ho2, hc2, _, hd2⟩, _⟩ := I.list (SqL.of hb)
  cases rv with
  | cons r1 t1 =>
    cases t1
    cases r1
    cases rv2 with
    | cons r2 t2 =>
      cases t2
      cases r2
      have he : ∀ j (h1 : j < #[Value.ref c].size) (h2 : j < #[Value.ref c].size), SeqAt.EqAt X.A.in1 s (#[Value.ref c][j]) (#[Value.ref c][j]) ((fun _ => true) j) := fun j h1 h2 => SeqAt.EqAt.same _
      have k := SeqAt.RcNeAt.lists (A := X.A) (s := s) (l := a) (b := b) ⟨o, ho, hc, n, hd⟩ ⟨o2, ho2, hc2, n2, hd2⟩ rfl hu he
      exact k X.prog X.w X.xe _ ⟨V.bl false, H, I, rfl, q⟩
/-- is True, is False -/
def rIsB (neg : Bool) : R2 := fun x y H Q => ∃ b, y = .bl b ∧ Q (.bl (if neg then !decide (x = .bl b) else decide (x = .bl b))) H
theorem isB_plain {x : V} {v : Value} {b : Bool} (r : RelV x v) : plainIs v (.bool b) = true ∧ (v == Value.bool b) = decide (x = .bl b) := by
  cases x with
  | ref a => cases r; exact ⟨rfl, rfl⟩
  | non => cases r; exact ⟨rfl, rfl⟩
  | bl c => cases r; cases b <;> cases c <;> exact ⟨rfl, rfl⟩
  | int i => obtain ⟨t, rfl⟩ := r; exact ⟨rfl, rfl⟩
  | str x => obtain ⟨t, rfl⟩ := r; exact ⟨rfl, rfl⟩
  | byt x => obtain ⟨t, rfl⟩ := r; exact ⟨rfl, rfl⟩
  | flt x => obtain ⟨t, rfl⟩ := r; exact ⟨rfl, rfl⟩
  | ty n => cases r; exact ⟨rfl, rfl⟩
theorem op_isB : OpR X (compareOp .Is) (rIsB false) := by
  intro pins s σ H x y v u Q I rx ry h
  obtain ⟨b, rfl, q⟩ := h
  cases ry
  obtain ⟨h1, h2⟩ := isB_plain (b := b) rx
  refine wpAny_is_plain h1 ?_
  rw [h2]
  exact fin_bl I q rfl
theorem op_isnotB : OpR X (compareOp .IsNot) (rIsB true) := by
  intro pins s σ H x y v u Q I rx ry h
  obtain ⟨b, rfl, q⟩ := h
  cases ry
  obtain ⟨h1, h2⟩ := isB_plain (b := b) rx
  refine wpAny_isNot_plain h1 ?_
  rw [h2]
  exact fin_bl I q rfl
end
end Gk
/-! ### data as trees, without addresses; what stands in the heap for them -/
namespace Pu
open PySem PySem.W PySem.Spec PyProof.Rows L2 Gk
inductive Dt (Ob : Type) where
  | non | bl (b : Bool) | int (i : Int) | str (x : Str)
  | lst (xs : List (Dt Ob)) | tup (xs : List (Dt Ob)) | dic (kvs : List (Key × Dt Ob)) | src | ob (x : Ob)
/-- own objects: how they stand in the heap; what stands so stays so while the heap grows -/
structure Wd (Ob : Type) where
  K : Frag
  rep : Hp → V → Ob → Prop
  mono : ∀ {H H' : Hp} {v : V} {x : Ob}, Same H H' → rep H v x → rep H' v x
  /-- the dicts that a loop walks now -/
  fz : Addr → Prop := fun _ => False
open Classical in
/-- the heap as it is when no loop walks these dicts -/
noncomputable def thaw (fz : Addr → Prop) (H : Hp) : Hp := fun a => if fz a then (match H a with | some (.frz _ (.dK kvs)) => some (.dK kvs) | x => x) else H a
/-- .. while a loop walks those of z -/
def Wd.at {Ob : Type} (W : Wd Ob) (z : Addr → Prop) : Wd Ob := { K := W.K, rep := W.rep, mono := W.mono, fz := z }
abbrev nz : Addr → Prop := fun _ => False
abbrev anyZ : (Addr → Prop) → Prop := fun _ => True
abbrev noZ : (Addr → Prop) → Prop := fun z => z = nz
section
variable {Ob : Type}
def DicAt (W : Wd Ob) (H : Hp) (a : Addr) (kvs : List (Key × V)) : Prop := H a = some (.dK kvs) ∨ (W.fz a ∧ ∃ o, H a = some (.frz o (.dK kvs)))
mutual
inductive R0 (W : Wd Ob) (p : Option Addr) (H : Hp) : V → Dt Ob → Prop
  | non : R0 W p H .non .non
  | bl (b : Bool) : R0 W p H (.bl b) (.bl b)
  | int (i : Int) : R0 W p H (.int i) (.int i)
  | str (x : Str) : R0 W p H (.str x) (.str x)
  | lst {a : Addr} {us : List V} {ds : List (Dt Ob)} : H a = some (.lst us) → RA W p H us ds → R0 W p H (.ref a) (.lst ds)
  | tup {a : Addr} {us : List V} {ds : List (Dt Ob)} : H a = some (.tup us) → RA W p H us ds → R0 W p H (.ref a) (.tup ds)
  | dic {a : Addr} {kvs : List (Key × V)} {es : List (Key × Dt Ob)} : DicAt W H a kvs → RK W p H kvs es → R0 W p H (.ref a) (.dic es)
  | src {a : Addr} : p = some a → R0 W p H (.ref a) .src
  | ob {v : V} {x : Ob} : W.rep (thaw W.fz H) v x → R0 W p H v (.ob x)
inductive RA (W : Wd Ob) (p : Option Addr) (H : Hp) : List V → List (Dt Ob) → Prop
  | nil : RA W p H [] []
  | cons {v : V} {vs : List V} {d : Dt Ob} {ds : List (Dt Ob)} : R0 W p H v d → RA W p H vs ds → RA W p H (v :: vs) (d :: ds)
inductive RK (W : Wd Ob) (p : Option Addr) (H : Hp) : List (Key × V) → List (Key × Dt Ob) → Prop
  | nil : RK W p H [] []
  | cons {k : Key} {v : V} {vs : List (Key × V)} {d : Dt Ob} {ds : List (Key × Dt Ob)} : R0 W p H v d → RK W p H vs ds → RK W p H ((k, v) :: vs) ((k, d) :: ds)
end
variable {W : Wd Ob} {p : Option Addr} {H H' : Hp}
theorem _root_.L2.Same.tupP {K : Frag} {a : Addr} {xs : List V} (e : Same H H') (h : SqT K H a xs) : SqT K H' a xs := by
  rcases h with (h | ⟨u, h⟩) | h
  · exact .inl (.inl (e _ _ h))
  · exact .inl (.inr ⟨u, e _ _ h⟩)
  · exact .inr h
theorem _root_.L2.Same.rd {a : Addr} {u : HO} (s : Same H H') (h : Rd H a u) : Rd H' a u := by
  rcases h with h | ⟨o, h⟩
  · exact .inl (s _ _ h)
  · exact .inr ⟨o, s _ _ h⟩
theorem thaw_same {fz : Addr → Prop} (s : Same H H') : Same (thaw fz H) (thaw fz H') := fun a u e => by
  unfold thaw at e ⊢
  by_cases z : fz a
  · rw [if_pos z] at e ⊢
    cases h : H a with
    | none => rw [h] at e; cases e
    | some o => rw [s a o h]; rw [h] at e; exact e
  · rw [if_neg z] at e ⊢
    exact s a u e
theorem thaw_none : thaw (fun _ => False) H = H := by
  funext a
  unfold thaw
  rw [if_neg (fun z => z)]
theorem DicAt.mono {a : Addr} {u : List (Key × V)} (s : Same H H') (h : DicAt W H a u) : DicAt W H' a u := by
  rcases h with h | ⟨z, o, h⟩
  · exact .inl (s _ _ h)
  · exact .inr ⟨z, o, s _ _ h⟩
theorem DicAt.rd {a : Addr} {u : List (Key × V)} (h : DicAt W H a u) : Rd H a (.dK u) := by
  rcases h with h | ⟨_, o, h⟩
  · exact .inl h
  · exact .inr ⟨o, h⟩
mutual
theorem R0.mono (s : Same H H') : ∀ {v : V} {d : Dt Ob}, R0 W p H v d → R0 W p H' v d
  | _, _, .non => .non
  | _, _, .bl b => .bl b
  | _, _, .int i => .int i
  | _, _, .str x => .str x
  | _, _, .lst h a => .lst (s _ _ h) (RA.mono s a)
  | _, _, .tup h a => .tup (s _ _ h) (RA.mono s a)
  | _, _, .dic h a => .dic (h.mono s) (RK.mono s a)
  | _, _, .src e => .src e
  | _, _, .ob r => .ob (W.mono (thaw_same s) r)
theorem RA.mono (s : Same H H') : ∀ {vs : List V} {ds : List (Dt Ob)}, RA W p H vs ds → RA W p H' vs ds
  | _, _, .nil => .nil
  | _, _, .cons a b => .cons (R0.mono s a) (RA.mono s b)
theorem RK.mono (s : Same H H') : ∀ {vs : List (Key × V)} {ds : List (Key × Dt Ob)}, RK W p H vs ds → RK W p H' vs ds
  | _, _, .nil => .nil
  | _, _, .cons a b => .cons (R0.mono s a) (RK.mono s b)
end
theorem RA.length : ∀ {us : List V} {ds : List (Dt Ob)}, RA W p H us ds → us.length = ds.length
  | _, _, .nil => rfl
  | _, _, .cons _ t => by rw [List.length_cons, List.length_cons, RA.length t]
theorem RK.length : ∀ {us : List (Key × V)} {ds : List (Key × Dt Ob)}, RK W p H us ds → us.length = ds.length
  | _, _, .nil => rfl
  | _, _, .cons _ t => by rw [List.length_cons, List.length_cons, RK.length t]
theorem RA.append : ∀ {us : List V} {ds : List (Dt Ob)} {us' : List V} {ds' : List (Dt Ob)}, RA W p H us ds → RA W p H us' ds' → RA W p H (us ++ us') (ds ++ ds')
  | _, _, _, _, .nil, h => h
  | _, _, _, _, .cons r t, h => .cons r (RA.append t h)
theorem RA.one {v : V} {d : Dt Ob} (h : R0 W p H v d) : RA W p H [v] [d] := .cons h .nil
theorem RA.get : ∀ {us : List V} {ds : List (Dt Ob)} {i : Nat} {d : Dt Ob}, RA W p H us ds → ds[i]? = some d → ∃ v, us[i]? = some v ∧ R0 W p H v d
  | _, _, _, _, .nil, e => by simp at e
  | _, _, 0, _, .cons r _, e => by simp at e; subst e; exact ⟨_, rfl, r⟩
  | _, _, i + 1, d, .cons _ t, e => by
    obtain ⟨u, h1, h2⟩ := RA.get (i := i) (d := d) t (by simpa using e)
    exact ⟨u, by simpa using h1, h2⟩
theorem RA.getL : ∀ {us : List V} {ds : List (Dt Ob)} {i : Nat} {v : V}, RA W p H us ds → us[i]? = some v → ∃ d, ds[i]? = some d ∧ R0 W p H v d
  | _, _, _, _, .nil, e => by simp at e
  | _, _, 0, _, .cons r _, e => by simp at e; subst e; exact ⟨_, rfl, r⟩
  | _, _, i + 1, d, .cons _ t, e => by
    obtain ⟨u, h1, h2⟩ := RA.getL (i := i) (v := d) t (by simpa using e)
    exact ⟨u, by simpa using h1, h2⟩
theorem RA.set {v : V} {d : Dt Ob} (r : R0 W p H v d) : ∀ {us : List V} {ds : List (Dt Ob)} (i : Nat), RA W p H us ds → RA W p H (us.set i v) (ds.set i d)
  | _, _, _, .nil => .nil
  | _, _, 0, .cons _ t => .cons r t
  | _, _, i + 1, .cons q t => .cons q (RA.set r i t)
theorem RA.take : ∀ {us : List V} {ds : List (Dt Ob)} (n : Nat), RA W p H us ds → RA W p H (us.take n) (ds.take n)
  | _, _, 0, _ => by rw [List.take_zero, List.take_zero]; exact .nil
  | _, _, _ + 1, .nil => .nil
  | _, _, n + 1, .cons r t => .cons r (RA.take n t)
theorem RA.drop : ∀ {us : List V} {ds : List (Dt Ob)} (n : Nat), RA W p H us ds → RA W p H (us.drop n) (ds.drop n)
  | _, _, 0, r => r
  | _, _, _ + 1, .nil => .nil
  | _, _, n + 1, .cons _ t => RA.drop n t
theorem RA.erase : ∀ {us : List V} {ds : List (Dt Ob)} (n : Nat), RA W p H us ds → RA W p H (us.eraseIdx n) (ds.eraseIdx n)
  | _, _, _, .nil => .nil
  | _, _, 0, .cons _ t => t
  | _, _, n + 1, .cons r t => .cons r (RA.erase n t)
theorem RA.reverse : ∀ {us : List V} {ds : List (Dt Ob)}, RA W p H us ds → RA W p H us.reverse ds.reverse
  | _, _, .nil => .nil
  | _, _, .cons r t => by rw [List.reverse_cons, List.reverse_cons]; exact RA.append (RA.reverse t) (.one r)
theorem RK.keys : ∀ {us : List (Key × V)} {ds : List (Key × Dt Ob)}, RK W p H us ds → us.map (·.1) = ds.map (·.1)
  | _, _, .nil => rfl
  | _, _, .cons _ t => by rw [List.map_cons, List.map_cons, RK.keys t]
/-- the value at a key -/
def valD (es : List (Key × Dt Ob)) (k : Key) : Option (Dt Ob) := (es.find? fun kv => decide (kv.1 = k)).map (·.2)
def putD (es : List (Key × Dt Ob)) (k : Key) (d : Dt Ob) : List (Key × Dt Ob) :=
  if (es.any fun kv => decide (kv.1 = k)) = true then es.map (fun kv => if kv.1 = k then (kv.1, d) else kv) else es ++ [(k, d)]
def mergeD (es more : List (Key × Dt Ob)) : List (Key × Dt Ob) := more.foldl (fun acc kv => putD acc kv.1 kv.2) es
theorem RK.val {k : Key} : ∀ {us : List (Key × V)} {ds : List (Key × Dt Ob)}, RK W p H us ds → (valV us k = none ∧ valD ds k = none) ∨ ∃ v d, valV us k = some v ∧ valD ds k = some d ∧ R0 W p H v d
  | _, _, .nil => .inl ⟨rfl, rfl⟩
  | _, _, .cons (k := k') (v := v) (d := d) r t => by
    by_cases e : k' = k
    · exact .inr ⟨v, d, valV_pos e, by simp [valD, List.find?_cons, e], r⟩
    · rcases RK.val (k := k) t with ⟨h1, h2⟩ | ⟨v', d', h1, h2, h3⟩
      · exact .inl ⟨by rw [valV_neg e]; exact h1, by unfold valD at h2 ⊢; rw [List.find?_cons]; simp [e]; simpa using h2⟩
      · exact .inr ⟨v', d', by rw [valV_neg e]; exact h1, by unfold valD at h2 ⊢; rw [List.find?_cons]; simp [e]; simpa using h2, h3⟩
theorem RK.append : ∀ {us : List (Key × V)} {ds : List (Key × Dt Ob)} {us' : List (Key × V)} {ds' : List (Key × Dt Ob)}, RK W p H us ds → RK W p H us' ds' → RK W p H (us ++ us') (ds ++ ds')
  | _, _, _, _, .nil, h => h
  | _, _, _, _, .cons r t, h => .cons r (RK.append t h)
theorem RK.any {k : Key} : ∀ {us : List (Key × V)} {ds : List (Key × Dt Ob)}, RK W p H us ds → (us.any fun kv => decide (kv.1 = k)) = (ds.any fun kv => decide (kv.1 = k))
  | _, _, .nil => rfl
  | _, _, .cons r t => by rw [List.any_cons, List.any_cons, RK.any t]
theorem RK.map {k : Key} {v : V} {d : Dt Ob} (h : R0 W p H v d) : ∀ {us : List (Key × V)} {ds : List (Key × Dt Ob)}, RK W p H us ds → RK W p H (us.map fun kv => if kv.1 = k then (kv.1, v) else kv) (ds.map fun kv => if kv.1 = k then (kv.1, d) else kv)
  | _, _, .nil => .nil
  | _, _, .cons (k := k') r t => by
    rw [List.map_cons, List.map_cons]
    by_cases e : k' = k
    · simp only [e, if_true]
      exact .cons h (RK.map h t)
    · simp only [e, if_false]
      exact .cons r (RK.map h t)
theorem RK.put {k : Key} {v : V} {d : Dt Ob} {us : List (Key × V)} {ds : List (Key × Dt Ob)} (r : RK W p H us ds) (h : R0 W p H v d) : RK W p H (putK us k v) (putD ds k d) := by
  unfold putK putD
  rw [r.any]
  split
  · exact r.map h
  · exact r.append (.cons h .nil)
theorem RK.merge : ∀ {ms : List (Key × V)} {md : List (Key × Dt Ob)} {us : List (Key × V)} {ds : List (Key × Dt Ob)}, RK W p H ms md → RK W p H us ds → RK W p H (mergeK us ms) (mergeD ds md)
  | _, _, _, _, .nil, r => r
  | _, _, us, ds, .cons (k := k) (v := v) (vs := vs) (d := d) (ds := es) h t, r => by
    show RK W p H (mergeK (putK us k v) vs) (mergeD (putD ds k d) es)
    exact RK.merge t (r.put h)
/-! ### what may change is hidden -/
open Classical in
noncomputable def hide (D : Addr → Prop) (H : Hp) : Hp := fun a => if D a then none else H a
variable {D D' : Addr → Prop}
theorem hide_at {a : Addr} (h : ¬ D a) : hide D H a = H a := by unfold hide; rw [if_neg h]
theorem hide_in {a : Addr} (h : D a) : hide D H a = none := by unfold hide; rw [if_pos h]
theorem hide_some {a : Addr} {o : HO} (h : hide D H a = some o) : ¬ D a ∧ H a = some o := by
  by_cases z : D a
  · rw [hide_in z] at h; cases h
  · rw [hide_at z] at h; exact ⟨z, h⟩
theorem hide_same : Same (hide D H) H := fun _ _ h => (hide_some h).2
theorem hide_keep (k : ∀ b u, ¬ D b → H b = some u → H' b = some u) : Same (hide D H) (hide D H') := fun b u h => by
  obtain ⟨n, e⟩ := hide_some h
  rw [hide_at n]
  exact k b u n e
theorem hide_mono (k : ∀ a, D' a → D a) : Same (hide D H) (hide D' H) := fun b u h => by
  obtain ⟨n, e⟩ := hide_some h
  rw [hide_at fun z => n (k b z)]
  exact e
theorem hide_upd_in {a : Addr} {o : HO} (h : D a) : hide D (upd H a o) = hide D H := by
  funext b
  by_cases z : D b
  · rw [hide_in z, hide_in z]
  · rw [hide_at z, hide_at z, upd_ne (fun e => z (by rw [e]; exact h))]
/-- what is not in the heap may be hidden, too -/
theorem hide_or_none {a : Addr} (h : H a = none) : hide (fun b => D b ∨ b = a) H = hide D H := by
  funext b
  by_cases z : D b
  · rw [hide_in z, hide_in (Or.inl z)]
  · by_cases e : b = a
    · subst e
      rw [hide_in (Or.inr rfl), hide_at z, h]
    · rw [hide_at z, hide_at (fun q => q.elim z e)]
/-! ### the source goes on, the rest stays -/
def SrcAt (H : Hp) (a : Addr) : Prop := ∃ r m, H a = some (srcO r m) ∧ SrcOk m
/-- a list or a dict -/
def Soft (o : HO) : Prop := (∃ xs, o = .lst xs) ∨ ∃ kvs, o = .dK kvs
def SoftAt (H : Hp) (a : Addr) : Prop := ∃ o, H a = some o ∧ Soft o
theorem SoftAt.ne {a : Addr} (h : SoftAt H a) : H a ≠ none := by
  obtain ⟨o, e, _⟩ := h
  rw [e]
  exact fun z => by cases z
theorem SoftAt.lst {a : Addr} {us : List V} (h : H a = some (.lst us)) : SoftAt H a := ⟨_, h, .inl ⟨_, rfl⟩⟩
theorem SoftAt.dic {a : Addr} {us : List (Key × V)} (h : H a = some (.dK us)) : SoftAt H a := ⟨_, h, .inr ⟨_, rfl⟩⟩
theorem SrcAt.soft {a : Addr} (h : SrcAt H a) : SoftAt H a := by
  obtain ⟨r, m, e, _⟩ := h
  exact .lst e
structure Hv (p : Option Addr) (D : Addr → Prop) (H : Hp) : Prop where
  sft : ∀ a, D a → SoftAt H a
  src : ∀ a, p = some a → D a ∧ SrcAt H a
structure Grow (p : Option Addr) (H H' : Hp) : Prop where
  keep : ∀ b u, p ≠ some b → H b = some u → H' b = some u
  src : ∀ a, p = some a → SrcAt H' a
theorem Hv.dom (h : Hv p D H) (a : Addr) (z : D a) : H a ≠ none := (h.sft a z).ne
theorem Grow.refl (h : Hv p D H) : Grow p H H := ⟨fun _ _ _ e => e, fun a e => (h.src a e).2⟩
theorem Grow.trans {H1 H2 H3 : Hp} (a : Grow p H1 H2) (b : Grow p H2 H3) : Grow p H1 H3 := ⟨fun c u n e => b.keep c u n (a.keep c u n e), b.src⟩
theorem Grow.same {H1 H2 H3 : Hp} (a : Grow p H1 H2) (s : Same H2 H3) : Grow p H1 H3 := ⟨fun c u n e => s c u (a.keep c u n e), fun c e => by
  obtain ⟨r, m, h, o⟩ := a.src c e
  exact ⟨r, m, s _ _ h, o⟩⟩
theorem Grow.of (h : Hv p D H) (s : Same H H') : Grow p H H' := (Grow.refl h).same s
theorem Grow.hide (g : Grow p H H') (h : Hv p D H) : Same (hide D H) (hide D H') := hide_keep fun b u n e => g.keep b u (fun z => n (h.src b z).1) e
theorem Hv.grow (h : Hv p D H) (g : Grow p H H') : Hv p D H' := by
  refine ⟨fun a z => ?_, fun a e => ⟨(h.src a e).1, g.src a e⟩⟩
  by_cases q : p = some a
  · exact (g.src a q).soft
  · obtain ⟨o, e, so⟩ := h.sft a z
    exact ⟨o, g.keep a o q e, so⟩
theorem Hv.nd (h : Hv p D H) {a : Addr} (e : H a = none) : ¬ D a := fun z => h.dom a z e
theorem Hv.np (h : Hv p D H) {a : Addr} (e : H a = none) : p ≠ some a := fun z => h.nd e (h.src a z).1
theorem Grow.new (h : Hv p D H) {a : Addr} {o : HO} (e : H a = none) : Grow p H (upd H a o) := Grow.of h ((Same.refl H).new e)
theorem hide_new (h : Hv p D H) {a : Addr} {o : HO} (e : H a = none) : hide D (upd H a o) a = some o := by rw [hide_at (h.nd e), upd_same]
end
end Pu
/-! ### expressions and tests over trees -/
namespace Pu
open PySem PySem.W PySem.Spec PyProof.Rows L2 Gk
/-- a value is clean (it may be stored), raw (a list of our own that still changes), or a new list or dict -/
inductive Fl where
  | cl | raw | fr
  deriving DecidableEq
section
variable {Ob : Type}
abbrev PQ (Ob : Type) := Fl → Dt Ob → Prop
inductive PV (Ob : Type) where
  | no | sh (d : Dt Ob) | own (ds : List (Dt Ob)) | ownD (es : List (Key × Dt Ob)) | deep (O : List Addr) (f : Bool) (d : Dt Ob)
abbrev PEnv (Ob : Type) := List (PV Ob)
def PV.share : PV Ob → PV Ob
  | .own ds => .sh (.lst ds)
  | .ownD es => .sh (.dic es)
  | .deep _ _ d => .sh d
  | x => x
def PV.isOwn : PV Ob → Bool
  | .own _ => true
  | .ownD _ => true
  | .deep _ _ _ => true
  | _ => false
/-- what a slot owns: a list or a dict, or a whole tree whose lists stand at O -/
def owns : PV Ob → Option V → Addr → Prop
  | .own _, w, a => w = some (.ref a)
  | .ownD _, w, a => w = some (.ref a)
  | .deep O _ _, _, a => a ∈ O
  | _, _, _ => False
variable (W : Wd Ob) (p : Option Addr) (D : Addr → Prop) (H H' : Hp)
def Dt.isL : Dt Ob → Bool
  | .lst _ => true
  | _ => false
/-! a tree whose lists at O are its own; the rest of it is clean (f: no list is) -/
mutual
inductive RM (f : Bool) : List Addr → V → Dt Ob → Prop
  | cl {v : V} {d : Dt Ob} : (f = true → d.isL = false) → R0 W p (hide D H) v d → RM f [] v d
  | lst {O : List Addr} {a : Addr} {us : List V} {ds : List (Dt Ob)} : H a = some (.lst us) → RMs f O us ds → a ∉ O → RM f (a :: O) (.ref a) (.lst ds)
  | tup {O : List Addr} {a : Addr} {us : List V} {ds : List (Dt Ob)} : hide D H a = some (.tup us) → RMs f O us ds → RM f O (.ref a) (.tup ds)
inductive RMs (f : Bool) : List Addr → List V → List (Dt Ob) → Prop
  | nil : RMs f [] [] []
  | cons {O O' : List Addr} {v : V} {vs : List V} {d : Dt Ob} {ds : List (Dt Ob)} : RM f O v d → RMs f O' vs ds → (∀ a ∈ O, a ∉ O') → RMs f (O ++ O') (v :: vs) (d :: ds)
end
def SlOk (s : Option V) (x : PV Ob) : Prop := match x with
  | .no => True
  | .sh d => ∃ v, s = some v ∧ R0 W p (hide D H) v d
  | .own ds => ∃ a us, s = some (.ref a) ∧ D a ∧ p ≠ some a ∧ H a = some (.lst us) ∧ RA W p (hide D H) us ds
  | .ownD es => ∃ a us, s = some (.ref a) ∧ D a ∧ p ≠ some a ∧ H a = some (.dK us) ∧ RK W p (hide D H) us es
  | .deep O f d => ∃ v O1, s = some v ∧ RM W p D H f O1 v d ∧ (∀ a ∈ O1, a ∈ O) ∧ ∀ a ∈ O, D a ∧ p ≠ some a
structure StE (σ : L2.St) (env : PEnv Ob) : Prop where
  hv : Hv p D H
  sl : Paired (SlOk W p D H) σ env
def RR (H0 H : Hp) (fl : Fl) (v : V) (d : Dt Ob) : Prop := match fl, d with
  | .cl, d => R0 W p (hide D H) v d
  | .raw, .lst ds => ∃ a us, v = .ref a ∧ p ≠ some a ∧ H a = some (.lst us) ∧ RA W p (hide D H) us ds
  | .raw, .dic es => ∃ a us, v = .ref a ∧ p ≠ some a ∧ H a = some (.dK us) ∧ RK W p (hide D H) us es
  | .fr, .lst ds => ∃ a us, v = .ref a ∧ H0 a = none ∧ H a = some (.lst us) ∧ RA W p (hide (fun b => D b ∨ b = a) H) us ds
  | .fr, .dic es => ∃ a us, v = .ref a ∧ H0 a = none ∧ H a = some (.dK us) ∧ RK W p (hide (fun b => D b ∨ b = a) H) us es
  | _, _ => False
/-- a value that is read -/
inductive RV : V → Dt Ob → Prop
  | cl {v : V} {d : Dt Ob} : R0 W p (hide D H) v d → RV v d
  | rl {a : Addr} {us : List V} {ds : List (Dt Ob)} : H a = some (.lst us) → RA W p (hide D H) us ds → RV (.ref a) (.lst ds)
  | rd {a : Addr} {us : List (Key × V)} {ds : List (Key × Dt Ob)} : H a = some (.dK us) → RK W p (hide D H) us ds → RV (.ref a) (.dic ds)
end
section
variable {Ob : Type} {W : Wd Ob} {p : Option Addr} {D : Addr → Prop} {H H' H0 H1 H2 : Hp} {v : V} {d : Dt Ob} {ds : List (Dt Ob)} {es : List (Key × Dt Ob)} {fl : Fl} {σ : L2.St} {env : PEnv Ob}
theorem pr_get {α β : Type} {F : α → β → Prop} : ∀ {xs : List α} {ys : List β} {i : Nat} {y : β}, Paired F xs ys → ys[i]? = some y → ∃ x, xs[i]? = some x ∧ F x y
  | _, _, _, _, .nil, e => by simp at e
  | _, _, 0, _, .cons r _, e => by simp at e; subst e; exact ⟨_, rfl, r⟩
  | _, _, i + 1, d, .cons _ t, e => by
    obtain ⟨u, h1, h2⟩ := pr_get (i := i) (y := d) t (by simpa using e)
    exact ⟨u, by simpa using h1, h2⟩
theorem pr_set {α β : Type} {F : α → β → Prop} {x : α} {y : β} (r : F x y) : ∀ {xs : List α} {ys : List β} (i : Nat), Paired F xs ys → Paired F (xs.set i x) (ys.set i y)
  | _, _, _, .nil => .nil
  | _, _, 0, .cons _ t => .cons r t
  | _, _, i + 1, .cons q t => .cons q (pr_set r i t)
theorem pr_map {α β : Type} {F G : α → β → Prop} (h : ∀ x y, F x y → G x y) : ∀ {xs : List α} {ys : List β}, Paired F xs ys → Paired G xs ys
  | _, _, .nil => .nil
  | _, _, .cons r t => .cons (h _ _ r) (pr_map h t)
theorem pr_len {α β : Type} {F : α → β → Prop} : ∀ {xs : List α} {ys : List β}, Paired F xs ys → xs.length = ys.length
  | _, _, .nil => rfl
  | _, _, .cons _ t => by rw [List.length_cons, List.length_cons, pr_len t]
mutual
theorem RM.mono {D' : Addr → Prop} (s : Same (hide D H) (hide D' H')) : ∀ {f : Bool} {O : List Addr} {v : V} {d : Dt Ob}, RM W p D H f O v d → (∀ a ∈ O, ∀ u, H a = some u → H' a = some u) → RM W p D' H' f O v d
  | _, _, _, _, .cl c r, _ => .cl c (r.mono s)
  | _, _, _, _, .lst h r n, k => .lst (k _ List.mem_cons_self _ h) (RMs.mono s r fun a m => k a (List.mem_cons_of_mem _ m)) n
  | _, _, _, _, .tup h r, k => .tup (s _ _ h) (RMs.mono s r k)
theorem RMs.mono {D' : Addr → Prop} (s : Same (hide D H) (hide D' H')) : ∀ {f : Bool} {O : List Addr} {vs : List V} {ds : List (Dt Ob)}, RMs W p D H f O vs ds → (∀ a ∈ O, ∀ u, H a = some u → H' a = some u) → RMs W p D' H' f O vs ds
  | _, _, _, _, .nil, _ => .nil
  | _, _, _, _, .cons r t n, k => .cons (RM.mono s r fun a m => k a (List.mem_append_left _ m)) (RMs.mono s t fun a m => k a (List.mem_append_right _ m)) n
end
mutual
/-- where its lists are seen it is a clean tree -/
theorem RM.clean {D' : Addr → Prop} (s : Same (hide D H) (hide D' H)) : ∀ {f : Bool} {O : List Addr} {v : V} {d : Dt Ob}, RM W p D H f O v d → (∀ a ∈ O, ¬ D' a) → R0 W p (hide D' H) v d
  | _, _, _, _, .cl _ r, _ => r.mono s
  | _, _, _, _, .lst h r n, k => .lst (by rw [hide_at (k _ List.mem_cons_self)]; exact h) (RMs.clean s r fun a m => k a (List.mem_cons_of_mem _ m))
  | _, _, _, _, .tup h r, k => .tup (s _ _ h) (RMs.clean s r k)
theorem RMs.clean {D' : Addr → Prop} (s : Same (hide D H) (hide D' H)) : ∀ {f : Bool} {O : List Addr} {vs : List V} {ds : List (Dt Ob)}, RMs W p D H f O vs ds → (∀ a ∈ O, ¬ D' a) → RA W p (hide D' H) vs ds
  | _, _, _, _, .nil, _ => .nil
  | _, _, _, _, .cons r t n, k => .cons (RM.clean s r fun a m => k a (List.mem_append_left _ m)) (RMs.clean s t fun a m => k a (List.mem_append_right _ m))
end
mutual
theorem RM.soft : ∀ {f : Bool} {O : List Addr} {v : V} {d : Dt Ob}, RM W p D H f O v d → ∀ a ∈ O, SoftAt H a
  | _, _, _, _, .cl _ _, a, m => by cases m
  | _, _, _, _, .lst h r n, a, m => by
    rcases List.mem_cons.mp m with rfl | m
    · exact .lst h
    · exact RMs.soft r a m
  | _, _, _, _, .tup _ r, a, m => RMs.soft r a m
theorem RMs.soft : ∀ {f : Bool} {O : List Addr} {vs : List V} {ds : List (Dt Ob)}, RMs W p D H f O vs ds → ∀ a ∈ O, SoftAt H a
  | _, _, _, _, .nil, a, m => by cases m
  | _, _, _, _, .cons r t n, a, m => by
    rcases List.mem_append.mp m with m | m
    · exact RM.soft r a m
    · exact RMs.soft t a m
end
theorem RMs.length : ∀ {f : Bool} {O : List Addr} {vs : List V} {ds : List (Dt Ob)}, RMs W p D H f O vs ds → vs.length = ds.length
  | _, _, _, _, .nil => rfl
  | _, _, _, _, .cons _ t _ => by rw [List.length_cons, List.length_cons, RMs.length t]
theorem RMs.of : ∀ {vs : List V} {ds : List (Dt Ob)}, RA W p (hide D H) vs ds → RMs W p D H false [] vs ds
  | _, _, .nil => .nil
  | _, _, .cons r t => .cons (O := []) (O' := []) (.cl (fun z => Bool.noConfusion z) r) (RMs.of t) (fun _ m => by cases m)
mutual
theorem RM.less : ∀ {f : Bool} {O : List Addr} {v : V} {d : Dt Ob}, RM W p D H f O v d → RM W p D H false O v d
  | _, _, _, _, .cl _ r => .cl (fun z => Bool.noConfusion z) r
  | _, _, _, _, .lst h r n => .lst h (RMs.less r) n
  | _, _, _, _, .tup h r => .tup h (RMs.less r)
theorem RMs.less : ∀ {f : Bool} {O : List Addr} {vs : List V} {ds : List (Dt Ob)}, RMs W p D H f O vs ds → RMs W p D H false O vs ds
  | _, _, _, _, .nil => .nil
  | _, _, _, _, .cons r t n => .cons (RM.less r) (RMs.less t) n
end
theorem SlOk.grow {s : Option V} {x : PV Ob} (h : SlOk W p D H s x) (hv : Hv p D H) (g : Grow p H H') : SlOk W p D H' s x := by
  cases x with
  | no => trivial
  | sh d => obtain ⟨v, e, r⟩ := h; exact ⟨v, e, r.mono (g.hide hv)⟩
  | own ds => obtain ⟨a, us, e, da, pa, ha, r⟩ := h; exact ⟨a, us, e, da, pa, g.keep _ _ pa ha, r.mono (g.hide hv)⟩
  | ownD ds => obtain ⟨a, us, e, da, pa, ha, r⟩ := h; exact ⟨a, us, e, da, pa, g.keep _ _ pa ha, r.mono (g.hide hv)⟩
  | deep O f d => obtain ⟨v, O1, e, r, i, o⟩ := h; exact ⟨v, O1, e, r.mono (g.hide hv) fun a m u q => g.keep a u (o a (i a m)).2 q, i, o⟩
theorem StE.grow (s : StE W p D H σ env) (g : Grow p H H') : StE W p D H' σ env := ⟨s.hv.grow g, pr_map (fun _ _ h => SlOk.grow h s.hv g) s.sl⟩
theorem Hv.more {a : Addr} (h : Hv p D H) (g : Grow p H0 H) (h0 : Hv p D H0) : Same (hide (fun b => D b ∨ b = a) H0) (hide (fun b => D b ∨ b = a) H) := hide_keep fun b u n e => g.keep b u (fun z => n (.inl (h0.src b z).1)) e
theorem RR.grow (h : RR W p D H0 H fl v d) (h0 : Hv p D H0) (hv : Hv p D H) (g : Grow p H H') : RR W p D H0 H' fl v d := by
  unfold RR at h ⊢
  cases fl with
  | cl => exact R0.mono (g.hide hv) h
  | raw => cases d with
    | lst ds => obtain ⟨a, us, e, pa, ha, r⟩ := h; exact ⟨a, us, e, pa, g.keep _ _ pa ha, r.mono (g.hide hv)⟩
    | dic ds => obtain ⟨a, us, e, pa, ha, r⟩ := h; exact ⟨a, us, e, pa, g.keep _ _ pa ha, r.mono (g.hide hv)⟩
    | _ => exact h.elim
  | fr => cases d with
    | lst ds => obtain ⟨a, us, e, na, ha, r⟩ := h; exact ⟨a, us, e, na, g.keep _ _ (h0.np na) ha, r.mono (Hv.more (hv.grow g) g hv)⟩
    | dic ds => obtain ⟨a, us, e, na, ha, r⟩ := h; exact ⟨a, us, e, na, g.keep _ _ (h0.np na) ha, r.mono (Hv.more (hv.grow g) g hv)⟩
    | _ => exact h.elim
theorem Grow.back {a : Addr} (g : Grow p H0 H1) (h : H1 a = none) : H0 a = none := by
  cases e : H0 a with
  | none => rfl
  | some u =>
    by_cases q : p = some a
    · obtain ⟨r, m, h1, _⟩ := g.src a q
      rw [h1] at h; cases h
    · rw [g.keep a u q e] at h; cases h
theorem RR.back (h : RR W p D H1 H fl v d) (g : Grow p H0 H1) : RR W p D H0 H fl v d := by
  unfold RR at h ⊢
  cases fl with
  | cl => exact h
  | raw => cases d <;> exact h
  | fr => cases d with
    | lst ds => obtain ⟨a, us, e, na, ha, r⟩ := h; exact ⟨a, us, e, g.back na, ha, r⟩
    | dic ds => obtain ⟨a, us, e, na, ha, r⟩ := h; exact ⟨a, us, e, g.back na, ha, r⟩
    | _ => exact h.elim
theorem RR.clean (h : RR W p D H0 H fl v d) (h0 : Hv p D H0) (n : fl ≠ .raw) : R0 W p (hide D H) v d := by
  unfold RR at h
  cases fl with
  | cl => exact h
  | raw => exact absurd rfl n
  | fr => cases d with
    | lst ds =>
      obtain ⟨a, us, rfl, na, ha, r⟩ := h
      exact .lst (by rw [hide_at (h0.nd na)]; exact ha) (r.mono (hide_mono fun b z => .inl z))
    | dic ds =>
      obtain ⟨a, us, rfl, na, ha, r⟩ := h
      exact .dic (.inl (by rw [hide_at (h0.nd na)]; exact ha)) (r.mono (hide_mono fun b z => .inl z))
    | _ => exact h.elim
theorem RR.rv (h : RR W p D H0 H fl v d) (h0 : Hv p D H0) : RV W p D H v d := by
  by_cases n : fl = .raw
  · subst n
    unfold RR at h
    cases d with
    | lst ds => obtain ⟨a, us, rfl, pa, ha, r⟩ := h; exact .rl ha r
    | dic ds => obtain ⟨a, us, rfl, pa, ha, r⟩ := h; exact .rd ha r
    | _ => exact h.elim
  · exact .cl (h.clean h0 n)
theorem RV.grow_cl (h : R0 W p (hide D H) v d) (hv : Hv p D H) (g : Grow p H H') : R0 W p (hide D H') v d := h.mono (g.hide hv)
/-! ### what is read off a value -/
theorem RV.non (h : RV W p D H v (.non : Dt Ob)) : v = .non := by cases h with | cl h => cases h; rfl
theorem RV.bl {b : Bool} (h : RV W p D H v (.bl b : Dt Ob)) : v = .bl b := by cases h with | cl h => cases h; rfl
theorem RV.int {i : Int} (h : RV W p D H v (.int i : Dt Ob)) : v = .int i := by cases h with | cl h => cases h; rfl
theorem RV.str {x : Str} (h : RV W p D H v (.str x : Dt Ob)) : v = .str x := by cases h with | cl h => cases h; rfl
theorem RV.lst (h : RV W p D H v (.lst ds)) : ∃ a us, v = .ref a ∧ H a = some (.lst us) ∧ RA W p (hide D H) us ds := by
  cases h with
  | cl h => cases h with | lst e r => exact ⟨_, _, rfl, (hide_some e).2, r⟩
  | rl e r => exact ⟨_, _, rfl, e, r⟩
theorem RV.tup (h : RV W p D H v (.tup ds)) : ∃ a us, v = .ref a ∧ SqT W.K H a us ∧ RA W p (hide D H) us ds := by
  cases h with
  | cl h => cases h with | tup e r => exact ⟨_, _, rfl, SqT.of (hide_some e).2, r⟩
theorem RV.dic (h : RV W p D H v (.dic es)) : ∃ a us, v = .ref a ∧ Rd H a (.dK us) ∧ RK W p (hide D H) us es := by
  cases h with
  | cl h => cases h with | dic e r => exact ⟨_, _, rfl, (e.mono hide_same).rd, r⟩
  | rd e r => exact ⟨_, _, rfl, .inl e, r⟩
theorem RV.ob {x : Ob} (h : RV W p D H v (.ob x)) : W.rep (thaw W.fz (hide D H)) v x := by
  cases h with
  | cl h => cases h with | ob r => exact r
theorem RV.src (h : RV W p D H v (.src : Dt Ob)) : ∃ a, p = some a ∧ v = .ref a := by
  cases h with
  | cl h => cases h with | src r => exact ⟨_, r, rfl⟩
/-- the value of a flat tree -/
def Dt.fv : Dt Ob → Option V
  | .non => some .non
  | .bl b => some (.bl b)
  | .int i => some (.int i)
  | .str x => some (.str x)
  | _ => none
theorem RV.fv {w : V} (h : RV W p D H v d) (e : d.fv = some w) : v = w := by
  cases d with
  | non => rw [h.non]; exact Option.some.inj e
  | bl b => rw [h.bl]; exact Option.some.inj e
  | int b => rw [h.int]; exact Option.some.inj e
  | str b => rw [h.str]; exact Option.some.inj e
  | _ => cases e
theorem R0.of_fv {w : V} (e : d.fv = some w) : R0 W p H w d := by
  cases d with
  | non => cases e; exact .non
  | bl b => cases e; exact .bl b
  | int b => cases e; exact .int b
  | str b => cases e; exact .str b
  | _ => cases e
/-! ### readings over trees, and what makes them right -/
abbrev PTE (Ob : Type) := PEnv Ob → PQ Ob → Prop
abbrev PTT (Ob : Type) := PEnv Ob → (Bool → Prop) → Prop
abbrev PTA (Ob : Type) := PEnv Ob → (List (Fl × Dt Ob) → Prop) → Prop
abbrev RRs (W : Wd Ob) (p : Option Addr) (D : Addr → Prop) (H0 H : Hp) : List V → List (Fl × Dt Ob) → Prop := Paired fun v x => RR W p D H0 H x.1 v x.2
def SndE (W : Wd Ob) (pe : PTE Ob) (te : TE) : Prop := ∀ (p : Option Addr) (D : Addr → Prop) (σ : L2.St) (H : Hp) (env : PEnv Ob) (Qp : PQ Ob) (Q : VK), StE W p D H σ env → pe env Qp →
  (∀ fl d v H', Qp fl d → Grow p H H' → RR W p D H H' fl v d → Q v H') → te σ H Q
def SndT (W : Wd Ob) (pt : PTT Ob) (tt : TT) : Prop := ∀ (p : Option Addr) (D : Addr → Prop) (σ : L2.St) (H : Hp) (env : PEnv Ob) (Qp : Bool → Prop) (Q : Bool → Hp → Prop), StE W p D H σ env → pt env Qp →
  (∀ b H', Qp b → Grow p H H' → Q b H') → tt σ H Q
def SndA (W : Wd Ob) (pa : PTA Ob) (ta : TA) : Prop := ∀ (p : Option Addr) (D : Addr → Prop) (σ : L2.St) (H : Hp) (env : PEnv Ob) (Qp : List (Fl × Dt Ob) → Prop) (Q : List V → Hp → Prop), StE W p D H σ env → pa env Qp →
  (∀ xs vs H', Qp xs → Grow p H H' → RRs W p D H H' vs xs → Q vs H') → ta σ H Q
/-- an operator -/
def SndR (W : Wd Ob) (po : Dt Ob → Dt Ob → PQ Ob → Prop) (r : R2) : Prop := ∀ (p : Option Addr) (D : Addr → Prop) (H : Hp) (x y : V) (dx dy : Dt Ob) (Qp : PQ Ob) (Q : VK), Hv p D H → RV W p D H x dx → RV W p D H y dy → po dx dy Qp →
  (∀ fl d v H', Qp fl d → Grow p H H' → RR W p D H H' fl v d → Q v H') → r x y H Q
/-- a built-in with its arguments -/
def SndB (W : Wd Ob) (pr : List (Dt Ob) → PQ Ob → Prop) (r : List V → Hp → VK → Prop) : Prop := ∀ (p : Option Addr) (D : Addr → Prop) (H : Hp) (vs : List V) (ds : List (Dt Ob)) (Qp : PQ Ob) (Q : VK), Hv p D H → Paired (RV W p D H) vs ds → pr ds Qp →
  (∀ fl d v H', Qp fl d → Grow p H H' → RR W p D H H' fl v d → Q v H') → r vs H Q
def pVar (i : Nat) (env : PEnv Ob) (Q : PQ Ob) : Prop := match env[i]? with
  | some (.sh d) => Q .cl d
  | some (.own ds) => Q .raw (.lst ds)
  | some (.ownD es) => Q .raw (.dic es)
  | _ => False
def pC (d : Dt Ob) (_ : PEnv Ob) (Q : PQ Ob) : Prop := Q .cl d
def pOp (po : Dt Ob → Dt Ob → PQ Ob → Prop) (pa pb : PTE Ob) (env : PEnv Ob) (Q : PQ Ob) : Prop := pa env fun _ x => pb env fun _ y => po x y Q
def pNil (_ : PEnv Ob) (Q : List (Fl × Dt Ob) → Prop) : Prop := Q []
def pCons (pe : PTE Ob) (pa : PTA Ob) (env : PEnv Ob) (Q : List (Fl × Dt Ob) → Prop) : Prop := pe env fun f d => pa env fun xs => Q ((f, d) :: xs)
def okArgs : List (Fl × Dt Ob) → Prop
  | [] => True
  | x :: r => x.1 ≠ .raw ∧ okArgs r
def pTup (pa : PTA Ob) (env : PEnv Ob) (Q : PQ Ob) : Prop := pa env fun xs => okArgs xs ∧ xs.length ≤ 1000 ∧ Q .cl (.tup (xs.map (·.2)))
def pLst (pa : PTA Ob) (env : PEnv Ob) (Q : PQ Ob) : Prop := pa env fun xs => okArgs xs ∧ xs.length ≤ 1000 ∧ Q .fr (.lst (xs.map (·.2)))
def pCB (pr : List (Dt Ob) → PQ Ob → Prop) (pa : PTA Ob) (env : PEnv Ob) (Q : PQ Ob) : Prop := pa env fun xs => pr (xs.map (·.2)) Q
def pTest (pe : PTE Ob) (env : PEnv Ob) (Q : Bool → Prop) : Prop := pe env fun _ d => ∃ b, d = .bl b ∧ Q b
def pNot (pt : PTT Ob) (env : PEnv Ob) (Q : Bool → Prop) : Prop := pt env fun b => Q (!b)
def pAnd (pt pu : PTT Ob) (env : PEnv Ob) (Q : Bool → Prop) : Prop := pt env fun b => if b = true then pu env Q else Q false
def pOr (pt pu : PTT Ob) (env : PEnv Ob) (Q : Bool → Prop) : Prop := pt env fun b => if b = true then Q true else pu env Q
def pYes (_ : PEnv Ob) (Q : Bool → Prop) : Prop := Q true
def pIf (pt : PTT Ob) (pa pb : PTE Ob) (env : PEnv Ob) (Q : PQ Ob) : Prop := pt env fun b => if b = true then pa env Q else pb env Q
def pAndV (pa pb : PTE Ob) (env : PEnv Ob) (Q : PQ Ob) : Prop := pa env fun _ x => ∃ b, x = .bl b ∧ if b = true then pb env Q else Q .cl (.bl false)
def pOrV (pa pb : PTE Ob) (env : PEnv Ob) (Q : PQ Ob) : Prop := pa env fun _ x => ∃ b, x = .bl b ∧ if b = true then Q .cl (.bl true) else pb env Q
def pNotV (pa : PTE Ob) (env : PEnv Ob) (Q : PQ Ob) : Prop := pa env fun _ x => ∃ b, x = .bl b ∧ Q .cl (.bl (!b))
variable {pe pa pb : PTE Ob} {te ta tb : TE} {pt pu : PTT Ob} {tt tu : TT} {px : PTA Ob} {tx : TA} {po : Dt Ob → Dt Ob → PQ Ob → Prop} {r : R2} {i : Nat}
theorem StE.get (s : StE W p D H σ env) {x : PV Ob} (e : env[i]? = some x) : ∃ y, σ[i]? = some y ∧ SlOk W p D H y x := pr_get s.sl e
theorem snd_var : SndE W (pVar i) (tVar i) := by
  intro p D σ H env Qp Q st h k
  unfold pVar at h
  cases e : env[i]? with
  | none => rw [e] at h; exact h.elim
  | some x =>
    rw [e] at h
    obtain ⟨y, ey, sl⟩ := st.get e
    cases x with
    | no => exact h.elim
    | sh d =>
      obtain ⟨v, rfl, r⟩ := sl
      exact ⟨v, ey, k .cl d v H h (Grow.refl st.hv) r⟩
    | own ds =>
      obtain ⟨a, us, rfl, da, na, ha, r⟩ := sl
      exact ⟨_, ey, k .raw _ _ H h (Grow.refl st.hv) ⟨a, us, rfl, na, ha, r⟩⟩
    | ownD ds =>
      obtain ⟨a, us, rfl, da, na, ha, r⟩ := sl
      exact ⟨_, ey, k .raw _ _ H h (Grow.refl st.hv) ⟨a, us, rfl, na, ha, r⟩⟩
    | deep O f d => exact h.elim
theorem snd_cint {z : Int} : SndE W (pC (.int z)) (tC (.int z)) := fun _ _ _ H _ _ _ st h k => k _ _ _ H h (Grow.refl st.hv) (.int z)
theorem snd_cstr {z : Str} : SndE W (pC (.str z)) (tC (.str z)) := fun _ _ _ H _ _ _ st h k => k _ _ _ H h (Grow.refl st.hv) (.str z)
theorem snd_cbl {z : Bool} : SndE W (pC (.bl z)) (tC (.bl z)) := fun _ _ _ H _ _ _ st h k => k _ _ _ H h (Grow.refl st.hv) (.bl z)
theorem snd_cnon : SndE W (pC .non) (tC .non) := fun _ _ _ H _ _ _ st h k => k _ _ _ H h (Grow.refl st.hv) .non
theorem RR.rvg (h : RR W p D H0 H fl v d) (h0 : Hv p D H0) (hv : Hv p D H) (g : Grow p H H') : RV W p D H' v d := (h.grow h0 hv g).rv h0
theorem snd_op (ha : SndE W pa ta) (hb : SndE W pb tb) (hr : SndR W po r) : SndE W (pOp po pa pb) (tOp r ta tb) := by
  intro p D σ H env Qp Q st h k
  refine ha p D σ H env _ _ st h fun f1 d1 v1 H1 h1 g1 r1 => ?_
  have st1 := st.grow g1
  refine hb p D σ H1 env _ _ st1 h1 fun f2 d2 v2 H2 h2 g2 r2 => ?_
  have st2 := st1.grow g2
  refine hr p D H2 v1 v2 d1 d2 Qp Q st2.hv (r1.rvg st.hv st1.hv g2) (r2.rv st1.hv) h2 fun f3 d3 v3 H3 h3 g3 r3 => ?_
  exact k _ _ _ _ h3 (g1.trans (g2.trans g3)) (r3.back (g1.trans g2))
theorem snd_nil : SndA W pNil tNil := fun _ _ _ H _ _ _ st h k => k _ _ H h (Grow.refl st.hv) .nil
theorem snd_cons (ha : SndE W pe te) (hx : SndA W px tx) : SndA W (pCons pe px) (tCons te tx) := by
  intro p D σ H env Qp Q st h k
  refine ha p D σ H env _ _ st h fun f1 d1 v1 H1 h1 g1 r1 => ?_
  have st1 := st.grow g1
  refine hx p D σ H1 env _ _ st1 h1 fun xs vs H2 h2 g2 r2 => ?_
  exact k _ _ _ h2 (g1.trans g2) (.cons (r1.grow st.hv st1.hv g2) (pr_map (fun _ _ z => RR.back z g1) r2))
theorem RRs.clean (h0 : Hv p D H0) : ∀ {vs : List V} {xs : List (Fl × Dt Ob)}, RRs W p D H0 H vs xs → okArgs xs → RA W p (hide D H) vs (xs.map (·.2))
  | _, _, .nil, _ => .nil
  | _, _, .cons r t, h => .cons (RR.clean r h0 h.1) (RRs.clean h0 t h.2)
theorem RRs.rv (h0 : Hv p D H0) : ∀ {vs : List V} {xs : List (Fl × Dt Ob)}, RRs W p D H0 H vs xs → Paired (RV W p D H) vs (xs.map (·.2))
  | _, _, .nil => .nil
  | _, _, .cons r t => .cons (RR.rv r h0) (RRs.rv h0 t)
theorem line1000 : (1000 : Nat) ≤ sizeLine := by decide
theorem snd_tup (hx : SndA W px tx) : SndE W (pTup px) (tTup tx) := by
  intro p D σ H env Qp Q st h k
  refine hx p D σ H env _ _ st h fun xs vs H1 ⟨h1, h2, h3⟩ g1 r1 => ?_
  have hv1 := st.hv.grow g1
  have cl := RRs.clean st.hv r1 h1
  have l := pr_len r1
  refine ⟨by rw [l]; exact Nat.le_trans h2 line1000, fun a ha => ?_⟩
  have g2 : Grow p H1 (upd H1 a (.tup vs)) := Grow.new hv1 ha
  refine k _ _ _ _ h3 (g1.trans g2) (.tup (hide_new hv1 ha) (cl.mono (g2.hide hv1)))
theorem snd_lst (hx : SndA W px tx) : SndE W (pLst px) (tLst tx) := by
  intro p D σ H env Qp Q st h k
  refine hx p D σ H env _ _ st h fun xs vs H1 ⟨h1, h2, h3⟩ g1 r1 => ?_
  have hv1 := st.hv.grow g1
  have cl := RRs.clean st.hv r1 h1
  have l := pr_len r1
  refine ⟨by rw [l]; exact Nat.le_trans h2 line1000, fun a ha => ?_⟩
  have g2 : Grow p H1 (upd H1 a (.lst vs)) := Grow.new hv1 ha
  refine k _ _ _ _ h3 (g1.trans g2) ⟨a, vs, rfl, g1.back ha, upd_same, ?_⟩
  rw [← hide_or_none (D := D) ha] at cl
  rw [hide_upd_in (Or.inr rfl)]
  exact cl
theorem snd_cb {pr : List (Dt Ob) → PQ Ob → Prop} {rb : List V → Hp → VK → Prop} (hr : SndB W pr rb) (hx : SndA W px tx) : SndE W (pCB pr px) (tCB rb tx) := by
  intro p D σ H env Qp Q st h k
  refine hx p D σ H env _ _ st h fun xs vs H1 h1 g1 r1 => ?_
  have hv1 := st.hv.grow g1
  exact hr p D H1 vs _ Qp Q hv1 (RRs.rv st.hv r1) h1 fun f d v H2 h2 g2 r2 => k _ _ _ _ h2 (g1.trans g2) (r2.back g1)
theorem snd_test (h : SndE W pe te) : SndT W (pTest pe) (tTest te) := by
  intro p D σ H env Qp Q st h1 k
  refine h p D σ H env _ _ st h1 fun f d v H1 ⟨b, e, q⟩ g1 r1 => ?_
  subst e
  exact ⟨b, (r1.rv st.hv).bl, k b H1 q g1⟩
theorem snd_tB (h : SndE W pe te) : SndT W (pTest pe) (tB te) := by
  intro p D σ H env Qp Q st h1 k
  refine h p D σ H env _ _ st h1 fun f d v H1 ⟨b, e, q⟩ g1 r1 => ?_
  subst e
  exact ⟨b, (r1.rv st.hv).bl, k b H1 q g1⟩
theorem snd_not (h : SndT W pt tt) : SndT W (pNot pt) (tNot tt) := by
  intro p D σ H env Qp Q st h1 k
  exact h p D σ H env _ _ st h1 fun b H1 q g1 => k _ _ q g1
theorem snd_yes : SndT W pYes tYes := fun _ _ _ H _ _ _ st h k => k _ H h (Grow.refl st.hv)
theorem snd_and (h : SndT W pt tt) (h' : SndT W pu tu) : SndT W (pAnd pt pu) (tAnd tt tu) := by
  intro p D σ H env Qp Q st h1 k
  refine h p D σ H env _ _ st h1 fun b H1 q g1 => ?_
  cases b with
  | true =>
    rw [if_pos rfl] at q ⊢
    exact h' p D σ H1 env _ _ (st.grow g1) q fun b H2 q2 g2 => k _ _ q2 (g1.trans g2)
  | false =>
    rw [if_neg (by decide)] at q ⊢
    exact k _ _ q g1
theorem snd_or (h : SndT W pt tt) (h' : SndT W pu tu) : SndT W (pOr pt pu) (tOr tt tu) := by
  intro p D σ H env Qp Q st h1 k
  refine h p D σ H env _ _ st h1 fun b H1 q g1 => ?_
  cases b with
  | false =>
    rw [if_neg (by decide)] at q ⊢
    exact h' p D σ H1 env _ _ (st.grow g1) q fun b H2 q2 g2 => k _ _ q2 (g1.trans g2)
  | true =>
    rw [if_pos rfl] at q ⊢
    exact k _ _ q g1
theorem SndE.after (h : SndE W pe te) {σ : L2.St} {Qp : PQ Ob} {Q : VK} (st : StE W p D H σ env) (g1 : Grow p H H1) (h1 : pe env Qp)
    (k : ∀ fl d v H', Qp fl d → Grow p H H' → RR W p D H H' fl v d → Q v H') : te σ H1 Q :=
  h p D σ H1 env _ _ (st.grow g1) h1 fun _ _ _ _ q g2 r => k _ _ _ _ q (g1.trans g2) (r.back g1)
theorem snd_if (h : SndT W pt tt) (ha : SndE W pa ta) (hb : SndE W pb tb) : SndE W (pIf pt pa pb) (tIf tt ta tb) := by
  intro p D σ H env Qp Q st h1 k
  refine h p D σ H env _ _ st h1 fun b H1 q g1 => ?_
  cases b with
  | true =>
    rw [if_pos rfl] at q ⊢
    exact ha.after st g1 q k
  | false =>
    rw [if_neg (by decide)] at q ⊢
    exact hb.after st g1 q k
theorem snd_andV (ha : SndE W pa ta) (hb : SndE W pb tb) : SndE W (pAndV pa pb) (tAndV ta tb) := by
  intro p D σ H env Qp Q st h1 k
  refine ha p D σ H env _ _ st h1 fun f d v H1 ⟨b, e, q⟩ g1 r1 => ?_
  subst e
  refine ⟨b, (r1.rv st.hv).bl, ?_⟩
  cases b with
  | true =>
    rw [if_pos rfl] at q ⊢
    exact hb.after st g1 q k
  | false =>
    rw [if_neg (by decide)] at q ⊢
    exact k _ _ _ _ q g1 (.bl false)
theorem snd_orV (ha : SndE W pa ta) (hb : SndE W pb tb) : SndE W (pOrV pa pb) (tOrV ta tb) := by
  intro p D σ H env Qp Q st h1 k
  refine ha p D σ H env _ _ st h1 fun f d v H1 ⟨b, e, q⟩ g1 r1 => ?_
  subst e
  refine ⟨b, (r1.rv st.hv).bl, ?_⟩
  cases b with
  | false =>
    rw [if_neg (by decide)] at q ⊢
    exact hb.after st g1 q k
  | true =>
    rw [if_pos rfl] at q ⊢
    exact k _ _ _ _ q g1 (.bl true)
theorem snd_notV (ha : SndE W pa ta) : SndE W (pNotV pa) (tNotV ta) := by
  intro p D σ H env Qp Q st h1 k
  refine ha p D σ H env _ _ st h1 fun f d v H1 ⟨b, e, q⟩ g1 r1 => ?_
  subst e
  exact ⟨b, (r1.rv st.hv).bl, k _ _ _ _ q g1 (.bl _)⟩
end
end Pu
/-! ### operators and built-ins over trees -/
namespace Pu
open PySem PySem.W PySem.Spec PyProof.Rows L2 Gk
section
variable {Ob : Type}
def poI (f : Int → Int → Int) (x y : Dt Ob) (Q : PQ Ob) : Prop := ∃ i j, x = .int i ∧ y = .int j ∧ Q .cl (.int (f i j))
def poIC (C : Int → Int → Prop) (f : Int → Int → Int) (x y : Dt Ob) (Q : PQ Ob) : Prop := ∃ i j, x = .int i ∧ y = .int j ∧ C i j ∧ Q .cl (.int (f i j))
def poB (f : Int → Int → Bool) (x y : Dt Ob) (Q : PQ Ob) : Prop := ∃ i j, x = .int i ∧ y = .int j ∧ Q .cl (.bl (f i j))
def poEq (neg : Bool) (x y : Dt Ob) (Q : PQ Ob) : Prop := ∃ a b, x.fv = some a ∧ y.fv = some b ∧ scal a b = true ∧ Q .cl (.bl (if neg then !decide (a = b) else decide (a = b)))
def Dt.isN : Dt Ob → Bool
  | .non => true
  | _ => false
def poIsN (neg : Bool) (x y : Dt Ob) (Q : PQ Ob) : Prop := y = .non ∧ Q .cl (.bl (if neg then !x.isN else x.isN))
/-- the items of a list or tuple -/
def Dt.seq : Dt Ob → Option (List (Dt Ob))
  | .lst ds => some ds
  | .tup ds => some ds
  | _ => none
def flats : List (Dt Ob) → Option (List V)
  | [] => some []
  | d :: r => match d.fv, flats r with
    | some v, some vs => some (v :: vs)
    | _, _ => none
def poIn (neg : Bool) (x y : Dt Ob) (Q : PQ Ob) : Prop := ∃ ds a vs, y.seq = some ds ∧ x.fv = some a ∧ flats ds = some vs ∧ Q .cl (.bl (if neg then !inV a vs else inV a vs))
def poIx (x y : Dt Ob) (Q : PQ Ob) : Prop := ∃ ds i d, x.seq = some ds ∧ y = .int i ∧ atI ds i = some d ∧ Q .cl d
def poIxS (x y : Dt Ob) (Q : PQ Ob) : Prop := ∃ z i c, x = .str z ∧ y = .int i ∧ z.length ≤ 1000 ∧ atI z.cps.toList i = some c ∧ Q .cl (.str ⟨#[c]⟩)
def poCat (x y : Dt Ob) (Q : PQ Ob) : Prop := ∃ xs ys, x = .lst xs ∧ y = .lst ys ∧ xs.length + ys.length ≤ 1000 ∧ Q .fr (.lst (xs ++ ys))
def poCatT (x y : Dt Ob) (Q : PQ Ob) : Prop := ∃ xs ys, x = .tup xs ∧ y = .tup ys ∧ xs.length + ys.length ≤ 1000 ∧ Q .cl (.tup (xs ++ ys))
def poCatS (x y : Dt Ob) (Q : PQ Ob) : Prop := ∃ a b, x = .str a ∧ y = .str b ∧ a.length + b.length ≤ 1000 ∧ Q .cl (.str (a ++ b))
def poRep (x y : Dt Ob) (Q : PQ Ob) : Prop := ∃ xs k, x = .lst xs ∧ y = .int k ∧ -(2 ^ 63) ≤ k ∧ k < 2 ^ 63 ∧ xs.length * k.toNat ≤ 1000 ∧ Q .fr (.lst (List.replicate k.toNat xs).flatten)
/-! data without dicts and objects, as the library has it -/
mutual
def toPy : Dt Ob → PyData
  | .non => .none
  | .bl b => .bool b
  | .int i => .int i
  | .str x => .str x
  | .lst ds => .list (toPyL ds)
  | .tup ds => .tuple (toPyL ds)
  | _ => .none
def toPyL : List (Dt Ob) → List PyData
  | [] => []
  | d :: r => toPy d :: toPyL r
end
mutual
def Dt.plain : Dt Ob → Bool
  | .non => true
  | .bl _ => true
  | .int _ => true
  | .str _ => true
  | .lst ds => plainL ds
  | .tup ds => plainL ds
  | _ => false
def plainL : List (Dt Ob) → Bool
  | [] => true
  | d :: r => d.plain && plainL r
end
def poEqD (neg : Bool) (x y : Dt Ob) (Q : PQ Ob) : Prop := x.plain = true ∧ y.plain = true ∧ SeqAt.shaped (toPy x) = true ∧ SeqAt.shaped (toPy y) = true ∧ Q .cl (.bl (if neg then !PyData.eqv (toPy x) (toPy y) else PyData.eqv (toPy x) (toPy y)))
/-! built-ins -/
def prLen (xs : List (Dt Ob)) (Q : PQ Ob) : Prop := ∃ d ds, xs = [d] ∧ d.seq = some ds ∧ Q .cl (.int ds.length)
def prLenD (xs : List (Dt Ob)) (Q : PQ Ob) : Prop := ∃ es, xs = [.dic es] ∧ Q .cl (.int es.length)
def prList (xs : List (Dt Ob)) (Q : PQ Ob) : Prop := ∃ d ds, xs = [d] ∧ d.seq = some ds ∧ Q .fr (.lst ds)
def prTuple (xs : List (Dt Ob)) (Q : PQ Ob) : Prop := ∃ d ds, xs = [d] ∧ d.seq = some ds ∧ Q .cl (.tup ds)
def kD' : Key → Dt Ob
  | .inl i => .int i
  | .inr x => .str x
def prListD (xs : List (Dt Ob)) (Q : PQ Ob) : Prop := ∃ es, xs = [.dic es] ∧ Q .fr (.lst (es.map fun kv => kD' kv.1))
def prMax2 (xs : List (Dt Ob)) (Q : PQ Ob) : Prop := ∃ i j, xs = [.int i, .int j] ∧ Q .cl (.int (if j > i then j else i))
def prMin2 (xs : List (Dt Ob)) (Q : PQ Ob) : Prop := ∃ i j, xs = [.int i, .int j] ∧ Q .cl (.int (if j < i then j else i))
def prInt1 (xs : List (Dt Ob)) (Q : PQ Ob) : Prop := (∃ i, xs = [.int i] ∧ Q .cl (.int i)) ∨ ∃ k, xs = [.bl k] ∧ Q .cl (.int (if k then 1 else 0))
def strsD : List Str → List (Dt Ob) := List.map .str
def intsD : List Int → List (Dt Ob) := List.map .int
def prSum (xs : List (Dt Ob)) (Q : PQ Ob) : Prop := ∃ ns, xs = [.lst (intsD ns)] ∧ Q .cl (.int ns.sum)
def prSortedS (xs : List (Dt Ob)) (Q : PQ Ob) : Prop := ∃ zs, xs = [.lst (strsD zs)] ∧ zs.length < 64 ∧ ∀ ys : List Str, ys.Perm zs → sortedS ys = true → Q .fr (.lst (strsD ys))
def prSortedTS (xs : List (Dt Ob)) (Q : PQ Ob) : Prop := ∃ zs, xs = [.tup (strsD zs)] ∧ zs.length < 64 ∧ ∀ ys : List Str, ys.Perm zs → sortedS ys = true → Q .fr (.lst (strsD ys))
def prSortedD (xs : List (Dt Ob)) (Q : PQ Ob) : Prop := ∃ es zs, xs = [.dic es] ∧ es.map (·.1) = zs.map Sum.inr ∧ zs.length < 64 ∧ ∀ ys : List Str, ys.Perm zs → sortedS ys = true → Q .fr (.lst (strsD ys))
end
section
variable {Ob : Type} {W : Wd Ob} {p : Option Addr} {D : Addr → Prop} {H H' H0 H1 H2 : Hp} {v : V} {d : Dt Ob} {ds : List (Dt Ob)} {us : List V} {es : List (Key × Dt Ob)} {fl : Fl} {σ : L2.St} {env : PEnv Ob}
theorem snd_rI {f : Int → Int → Int} : SndR W (poI f) (rI0 fun i j => .int (f i j)) := by
  intro p D H x y dx dy Qp Q hv hx hy h k
  obtain ⟨i, j, rfl, rfl, q⟩ := h
  exact ⟨i, j, hx.int, hy.int, k _ _ _ H q (Grow.refl hv) (.int _)⟩
theorem snd_rIC {C : Int → Int → Prop} {f : Int → Int → Int} : SndR W (poIC C f) (rI C fun i j => .int (f i j)) := by
  intro p D H x y dx dy Qp Q hv hx hy h k
  obtain ⟨i, j, rfl, rfl, c, q⟩ := h
  exact ⟨i, j, hx.int, hy.int, c, k _ _ _ H q (Grow.refl hv) (.int _)⟩
theorem snd_rB {f : Int → Int → Bool} : SndR W (poB f) (rI0 fun i j => .bl (f i j)) := by
  intro p D H x y dx dy Qp Q hv hx hy h k
  obtain ⟨i, j, rfl, rfl, q⟩ := h
  exact ⟨i, j, hx.int, hy.int, k _ _ _ H q (Grow.refl hv) (.bl _)⟩
theorem snd_rEq : SndR W (poEq false) rEq := by
  intro p D H x y dx dy Qp Q hv hx hy h k
  obtain ⟨a, b, ea, eb, s, q⟩ := h
  rw [hx.fv ea, hy.fv eb]
  exact ⟨s, k _ _ _ H q (Grow.refl hv) (.bl _)⟩
theorem snd_rNe : SndR W (poEq true) rNe := by
  intro p D H x y dx dy Qp Q hv hx hy h k
  obtain ⟨a, b, ea, eb, s, q⟩ := h
  rw [hx.fv ea, hy.fv eb]
  exact ⟨s, k _ _ _ H q (Grow.refl hv) (.bl _)⟩
theorem RV.isN (nd : ∀ x : Ob, d = .ob x → v ≠ .non) (h : RV W p D H v d) : decide (v = .non) = d.isN := by
  cases d with
  | non => rw [h.non]; rfl
  | bl b => rw [h.bl]; rfl
  | int b => rw [h.int]; rfl
  | str b => rw [h.str]; rfl
  | lst ds => obtain ⟨a, us, rfl, _⟩ := h.lst; rfl
  | tup ds => obtain ⟨a, us, rfl, _⟩ := h.tup; rfl
  | dic ds => obtain ⟨a, us, rfl, _⟩ := h.dic; rfl
  | src => obtain ⟨a, _, rfl⟩ := h.src; rfl
  | ob x => rw [decide_eq_false (nd x rfl)]; rfl
/-- objects are no None -/
class NoNon (W : Wd Ob) : Prop where
  nn : ∀ H v x, W.rep H v x → v ≠ .non
theorem RV.isN' [n : NoNon W] (h : RV W p D H v d) : decide (v = .non) = d.isN := h.isN fun x e => by
  subst e
  exact n.nn _ _ _ h.ob
theorem snd_rIsN [NoNon W] : SndR W (poIsN false) (fun x y H Q => y = .non ∧ Q (.bl (decide (x = .non))) H) := by
  intro p D H x y dx dy Qp Q hv hx hy h k
  obtain ⟨rfl, q⟩ := h
  refine ⟨hy.non, ?_⟩
  rw [hx.isN']
  exact k _ _ _ H q (Grow.refl hv) (.bl _)
theorem snd_rNotN [NoNon W] : SndR W (poIsN true) (fun x y H Q => y = .non ∧ Q (.bl (!decide (x = .non))) H) := by
  intro p D H x y dx dy Qp Q hv hx hy h k
  obtain ⟨rfl, q⟩ := h
  refine ⟨hy.non, ?_⟩
  rw [hx.isN']
  exact k _ _ _ H q (Grow.refl hv) (.bl _)
theorem RV.seq (h : RV W p D H v d) (e : d.seq = some ds) : ∃ a us, v = .ref a ∧ (SqL W.K H a us ∨ SqT W.K H a us) ∧ RA W p (hide D H) us ds ∧ (∀ z, d = .lst z → H a = some (.lst us)) := by
  cases d with
  | lst zs => obtain rfl := Option.some.inj e; obtain ⟨a, us, rfl, ha, r⟩ := h.lst; exact ⟨a, us, rfl, .inl (SqL.of ha), r, fun _ _ => ha⟩
  | tup zs => obtain rfl := Option.some.inj e; obtain ⟨a, us, rfl, ha, r⟩ := h.tup; exact ⟨a, us, rfl, .inr ha, r, fun _ z => by cases z⟩
  | _ => cases e
theorem RA.flats : ∀ {us : List V} {ds : List (Dt Ob)} {vs : List V}, RA W p H us ds → flats ds = some vs → us = vs
  | _, _, _, .nil, e => by cases e; rfl
  | _, _, vs, .cons (v := v) (d := d) (ds := r') r t, e => by
    unfold Pu.flats at e
    cases e1 : d.fv with
    | none => rw [e1] at e; cases e
    | some w =>
      cases e2 : Pu.flats r' with
      | none => rw [e1, e2] at e; cases e
      | some ws =>
        rw [e1, e2] at e
        obtain rfl := Option.some.inj e
        rw [RA.flats t e2]
        have : v = w := by
          cases d with
          | non => cases r; cases e1; rfl
          | bl b => cases r; cases e1; rfl
          | int b => cases r; cases e1; rfl
          | str b => cases r; cases e1; rfl
          | _ => cases e1
        rw [this]
theorem fv_flat {w : V} (e : d.fv = some w) : flatV w = true := by
  cases d with
  | non => cases e; rfl
  | bl b => cases e; rfl
  | int b => cases e; rfl
  | str b => cases e; rfl
  | _ => cases e
theorem flats_flat : ∀ {ds : List (Dt Ob)} {vs : List V}, flats ds = some vs → vs.all flatV = true
  | [], _, e => by cases e; rfl
  | d :: r, vs, e => by
    unfold flats at e
    cases e1 : d.fv with
    | none => rw [e1] at e; cases e
    | some w =>
      cases e2 : flats r with
      | none => rw [e1, e2] at e; cases e
      | some ws =>
        rw [e1, e2] at e
        obtain rfl := Option.some.inj e
        rw [List.all_cons, fv_flat e1, flats_flat e2]
        rfl
theorem snd_rIn {neg : Bool} : SndR W (poIn neg) (rIn W.K neg) := by
  intro p D H x y dx dy Qp Q hv hx hy h k
  obtain ⟨ds, a, vs, e1, e2, e3, q⟩ := h
  obtain ⟨b, us, rfl, hs, r, _⟩ := hy.seq e1
  obtain rfl := r.flats e3
  obtain rfl := hx.fv e2
  exact ⟨b, us, rfl, hs, fv_flat e2, flats_flat e3, k _ _ _ H q (Grow.refl hv) (.bl _)⟩
theorem RA.at {i : Int} (r : RA W p H us ds) (e : atI ds i = some d) : ∃ v, atI us i = some v ∧ R0 W p H v d := by
  unfold atI at e ⊢
  rw [r.length]
  cases h : ixN ds.length i with
  | none => rw [h] at e; cases e
  | some j =>
    rw [h] at e
    exact r.get e
def poIxL (x y : Dt Ob) (Q : PQ Ob) : Prop := ∃ ds i d, x = .lst ds ∧ y = .int i ∧ atI ds i = some d ∧ Q .cl d
def poIxT (x y : Dt Ob) (Q : PQ Ob) : Prop := ∃ ds i d, x = .tup ds ∧ y = .int i ∧ atI ds i = some d ∧ Q .cl d
theorem snd_rIxL : SndR W poIxL (rIxL W.K) := by
  intro p D H x y dx dy Qp Q hv hx hy h k
  obtain ⟨ds, i, d, rfl, rfl, e3, q⟩ := h
  obtain ⟨a, us, rfl, ha, r⟩ := hx.lst
  obtain ⟨v, ev, rv⟩ := r.at e3
  exact ⟨a, us, i, v, rfl, hy.int, SqL.of ha, ev, k _ _ _ H q (Grow.refl hv) rv⟩
theorem snd_rIxT : SndR W poIxT (rIxT W.K) := by
  intro p D H x y dx dy Qp Q hv hx hy h k
  obtain ⟨ds, i, d, rfl, rfl, e3, q⟩ := h
  obtain ⟨a, us, rfl, ha, r⟩ := hx.tup
  obtain ⟨v, ev, rv⟩ := r.at e3
  exact ⟨a, us, i, v, rfl, hy.int, ha, ev, k _ _ _ H q (Grow.refl hv) rv⟩
/-- any of the three -/
def poIxA (x y : Dt Ob) (Q : PQ Ob) : Prop := poIx x y Q ∨ poIxS x y Q
theorem snd_rIx : SndR W poIxA (rIx W.K) := by
  intro p D H x y dx dy Qp Q hv hx hy h k
  rcases h with h | h
  · obtain ⟨ds, i, d, e1, rfl, e3, q⟩ := h
    obtain ⟨a, us, rfl, ha, r, _⟩ := hx.seq e1
    obtain ⟨v, ev, rv⟩ := r.at e3
    rcases ha with ha | ha
    · exact .inl ⟨a, us, i, v, rfl, hy.int, ha, ev, k _ _ _ H q (Grow.refl hv) rv⟩
    · exact .inr (.inl ⟨a, us, i, v, rfl, hy.int, ha, ev, k _ _ _ H q (Grow.refl hv) rv⟩)
  · obtain ⟨z, i, c, rfl, rfl, l, e, q⟩ := h
    exact .inr (.inr ⟨z, i, c, hx.str, hy.int, Nat.le_trans l line1000, e, k _ _ _ H q (Grow.refl hv) (.str _)⟩)
/-- a new list laid -/
theorem fr_lst (hv : Hv p D H) (r : RA W p (hide D H) us ds) {a : Addr} (ha : H a = none) : RR W p D H (upd H a (.lst us)) .fr (.ref a) (.lst ds) := by
  refine ⟨a, us, rfl, ha, upd_same, ?_⟩
  rw [hide_upd_in (Or.inr rfl), hide_or_none ha]
  exact r
theorem fr_dic {ks : List (Key × V)} (hv : Hv p D H) (r : RK W p (hide D H) ks es) {a : Addr} (ha : H a = none) : RR W p D H (upd H a (.dK ks)) .fr (.ref a) (.dic es) := by
  refine ⟨a, ks, rfl, ha, upd_same, ?_⟩
  rw [hide_upd_in (Or.inr rfl), hide_or_none ha]
  exact r
theorem cl_tup (hv : Hv p D H) (r : RA W p (hide D H) us ds) {a : Addr} (ha : H a = none) : RR W p D H (upd H a (.tup us)) .cl (.ref a) (.tup ds) :=
  .tup (hide_new hv ha) (r.mono ((Grow.new hv ha).hide hv))
theorem snd_rCat : SndR W poCat rCat := by
  intro p D H x y dx dy Qp Q hv hx hy h k
  obtain ⟨xs, ys, rfl, rfl, l, q⟩ := h
  obtain ⟨a, us, rfl, ha, r⟩ := hx.lst
  obtain ⟨b, ws, rfl, hb, r'⟩ := hy.lst
  exact ⟨a, b, us, ws, rfl, rfl, ha, hb, by rw [r.length, r'.length]; exact Nat.le_trans l line1000, fun c hc => k _ _ _ _ q (Grow.new hv hc) (fr_lst hv (r.append r') hc)⟩
theorem RV.cl_of_tup (h : RV W p D H v (.tup ds)) : R0 W p (hide D H) v (.tup ds) := by
  cases h with
  | cl h => exact h
theorem RA.nil_iff (r : RA W p H us ds) : us = [] ↔ ds = [] := by
  cases r with
  | nil => simp
  | cons _ _ => simp
theorem snd_rCatT : SndR W poCatT (rCatA W.K) := by
  intro p D H x y dx dy Qp Q hv hx hy h k
  obtain ⟨xs, ys, rfl, rfl, l, q⟩ := h
  have cx := hx.cl_of_tup
  have cy := hy.cl_of_tup
  obtain ⟨a, us, rfl, ha, r⟩ := hx.tup
  obtain ⟨b, ws, rfl, hb, r'⟩ := hy.tup
  refine ⟨a, b, us, ws, rfl, rfl, ha, hb, by rw [r.length, r'.length]; exact Nat.le_trans l line1000, fun e => ?_, fun _ e => ?_, fun _ _ c hc => k _ _ _ _ q (Grow.new hv hc) (cl_tup hv (r.append r') hc)⟩
  · have : xs = [] := r.nil_iff.mp e
    subst this
    exact k _ _ _ H q (Grow.refl hv) cy
  · have : ys = [] := r'.nil_iff.mp e
    subst this
    rw [List.append_nil] at q
    exact k _ _ _ H q (Grow.refl hv) cx
theorem snd_rCatS : SndR W poCatS (fun x y H Q => ∃ i j, x = .str i ∧ y = .str j ∧ i.length + j.length ≤ sizeLine ∧ Q (.str (i ++ j)) H) := by
  intro p D H x y dx dy Qp Q hv hx hy h k
  obtain ⟨a, b, rfl, rfl, l, q⟩ := h
  exact ⟨a, b, hx.str, hy.str, Nat.le_trans l line1000, k _ _ _ H q (Grow.refl hv) (.str _)⟩
theorem RA.rep (r : RA W p H us ds) : ∀ n : Nat, RA W p H (List.replicate n us).flatten (List.replicate n ds).flatten
  | 0 => .nil
  | n + 1 => by
    rw [List.replicate_succ, List.replicate_succ, List.flatten_cons, List.flatten_cons]
    exact r.append (RA.rep r n)
theorem snd_rRep : SndR W poRep rRep := by
  intro p D H x y dx dy Qp Q hv hx hy h k
  obtain ⟨xs, n, rfl, rfl, l0, l1, l, q⟩ := h
  obtain ⟨a, us, rfl, ha, r⟩ := hx.lst
  exact ⟨a, n, us, rfl, hy.int, ha, l0, l1, by rw [r.length]; exact Nat.le_trans l line1000, fun c hc => k _ _ _ _ q (Grow.new hv hc) (fr_lst hv (r.rep _) hc)⟩
mutual
theorem R0.dp (s : Same H H') : ∀ {v : V} {d : Dt Ob}, R0 W p H v d → d.plain = true → Dp W.K H' v (toPy d)
  | _, _, .non, _ => .non
  | _, _, .bl b, _ => .bl b
  | _, _, .int b, _ => .int b
  | _, _, .str b, _ => .str b
  | _, .lst ds, .lst h r, e => by
    unfold toPy
    exact .lst (SqL.of (s _ _ h)) (RA.dp s r (by unfold Dt.plain at e; exact e))
  | _, .tup ds, .tup h r, e => by
    unfold toPy
    exact .tup (SqT.of (s _ _ h)) (RA.dp s r (by unfold Dt.plain at e; exact e))
  | _, _, .dic _ _, e => by unfold Dt.plain at e; cases e
  | _, _, .src _, e => by unfold Dt.plain at e; cases e
  | _, _, .ob _, e => by unfold Dt.plain at e; cases e
theorem RA.dp (s : Same H H') : ∀ {vs : List V} {ds : List (Dt Ob)}, RA W p H vs ds → plainL ds = true → DpAll W.K H' vs (toPyL ds)
  | _, _, .nil, _ => by unfold toPyL; exact .nil
  | _, d :: r, .cons a b, e => by
    unfold plainL at e
    unfold toPyL
    have := Bool.and_eq_true_iff.mp e
    exact .cons (R0.dp s a this.1) (RA.dp s b this.2)
end
theorem RV.dp (h : RV W p D H v d) (e : d.plain = true) : Dp W.K H v (toPy d) := by
  cases h with
  | cl h => exact h.dp hide_same e
  | rl ha r =>
    unfold toPy
    exact .lst (SqL.of ha) (RA.dp hide_same r (by unfold Dt.plain at e; exact e))
  | rd ha r => unfold Dt.plain at e; cases e
theorem snd_rEqD : SndR W (poEqD false) (rEqD W.K) := by
  intro p D H x y dx dy Qp Q hv hx hy h k
  obtain ⟨p1, p2, s1, s2, q⟩ := h
  exact ⟨_, _, hx.dp p1, hy.dp p2, s1, s2, k _ _ _ H q (Grow.refl hv) (.bl _)⟩
theorem snd_rNeD : SndR W (poEqD true) (rNeD W.K) := by
  intro p D H x y dx dy Qp Q hv hx hy h k
  obtain ⟨p1, p2, s1, s2, q⟩ := h
  exact ⟨_, _, hx.dp p1, hy.dp p2, s1, s2, k _ _ _ H q (Grow.refl hv) (.bl _)⟩
/-! built-ins -/
theorem rv1 {vs : List V} (h : Paired (RV W p D H) vs [d]) : ∃ v, vs = [v] ∧ RV W p D H v d := by
  cases h with
  | cons r t => cases t; exact ⟨_, rfl, r⟩
theorem rv2 {vs : List V} {e : Dt Ob} (h : Paired (RV W p D H) vs [d, e]) : ∃ v w, vs = [v, w] ∧ RV W p D H v d ∧ RV W p D H w e := by
  cases h with
  | cons r t =>
    obtain ⟨w, rfl, r'⟩ := rv1 t
    exact ⟨_, w, rfl, r, r'⟩
theorem snd_len : SndB W prLen (fun xs H Q => ∃ p ys, xs = [.ref p] ∧ (SqL W.K H p ys ∨ SqT W.K H p ys) ∧ Q (.int ys.length) H) := by
  intro p D H vs ds Qp Q hv hs h k
  obtain ⟨d, zs, rfl, e, q⟩ := h
  obtain ⟨v, rfl, r⟩ := rv1 hs
  obtain ⟨a, us, rfl, ha, r, _⟩ := r.seq e
  refine ⟨a, us, rfl, ha, ?_⟩
  rw [r.length]
  exact k _ _ _ H q (Grow.refl hv) (.int _)
theorem snd_list : SndB W prList (fun xs H Q => ∃ p ys, xs = [.ref p] ∧ (SqL W.K H p ys ∨ SqT W.K H p ys) ∧ ∀ l, H l = none → Q (.ref l) (upd H l (.lst ys))) := by
  intro p D H vs ds Qp Q hv hs h k
  obtain ⟨d, zs, rfl, e, q⟩ := h
  obtain ⟨v, rfl, r⟩ := rv1 hs
  obtain ⟨a, us, rfl, ha, r, _⟩ := r.seq e
  exact ⟨a, us, rfl, ha, fun c hc => k _ _ _ _ q (Grow.new hv hc) (fr_lst hv r hc)⟩
theorem snd_tuple : SndB W prTuple (fun xs H Q => ∃ p ys, xs = [.ref p] ∧ ((SqL W.K H p ys ∧ ∀ l, H l = none → Q (.ref l) (upd H l (.tup ys))) ∨ (SqT W.K H p ys ∧ Q (.ref p) H))) := by
  intro p D H vs ds Qp Q hv hs h k
  obtain ⟨d, zs, rfl, e, q⟩ := h
  obtain ⟨v, rfl, r⟩ := rv1 hs
  cases d with
  | lst ws =>
    obtain rfl := Option.some.inj e
    obtain ⟨a, us, rfl, ha, r⟩ := r.lst
    exact ⟨a, us, rfl, .inl ⟨SqL.of ha, fun c hc => k _ _ _ _ q (Grow.new hv hc) (cl_tup hv r hc)⟩⟩
  | tup ws =>
    obtain rfl := Option.some.inj e
    have cx := r.cl_of_tup
    obtain ⟨a, us, rfl, ha, r⟩ := r.tup
    exact ⟨a, us, rfl, .inr ⟨ha, k _ _ _ H q (Grow.refl hv) cx⟩⟩
  | _ => cases e
theorem RA.keysV : ∀ {us : List (Key × V)} {es : List (Key × Dt Ob)}, RK W p H us es → RA W p H' (us.map fun kv => kV kv.1) (es.map fun kv => kD' kv.1)
  | _, _, .nil => .nil
  | _, _, .cons (k := k) r t => by
    rw [List.map_cons, List.map_cons]
    refine .cons ?_ (RA.keysV t)
    cases k with
    | inl i => exact .int i
    | inr x => exact .str x
theorem snd_listD : SndB W prListD (fun xs H Q => ∃ (a : Addr) (kvs : List (Key × V)), xs = [.ref a] ∧ Rd H a (.dK kvs) ∧ ∀ p, H p = none → Q (.ref p) (upd H p (.lst (kvs.map fun kv => kV kv.1)))) := by
  intro p D H vs ds Qp Q hv hs h k
  obtain ⟨es, rfl, q⟩ := h
  obtain ⟨v, rfl, r⟩ := rv1 hs
  obtain ⟨a, us, rfl, ha, r⟩ := r.dic
  exact ⟨a, us, rfl, ha, fun c hc => k _ _ _ _ q (Grow.new hv hc) (fr_lst hv (RA.keysV r) hc)⟩
theorem snd_max2 : SndB W prMax2 (fun xs H Q => ∃ i j, xs = [.int i, .int j] ∧ Q (.int (if j > i then j else i)) H) := by
  intro p D H vs ds Qp Q hv hs h k
  obtain ⟨i, j, rfl, q⟩ := h
  obtain ⟨v, w, rfl, r, r'⟩ := rv2 hs
  exact ⟨i, j, by rw [r.int, r'.int], k _ _ _ H q (Grow.refl hv) (.int _)⟩
theorem snd_min2 : SndB W prMin2 (fun xs H Q => ∃ i j, xs = [.int i, .int j] ∧ Q (.int (if j < i then j else i)) H) := by
  intro p D H vs ds Qp Q hv hs h k
  obtain ⟨i, j, rfl, q⟩ := h
  obtain ⟨v, w, rfl, r, r'⟩ := rv2 hs
  exact ⟨i, j, by rw [r.int, r'.int], k _ _ _ H q (Grow.refl hv) (.int _)⟩
theorem snd_int1 : SndB W prInt1 (fun xs H Q => (∃ i, xs = [.int i] ∧ Q (.int i) H) ∨ ∃ k, xs = [.bl k] ∧ Q (.int (if k then 1 else 0)) H) := by
  intro p D H vs ds Qp Q hv hs h k
  rcases h with ⟨i, rfl, q⟩ | ⟨b, rfl, q⟩
  · obtain ⟨v, rfl, r⟩ := rv1 hs
    exact .inl ⟨i, by rw [r.int], k _ _ _ H q (Grow.refl hv) (.int _)⟩
  · obtain ⟨v, rfl, r⟩ := rv1 hs
    exact .inr ⟨b, by rw [r.bl], k _ _ _ H q (Grow.refl hv) (.int _)⟩
theorem RA.ints : ∀ {us : List V} {ns : List Int}, RA W p H us (intsD ns) → us = ns.map V.int
  | _, [], .nil => rfl
  | _, n :: ns, .cons r t => by
    rw [List.map_cons, ← RA.ints (ns := ns) t]
    cases r
    rfl
theorem RA.strs : ∀ {us : List V} {ns : List Str}, RA W p H us (strsD ns) → us = ns.map V.str
  | _, [], .nil => rfl
  | _, n :: ns, .cons r t => by
    rw [List.map_cons, ← RA.strs (ns := ns) t]
    cases r
    rfl
theorem RA.ofStrs : ∀ ns : List Str, RA W p H (ns.map V.str) (strsD ns)
  | [] => .nil
  | n :: ns => .cons (.str n) (RA.ofStrs ns)
theorem RA.ofInts : ∀ ns : List Int, RA W p H (ns.map V.int) (intsD ns)
  | [] => .nil
  | n :: ns => .cons (.int n) (RA.ofInts ns)
theorem snd_sum : SndB W prSum (rSum W.K) := by
  intro p D H vs ds Qp Q hv hs h k
  obtain ⟨ns, rfl, q⟩ := h
  obtain ⟨v, rfl, r⟩ := rv1 hs
  obtain ⟨a, us, rfl, ha, r⟩ := r.lst
  obtain rfl := r.ints
  exact ⟨a, ns, rfl, SqL.of ha, k _ _ _ H q (Grow.refl hv) (.int _)⟩
theorem fr_new {a : Addr} (hv : Hv p D H) (s : Same H H') (ha : H a = none) (e : H' a = some (.lst us)) (r : RA W p (hide D H) us ds) : RR W p D H H' .fr (.ref a) (.lst ds) := by
  refine ⟨a, us, rfl, ha, e, ?_⟩
  rw [← hide_or_none ha] at r
  exact r.mono (hide_keep fun b u _ z => s b u z)
theorem snd_sortedTS : SndB W prSortedTS (rSortedTS W.K) := by
  intro p D H vs ds Qp Q hv hs h k
  obtain ⟨zs, rfl, l, q⟩ := h
  obtain ⟨v, rfl, r⟩ := rv1 hs
  obtain ⟨a, us, rfl, ha, r⟩ := r.tup
  obtain rfl := r.strs
  refine ⟨a, zs, rfl, ha, l, fun ys c py sy hc H2 s2 e2 => ?_⟩
  exact k _ _ _ _ (q ys py sy) (Grow.of hv s2) (fr_new hv s2 hc e2 (RA.ofStrs ys))
end
end Pu
/-! ### walks, comprehensions, slices, dicts over trees -/
namespace Pu
open PySem PySem.W PySem.Spec PyProof.Rows L2 Gk
section
variable {Ob : Type}
def WalkD (W : Wd Ob) (p : Option Addr) (D : Addr → Prop) (H1 : Hp) (J : It) (ds : List (Dt Ob)) (c : Bool) : Prop :=
  ∃ (G : Hp → Prop) (Y : Nat → Hp → V → Hp → Prop), Walk J ds.length G Y ∧ (∀ H2, (∀ b u, p ≠ some b → H1 b = some u → H2 b = some u) → G H2) ∧ (c = true → ∀ (D' : Addr → Prop) H2, Same (hide D H1) (hide D' H2) → G H2) ∧
    ∀ i H2 x H3 (D' : Addr → Prop), i < ds.length → Same (hide D H1) (hide D' H2) → (∀ b, D' b → H2 b ≠ none) → Y i H2 x H3 → Same H2 H3 ∧ ∃ d, ds[i]? = some d ∧ R0 W p (hide D' H3) x d
abbrev PTI (Ob : Type) := PEnv Ob → (Bool → List (Dt Ob) → Prop) → Prop
abbrev PTG (Ob : Type) := Dt Ob → PEnv Ob → (PEnv Ob → Prop) → Prop
abbrev PTGs (Ob : Type) := List (Dt Ob) → PEnv Ob → (PEnv Ob → Prop) → Prop
abbrev PTO (Ob : Type) := PEnv Ob → (Option Int → Prop) → Prop
def SndI (W : Wd Ob) (pi : PTI Ob) (wi : TI) : Prop := ∀ (p : Option Addr) (D : Addr → Prop) (σ : L2.St) (H : Hp) (env : PEnv Ob) (Qp : Bool → List (Dt Ob) → Prop) (R : It → Hp → Prop), StE W p D H σ env → pi env Qp →
  (∀ c ds J H1, Qp c ds → Grow p H H1 → WalkD W p D H1 J ds c → R J H1) → wi σ H R
/-- a target that stores in the slots js -/
def SndG (W : Wd Ob) (pg : PTG Ob) (g : TG) (js : List Nat) : Prop := ∀ (p : Option Addr) (D : Addr → Prop) (σ : L2.St) (H : Hp) (env : PEnv Ob) (x : V) (d : Dt Ob) (Qp : PEnv Ob → Prop) (Q : L2.St → Hp → Prop), StE W p D H σ env → R0 W p (hide D H) x d → pg d env Qp →
  (∀ σ' env', Qp env' → StE W p D H σ' env' → σ'.length = σ.length → (∀ j, j ∉ js → σ'[j]? = σ[j]?) → Q σ' H) → g x σ H Q
def SndGs (W : Wd Ob) (pg : PTGs Ob) (g : TGs) (js : List Nat) : Prop := ∀ (p : Option Addr) (D : Addr → Prop) (σ : L2.St) (H : Hp) (env : PEnv Ob) (x : List V) (d : List (Dt Ob)) (Qp : PEnv Ob → Prop) (Q : L2.St → Hp → Prop), StE W p D H σ env → RA W p (hide D H) x d → pg d env Qp →
  (∀ σ' env', Qp env' → StE W p D H σ' env' → σ'.length = σ.length → (∀ j, j ∉ js → σ'[j]? = σ[j]?) → Q σ' H) → g x σ H Q
def SndO (W : Wd Ob) (po : PTO Ob) (t : TO) : Prop := ∀ (p : Option Addr) (D : Addr → Prop) (σ : L2.St) (H : Hp) (env : PEnv Ob) (Qp : Option Int → Prop) (Q : Option Int → Hp → Prop), StE W p D H σ env → po env Qp →
  (∀ o H', Qp o → Grow p H H' → Q o H') → t σ H Q
def piL (pe : PTE Ob) (env : PEnv Ob) (Q : Bool → List (Dt Ob) → Prop) : Prop := pe env fun f d => ∃ ds, d = .lst ds ∧ Q (decide (f ≠ .raw)) ds
def piT (pe : PTE Ob) (env : PEnv Ob) (Q : Bool → List (Dt Ob) → Prop) : Prop := pe env fun f d => ∃ ds, d = .tup ds ∧ Q (decide (f ≠ .raw)) ds
def rngD (lo : Int) (n : Nat) : List (Dt Ob) := (List.range n).map fun (i : Nat) => .int (lo + (i : Int))
def piR1 (pa : PTA Ob) (env : PEnv Ob) (Q : Bool → List (Dt Ob) → Prop) : Prop := pa env fun xs => ∃ j, xs.map (·.2) = [.int j] ∧ -(2 ^ 62) ≤ j ∧ j < 2 ^ 62 ∧ Q true (rngD 0 j.toNat)
def piR2 (pa : PTA Ob) (env : PEnv Ob) (Q : Bool → List (Dt Ob) → Prop) : Prop := pa env fun xs => ∃ i j, xs.map (·.2) = [.int i, .int j] ∧ (-(2 ^ 62) ≤ i ∧ i < 2 ^ 62 ∧ -(2 ^ 62) ≤ j ∧ j < 2 ^ 62) ∧ Q true (rngD i (j - i).toNat)
def signsD (x : Str) : List (Dt Ob) := x.cps.toList.map fun c => .str ⟨#[c]⟩
def piS (pe : PTE Ob) (env : PEnv Ob) (Q : Bool → List (Dt Ob) → Prop) : Prop := pe env fun _ d => ∃ x, d = .str x ∧ Q true (signsD x)
def enumD (ds : List (Dt Ob)) : List (Dt Ob) := ds.mapIdx fun i d => .tup [.int (i : Nat), d]
def firstFl : List (Fl × Dt Ob) → Fl
  | [] => .cl
  | x :: _ => x.1
def piE (pa : PTA Ob) (env : PEnv Ob) (Q : Bool → List (Dt Ob) → Prop) : Prop := pa env fun xs => ∃ ds, xs.map (·.2) = [.lst ds] ∧ Q (decide (firstFl xs ≠ .raw)) (enumD ds)
def piET (pa : PTA Ob) (env : PEnv Ob) (Q : Bool → List (Dt Ob) → Prop) : Prop := pa env fun xs => ∃ ds, xs.map (·.2) = [.tup ds] ∧ Q (decide (firstFl xs ≠ .raw)) (enumD ds)
def pgN (i : Nat) (d : Dt Ob) (env : PEnv Ob) (Q : PEnv Ob → Prop) : Prop := Q (env.set i (.sh d))
def pgNil (ds : List (Dt Ob)) (env : PEnv Ob) (Q : PEnv Ob → Prop) : Prop := ds = [] ∧ Q env
def pgCons (pg : PTG Ob) (pgs : PTGs Ob) (ds : List (Dt Ob)) (env : PEnv Ob) (Q : PEnv Ob → Prop) : Prop := ∃ d r, ds = d :: r ∧ pg d env fun env' => pgs r env' Q
def pgT (n : Nat) (pgs : PTGs Ob) (d : Dt Ob) (env : PEnv Ob) (Q : PEnv Ob → Prop) : Prop := ∃ ds, d = .tup ds ∧ ds.length = n ∧ pgs ds env Q
def pwipe (env : PEnv Ob) : List Nat → PEnv Ob
  | [] => env
  | v :: vs => (pwipe env vs).set v .no
def pLc (pi : PTI Ob) (pg : PTG Ob) (pt : PTT Ob) (pe : PTE Ob) (vs : List Nat) (env : PEnv Ob) (Q : PQ Ob) : Prop := pi env fun _ ds => ds.length ≤ 1000 ∧ ∃ I : Nat → List (Dt Ob) → Prop, I 0 [] ∧
  (∀ i d acc, ds[i]? = some d → I i acc → pg d (pwipe env vs) fun env2 => pt env2 fun b => if b = true then pe env2 fun f x => f ≠ .raw ∧ I (i + 1) (acc ++ [x]) else I (i + 1) acc) ∧ ∀ acc, I ds.length acc → acc.length ≤ ds.length → Q .fr (.lst acc)
def cutD {α : Type} (xs : List α) (lo hi : Option Int) : List α := (xs.drop (HT.sIx xs.length 0 lo)).take (HT.sIx xs.length xs.length hi - HT.sIx xs.length 0 lo)
def pNoPart (_ : PEnv Ob) (Q : Option Int → Prop) : Prop := Q none
def pPart (pe : PTE Ob) (env : PEnv Ob) (Q : Option Int → Prop) : Prop := pe env fun _ d => ∃ i, d = .int i ∧ Q (some i)
def pSlL (pe : PTE Ob) (pl ph : PTO Ob) (env : PEnv Ob) (Q : PQ Ob) : Prop := pe env fun _ d => pl env fun l => ph env fun h => ∃ ds, d = .lst ds ∧ Q .fr (.lst (cutD ds l h))
def pSlT (pe : PTE Ob) (pl ph : PTO Ob) (env : PEnv Ob) (Q : PQ Ob) : Prop := pe env fun _ d => pl env fun l => ph env fun h => ∃ ds, d = .tup ds ∧ Q .cl (.tup (cutD ds l h))
def pSlS (pe : PTE Ob) (pl ph : PTO Ob) (env : PEnv Ob) (Q : PQ Ob) : Prop := pe env fun _ d => pl env fun l => ph env fun h => ∃ z, d = .str z ∧ z.length ≤ 1000 ∧ Q .cl (.str (cutS z l h))
def Dt.key : Dt Ob → Option Key
  | .int i => some (.inl i)
  | .str x => some (.inr x)
  | _ => none
def pDGet (pd py : PTE Ob) (env : PEnv Ob) (Q : PQ Ob) : Prop := pd env fun _ x => py env fun _ y => ∃ es k d, x = .dic es ∧ y.key = some k ∧ valD es k = some d ∧ Q .cl d
def pDIn (neg : Bool) (py pd : PTE Ob) (env : PEnv Ob) (Q : PQ Ob) : Prop := py env fun _ y => pd env fun _ x => ∃ es k, x = .dic es ∧ y.key = some k ∧ Q .cl (.bl (if neg then !(valD es k).isSome else (valD es k).isSome))
def pDGet1 (pd py : PTE Ob) (env : PEnv Ob) (Q : PQ Ob) : Prop := pd env fun _ x => py env fun _ y => ∃ es k, x = .dic es ∧ y.key = some k ∧ Q .cl ((valD es k).getD .non)
def pDGet2 (pd py pz : PTE Ob) (env : PEnv Ob) (Q : PQ Ob) : Prop := pd env fun _ x => py env fun _ y => pz env fun f z => ∃ es k, x = .dic es ∧ y.key = some k ∧ f ≠ .raw ∧ Q .cl ((valD es k).getD z)
def pDNew (_ : PEnv Ob) (Q : PQ Ob) : Prop := Q .fr (.dic [])
def pPairs : List (PTE Ob × PTE Ob) → PEnv Ob → (List (Key × Dt Ob) → Prop) → Prop
  | [], _, Q => Q []
  | (pk, pv) :: r, env, Q => pk env fun _ k => pv env fun f d => ∃ kk, k.key = some kk ∧ f ≠ .raw ∧ pPairs r env fun ps => Q ((kk, d) :: ps)
def pDisp (prs : List (PTE Ob × PTE Ob)) (env : PEnv Ob) (Q : PQ Ob) : Prop := pPairs prs env fun kvs => kvs.length ≤ 15 ∧ Q .fr (.dic (mergeD [] kvs))
end
section
variable {Ob : Type} {W : Wd Ob} {p : Option Addr} {D : Addr → Prop} {H H' H0 H1 H2 : Hp} {v : V} {d : Dt Ob} {ds : List (Dt Ob)} {us : List V} {es : List (Key × Dt Ob)} {fl : Fl} {σ : L2.St} {env : PEnv Ob}
variable {pe pa pb pc pd py pz : PTE Ob} {te ta tb tc td ty tz : TE} {pt pu : PTT Ob} {tt tu : TT} {px : PTA Ob} {tx : TA} {i : Nat} {pi : PTI Ob} {wi : TI} {pg : PTG Ob} {g : TG} {js : List Nat} {pgs : PTGs Ob} {gs : TGs} {is : List Nat} {pl ph : PTO Ob} {tl th : TO}
theorem walkD_list {a : Addr} {c : Bool} (hv : Hv p D H) (ha : H a = some (.lst us)) (pa : p ≠ some a) (r : RA W p (hide D H) us ds) (cl : c = true → ¬ D a) : WalkD W p D H (Itl W.K a) ds c := by
  refine ⟨fun H => SqL W.K H a us, YAt us, by rw [← r.length]; exact walk_list, fun H2 k => SqL.of (k _ _ pa ha), fun e D' H2 s => ?_, fun i H2 x H3 D' hi s hd y => ?_⟩
  · exact SqL.of (hide_some (s a _ (by rw [hide_at (cl e)]; exact ha))).2
  · obtain ⟨rfl, e⟩ := y
    obtain ⟨d, ed, rd⟩ := r.getL e
    exact ⟨Same.refl _, d, ed, rd.mono s⟩
theorem snd_piL (h : SndE W pe te) : SndI W (piL pe) (iList W.K te) := by
  intro p D σ H env Qp R st h1 k
  refine h p D σ H env _ _ st h1 fun f d v H1 ⟨ds, e, q⟩ g1 r1 => ?_
  subst e
  have hv1 := st.hv.grow g1
  obtain ⟨a, us, rfl, ha, r⟩ := (r1.rv st.hv).lst
  have pa : p ≠ some a := fun e => by
    obtain ⟨_, m, n, e2, _⟩ := hv1.src a e
    rw [ha] at e2
    cases f with
    | cl =>
      cases r1 with
      | lst q1 q2 => exact (hide_some q1).1 (hv1.src a e).1
    | raw => obtain ⟨b, ws, e3, np, _⟩ := r1; cases e3; exact np e
    | fr => obtain ⟨b, ws, e3, nb, _⟩ := r1; cases e3; exact st.hv.np nb e
  refine ⟨a, rfl, ⟨us, SqL.of ha⟩, k _ _ _ _ q g1 ?_⟩
  refine walkD_list hv1 ha pa r fun e => ?_
  cases f with
  | raw => simp at e
  | cl =>
    cases r1 with
    | lst q1 q2 => exact (hide_some q1).1
  | fr => obtain ⟨b, ws, e3, nb, _⟩ := r1; cases e3; exact st.hv.nd nb
/-- what makes a tuple readable stays while things go on -/
theorem SqT.keep {a : Addr} (h : SqT W.K (hide D H) a us) (k : ∀ b u, p ≠ some b → H b = some u → H2 b = some u) (hv : Hv p D H) : SqT W.K H2 a us :=
  Same.tupP (H' := H2) (fun b u e => by
    obtain ⟨n, e⟩ := hide_some e
    exact k b u (fun z => n (hv.src b z).1) e) h
theorem snd_piT (h : SndE W pe te) : SndI W (piT pe) (iTup W.K te) := by
  intro p D σ H env Qp R st h1 k
  refine h p D σ H env _ _ st h1 fun f d v H1 ⟨ds, e, q⟩ g1 r1 => ?_
  subst e
  have hv1 := st.hv.grow g1
  have cx := (r1.rv st.hv).cl_of_tup
  cases cx with
  | tup ha r =>
    rename_i a us
    refine ⟨a, rfl, ⟨us, SqT.of (hide_some ha).2⟩, k _ _ _ _ q g1 ?_⟩
    refine ⟨fun H => SqT W.K H a us, YAt us, by rw [← r.length]; exact walk_tup, fun H2 k => SqT.keep (SqT.of ha) k hv1, fun e D' H2 s => SqT.of (hide_some (s _ _ ha)).2, fun i H2 x H3 D' hi s hd y => ?_⟩
    obtain ⟨rfl, e⟩ := y
    obtain ⟨d, ed, rd⟩ := r.getL e
    exact ⟨Same.refl _, d, ed, rd.mono s⟩
theorem rngD_len {lo : Int} {n : Nat} : (rngD (Ob := Ob) lo n).length = n := by unfold rngD; rw [List.length_map, List.length_range]
theorem rngD_at {lo : Int} {n i : Nat} (h : i < n) : (rngD (Ob := Ob) lo n)[i]? = some (.int (lo + (i : Int))) := by
  unfold rngD
  rw [List.getElem?_map, List.getElem?_range h]
  rfl
theorem walkD_rng {lo : Int} {n : Nat} : WalkD W p D H (Itr lo n) (rngD lo n) true := by
  refine ⟨fun _ => True, YFn fun i => .int (lo + i), by rw [rngD_len]; exact walk_range, fun _ _ => trivial, fun _ _ _ _ => trivial, fun i H2 x H3 D' hi s hd y => ?_⟩
  obtain ⟨rfl, rfl⟩ := y
  rw [rngD_len] at hi
  exact ⟨Same.refl _, _, rngD_at hi, .int _⟩
theorem rrs1 {xs' : List (Fl × Dt Ob)} (r : RRs W p D H0 H us xs') (e : List.map Prod.snd xs' = [d]) (h0 : Hv p D H0) : ∃ v f, us = [v] ∧ xs' = [(f, d)] ∧ RR W p D H0 H f v d := by
  cases r with
  | nil => cases e
  | cons r t =>
    rename_i x y xs ys
    rw [List.map_cons] at e
    obtain ⟨e1, e2⟩ := List.cons.inj e
    cases t with
    | nil => exact ⟨x, y.1, rfl, by rw [← e1], by rw [← e1]; exact r⟩
    | cons _ _ => cases e2
theorem rrs2 {d' : Dt Ob} {xs' : List (Fl × Dt Ob)} (r : RRs W p D H0 H us xs') (e : List.map Prod.snd xs' = [d, d']) (h0 : Hv p D H0) : ∃ v w f f', us = [v, w] ∧ xs' = [(f, d), (f', d')] ∧ RR W p D H0 H f v d ∧ RR W p D H0 H f' w d' := by
  cases r with
  | nil => cases e
  | cons r t =>
    rename_i x y xs ys
    rw [List.map_cons] at e
    obtain ⟨e1, e2⟩ := List.cons.inj e
    obtain ⟨v, f, rfl, rfl, r'⟩ := rrs1 t e2 h0
    exact ⟨x, v, y.1, f, rfl, by rw [← e1], by rw [← e1]; exact r, r'⟩
theorem snd_piR1 (h : SndA W px tx) : SndI W (piR1 px) (iRng1 tx) := by
  intro p D σ H env Qp R st h1 k
  refine h p D σ H env _ _ st h1 fun xs vs H1 ⟨j, e, l0, l1, q⟩ g1 r1 => ?_
  obtain ⟨v, f, rfl, rfl, r⟩ := rrs1 r1 e st.hv
  exact ⟨j, by rw [(r.rv st.hv).int], l0, l1, k _ _ _ _ q g1 walkD_rng⟩
theorem snd_piR2 (h : SndA W px tx) : SndI W (piR2 px) (iRng2 tx) := by
  intro p D σ H env Qp R st h1 k
  refine h p D σ H env _ _ st h1 fun xs vs H1 ⟨i, j, e, l, q⟩ g1 r1 => ?_
  obtain ⟨v, w, f, f', rfl, rfl, r, r'⟩ := rrs2 r1 e st.hv
  exact ⟨i, j, by rw [(r.rv st.hv).int, (r'.rv st.hv).int], l, k _ _ _ _ q g1 walkD_rng⟩
theorem snd_piS (h : SndE W pe te) : SndI W (piS pe) (iStr te) := by
  intro p D σ H env Qp R st h1 k
  refine h p D σ H env _ _ st h1 fun f d v H1 ⟨x, e, q⟩ g1 r1 => ?_
  subst e
  refine ⟨x, (r1.rv st.hv).str, k _ _ _ _ q g1 ?_⟩
  have el : (signsD (Ob := Ob) x).length = x.cps.size := by unfold signsD; rw [List.length_map, Array.length_toList]
  refine ⟨fun _ => True, _, by rw [el]; exact walk_str, fun _ _ => trivial, fun _ _ _ _ => trivial, fun i H2 y H3 D' hi s hd z => ?_⟩
  obtain ⟨rfl, c, ec, rfl⟩ := z
  refine ⟨Same.refl _, .str ⟨#[c]⟩, ?_, .str _⟩
  unfold signsD
  rw [List.getElem?_map, Array.getElem?_toList, ec]
  rfl
theorem enumD_len : (enumD ds).length = ds.length := by unfold enumD; rw [List.length_mapIdx]
theorem enumD_at {i : Nat} (h : ds[i]? = some d) : (enumD ds)[i]? = some (.tup [.int (i : Nat), d]) := by
  unfold enumD
  rw [List.getElem?_mapIdx, h]
  rfl
theorem walkD_pair {a : Addr} {J : It} {c : Bool} {G : Hp → Prop} (w : Walk J us.length G (YPair (fun i => some (.int (i : Nat))) (fun i => us[i]?))) (r : RA W p (hide D H) us ds)
    (g1 : ∀ H2, (∀ b u, p ≠ some b → H b = some u → H2 b = some u) → G H2) (g2 : c = true → ∀ (D' : Addr → Prop) H2, Same (hide D H) (hide D' H2) → G H2) : WalkD W p D H J (enumD ds) c := by
  refine ⟨G, _, by rw [enumD_len, ← r.length]; exact w, g1, g2, fun i H2 x H3 D' hi s hd y => ?_⟩
  obtain ⟨T, y1, y2, rfl, hT, rfl, e1, e2⟩ := y
  obtain rfl := Option.some.inj e1
  obtain ⟨d, ed, rd⟩ := r.getL e2
  have nT : ¬ D' T := fun z => hd T z hT
  have s2 : Same H2 (upd H2 T (.tup [V.int (i : Nat), y2])) := (Same.refl H2).new hT
  refine ⟨s2, _, enumD_at ed, .tup (by rw [hide_at nT, upd_same]) (.cons (.int _) (.cons ?_ .nil))⟩
  exact rd.mono (s.trans (hide_keep fun b u _ e => s2 b u e))
theorem snd_piE (h : SndA W px tx) : SndI W (piE px) (iEnum W.K tx) := by
  intro p D σ H env Qp R st h1 k
  refine h p D σ H env _ _ st h1 fun xs vs H1 ⟨ds, e, q⟩ g1 r1 => ?_
  obtain ⟨v, f, rfl, rfl, r0⟩ := rrs1 r1 e st.hv
  have hv1 := st.hv.grow g1
  obtain ⟨a, us, rfl, ha, r⟩ := (r0.rv st.hv).lst
  refine ⟨a, us, rfl, SqL.of ha, k _ _ _ _ q g1 ?_⟩
  have pa : p ≠ some a := fun ee => by
    cases f with
    | cl =>
      cases r0 with
      | lst q1 q2 => exact (hide_some q1).1 (hv1.src a ee).1
    | raw => obtain ⟨b, ws, e3, np, _⟩ := r0; cases e3; exact np ee
    | fr => obtain ⟨b, ws, e3, nb, _⟩ := r0; cases e3; exact st.hv.np nb ee
  refine walkD_pair (a := a) walk_enum r (fun H2 k => SqL.of (k _ _ pa ha)) fun e D' H2 s => ?_
  have nD : ¬ D a := by
    cases f with
    | raw => simp [firstFl] at e
    | cl =>
      cases r0 with
      | lst q1 q2 => exact (hide_some q1).1
    | fr => obtain ⟨b, ws, e3, nb, _⟩ := r0; cases e3; exact st.hv.nd nb
  exact SqL.of (hide_some (s a _ (by rw [hide_at nD]; exact ha))).2
theorem snd_piET (h : SndA W px tx) : SndI W (piET px) (iEnumT W.K tx) := by
  intro p D σ H env Qp R st h1 k
  refine h p D σ H env _ _ st h1 fun xs vs H1 ⟨ds, e, q⟩ g1 r1 => ?_
  obtain ⟨v, f, rfl, rfl, r0⟩ := rrs1 r1 e st.hv
  have hv1 := st.hv.grow g1
  have cx := (r0.rv st.hv).cl_of_tup
  cases cx with
  | tup ha r =>
    rename_i a us
    refine ⟨a, us, rfl, SqT.of (hide_some ha).2, k _ _ _ _ q g1 ?_⟩
    exact walkD_pair (a := a) walk_enumT r (fun H2 k => SqT.keep (SqT.of ha) k hv1) fun e D' H2 s => SqT.of (hide_some (s _ _ ha)).2
/-! targets -/
theorem snd_gN : SndG W (pgN i) (gName i) [i] := by
  intro p D σ H env x d Qp Q st r h k
  refine k _ _ h ⟨st.hv, pr_set (show SlOk W p D H (some x) (.sh d) from ⟨x, rfl, r⟩) i st.sl⟩ (List.length_set ..) fun j hj => ?_
  rw [List.getElem?_set_ne]
  exact fun e => hj (by rw [e]; exact List.mem_singleton.mpr rfl)
theorem snd_gNil : SndGs W pgNil gNil [] := by
  intro p D σ H env x d Qp Q st r h k
  obtain ⟨rfl, h⟩ := h
  cases r
  exact ⟨rfl, k _ _ h st rfl fun _ _ => rfl⟩
theorem snd_gCons (h : SndG W pg g js) (h' : SndGs W pgs gs is) : SndGs W (pgCons pg pgs) (gCons g gs) (js ++ is) := by
  intro p D σ H env x d Qp Q st r h1 k
  obtain ⟨d1, r1, rfl, h1⟩ := h1
  cases r with
  | cons rv rt =>
    refine ⟨_, _, rfl, h p D σ H env _ _ _ _ st rv h1 fun σ1 env1 q1 st1 l1 e1 => ?_⟩
    refine h' p D σ1 H env1 _ _ _ _ st1 rt q1 fun σ2 env2 q2 st2 l2 e2 => ?_
    refine k _ _ q2 st2 (l2.trans l1) fun j hj => ?_
    rw [e2 j fun z => hj (List.mem_append_right _ z), e1 j fun z => hj (List.mem_append_left _ z)]
theorem snd_gT {n : Nat} (h : SndGs W pgs gs js) : SndG W (pgT n pgs) (gTup W.K n gs) js := by
  intro p D σ H env x d Qp Q st r h1 k
  obtain ⟨ds, rfl, l, h1⟩ := h1
  cases r with
  | tup ha r => exact ⟨_, _, rfl, SqT.of (hide_some ha).2, by rw [r.length]; exact l, h p D σ H env _ _ _ _ st r h1 k⟩
/-! comprehensions -/
theorem wipe_get {τ : L2.St} {j : Nat} : ∀ vs : List Nat, j ∉ vs → (wipe τ vs)[j]? = τ[j]?
  | [], _ => rfl
  | v :: vs, h => by
    unfold wipe
    rw [List.getElem?_set_ne fun e => h (by rw [e]; exact List.mem_cons_self)]
    exact wipe_get vs fun z => h (List.mem_cons_of_mem _ z)
theorem wipe_in {τ : L2.St} {j : Nat} : ∀ vs : List Nat, j ∈ vs → j < τ.length → (wipe τ vs)[j]? = some none
  | v :: vs, h, l => by
    unfold wipe
    by_cases e : v = j
    · subst e
      rw [List.getElem?_set_self (by rw [wipe_length]; exact l)]
    · rw [List.getElem?_set_ne e]
      rcases List.mem_cons.mp h with z | z
      · exact absurd z.symm e
      · exact wipe_in vs z l
theorem wipe_eq {τ σ : L2.St} {vs : List Nat} (l : τ.length = σ.length) (h : ∀ j, j ∉ vs → τ[j]? = σ[j]?) : wipe τ vs = wipe σ vs := by
  apply List.ext_getElem?
  intro j
  by_cases z : j ∈ vs
  · by_cases lj : j < σ.length
    · rw [wipe_in vs z lj, wipe_in vs z (by rw [l]; exact lj)]
    · rw [List.getElem?_eq_none (by rw [wipe_length]; omega), List.getElem?_eq_none (by rw [wipe_length]; omega)]
  · rw [wipe_get vs z, wipe_get vs z, h j z]
theorem StE.wipe (st : StE W p D H σ env) : ∀ vs : List Nat, StE W p D H (L2.wipe σ vs) (pwipe env vs)
  | [] => st
  | v :: vs => ⟨st.hv, by unfold L2.wipe pwipe; exact pr_set (show SlOk W p D H none (.no : PV Ob) from trivial) v (StE.wipe st vs).sl⟩
/-- one more thing is hidden that is newer than H1 -/
theorem StE.regrow {A : Addr} (st : StE W p D H1 σ env) (hA : H1 A = none) (dA : SoftAt H2 A) (k : ∀ b u, p ≠ some b → H1 b = some u → H2 b = some u) (s : ∀ a, p = some a → SrcAt H2 a) : StE W p (fun b => D b ∨ b = A) H2 σ env := by
  have g : Grow p H1 H2 := ⟨k, s⟩
  have hv2 := st.hv.grow g
  have hk : Same (hide D H1) (hide (fun b => D b ∨ b = A) H2) := by
    rw [← hide_or_none (D := D) hA]
    exact hide_keep fun b u n e => k b u (fun z => n (.inl (st.hv.src b z).1)) e
  refine ⟨⟨fun b z => ?_, fun b e => ⟨.inl (st.hv.src b e).1, s b e⟩⟩, pr_map (fun s x h => ?_) st.sl⟩
  · rcases z with z | rfl
    · exact hv2.sft b z
    · exact dA
  · cases x with
    | no => trivial
    | sh d => obtain ⟨v, e, r⟩ := h; exact ⟨v, e, r.mono hk⟩
    | own ds => obtain ⟨b, us, e, db, pb, hb, r⟩ := h; exact ⟨b, us, e, .inl db, pb, k _ _ pb hb, r.mono hk⟩
    | ownD ds => obtain ⟨b, us, e, db, pb, hb, r⟩ := h; exact ⟨b, us, e, .inl db, pb, k _ _ pb hb, r.mono hk⟩
    | deep O f d => obtain ⟨v, O1, e, r, i, o⟩ := h; exact ⟨v, O1, e, r.mono hk fun a m u q => k a u (o a (i a m)).2 q, i, fun a m => ⟨.inl (o a m).1, (o a m).2⟩⟩
theorem snd_lc {vs : List Nat} (hi : SndI W pi wi) (hg : SndG W pg g js) (hjs : ∀ j ∈ js, j ∈ vs) (ht : SndT W pt tt) (he : SndE W pe te) : SndE W (pLc pi pg pt pe vs) (tLc wi g tt te vs) := by
  intro p D σ H env Qp Q st h k
  refine hi p D σ H env _ _ st h fun c ds J H1 ⟨l1000, I, i0, is, ie⟩ g1 wk => ?_
  obtain ⟨G, Y, w, gk, _, yk⟩ := wk
  intro A hA
  have st1 := st.grow g1
  have pA : p ≠ some A := st1.hv.np hA
  let D' : Addr → Prop := fun b => D b ∨ b = A
  refine lc_it w (fun i H2 => ∃ (acc : List V) (dacc : List (Dt Ob)), H2 A = some (.lst acc) ∧ RA W p (hide D' H2) acc dacc ∧ I i dacc ∧ dacc.length ≤ i ∧ (∀ b u, p ≠ some b → H1 b = some u → H2 b = some u) ∧ (∀ a, p = some a → SrcAt H2 a)) ?_ ?_ ?_ ?_
  · refine ⟨[], [], upd_same, .nil, i0, Nat.le_refl _, fun b u _ e => by rw [upd_ne (ne_of_none e hA)]; exact e, fun a e => ?_⟩
    obtain ⟨r, m, e1, e2⟩ := (st1.hv.src a e).2
    exact ⟨r, m, by rw [upd_ne (ne_of_none e1 hA)]; exact e1, e2⟩
  · rintro i H2 _ ⟨_, _, _, _, _, _, k2, _⟩
    exact gk H2 k2
  · rintro i x H2 H3 hi ⟨acc, dacc, cA, ra, hI, hl, k2, s2⟩ hy
    have st2 : StE W p D' H2 σ env := st1.regrow hA (.lst cA) k2 s2
    have sm : Same (hide D H1) (hide D' H2) := by
      rw [← hide_or_none (D := D) hA]
      exact hide_keep fun b u n e => k2 b u (fun z => n (.inl (st1.hv.src b z).1)) e
    obtain ⟨s3, d, ed, rd⟩ := yk i H2 x H3 D' hi sm st2.hv.dom hy
    have g3 : Grow p H2 H3 := Grow.of st2.hv s3
    have st3 := st2.grow g3
    have turn := is i d dacc ed hI
    refine hg p D' (wipe σ vs) H3 (pwipe env vs) x d _ _ (st3.wipe vs) rd turn fun σ4 env4 q4 st4 l4 e4 => ?_
    refine ⟨?_, ?_⟩
    · have e1 : wipe σ4 vs = wipe (wipe σ vs) vs := wipe_eq l4 fun j hj => e4 j fun z => hj (hjs j z)
      have e2 : wipe (wipe σ vs) vs = wipe σ vs := wipe_eq (wipe_length _ _) fun j hj => wipe_get vs hj
      rw [e1, e2]
    · refine ht p D' σ4 H3 env4 _ _ st4 q4 fun b H5 q5 g5 => ?_
      have cA5 : H5 A = some (.lst acc) := g5.keep _ _ pA (s3 _ _ cA)
      have g25 := g3.trans g5
      have ra5 := ra.mono (g25.hide st2.hv)
      cases b with
      | false =>
        rw [if_neg (by decide)] at q5 ⊢
        exact ⟨acc, dacc, cA5, ra5, q5, Nat.le_succ_of_le hl, fun b u n e => g25.keep b u n (k2 b u n e), g25.src⟩
      | true =>
        rw [if_pos rfl] at q5 ⊢
        refine he p D' σ4 H5 env4 _ _ (st4.grow g5) q5 fun f y v H6 ⟨nf, q6⟩ g6 r6 => ?_
        have cA6 := g6.keep _ _ pA cA5
        have g26 := g25.trans g6
        have hv5 := (st4.grow g5).hv
        have rv6 := RR.clean r6 hv5 nf
        have ra6 := ra5.mono (g6.hide hv5)
        refine ⟨acc, cA6, ?_, acc ++ [v], dacc ++ [y], upd_same, ?_, q6, ?_, ?_, ?_⟩
        · rw [ra.length]
          exact Nat.lt_of_le_of_lt (Nat.le_trans hl (Nat.le_trans (Nat.le_of_lt hi) l1000)) (by decide)
        · rw [hide_upd_in (Or.inr rfl)]
          exact ra6.append (.one rv6)
        · rw [List.length_append, List.length_singleton]
          omega
        · intro b u n e
          rw [upd_ne (ne_of_none e hA)]
          exact g26.keep b u n (k2 b u n e)
        · intro a e
          obtain ⟨r, m, e1, e2⟩ := g26.src a e
          exact ⟨r, m, by rw [upd_ne (fun q => pA (by rw [← q]; exact e))]; exact e1, e2⟩
  · rintro H2 ⟨acc, dacc, cA, ra, hI, hl, k2, s2⟩
    exact k _ _ _ _ (ie dacc hI hl) ⟨fun b u n e => k2 b u n (g1.keep b u n e), s2⟩ ⟨A, acc, rfl, g1.back hA, cA, ra⟩
/-! slices -/
theorem cutD_v : cutV us = cutD us := by funext l h; rfl
theorem RA.cut (r : RA W p H us ds) (l h : Option Int) : RA W p H (cutV us l h) (cutD ds l h) := by
  unfold cutV cutD
  rw [r.length]
  exact (r.drop _).take _
theorem cutD_all {α : Type} {xs : List α} {l h : Option Int} (e : HT.sIx xs.length 0 l = 0 ∧ HT.sIx xs.length xs.length h = xs.length) : cutD xs l h = xs := by
  unfold cutD
  rw [e.1, e.2, List.drop_zero, Nat.sub_zero, List.take_length]
theorem snd_noPart : SndO W pNoPart tNoPart := fun _ _ _ H _ _ _ st h k => k _ H h (Grow.refl st.hv)
theorem snd_part (h : SndE W pe te) : SndO W (pPart pe) (tPart te) := by
  intro p D σ H env Qp Q st h1 k
  refine h p D σ H env _ _ st h1 fun f d v H1 ⟨i, e, q⟩ g1 r1 => ?_
  subst e
  exact ⟨i, (r1.rv st.hv).int, k _ _ q g1⟩
theorem SndO.after {po : PTO Ob} {t : TO} (h : SndO W po t) {Qp : Option Int → Prop} {Q : Option Int → Hp → Prop} (st : StE W p D H σ env) (g1 : Grow p H H1) (h1 : po env Qp)
    (k : ∀ o H', Qp o → Grow p H H' → Q o H') : t σ H1 Q := h p D σ H1 env _ _ (st.grow g1) h1 fun _ _ q g2 => k _ _ q (g1.trans g2)
/-- a slice's three parts, run -/
theorem sl_run {Qp : Dt Ob → Option Int → Option Int → Prop} {r : V → Option Int → Option Int → Hp → VK → Prop} {Q : VK} (st : StE W p D H σ env) (he : SndE W pe te) (hl : SndO W pl tl) (hh : SndO W ph th)
    (h : pe env fun _ d => pl env fun l => ph env fun u => Qp d l u) (k : ∀ v d l u H3, Grow p H H3 → Hv p D H3 → RV W p D H3 v d → Qp d l u → r v l u H3 Q) : tSl r te tl th σ H Q := by
  refine he p D σ H env _ _ st h fun f d v H1 q1 g1 r1 => ?_
  have st1 := st.grow g1
  refine hl p D σ H1 env _ _ st1 q1 fun l H2 q2 g2 => ?_
  have st2 := st1.grow g2
  refine hh p D σ H2 env _ _ st2 q2 fun u H3 q3 g3 => ?_
  exact k v d l u H3 (g1.trans (g2.trans g3)) (st2.grow g3).hv (r1.rvg st.hv st1.hv (g2.trans g3)) q3
theorem snd_slL (he : SndE W pe te) (hl : SndO W pl tl) (hh : SndO W ph th) : SndE W (pSlL pe pl ph) (tSl (rSlL W.K) te tl th) := by
  intro p D σ H env Qp Q st h1 k
  refine sl_run st he hl hh h1 fun v d l u H3 g hv r ⟨ds, e, q⟩ => ?_
  subst e
  obtain ⟨a, us, rfl, ha, r⟩ := r.lst
  exact ⟨a, us, rfl, SqL.of ha, fun c hc => k _ _ _ _ q (g.trans (Grow.new hv hc)) ((fr_lst hv (r.cut l u) hc).back g)⟩
theorem snd_slT (he : SndE W pe te) (hl : SndO W pl tl) (hh : SndO W ph th) : SndE W (pSlT pe pl ph) (tSl (rSlA W.K) te tl th) := by
  intro p D σ H env Qp Q st h1 k
  refine sl_run st he hl hh h1 fun v d l u H3 g hv r ⟨ds, e, q⟩ => ?_
  subst e
  have cx := r.cl_of_tup
  obtain ⟨a, us, rfl, ha, r⟩ := r.tup
  refine ⟨a, us, rfl, ha, fun z => ?_, fun _ c hc => k _ _ _ _ q (g.trans (Grow.new hv hc)) ((cl_tup hv (r.cut l u) hc).back g)⟩
  rw [r.length] at z
  rw [cutD_all z] at q
  exact k _ _ _ _ q g cx
theorem snd_slS (he : SndE W pe te) (hl : SndO W pl tl) (hh : SndO W ph th) : SndE W (pSlS pe pl ph) (tSl rSlS te tl th) := by
  intro p D σ H env Qp Q st h1 k
  refine sl_run st he hl hh h1 fun v d l u H3 g hv r ⟨z, e, l1, q⟩ => ?_
  subst e
  exact ⟨z, r.str, Nat.le_trans l1 line1000, k _ _ _ _ q g (.str _)⟩
/-! dicts -/
theorem key_v {kk : Key} (h : RV W p D H v d) (e : d.key = some kk) : v = kV kk := by
  cases d with
  | int i => cases e; exact h.int
  | str x => cases e; exact h.str
  | _ => cases e
/-- two expressions, run -/
theorem two_run {Qp : Dt Ob → Fl → Dt Ob → Prop} {Q : V → V → Hp → Prop} (st : StE W p D H σ env) (ha : SndE W pa ta) (hb : SndE W pb tb) (h : pa env fun _ x => pb env fun f y => Qp x f y)
    (k : ∀ v w x f y H3, Grow p H H3 → Hv p D H3 → RV W p D H3 v x → RR W p D H H3 f w y → Qp x f y → Q v w H3) : ta σ H fun v H1 => tb σ H1 fun w H2 => Q v w H2 := by
  refine ha p D σ H env _ _ st h fun f d v H1 q1 g1 r1 => ?_
  have st1 := st.grow g1
  refine hb p D σ H1 env _ _ st1 q1 fun f' d' w H2 q2 g2 r2 => ?_
  exact k v w d f' d' H2 (g1.trans g2) (st1.grow g2).hv (r1.rvg st.hv st1.hv g2) (r2.back g1) q2
theorem snd_dget (hd : SndE W pd td) (hy : SndE W py ty) : SndE W (pDGet pd py) (tDGet td ty) := by
  intro p D σ H env Qp Q st h1 k
  refine two_run st hd hy h1 fun v w x f y H3 g hv r1 r2 ⟨es, kk, d, e1, e2, e3, q⟩ => ?_
  subst e1
  obtain ⟨a, us, rfl, ha, r⟩ := r1.dic
  obtain rfl := key_v (r2.rv st.hv) e2
  rcases r.val (k := kk) with ⟨_, z⟩ | ⟨v, d', h1, h2, h3⟩
  · rw [z] at e3; cases e3
  · rw [h2] at e3
    obtain rfl := Option.some.inj e3
    exact ⟨a, v, rfl, .inl ⟨us, kk, ha, rfl, h1.symm⟩, k _ _ _ _ q g h3⟩
theorem val_some {ks : List (Key × V)} (r : RK W p H ks es) (k : Key) : (valV ks k).isSome = (valD es k).isSome := by
  rcases r.val (k := k) with ⟨h, z⟩ | ⟨v, d', h1, h2, h3⟩
  · rw [h, z]; rfl
  · rw [h1, h2]; rfl
theorem snd_din (hy : SndE W py ty) (hd : SndE W pd td) : SndE W (pDIn false py pd) (tDIn ty td) := by
  intro p D σ H env Qp Q st h1 k
  refine two_run st hy hd h1 fun v w x f y H3 g hv r1 r2 ⟨es, kk, e1, e2, q⟩ => ?_
  subst e1
  obtain ⟨a, us, rfl, ha, r⟩ := (r2.rv st.hv).dic
  obtain rfl := key_v r1 e2
  refine ⟨a, _, rfl, .inl ⟨us, kk, ha, rfl, rfl⟩, ?_⟩
  rw [val_some r kk]
  exact k _ _ _ _ q g (.bl _)
theorem snd_dnotin (hy : SndE W py ty) (hd : SndE W pd td) : SndE W (pDIn true py pd) (tDNotIn ty td) := by
  intro p D σ H env Qp Q st h1 k
  refine two_run st hy hd h1 fun v w x f y H3 g hv r1 r2 ⟨es, kk, e1, e2, q⟩ => ?_
  subst e1
  obtain ⟨a, us, rfl, ha, r⟩ := (r2.rv st.hv).dic
  obtain rfl := key_v r1 e2
  refine ⟨a, _, rfl, .inl ⟨us, kk, ha, rfl, rfl⟩, ?_⟩
  rw [val_some r kk]
  exact k _ _ _ _ q g (.bl _)
theorem snd_dnew : SndE W pDNew tDNewK := by
  intro p D σ H env Qp Q st h1 k a ha
  exact k _ _ _ _ h1 (Grow.new st.hv ha) (fr_dic st.hv .nil ha)
end
end Pu
/-! ### statements over trees -/
namespace Pu
open PySem PySem.W PySem.Spec PyProof.Rows L2 Gk
structure Ct where
  p : Option Addr
  B : Addr → Prop
  H0 : Hp
  snap : Hp
  G : Addr → Prop
section
variable {Ob : Type}
def ownA (C : Ct) (σ : L2.St) (env : PEnv Ob) (a : Addr) : Prop := C.H0 a = none ∧ ∃ (i : Nat) (x : PV Ob) (w : Option V), env[i]? = some x ∧ σ[i]? = some w ∧ owns x w a
theorem owns_no {x : PV Ob} {w : Option V} {a : Addr} (h : x.isOwn = false) : ¬ owns x w a := by
  cases x with
  | no => exact fun z => z
  | sh d => exact fun z => z
  | _ => cases h
theorem own_iff {ds : List (Dt Ob)} {a : Addr} : ∀ b, owns (.own ds) (some (.ref a)) b ↔ b = a := fun b => ⟨fun z => by cases z; rfl, fun z => by rw [z]; rfl⟩
theorem ownD_iff {ds : List (Key × Dt Ob)} {a : Addr} : ∀ b, owns (.ownD ds) (some (.ref a)) b ↔ b = a := fun b => ⟨fun z => by cases z; rfl, fun z => by rw [z]; rfl⟩
def DOf (C : Ct) (σ : L2.St) (env : PEnv Ob) : Addr → Prop := fun a => (C.B a ∨ C.G a) ∨ ownA C σ env a
structure StS (W : Wd Ob) (C : Ct) (σ : L2.St) (H : Hp) (env : PEnv Ob) : Prop where
  e : StE W C.p (DOf C σ env) H σ env
  b0 : Hv C.p C.B C.H0
  keep : ∀ b u, C.p ≠ some b → C.H0 b = some u → H b = some u
  new : ∀ (i : Nat) (x : PV Ob) (w : Option V) (a : Addr), env[i]? = some x → σ[i]? = some w → owns x w a → C.H0 a = none
  dis : ∀ (i j : Nat) (x y : PV Ob) (w u : Option V) (a : Addr), env[i]? = some x → σ[i]? = some w → owns x w a → env[j]? = some y → σ[j]? = some u → owns y u a → i = j
  snap : Same C.snap (hide (DOf C σ env) H)
  gnew : ∀ a, C.G a → C.H0 a = none
  gdis : ∀ (i : Nat) (x : PV Ob) (w : Option V) (a : Addr), env[i]? = some x → σ[i]? = some w → owns x w a → ¬ C.G a
structure PEnds (Ob : Type) where
  nx : PEnv Ob → Prop
  rt : Fl → Dt Ob → Prop
  bk : PEnv Ob → Prop := fun _ => False
  ct : PEnv Ob → Prop := fun _ => False
abbrev PTS (Ob : Type) := PEnds Ob → PEnv Ob → Prop
structure EndsOk (W : Wd Ob) (C : Ct) (pD : PEnds Ob) (D : Ends) : Prop where
  nx : ∀ σ H env, StS W C σ H env → pD.nx env → D.nx σ H
  rt : ∀ fl v H d, Grow C.p C.H0 H → RR W C.p C.B C.H0 H fl v d → pD.rt fl d → D.rt v H
  bk : ∀ σ H env, StS W C σ H env → pD.bk env → D.bk σ H
  ct : ∀ σ H env, StS W C σ H env → pD.ct env → D.ct σ H
def SndS (W : Wd Ob) (pt : PTS Ob) (ts : TS) : Prop := ∀ (C : Ct) (pD : PEnds Ob) (D : Ends) (σ : L2.St) (H : Hp) (env : PEnv Ob), StS W C σ H env → pt pD env → EndsOk W C pD D → ts D σ H
/-- a target, at a statement -/
def SndGS (W : Wd Ob) (pg : PTG Ob) (g : TG) : Prop := ∀ (C : Ct) (σ : L2.St) (H : Hp) (env : PEnv Ob) (x : V) (d : Dt Ob) (Qp : PEnv Ob → Prop) (Q : L2.St → Hp → Prop), StS W C σ H env → R0 W C.p (hide (DOf C σ env) H) x d → pg d env Qp →
  (∀ σ' env', Qp env' → StS W C σ' H env' → Q σ' H) → g x σ H Q
def SndGsS (W : Wd Ob) (pg : PTGs Ob) (g : TGs) : Prop := ∀ (C : Ct) (σ : L2.St) (H : Hp) (env : PEnv Ob) (x : List V) (d : List (Dt Ob)) (Qp : PEnv Ob → Prop) (Q : L2.St → Hp → Prop), StS W C σ H env → RA W C.p (hide (DOf C σ env) H) x d → pg d env Qp →
  (∀ σ' env', Qp env' → StS W C σ' H env' → Q σ' H) → g x σ H Q
def shE (env : PEnv Ob) : PEnv Ob := env.map PV.share
/-- what a slot takes: m: the name is to own a new list or dict -/
def toPV (m : Bool) (fl : Fl) (d : Dt Ob) : Option (PV Ob) := match m, fl, d with
  | true, .fr, .lst ds => some (.own ds)
  | true, .fr, .dic es => some (.ownD es)
  | true, _, _ => none
  | false, .raw, _ => none
  | false, _, d => some (.sh d)
def pNext (pD : PEnds Ob) (env : PEnv Ob) : Prop := pD.nx env
def pBreak (pD : PEnds Ob) (env : PEnv Ob) : Prop := pD.bk env
def pCont (pD : PEnds Ob) (env : PEnv Ob) : Prop := pD.ct env
def pNever (_ : PEnds Ob) (_ : PEnv Ob) : Prop := False
/-- what stands behind a statement, not opened -/
def hold (f : PEnv Ob → Prop) (env : PEnv Ob) : Prop := f env
def pSeq (a b : PTS Ob) (pD : PEnds Ob) (env : PEnv Ob) : Prop := a { pD with nx := hold (b pD) } env
def pIfS (pt : PTT Ob) (a b : PTS Ob) (pD : PEnds Ob) (env : PEnv Ob) : Prop := pt (shE env) fun k => if k = true then a pD env else b pD env
def pAsg (m : Bool) (i : Nat) (pe : PTE Ob) (pD : PEnds Ob) (env : PEnv Ob) : Prop := pe env fun fl d => ∃ x, toPV m fl d = some x ∧ pD.nx (env.set i x)
/-- .. of a flat value, the own lists read as they are -/
def pAsgF (i : Nat) (pe : PTE Ob) (pD : PEnds Ob) (env : PEnv Ob) : Prop := pe (shE env) fun _ d => ∃ v, d.fv = some v ∧ pD.nx (env.set i (.sh d))
def pAsgT (pe : PTE Ob) (pg : PTG Ob) (pD : PEnds Ob) (env : PEnv Ob) : Prop := pe env fun fl d => fl ≠ .raw ∧ pg d env pD.nx
def pPar (i j : Nat) (m1 m2 : Bool) (pa pb : PTE Ob) (pD : PEnds Ob) (env : PEnv Ob) : Prop := i < env.length ∧ j < env.length ∧ pa env fun f1 d1 => pb env fun f2 d2 => ∃ x y, toPV m1 f1 d1 = some x ∧ toPV m2 f2 d2 = some y ∧ pD.nx ((env.set i x).set j y)
def pDrop (pe : PTE Ob) (pD : PEnds Ob) (env : PEnv Ob) : Prop := pe env fun _ _ => pD.nx env
def pApp (i : Nat) (pe : PTE Ob) (pD : PEnds Ob) (env : PEnv Ob) : Prop := ∃ ds, env[i]? = some (.own ds) ∧ ds.length ≤ 999 ∧ pe env fun fl d => fl ≠ .raw ∧ pD.nx (env.set i (.own (ds ++ [d])))
def pSetI (i : Nat) (pe pk : PTE Ob) (pD : PEnds Ob) (env : PEnv Ob) : Prop := ∃ ds, env[i]? = some (.own ds) ∧ pe env fun fl d => pk env fun _ x => ∃ k j, fl ≠ .raw ∧ x = .int k ∧ ixN ds.length k = some j ∧ pD.nx (env.set i (.own (ds.set j d)))
def pPutD (i : Nat) (pe pk : PTE Ob) (pD : PEnds Ob) (env : PEnv Ob) : Prop := ∃ es, env[i]? = some (.ownD es) ∧ es.length ≤ 999 ∧ pe env fun fl d => pk env fun _ x => ∃ k, fl ≠ .raw ∧ x.key = some k ∧ pD.nx (env.set i (.ownD (putD es k d)))
def pRet (pe : PTE Ob) (pD : PEnds Ob) (env : PEnv Ob) : Prop := pe (shE env) pD.rt
def pRetO (i : Nat) (pD : PEnds Ob) (env : PEnv Ob) : Prop := (∃ ds, env[i]? = some (.own ds) ∧ pD.rt .fr (.lst ds)) ∨ ∃ ds, env[i]? = some (.ownD ds) ∧ pD.rt .fr (.dic ds)
def pRetN (pD : PEnds Ob) (_ : PEnv Ob) : Prop := pD.rt .cl .non
def pFor (pi : PTI Ob) (pg : PTG Ob) (pb : PTS Ob) (pD : PEnds Ob) (env : PEnv Ob) : Prop := pi env fun c ds => c = true ∧ ∃ I : Nat → PEnv Ob → Prop, I 0 env ∧
  (∀ i d env', ds[i]? = some d → I i env' → pg d env' fun env2 => pb { pD with nx := I (i + 1), ct := I (i + 1), bk := pD.nx } env2) ∧ ∀ env', I ds.length env' → pD.nx env'
def pWhile (pt : PTT Ob) (pb : PTS Ob) (pD : PEnds Ob) (env : PEnv Ob) : Prop := ∃ I : Nat → PEnv Ob → Prop, (∃ m, I m env) ∧ ∀ m env', I m env' → pt (shE env') fun k => if k = true then pb { pD with nx := fun e => ∃ m', m' < m ∧ I m' e, ct := fun e => ∃ m', m' < m ∧ I m' e, bk := pD.nx } env' else pD.nx env'
end
section
variable {Ob : Type} {W : Wd Ob} {C : Ct} {H H' H0 H1 H2 : Hp} {v : V} {d : Dt Ob} {ds : List (Dt Ob)} {us : List V} {es : List (Key × Dt Ob)} {fl : Fl} {σ : L2.St} {env : PEnv Ob} {i j : Nat}
variable {pe pa pb pk : PTE Ob} {te ta tb tk : TE} {pt : PTT Ob} {tt : TT} {px : PTA Ob} {tx : TA} {pi : PTI Ob} {wi : TI} {pg : PTG Ob} {g : TG} {pgs : PTGs Ob} {gs : TGs} {ps pu : PTS Ob} {ts tu : TS}
theorem StS.hv (s : StS W C σ H env) : Hv C.p (DOf C σ env) H := s.e.hv
theorem StS.g0 (s : StS W C σ H env) : Grow C.p C.H0 H := ⟨s.keep, fun a e => (s.hv.src a e).2⟩
theorem StS.grow (s : StS W C σ H env) (g : Grow C.p H H') : StS W C σ H' env :=
  ⟨s.e.grow g, s.b0, fun b u n e => g.keep b u n (s.keep b u n e), s.new, s.dis, s.snap.trans (g.hide s.hv), s.gnew, s.gdis⟩
theorem set_get {α : Type} {l : List α} {x y : α} {i j : Nat} (h : (l.set i x)[j]? = some y) : (j = i ∧ y = x) ∨ (j ≠ i ∧ l[j]? = some y) := by
  by_cases e : j = i
  · subst e
    by_cases l1 : j < l.length
    · rw [List.getElem?_set_self l1] at h
      exact .inl ⟨rfl, (Option.some.inj h).symm⟩
    · rw [List.getElem?_eq_none (by rw [List.length_set]; omega)] at h
      cases h
  · rw [List.getElem?_set_ne (Ne.symm e)] at h
    exact .inr ⟨e, h⟩
theorem SlOk.mono {p : Option Addr} {D D' : Addr → Prop} {s : Option V} {x : PV Ob} (h : SlOk W p D H s x) (k : Same (hide D H) (hide D' H')) (o : ∀ a, owns x s a → D' a ∧ H' a = H a) : SlOk W p D' H' s x := by
  cases x with
  | no => trivial
  | sh d => obtain ⟨v, e, r⟩ := h; exact ⟨v, e, r.mono k⟩
  | own ds => obtain ⟨b, us, e, db, pb, hb, r⟩ := h; exact ⟨b, us, e, (o b e).1, pb, by rw [(o b e).2]; exact hb, r.mono k⟩
  | ownD ds => obtain ⟨b, us, e, db, pb, hb, r⟩ := h; exact ⟨b, us, e, (o b e).1, pb, by rw [(o b e).2]; exact hb, r.mono k⟩
  | deep O f d => obtain ⟨v, O1, e, r, i, q⟩ := h; exact ⟨v, O1, e, r.mono k fun a m u z => by rw [(o a (i a m)).2]; exact z, i, fun a m => ⟨(o a m).1, (q a m).2⟩⟩
theorem pr_imp {α β : Type} {F G : α → β → Prop} : ∀ {xs : List α} {ys : List β}, Paired F xs ys → (∀ (i : Nat) (x : α) (y : β), xs[i]? = some x → ys[i]? = some y → F x y → G x y) → Paired G xs ys
  | _, _, .nil, _ => .nil
  | _, _, .cons r t, h => .cons (h 0 _ _ rfl rfl r) (pr_imp t fun i x y e1 e2 => h (i + 1) x y (by simpa using e1) (by simpa using e2))
theorem pr_set2 {α β : Type} {F G : α → β → Prop} {xs : List α} {ys : List β} {x : α} {y : β} (i : Nat) (h : Paired F xs ys) (r : G x y) (k : ∀ (j : Nat) (x : α) (y : β), j ≠ i → xs[j]? = some x → ys[j]? = some y → F x y → G x y) : Paired G (xs.set i x) (ys.set i y) := by
  induction h generalizing i with
  | nil => exact .nil
  | cons r' t ih =>
    cases i with
    | zero => exact .cons r (pr_imp t fun j x y e1 e2 => k (j + 1) x y (Nat.succ_ne_zero _) (by simpa using e1) (by simpa using e2))
    | succ i => exact .cons (k 0 _ _ (Nat.succ_ne_zero _).symm rfl rfl r') (ih i fun j x y n e1 e2 => k (j + 1) x y (fun z => n (Nat.succ.inj z)) (by simpa using e1) (by simpa using e2))
/-- a slot is stored anew: the state behind it, where the new slot's own facts are known -/
theorem StS.put (s : StS W C σ H env) (g : Grow C.p H H') {x : PV Ob} {v : V}
    (hs : Same (hide (DOf C σ env) H) (hide (DOf C (σ.set i (some v)) (env.set i x)) H'))
    (hx : SlOk W C.p (DOf C (σ.set i (some v)) (env.set i x)) H' (some v) x)
    (hn : ∀ a, owns x (some v) a → C.H0 a = none ∧ SoftAt H' a ∧ ¬ C.G a ∧ ∀ (j : Nat) (y : PV Ob) (u : Option V), j ≠ i → env[j]? = some y → σ[j]? = some u → ¬ owns y u a) : StS W C (σ.set i (some v)) H' (env.set i x) := by
  have keep : ∀ b u, C.p ≠ some b → C.H0 b = some u → H' b = some u := fun b u n e => g.keep b u n (s.keep b u n e)
  have old : ∀ (j : Nat) (y : PV Ob) (u : Option V) (a : Addr), j ≠ i → env[j]? = some y → σ[j]? = some u → owns y u a → DOf C (σ.set i (some v)) (env.set i x) a := fun j y u a n e q o =>
    .inr ⟨s.new j y u a e q o, j, y, u, by rw [List.getElem?_set_ne (Ne.symm n)]; exact e, by rw [List.getElem?_set_ne (Ne.symm n)]; exact q, o⟩
  refine ⟨⟨⟨fun a z => ?_, fun a e => ⟨.inl (.inl (s.b0.src a e).1), g.src a e⟩⟩, ?_⟩, s.b0, keep, fun j y u a e q o => ?_, fun j k y z u t a e1 q1 o1 e2 q2 o2 => ?_, s.snap.trans hs, s.gnew, fun j y u a e q o => ?_⟩
  · rcases z with (z | z) | ⟨z1, j, y, u, e, q, o⟩
    · by_cases pp : C.p = some a
      · exact (g.src a pp).soft
      · obtain ⟨u, hu, su⟩ := s.b0.sft a z
        exact ⟨u, keep a u pp hu, su⟩
    · exact (s.hv.grow g).sft a (.inl (.inr z))
    · rcases set_get e with ⟨rfl, rfl⟩ | ⟨n, e⟩
      · rcases set_get q with ⟨_, rfl⟩ | ⟨n, _⟩
        · exact (hn a o).2.1
        · exact absurd rfl n
      · rcases set_get q with ⟨n', _⟩ | ⟨_, q⟩
        · exact absurd n' n
        · have da : DOf C σ env a := .inr ⟨z1, j, y, u, e, q, o⟩
          exact (s.hv.grow g).sft a da
  · refine pr_set2 i s.e.sl hx fun j w y n e1 e2 h => h.mono hs fun a o => ?_
    refine ⟨old j y w a n e2 e1 o, ?_⟩
    have z2 := s.new j y w a e2 e1 o
    have : C.p ≠ some a := fun q => by
      have := (s.b0.src a q).1
      exact s.b0.dom a this z2
    have hda : DOf C σ env a := .inr ⟨z2, j, y, w, e2, e1, o⟩
    cases q : H a with
    | none => exact absurd q (s.hv.dom a hda)
    | some u => exact g.keep a u this q
  · rcases set_get e with ⟨rfl, rfl⟩ | ⟨n, e⟩
    · rcases set_get q with ⟨_, rfl⟩ | ⟨n, _⟩
      · exact (hn a o).1
      · exact absurd rfl n
    · rcases set_get q with ⟨n', _⟩ | ⟨_, q⟩
      · exact absurd n' n
      · exact s.new j y u a e q o
  · rcases set_get e1 with ⟨rfl, rfl⟩ | ⟨n1, f1⟩
    · rcases set_get e2 with ⟨rfl, rfl⟩ | ⟨n2, f2⟩
      · rfl
      · rcases set_get q1 with ⟨_, rfl⟩ | ⟨n, _⟩
        · rcases set_get q2 with ⟨n, _⟩ | ⟨_, r2⟩
          · exact absurd n n2
          · exact absurd o2 ((hn a o1).2.2.2 k z t n2 f2 r2)
        · exact absurd rfl n
    · rcases set_get e2 with ⟨rfl, rfl⟩ | ⟨n2, f2⟩
      · rcases set_get q2 with ⟨_, rfl⟩ | ⟨n, _⟩
        · rcases set_get q1 with ⟨n, _⟩ | ⟨_, r1⟩
          · exact absurd n n1
          · exact absurd o1 ((hn a o2).2.2.2 j y u n1 f1 r1)
        · exact absurd rfl n
      · rcases set_get q1 with ⟨n, _⟩ | ⟨_, r1⟩
        · exact absurd n n1
        · rcases set_get q2 with ⟨n, _⟩ | ⟨_, r2⟩
          · exact absurd n n2
          · exact s.dis j k y z u t a f1 r1 o1 f2 r2 o2
  · rcases set_get e with ⟨rfl, rfl⟩ | ⟨n, e⟩
    · rcases set_get q with ⟨_, rfl⟩ | ⟨n, _⟩
      · exact (hn a o).2.2.1
      · exact absurd rfl n
    · rcases set_get q with ⟨n', _⟩ | ⟨_, q⟩
      · exact absurd n' n
      · exact s.gdis j y u a e q o
theorem DOf.set_any {x : PV Ob} : ∀ a, DOf C (σ.set i (some v)) (env.set i x) a → DOf C σ env a ∨ owns x (some v) a := fun a z => by
  rcases z with z | ⟨z1, j, y, u, e, q, o⟩
  · exact .inl (.inl z)
  · rcases set_get e with ⟨rfl, rfl⟩ | ⟨n, e⟩
    · rcases set_get q with ⟨_, rfl⟩ | ⟨n, _⟩
      · exact .inr o
      · exact absurd rfl n
    · rcases set_get q with ⟨n', _⟩ | ⟨_, q⟩
      · exact absurd n' n
      · exact .inl (.inr ⟨z1, j, y, u, e, q, o⟩)
theorem DOf.set_sh {x : PV Ob} (hx : x.isOwn = false) : ∀ a, DOf C (σ.set i (some v)) (env.set i x) a → DOf C σ env a := fun a z => (DOf.set_any a z).resolve_right (owns_no hx)
theorem StS.setSh (s : StS W C σ H env) (r : R0 W C.p (hide (DOf C σ env) H) v d) : StS W C (σ.set i (some v)) H (env.set i (.sh d)) := by
  have m := DOf.set_sh (C := C) (σ := σ) (env := env) (i := i) (v := v) (x := .sh d) rfl
  have hs := hide_mono (H := H) m
  exact s.put (Grow.refl s.hv) hs ⟨v, rfl, r.mono hs⟩ fun _ z => z.elim
theorem StS.lenE (s : StS W C σ H env) : σ.length = env.length := pr_len s.e.sl
/-- a new list or dict goes to a slot that owns it -/
theorem StS.setOwn (s : StS W C σ H env) (g : Grow C.p H H') {a : Addr} {x : PV Ob} (ha : H a = none) (hi : i < env.length) (ox : ∀ b, owns x (some (.ref a)) b ↔ b = a) (hd : SoftAt H' a)
    (hx : ∀ D' : Addr → Prop, (∀ b, D' b → DOf C σ env b ∨ b = a) → D' a → SlOk W C.p D' H' (some (.ref a)) x) : StS W C (σ.set i (some (.ref a))) H' (env.set i x) := by
  have m : ∀ b, DOf C (σ.set i (some (.ref a))) (env.set i x) b → DOf C σ env b ∨ b = a := fun b z => (DOf.set_any b z).imp id (ox b).mp
  have h0 : C.H0 a = none := s.g0.back ha
  have na : ¬ DOf C σ env a := s.hv.nd ha
  have hs : Same (hide (DOf C σ env) H) (hide (DOf C (σ.set i (some (.ref a))) (env.set i x)) H') := by
    rw [← hide_or_none (D := DOf C σ env) ha]
    exact ((hide_keep fun b u n e => g.keep b u (fun z => n (.inl (s.hv.src b z).1)) e)).trans (hide_mono m)
  have da : DOf C (σ.set i (some (.ref a))) (env.set i x) a := .inr ⟨h0, i, x, _, by rw [List.getElem?_set_self hi], by rw [List.getElem?_set_self (by rw [s.lenE]; exact hi)], (ox a).mpr rfl⟩
  refine s.put g hs (hx _ m da) fun b ob => ?_
  obtain rfl := (ox b).mp ob
  exact ⟨h0, hd, fun z => na (.inl (.inr z)), fun j y u n e q o => na (.inr ⟨h0, j, y, u, e, q, o⟩)⟩
theorem toPV_owns {x : PV Ob} (e : toPV true .fr d = some x) {a : Addr} : ∀ b, owns x (some (.ref a)) b ↔ b = a := by
  cases d with
  | lst ds => obtain rfl := Option.some.inj e; exact own_iff
  | dic ds => obtain rfl := Option.some.inj e; exact ownD_iff
  | _ => cases e
/-- a value goes to a slot, as its mode says -/
theorem StS.setV (s : StS W C σ H env) (g : Grow C.p H H') {m : Bool} {x : PV Ob} (r : RR W C.p (DOf C σ env) H H' fl v d) (e : toPV m fl d = some x) (hi : i < env.length) : StS W C (σ.set i (some v)) H' (env.set i x) := by
  cases m with
  | false =>
    have : fl ≠ .raw ∧ x = .sh d := by
      cases fl with
      | raw => cases d <;> cases e
      | cl => cases d <;> exact ⟨by decide, (Option.some.inj e).symm⟩
      | fr => cases d <;> exact ⟨by decide, (Option.some.inj e).symm⟩
    obtain ⟨n, rfl⟩ := this
    exact (s.grow g).setSh (RR.clean r s.hv n)
  | true =>
    cases fl with
    | raw => cases d <;> cases e
    | cl => cases d <;> cases e
    | fr =>
      cases d with
      | lst ds =>
        obtain rfl := Option.some.inj e
        obtain ⟨a, us, rfl, ha, h1, r⟩ := r
        refine s.setOwn g ha hi own_iff (.lst h1) fun D' k da => ⟨a, us, rfl, da, s.hv.np ha, h1, r.mono (hide_mono k)⟩
      | dic ds =>
        obtain rfl := Option.some.inj e
        obtain ⟨a, us, rfl, ha, h1, r⟩ := r
        refine s.setOwn g ha hi ownD_iff (.dic h1) fun D' k da => ⟨a, us, rfl, da, s.hv.np ha, h1, r.mono (hide_mono k)⟩
      | _ => cases e
/-- the own lists, read as they are -/
theorem shE_get {y : PV Ob} (h : (shE env)[i]? = some y) : ∃ x, env[i]? = some x ∧ y = x.share := by
  unfold shE at h
  rw [List.getElem?_map] at h
  cases e : env[i]? with
  | none => rw [e] at h; cases h
  | some x => rw [e] at h; exact ⟨x, rfl, (Option.some.inj h).symm⟩
theorem StS.shareE (s : StS W C σ H env) : StE W C.p C.B H σ (shE env) := by
  have m : ∀ a, C.B a → DOf C σ env a := fun a z => .inl (.inl z)
  have hs := hide_mono (H := H) m
  refine ⟨⟨fun a z => s.hv.sft a (m a z), fun a e => ⟨(s.b0.src a e).1, (s.hv.src a e).2⟩⟩, ?_⟩
  have : ∀ {l : List (Option V)} {en : List (PV Ob)}, Paired (SlOk W C.p (DOf C σ env) H) l en → (∀ (i : Nat) (x : PV Ob) (w : Option V) (a : Addr), en[i]? = some x → l[i]? = some w → owns x w a → C.H0 a = none) → Paired (SlOk W C.p C.B H) l (en.map PV.share) := by
    intro l en h
    induction h with
    | nil => exact fun _ => .nil
    | @cons w x l en r t ih =>
      intro nw
      refine .cons ?_ (ih fun i x w a e q o => nw (i + 1) x w a (by simpa using e) (by simpa using q) o)
      have n0 := fun a o => nw 0 x w a rfl rfl o
      cases x with
      | no => trivial
      | sh d => obtain ⟨v, e, r⟩ := r; exact ⟨v, e, r.mono hs⟩
      | own ds =>
        obtain ⟨b, us, rfl, db, pb, hb, r⟩ := r
        have e2 := n0 b rfl
        have nb : ¬ C.B b := fun z => s.b0.dom b z e2
        exact ⟨_, rfl, .lst (by rw [hide_at nb]; exact hb) (r.mono hs)⟩
      | ownD ds =>
        obtain ⟨b, us, rfl, db, pb, hb, r⟩ := r
        have e2 := n0 b rfl
        have nb : ¬ C.B b := fun z => s.b0.dom b z e2
        exact ⟨_, rfl, .dic (.inl (by rw [hide_at nb]; exact hb)) (r.mono hs)⟩
      | deep O f d =>
        obtain ⟨v, O1, rfl, r, i, q⟩ := r
        exact ⟨v, rfl, r.clean hs fun a m z => s.b0.dom a z (n0 a (i a m))⟩
  exact this s.e.sl s.new
theorem EndsOk.seq (h : SndS W pu tu) {pD : PEnds Ob} {D : Ends} (k : EndsOk W C pD D) : EndsOk W C { pD with nx := hold (pu pD) } { D with nx := tu D } :=
  ⟨fun σ H env s q => h C pD D σ H env s q k, k.rt, k.bk, k.ct⟩
theorem snd_next : SndS W pNext tNext := fun _ _ _ σ H env s h k => k.nx σ H env s h
theorem snd_break : SndS W pBreak tBreak := fun _ _ _ σ H env s h k => k.bk σ H env s h
theorem snd_cont : SndS W pCont tCont := fun _ _ _ σ H env s h k => k.ct σ H env s h
theorem snd_never : SndS W pNever tNever := fun _ _ _ _ _ _ _ h _ => h
theorem snd_seq (h1 : SndS W ps ts) (h2 : SndS W pu tu) : SndS W (pSeq ps pu) (tSeq ts tu) := fun C pD D σ H env s h k => h1 C _ _ σ H env s h (k.seq h2)
theorem snd_ifS (ht : SndT W pt tt) (h1 : SndS W ps ts) (h2 : SndS W pu tu) : SndS W (pIfS pt ps pu) (tIfS tt ts tu) := by
  intro C pD D σ H env s h k
  refine ht C.p C.B σ H (shE env) _ _ s.shareE h fun b H1 q g => ?_
  cases b with
  | true =>
    rw [if_pos rfl] at q ⊢
    exact h1 C pD D σ H1 env (s.grow g) q k
  | false =>
    rw [if_neg (by decide)] at q ⊢
    exact h2 C pD D σ H1 env (s.grow g) q k
theorem set_oob {α : Type} {l : List α} {x : α} {i : Nat} (h : ¬ i < l.length) : l.set i x = l := List.set_eq_of_length_le (by omega)
theorem snd_asg {m : Bool} (he : SndE W pe te) : SndS W (pAsg m i pe) (tAsg te (gName i)) := by
  intro C pD D σ H env s h k
  refine he C.p (DOf C σ env) σ H env _ _ s.e h fun fl d v H1 ⟨x, e, q⟩ g r => ?_
  by_cases hi : i < env.length
  · exact k.nx _ _ _ (s.setV g r e hi) q
  · rw [set_oob hi] at q
    show D.nx (σ.set i (some v)) H1
    rw [set_oob (by rw [s.lenE]; exact hi)]
    exact k.nx _ _ _ (s.grow g) q
theorem snd_asgF (he : SndE W pe te) : SndS W (pAsgF i pe) (tAsg te (gName i)) := by
  intro C pD D σ H env s h k
  refine he C.p C.B σ H (shE env) _ _ s.shareE h fun fl d v H1 ⟨w, e, q⟩ g r => ?_
  have rv := r.rv s.shareE.hv
  obtain rfl := rv.fv e
  exact k.nx _ _ _ ((s.grow g).setSh (R0.of_fv e)) q
theorem snd_gNS : SndGS W (pgN i) (gName i) := fun C σ H env x d Qp Q s r h k => k _ _ h (s.setSh r)
theorem snd_gNilS : SndGsS W pgNil gNil := by
  intro C σ H env x d Qp Q s r h k
  obtain ⟨rfl, h⟩ := h
  cases r
  exact ⟨rfl, k _ _ h s⟩
/-- a target stores no list of its own: what is hidden only grows less -/
def SndGS' (W : Wd Ob) (pg : PTG Ob) (g : TG) : Prop := ∀ (C : Ct) (σ : L2.St) (H : Hp) (env : PEnv Ob) (x : V) (d : Dt Ob) (Qp : PEnv Ob → Prop) (Q : L2.St → Hp → Prop), StS W C σ H env → R0 W C.p (hide (DOf C σ env) H) x d → pg d env Qp →
  (∀ σ' env', Qp env' → StS W C σ' H env' → Same (hide (DOf C σ env) H) (hide (DOf C σ' env') H) → Q σ' H) → g x σ H Q
theorem snd_gNS' : SndGS' W (pgN i) (gName i) := fun C σ H env x d Qp Q s r h k => k _ _ h (s.setSh r) (hide_mono (DOf.set_sh rfl))
theorem snd_gConsS (h : SndGS' W pg g) (h' : SndGsS W pgs gs) : SndGsS W (pgCons pg pgs) (gCons g gs) := by
  intro C σ H env x d Qp Q s r h1 k
  obtain ⟨d1, r1, rfl, h1⟩ := h1
  cases r with
  | cons rv rt => exact ⟨_, _, rfl, h C σ H env _ _ _ _ s rv h1 fun σ1 env1 q1 s1 m1 => h' C σ1 H env1 _ _ _ _ s1 (rt.mono m1) q1 k⟩
theorem snd_gTS {n : Nat} (h : SndGsS W pgs gs) : SndGS W (pgT n pgs) (gTup W.K n gs) := by
  intro C σ H env x d Qp Q s r h1 k
  obtain ⟨ds, rfl, l, h1⟩ := h1
  cases r with
  | tup ha r => exact ⟨_, _, rfl, SqT.of (hide_some ha).2, by rw [r.length]; exact l, h C σ H env _ _ _ _ s r h1 k⟩
theorem snd_asgT (he : SndE W pe te) (hg : SndGS W pg g) : SndS W (pAsgT pe pg) (tAsg te g) := by
  intro C pD D σ H env s h k
  refine he C.p (DOf C σ env) σ H env _ _ s.e h fun fl d v H1 ⟨n, q⟩ gr r => ?_
  exact hg C σ H1 env v d _ _ (s.grow gr) (RR.clean r s.hv n) q fun σ' env' q' s' => k.nx _ _ _ s' q'
theorem snd_drop (he : SndE W pe te) : SndS W (pDrop pe) (tDrop te) := by
  intro C pD D σ H env s h k
  exact he C.p (DOf C σ env) σ H env _ _ s.e h fun fl d v H1 q gr r => k.nx _ _ _ (s.grow gr) q
theorem snd_ret (he : SndE W pe te) : SndS W (pRet pe) (tRet te) := by
  intro C pD D σ H env s h k
  refine he C.p C.B σ H (shE env) _ _ s.shareE h fun fl d v H1 q gr r => k.rt fl v H1 d (s.g0.trans gr) ?_ q
  exact r.back s.g0
theorem snd_retN : SndS W pRetN tRetN := fun C pD D σ H env s h k => k.rt .cl .non H .non s.g0 (show R0 W C.p (hide C.B H) .non .non from .non) h
theorem snd_retO : SndS W (pRetO i) (tRet (tVar i)) := by
  intro C pD D σ H env s h k
  have mm : ∀ a, ownA C σ env a → ∀ b, (C.B b ∨ b = a) → DOf C σ env b := fun a z b q => by
    rcases q with q | rfl
    · exact .inl (.inl q)
    · exact .inr z
  rcases h with ⟨ds, e, q⟩ | ⟨ds, e, q⟩
  · obtain ⟨w, ew, a, us, rfl, da, pa, ha, r⟩ := s.e.get e
    have e2 := s.new i _ _ a e ew rfl
    exact ⟨_, ew, k.rt .fr _ _ (.lst ds) s.g0 ⟨a, us, rfl, e2, ha, r.mono (hide_mono (mm a ⟨e2, i, _, _, e, ew, rfl⟩))⟩ q⟩
  · obtain ⟨w, ew, a, us, rfl, da, pa, ha, r⟩ := s.e.get e
    have e2 := s.new i _ _ a e ew rfl
    exact ⟨_, ew, k.rt .fr _ _ (.dic ds) s.g0 ⟨a, us, rfl, e2, ha, r.mono (hide_mono (mm a ⟨e2, i, _, _, e, ew, rfl⟩))⟩ q⟩
end
end Pu
/-! ### own lists that change, loops, calls, defs -/
namespace Pu
open PySem PySem.W PySem.Spec PyProof.Rows L2 Gk
section
variable {Ob : Type}
/-- what a def promises, over trees -/
def PFn (W : Wd Ob) (U : (Addr → Prop) → Prop) (F : List (Dt Ob) → PQ Ob → Prop) : Sp := fun vs H Q _ => ∃ (z : Addr → Prop) (p : Option Addr) (B : Addr → Prop) (ds : List (Dt Ob)) (Qp : PQ Ob), U z ∧ Hv p B H ∧ RA (W.at z) p (hide B H) vs ds ∧ F ds Qp ∧
  ∀ fl d v H', Qp fl d → Grow p H H' → RR (W.at z) p B H H' fl v d → Q v H'
def pCall (F : List (Dt Ob) → PQ Ob → Prop) (dds : List (Dt Ob)) (pa : PTA Ob) (env : PEnv Ob) (Q : PQ Ob) : Prop := pa env fun xs => okArgs xs ∧ F (xs.map (·.2) ++ dds) Q
def initE (N : List Str) (ds : List (Dt Ob)) : PEnv Ob := ds.map .sh ++ List.replicate (N.length - ds.length) .no
end
section
variable {Ob : Type} {W : Wd Ob} {C : Ct} {H H' H0 H1 H2 : Hp} {v : V} {d : Dt Ob} {ds : List (Dt Ob)} {us : List V} {es : List (Key × Dt Ob)} {fl : Fl} {σ : L2.St} {env : PEnv Ob} {i j : Nat}
variable {pe pa pb pk : PTE Ob} {te ta tb tk : TE} {pt : PTT Ob} {tt : TT} {px : PTA Ob} {tx : TA} {pi : PTI Ob} {wi : TI} {pg : PTG Ob} {g : TG} {ps pu : PTS Ob} {ts tu : TS}
theorem DOf.mut {x x' : PV Ob} (e : env[i]? = some x) (o : ∀ w a, owns x w a ↔ owns x' w a) : DOf C σ (env.set i x') = DOf C σ env := by
  have hl := (List.getElem?_eq_some_iff.mp e).1
  funext a
  refine propext ⟨fun z => ?_, fun z => ?_⟩
  · rcases z with z | ⟨z1, j, y, u, ey, q, oy⟩
    · exact .inl z
    · rcases set_get ey with ⟨rfl, rfl⟩ | ⟨n, ey⟩
      · exact .inr ⟨z1, j, x, u, e, q, (o u a).mpr oy⟩
      · exact .inr ⟨z1, j, y, u, ey, q, oy⟩
  · rcases z with z | ⟨z1, j, y, u, ey, q, oy⟩
    · exact .inl z
    · by_cases n : j = i
      · subst n
        rw [e] at ey
        cases ey
        exact .inr ⟨z1, j, x', u, by rw [List.getElem?_set_self hl], q, (o u a).mp oy⟩
      · exact .inr ⟨z1, j, y, u, by rw [List.getElem?_set_ne (Ne.symm n)]; exact ey, q, oy⟩
/-- an own list or dict, or one of an own tree's lists, changes -/
theorem StS.mutW (s : StS W C σ H env) {a : Addr} {x x' : PV Ob} {w : Option V} {u : HO} (e : env[i]? = some x) (o : ∀ w a, owns x w a ↔ owns x' w a) (ew : σ[i]? = some w) (oa : owns x w a) (su : Soft u)
    (hx : SlOk W C.p (DOf C σ env) (upd H a u) w x') : StS W C σ (upd H a u) (env.set i x') := by
  have na : C.H0 a = none := s.new i x w a e ew oa
  have da : DOf C σ env a := .inr ⟨na, i, x, w, e, ew, oa⟩
  have pa : C.p ≠ some a := s.b0.np na
  have hD := DOf.mut (C := C) (σ := σ) e o
  have hh : hide (DOf C σ env) (upd H a u) = hide (DOf C σ env) H := hide_upd_in da
  refine ⟨⟨⟨fun b z => ?_, fun b q => ?_⟩, ?_⟩, s.b0, fun b w n q => ?_, fun j y t b ey q oy => ?_, fun j k y z t v b e1 q1 o1 e2 q2 o2 => ?_, ?_, s.gnew, fun j y t b e1 q1 o1 => ?_⟩
  · rw [hD] at z
    by_cases q : b = a
    · subst q; exact ⟨_, upd_same, su⟩
    · obtain ⟨w, e1, e2⟩ := s.hv.sft b z
      exact ⟨w, by rw [upd_ne q]; exact e1, e2⟩
  · rw [hD]
    obtain ⟨z, r, m, e1, e2⟩ := s.hv.src b q
    exact ⟨z, r, m, by rw [upd_ne (fun w => pa (by rw [← w]; exact q))]; exact e1, e2⟩
  · rw [hD]
    have hs : σ.set i w = σ := by
      apply List.ext_getElem?
      intro k
      by_cases q : k = i
      · subst q
        rw [List.getElem?_set_self (List.getElem?_eq_some_iff.mp ew).1, ew]
      · rw [List.getElem?_set_ne (Ne.symm q)]
    have := pr_set2 (G := SlOk W C.p (DOf C σ env) (upd H a u)) (x := w) (y := x') i s.e.sl hx fun j t y n e1 e2 h => h.mono (by rw [hh]; exact Same.refl _) fun b ob => by
      refine ⟨.inr ⟨s.new j y t b e2 e1 ob, j, y, t, e2, e1, ob⟩, upd_ne fun q => n ?_⟩
      subst q
      exact s.dis j i y x t w b e2 e1 ob e ew oa
    rw [hs] at this
    exact this
  · rw [upd_ne (ne_of_none q na)]
    exact s.keep b w n q
  · rcases set_get ey with ⟨rfl, rfl⟩ | ⟨n, ey⟩
    · exact s.new j x t b e q ((o t b).mpr oy)
    · exact s.new j y t b ey q oy
  · have f : ∀ (j : Nat) (y : PV Ob) (t : Option V), (env.set i x')[j]? = some y → owns y t b → ∃ y', env[j]? = some y' ∧ owns y' t b := fun j y t e1 o1 => by
      rcases set_get e1 with ⟨rfl, rfl⟩ | ⟨n, e1⟩
      · exact ⟨x, e, (o t b).mpr o1⟩
      · exact ⟨y, e1, o1⟩
    obtain ⟨y', f1, f2⟩ := f j y t e1 o1
    obtain ⟨z', f3, f4⟩ := f k z v e2 o2
    exact s.dis j k y' z' t v b f1 q1 f2 f3 q2 f4
  · rw [hD, hh]
    exact s.snap
  · rcases set_get e1 with ⟨rfl, rfl⟩ | ⟨n, e1⟩
    · exact s.gdis j x t b e q1 ((o t b).mpr o1)
    · exact s.gdis j y t b e1 q1 o1
theorem snd_app (he : SndE W pe te) : SndS W (pApp i pe) (tDrop (tBM W.K "list" rAppend (tVar i) (tCons te tNil))) := by
  intro C pD D σ H env s h k
  obtain ⟨ds, e, hl, h⟩ := h
  obtain ⟨w, ew, a, us, rfl, da, pa, ha, r⟩ := s.e.get e
  refine ⟨_, ew, .inl ⟨rfl, us, SqL.of ha⟩, ?_⟩
  refine he C.p (DOf C σ env) σ H env _ _ s.e h fun fl d v H1 ⟨n, q⟩ g1 r1 => ?_
  have s1 := s.grow g1
  have ha1 := g1.keep _ _ pa ha
  have cl := RR.clean r1 s.hv n
  have r' := r.mono (g1.hide s.hv)
  refine ⟨a, us, v, rfl, rfl, ha1, ?_, ?_⟩
  · rw [r.length]
    exact Nat.lt_of_le_of_lt hl (by decide)
  · refine k.nx _ _ _ (s1.mutW (x' := .own (ds ++ [d])) e (fun _ _ => Iff.rfl) ew rfl (.inl ⟨_, rfl⟩) ⟨a, us ++ [v], rfl, da, pa, upd_same, ?_⟩) q
    rw [hide_upd_in da]
    exact r'.append (.one cl)
theorem snd_setI (he : SndE W pe te) (hk : SndE W pk tk) : SndS W (pSetI i pe pk) (tAsg te (gSub (tVar i) tk rSetL)) := by
  intro C pD D σ H env s h k
  obtain ⟨ds, e, h⟩ := h
  obtain ⟨w, ew, a, us, rfl, da, pa, ha, r⟩ := s.e.get e
  refine he C.p (DOf C σ env) σ H env _ _ s.e h fun fl d v H1 q1 g1 r1 => ?_
  have s1 := s.grow g1
  refine ⟨_, ew, ?_⟩
  refine hk C.p (DOf C σ env) σ H1 env _ _ s1.e q1 fun f x w H2 ⟨kk, j, n, ex, ej, q⟩ g2 r2 => ?_
  subst ex
  have g12 := g1.trans g2
  have s2 := s.grow g12
  have ha2 := g12.keep _ _ pa ha
  have cl := RR.clean (r1.grow s.hv s1.hv g2) s.hv n
  have r' := r.mono (g12.hide s.hv)
  refine ⟨a, us, kk, j, rfl, (r2.rv s1.hv).int, ha2, by rw [r.length]; exact ej, ?_⟩
  refine k.nx _ _ _ (s2.mutW (x' := .own (ds.set j d)) e (fun _ _ => Iff.rfl) ew rfl (.inl ⟨_, rfl⟩) ⟨a, us.set j v, rfl, da, pa, upd_same, ?_⟩) q
  rw [hide_upd_in da]
  exact r'.set cl j
theorem snd_putD (he : SndE W pe te) (hk : SndE W pk tk) : SndS W (pPutD i pe pk) (tAsg te (gSub (tVar i) tk rSetD)) := by
  intro C pD D σ H env s h k
  obtain ⟨ds, e, hl, h⟩ := h
  obtain ⟨w, ew, a, us, rfl, da, pa, ha, r⟩ := s.e.get e
  refine he C.p (DOf C σ env) σ H env _ _ s.e h fun fl d v H1 q1 g1 r1 => ?_
  have s1 := s.grow g1
  refine ⟨_, ew, ?_⟩
  refine hk C.p (DOf C σ env) σ H1 env _ _ s1.e q1 fun f x w H2 ⟨kk, n, ex, q⟩ g2 r2 => ?_
  have g12 := g1.trans g2
  have s2 := s.grow g12
  have ha2 := g12.keep _ _ pa ha
  have cl := RR.clean (r1.grow s.hv s1.hv g2) s.hv n
  have r' := r.mono (g12.hide s.hv)
  obtain rfl := key_v (r2.rv s1.hv) ex
  refine ⟨a, _, rfl, DPut.k ha2 (by rw [r.length]; exact Nat.lt_of_le_of_lt hl (by decide)), ?_⟩
  refine k.nx _ _ _ (s2.mutW (x' := .ownD (putD ds kk d)) e (fun _ _ => Iff.rfl) ew rfl (.inr ⟨_, rfl⟩) ⟨a, _, rfl, da, pa, upd_same, ?_⟩) q
  rw [hide_upd_in da]
  exact r'.put cl
theorem RR.less {p : Option Addr} {D D' : Addr → Prop} (h : RR W p D H0 H fl v d) (n : fl ≠ .raw) (m : ∀ b, D' b → D b) : RR W p D' H0 H fl v d := by
  unfold RR at h ⊢
  cases fl with
  | cl => exact R0.mono (hide_mono m) h
  | raw => exact absurd rfl n
  | fr => cases d with
    | lst ds => obtain ⟨a, us, e, na, ha, r⟩ := h; exact ⟨a, us, e, na, ha, r.mono (hide_mono fun b z => z.imp (m b) id)⟩
    | dic ds => obtain ⟨a, us, e, na, ha, r⟩ := h; exact ⟨a, us, e, na, ha, r.mono (hide_mono fun b z => z.imp (m b) id)⟩
    | _ => exact h.elim
theorem snd_par {m1 m2 : Bool} (hij : i ≠ j) (ha : SndE W pa ta) (hb : SndE W pb tb) : SndS W (pPar i j m1 m2 pa pb) (tPar i j (tCons ta (tCons tb tNil))) := by
  intro C pD D σ H env s h k
  obtain ⟨li, lj, h⟩ := h
  refine ha C.p (DOf C σ env) σ H env _ _ s.e h fun f1 d1 v1 H1 q1 g1 r1 => ?_
  have s1 := s.grow g1
  -- the second part, with more hidden, if the first is a list of its own
  have go : ∀ (D1 : Addr → Prop), StE W C.p D1 H1 σ env → (∀ x, toPV m1 f1 d1 = some x → ∀ b, DOf C (σ.set i (some v1)) (env.set i x) b → D1 b) → tCons tb tNil σ H1 fun vs H2 => ∃ v w, v1 :: vs = [v, w] ∧ D.nx ((σ.set i (some v)).set j (some w)) H2 := by
    intro D1 st1 sub
    refine hb C.p D1 σ H1 env _ _ st1 q1 fun f2 d2 v2 H2 ⟨x, y, e1, e2, q2⟩ g2 r2 => ?_
    have sA := s.setV g1 r1 e1 li
    have n2 : f2 ≠ .raw := fun z => by
      subst z
      cases m2 <;> cases d2 <;> cases e2
    refine ⟨v1, v2, rfl, k.nx _ _ _ (sA.setV g2 (RR.less r2 n2 (sub x e1)) e2 (by rw [List.length_set]; exact lj)) q2⟩
  by_cases hm : m1 = true ∧ f1 = .fr
  · obtain ⟨rfl, rfl⟩ := hm
    have new : ∃ a, v1 = .ref a ∧ H a = none ∧ SoftAt H1 a := by
      cases d1 with
      | lst ds => obtain ⟨a, us, e, n, h1, _⟩ := r1; exact ⟨a, e, n, .lst h1⟩
      | dic ds => obtain ⟨a, us, e, n, h1, _⟩ := r1; exact ⟨a, e, n, .dic h1⟩
      | _ => exact r1.elim
    obtain ⟨a, rfl, na, ha1⟩ := new
    exact go (fun b => DOf C σ env b ∨ b = a) (s.e.regrow na ha1 g1.keep g1.src) fun x e b z => (DOf.set_any b z).imp id (toPV_owns e b).mp
  · refine go (DOf C σ env) s1.e fun x e b z => ?_
    have ox : x.isOwn = false := by
      cases m1 with
      | false => cases f1 <;> cases d1 <;> first | (cases e; rfl) | cases e
      | true => cases f1 with
        | fr => exact absurd ⟨rfl, rfl⟩ hm
        | cl => cases d1 <;> cases e
        | raw => cases d1 <;> cases e
    exact DOf.set_sh ox b z
theorem snd_for (hi : SndI W pi wi) (hg : SndGS W pg g) (hb : SndS W ps ts) : SndS W (pFor pi pg ps) (tFor wi g ts) := by
  intro C pD D σ H env s h k
  refine hi C.p (DOf C σ env) σ H env _ _ s.e h fun c ds J H1 ⟨hc, I, i0, is, ie⟩ g1 wk => ?_
  subst hc
  obtain ⟨G, Y, w, _, gk, yk⟩ := wk
  have s1 := s.grow g1
  let C' : Ct := { C with snap := hide (DOf C σ env) H1 }
  have s1' : StS W C' σ H1 env := ⟨s1.e, s1.b0, s1.keep, s1.new, s1.dis, Same.refl _, s1.gnew, s1.gdis⟩
  have back : ∀ σ H env, StS W C' σ H env → StS W C σ H env := fun σ H env z => ⟨z.e, z.b0, z.keep, z.new, z.dis, s1.snap.trans z.snap, z.gnew, z.gdis⟩
  refine for_it w (fun i σ H => ∃ env, StS W C' σ H env ∧ I i env) ⟨env, s1', i0⟩ (fun i σ H _ ⟨env', s', _⟩ => gk rfl _ H s'.snap) ?_ (fun σ H ⟨env', s', q⟩ => k.nx σ H env' (back _ _ _ s') (ie env' q))
  rintro i x σ2 H2 H3 hi ⟨env2, s2, hI⟩ hy
  obtain ⟨sm, d, ed, rd⟩ := yk i H2 x H3 (DOf C' σ2 env2) hi s2.snap s2.hv.dom hy
  have s3 := s2.grow (Grow.of s2.hv sm)
  refine hg C' σ2 H3 env2 x d _ _ s3 rd (is i d env2 ed hI) fun σ4 env4 q4 s4 => ?_
  exact hb C' _ _ σ4 H3 env4 s4 q4 ⟨fun σ H env z q => ⟨env, z, q⟩, k.rt, fun σ H env z q => k.nx σ H env (back _ _ _ z) q, fun σ H env z q => ⟨env, z, q⟩⟩
theorem snd_while (ht : SndT W pt tt) (hb : SndS W ps ts) : SndS W (pWhile pt ps) (tWhile tt ts) := by
  intro C pD D σ H env s h k
  obtain ⟨I, ⟨m0, i0⟩, turn⟩ := h
  refine ⟨fun m σ H => ∃ env, StS W C σ H env ∧ I m env, ⟨m0, env, s, i0⟩, ?_⟩
  rintro m σ1 H1 ⟨env1, s1, hI⟩
  refine ht C.p C.B σ1 H1 (shE env1) _ _ s1.shareE (turn m env1 hI) fun b H2 q g => ?_
  cases b with
  | true =>
    rw [if_pos rfl] at q ⊢
    refine ⟨fun σ' H' => ∃ env' m', StS W C σ' H' env' ∧ m' < m ∧ I m' env', fun σ' H' ⟨env', m', s', l, q⟩ => ⟨m', l, env', s', q⟩, ?_⟩
    exact hb C _ _ σ1 H2 env1 (s1.grow g) q ⟨fun σ H env z ⟨m', l, q⟩ => ⟨env, m', z, l, q⟩, k.rt, k.nx, fun σ H env z ⟨m', l, q⟩ => ⟨env, m', z, l, q⟩⟩
  | false =>
    rw [if_neg (by decide)] at q ⊢
    exact k.nx _ _ _ (s1.grow g) q
theorem RA.of_fv {p : Option Addr} : ∀ {vs : List V} {ds : List (Dt Ob)}, Pu.flats ds = some vs → RA W p H vs ds
  | _, [], e => by cases e; exact .nil
  | vs, d :: r, e => by
    unfold Pu.flats at e
    cases e1 : d.fv with
    | none => rw [e1] at e; cases e
    | some w =>
      cases e2 : Pu.flats r with
      | none => rw [e1, e2] at e; cases e
      | some ws =>
        rw [e1, e2] at e
        obtain rfl := Option.some.inj e
        exact .cons (R0.of_fv e1) (RA.of_fv e2)
theorem snd_call {F : List (Dt Ob) → PQ Ob → Prop} {U : (Addr → Prop) → Prop} {z : Addr → Prop} {dvs : List V} {dds : List (Dt Ob)} {E : XK} (hU : U z) (hd : flats dds = some dvs) (hx : SndA (W.at z) px tx) : SndE (W.at z) (pCall F dds px) (tCall (PFn W U F) dvs E tx) := by
  intro p D σ H env Qp Q st h k
  refine hx p D σ H env _ _ st h fun xs vs H1 ⟨ok, h1⟩ g1 r1 => ?_
  have hv1 := st.hv.grow g1
  refine ⟨z, p, D, _, Qp, hU, hv1, (RRs.clean st.hv r1 ok).append (RA.of_fv hd), h1, fun fl d v H' q g r => k _ _ _ _ q (g1.trans g) (r.back g1)⟩
theorem init_rep {N : List Str} {vs : List V} {p : Option Addr} {B : Addr → Prop} (r : RA W p (hide B H) vs ds) : Paired (SlOk W p B H) (L2.start N vs) (initE N ds) := by
  unfold L2.start initE
  rw [← r.length]
  have app : ∀ {l l' : List (Option V)} {e e' : List (PV Ob)}, Paired (SlOk W p B H) l e → Paired (SlOk W p B H) l' e' → Paired (SlOk W p B H) (l ++ l') (e ++ e') := by
    intro l l' e e' h h'
    induction h with
    | nil => exact h'
    | cons r t ih => exact .cons r ih
  have rep : ∀ n : Nat, Paired (SlOk W p B H) (List.replicate n (none : Option V)) (List.replicate n (.no : PV Ob)) := by
    intro n
    induction n with
    | zero => exact .nil
    | succ n ih => rw [List.replicate_succ, List.replicate_succ]; exact .cons trivial ih
  refine app ?_ (rep _)
  have : ∀ {vs : List V} {ds : List (Dt Ob)}, RA W p (hide B H) vs ds → Paired (SlOk W p B H) (vs.map some) (ds.map .sh) := by
    intro vs
    induction vs with
    | nil => intro ds r; cases r; exact .nil
    | cons v vs ih =>
      intro ds r
      cases r with
      | cons r t => exact .cons ⟨v, rfl, r⟩ (ih t)
  exact this r
theorem init_no {N : List Str} {i : Nat} {x : PV Ob} (h : (initE N ds)[i]? = some x) : x.isOwn = false := by
  unfold initE at h
  rcases List.mem_append.mp (List.mem_of_getElem? h) with z | z
  · obtain ⟨d, _, rfl⟩ := List.mem_map.mp z
    rfl
  · rw [(List.mem_replicate.mp z).2]
    rfl
/-- a body over trees, run -/
theorem run_body {N : List Str} {vs : List V} {p : Option Addr} {B : Addr → Prop} {Qp : PQ Ob} {Q : VK} (hs : SndS W ps ts) (hv : Hv p B H) (r : RA W p (hide B H) vs ds)
    (k : ∀ fl d v H', Qp fl d → Grow p H H' → RR W p B H H' fl v d → Q v H') (h : ps { nx := fun _ => Qp .cl .non, rt := Qp } (initE N ds)) : ts { nx := fun _ H' => Q .non H', rt := Q } (L2.start N vs) H := by
  let C : Ct := ⟨p, B, H, hide B H, fun _ => False⟩
  have hD : DOf C (L2.start N vs) (initE N ds) = B := by
    funext a
    refine propext ⟨fun z => ?_, fun z => .inl (.inl z)⟩
    rcases z with (z | z) | ⟨_, i, x, w, e, _, o⟩
    · exact z
    · exact z.elim
    · exact absurd o (owns_no (init_no e))
  have s0 : StS W C (L2.start N vs) H (initE N ds) := by
    refine ⟨?_, hv, fun _ _ _ e => e, fun i x w a e _ o => absurd o (owns_no (init_no e)), fun i j x y w u a e _ o => absurd o (owns_no (init_no e)), ?_, fun _ z => z.elim, fun _ _ _ _ _ _ _ z => z⟩
    · rw [hD]
      exact ⟨hv, init_rep r⟩
    · rw [hD]
      exact Same.refl _
  exact hs C _ _ _ H _ s0 h ⟨fun σ H env z q => k .cl .non .non H q z.g0 .non, fun fl v H' d g r q => k fl d v H' q g r, fun _ _ _ _ z => z.elim, fun _ _ _ _ z => z.elim⟩
end
section
variable {Ob : Type} {W : Wd Ob} {P : Program} {w : World} {K : Frag} {mg : Str → Option Value} {base : Heap}
/-- a def that raises nothing, by its body over trees -/
theorem pfn_ok {F : List (Dt Ob) → PQ Ob → Prop} {U : (Addr → Prop) → Prop} {x qual : Str} {st : Stmt} {f : Addr} {fd : FuncData} {N ps : List Str} {k : Nat} (Fu : Fun K x qual st f fd) (S : FnScope N ps (defScope st)) (hl : ∀ ds Qp, F ds Qp → ds.length = ps.length)
    (body : ∀ (cdv : Value) (A : Around) (outer : List Env) (s : Shared) (H : Hp) (Q : VK) (E : XK), Room k (A.deeper (envOfC qual (defScope st) s.heap.objs.size f cdv)) →
      ∃ t, PSs (cxOf CX0 P w K mg base N qual (defScope st) f cdv A outer s H E).nox (defBody st) t ∧ ∀ z, U z → ∃ pt, SndS (W.at z) pt t ∧ ∀ ds Qp, F ds Qp → pt { nx := fun _ => Qp .cl .non, rt := Qp } (initE N ds)) : FnOk P w K mg base CX0 (k + 1) f fd ps (PFn W U F) := by
  refine Fu.ok S (fun vs H Q E h => ?_) (fun cdv A outer s H vs Q E hr h => ?_)
  · obtain ⟨z, p, B, ds, Qp, hU, hv, r, hF, _⟩ := h
    rw [r.length]
    exact hl ds Qp hF
  · obtain ⟨z, p, B, ds, Qp, hU, hv, r, hF, kk⟩ := h
    obtain ⟨t, h1, h23⟩ := body cdv A outer s H Q E hr
    obtain ⟨pt, h2, h3⟩ := h23 z hU
    exact ⟨t, h1, run_body h2 hv r kk (h3 ds Qp hF)⟩
end
end Pu
/-! ### more rules over trees; several names at once; what a def stands for -/
namespace Pu
open PySem PySem.W PySem.Spec PyProof.Rows L2 Gk
theorem bt_int : bootBuiltins "int" = some (.type "int") := by decide +kernel
theorem bt_list : bootBuiltins "list" = some (.type "list") := by decide +kernel
theorem bt_tuple : bootBuiltins "tuple" = some (.type "tuple") := by decide +kernel
theorem bt_dict : bootBuiltins "dict" = some (.type "dict") := by decide +kernel
theorem bt_set : bootBuiltins "set" = some (.type "set") := by decide +kernel
theorem bt_sorted : bootBuiltins "sorted" = some (.builtin "sorted") := by decide +kernel
theorem bt_max : bootBuiltins "max" = some (.builtin "max") := by decide +kernel
theorem bt_min : bootBuiltins "min" = some (.builtin "min") := by decide +kernel
theorem bt_sum : bootBuiltins "sum" = some (.builtin "sum") := by decide +kernel
theorem bt_repr : bootBuiltins "repr" = some (.builtin "repr") := by decide +kernel
theorem bt_any : bootBuiltins "any" = some (.builtin "any") := by decide +kernel
theorem bt_all : bootBuiltins "all" = some (.builtin "all") := by decide +kernel
theorem bt_isinstance : bootBuiltins "isinstance" = some (.builtin "isinstance") := by decide +kernel
/-- the built-in names that the text leaves as they are -/
structure Blt (mg : Str → Option Value) : Prop where
  len : mg "len" = none
  int : mg "int" = none
  list : mg "list" = none
  tuple : mg "tuple" = none
  dict : mg "dict" = none
  set : mg "set" = none
  range : mg "range" = none
  enumerate : mg "enumerate" = none
  zip : mg "zip" = none
  sorted : mg "sorted" = none
  max : mg "max" = none
  min : mg "min" = none
  sum : mg "sum" = none
  repr : mg "repr" = none
  any : mg "any" = none
  all : mg "all" = none
  isinstance : mg "isinstance" = none
abbrev rLenP (K : Frag) : List V → Hp → VK → Prop := fun xs H Q => ∃ p ys, xs = [.ref p] ∧ (SqL K H p ys ∨ SqT K H p ys) ∧ Q (.int ys.length) H
abbrev rListP (K : Frag) : List V → Hp → VK → Prop := fun xs H Q => ∃ p ys, xs = [.ref p] ∧ (SqL K H p ys ∨ SqT K H p ys) ∧ ∀ l, H l = none → Q (.ref l) (upd H l (.lst ys))
abbrev rTupleP (K : Frag) : List V → Hp → VK → Prop := fun xs H Q => ∃ p ys, xs = [.ref p] ∧ ((SqL K H p ys ∧ ∀ l, H l = none → Q (.ref l) (upd H l (.tup ys))) ∨ (SqT K H p ys ∧ Q (.ref p) H))
abbrev rIntP : List V → Hp → VK → Prop := fun xs H Q => (∃ i, xs = [.int i] ∧ Q (.int i) H) ∨ ∃ k, xs = [.bl k] ∧ Q (.int (if k then 1 else 0)) H
abbrev rMaxP : List V → Hp → VK → Prop := fun xs H Q => ∃ i j, xs = [.int i, .int j] ∧ Q (.int (if j > i then j else i)) H
abbrev rMinP : List V → Hp → VK → Prop := fun xs H Q => ∃ i j, xs = [.int i, .int j] ∧ Q (.int (if j < i then j else i)) H
abbrev rLenSP : List V → Hp → VK → Prop := fun xs H Q => ∃ z, xs = [.str z] ∧ z.length ≤ sizeLine ∧ Q (.int z.length) H
abbrev rLenDP : List V → Hp → VK → Prop := fun xs H Q => ∃ a kvs, xs = [V.ref a] ∧ H a = some (.dK kvs) ∧ Q (.int kvs.length) H
abbrev rListDP : List V → Hp → VK → Prop := fun xs H Q => ∃ (a : Addr) (kvs : List (Key × V)), xs = [.ref a] ∧ Rd H a (.dK kvs) ∧ ∀ p, H p = none → Q (.ref p) (upd H p (.lst (kvs.map fun kv => kV kv.1)))
abbrev rSortDP : List V → Hp → VK → Prop := fun xs H Q => ∃ (a : Addr) (kvs : List (Key × V)) (ks : List Str), xs = [.ref a] ∧ Rd H a (.dK kvs) ∧ kvs.map (·.1) = ks.map Sum.inr ∧ ks.length < 64 ∧ ∀ ys p, ys.Perm ks → sortedS ys = true → H p = none → Q (.ref p) (upd H p (.lst (ys.map V.str)))
abbrev rDictPP (K : Frag) : List V → Hp → VK → Prop := fun xs H Q => ∃ (a : Addr) (ps : List Addr) (kvs : List (Key × V)), xs = [.ref a] ∧ SqL K H a (ps.map V.ref) ∧ Paired (fun p kv => SqT K H p [kV kv.1, kv.2]) ps kvs ∧ ∀ p, H p = none → Q (.ref p) (upd H p (.dK (mergeK [] kvs)))
abbrev rCatSP : R2 := fun x y H Q => ∃ i j, x = .str i ∧ y = .str j ∧ i.length + j.length ≤ sizeLine ∧ Q (.str (i ++ j)) H
abbrev rIsNP : R2 := fun x y H Q => y = .non ∧ Q (.bl (decide (x = .non))) H
abbrev rNotNP : R2 := fun x y H Q => y = .non ∧ Q (.bl (!decide (x = .non))) H
section
variable {Ob : Type}
/-- a def of the text, by its name, as it is called -/
structure Cal (P : Program) (w : World) (K : Frag) (mg : Str → Option Value) (base : Heap) (W : Wd Ob) (x : Str) (k : Nat) (ps : List Str) (dvs : List V) (U : (Addr → Prop) → Prop) (F : List (Dt Ob) → PQ Ob → Prop) : Prop where
  ex : ∃ (f : Addr) (fd : FuncData) (ds : List Value), FnOk P w K mg base CX0 k f fd ps (PFn W U F) ∧ Binds K fd ps ds ∧ Vals dvs ds ∧ mg x = some (.ref f) ∧ keepIn K (.ref f) = true
def pChain (po po' : Dt Ob → Dt Ob → PQ Ob → Prop) (pa pb pc : PTE Ob) (env : PEnv Ob) (Q : PQ Ob) : Prop := pa env fun _ x => pb env fun _ y => po x y fun _ z => ∃ k, z = .bl k ∧ if k = true then pc env fun _ w => po' y w Q else Q .cl (.bl false)
def pNeg (pe : PTE Ob) (env : PEnv Ob) (Q : PQ Ob) : Prop := pe env fun _ x => ∃ i, x = .int i ∧ Q .cl (.int (-i))
def pStar (pe : PTE Ob) (pa : PTA Ob) (env : PEnv Ob) (Q : List (Fl × Dt Ob) → Prop) : Prop := pe env fun _ d => ∃ ds, d.seq = some ds ∧ pa env fun xs => Q (ds.map (fun z => (Fl.cl, z)) ++ xs)
def pRevT (pe : PTE Ob) (env : PEnv Ob) (Q : PQ Ob) : Prop := pe env fun _ d => ∃ ds, d = .tup ds ∧ Q .cl (.tup ds.reverse)
def pRevL (pe : PTE Ob) (env : PEnv Ob) (Q : PQ Ob) : Prop := pe env fun _ d => ∃ ds, d = .lst ds ∧ Q .fr (.lst ds.reverse)
def pListRg (pe : PTE Ob) (env : PEnv Ob) (Q : PQ Ob) : Prop := pe env fun _ d => ∃ n, d = .int n ∧ 0 ≤ n ∧ n ≤ 1000 ∧ Q .fr (.lst (rngD 0 n.toNat))
def prLenS (xs : List (Dt Ob)) (Q : PQ Ob) : Prop := ∃ z, xs = [.str z] ∧ z.length ≤ 1000 ∧ Q .cl (.int z.length)
def truD : Dt Ob → Option Bool
  | .non => some false
  | .bl b => some b
  | .int i => some (i != 0)
  | .lst ds => some (!ds.isEmpty)
  | .tup ds => some (!ds.isEmpty)
  | _ => none
def pTru (pe : PTE Ob) (env : PEnv Ob) (Q : Bool → Prop) : Prop := pe env fun _ d => ∃ k, truD d = some k ∧ Q k
def pM : List (Nat × Bool × PTE Ob) → PEnv Ob → (List (PV Ob) → Prop) → Prop
  | [], _, Q => Q []
  | (_, m, pe) :: r, env, Q => pe env fun fl d => ∃ x, toPV m fl d = some x ∧ pM r env fun xs => Q (x :: xs)
def setAll : PEnv Ob → List Nat → List (PV Ob) → PEnv Ob
  | env, i :: is, x :: xs => setAll (env.set i x) is xs
  | env, _, _ => env
def pAsgM (l : List (Nat × Bool × PTE Ob)) (pD : PEnds Ob) (env : PEnv Ob) : Prop := (∀ x ∈ l, x.1 < env.length) ∧ pM l env fun xs => pD.nx (setAll env (l.map (·.1)) xs)
end
section
variable {Ob : Type} {W : Wd Ob} {p : Option Addr} {D : Addr → Prop} {C : Ct} {H H' H0 H1 H2 : Hp} {v : V} {d : Dt Ob} {ds : List (Dt Ob)} {us : List V} {es : List (Key × Dt Ob)} {fl : Fl} {σ : L2.St} {env : PEnv Ob} {i j : Nat}
variable {pe pa pb pc pk : PTE Ob} {te ta tb tc tk : TE} {pt : PTT Ob} {tt : TT} {px : PTA Ob} {tx : TA} {po po' : Dt Ob → Dt Ob → PQ Ob → Prop} {r r' : R2}
theorem snd_chain (ha : SndE W pa ta) (hb : SndE W pb tb) (hc : SndE W pc tc) (h1 : SndR W po r) (h2 : SndR W po' r') : SndE W (pChain po po' pa pb pc) (tChain r r' ta tb tc) := by
  intro p D σ H env Qp Q st h k
  refine ha p D σ H env _ _ st h fun f1 d1 v1 H1 q1 g1 r1 => ?_
  have st1 := st.grow g1
  refine hb p D σ H1 env _ _ st1 q1 fun f2 d2 v2 H2 q2 g2 r2 => ?_
  have st2 := st1.grow g2
  refine h1 p D H2 v1 v2 d1 d2 _ _ st2.hv (r1.rvg st.hv st1.hv g2) (r2.rv st1.hv) q2 fun f3 d3 v3 H3 ⟨b, e, q3⟩ g3 r3 => ?_
  subst e
  have st3 := st2.grow g3
  refine ⟨b, (r3.rv st2.hv).bl, ?_⟩
  cases b with
  | false =>
    rw [if_neg (by decide)] at q3 ⊢
    exact k _ _ _ _ q3 (g1.trans (g2.trans g3)) (show R0 W p (hide D H3) (.bl false) (.bl false) from .bl false)
  | true =>
    rw [if_pos rfl] at q3 ⊢
    refine hc p D σ H3 env _ _ st3 q3 fun f4 d4 v4 H4 q4 g4 r4 => ?_
    have st4 := st3.grow g4
    exact h2 p D H4 v2 v4 d2 d4 _ _ st4.hv (r2.rvg st1.hv st2.hv (g3.trans g4)) (r4.rv st3.hv) q4 fun f5 d5 v5 H5 q5 g5 r5 => k _ _ _ _ q5 (g1.trans (g2.trans (g3.trans (g4.trans g5)))) (r5.back (g1.trans (g2.trans (g3.trans g4))))
theorem snd_neg (h : SndE W pe te) : SndE W (pNeg pe) (tUn (rU fun i => .int (-i)) te) := by
  intro p D σ H env Qp Q st h1 k
  refine h p D σ H env _ _ st h1 fun f d v H1 ⟨i, e, q⟩ g1 r1 => ?_
  subst e
  exact ⟨i, (r1.rv st.hv).int, k _ _ _ _ q g1 (show R0 W p (hide D H1) (.int (-i)) (.int (-i)) from .int _)⟩
theorem RA.rrs (r : RA W p (hide D H) us ds) : RRs W p D H0 H us (ds.map fun z => (Fl.cl, z)) := by
  have : ∀ {us : List V} {ds : List (Dt Ob)}, RA W p (hide D H) us ds → RRs W p D H0 H us (ds.map fun z => (Fl.cl, z)) := by
    intro us
    induction us with
    | nil => intro ds r; cases r; exact .nil
    | cons v vs ih => intro ds r; cases r with | cons r t => exact .cons r (ih t)
  exact this r
theorem pr_app {α β : Type} {F : α → β → Prop} : ∀ {xs : List α} {ys : List β} {xs' : List α} {ys' : List β}, Paired F xs ys → Paired F xs' ys' → Paired F (xs ++ xs') (ys ++ ys')
  | _, _, _, _, .nil, h => h
  | _, _, _, _, .cons r t, h => .cons r (pr_app t h)
theorem snd_star (ha : SndE W pe te) (hx : SndA W px tx) : SndA W (pStar pe px) (StX.tStar W.K te tx) := by
  intro p D σ H env Qp Q st h k
  refine ha p D σ H env _ _ st h fun f1 d1 v1 H1 ⟨ds, e, h1⟩ g1 r1 => ?_
  have st1 := st.grow g1
  obtain ⟨a, us, rfl, ha, ra, _⟩ := (r1.rv st.hv).seq e
  refine ⟨a, us, rfl, ha.symm, ?_⟩
  refine hx p D σ H1 env _ _ st1 h1 fun xs vs H2 q g2 r2 => ?_
  exact k _ _ _ q (g1.trans g2) (pr_app (RA.rrs (ra.mono (g2.hide st1.hv))) (pr_map (fun _ _ z => RR.back z g1) r2))
theorem snd_revT (h : SndE W pe te) : SndE W (pRevT pe) (tRevT W.K te) := by
  intro p D σ H env Qp Q st h1 k
  refine h p D σ H env _ _ st h1 fun f d v H1 ⟨ds, e, q⟩ g1 r1 => ?_
  subst e
  have hv1 := st.hv.grow g1
  obtain ⟨a, us, rfl, ha, r⟩ := (r1.rv st.hv).tup
  exact ⟨a, us, rfl, ha, fun c hc => k _ _ _ _ q (g1.trans (Grow.new hv1 hc)) ((cl_tup hv1 r.reverse hc).back g1)⟩
theorem snd_revL (h : SndE W pe te) : SndE W (pRevL pe) (tRevL W.K te) := by
  intro p D σ H env Qp Q st h1 k
  refine h p D σ H env _ _ st h1 fun f d v H1 ⟨ds, e, q⟩ g1 r1 => ?_
  subst e
  have hv1 := st.hv.grow g1
  obtain ⟨a, us, rfl, ha, r⟩ := (r1.rv st.hv).lst
  exact ⟨a, us, rfl, SqL.of ha, fun c hc => k _ _ _ _ q (g1.trans (Grow.new hv1 hc)) ((fr_lst hv1 r.reverse hc).back g1)⟩
theorem RA.rng {lo hi : Int} : RA W p H (rgV lo hi) (rngD lo (hi - lo).toNat) := by
  have : ∀ l : List Nat, RA W p H (l.map fun (i : Nat) => V.int (lo + (i : Int))) (l.map fun (i : Nat) => (.int (lo + (i : Int)) : Dt Ob)) := by
    intro l
    induction l with
    | nil => exact .nil
    | cons x l ih => exact .cons (.int _) ih
  exact this _
theorem snd_listRg (h : SndE W pe te) : SndE W (pListRg pe) (tLstRg (tRg1 te)) := by
  intro p D σ H env Qp Q st h1 k
  refine h p D σ H env _ _ st h1 fun f d v H1 ⟨n, e, l0, l1, q⟩ g1 r1 => ?_
  subst e
  have hv1 := st.hv.grow g1
  refine ⟨n, (r1.rv st.hv).int, RgOk.of_le (by omega) (by omega) (by omega) l0, fun c hc => k _ _ _ _ q (g1.trans (Grow.new hv1 hc)) ((fr_lst hv1 ?_ hc).back g1)⟩
  have := RA.rng (W := W) (p := p) (H := hide D H1) (lo := 0) (hi := n)
  rw [Int.sub_zero] at this
  exact this
theorem snd_lenS : SndB W prLenS (fun xs H Q => ∃ z, xs = [.str z] ∧ z.length ≤ sizeLine ∧ Q (.int z.length) H) := by
  intro p D H vs ds Qp Q hv hs h k
  obtain ⟨z, rfl, l, q⟩ := h
  obtain ⟨v, rfl, r⟩ := rv1 hs
  exact ⟨z, by rw [r.str], Nat.le_trans l line1000, k _ _ _ H q (Grow.refl hv) (show R0 W p (hide D H) _ _ from .int _)⟩
theorem snd_sortedS : SndB W prSortedS (rSortedS W.K) := by
  intro p D H vs ds Qp Q hv hs h k
  obtain ⟨zs, rfl, l, q⟩ := h
  obtain ⟨v, rfl, r⟩ := rv1 hs
  obtain ⟨a, us, rfl, ha, r⟩ := r.lst
  obtain rfl := r.strs
  exact ⟨a, zs, rfl, SqL.of ha, l, fun ys c py sy hc => k _ _ _ _ (q ys py sy) (Grow.new hv hc) (fr_lst hv (RA.ofStrs ys) hc)⟩
theorem snd_sortedD : SndB W prSortedD (fun xs H Q => ∃ (a : Addr) (kvs : List (Key × V)) (ks : List Str), xs = [.ref a] ∧ Rd H a (.dK kvs) ∧ kvs.map (·.1) = ks.map Sum.inr ∧ ks.length < 64 ∧
    ∀ ys p, ys.Perm ks → sortedS ys = true → H p = none → Q (.ref p) (upd H p (.lst (ys.map V.str)))) := by
  intro p D H vs ds Qp Q hv hs h k
  obtain ⟨es, zs, rfl, e, l, q⟩ := h
  obtain ⟨v, rfl, r⟩ := rv1 hs
  obtain ⟨a, us, rfl, ha, r⟩ := r.dic
  exact ⟨a, us, zs, rfl, ha, by rw [r.keys]; exact e, l, fun ys c py sy hc => k _ _ _ _ (q ys py sy) (Grow.new hv hc) (fr_lst hv (RA.ofStrs ys) hc)⟩
theorem snd_tru (h : SndE W pe te) : SndT W (pTru pe) (fun σ H Q => te σ H fun x H1 => ∃ k, TruV W.K x H1 k ∧ Q k H1) := by
  intro p D σ H env Qp Q st h1 k
  refine h p D σ H env _ _ st h1 fun f d v H1 ⟨b, e, q⟩ g1 r1 => ?_
  have rv := r1.rv st.hv
  refine ⟨b, ?_, k b H1 q g1⟩
  cases d with
  | non => rw [rv.non]; exact (Option.some.inj e).symm
  | bl c => rw [rv.bl]; exact (Option.some.inj e).symm
  | int c => rw [rv.int]; exact (Option.some.inj e).symm
  | lst zs =>
    obtain ⟨a, us, rfl, ha, r⟩ := rv.lst
    refine .inl ⟨us, SqL.of ha, ?_⟩
    rw [← Option.some.inj e]
    cases r <;> rfl
  | tup zs =>
    obtain ⟨a, us, rfl, ha, r⟩ := rv.tup
    refine .inr (.inl ⟨us, ha, ?_⟩)
    rw [← Option.some.inj e]
    cases r <;> rfl
  | _ => cases e
/-! ### several names at once -/
inductive Pn (Ob : Type) where
  | sh (i : Nat) (v : V) (d : Dt Ob)
  | own (i : Nat) (a : Addr) (x : PV Ob)
def Pn.ix : Pn Ob → Nat
  | .sh i _ _ => i
  | .own i _ _ => i
def Pn.pv : Pn Ob → PV Ob
  | .sh _ _ d => .sh d
  | .own _ _ x => x
def Pn.val : Pn Ob → V
  | .sh _ v _ => v
  | .own _ a _ => .ref a
def Pn.ok (W : Wd Ob) (p : Option Addr) (D : Addr → Prop) (H : Hp) : Pn Ob → Prop
  | .sh _ v d => R0 W p (hide D H) v d
  | .own _ a x => (∀ b, owns x (some (.ref a)) b ↔ b = a) ∧ SlOk W p D H (some (.ref a)) x
/-- the addresses that wait for their slots -/
def waits : List (Pn Ob) → List Addr
  | [] => []
  | .sh _ _ _ :: r => waits r
  | .own _ a _ :: r => a :: waits r
/-- a new list or dict is held back -/
theorem StS.hold (s : StS W C σ H env) (g : Grow C.p H H1) {a : Addr} (ha : H a = none) (h1 : SoftAt H1 a) : StS W { C with G := fun b => C.G b ∨ b = a } σ H1 env := by
  have hD : DOf { C with G := fun b => C.G b ∨ b = a } σ env = fun b => DOf C σ env b ∨ b = a := by
    funext b
    refine propext ⟨fun z => ?_, fun z => ?_⟩
    · rcases z with (z | z | z) | z
      · exact .inl (.inl (.inl z))
      · exact .inl (.inl (.inr z))
      · exact .inr z
      · exact .inl (.inr z)
    · rcases z with ((z | z) | z) | z
      · exact .inl (.inl z)
      · exact .inl (.inr (.inl z))
      · exact .inr z
      · exact .inl (.inr (.inr z))
  refine ⟨?_, s.b0, fun b u n e => g.keep b u n (s.keep b u n e), s.new, s.dis, ?_, fun b z => ?_, fun i x w b e q o z => ?_⟩
  · rw [hD]
    exact s.e.regrow ha h1 g.keep g.src
  · rw [hD]
    refine s.snap.trans ?_
    rw [← hide_or_none (D := DOf C σ env) ha]
    exact hide_keep fun b u n e => g.keep b u (fun z => n (.inl (s.hv.src b z).1)) e
  · rcases z with z | rfl
    · exact s.gnew b z
    · exact s.g0.back ha
  · rcases z with z | rfl
    · exact s.gdis i x w b e q o z
    · exact s.hv.dom b (.inr ⟨s.new i x w b e q o, i, x, w, e, q, o⟩) ha
/-- what waits gets its slot -/
theorem StS.adopt (s : StS W C σ H env) {a : Addr} {x : PV Ob} (ga : C.G a) (hi : i < env.length) (ox : ∀ b, owns x (some (.ref a)) b ↔ b = a) (hx : SlOk W C.p (DOf C σ env) H (some (.ref a)) x) :
    StS W { C with G := fun b => C.G b ∧ b ≠ a } (σ.set i (some (.ref a))) H (env.set i x) ∧ ∀ b, DOf { C with G := fun b => C.G b ∧ b ≠ a } (σ.set i (some (.ref a))) (env.set i x) b → DOf C σ env b := by
  have li : i < σ.length := by rw [s.lenE]; exact hi
  have h0 := s.gnew a ga
  have m : ∀ b, DOf { C with G := fun b => C.G b ∧ b ≠ a } (σ.set i (some (.ref a))) (env.set i x) b → DOf C σ env b := fun b z => by
    rcases z with (z | z) | ⟨z1, j, y, u, e, q, o⟩
    · exact .inl (.inl z)
    · exact .inl (.inr z.1)
    · rcases set_get e with ⟨rfl, rfl⟩ | ⟨n, e⟩
      · rw [List.getElem?_set_self li] at q
        cases q
        obtain rfl := (ox b).mp o
        exact .inl (.inr ga)
      · rw [List.getElem?_set_ne (Ne.symm n)] at q
        exact .inr ⟨z1, j, y, u, e, q, o⟩
  have hs := hide_mono (H := H) m
  have da : DOf { C with G := fun b => C.G b ∧ b ≠ a } (σ.set i (some (.ref a))) (env.set i x) a := .inr ⟨h0, i, x, _, by rw [List.getElem?_set_self hi], by rw [List.getElem?_set_self li], (ox a).mpr rfl⟩
  -- the state as one that never held it back, for the store
  refine ⟨⟨⟨⟨fun b z => s.hv.sft b (m b z), fun b e => ⟨.inl (.inl (s.b0.src b e).1), (s.hv.src b e).2⟩⟩, ?_⟩, s.b0, s.keep, fun j y u b e q o => ?_, fun j k y z u t b e1 q1 o1 e2 q2 o2 => ?_, s.snap.trans hs, fun b z => s.gnew b z.1, fun j y u b e q o z => ?_⟩, m⟩
  · refine pr_set2 i s.e.sl ?_ fun j w y n e1 e2 h => h.mono hs fun b o => ?_
    · exact hx.mono hs fun b ob => by obtain rfl := (ox b).mp ob; exact ⟨da, rfl⟩
    · exact ⟨.inr ⟨s.new j y w b e2 e1 o, j, y, w, by rw [List.getElem?_set_ne (Ne.symm n)]; exact e2, by rw [List.getElem?_set_ne (Ne.symm n)]; exact e1, o⟩, rfl⟩
  · rcases set_get e with ⟨rfl, rfl⟩ | ⟨n, e⟩
    · rw [List.getElem?_set_self li] at q
      cases q
      obtain rfl := (ox b).mp o
      exact h0
    · rw [List.getElem?_set_ne (Ne.symm n)] at q
      exact s.new j y u b e q o
  · rcases set_get e1 with ⟨rfl, rfl⟩ | ⟨n1, f1⟩
    · rcases set_get e2 with ⟨rfl, rfl⟩ | ⟨n2, f2⟩
      · rfl
      · rw [List.getElem?_set_self li] at q1
        cases q1
        obtain rfl := (ox b).mp o1
        rw [List.getElem?_set_ne (Ne.symm n2)] at q2
        exact absurd ga (s.gdis k z t b f2 q2 o2)
    · rcases set_get e2 with ⟨rfl, rfl⟩ | ⟨n2, f2⟩
      · rw [List.getElem?_set_self li] at q2
        cases q2
        obtain rfl := (ox b).mp o2
        rw [List.getElem?_set_ne (Ne.symm n1)] at q1
        exact absurd ga (s.gdis j y u b f1 q1 o1)
      · rw [List.getElem?_set_ne (Ne.symm n1)] at q1
        rw [List.getElem?_set_ne (Ne.symm n2)] at q2
        exact s.dis j k y z u t b f1 q1 o1 f2 q2 o2
  · rcases set_get e with ⟨rfl, rfl⟩ | ⟨n, e⟩
    · rw [List.getElem?_set_self li] at q
      cases q
      exact z.2 ((ox b).mp o)
    · rw [List.getElem?_set_ne (Ne.symm n)] at q
      exact s.gdis j y u b e q o z.1
theorem waits_app : ∀ l l' : List (Pn Ob), waits (l ++ l') = waits l ++ waits l'
  | [], _ => rfl
  | .sh _ _ _ :: r, l' => waits_app r l'
  | .own _ a _ :: r, l' => by
    show a :: waits (r ++ l') = a :: (waits r ++ waits l')
    rw [waits_app r l']
theorem waits_mem {a : Addr} : ∀ {l : List (Pn Ob)} {y : Pn Ob}, y ∈ l → a ∈ waits [y] → a ∈ waits l
  | x :: l, y, hy, ha => by
    rw [show x :: l = [x] ++ l from rfl, waits_app]
    rcases List.mem_cons.mp hy with rfl | hy
    · exact List.mem_append_left _ ha
    · exact List.mem_append_right _ (waits_mem hy ha)
theorem StS.keepG {a : Addr} (_ : StS W C σ H1 env) (ga : C.G a) (s : StS W C σ H env) (g : Grow C.p H H1) : H1 a = H a := by
  have np : C.p ≠ some a := s.b0.np (s.gnew a ga)
  cases q : H a with
  | none => exact absurd q (s.hv.dom a (.inl (.inr ga)))
  | some u => exact g.keep a u np q
/-- targets that are names, by their slots -/
inductive SlotGs : List Nat → TGs → Prop
  | nil : SlotGs [] gNil
  | cons {i : Nat} {l : List Nat} {gs : TGs} : SlotGs l gs → SlotGs (i :: l) (gCons (gName i) gs)
inductive SndM (W : Wd Ob) : List (Nat × Bool × PTE Ob) → TA → Prop
  | nil : SndM W [] tNil
  | cons {i : Nat} {m : Bool} {pe : PTE Ob} {te : TE} {l : List (Nat × Bool × PTE Ob)} {tx : TA} : SndE W pe te → SndM W l tx → SndM W ((i, m, pe) :: l) (tCons te tx)
theorem Pn.ok.mono {D D' : Addr → Prop} {x : Pn Ob} (h : x.ok W p D H) (k : Same (hide D H) (hide D' H')) (o : ∀ a, a ∈ waits [x] → D' a ∧ H' a = H a) : x.ok W p D' H' := by
  cases x with
  | sh i v d => exact R0.mono k h
  | own i a x => exact ⟨h.1, h.2.mono k fun b ob => by obtain rfl := (h.1 b).mp ob; exact o b List.mem_cons_self⟩
/-- the values of several expressions, their new lists held back -/
theorem SndM.run : ∀ {l : List (Nat × Bool × PTE Ob)} {tx : TA}, SndM W l tx → ∀ {C : Ct} {H : Hp} {Qp : List (PV Ob) → Prop} {Q : List V → Hp → Prop} (pend : List (Pn Ob)), StS W C σ H env → (∀ x ∈ pend, x.ok W C.p (DOf C σ env) H) → (∀ a ∈ waits pend, C.G a) → pM l env Qp →
    (∀ (G : Addr → Prop) (H' : Hp) (more : List (Pn Ob)), StS W { C with G := G } σ H' env → Grow C.p H H' → (∀ x ∈ pend ++ more, x.ok W C.p (DOf { C with G := G } σ env) H') → (∀ b, G b ↔ C.G b ∨ b ∈ waits more) → (waits more).Nodup → (∀ b ∈ waits more, H b = none) →
      more.map Pn.ix = l.map (·.1) → Qp (more.map Pn.pv) → Q (more.map Pn.val) H') → tx σ H Q
  | _, _, .nil, C, H, Qp, Q, pend, s, hp, hw, h, k => by
    have := k C.G H [] s (Grow.refl s.hv) (by rw [List.append_nil]; exact hp) (fun b => by simp [waits]) List.nodup_nil (fun _ z => by cases z) rfl h
    exact this
  | _, _, .cons (i := i) (m := m) (l := l) he hl, C, H, Qp, Q, pend, s, hp, hw, h, k => by
    refine he C.p (DOf C σ env) σ H env _ _ s.e h fun fl d v H1 ⟨x, e, q⟩ g r => ?_
    have s1 := s.grow g
    cases ho : x.isOwn with
    | false =>
      have hx : x = .sh d ∧ fl ≠ .raw := by
        cases m with
        | false => cases fl <;> cases d <;> first | (cases e; exact ⟨rfl, by decide⟩) | cases e
        | true => cases fl <;> cases d <;> first | (cases e; done) | (cases e; cases ho; done)
      obtain ⟨rfl, nr⟩ := hx
      have cl := RR.clean r s.hv nr
      refine SndM.run hl (pend ++ [.sh i v d]) s1 (fun y hy => ?_) (fun a ha => ?_) q fun G H' more s2 g2 ok2 hG nd fr ei hq => ?_
      · rcases List.mem_append.mp hy with hy | hy
        · exact (hp y hy).mono (g.hide s.hv) fun a ha => ⟨.inl (.inr (hw a (waits_mem hy ha))), s1.keepG (hw a (waits_mem hy ha)) s g⟩
        · rw [List.mem_singleton.mp hy]
          exact cl
      · rw [waits_app] at ha
        rcases List.mem_append.mp ha with ha | ha
        · exact hw a ha
        · cases ha
      · refine k G H' (.sh i v d :: more) s2 (g.trans g2) (by rw [List.append_assoc] at ok2; exact ok2) hG nd (fun b hb => g.back (fr b hb)) (by rw [List.map_cons, ei]; rfl) hq
    | true =>
      have hx : ∃ a, v = .ref a ∧ H a = none ∧ SoftAt H1 a ∧ (∀ b, owns x (some (.ref a)) b ↔ b = a) ∧ ∀ D' : Addr → Prop, (∀ b, D' b → DOf C σ env b ∨ b = a) → D' a → SlOk W C.p D' H1 (some (.ref a)) x := by
        cases m with
        | false => cases fl <;> cases d <;> first | (cases e; done) | (cases e; cases ho; done)
        | true =>
          cases fl with
          | raw => cases d <;> cases e
          | cl => cases d <;> cases e
          | fr =>
            cases d with
            | lst ds =>
              obtain rfl := Option.some.inj e
              obtain ⟨a, us, rfl, ha, h1, r⟩ := r
              exact ⟨a, rfl, ha, .lst h1, own_iff, fun D' k da => ⟨a, us, rfl, da, s.hv.np ha, h1, r.mono (hide_mono k)⟩⟩
            | dic ds =>
              obtain rfl := Option.some.inj e
              obtain ⟨a, us, rfl, ha, h1, r⟩ := r
              exact ⟨a, rfl, ha, .dic h1, ownD_iff, fun D' k da => ⟨a, us, rfl, da, s.hv.np ha, h1, r.mono (hide_mono k)⟩⟩
            | _ => cases e
      obtain ⟨a, rfl, ha, h1, ox, hs⟩ := hx
      have s2 := s.hold g ha h1
      have sub : ∀ b, DOf { C with G := fun b => C.G b ∨ b = a } σ env b → DOf C σ env b ∨ b = a := fun b z => by
        rcases z with (z | z | z) | z
        · exact .inl (.inl (.inl z))
        · exact .inl (.inl (.inr z))
        · exact .inr z
        · exact .inl (.inr z)
      have hk : Same (hide (DOf C σ env) H) (hide (DOf { C with G := fun b => C.G b ∨ b = a } σ env) H1) := by
        rw [← hide_or_none (D := DOf C σ env) ha]
        exact (hide_keep fun b u n e => g.keep b u (fun z => n (.inl (s.hv.src b z).1)) e).trans (hide_mono sub)
      refine SndM.run hl (pend ++ [.own i a x]) s2 (fun y hy => ?_) (fun b hb => ?_) q fun G H' more s3 g3 ok3 hG nd fr ei hq => ?_
      · rcases List.mem_append.mp hy with hy | hy
        · exact (hp y hy).mono hk fun b hb => ⟨.inl (.inr (.inl (hw b (waits_mem hy hb)))), s1.keepG (hw b (waits_mem hy hb)) s g⟩
        · rw [List.mem_singleton.mp hy]
          exact ⟨ox, hs _ sub (.inl (.inr (.inr rfl)))⟩
      · rw [waits_app] at hb
        rcases List.mem_append.mp hb with hb | hb
        · exact .inl (hw b hb)
        · exact .inr (List.mem_singleton.mp hb)
      · refine k G H' (.own i a x :: more) s3 (g.trans g3) (by rw [List.append_assoc] at ok3; exact ok3) (fun b => ?_) ?_ (fun b hb => ?_) (by rw [List.map_cons, ei]; rfl) hq
        · rw [hG b]
          show (C.G b ∨ b = a) ∨ b ∈ waits more ↔ C.G b ∨ b ∈ a :: waits more
          rw [List.mem_cons, or_assoc]
        · show (a :: waits more).Nodup
          exact List.nodup_cons.mpr ⟨fun z => h1.ne (fr a z), nd⟩
        · rcases List.mem_cons.mp hb with rfl | hb
          · exact ha
          · exact g.back (fr b hb)
/-- what waits goes to its slots, one after another -/
theorem pend_sets : ∀ (l : List (Pn Ob)) {C : Ct} {σ : L2.St} {env : PEnv Ob} {Q : L2.St → Hp → Prop}, StS W C σ H env → (∀ x ∈ l, x.ok W C.p (DOf C σ env) H) → (∀ a ∈ waits l, C.G a) → (waits l).Nodup → (∀ x ∈ l, x.ix < env.length) →
    (∀ (G : Addr → Prop) σ', StS W { C with G := G } σ' H (setAll env (l.map Pn.ix) (l.map Pn.pv)) → (∀ b, G b ↔ C.G b ∧ b ∉ waits l) → Q σ' H) →
    ∀ {gs : TGs}, SlotGs (l.map Pn.ix) gs → gs (l.map Pn.val) σ H Q
  | [], C, σ, env, Q, s, _, _, _, _, k, _, .nil => ⟨rfl, k C.G σ s fun b => by simp [waits]⟩
  | .sh i v d :: l, C, σ, env, Q, s, ok, hw, nd, hi, k, _, .cons hg => by
    have s1 := s.setSh (i := i) (ok _ List.mem_cons_self)
    have m := hide_mono (H := H) (DOf.set_sh (C := C) (σ := σ) (env := env) (i := i) (v := v) (x := .sh d) rfl)
    refine ⟨v, _, rfl, ?_⟩
    refine pend_sets l s1 (fun x hx => (ok x (List.mem_cons_of_mem _ hx)).mono m fun a ha => ⟨.inl (.inr (hw a (waits_mem (List.mem_cons_of_mem _ hx) ha))), rfl⟩) hw nd (fun x hx => by rw [List.length_set]; exact hi x (List.mem_cons_of_mem _ hx)) (fun G σ' s' hG => k G σ' s' hG) hg
  | .own i a x :: l, C, σ, env, Q, s, ok, hw, nd, hi, k, _, .cons hg => by
    have nd' : a ∉ waits l ∧ (waits l).Nodup := List.nodup_cons.mp nd
    obtain ⟨s1, m⟩ := s.adopt (i := i) (a := a) (x := x) (hw a List.mem_cons_self) (hi _ List.mem_cons_self) (ok _ List.mem_cons_self).1 (ok _ List.mem_cons_self).2
    have m' := hide_mono (H := H) m
    refine ⟨.ref a, _, rfl, ?_⟩
    have inG : ∀ b ∈ waits l, C.G b ∧ b ≠ a := fun b hb => ⟨hw b (List.mem_cons_of_mem _ hb), fun e => nd'.1 (by rw [← e]; exact hb)⟩
    refine pend_sets l s1 (fun y hy => (ok y (List.mem_cons_of_mem _ hy)).mono m' fun b hb => ⟨.inl (.inr (inG b (waits_mem hy hb))), rfl⟩) inG nd'.2 (fun y hy => by rw [List.length_set]; exact hi y (List.mem_cons_of_mem _ hy)) (fun G σ' s' hG => k G σ' s' fun b => ?_) hg
    rw [hG b]
    show (C.G b ∧ b ≠ a) ∧ b ∉ waits l ↔ C.G b ∧ b ∉ a :: waits l
    rw [List.mem_cons, not_or, and_assoc]
theorem pn_all {l : List (Pn Ob)} {js : List Nat} (e : l.map Pn.ix = js) {n : Nat} (h : ∀ j ∈ js, j < n) : ∀ x ∈ l, x.ix < n := fun x hx => h _ (by rw [← e]; exact List.mem_map_of_mem hx)
/-- a, b, .. = e, f, ..: new lists and dicts to names that own them -/
theorem snd_asgM {l : List (Nat × Bool × PTE Ob)} {gs : TGs} {n : Nat} (hl : SndM W l tx) (hg : SlotGs (l.map (·.1)) gs) (hn : l.length = n) (h1000 : l.length ≤ 1000) : SndS W (pAsgM l) (tAsg (tTup tx) (gTup W.K n gs)) := by
  intro C pD D σ H env s h k
  obtain ⟨hi, h⟩ := h
  refine SndM.run hl [] s (fun _ z => by cases z) (fun _ z => by cases z) h fun G H1 more s1 g1 ok1 hG nd fr ei hq => ?_
  have ll : more.length = l.length := by rw [← List.length_map (f := Pn.ix), ei, List.length_map]
  refine ⟨by rw [List.length_map, ll]; exact Nat.le_trans h1000 line1000, fun a ha => ?_⟩
  have g2 : Grow C.p H1 (upd H1 a (.tup (more.map Pn.val))) := Grow.new s1.hv ha
  have s2 := s1.grow g2
  refine ⟨a, _, rfl, SqT.of upd_same, by rw [List.length_map, ll, hn], ?_⟩
  refine pend_sets more s2 (fun x hx => (ok1 x hx).mono (g2.hide s1.hv) fun b hb => ?_) (fun b hb => (hG b).mpr (.inr hb)) nd (pn_all ei fun j hj => by obtain ⟨x, hx, rfl⟩ := List.mem_map.mp hj; exact hi x hx) (fun G' σ' s' hG' => ?_) (by rw [ei]; exact hg)
  · have gb : G b := (hG b).mpr (.inr (waits_mem hx hb))
    exact ⟨.inl (.inr gb), s2.keepG (C := { C with G := G }) gb s1 g2⟩
  · have eG : G' = C.G := by
      funext b
      refine propext ?_
      rw [hG' b]
      show G b ∧ b ∉ waits more ↔ C.G b
      rw [hG b]
      refine ⟨fun z => z.1.resolve_right z.2, fun z => ⟨.inl z, fun w => s.hv.dom b (.inl (.inr z)) (fr b w)⟩⟩
    rw [eG] at s'
    rw [ei] at s'
    exact k.nx _ _ _ s' hq
end
end Pu
/-! ### a promise about a part of the heap holds beside what is hidden; the draws over trees -/
namespace Pu
open PySem PySem.W PySem.Spec PyProof.Rows L2 Gk
open Classical in
noncomputable def glue (B : Addr → Prop) (H H1 : Hp) : Hp := fun a => if B a then H a else H1 a
theorem glue_in {B : Addr → Prop} {H H1 : Hp} {a : Addr} (h : B a) : glue B H H1 a = H a := by unfold glue; rw [if_pos h]
theorem glue_at {B : Addr → Prop} {H H1 : Hp} {a : Addr} (h : ¬ B a) : glue B H H1 a = H1 a := by unfold glue; rw [if_neg h]
def frSp (sp : Sp) : Sp := fun vs H Q E => ∃ B : Addr → Prop, (∀ a, B a → SoftAt H a) ∧ sp vs (hide B H) (fun v H1 => (∀ b, B b → H1 b = none) → Q v (glue B H H1)) E
theorem hide_none {B : Addr → Prop} {H : Hp} {a : Addr} (h : H a = none) : hide B H a = none := by
  by_cases z : B a
  · exact hide_in z
  · rw [hide_at z]; exact h
theorem SoftAt.not {H : Hp} {a : Addr} {o : HO} (s : SoftAt H a) (h : H a = some o) (n : ¬ Soft o) : False := by
  obtain ⟨u, e, so⟩ := s
  rw [h] at e
  cases e
  exact n so
section
variable {P : Program} {w : World} {K : Frag} {mg : Str → Option Value} {base : Heap} {k : Nat} {f : Addr} {fd : FuncData} {ps : List Str} {sp : Sp}
theorem hide_hok {B : Addr → Prop} {H : Hp} {h : Heap} (x : HOk P w H h) (soft : ∀ a, B a → SoftAt H a) : HOk P w (hide B H) h := fun a o e => by
  obtain ⟨n, e'⟩ := hide_some e
  refine (x a o e').stay (fun _ _ _ q => q) (fun b q => ?_) fun b xs q => ?_
  · rw [hide_at fun z => (soft b z).not q (by rintro (⟨_, z⟩ | ⟨_, z⟩) <;> cases z)]; exact q
  · rw [hide_at fun z => (soft b z).not q (by rintro (⟨_, z⟩ | ⟨_, z⟩) <;> cases z)]; exact q
theorem frame_fn (F : FnOk P w K mg base CX0 k f fd ps sp) : FnOk P w K mg base CX0 k f fd ps (frSp sp) := by
  refine ⟨fun vs H Q E ⟨B, _, h⟩ => F.len _ _ _ _ h, fun A outer s H args us vs Q E hr he hb hv ⟨B, soft, hs⟩ => ?_⟩
  have he' : Env0 P w K mg base A outer s (hide B H) := ⟨he.frames, he.mod, fun b o e => ⟨(he.bs b o e).1, hide_none (he.bs b o e).2⟩, he.bsz, he.funs, fun b hb => hide_none (he.frf b hb), hide_hok he.hok soft, he.bare⟩
  refine codeAny_mono (F.run A outer s (hide B H) args us vs _ E hr he' hb hv hs) fun r s' h => ?_
  unfold CR at h ⊢
  cases r with
  | error e => exact h
  | ok fl =>
    cases fl with
    | ret u =>
      obtain ⟨v, H1, os, bare, un, hok, rel, q⟩ := h
      have there : ∀ b, B b → ∃ o ob, H b = some o ∧ Soft o ∧ s.heap.get? b = some ob := fun b z => by
        obtain ⟨o, e, so⟩ := soft b z
        have x := he.hok b o e
        rcases so with ⟨xs, rfl⟩ | ⟨kvs, rfl⟩
        · obtain ⟨_, _, _, _, eg⟩ := x
          exact ⟨_, _, e, .inl ⟨_, rfl⟩, eg⟩
        · obtain ⟨_, _, _, _, ob, es, ep, eg, _⟩ := x
          exact ⟨_, _, e, .inr ⟨_, rfl⟩, eg⟩
      have gone : ∀ b, B b → H1 b = none := fun b z => by
        obtain ⟨o, ob, _, _, e⟩ := there b z
        exact un.free b ob e (hide_in z) (by simp)
      refine ⟨v, glue B H H1, os, bare, ?_, ?_, rel, q gone⟩
      · have nsoft : ∀ {b : Addr} {o : HO}, H b = some o → ¬ Soft o → ¬ B b := fun e n z => (soft _ z).not e n
        refine ⟨fun b o e n => un.keep b o e (hide_none n), fun b o e n => un.slot b o e (hide_none n), fun b o e n hx => ?_, un.there, fun b xs q => ?_, fun b o xs q => ?_, fun b xs q => ?_⟩
        · by_cases z : B b
          · rw [glue_in z]; exact n
          · rw [glue_at z]; exact un.free b o e (hide_none n) hx
        · have nb := nsoft q (by rintro (⟨_, z⟩ | ⟨_, z⟩) <;> cases z)
          rw [glue_at nb]
          exact un.tups b xs (by rw [hide_at nb]; exact q)
        · have nb := nsoft q (by rintro (⟨_, z⟩ | ⟨_, z⟩) <;> cases z)
          rw [glue_at nb]
          exact un.frzs b o xs (by rw [hide_at nb]; exact q)
        · have nb := nsoft q (by rintro (⟨_, z⟩ | ⟨_, z⟩) <;> cases z)
          rw [glue_at nb]
          exact un.tbls b xs (by rw [hide_at nb]; exact q)
      · intro a o e
        by_cases z : B a
        · rw [glue_in z] at e
          obtain ⟨o', ob, e', so, eg⟩ := there a z
          rw [e] at e'
          cases e'
          have nf : a ∉ frs outer := fun q => by rw [he.frf a q] at e; cases e
          have keep : ∀ u, s.heap.get? a = some u → s'.heap.get? a = some u := fun u q => un.keep a u q (hide_in z) nf (by simp)
          have x := he.hok a o e
          rcases so with ⟨xs, rfl⟩ | ⟨kvs, rfl⟩
          · obtain ⟨z1, its, n, r, e⟩ := x
            exact ⟨z1, its, n, r, keep _ e⟩
          · obtain ⟨z1, y, vs, r, ob, es, ep, e, c⟩ := x
            exact ⟨z1, y, vs, r, ob, es, ep, keep _ e, c⟩
        · rw [glue_at z] at e
          refine (hok a o e).stay (fun _ _ _ q => q) (fun b q => ?_) fun b xs q => ?_
          · rw [glue_at fun z => by rw [gone b z] at q; cases q]; exact q
          · rw [glue_at fun z => by rw [gone b z] at q; cases q]; exact q
    | _ => exact h
end
section
variable {Ob : Type} {W : Wd Ob} {p : Option Addr} {B : Addr → Prop} {H H1 : Hp}
/-- behind a call beside what is hidden: what is clean is just what it left -/
theorem glue_hide (gone : ∀ b, B b → H1 b = none) : hide B (glue B H H1) = H1 := by
  funext b
  by_cases z : B b
  · rw [hide_in z, gone b z]
  · rw [hide_at z, glue_at z]
theorem glue_grow (hv : Hv p B H) (s : Same (hide B H) H1) : Grow p H (glue B H H1) := by
  refine ⟨fun b u n e => ?_, fun a e => ?_⟩
  · by_cases z : B b
    · rw [glue_in z]; exact e
    · rw [glue_at z]; exact s b u (by rw [hide_at z]; exact e)
  · obtain ⟨z, r, m, e1, e2⟩ := hv.src a e
    exact ⟨r, m, by rw [glue_in z]; exact e1, e2⟩
/-- a promise that only adds to the heap, over trees: H1 is clean -/
theorem wrap_fn {P : Program} {w : World} {K : Frag} {mg : Str → Option Value} {base : Heap} {k : Nat} {f : Addr} {fd : FuncData} {ps : List Str} {sp : Sp} {F : List (Dt Ob) → PQ Ob → Prop} (Fn : FnOk P w K mg base CX0 k f fd ps sp)
    (h : ∀ (p : Option Addr) (vs : List V) (Hc : Hp) (ds : List (Dt Ob)) (Qp : PQ Ob) (Q : VK) (E : XK), RA (W.at nz) p Hc vs ds → F ds Qp → (∀ d v H1, Qp .cl d → Same Hc H1 → R0 (W.at nz) p H1 v d → Q v H1) →
      (∀ ds a us H1, Qp .fr (.lst ds) → Same Hc H1 → Hc a = none → H1 a = some (.lst us) → RA (W.at nz) p (hide (fun b => b = a) H1) us ds → Q (.ref a) H1) → sp vs Hc Q E) : FnOk P w K mg base CX0 k f fd ps (PFn W noZ F) := by
  refine (frame_fn Fn).imp fun vs H Q E hq => ?_
  obtain ⟨z, p, B, ds, Qp, rfl, hv, r, hF, kk⟩ := hq
  refine ⟨B, hv.sft, h p vs (hide B H) ds Qp _ E r hF (fun d v H1 q s r1 gone => ?_) fun ds a us H1 q s na ha ra gone => ?_⟩
  · refine kk .cl d v _ q (glue_grow hv s) ?_
    show R0 (W.at nz) p (hide B (glue B H H1)) v d
    rw [glue_hide gone]
    exact r1
  · have nB : ¬ B a := fun z => by rw [gone a z] at ha; cases ha
    refine kk .fr (.lst ds) _ _ q (glue_grow hv s) ⟨a, us, rfl, by rw [← hide_at nB (H := H)]; exact na, by rw [glue_at nB]; exact ha, ?_⟩
    refine ra.mono fun b u e => ?_
    obtain ⟨n, e⟩ := hide_some e
    have nb : ¬ B b := fun z => by rw [gone b z] at e; cases e
    rw [hide_at (fun z => z.elim nb n), glue_at nb]
    exact e
def FDraw : List (Dt Ob) → PQ Ob → Prop := fun ds Q => ∃ n : Int, ds = [.src, .int n] ∧ 0 < n ∧ n < 1000000 ∧ ∀ k : Int, 0 ≤ k → k < n → Q .cl (.int k)
def FPick : List (Dt Ob) → PQ Ob → Prop := fun ds Q => ∃ xs, ds = [.src, .lst xs] ∧ 0 < xs.length ∧ xs.length < 1000000 ∧ ∀ x ∈ xs, Q .cl x
def kT : Key → Dt Ob
  | .inl i => .int i
  | .inr x => .str x
def FMixed : List (Dt Ob) → PQ Ob → Prop := fun ds Q => ∃ ks : List Key, ds = [.src, .lst (ks.map kT)] ∧ ks.length ≤ 1000 ∧ (∀ k ∈ ks, kOk k = true) ∧ ∀ js : List Key, js.Perm ks → Q .fr (.lst (js.map kT))
theorem FDraw_len {ds : List (Dt Ob)} {Q : PQ Ob} (h : FDraw ds Q) : ds.length = 2 := by obtain ⟨n, rfl, _⟩ := h; rfl
theorem srcs_upd {r m : Int} {a : Addr} (hv : Hv p B H) (pa : p = some a) (ok : SrcOk m) : Grow p H (upd H a (srcO r m)) := by
  refine ⟨fun b u n e => ?_, fun b e => ?_⟩
  · rw [upd_ne (fun z => n (by rw [z]; exact pa))]; exact e
  · rw [pa] at e
    cases e
    exact ⟨r, m, upd_same, ok⟩
section
variable {P : Program} {w : World} {K : Frag} {mg : Str → Option Value} {base : Heap} {k : Nat} {f : Addr} {fd : FuncData} {ps : List Str}
theorem fn_draw (F : FnOk P w K mg base CX0 k f fd ps spDraw) : FnOk P w K mg base CX0 k f fd ps (PFn W anyZ FDraw) := by
  refine F.imp fun vs H Q E hq => ?_
  obtain ⟨zf, p, B, ds, Qp, _, hv, r, ⟨n, rfl, h0, h1, hk⟩, kk⟩ := hq
  cases r with
  | cons r1 r2 =>
    cases r1 with
    | src pa =>
      cases r2 with
      | cons r3 r4 =>
        cases r3
        cases r4
        obtain ⟨z, r, m, e1, e2⟩ := hv.src _ pa
        refine ⟨_, n, r, m, rfl, e1, e2, h0, h1, fun j r' m' j0 j1 ok => ?_⟩
        exact kk .cl _ _ _ (hk j j0 j1) (srcs_upd hv pa ok) (show R0 (W.at zf) p _ _ _ from .int j)
theorem fn_pick (F : FnOk P w W.K mg base CX0 k f fd ps (spPick W.K)) : FnOk P w W.K mg base CX0 k f fd ps (PFn W anyZ FPick) := by
  refine F.imp fun vs H Q E hq => ?_
  obtain ⟨zf, p, B, ds, Qp, _, hv, r, ⟨xs, rfl, h0, h1, hk⟩, kk⟩ := hq
  cases r with
  | cons r1 r2 =>
    cases r1 with
    | src pa =>
      cases r2 with
      | cons r3 r4 =>
        cases r4
        cases r3 with
        | lst he ra =>
          obtain ⟨z, r, m, e1, e2⟩ := hv.src _ pa
          obtain ⟨nb, he⟩ := hide_some he
          refine ⟨_, _, r, m, _, rfl, e1, e2, SqL.of he, fun q => nb (by rw [q]; exact z), by rw [ra.length]; exact h0, by rw [ra.length]; exact h1, fun i v r' m' ev ok => ?_⟩
          obtain ⟨d, ed, rd⟩ := ra.getL ev
          refine kk .cl d v _ (hk d (List.mem_of_getElem? ed)) (srcs_upd hv pa ok) ?_
          show R0 (W.at zf) p (hide B (upd H _ _)) v d
          rw [hide_upd_in z]
          exact rd
theorem RA.ofKeys : ∀ ks : List Key, RA W p H (ks.map kV) (ks.map kT)
  | [] => .nil
  | .inl i :: ks => .cons (.int i) (RA.ofKeys ks)
  | .inr x :: ks => .cons (.str x) (RA.ofKeys ks)
theorem RA.keys' : ∀ {us : List V} {ks : List Key}, RA W p H us (ks.map kT) → us = ks.map kV
  | _, [], .nil => rfl
  | _, .inl i :: ks, .cons r t => by
    rw [List.map_cons, ← RA.keys' (ks := ks) t]
    cases r
    rfl
  | _, .inr i :: ks, .cons r t => by
    rw [List.map_cons, ← RA.keys' (ks := ks) t]
    cases r
    rfl
theorem fn_mixed (F : FnOk P w W.K mg base CX0 k f fd ps (spMixed W.K)) : FnOk P w W.K mg base CX0 k f fd ps (PFn W anyZ FMixed) := by
  refine F.imp fun vs H Q E hq => ?_
  obtain ⟨zf, p, B, ds, Qp, _, hv, r, ⟨ks, rfl, h0, h1, hk⟩, kk⟩ := hq
  cases r with
  | cons r1 r2 =>
    cases r1 with
    | src pa =>
      cases r2 with
      | cons r3 r4 =>
        cases r4
        cases r3 with
        | lst he ra =>
          obtain ⟨z, r, m, e1, e2⟩ := hv.src _ pa
          obtain ⟨nb, he⟩ := hide_some he
          obtain rfl := ra.keys'
          refine ⟨_, _, r, m, ks, rfl, e1, e2, SqL.of he, fun q => nb (by rw [q]; exact z), h0, h1, fun H' q js dr nq nqp cq pj => ?_⟩
          refine kk .fr _ _ _ (hk js pj) ⟨fun b u n e => dr.keep b u (fun w => n (by rw [w]; exact pa)) e, fun b e => ?_⟩ ⟨q, _, rfl, nq, cq, RA.ofKeys js⟩
          rw [pa] at e
          cases e
          exact dr.src
end
end
end Pu
/-! ### loops over the keys of a dict; a list that is given away; more built-ins -/
namespace Pu
open PySem PySem.W PySem.Spec PyProof.Rows L2 Gk
section
variable {Ob : Type}
def Wd.wz (W : Wd Ob) (d : Addr) : Wd Ob := W.at fun b => b = d
def pForK (pd : PTE Ob) (pg : PTG Ob) (pb : PTS Ob) (pD : PEnds Ob) (env : PEnv Ob) : Prop := pd env fun fl x => fl ≠ .raw ∧ ∃ es, x = .dic es ∧ ∃ I : Nat → PEnv Ob → Prop, I 0 env ∧
  (∀ i k env', (es.map (·.1))[i]? = some k → I i env' → pg (kT k) env' fun env2 => pb { nx := I (i + 1), rt := fun _ _ => False, ct := I (i + 1) } env2) ∧ ∀ env', I es.length env' → pD.nx env'
/-- an expression whose value is known and that reads lists and tuples alone -/
def SndV (W : Wd Ob) (pd : PTE Ob) (td : TE) : Prop := ∀ (p : Option Addr) (D : Addr → Prop) (σ : L2.St) (H : Hp) (env : PEnv Ob) (Qp : PQ Ob), StE W p D H σ env → pd env Qp →
  ∃ fl d v, Qp fl d ∧ RR W p D H H fl v d ∧ ∀ (H' : Hp) (Q : VK), (∀ a xs, H a = some (.tup xs) → H' a = some (.tup xs)) → Q v H' → td σ H' Q
def pSh (i : Nat) (pt : PTS Ob) (pD : PEnds Ob) (env : PEnv Ob) : Prop := ∃ x, env[i]? = some x ∧ pt pD (env.set i x.share)
def prLenD' : List (Dt Ob) → PQ Ob → Prop := prLenD
def pairsD : List (Key × Dt Ob) → List (Dt Ob) := List.map fun kv => .tup [kT kv.1, kv.2]
def prDictP (xs : List (Dt Ob)) (Q : PQ Ob) : Prop := ∃ es, xs = [.lst (pairsD es)] ∧ Q .fr (.dic (mergeD [] es))
def prDictD (xs : List (Dt Ob)) (Q : PQ Ob) : Prop := ∃ es, xs = [.dic es] ∧ Q .fr (.dic es)
end
section
variable {Ob : Type} {W : Wd Ob} {p : Option Addr} {D : Addr → Prop} {C : Ct} {H H' H0 H1 H2 : Hp} {v : V} {d : Dt Ob} {ds : List (Dt Ob)} {us : List V} {es : List (Key × Dt Ob)} {fl : Fl} {σ : L2.St} {env : PEnv Ob} {i j : Nat}
variable {pe pa pb pc pk pd : PTE Ob} {te ta tb tc tk td : TE} {pt : PTT Ob} {tt : TT} {px : PTA Ob} {tx : TA} {pg : PTG Ob} {g : TG} {ps pu : PTS Ob} {ts tu : TS}
/-! a dict is locked, and set free -/
mutual
theorem R0.relock {W W' : Wd Ob} (l : ∀ a xs, H a = some (.lst xs) → H' a = some (.lst xs)) (t : ∀ a xs, H a = some (.tup xs) → H' a = some (.tup xs)) (dd : ∀ a kvs, DicAt W H a kvs → DicAt W' H' a kvs) (o : ∀ v x, W.rep (thaw W.fz H) v x → W'.rep (thaw W'.fz H') v x) :
    ∀ {v : V} {d : Dt Ob}, R0 W p H v d → R0 W' p H' v d
  | _, _, .non => .non
  | _, _, .bl b => .bl b
  | _, _, .int i => .int i
  | _, _, .str x => .str x
  | _, _, .lst h a => .lst (l _ _ h) (RA.relock l t dd o a)
  | _, _, .tup h a => .tup (t _ _ h) (RA.relock l t dd o a)
  | _, _, .dic h a => .dic (dd _ _ h) (RK.relock l t dd o a)
  | _, _, .src e => .src e
  | _, _, .ob r => .ob (o _ _ r)
theorem RA.relock {W W' : Wd Ob} (l : ∀ a xs, H a = some (.lst xs) → H' a = some (.lst xs)) (t : ∀ a xs, H a = some (.tup xs) → H' a = some (.tup xs)) (dd : ∀ a kvs, DicAt W H a kvs → DicAt W' H' a kvs) (o : ∀ v x, W.rep (thaw W.fz H) v x → W'.rep (thaw W'.fz H') v x) :
    ∀ {vs : List V} {ds : List (Dt Ob)}, RA W p H vs ds → RA W' p H' vs ds
  | _, _, .nil => .nil
  | _, _, .cons a b => .cons (R0.relock l t dd o a) (RA.relock l t dd o b)
theorem RK.relock {W W' : Wd Ob} (l : ∀ a xs, H a = some (.lst xs) → H' a = some (.lst xs)) (t : ∀ a xs, H a = some (.tup xs) → H' a = some (.tup xs)) (dd : ∀ a kvs, DicAt W H a kvs → DicAt W' H' a kvs) (o : ∀ v x, W.rep (thaw W.fz H) v x → W'.rep (thaw W'.fz H') v x) :
    ∀ {vs : List (Key × V)} {ds : List (Key × Dt Ob)}, RK W p H vs ds → RK W' p H' vs ds
  | _, _, .nil => .nil
  | _, _, .cons a b => .cons (R0.relock l t dd o a) (RK.relock l t dd o b)
end
/-- to a state where the dict at a is walked, and back: all but that dict as it was -/
structure Relock (W W' : Wd Ob) (H H' : Hp) : Prop where
  l : ∀ a xs, H a = some (.lst xs) → H' a = some (.lst xs)
  t : ∀ a xs, H a = some (.tup xs) → H' a = some (.tup xs)
  dd : ∀ a kvs, DicAt W H a kvs → DicAt W' H' a kvs
  o : ∀ v x, W.rep (thaw W.fz H) v x → W'.rep (thaw W'.fz H') v x
theorem Relock.r0 {W W' : Wd Ob} (k : Relock W W' H H') {v : V} {d : Dt Ob} (h : R0 W p H v d) : R0 W' p H' v d := h.relock k.l k.t k.dd k.o
theorem Relock.ra {W W' : Wd Ob} (k : Relock W W' H H') {v : List V} {d : List (Dt Ob)} (h : RA W p H v d) : RA W' p H' v d := h.relock k.l k.t k.dd k.o
theorem Relock.rk {W W' : Wd Ob} (k : Relock W W' H H') {v : List (Key × V)} {d : List (Key × Dt Ob)} (h : RK W p H v d) : RK W' p H' v d := h.relock k.l k.t k.dd k.o
theorem thaw_lock {a : Addr} {od : Obj} {kvs : List (Key × V)} (h : H a = some (.dK kvs)) : thaw (fun b => b = a) (upd H a (.frz od (.dK kvs))) = H := by
  funext b
  unfold thaw
  by_cases e : b = a
  · subst e
    rw [if_pos rfl, upd_same, h]
  · rw [if_neg e, upd_ne e]
theorem thaw_unlock {a : Addr} {od : Obj} {kvs : List (Key × V)} (h : H a = some (.frz od (.dK kvs))) : thaw (fun b => b = a) H = upd H a (.dK kvs) := by
  funext b
  unfold thaw
  by_cases e : b = a
  · subst e
    rw [if_pos rfl, upd_same, h]
  · rw [if_neg e, upd_ne e]
theorem lock_re {a : Addr} {od : Obj} {kvs : List (Key × V)} (hz : W.fz = fun _ => False) (h : H a = some (.dK kvs)) : Relock W (W.wz a) H (upd H a (.frz od (.dK kvs))) := by
  refine ⟨fun b xs e => by rw [upd_ne (ne_of e h fun z => by cases z)]; exact e, fun b xs e => by rw [upd_ne (ne_of e h fun z => by cases z)]; exact e, fun b ks e => ?_, fun v x r => ?_⟩
  · rcases e with e | ⟨z, _⟩
    · by_cases q : b = a
      · subst q
        rw [h] at e
        cases e
        exact .inr ⟨rfl, od, upd_same⟩
      · exact .inl (by rw [upd_ne q]; exact e)
    · rw [hz] at z; exact z.elim
  · rw [hz, thaw_none] at r
    show W.rep (thaw (fun b => b = a) _) v x
    rw [thaw_lock h]
    exact r
theorem unlock_re {a : Addr} {od : Obj} {kvs : List (Key × V)} (hz : W.fz = fun _ => False) (h : H a = some (.frz od (.dK kvs))) : Relock (W.wz a) W H (upd H a (.dK kvs)) := by
  refine ⟨fun b xs e => by rw [upd_ne (ne_of e h fun z => by cases z)]; exact e, fun b xs e => by rw [upd_ne (ne_of e h fun z => by cases z)]; exact e, fun b ks e => ?_, fun v x r => ?_⟩
  · rcases e with e | ⟨rfl, o, e⟩
    · exact .inl (by rw [upd_ne (ne_of e h fun z => by cases z)]; exact e)
    · rw [h] at e
      cases e
      exact .inl upd_same
  · rw [hz, thaw_none]
    have r : W.rep (thaw (fun b => b = a) H) v x := r
    rw [thaw_unlock h] at r
    exact r
theorem hide_upd_at {a : Addr} {o : HO} (h : ¬ D a) : hide D (upd H a o) = upd (hide D H) a o := by
  funext b
  by_cases e : b = a
  · subst e
    rw [hide_at h, upd_same, upd_same]
  · rw [upd_ne e]
    by_cases z : D b
    · rw [hide_in z, hide_in z]
    · rw [hide_at z, hide_at z, upd_ne e]
mutual
theorem RM.re {W W' : Wd Ob} (k : Relock W W' (hide D H) (hide D H')) : ∀ {f : Bool} {O : List Addr} {v : V} {d : Dt Ob}, RM W p D H f O v d → (∀ a ∈ O, H' a = H a) → RM W' p D H' f O v d
  | _, _, _, _, .cl c r, _ => .cl c (k.r0 r)
  | _, _, _, _, .lst h r n, o => .lst (by rw [o _ List.mem_cons_self]; exact h) (RMs.re k r fun a m => o a (List.mem_cons_of_mem _ m)) n
  | _, _, _, _, .tup h r, o => .tup (k.t _ _ h) (RMs.re k r o)
theorem RMs.re {W W' : Wd Ob} (k : Relock W W' (hide D H) (hide D H')) : ∀ {f : Bool} {O : List Addr} {vs : List V} {ds : List (Dt Ob)}, RMs W p D H f O vs ds → (∀ a ∈ O, H' a = H a) → RMs W' p D H' f O vs ds
  | _, _, _, _, .nil, _ => .nil
  | _, _, _, _, .cons r t n, o => .cons (RM.re k r fun a m => o a (List.mem_append_left _ m)) (RMs.re k t fun a m => o a (List.mem_append_right _ m)) n
end
theorem SlOk.re {W W' : Wd Ob} {s : Option V} {x : PV Ob} (h : SlOk W p D H s x) (k : Relock W W' (hide D H) (hide D H')) (o : ∀ a, D a → H' a = H a) : SlOk W' p D H' s x := by
  cases x with
  | no => trivial
  | sh d => obtain ⟨v, e, r⟩ := h; exact ⟨v, e, k.r0 r⟩
  | own ds => obtain ⟨b, us, e, db, pb, hb, r⟩ := h; exact ⟨b, us, e, db, pb, by rw [o b db]; exact hb, k.ra r⟩
  | ownD ds => obtain ⟨b, us, e, db, pb, hb, r⟩ := h; exact ⟨b, us, e, db, pb, by rw [o b db]; exact hb, k.rk r⟩
  | deep O f d => obtain ⟨v, O1, e, r, i, q⟩ := h; exact ⟨v, O1, e, r.re k fun a m => o a (q a (i a m)).1, i, q⟩
theorem sndV_var : SndV W (pVar i) (tVar i) := by
  intro p D σ H env Qp st h
  unfold pVar at h
  cases e : env[i]? with
  | none => rw [e] at h; exact h.elim
  | some x =>
    rw [e] at h
    obtain ⟨y, ey, sl⟩ := st.get e
    cases x with
    | no => exact h.elim
    | sh d =>
      obtain ⟨v, rfl, r⟩ := sl
      exact ⟨.cl, d, v, h, r, fun H' Q _ q => ⟨v, ey, q⟩⟩
    | own ds =>
      obtain ⟨a, us, rfl, da, na, ha, r⟩ := sl
      exact ⟨.raw, .lst ds, _, h, ⟨a, us, rfl, na, ha, r⟩, fun H' Q _ q => ⟨_, ey, q⟩⟩
    | ownD ds =>
      obtain ⟨a, us, rfl, da, na, ha, r⟩ := sl
      exact ⟨.raw, .dic ds, _, h, ⟨a, us, rfl, na, ha, r⟩, fun H' Q _ q => ⟨_, ey, q⟩⟩
    | deep O f d => exact h.elim
/-- an item of a tuple, by a written number -/
theorem sndV_ixT {z : Int} (hd : SndV W pd td) : SndV W (pOp poIxT pd (pC (.int z))) (tOp (rIxT W.K) td (tC (.int z))) := by
  intro p D σ H env Qp st h
  obtain ⟨fl, d, v, ⟨ds, i, e, rfl, e2, e3, q⟩, r, run⟩ := hd p D σ H env _ st h
  have cx := (r.rv st.hv).cl_of_tup
  cases cx with
  | tup ha ra =>
    rename_i a us
    cases e2
    obtain ⟨w, ew, rw'⟩ := ra.at e3
    refine ⟨.cl, e, w, q, rw', fun H' Q kt q => run H' _ kt ⟨a, us, z, w, rfl, rfl, SqT.of (kt _ _ (hide_some ha).2), ew, q⟩⟩
theorem snd_forK (hz : W.fz = fun _ => False) (hd : SndV W pd td) (hg : ∀ a, SndGS (W.wz a) pg g) (hb : ∀ a, SndS (W.wz a) ps ts) : SndS W (pForK pd pg ps) (tLock (tFor (iKeys td) g ts)) := by
  intro C pD DD σ H env s h k
  obtain ⟨fl, d0, v, ⟨nraw, es, rfl, I, i0, is, ie⟩, r, run⟩ := hd C.p (DOf C σ env) σ H env _ s.e h
  have cl := RR.clean r s.hv nraw
  cases cl with
  | dic hda rk =>
    rename_i a kvs
    rcases hda with ha | ⟨z, _⟩
    · obtain ⟨nD, ha⟩ := hide_some ha
      have npa : C.p ≠ some a := fun q => nD (s.hv.src a q).1
      refine ⟨a, _, ha, trivial, fun od => ?_⟩
      -- the state within
      have hh : hide (DOf C σ env) (upd H a (.frz od (.dK kvs))) = upd (hide (DOf C σ env) H) a (.frz od (.dK kvs)) := hide_upd_at nD
      have ha' : hide (DOf C σ env) H a = some (.dK kvs) := by rw [hide_at nD]; exact ha
      have re : Relock W (W.wz a) (hide (DOf C σ env) H) (hide (DOf C σ env) (upd H a (.frz od (.dK kvs)))) := by
        rw [hh]
        exact lock_re hz ha'
      let H1 := upd H a (.frz od (.dK kvs))
      let C' : Ct := { C with H0 := fun b => if b = a then (if C.H0 a = none then none else H1 a) else C.H0 b, snap := hide (DOf C σ env) H1 }
      have n0 : ∀ b, C'.H0 b = none ↔ C.H0 b = none := fun b => by
        show (if b = a then (if C.H0 a = none then none else H1 a) else C.H0 b) = none ↔ _
        by_cases q : b = a
        · subst q
          rw [if_pos rfl]
          by_cases w : C.H0 b = none
          · rw [if_pos w]; exact ⟨fun _ => w, fun _ => rfl⟩
          · rw [if_neg w]
            exact ⟨fun z => (by rw [show H1 b = some _ from upd_same] at z; cases z), fun z => absurd z w⟩
        · rw [if_neg q]
      have hD : ∀ (σ : L2.St) (env : PEnv Ob), DOf C' σ env = DOf C σ env := fun σ env => by
        funext b
        refine propext ⟨fun z => ?_, fun z => ?_⟩
        · rcases z with z | ⟨z1, z2⟩
          · exact .inl z
          · exact .inr ⟨(n0 b).mp z1, z2⟩
        · rcases z with z | ⟨z1, z2⟩
          · exact .inl z
          · exact .inr ⟨(n0 b).mpr z1, z2⟩
      have offB : ∀ b, C.B b → b ≠ a := fun b z q => nD (.inl (.inl (by rw [← q]; exact z)))
      have hv0 : Hv C.p C.B C'.H0 := by
        refine ⟨fun b z => ?_, fun b q => ⟨(s.b0.src b q).1, ?_⟩⟩
        · obtain ⟨o, e, so⟩ := s.b0.sft b z
          exact ⟨o, by show (if b = a then _ else _) = _; rw [if_neg (offB b z)]; exact e, so⟩
        · obtain ⟨r, m, e1, e2⟩ := (s.b0.src b q).2
          exact ⟨r, m, by show (if b = a then _ else _) = _; rw [if_neg (offB b (s.b0.src b q).1)]; exact e1, e2⟩
      have Dna : ∀ b, DOf C σ env b → b ≠ a := fun b z q => nD (by rw [← q]; exact z)
      have s1 : StS (W.wz a) C' σ H1 env := by
        refine ⟨?_, hv0, fun b u n e => ?_, fun i x t b e q o => ?_, s.dis, ?_, fun b z => (n0 b).mpr (s.gnew b z), s.gdis⟩
        · rw [hD]
          refine ⟨⟨fun b z => ?_, fun b q => ⟨(s.hv.src b q).1, ?_⟩⟩, pr_map (fun x y h => h.re re fun b z => upd_ne (Dna b z)) s.e.sl⟩
          · obtain ⟨o, e, so⟩ := s.hv.sft b z
            exact ⟨o, by rw [show H1 b = H b from upd_ne (Dna b z)]; exact e, so⟩
          · obtain ⟨r, m, e1, e2⟩ := (s.hv.src b q).2
            exact ⟨r, m, by rw [show H1 b = H b from upd_ne (Dna b (s.hv.src b q).1)]; exact e1, e2⟩
        · have e : (if b = a then (if C.H0 a = none then none else H1 a) else C.H0 b) = some u := e
          by_cases q : b = a
          · subst q
            rw [if_pos rfl] at e
            by_cases w : C.H0 b = none
            · rw [if_pos w] at e; cases e
            · rw [if_neg w] at e; exact e
          · rw [if_neg q] at e
            rw [show H1 b = H b from upd_ne q]
            exact s.keep b u n e
        · exact (n0 b).mpr (s.new i x t b e q o)
        · rw [hD]
          exact Same.refl _
      -- behind a turn, or all of them: the dict is set free
      have snapA : ∀ {σ' H' env'}, StS (W.wz a) C' σ' H' env' → ¬ DOf C σ' env' a ∧ H' a = some (.frz od (.dK kvs)) := fun s' => by
        have := s'.snap a (.frz od (.dK kvs)) (by show hide (DOf C σ env) H1 a = _; rw [hide_at nD]; exact upd_same)
        rw [hD] at this
        exact hide_some this
      have back : ∀ σ' H' env', StS (W.wz a) C' σ' H' env' → StS W C σ' (upd H' a (.dK kvs)) env' := fun σ' H' env' s' => by
        obtain ⟨nD', hfa⟩ := snapA s'
        have hh' : hide (DOf C σ' env') (upd H' a (.dK kvs)) = upd (hide (DOf C σ' env') H') a (.dK kvs) := hide_upd_at nD'
        have re' : Relock (W.wz a) W (hide (DOf C σ' env') H') (hide (DOf C σ' env') (upd H' a (.dK kvs))) := by
          rw [hh']
          exact unlock_re (od := od) hz (by rw [hide_at nD']; exact hfa)
        have Dn : ∀ b, DOf C σ' env' b → b ≠ a := fun b z q => nD' (by rw [← q]; exact z)
        have e' := s'.e
        rw [hD] at e'
        refine ⟨⟨⟨fun b z => ?_, fun b q => ⟨(e'.hv.src b q).1, ?_⟩⟩, pr_map (fun x y h => h.re re' fun b z => upd_ne (Dn b z)) e'.sl⟩, s.b0, fun b u n e => ?_, fun i x t b e q o => ?_, s'.dis, ?_, s.gnew, s'.gdis⟩
        · obtain ⟨o, e, so⟩ := e'.hv.sft b z
          exact ⟨o, by rw [upd_ne (Dn b z)]; exact e, so⟩
        · obtain ⟨r, m, e1, e2⟩ := (e'.hv.src b q).2
          exact ⟨r, m, by rw [upd_ne (Dn b (e'.hv.src b q).1)]; exact e1, e2⟩
        · by_cases q : b = a
          · subst q
            have := s.keep b u n e
            rw [ha] at this
            rw [upd_same]
            exact this
          · rw [upd_ne q]
            refine s'.keep b u n ?_
            show (if b = a then _ else _) = _
            rw [if_neg q]
            exact e
        · exact (n0 b).mp (s'.new i x t b e q o)
        · intro b u e
          have e1 := s.snap b u e
          rw [hh']
          by_cases q : b = a
          · subst q
            rw [upd_same]
            rw [ha'] at e1
            exact e1
          · rw [upd_ne q]
            have := s'.snap b u (by show hide (DOf C σ env) H1 b = _; rw [hh, upd_ne q]; exact e1)
            rw [hD] at this
            exact this
      have rd : Rd H1 a (.dK kvs) := .inr ⟨od, upd_same⟩
      refine run H1 _ (fun b xs e => by rw [show H1 b = H b from upd_ne (ne_of e ha fun z => by cases z)]; exact e) ⟨a, od, rfl, .inl ⟨kvs, upd_same, ?_⟩⟩
      have lk := rk.length
      have kk := rk.keys
      refine for_it (walk_keys (d := a) (o := od) (kvs := kvs)) (fun i σ H => ∃ env, StS (W.wz a) C' σ H env ∧ I i env) ⟨env, s1, i0⟩ (fun i σ H _ ⟨env', s', _⟩ => (snapA s').2) ?_ (fun σ H ⟨env', s', q⟩ => ⟨(snapA s').2, k.nx σ _ env' (back _ _ _ s') (ie env' (by rw [← lk]; exact q))⟩)
      rintro i x σ2 H2 H3 hi ⟨env2, s2, hI⟩ ⟨rfl, kk2, vv, e1, rfl⟩
      have ek : (es.map (·.1))[i]? = some kk2 := by rw [← kk, List.getElem?_map, e1]; rfl
      refine hg a C' σ2 H3 env2 _ (kT kk2) _ _ s2 (by cases kk2 <;> first | exact .int _ | exact .str _) (is i kk2 env2 ek hI) fun σ4 env4 q4 s4 => ?_
      exact hb a C' _ _ σ4 H3 env4 s4 q4 ⟨fun σ H env z q => ⟨env, z, q⟩, fun _ _ _ _ _ _ z => z.elim, fun _ _ _ _ z => z.elim, fun σ H env z q => ⟨env, z, q⟩⟩
    · rw [hz] at z; exact z.elim
theorem snd_forKz {z : Addr → Prop} (hz : z = nz) (hd : SndV (W.at z) pd td) (hg : ∀ a : Addr, SndGS (W.at fun b => b = a) pg g) (hb : ∀ a : Addr, SndS (W.at fun b => b = a) ps ts) : SndS (W.at z) (pForK pd pg ps) (tLock (tFor (iKeys td) g ts)) :=
  snd_forK (W := W.at z) hz hd hg hb
/-- a list of one's own is given away -/
theorem snd_share (i : Nat) (h : SndS W ps ts) : SndS W (pSh i ps) ts := by
  intro C pD DD σ H env s ⟨x, e, q⟩ k
  refine h C pD DD σ H _ ?_ q k
  cases ho : x.isOwn with
  | false =>
    have hx : x.share = x := by cases x <;> first | rfl | cases ho
    rw [hx]
    have : env.set i x = env := by
      apply List.ext_getElem?
      intro j
      by_cases q : j = i
      · subst q
        rw [List.getElem?_set_self (List.getElem?_eq_some_iff.mp e).1, e]
      · rw [List.getElem?_set_ne (Ne.symm q)]
    rw [this]
    exact s
  | true =>
    have hsh : x.share.isOwn = false := by cases x <;> first | rfl | cases ho
    obtain ⟨w, ew, sl⟩ := s.e.get e
    have m : ∀ b, DOf C σ (env.set i x.share) b → DOf C σ env b := fun b z => by
      rcases z with z | ⟨z1, j, y, u, ey, q, o⟩
      · exact .inl z
      · rcases set_get ey with ⟨rfl, rfl⟩ | ⟨n, ey⟩
        · exact absurd o (owns_no hsh)
        · exact .inr ⟨z1, j, y, u, ey, q, o⟩
    have hs := hide_mono (H := H) m
    have nD : ∀ a, owns x w a → ¬ DOf C σ (env.set i x.share) a := fun a oa z => by
      have na := s.new i x w a e ew oa
      rcases z with (z | z) | ⟨z1, j, y, u, ey, q, o⟩
      · exact s.b0.dom a z na
      · exact s.gdis i x w a e ew oa z
      · rcases set_get ey with ⟨rfl, rfl⟩ | ⟨n, ey⟩
        · exact absurd o (owns_no hsh)
        · exact n (s.dis j i y x u w a ey q o e ew oa)
    have hset : σ.set i w = σ := by
      apply List.ext_getElem?
      intro j
      by_cases q : j = i
      · subst q
        rw [List.getElem?_set_self (List.getElem?_eq_some_iff.mp ew).1, ew]
      · rw [List.getElem?_set_ne (Ne.symm q)]
    refine ⟨⟨⟨fun b z => s.hv.sft b (m b z), fun b q => ⟨.inl (.inl (s.b0.src b q).1), (s.hv.src b q).2⟩⟩, ?_⟩, s.b0, s.keep, fun j y u b ey q o => ?_, fun j k y z u t b e1 q1 o1 e2 q2 o2 => ?_, s.snap.trans hs, s.gnew, fun j y u b ey q o => ?_⟩
    · have := pr_set2 (G := SlOk W C.p (DOf C σ (env.set i x.share)) H) (x := w) (y := x.share) i s.e.sl ?_ fun j t y n e1 e2 h => h.mono hs fun b o => ?_
      · rw [hset] at this
        exact this
      · cases x with
        | own ds =>
          obtain ⟨b, us, e1, db, pb, hb, r⟩ := sl
          exact ⟨_, e1, .lst (by rw [hide_at (nD b e1)]; exact hb) (r.mono hs)⟩
        | ownD ds =>
          obtain ⟨b, us, e1, db, pb, hb, r⟩ := sl
          exact ⟨_, e1, .dic (.inl (by rw [hide_at (nD b e1)]; exact hb)) (r.mono hs)⟩
        | deep O f d =>
          obtain ⟨v, O1, e1, r, i1, q⟩ := sl
          exact ⟨v, e1, r.clean hs fun a m => nD a (i1 a m)⟩
        | _ => cases ho
      · exact ⟨.inr ⟨s.new j y t b e2 e1 o, j, y, t, by rw [List.getElem?_set_ne (Ne.symm n)]; exact e2, e1, o⟩, rfl⟩
    · rcases set_get ey with ⟨rfl, rfl⟩ | ⟨n, ey⟩
      · exact absurd o (owns_no hsh)
      · exact s.new j y u b ey q o
    · rcases set_get e1 with ⟨rfl, rfl⟩ | ⟨n1, e1⟩
      · exact absurd o1 (owns_no hsh)
      · rcases set_get e2 with ⟨rfl, rfl⟩ | ⟨n2, e2⟩
        · exact absurd o2 (owns_no hsh)
        · exact s.dis j k y z u t b e1 q1 o1 e2 q2 o2
    · rcases set_get ey with ⟨rfl, rfl⟩ | ⟨n, ey⟩
      · exact absurd o (owns_no hsh)
      · exact s.gdis j y u b ey q o
/-! dicts by built-ins -/
theorem dic_exact (hz : W.fz = fun _ => False) (h : RV W p D H v (.dic es)) : ∃ a ks, v = .ref a ∧ H a = some (.dK ks) ∧ RK W p (hide D H) ks es := by
  cases h with
  | cl h => cases h with
    | dic e r =>
      rcases e with e | ⟨z, _⟩
      · exact ⟨_, _, rfl, (hide_some e).2, r⟩
      · rw [hz] at z; exact z.elim
  | rd e r => exact ⟨_, _, rfl, e, r⟩
theorem snd_lenD (hz : W.fz = fun _ => False) : SndB W prLenD (fun xs H Q => ∃ a kvs, xs = [V.ref a] ∧ H a = some (.dK kvs) ∧ Q (.int kvs.length) H) := by
  intro p D H vs ds Qp Q hv hs h k
  obtain ⟨es, rfl, q⟩ := h
  obtain ⟨v, rfl, r⟩ := rv1 hs
  obtain ⟨a, us, rfl, ha, r⟩ := dic_exact hz r
  refine ⟨a, us, rfl, ha, ?_⟩
  rw [r.length]
  exact k _ _ _ H q (Grow.refl hv) (show R0 W p (hide D H) _ _ from .int _)
theorem RA.pairs : ∀ {us : List V} {es : List (Key × Dt Ob)}, RA W p H us (pairsD es) → ∃ (qs : List Addr) (kvs : List (Key × V)), us = qs.map V.ref ∧ Paired (fun q kv => H q = some (.tup [kV kv.1, kv.2])) qs kvs ∧ RK W p H kvs es
  | _, [], .nil => ⟨[], [], rfl, .nil, .nil⟩
  | _, (k, d) :: es, .cons r t => by
    obtain ⟨qs, kvs, rfl, h1, h2⟩ := RA.pairs (es := es) t
    cases r with
    | tup ha ra =>
      cases ra with
      | cons r1 r2 =>
        cases r2 with
        | cons r3 r4 =>
          cases r4
          rename_i a v1 v2
          have : v1 = kV k := by cases k <;> cases r1 <;> rfl
          subst this
          exact ⟨a :: qs, (k, v2) :: kvs, rfl, .cons ha h1, .cons r3 h2⟩
theorem snd_dictP : SndB W prDictP (fun xs H Q => ∃ (a : Addr) (ps : List Addr) (kvs : List (Key × V)), xs = [.ref a] ∧ SqL W.K H a (ps.map V.ref) ∧ Paired (fun p kv => SqT W.K H p [kV kv.1, kv.2]) ps kvs ∧
    ∀ p, H p = none → Q (.ref p) (upd H p (.dK (mergeK [] kvs)))) := by
  intro p D H vs ds Qp Q hv hs h k
  obtain ⟨es, rfl, q⟩ := h
  obtain ⟨v, rfl, r⟩ := rv1 hs
  obtain ⟨a, us, rfl, ha, r⟩ := r.lst
  obtain ⟨qs, kvs, rfl, h1, h2⟩ := r.pairs
  exact ⟨a, qs, kvs, rfl, SqL.of ha, pr_map (fun _ _ z => SqT.of (hide_some z).2) h1, fun c hc => k _ _ _ _ q (Grow.new hv hc) (fr_dic hv (RK.merge h2 .nil) hc)⟩
end
end Pu
/-! ### rows, sets and models as trees -/
namespace Pu
open PySem PySem.W PySem.Spec PyProof.Rows L2 Gk
section
variable {Ob : Type}
def rowD (r : Gk.Row) : Dt Ob := .tup [.str r.name, .tup (strsD r.al), .int r.num]
def rowsD (rows : List Gk.Row) : Dt Ob := .lst (rows.map rowD)
def setD (x : Str × List Str) : Key × Dt Ob := (.inr x.1, .lst (strsD x.2))
def setsD (sets : List (Str × List Str)) : Dt Ob := .dic (sets.map setD)
def modelD (rows : List Gk.Row) (sets : List (Str × List Str)) : Dt Ob := .tup [rowsD rows, setsD sets]
def FNames : List (Dt Ob) → PQ Ob → Prop := fun ds Q => ∃ rows : List Gk.Row, ds = [rowsD rows] ∧ (wordsOf rows).length ≤ 900 ∧ Q .cl (.lst (strsD (wordsOf rows)))
end
/-! how readings are opened -/
section
variable {Ob : Type} {env : PEnv Ob} {Q : PQ Ob} {d : Dt Ob} {pD : PEnds Ob} {pe pa pb : PTE Ob} {px : PTA Ob} {i : Nat} {pt : PTT Ob} {ps pu : PTS Ob} {QT : Bool → Prop} {fl : Fl}
theorem tp_cl : toPV false .cl d = some (.sh d) := rfl
theorem tp_fr : toPV false .fr d = some (.sh d) := by cases d <;> rfl
theorem tp_own {ds : List (Dt Ob)} : toPV true .fr (.lst ds) = some (.own ds) := rfl
theorem tp_ownD {ds : List (Key × Dt Ob)} : toPV true .fr (.dic ds) = some (.ownD ds) := rfl
theorem sq_lst {ds : List (Dt Ob)} : (Dt.lst ds).seq = some ds := rfl
theorem sq_tup {ds : List (Dt Ob)} : (Dt.tup ds).seq = some ds := rfl
theorem sq_rows {rows : List Gk.Row} : (rowsD rows : Dt Ob).seq = some (rows.map rowD) := rfl
theorem fv_non : (Dt.non : Dt Ob).fv = some V.non := rfl
theorem fv_bl {b : Bool} : (Dt.bl b : Dt Ob).fv = some (V.bl b) := rfl
theorem fv_int {b : Int} : (Dt.int b : Dt Ob).fv = some (V.int b) := rfl
theorem fv_str {b : Str} : (Dt.str b : Dt Ob).fv = some (V.str b) := rfl
theorem ky_int {b : Int} : (Dt.int b : Dt Ob).key = some (.inl b) := rfl
theorem ky_str {b : Str} : (Dt.str b : Dt Ob).key = some (.inr b) := rfl
/-- whatever the flag of a value that may be stored -/
theorem tp_any (h : fl ≠ .raw) : toPV false fl d = some (.sh d) := by cases fl <;> first | rfl | exact absurd rfl h | (cases d <;> rfl)
/-- a for over a known list -/
theorem for_in {pi : PTI Ob} {pg : PTG Ob} {pb : PTS Ob} (ds : List (Dt Ob)) (I : Nat → PEnv Ob → Prop) (hi : ∀ Q : Bool → List (Dt Ob) → Prop, Q true ds → pi env Q) (h0 : I 0 env)
    (hs : ∀ (i : Nat) (d : Dt Ob) (env' : PEnv Ob), ds[i]? = some d → I i env' → pg d env' fun env2 => pb { pD with nx := I (i + 1), ct := I (i + 1), bk := pD.nx } env2) (hd : ∀ env', I ds.length env' → pD.nx env') : pFor pi pg pb pD env :=
  hi _ ⟨rfl, I, h0, hs, hd⟩
/-- a comprehension over a known list, by an invariant -/
theorem lc_inv {pi : PTI Ob} {pg : PTG Ob} {vs : List Nat} (ds : List (Dt Ob)) (I : Nat → List (Dt Ob) → Prop) (hi : ∀ (Q : Bool → List (Dt Ob) → Prop), (∀ c, Q c ds) → pi env Q) (h1 : ds.length ≤ 1000) (h0 : I 0 [])
    (hb : ∀ (i : Nat) (d : Dt Ob) (acc : List (Dt Ob)), ds[i]? = some d → I i acc → pg d (pwipe env vs) fun env2 => pt env2 fun b => if b = true then pe env2 fun fl x => fl ≠ .raw ∧ I (i + 1) (acc ++ [x]) else I (i + 1) acc)
    (q : ∀ acc, I ds.length acc → acc.length ≤ ds.length → Q .fr (.lst acc)) : pLc pi pg pt pe vs env Q := hi _ fun c => ⟨h1, I, h0, hb, q⟩
/-- .. each item with one answer -/
theorem lc_in {pi : PTI Ob} {pg : PTG Ob} {vs : List Nat} (ds : List (Dt Ob)) (f : Dt Ob → Bool) (g : Dt Ob → Dt Ob) (hi : ∀ (Q : Bool → List (Dt Ob) → Prop), (∀ c, Q c ds) → pi env Q) (h1 : ds.length ≤ 1000)
    (hb : ∀ d ∈ ds, ∀ R : Option (Dt Ob) → Prop, R (if f d = true then some (g d) else none) → pg d (pwipe env vs) fun env2 => pt env2 fun b => if b = true then pe env2 (fun fl x => fl ≠ .raw ∧ R (some x)) else R none)
    (q : Q .fr (.lst ((ds.filter f).map g))) : pLc pi pg pt pe vs env Q := by
  refine lc_inv ds (fun i acc => acc = ((ds.take i).filter f).map g) hi h1 rfl (fun i d acc e ha => ?_) fun acc ha _ => ?_
  · subst ha
    have et : ((ds.take (i + 1)).filter f).map g = ((ds.take i).filter f).map g ++ (if f d = true then [g d] else []) := by
      rw [List.take_add_one, e, List.filter_append, List.map_append]
      congr 1
      show ([d].filter f).map g = _
      rw [List.filter_cons]
      by_cases z : f d = true
      · rw [if_pos z, if_pos z]; rfl
      · rw [if_neg z, if_neg z]; rfl
    refine hb d (List.mem_of_getElem? e) (fun o => match o with | some x => ((ds.take i).filter f).map g ++ [x] = ((ds.take (i + 1)).filter f).map g | none => ((ds.take i).filter f).map g = ((ds.take (i + 1)).filter f).map g) ?_
    by_cases z : f d = true
    · rw [if_pos z, et, if_pos z]
    · rw [if_neg z, et, if_neg z, List.append_nil]
  · subst ha
    rw [List.take_length]
    exact q
/-- a for over the keys of a known dict -/
theorem forK_in {pd : PTE Ob} {pg : PTG Ob} {pb : PTS Ob} (es : List (Key × Dt Ob)) (I : Nat → PEnv Ob → Prop) (hi : ∀ Q : PQ Ob, Q .cl (.dic es) → pd env Q) (h0 : I 0 env)
    (hs : ∀ (i : Nat) (k : Key) (env' : PEnv Ob), (es.map (·.1))[i]? = some k → I i env' → pg (kT k) env' fun env2 => pb { nx := I (i + 1), rt := fun _ _ => False, ct := I (i + 1) } env2) (hd : ∀ env', I es.length env' → pD.nx env') : pForK pd pg pb pD env :=
  hi _ ⟨by decide, es, rfl, I, h0, hs, hd⟩
theorem valD_cons {es : List (Key × Dt Ob)} {k k' : Key} {d : Dt Ob} : valD ((k, d) :: es) k' = if k = k' then some d else valD es k' := by
  unfold valD
  rw [List.find?_cons]
  by_cases e : k = k'
  · rw [if_pos e, decide_eq_true e]; rfl
  · rw [if_neg e, decide_eq_false e]
theorem valD_any (k : Key) : ∀ es : List (Key × Dt Ob), (es.any fun kv => decide (kv.1 = k)) = (valD es k).isSome
  | [] => rfl
  | (a, b) :: r => by
    rw [List.any_cons, valD_cons, valD_any k r]
    by_cases e : a = k
    · rw [if_pos e, decide_eq_true e]; rfl
    · rw [if_neg e, decide_eq_false e]; rfl
theorem valD_map {k k' : Key} {d : Dt Ob} : ∀ es : List (Key × Dt Ob), valD (es.map fun kv => if kv.1 = k then (kv.1, d) else kv) k' = if k' = k then (valD es k').map fun _ => d else valD es k'
  | [] => by
    by_cases e : k' = k
    · rw [if_pos e]; rfl
    · rw [if_neg e]; rfl
  | (a, b) :: r => by
    rw [List.map_cons]
    by_cases e : a = k
    · subst e
      show valD ((if a = a then (a, d) else (a, b)) :: _) k' = _
      rw [if_pos rfl, valD_cons, valD_cons, valD_map r]
      by_cases q : a = k'
      · subst q
        rw [if_pos rfl, if_pos rfl, if_pos rfl]; rfl
      · rw [if_neg q, if_neg (fun z => q z.symm), if_neg (fun z => q z.symm), if_neg q]
    · show valD ((if a = k then (a, d) else (a, b)) :: _) k' = _
      rw [if_neg e, valD_cons, valD_cons, valD_map r]
      by_cases q : a = k'
      · subst q
        rw [if_pos rfl, if_neg e, if_pos rfl]
      · rw [if_neg q, if_neg q]
theorem valD_app {k : Key} : ∀ es es' : List (Key × Dt Ob), valD (es ++ es') k = (valD es k).or (valD es' k)
  | [], _ => rfl
  | (a, b) :: r, es' => by
    rw [List.cons_append, valD_cons, valD_cons, valD_app r]
    by_cases e : a = k
    · rw [if_pos e, if_pos e]; rfl
    · rw [if_neg e, if_neg e]
theorem valD_put {es : List (Key × Dt Ob)} {k k' : Key} {d : Dt Ob} : valD (putD es k d) k' = if k' = k then some d else valD es k' := by
  unfold putD
  rw [valD_any]
  by_cases any : (valD es k).isSome = true
  · rw [if_pos any, valD_map]
    by_cases q : k' = k
    · subst q
      rw [if_pos rfl, if_pos rfl]
      obtain ⟨x, hx⟩ := Option.isSome_iff_exists.mp any
      rw [hx]; rfl
    · rw [if_neg q, if_neg q]
  · rw [if_neg any, valD_app, valD_cons]
    by_cases q : k' = k
    · subst q
      rw [if_pos rfl, if_pos rfl, Option.not_isSome_iff_eq_none.mp any]; rfl
    · rw [if_neg q, if_neg (fun z => q z.symm)]
      show (valD es k').or none = _
      rw [Option.or_none]
theorem putD_len {es : List (Key × Dt Ob)} {k : Key} {d : Dt Ob} : (putD es k d).length ≤ es.length + 1 := by
  unfold putD
  split
  · rw [List.length_map]; omega
  · rw [List.length_append, List.length_singleton]; omega
theorem valD_none {k : Key} : ∀ {es : List (Key × Dt Ob)}, k ∉ es.map (·.1) → valD es k = none
  | [], _ => rfl
  | (a, b) :: r, h => by
    rw [valD_cons, if_neg (fun z => h (by rw [List.map_cons]; exact List.mem_cons.mpr (.inl z.symm)))]
    exact valD_none fun z => h (List.mem_cons_of_mem _ z)
theorem putD_new {es : List (Key × Dt Ob)} {k : Key} {d : Dt Ob} (h : k ∉ es.map (·.1)) : putD es k d = es ++ [(k, d)] := by
  unfold putD
  rw [valD_any, valD_none h]
  rfl
theorem mergeD_new : ∀ {ms es : List (Key × Dt Ob)}, ((es ++ ms).map (·.1)).Nodup → mergeD es ms = es ++ ms
  | [], es, _ => (List.append_nil es).symm
  | (k, d) :: ms, es, h => by
    show mergeD (putD es k d) ms = _
    have hk : k ∉ es.map (·.1) := fun z => by
      rw [List.map_append, List.map_cons] at h
      exact (List.nodup_append.mp h).2.2 k z k List.mem_cons_self rfl
    rw [putD_new hk, mergeD_new (by rw [List.append_assoc]; exact h), List.append_assoc]
    rfl
theorem ev_seq : pSeq ps pu pD env = ps { pD with nx := hold (pu pD) } env := rfl
theorem go {f : PEnv Ob → Prop} (h : f env) : hold f env := h
theorem ev_var (h : env[i]? = some (.sh d)) : pVar i env Q = Q .cl d := by unfold pVar; rw [h]
theorem ev_varO {ds : List (Dt Ob)} (h : env[i]? = some (.own ds)) : pVar i env Q = Q .raw (.lst ds) := by unfold pVar; rw [h]
theorem atI_0 {α : Type} {x : α} {l : List α} : atI (x :: l) 0 = some x := by
  have h : ixN (x :: l).length 0 = some 0 := by unfold ixN; rw [if_pos (by decide), if_pos (by rw [List.length_cons]; omega)]; rfl
  unfold atI
  rw [h]
  rfl
theorem atI_1 {α : Type} {x y : α} {l : List α} : atI (x :: y :: l) 1 = some y := by
  have h : ixN (x :: y :: l).length 1 = some 1 := by unfold ixN; rw [if_pos (by decide), if_pos (by rw [List.length_cons, List.length_cons]; omega)]; rfl
  unfold atI
  rw [h]
  rfl
theorem atI_2 {α : Type} {x y z : α} {l : List α} : atI (x :: y :: z :: l) 2 = some z := by
  have h : ixN (x :: y :: z :: l).length 2 = some 2 := by unfold ixN; rw [if_pos (by decide), if_pos (by rw [List.length_cons, List.length_cons, List.length_cons]; omega)]; rfl
  unfold atI
  rw [h]
  rfl
theorem atI_nat' {α : Type} {l : List α} {i : Nat} {x : α} (h : l[i]? = some x) : atI l (i : Int) = some x := by
  have hl := (List.getElem?_eq_some_iff.mp h).1
  have e : ixN l.length (i : Int) = some i := by unfold ixN; rw [if_pos (by omega), if_pos (by omega)]; simp
  unfold atI
  rw [e]
  exact h
theorem map_get {α β : Type} {f : α → β} {l : List α} {i : Nat} {y : β} (h : (l.map f)[i]? = some y) : ∃ x, l[i]? = some x ∧ y = f x := by
  rw [List.getElem?_map] at h
  cases e : l[i]? with
  | none => rw [e] at h; cases h
  | some x => rw [e] at h; exact ⟨x, rfl, (Option.some.inj h).symm⟩
theorem ex_dt {α : Type} {p : α → Prop} {a : α} (h : p a) : ∃ x, a = x ∧ p x := ⟨a, rfl, h⟩
end
end Pu
/-- one step of a reading over trees -/
local macro_rules | `(tactic| walk_at "pu") => `(tactic| simp only [Pu.pSeq, Pu.pNext, Pu.pVar, Pu.pC, Pu.pOp, Pu.pNil, Pu.pCons, Pu.pTup, Pu.pLst, Pu.pCB, Pu.pTest, Pu.pNot, Pu.pAnd, Pu.pOr, Pu.pYes, Pu.pIf, Pu.pAsg, Pu.pAsgF, Pu.pAsgT, Pu.pIfS, Pu.pRet, Pu.pRetN, Pu.pDrop, Pu.pApp, Pu.pSetI, Pu.pPutD, Pu.pPar, Pu.pSh, Pu.pCall, Pu.shE, Pu.PV.share, Pu.tp_cl, Pu.tp_fr, Pu.tp_own, Pu.tp_ownD, Pu.sq_lst, Pu.sq_tup, Pu.sq_rows, Pu.fv_non, Pu.fv_bl, Pu.fv_int, Pu.fv_str, Pu.ky_int, Pu.ky_str, Nat.reduceAdd, Nat.reduceLeDiff, Nat.reduceLT, Nat.zero_add, Pu.okArgs, Pu.initE, Pu.piL, Pu.piT, Pu.piR1, Pu.piR2, Pu.piS, Pu.piE, Pu.pgN, Pu.pgNil, Pu.pgCons, Pu.pgT, Pu.pwipe, Pu.pM, Pu.setAll, Pu.poI, Pu.poB, Pu.poEq, Pu.poIxL, Pu.poIxT, Pu.pAsgM, List.forall_mem_cons, List.not_mem_nil, false_imp_iff, implies_true, forall_const, Pu.poIn, Pu.poCat, Pu.poCatT, Pu.poCatS, Pu.prLen, Pu.prList, Pu.prTuple, Pu.prInt1, Pu.prMax2, Pu.prMin2, Pu.rowD, Pu.modelD, Pu.pSlL, Pu.pSlT, Pu.pNoPart, Pu.pPart, Pu.pDGet, Pu.pDIn, Pu.pDNew, Pu.pNext, Pu.pRevT, Pu.pRevL, Pu.pListRg, Pu.atI_0, Pu.atI_1, Pu.atI_2, Pu.PV.own.injEq, Pu.PV.ownD.injEq, Pu.PV.sh.injEq, Pu.Dt.int.injEq, Pu.Dt.bl.injEq, Pu.Dt.str.injEq, Pu.Dt.lst.injEq, Pu.Dt.tup.injEq, Pu.Dt.dic.injEq, decide_true, decide_false, exists_and_left, exists_const, exists_eq, List.cons.injEq, and_assoc,
  List.map_cons, List.map_nil, List.cons_append, List.nil_append, List.append_nil, List.getElem?_cons_zero, List.getElem?_cons_succ, List.getElem?_nil, List.set_cons_zero, List.set_cons_succ, List.length_cons, List.length_nil, List.replicate, ne_eq, reduceCtorEq, not_false_eq_true, true_and, and_true, if_true, if_false, Option.some.injEq, exists_eq_left', exists_eq_left])
/-! ### drawn models and editions as trees; blocks behind a new source -/
namespace Pu
open PySem PySem.W PySem.Spec PyProof.Rows L2 Gk
section
variable {Ob : Type} {W : Wd Ob} {p : Option Addr} {B D : Addr → Prop} {H H1 : Hp} {v : V} {σ : L2.St} {env : PEnv Ob}
/-- one address alone -/
def only (a : Addr) : Addr → Prop := fun b => b = a
theorem hide_only {a : Addr} : hide (only a) H a = none := hide_in rfl
theorem hide_but {a b : Addr} (h : b ≠ a) : hide (only a) H b = H b := hide_at fun z => h z
theorem rowAt_of {r : Gk.Row} (h : RowAt H v r) : R0 W p H v (rowD r) := by
  obtain ⟨t, a, rfl, h1, h2⟩ := h
  exact .tup h1 (.cons (.str _) (.cons (.tup h2 (RA.ofStrs _)) (.cons (.int _) .nil)))
theorem rowsAt_of {r : Addr} {rows : List Gk.Row} (h : RowsAt H r rows) : R0 W p H (.ref r) (rowsD rows) := by
  obtain ⟨us, h1, h2⟩ := h
  refine .lst h1 ?_
  clear h1
  induction h2 with
  | nil => exact .nil
  | cons r t ih => exact .cons (rowAt_of r) ih
theorem rowAt_at {r : Gk.Row} (h : R0 W p H v (rowD r)) : RowAt H v r := by
  cases h with
  | tup h1 ra =>
    cases ra with
    | cons r1 t1 => cases t1 with
      | cons r2 t2 => cases t2 with
        | cons r3 t3 =>
          cases t3
          cases r1
          cases r3
          cases r2 with
          | tup h2 ra2 =>
            obtain rfl := ra2.strs
            exact ⟨_, _, rfl, h1, h2⟩
theorem rowsAt_at {rows : List Gk.Row} (h : R0 W p H v (rowsD rows)) : ∃ r, v = .ref r ∧ RowsAt H r rows := by
  cases h with
  | lst h1 ra =>
    refine ⟨_, rfl, _, h1, ?_⟩
    have : ∀ {us : List V} {rows : List Gk.Row}, RA W p H us (rows.map rowD) → Paired (RowAt H) us rows := by
      intro us
      induction us with
      | nil => intro rows r; cases rows with
        | nil => exact .nil
        | cons x l => cases r
      | cons u us ih => intro rows r; cases rows with
        | nil => cases r
        | cons x l => cases r with | cons a b => exact .cons (rowAt_at a) (ih b)
    exact this ra
theorem setsAt_of {d : Addr} {sets : List (Str × List Str)} (h : SetsAt H d sets) : R0 W p H (.ref d) (setsD sets) := by
  obtain ⟨us, h1, h2⟩ := h
  refine .dic (.inl h1) ?_
  clear h1
  induction h2 with
  | nil => exact .nil
  | @cons a b l l' r t ih =>
    obtain ⟨e, q, e2, h1⟩ := r
    obtain ⟨k, v⟩ := a
    have e : k = .inr b.1 := e
    have e2 : v = .ref q := e2
    subst e
    subst e2
    exact .cons (.lst h1 (RA.ofStrs _)) ih
theorem setsAt_at {sets : List (Str × List Str)} (hz : W.fz = fun _ => False) (h : R0 W p H v (setsD sets)) : ∃ d, v = .ref d ∧ SetsAt H d sets := by
  cases h with
  | dic h1 ra =>
    rcases h1 with h1 | ⟨z, _⟩
    · refine ⟨_, rfl, _, h1, ?_⟩
      have : ∀ {us : List (Key × V)} {sets : List (Str × List Str)}, RK W p H us (sets.map setD) → Paired (SetKV H) us sets := by
        intro us
        induction us with
        | nil => intro rows r; cases rows with
          | nil => exact .nil
          | cons x l => cases r
        | cons u us ih => intro rows r; cases rows with
          | nil => cases r
          | cons x l => cases r with
            | cons a b =>
              refine .cons ?_ (ih b)
              cases a with
              | lst h2 ra2 =>
                obtain rfl := ra2.strs
                exact ⟨rfl, _, rfl, h2⟩
      exact this ra
    · rw [hz] at z; exact z.elim
theorem modelAt_of {a rw d : Addr} {rows : List Gk.Row} {sets : List (Str × List Str)} (h : H a = some (.tup [.ref rw, .ref d])) (hR : RowsAt H rw rows) (hS : SetsAt H d sets) : R0 W p H (.ref a) (modelD rows sets) :=
  .tup h (.cons (rowsAt_of hR) (.cons (setsAt_of hS) .nil))
theorem modelAt_at {rows : List Gk.Row} {sets : List (Str × List Str)} (hz : W.fz = fun _ => False) (h : R0 W p H v (modelD rows sets)) : ∃ a rw d, v = .ref a ∧ H a = some (.tup [.ref rw, .ref d]) ∧ RowsAt H rw rows ∧ SetsAt H d sets := by
  cases h with
  | tup h1 ra =>
    cases ra with
    | cons r1 t1 => cases t1 with
      | cons r2 t2 =>
        cases t2
        obtain ⟨rw, rfl, hR⟩ := rowsAt_at r1
        obtain ⟨d, rfl, hS⟩ := setsAt_at hz r2
        exact ⟨_, rw, d, rfl, h1, hR, hS⟩
/-! a promise of a def that draws, over trees: all but the source is hidden -/
theorem wrap_dr {P : Program} {w : World} {K : Frag} {mg : Str → Option Value} {base : Heap} {k : Nat} {f : Addr} {fd : FuncData} {ps : List Str} {sp : Sp} {F : List (Dt Ob) → PQ Ob → Prop} (Fn : FnOk P w K mg base CX0 k f fd ps sp) (hs : ∀ ds Qp, F ds Qp → ∃ r, ds = .src :: r)
    (h : ∀ (a : Addr) (vs : List V) (Hs : Hp) (ds : List (Dt Ob)) (Qp : PQ Ob) (Q : VK) (E : XK), RA (W.at nz) (some a) (hide (only a) Hs) vs ds → SrcAt Hs a → F ds Qp → (∀ d v H1, Qp .cl d → Drawn a Hs H1 → R0 (W.at nz) (some a) (hide (only a) H1) v d → Q v H1) → sp vs Hs Q E) :
    FnOk P w K mg base CX0 k f fd ps (PFn W noZ F) := by
  refine (frame_fn Fn).imp fun vs H Q E hq => ?_
  obtain ⟨z, p, B, ds, Qp, rfl, hv, r, hF, kk⟩ := hq
  obtain ⟨rest, rfl⟩ := hs ds Qp hF
  have hp : ∃ a, p = some a := by
    cases r with
    | cons r1 r2 => cases r1 with | src e => exact ⟨_, e⟩
  obtain ⟨a, rfl⟩ := hp
  have sa := hv.src a rfl
  let B' : Addr → Prop := fun b => B b ∧ b ≠ a
  have eB : hide (only a) (hide B' H) = hide B H := by
    funext b
    by_cases q : b = a
    · subst q
      rw [hide_only, hide_in sa.1]
    · rw [hide_but q]
      by_cases z : B b
      · rw [hide_in (show B' b from ⟨z, q⟩), hide_in z]
      · rw [hide_at (fun w => z w.1), hide_at z]
  have aB : ¬ B' a := fun z => z.2 rfl
  refine ⟨B', fun b z => hv.sft b z.1, h a vs (hide B' H) (.src :: rest) Qp _ E (by rw [eB]; exact r) ?_ hF fun d v H1 q dr r1 gone => ?_⟩
  · obtain ⟨r, m, e1, e2⟩ := sa.2
    exact ⟨r, m, by rw [hide_at aB]; exact e1, e2⟩
  · have eg : hide B (glue B' H H1) = hide (only a) H1 := by
      funext b
      by_cases q : b = a
      · subst q
        rw [hide_in sa.1, hide_only]
      · rw [hide_but q]
        by_cases z : B b
        · rw [hide_in z, gone b ⟨z, q⟩]
        · rw [hide_at z, glue_at (fun w => z w.1)]
    refine kk .cl d v _ q ⟨fun b u n e => ?_, fun b e => ?_⟩ (show R0 (W.at nz) (some a) (hide B (glue B' H H1)) v d by rw [eg]; exact r1)
    · have nb : b ≠ a := fun z => n (by rw [z])
      by_cases z : B b
      · rw [glue_in (show B' b from ⟨z, nb⟩)]; exact e
      · rw [glue_at (fun w => z w.1)]
        exact dr.keep b u nb (by rw [hide_at (fun w => z w.1)]; exact e)
    · cases e
      obtain ⟨r, m, e1, e2⟩ := dr.src
      exact ⟨r, m, by rw [glue_at aB]; exact e1, e2⟩
theorem hide_src {a b : Addr} {o : HO} (sa : SrcAt H a) (h : H b = some o) (n : ∀ r m, o ≠ srcO r m) : hide (only a) H b = some o := by
  rw [hide_but]
  · exact h
  · rintro rfl
    obtain ⟨r, m, e, _⟩ := sa
    rw [h] at e
    exact n r m (Option.some.inj e)
theorem rowsAt_hide {a r : Addr} {rows : List Gk.Row} (sa : SrcAt H a) (n : r ≠ a) (h : RowsAt H r rows) : RowsAt (hide (only a) H) r rows := by
  obtain ⟨us, h1, h2⟩ := h
  refine ⟨us, by rw [hide_but n]; exact h1, pr_map (fun x y z => ?_) h2⟩
  obtain ⟨t, b, e, h3, h4⟩ := z
  exact ⟨t, b, e, hide_src sa h3 (fun _ _ z => by cases z), hide_src sa h4 (fun _ _ z => by cases z)⟩
theorem setsAt_hide {a d : Addr} {sets : List (Str × List Str)} (sa : SrcAt H a) (h : SetsAt H d sets) : SetsAt (hide (only a) H) d sets := by
  obtain ⟨us, h1, h2⟩ := h
  refine ⟨us, hide_src sa h1 (fun _ _ z => by cases z), pr_map (fun x y z => ?_) h2⟩
  obtain ⟨e, l, e2, h3⟩ := z
  refine ⟨e, l, e2, hide_src sa h3 fun r m z => ?_⟩
  cases hy : y.2 with
  | nil => rw [hy] at z; cases z
  | cons x xs => rw [hy] at z; cases z
def FModel : List (Dt Ob) → PQ Ob → Prop := fun ds Q => ∃ n : Int, ds = [.src, .int n] ∧ 1 ≤ n ∧ n ≤ 6 ∧ ∀ rows sets, ModelOk rows sets → rows.length = n.toNat → Q .cl (modelD rows sets)
theorem ra_src {a : Addr} {vs : List V} {ds : List (Dt Ob)} (h : RA W (some a) H vs (.src :: ds)) : ∃ us, vs = .ref a :: us ∧ RA W (some a) H us ds := by
  cases h with
  | cons r t => cases r with | src e => cases e; exact ⟨_, rfl, t⟩
theorem ra_int {n : Int} {vs : List V} {ds : List (Dt Ob)} (h : RA W p H vs (.int n :: ds)) : ∃ us, vs = .int n :: us ∧ RA W p H us ds := by
  cases h with
  | cons r t => cases r; exact ⟨_, rfl, t⟩
theorem ra_one {d : Dt Ob} {vs : List V} {ds : List (Dt Ob)} (h : RA W p H vs (d :: ds)) : ∃ v us, vs = v :: us ∧ R0 W p H v d ∧ RA W p H us ds := by
  cases h with
  | cons r t => exact ⟨_, _, rfl, r, t⟩
theorem ra_nil {vs : List V} (h : RA W p H vs ([] : List (Dt Ob))) : vs = [] := by cases h; rfl
theorem fn_model {P : Program} {w : World} {K : Frag} {mg : Str → Option Value} {base : Heap} {k : Nat} {f : Addr} {fd : FuncData} {ps : List Str} (F : FnOk P w K mg base CX0 k f fd ps spModel) : FnOk P w K mg base CX0 k f fd ps (PFn W noZ FModel) := by
  refine wrap_dr F (fun ds Qp ⟨n, e, _⟩ => ⟨_, e⟩) fun a vs Hs ds Qp Q E r sa ⟨n, e, h1, h6, hq⟩ kk => ?_
  subst e
  obtain ⟨us1, rfl, r1⟩ := ra_src r
  obtain ⟨us2, rfl, r2⟩ := ra_int r1
  obtain rfl := ra_nil r2
  obtain ⟨rr, m, e1, e2⟩ := id sa
  refine ⟨a, rr, m, n, rfl, e1, e2, h1, h6, fun H' b rw d rows sets dr nb nba _ nrw _ nd hb hR hS ok len => ?_⟩
  have sa' : SrcAt H' a := dr.src
  exact kk _ _ H' (hq rows sets ok len) dr (modelAt_of (hide_src sa' hb fun _ _ z => by cases z) (rowsAt_hide sa' nrw hR) (setsAt_hide sa' hS))
/-! a block, from a state without lists of its own -/
theorem run_block {ps : PTS Ob} {ts : TS} {pD : PEnds Ob} {DD : Ends} (hs : SndS W ps ts) (hv : Hv p B H) (sl : Paired (SlOk W p B H) σ env) (no : ∀ x ∈ env, x.isOwn = false)
    (h : ps pD env) (knx : ∀ σ' H' env', Grow p H H' → Paired (SlOk W p B H') σ' (shE env') → pD.nx env' → DD.nx σ' H')
    (krt : ∀ fl d v H', pD.rt fl d → Grow p H H' → RR W p B H H' fl v d → DD.rt v H') (kbk : ∀ σ' H' env', Grow p H H' → Paired (SlOk W p B H') σ' (shE env') → pD.bk env' → DD.bk σ' H') (kct : ∀ σ' H' env', Grow p H H' → Paired (SlOk W p B H') σ' (shE env') → pD.ct env' → DD.ct σ' H') : ts DD σ H := by
  let C : Ct := ⟨p, B, H, hide B H, fun _ => False⟩
  have noi : ∀ (i : Nat) (x : PV Ob), env[i]? = some x → x.isOwn = false := fun i x e => no x (List.mem_of_getElem? e)
  have hD : DOf C σ env = B := by
    funext a
    refine propext ⟨fun z => ?_, fun z => .inl (.inl z)⟩
    rcases z with (z | z) | ⟨_, i, x, w, e, _, o⟩
    · exact z
    · exact z.elim
    · exact absurd o (owns_no (noi i x e))
  have s0 : StS W C σ H env := by
    refine ⟨?_, hv, fun _ _ _ e => e, fun i x w a e _ o => absurd o (owns_no (noi i x e)), fun i j x y w u a e _ o => absurd o (owns_no (noi i x e)), ?_, fun _ z => z.elim, fun _ _ _ _ _ _ _ z => z⟩
    · rw [hD]
      exact ⟨hv, sl⟩
    · rw [hD]
      exact Same.refl _
  exact hs C _ _ _ H _ s0 h ⟨fun σ H env z q => knx σ H env z.g0 z.shareE.sl q, fun fl v H' d g r q => krt fl d v H' q g r, fun σ H env z q => kbk σ H env z.g0 z.shareE.sl q, fun σ H env z q => kct σ H env z.g0 z.shareE.sl q⟩
end
end Pu
namespace Gk
open PySem PySem.W PySem.Spec PyProof.Rows L2
abbrev sStream : Stmt := (top 33)
abbrev sDrawP : Stmt := (top 34)
abbrev sChoose : Stmt := (top 35)
/-! ### a list and a list, wherever they stand -/
def rCatSq (K : PySem.W.Frag) : R2 := fun x y H Q => ∃ l b xs zs, x = .ref l ∧ y = .ref b ∧ SqL K H l xs ∧ SqL K H b zs ∧ xs.length + zs.length ≤ sizeLine ∧ ∀ p, H p = none → Q (.ref p) (upd H p (.lst (xs ++ zs)))
section
variable {X : Cx}
theorem op_catSq : OpR X (binaryOp .Add) (rCatSq X.K) := by
  intro pins s σ H x y v u Q I rx ry h
  obtain ⟨l, b, xs, zs, rfl, rfl, hH, hB, hz, q⟩ := h
  cases rx
  cases ry
  obtain ⟨its, r, ⟨⟨cls, dd, data, sl⟩, n, ho, hc, _, hd⟩, z⟩ := I.list hH
  obtain ⟨its2, r2, ⟨⟨cls2, dd2, data2, sl2⟩, n2, ho2, hc2, _, hd2⟩, z2⟩ := I.list hB
  simp only at hc hd hc2 hd2
  subst hc hd hc2 hd2
  have l1 := r.length
  have l2 := r2.length
  have ea : its.toArray ++ its2.toArray = (its ++ its2).toArray := by simp
  refine concat_meets ⟨_, ho, rfl⟩ ⟨_, ho2, rfl⟩ noFill_list_add seq_list_add PySem.F.slot_list_add PySem.F.entry_list_add (PySem.F.args_list_add_2 _ _) (list_addW l b its.toArray its2.toArray n n2 dd dd2 sl sl2 (by rw [List.size_toArray, List.size_toArray]; omega)) ⟨ho, ho2, ?_⟩
  rw [ea]
  exact ⟨.ref _, _, I.lnew (t' := s.toks) (r.append r2) (by rw [List.length_append]; omega), rfl, q _ I.fresh⟩
end
theorem bits_mix2 {m z : Int} (h0 : 0 ≤ m) (h1 : m ≤ 2147483647) (hz : Builtin.Int.intBits z ≤ 1048576) : CPowW (m * 40127 + z) 3 := by
  refine ⟨by decide, ?_⟩
  have hz1 : z.natAbs < 2 ^ 1048576 := Nat.lt_of_lt_of_le (lt_bits z) (Nat.pow_le_pow_right (by decide) hz)
  have hb : Builtin.Int.intBits (m * 40127 + z) ≤ 1048577 := by
    refine bits_lt ?_
    have e : (2 : Nat) ^ 1048577 = 2 ^ 1048576 + 2 ^ 1048576 := by rw [Nat.pow_succ]; omega
    have l : (2 : Nat) ^ 64 ≤ 2 ^ 1048576 := Nat.pow_le_pow_right (by decide) (by decide)
    have l64 : (2 : Nat) ^ 64 = 18446744073709551616 := by decide
    rw [e]
    generalize (2 : Nat) ^ 1048576 = N at *
    rw [l64] at l
    omega
  have : ((Builtin.Int.intBits (m * 40127 + z) : Nat) : Int) ≤ 1048577 := by omega
  have e27 : (2 : Int) ^ 27 = 134217728 := by decide
  rw [e27]
  omega
def spStream (K : PySem.W.Frag) : Sp := fun vs H Q _ => ∃ (a : Addr) (ns : List Int) (st : Int), vs = [.ref a, .int st] ∧ SqL K H a (ns.map V.int) ∧ ns.length ≤ 63 ∧ (∀ z ∈ ns, Builtin.Int.intBits z ≤ 1048576) ∧ 0 ≤ st ∧ st ≤ 3 ∧
  ∀ (H' : Hp) p r m, Same H H' → H p = none → H' p = some (srcO r m) → SrcOk m → Q (.ref p) H'
section
variable {P : Program} {w : World} {K : PySem.W.Frag} {mg : Str → Option Value} {base : Heap}
theorem sqNew {H : Hp} {e p : Addr} {xs : List V} {o : HO} (h : SqL K H e xs) (n : H p = none) : SqL K (upd H p o) e xs := by
  rcases h with (h | ⟨u, h⟩) | h
  · exact .inl (.inl (by rw [upd_ne (fun z => by rw [z, n] at h; cases h)]; exact h))
  · exact .inl (.inr ⟨u, by rw [upd_ne (fun z => by rw [z, n] at h; cases h)]; exact h⟩)
  · exact .inr h
theorem pad_at {ns : List Int} {st : Int} (h0 : 0 ≤ st) (h3 : st ≤ 3) : ∃ z : Int, atI (ns.map V.int ++ (List.replicate (4 : Int).toNat [V.int 0]).flatten) st = some (.int z) := by
  have e : (List.replicate (4 : Int).toNat [V.int 0]).flatten = [0, 0, 0, 0].map V.int := rfl
  rw [e, ← List.map_append]
  have hl : st.toNat < (ns ++ [0, 0, 0, 0]).length := by rw [List.length_append]; show st.toNat < ns.length + 4; omega
  exact ⟨(ns ++ [0, 0, 0, 0])[st.toNat], at_of (j := st.toNat) (by omega) (by rw [List.getElem?_map, List.getElem?_eq_getElem hl]; rfl)⟩
theorem scStream : FnScope ["script", "start", "seed", "cell"] ["script", "start"] (defScope sStream) := ⟨rfl, rfl, rfl, by decide +kernel, rfl, by decide +kernel, by decide +kernel⟩
theorem boot_max0 : bootBuiltins "max" = some (.builtin "max") := by decide +kernel
theorem ok_stream {f : Addr} {fd : FuncData} (F : Fun K "_law_stream" "_law_stream" sStream f fd) (ti : mg "int" = none) (tm : mg "max" = none) : FnOk P w K mg base CX0 1 f fd ["script", "start"] (spStream K) := by
  refine F.ok scStream (fun vs H Q E h => ?_) (fun cdv A outer s H vs Q E hr h => ?_)
  · obtain ⟨a, ns, st, rfl, _⟩ := h
    rfl
  · obtain ⟨a, ns, st, rfl, hS, hlen, hbits, hst0, hst, k⟩ := h
    have nd := scStream.nd
    refine ⟨_, pss_cons (ps_set (i := 2) nd rfl (Or.inl rfl) (pe_op op_add pe_int (pv 1)))
      (pss_cons (ps_for PassesOwn.never rfl (pi_list (pv 0)) (pg_name (i := 3) nd rfl (Or.inl rfl))
        (pss_one (ps_set (i := 2) nd rfl (Or.inl rfl) (pe_op op_add (pe_op op_mod (pe_op op_powW (pe_callTy call_int1 (by rfl) ti boot_int (pa_cons (pe_op op_add (pe_op op_mul (pv 2) pe_int) (pv 3)) pa_nil)) pe_int) pe_int) pe_int))))
      (pss_one (ps_ret (pe_lst (pa_cons (pe_callB (call_max2 rfl) (by rfl) tm boot_max0 (pa_cons pe_int (pa_cons (pe_op op_sub (pe_ix ix_list (pe_op op_catSq (pv 0) (pe_op op_rep (pe_lst (pa_cons pe_int pa_nil)) pe_int)) (pv 1) (fun _ _ => rfl)) (pe_op op_pow pe_int pe_int)) pa_nil))) (pa_cons (pv 2) pa_nil)))))), ?_⟩
    refine ⟨_, rfl, _, _, rfl, rfl, ?_⟩
    refine ⟨_, rfl, a, rfl, ⟨_, hS⟩, for_list (K := K) (a := a) (xs := ns.map V.int) (fun i σ H2 => ∃ (m : Int) (v : Option V), σ = [some (.ref a), some (.int st), some (.int m), v] ∧ H2 = H ∧ SrcOk m)
      ⟨26 + st, none, rfl, rfl, by unfold SrcOk; omega⟩ (fun i σ H2 _ ⟨_, _, _, e, _⟩ => e ▸ hS) ?_ ?_⟩
    · rintro i y σ H2 hi ⟨m, v, rfl, rfl, hm⟩
      obtain ⟨z, hz, rfl⟩ : ∃ z, ns[i]? = some z ∧ y = V.int z := by
        rw [List.getElem?_map] at hi
        cases e : ns[i]? with
        | none => rw [e] at hi; cases hi
        | some z => rw [e] at hi; exact ⟨z, rfl, (Option.some.inj hi).symm⟩
      have hb := hbits z (List.mem_of_getElem? hz)
      refine ⟨_, rfl, _, _, rfl, rfl, .inl ⟨by have := hm.1; omega, by have := hm.2; omega⟩, ?_⟩
      refine ⟨_, rfl, _, _, rfl, rfl, ?_⟩
      refine .inl ⟨_, rfl, ?_⟩
      refine ⟨_, _, rfl, rfl, bits_mix2 hm.1 hm.2 hb, ?_⟩
      refine ⟨_, _, rfl, rfl, (by show (0 : Int) < 2147483629; decide), ?_⟩
      refine ⟨_, _, rfl, rfl, ?_⟩
      have h1 := Int.emod_nonneg ((m * 40127 + z) ^ (3 : Int).toNat) (show (2147483629 : Int) ≠ 0 by decide)
      have h2 := Int.emod_lt_of_pos ((m * 40127 + z) ^ (3 : Int).toNat) (show (0 : Int) < 2147483629 by decide)
      exact ⟨_, _, rfl, rfl, by omega, by omega⟩
    · rintro σ H2 ⟨m, v, rfl, rfl, hm⟩
      have n4 : (List.replicate (4 : Int).toNat [V.int 0]).flatten.length = 4 := rfl
      obtain ⟨z, hz⟩ := pad_at (ns := ns) hst0 hst
      refine ⟨_, rfl, (by show 1 ≤ sizeLine; decide), fun q hq => ?_⟩
      refine ⟨q, 4, [.int 0], rfl, rfl, upd_same, by decide, by decide, by show 4 ≤ sizeLine; decide, fun q2 hq2 => ?_⟩
      refine ⟨a, q2, ns.map V.int, _, rfl, rfl, sqNew (sqNew hS hq) hq2, SqL.of upd_same, by rw [List.length_map, n4]; exact Nat.le_trans (Nat.add_le_add_right hlen 4) (by decide), fun q3 hq3 => ?_⟩
      refine ⟨_, rfl, q3, _, st, _, rfl, rfl, SqL.of upd_same, hz, ?_⟩
      refine ⟨_, _, rfl, rfl, ⟨by decide, by decide, by decide⟩, _, _, rfl, rfl, ?_⟩
      refine ⟨_, _, rfl, _, rfl, (by show 2 ≤ sizeLine; decide), fun q4 hq4 => ?_⟩
      refine k _ q4 _ m ?_ ?_ upd_same hm
      · exact ((((Same.refl H2).new hq).new hq2).new hq3).new hq4
      · cases e : H2 q4 with
        | none => rfl
        | some u =>
          have z := hq4.symm.trans ((((Same.refl H2).new hq).new hq2).new hq3 q4 u e)
          cases z
theorem scDrawP : FnScope ["stream", "size", "found"] ["stream", "size"] (defScope sDrawP) := ⟨rfl, rfl, rfl, by decide +kernel, rfl, by decide +kernel, by decide +kernel⟩
theorem ok_drawP {f : Addr} {fd : FuncData} (F : Fun K "_law_draw" "_law_draw" sDrawP f fd) (ti : mg "int" = none) : FnOk P w K mg base CX0 1 f fd ["stream", "size"] spDraw := by
  refine F.ok scDrawP (fun vs H Q E h => ?_) (fun cdv A outer s H vs Q E hr h => ?_)
  · obtain ⟨p, span, r, m, rfl, _⟩ := h
    rfl
  · obtain ⟨p, span, r, m, rfl, hp, hm, h0, h1, k⟩ := h
    have nd := scDrawP.nd
    have hS : SqL K H p [V.int r, V.int m] := SqL.of hp
    refine ⟨_, pss_cons (ps_if (pt_cmpR op_ge (pe_ix ix_list (pv 0) pe_int (fun _ _ => rfl)) (pv 1) (nomark _))
        (pss_cons (ps_set (i := 2) nd rfl (Or.inl rfl) (pe_op op_mod (pe_callTy call_int1 (by rfl) ti boot_int (pa_cons (pe_ix ix_list (pv 0) pe_int (fun _ _ => rfl)) pa_nil)) (pv 1)))
        (pss_cons (ps_asg (by exact (pe_op op_fdiv (pe_ix ix_list (pv 0) pe_int (fun _ _ => rfl)) (pv 1))) (by exact (pg_sub (pv 0) pe_int set_list)))
        (pss_one (ps_ret (pv 2))))) pss_nil)
      (pss_cons (ps_asg (by exact (pe_op op_mod (pe_callTy call_int1 (by rfl) ti boot_int (pa_cons (pe_op op_add (pe_op op_mul (pe_ix ix_list (pv 0) pe_int (fun _ _ => rfl)) pe_int) pe_int) pa_nil)) pe_int)) (by exact (pg_sub (pv 0) pe_int set_list)))
      (pss_one (ps_ret (pe_op op_mod (pe_op op_fdiv (pe_op op_mod (pe_op op_pow (pe_op op_mod (pe_op op_pow (pe_callTy call_int1 (by rfl) ti boot_int (pa_cons (pe_ix ix_list (pv 0) pe_int (fun _ _ => rfl)) pa_nil)) pe_int) pe_int) pe_int) pe_int) pe_int) (pv 1))))), ?_⟩
    refine ⟨_, rfl, p, _, _, _, rfl, rfl, hS, src_at0 r m, _, rfl, _, _, rfl, rfl, _, rfl, ?_⟩
    refine ite2 (fun hc => ?_) (fun hc => ?_)
    · refine ⟨_, rfl, p, _, _, _, rfl, rfl, hS, src_at0 r m, .inl ⟨_, rfl, _, rfl, _, _, rfl, rfl, h0, ?_⟩⟩
      refine ⟨_, rfl, p, _, _, _, rfl, rfl, hS, src_at0 r m, _, rfl, _, _, rfl, rfl, ⟨h0, by omega⟩, _, rfl, p, _, _, 0, rfl, rfl, hp, rfl, _, rfl, ?_⟩
      exact k (r % span) (r / span) m (Int.emod_nonneg r (by omega)) (Int.emod_lt_of_pos r h0) hm
    · refine ⟨_, rfl, p, _, _, _, rfl, rfl, hS, src_at1 r m, _, _, rfl, rfl, .inl ⟨by have := hm.1; omega, by have := hm.2; omega⟩, _, _, rfl, rfl, .inl ⟨_, rfl, ?_⟩⟩
      refine ⟨_, _, rfl, rfl, (by show (0 : Int) < 2147483647; decide), _, rfl, p, _, _, 1, rfl, rfl, hp, rfl, ?_⟩
      have n1 := Int.emod_nonneg (m * 48271 + 12345) (show (2147483647 : Int) ≠ 0 by decide)
      have n2 := Int.emod_lt_of_pos (m * 48271 + 12345) (show (0 : Int) < 2147483647 by decide)
      have hm' : SrcOk ((m * 48271 + 12345) % 2147483647) := ⟨n1, by omega⟩
      refine ⟨_, rfl, p, _, _, _, rfl, rfl, SqL.of upd_same, src_at1 r _, .inl ⟨_, rfl, ?_⟩⟩
      obtain ⟨y, hy⟩ : ∃ y, y = ((m * 48271 + 12345) % 2147483647) := ⟨_, rfl⟩
      rw [← hy] at n1 n2 ⊢
      refine ⟨_, _, rfl, rfl, ⟨by decide, by decide, by omega⟩, ?_⟩
      refine ⟨_, _, rfl, rfl, (by show (0 : Int) < 2147483629; decide), ?_⟩
      have p1 := Int.emod_nonneg (y ^ (3 : Int).toNat) (show (2147483629 : Int) ≠ 0 by decide)
      have p2 := Int.emod_lt_of_pos (y ^ (3 : Int).toNat) (show (0 : Int) < 2147483629 by decide)
      have c : ((y ^ (3 : Int).toNat) % 2147483629).natAbs < 2 ^ 64 := by
        revert p1 p2
        generalize ((y ^ (3 : Int).toNat) % 2147483629) = x
        intro p1 p2
        omega
      refine ⟨_, _, rfl, rfl, ⟨by decide, by decide, c⟩, ?_⟩
      refine ⟨_, _, rfl, rfl, (by show (0 : Int) < 1000000007; decide), _, _, rfl, rfl, ⟨by decide, by decide⟩, _, rfl, _, _, rfl, rfl, h0, ?_⟩
      exact k _ r _ (Int.emod_nonneg _ (by omega)) (Int.emod_lt_of_pos _ h0) hm'
theorem scChoose : FnScope ["stream", "items"] ["stream", "items"] (defScope sChoose) := ⟨rfl, rfl, rfl, by decide +kernel, rfl, by decide +kernel, by decide +kernel⟩
theorem ok_choose {f fD : Addr} {fd fdD : FuncData} (F : Fun K "_law_choose" "_law_choose" sChoose f fd) (tl : mg "len" = none)
    (GD : FnOk P w K mg base CX0 1 fD fdD ["stream", "size"] spDraw) (bD : Binds K fdD ["stream", "size"] []) (gD : mg "_law_draw" = some (.ref fD)) (kD : PySem.W.keepIn K (.ref fD) = true) : FnOk P w K mg base CX0 2 f fd ["stream", "items"] (spPick K) := by
  refine F.ok scChoose (fun vs H Q E h => ?_) (fun cdv A outer s H vs Q E hr h => ?_)
  · obtain ⟨p, e, r, m, xs, rfl, _⟩ := h
    rfl
  · obtain ⟨p, e, r, m, xs, rfl, hp, hm, hS, ne, l0, l1, k⟩ := h
    refine ⟨_, pss_one (ps_ret (pe_ix ix_list (pv 1) (pe_call GD hr rfl gD kD bD .nil pass0 (pa_cons (pv 0) (pa_cons (pe_callB call_len_seq (by rfl) tl PySem.boot_len (pa_cons (pv 1) pa_nil)) pa_nil))) (fun _ _ => rfl))), ?_⟩
    refine ⟨_, rfl, _, rfl, _, rfl, e, _, rfl, .inl hS, p, _, r, m, rfl, hp, hm, (by omega), (by omega), fun j r' m' j0 j1 hm' => ?_⟩
    have hlt : j.toNat < xs.length := by omega
    exact ⟨e, _, _, _, rfl, rfl, SqL.apart hS ne, at_of (j := j.toNat) (by omega) (List.getElem?_eq_getElem hlt), k _ _ r' m' (List.getElem?_eq_getElem hlt) hm'⟩
end
end Gk
namespace Gk
open PySem PySem.W PySem.Spec PyProof.Rows L2
abbrev sShuf : Stmt := (top 36)
section
variable {P : Program} {w : World} {K : Frag} {mg : Str → Option Value} {base : Heap}
abbrev nShuf : List Str := ["stream", "items", "left", "found"]
theorem scShuf : FnScope nShuf ["stream", "items"] (defScope sShuf) := ⟨rfl, rfl, rfl, by decide +kernel, rfl, by decide +kernel, by decide +kernel⟩
theorem ok_shuffled {f fD : Addr} {fd fdD : FuncData} (F : Fun K "_law_shuffled" "_law_shuffled" sShuf f fd) (tl : mg "len" = none) (tL : mg "list" = none)
    (GD : FnOk P w K mg base CX0 1 fD fdD ["stream", "size"] spDraw) (bD : Binds K fdD ["stream", "size"] []) (gD : mg "_law_draw" = some (.ref fD)) (kD' : PySem.W.keepIn K (.ref fD) = true) : FnOk P w K mg base CX0 2 f fd ["stream", "items"] (spMixed K) := by
  refine F.ok scShuf (fun vs H Q E h => ?_) (fun cdv A outer s H vs Q E hr h => ?_)
  · obtain ⟨p, e, r, m, xs, rfl, _⟩ := h
    rfl
  · obtain ⟨p, e, r, m, ks, rfl, hp, hm, hS, ne, l1, hok, k⟩ := h
    have nd := scShuf.nd
    have hu64 : (A.deeper (envOfC "_law_shuffled" (defScope sShuf) s.heap.objs.size f cdv)).units + 64 < cLine := by have := hr.un; omega
    refine ⟨_, pss_cons (ps_par (i := 2) (j := 3) rfl nd rfl rfl (by decide) rfl rfl (pa_cons (pe_callTy call_list_of (by rfl) tL boot_list0 (pa_cons (pv 1) pa_nil)) (pa_cons (pe_lst pa_nil) pa_nil)) rfl)
      (pss_cons (ps_while PassesOwn.never (pt_cmpR (op_neD hu64) (pv 2) (pe_lst pa_nil) (nomark _))
        (pss_one (ps_expr (pe_bm PySem.F.plainAttrs_list PySem.F.slot_list_append PySem.F.type_list_append mt_append (pv 3) (pa_cons
          (pe_bm PySem.F.plainAttrs_list PySem.F.slot_list_pop PySem.F.type_list_pop mt_popAt (pv 2) (pa_cons (pe_call GD hr rfl gD kD' bD .nil pass0 (pa_cons (pv 0) (pa_cons (pe_callB call_len_seq (by rfl) tl PySem.boot_len (pa_cons (pv 2) pa_nil)) pa_nil))) pa_nil)) pa_nil)))))
      (pss_one (ps_ret (pv 3)))), ?_⟩
    walk_at "rd"
    refine ⟨e, _, rfl, .inl hS, fun l hl => ?_⟩
    have d1 : Drawn p H (upd H l (.lst (ks.map kV))) := (Drawn.start hp hm).new hl
    have c1 : upd H l (.lst (ks.map kV)) l = some (.lst (ks.map kV)) := upd_same
    have nl : l ≠ p := (Drawn.start hp hm).ne hl
    generalize upd H l (.lst (ks.map kV)) = H1 at d1 c1
    walk_at "rd"
    refine ⟨Nat.zero_le _, fun g hg => ?_⟩
    have d2 : Drawn p H (upd H1 g (.lst [])) := d1.new hg
    have ng : g ≠ p := d1.ne hg
    have ngl : l ≠ g := ne_of_none c1 hg
    have c2 : upd H1 g (.lst []) l = some (.lst (ks.map kV)) := by rw [upd_ne ngl]; exact c1
    have c3 : upd H1 g (.lst []) g = some (.lst (([] : List Key).map kV)) := upd_same
    have hg0 : H g = none := d1.free hg ng
    generalize upd H1 g (.lst []) = H2 at d2 c2 c3
    walk_at "rd"
    refine ⟨_, _, rfl, ?_⟩
    refine ⟨fun n σ H' => ∃ k1 k2 : List Key, σ = [some (.ref p), some (.ref e), some (.ref l), some (.ref g)] ∧ Drawn p H H' ∧ H' l = some (.lst (k1.map kV)) ∧ H' g = some (.lst (k2.map kV)) ∧ (k2 ++ k1).Perm ks ∧ n = k1.length, ⟨_, ks, [], rfl, d2, c2, c3, List.Perm.refl _, rfl⟩, ?_⟩
    rintro n σ H' ⟨k1, k2, rfl, dd, cl, cg, hperm, rfl⟩
    walk_at "rd"
    refine ⟨Nat.zero_le _, fun z hz => ?_⟩
    have d3 : Drawn p H (upd H' z (.lst [])) := dd.new hz
    have cl : upd H' z (.lst []) l = some (.lst (k1.map kV)) := by rw [upd_ne (ne_of_none cl hz)]; exact cl
    have cg : upd H' z (.lst []) g = some (.lst (k2.map kV)) := by rw [upd_ne (ne_of_none cg hz)]; exact cg
    have cz : upd H' z (.lst []) z = some (.lst (([] : List Key).map kV)) := upd_same
    generalize upd H' z (.lst []) = H3 at d3 cl cg cz
    have ok1 : ∀ k ∈ k1, kOk k = true := fun j hj => hok j (hperm.mem_iff.mp (List.mem_append_right _ hj))
    refine ⟨.list (k1.map kD), .list [], .lst (SqL.of cl) (dp_keys k1), .lst (SqL.of cz) .nil, keys_shaped k1 ok1, keys_shaped [] (by simp), _, rfl, ?_⟩
    rw [keys_nil]
    cases k1 with
    | nil =>
      simp only [List.isEmpty_nil, Bool.not_true, Bool.false_eq_true, if_false]
      exact ⟨_, rfl, k H3 g k2 d3 hg0 ng cg (by simpa using hperm)⟩
    | cons x k1 =>
      simp only [List.isEmpty_cons, Bool.not_false, if_true]
      refine ⟨fun σ' H' => ∃ j1 j2 : List Key, σ' = [some (.ref p), some (.ref e), some (.ref l), some (.ref g)] ∧ Drawn p H H' ∧ H' l = some (.lst (j1.map kV)) ∧ H' g = some (.lst (j2.map kV)) ∧ (j2 ++ j1).Perm ks ∧ j1.length < (x :: k1).length, ?_, ?_⟩
      · rintro σ' H4 ⟨j1, j2, e1, e2, e3, e4, e5, e6⟩
        exact ⟨j1.length, e6, j1, j2, e1, e2, e3, e4, e5, rfl⟩
      walk_at "rd"
      refine ⟨.inl ⟨rfl, _, SqL.of cg⟩, ?_⟩
      walk_at "rd"
      refine ⟨.inl ⟨rfl, _, SqL.of cl⟩, ?_⟩
      walk_at "rd"
      refine ⟨l, _, rfl, .inl (SqL.of cl), ?_⟩
      walk_at "rd"
      obtain ⟨r1, m1, hp1, hm1⟩ := d3.src
      have len1 : ((x :: k1).map kV).length ≤ 1000 := by
        have := hperm.length_eq
        rw [List.length_append] at this
        rw [List.length_map]
        omega
      refine ⟨p, _, r1, m1, rfl, hp1, hm1, by simp, by omega, fun j r2 m2 j0 j1 hm2 => ?_⟩
      have d4 := d3.draw (r := r2) hm2
      have cl : upd H3 p (srcO r2 m2) l = some (.lst ((x :: k1).map kV)) := by rw [upd_ne nl]; exact cl
      have cg : upd H3 p (srcO r2 m2) g = some (.lst (k2.map kV)) := by rw [upd_ne ng]; exact cg
      generalize upd H3 p (srcO r2 m2) = H4 at d4 cl cg
      walk_at "rd"
      have jl : j.toNat < (x :: k1).length := by
        rw [List.length_map] at j1
        omega
      obtain ⟨y, hy⟩ : ∃ y, (x :: k1)[j.toNat]? = some y := ⟨_, List.getElem?_eq_getElem jl⟩
      refine ⟨l, (x :: k1).map kV, j, j.toNat, kV y, rfl, rfl, cl, by omega, by omega, seq_ix j0 (by rw [List.length_map]; exact jl), by rw [List.getElem?_map, hy]; rfl, ?_⟩
      have el : ((x :: k1).map kV).eraseIdx j.toNat = ((x :: k1).eraseIdx j.toNat).map kV := er_map _ _
      rw [el]
      have hlz : H l = none := hl
      have d5 := d4.mut (o := .lst (((x :: k1).eraseIdx j.toNat).map kV)) hlz nl
      have cl5 : upd H4 l (.lst (((x :: k1).eraseIdx j.toNat).map kV)) l = some (.lst (((x :: k1).eraseIdx j.toNat).map kV)) := upd_same
      have cg5 : upd H4 l (.lst (((x :: k1).eraseIdx j.toNat).map kV)) g = some (.lst (k2.map kV)) := by rw [upd_ne ngl.symm]; exact cg
      generalize upd H4 l (.lst (((x :: k1).eraseIdx j.toNat).map kV)) = H5 at d5 cl5 cg5
      have sz : (k2.map kV).length < sizeLine := by
        have := hperm.length_eq
        rw [List.length_append] at this
        rw [List.length_map]
        exact Nat.lt_of_le_of_lt (show k2.length ≤ 1000 by omega) (by decide)
      refine ⟨g, _, kV y, rfl, rfl, cg5, sz, ?_⟩
      have em : k2.map kV ++ [kV y] = (k2 ++ [y]).map kV := by rw [List.map_append]; rfl
      refine ⟨(x :: k1).eraseIdx j.toNat, k2 ++ [y], rfl, d5.mut hg0 ng, by rw [upd_ne ngl]; exact cl5, by rw [upd_same, em], ?_, ?_⟩
      · rw [List.append_assoc]
        exact ((er_perm hy).append_left k2).trans hperm
      · rw [List.length_eraseIdx_of_lt jl]
        have : 0 < (x :: k1).length := Nat.succ_pos _
        omega
end
end Gk
/-! ### objects of own classes, over trees: methods, properties, operators by own methods -/
namespace Pu
open PySem PySem.W PySem.Spec PyProof.Rows L2 Gk
section
variable {Ob : Type}
/-- x is an instance of the class at C, and no field of it hides m -/
def InsC (W : Wd Ob) (C : Addr) (m : Str) (x : Ob) : Prop := ∀ H v, W.rep H v x → ∃ a dx fs, v = .ref a ∧ H a = some (.ins C dx fs) ∧ fs.lookup m = none
def pMeth (ok : Ob → Prop) (F : List (Dt Ob) → PQ Ob → Prop) (dds : List (Dt Ob)) (pe : PTE Ob) (pa : PTA Ob) (env : PEnv Ob) (Q : PQ Ob) : Prop := pe env fun _ d => ∃ x, d = .ob x ∧ ok x ∧ pa env fun xs => okArgs xs ∧ F (.ob x :: (xs.map (·.2) ++ dds)) Q
def pProp (ok : Ob → Prop) (F : List (Dt Ob) → PQ Ob → Prop) (dds : List (Dt Ob)) (pe : PTE Ob) (env : PEnv Ob) (Q : PQ Ob) : Prop := pe env fun _ d => ∃ x, d = .ob x ∧ ok x ∧ F (.ob x :: dds) Q
/-- what an own comparison answers -/
def bQ (neg : Bool) (Q : PQ Ob) : PQ Ob := fun _ d => ∃ b, d = .bl b ∧ Q .cl (.bl (if neg then !b else b))
def poEqI (okx oky : Dt Ob → Prop) (F : List (Dt Ob) → PQ Ob → Prop) (neg : Bool) (x y : Dt Ob) (Q : PQ Ob) : Prop := okx x ∧ oky y ∧ F [x, y] (bQ neg Q)
def poInI (okx oky : Dt Ob → Prop) (F : List (Dt Ob) → PQ Ob → Prop) (neg : Bool) (x y : Dt Ob) (Q : PQ Ob) : Prop := okx x ∧ oky y ∧ F [y, x] (bQ neg Q)
/-- x[y] by an own __getitem__ -/
def poSubI (okx oky : Dt Ob → Prop) (F : List (Dt Ob) → PQ Ob → Prop) (x y : Dt Ob) (Q : PQ Ob) : Prop := okx x ∧ oky y ∧ F [x, y] Q
def poBinI (W : Wd Ob) (ok : Ob → Prop) (F : List (Dt Ob) → PQ Ob → Prop) (x y : Dt Ob) (Q : PQ Ob) : Prop := ∃ a b, x = .ob a ∧ y = .ob b ∧ ok a ∧ ok b ∧ F [x, y] fun fl d => (∃ z C m, d = .ob z ∧ InsC W C m z) ∧ Q fl d
def prLenI (ok : Ob → Prop) (F : List (Dt Ob) → PQ Ob → Prop) (xs : List (Dt Ob)) (Q : PQ Ob) : Prop := ∃ x, xs = [.ob x] ∧ ok x ∧ F [.ob x] fun _ d => ∃ k : Nat, d = .int k ∧ k ≤ 1000000 ∧ Q .cl (.int k)
end
section
variable {Ob : Type} {W : Wd Ob} {p : Option Addr} {D z : Addr → Prop} {H H' H0 H1 : Hp} {v : V} {d : Dt Ob} {fl : Fl} {C : Addr} {m : Str} {ok : Ob → Prop} {F : List (Dt Ob) → PQ Ob → Prop} {U : (Addr → Prop) → Prop} {dvs : List V} {dds : List (Dt Ob)} {E : XK} {pe : PTE Ob} {te : TE} {px : PTA Ob} {tx : TA} {neg : Bool} {okd : Dt Ob → Prop}
theorem thaw_ins {fz : Addr → Prop} {a dx : Addr} {fs : List (Str × V)} (h : thaw fz H a = some (.ins C dx fs)) : H a = some (.ins C dx fs) := by
  unfold thaw at h
  by_cases f : fz a
  · rw [if_pos f] at h
    split at h
    · cases h
    · exact h
  · rw [if_neg f] at h
    exact h
theorem ob_ins {x : Ob} (hx : InsC W C m x) (h : R0 (W.at z) p (hide D H) v (.ob x)) : ∃ a dx fs, v = .ref a ∧ H a = some (.ins C dx fs) ∧ fs.lookup m = none := by
  cases h with
  | ob h =>
    obtain ⟨a, dx, fs, e, q, l⟩ := hx _ _ h
    exact ⟨a, dx, fs, e, (hide_some (thaw_ins q)).2, l⟩
theorem RR.obc {x : Ob} (h : RR W p D H0 H fl v (.ob x)) : R0 W p (hide D H) v (.ob x) := by
  unfold RR at h
  cases fl with
  | cl => exact h
  | raw => exact h.elim
  | fr => exact h.elim
theorem snd_meth (hU : U z) (hd : flats dds = some dvs) (hk : ∀ x, ok x → InsC W C m x) (he : SndE (W.at z) pe te) (hx : SndA (W.at z) px tx) : SndE (W.at z) (pMeth ok F dds pe px) (tMeth C m (PFn W U F) dvs E te tx) := by
  intro p D σ H env Qp Q st h k
  refine he p D σ H env _ _ st h fun fl d v H1 ⟨x, e, o, h1⟩ g1 r1 => ?_
  subst e
  have rc := r1.obc
  obtain ⟨a, dx, fs, rfl, ea, lk⟩ := ob_ins (hk x o) rc
  have st1 := st.grow g1
  refine ⟨a, dx, fs, rfl, ea, lk, ?_⟩
  refine hx p D σ H1 env _ _ st1 h1 fun xs vs H2 ⟨ok2, h2⟩ g2 r2 => ?_
  have hv2 := st1.hv.grow g2
  refine ⟨z, p, D, _, Qp, hU, hv2, .cons (R0.mono (g2.hide st1.hv) rc) ((RRs.clean st1.hv r2 ok2).append (RA.of_fv hd)), h2, fun fl d v H' q g r => k _ _ _ _ q (g1.trans (g2.trans g)) (r.back (g1.trans g2))⟩
theorem snd_prop (hU : U z) (hd : flats dds = some dvs) (hk : ∀ x, ok x → InsC W C m x) (he : SndE (W.at z) pe te) : SndE (W.at z) (pProp ok F dds pe) (tProp C (PFn W U F) dvs E te) := by
  intro p D σ H env Qp Q st h k
  refine he p D σ H env _ _ st h fun fl d v H1 ⟨x, e, o, h1⟩ g1 r1 => ?_
  subst e
  have rc := r1.obc
  obtain ⟨a, dx, fs, rfl, ea, lk⟩ := ob_ins (hk x o) rc
  have st1 := st.grow g1
  refine ⟨a, dx, fs, rfl, ea, ?_⟩
  exact ⟨z, p, D, _, Qp, hU, st1.hv, .cons rc (RA.of_fv hd), h1, fun fl d v H' q g r => k _ _ _ _ q (g1.trans g) (r.back g1)⟩
/-- a clean value, whatever way it is read -/
def CleanD (d : Dt Ob) : Prop := (∀ ds, d ≠ .lst ds) ∧ ∀ es, d ≠ .dic es
theorem clean_ob {x : Ob} : CleanD (.ob x) := ⟨fun _ e => (by cases e), fun _ e => (by cases e)⟩
theorem RV.clean (c : CleanD d) (h : RV W p D H v d) : R0 W p (hide D H) v d := by
  cases h with
  | cl h => exact h
  | rl _ _ => exact absurd rfl (c.1 _)
  | rd _ _ => exact absurd rfl (c.2 _)
theorem rr_bl {b : Bool} (h : RR W p D H0 H fl v (.bl b)) : v = .bl b := by
  unfold RR at h
  cases fl with
  | cl => cases h; rfl
  | raw => exact h.elim
  | fr => exact h.elim
theorem rr_int {i : Int} (h : RR W p D H0 H fl v (.int i)) : v = .int i := by
  unfold RR at h
  cases fl with
  | cl => cases h; rfl
  | raw => exact h.elim
  | fr => exact h.elim
/-- x is an instance of the class at C -/
def ObC (W : Wd Ob) (C : Addr) (d : Dt Ob) : Prop := ∃ x, d = .ob x ∧ ∃ m, InsC W C m x
theorem ObC.clean (h : ObC W C d) : CleanD d := by
  obtain ⟨x, rfl, _⟩ := h
  exact clean_ob
theorem snd_rEqI (hU : U z) (oky : ∀ d, okd d → CleanD d ∧ ∀ p D H v, R0 (W.at z) p (hide D H) v d → ∃ t, TyX W.K H v t ∧ notFirst W.K C t = true) : SndR (W.at z) (poEqI (ObC W C) okd F false) (rEqI W.K C (PFn W U F) E) := by
  intro p D H x y dx dy Qp Q hv hx hy ⟨o1, o2, h⟩ k
  have rx := RV.clean o1.clean hx
  have ry := RV.clean (oky _ o2).1 hy
  obtain ⟨o, rfl, m, io⟩ := o1
  obtain ⟨a, da, fs, rfl, ea, _⟩ := ob_ins io rx
  obtain ⟨t, ht, nf⟩ := (oky _ o2).2 p D H y ry
  refine ⟨a, da, fs, t, rfl, ea, ht, nf, z, p, D, _, _, hU, hv, .cons rx (.cons ry .nil), h, fun fl d v H' q g r => ?_⟩
  obtain ⟨b, rfl, q⟩ := q
  obtain rfl := rr_bl r
  exact ⟨b, rfl, k _ _ _ _ q g (.bl b)⟩
theorem snd_rNeI (hU : U z) (oky : ∀ d, okd d → CleanD d ∧ ∀ p D H v, R0 (W.at z) p (hide D H) v d → ∃ t, TyX W.K H v t ∧ notFirst W.K C t = true) : SndR (W.at z) (poEqI (ObC W C) okd F true) (rNeI W.K C (PFn W U F) E) := by
  intro p D H x y dx dy Qp Q hv hx hy ⟨o1, o2, h⟩ k
  have rx := RV.clean o1.clean hx
  have ry := RV.clean (oky _ o2).1 hy
  obtain ⟨o, rfl, m, io⟩ := o1
  obtain ⟨a, da, fs, rfl, ea, _⟩ := ob_ins io rx
  obtain ⟨t, ht, nf⟩ := (oky _ o2).2 p D H y ry
  refine ⟨a, da, fs, t, rfl, ea, ht, nf, z, p, D, _, _, hU, hv, .cons rx (.cons ry .nil), h, fun fl d v H' q g r => ?_⟩
  obtain ⟨b, rfl, q⟩ := q
  obtain rfl := rr_bl r
  exact ⟨b, rfl, k _ _ _ _ q g (.bl (!b))⟩
theorem snd_rInI (hU : U z) : SndR (W.at z) (poInI CleanD (ObC W C) F false) (rInI C (PFn W U F) E) := by
  intro p D H x y dx dy Qp Q hv hx hy ⟨o1, o2, h⟩ k
  have rx := RV.clean o1 hx
  have ry := RV.clean o2.clean hy
  obtain ⟨o, rfl, m, io⟩ := o2
  obtain ⟨a, da, fs, rfl, ea, _⟩ := ob_ins io ry
  refine ⟨a, da, fs, rfl, ea, z, p, D, _, _, hU, hv, .cons ry (.cons rx .nil), h, fun fl d v H' q g r => ?_⟩
  obtain ⟨b, rfl, q⟩ := q
  obtain rfl := rr_bl r
  exact ⟨b, rfl, k _ _ _ _ q g (.bl b)⟩
theorem snd_rNotInI (hU : U z) : SndR (W.at z) (poInI CleanD (ObC W C) F true) (rNotInI C (PFn W U F) E) := by
  intro p D H x y dx dy Qp Q hv hx hy ⟨o1, o2, h⟩ k
  have rx := RV.clean o1 hx
  have ry := RV.clean o2.clean hy
  obtain ⟨o, rfl, m, io⟩ := o2
  obtain ⟨a, da, fs, rfl, ea, _⟩ := ob_ins io ry
  refine ⟨a, da, fs, rfl, ea, z, p, D, _, _, hU, hv, .cons ry (.cons rx .nil), h, fun fl d v H' q g r => ?_⟩
  obtain ⟨b, rfl, q⟩ := q
  obtain rfl := rr_bl r
  exact ⟨b, rfl, k _ _ _ _ q g (.bl (!b))⟩
theorem snd_rSubI (hU : U z) : SndR (W.at z) (poSubI (ObC W C) CleanD F) (rSubI C (PFn W U F) E) := by
  intro p D H x y dx dy Qp Q hv hx hy ⟨o1, o2, h⟩ k
  have rx := RV.clean o1.clean hx
  have ry := RV.clean o2 hy
  obtain ⟨o, rfl, m, io⟩ := o1
  obtain ⟨a, da, fs, rfl, ea, _⟩ := ob_ins io rx
  exact ⟨a, da, fs, rfl, ea, z, p, D, _, _, hU, hv, .cons rx (.cons ry .nil), h, fun fl d v H' q g r => k _ _ _ _ q g r⟩
theorem clean_str {x : Str} : CleanD (.str x : Dt Ob) := ⟨fun _ e => (by cases e), fun _ e => (by cases e)⟩
theorem clean_int {x : Int} : CleanD (.int x : Dt Ob) := ⟨fun _ e => (by cases e), fun _ e => (by cases e)⟩
theorem clean_non : CleanD (.non : Dt Ob) := ⟨fun _ e => (by cases e), fun _ e => (by cases e)⟩
theorem clean_tup {xs : List (Dt Ob)} : CleanD (.tup xs : Dt Ob) := ⟨fun _ e => (by cases e), fun _ e => (by cases e)⟩
theorem snd_rBinI (hU : U z) (hk : ∀ x, ok x → InsC W C m x) : SndR (W.at z) (poBinI W ok F) (rBinI C (PFn W U F) E) := by
  intro p D H x y dx dy Qp Q hv hx hy ⟨a, b, ex, ey, o1, o2, h⟩ k
  subst ex
  subst ey
  have rx := RV.clean clean_ob hx
  have ry := RV.clean clean_ob hy
  obtain ⟨a', da, fs, rfl, ea, _⟩ := ob_ins (hk _ o1) rx
  obtain ⟨b', db, gs, rfl, eb, _⟩ := ob_ins (hk _ o2) ry
  refine ⟨a', b', da, db, fs, gs, rfl, rfl, ea, eb, z, p, D, _, _, hU, hv, .cons rx (.cons ry .nil), h, fun fl d v H' q g r => ?_⟩
  obtain ⟨⟨c, C', m', rfl, ic⟩, q⟩ := q
  obtain ⟨c', _, _, rfl, _, _⟩ := ob_ins ic r.obc
  exact ⟨c', rfl, k _ _ _ _ q g r⟩
theorem snd_lenI (hU : U z) (hk : ∀ x, ok x → InsC W C m x) : SndB (W.at z) (prLenI ok F) (rLenI C (PFn W U F) E) := by
  intro p D H vs ds Qp Q hv hp ⟨x, e, o, h⟩ k
  subst e
  cases hp with
  | cons r t =>
    cases t
    have rx := RV.clean clean_ob r
    obtain ⟨a, da, fs, rfl, ea, _⟩ := ob_ins (hk _ o) rx
    refine ⟨a, da, fs, rfl, ea, z, p, D, _, _, hU, hv, .cons rx .nil, h, fun fl d v H' q g r => ?_⟩
    obtain ⟨n, rfl, n1, q⟩ := q
    obtain rfl := rr_int r
    exact ⟨n, rfl, n1, k _ _ _ _ q g (.int _)⟩
end
end Pu
/-! ### get of dicts, dict displays, over trees -/
namespace Pu
open PySem PySem.W PySem.Spec PyProof.Rows L2 Gk
section
variable {Ob : Type}
def pDGt1 (pd py : PTE Ob) (env : PEnv Ob) (Q : PQ Ob) : Prop := pd env fun _ x => ∃ es, x = .dic es ∧ py env fun _ y => ∃ k, y.key = some k ∧ Q .cl ((valD es k).getD .non)
def pDGt2 (pd py pz : PTE Ob) (env : PEnv Ob) (Q : PQ Ob) : Prop := pd env fun _ x => ∃ es, x = .dic es ∧ py env fun _ y => pz env fun f z => ∃ k, y.key = some k ∧ f ≠ .raw ∧ Q .cl ((valD es k).getD z)
/-- pairs of a display, one after another -/
def SndP (W : Wd Ob) (prs : List (PTE Ob × PTE Ob)) (trs : List (TE × TE)) : Prop := ∀ (p : Option Addr) (D : Addr → Prop) (σ : L2.St) (H : Hp) (env : PEnv Ob) (Qp : List (Key × Dt Ob) → Prop) (Q : List (V × V) → Hp → Prop), StE W p D H σ env → pPairs prs env Qp →
  (∀ es kvs H', Qp es → Grow p H H' → RK W p (hide D H') kvs es → Q (kvs.map fun kv => (kV kv.1, kv.2)) H') → tPairs trs σ H Q
end
section
variable {Ob : Type} {W : Wd Ob} {pd py pz pe pk : PTE Ob} {td ty tz te tk : TE} {prs : List (PTE Ob × PTE Ob)} {trs : List (TE × TE)} {F : List (Dt Ob) → PQ Ob → Prop} {U : (Addr → Prop) → Prop} {z : Addr → Prop} {E : XK} {dds : List (Dt Ob)} {dvs : List V}
theorem snd_dget1 (hd : SndE W pd td) (hy : SndE W py ty) : SndE W (pDGt1 pd py) (tDGet1 td ty) := by
  intro p D σ H env Qp Q st h k
  refine hd p D σ H env _ _ st h fun f x v H1 ⟨es, e, h1⟩ g1 r1 => ?_
  subst e
  have st1 := st.grow g1
  obtain ⟨a, us, rfl, ha, _⟩ := (r1.rv st.hv).dic
  refine ⟨a, rfl, .inl ⟨us, ha⟩, ?_⟩
  refine hy p D σ H1 env _ _ st1 h1 fun f2 y w H2 ⟨kk, e2, q⟩ g2 r2 => ?_
  obtain ⟨a', us', e3, ha', r'⟩ := (r1.rvg st.hv st1.hv g2).dic
  cases e3
  obtain rfl := key_v (r2.rv st1.hv) e2
  refine ⟨_, .inl ⟨us', kk, ha', rfl, rfl⟩, ?_⟩
  rcases r'.val (k := kk) with ⟨h1, h2⟩ | ⟨v, d', h1, h2, h3⟩
  · rw [h1]
    rw [h2] at q
    exact k _ _ _ _ q (g1.trans g2) .non
  · rw [h1]
    rw [h2] at q
    exact k _ _ _ _ q (g1.trans g2) h3
theorem snd_dget2 (hd : SndE W pd td) (hy : SndE W py ty) (hz : SndE W pz tz) : SndE W (pDGt2 pd py pz) (tDGet2 td ty tz) := by
  intro p D σ H env Qp Q st h k
  refine hd p D σ H env _ _ st h fun f x v H1 ⟨es, e, h1⟩ g1 r1 => ?_
  subst e
  have st1 := st.grow g1
  obtain ⟨a, us, rfl, ha, _⟩ := (r1.rv st.hv).dic
  refine ⟨a, rfl, .inl ⟨us, ha⟩, ?_⟩
  refine hy p D σ H1 env _ _ st1 h1 fun f2 y w H2 h2 g2 r2 => ?_
  have st2 := st1.grow g2
  refine hz p D σ H2 env _ _ st2 h2 fun f3 zz u H3 ⟨kk, e2, nr, q⟩ g3 r3 => ?_
  obtain ⟨a', us', e3, ha', r'⟩ := (r1.rvg st.hv st1.hv (g2.trans g3)).dic
  cases e3
  obtain rfl := key_v (r2.rvg st1.hv st2.hv g3) e2
  refine ⟨_, .inl ⟨us', kk, ha', rfl, rfl⟩, ?_⟩
  rcases r'.val (k := kk) with ⟨h1, h2⟩ | ⟨v, d', h1, h2, h3⟩
  · rw [h1]
    rw [h2] at q
    exact k _ _ _ _ q (g1.trans (g2.trans g3)) (r3.clean st2.hv nr)
  · rw [h1]
    rw [h2] at q
    exact k _ _ _ _ q (g1.trans (g2.trans g3)) h3
theorem snd_pnil : SndP W [] [] := fun _ _ _ _ _ _ _ st h k => k [] [] _ h (Grow.refl st.hv) .nil
theorem snd_pcons (hk : SndE W pk tk) (he : SndE W pe te) (hs : SndP W prs trs) : SndP W ((pk, pe) :: prs) ((tk, te) :: trs) := by
  intro p D σ H env Qp Q st h k
  refine hk p D σ H env _ _ st h fun f1 d1 v1 H1 h1 g1 r1 => ?_
  have st1 := st.grow g1
  refine he p D σ H1 env _ _ st1 h1 fun f2 d2 v2 H2 ⟨kk, e2, nr, h2⟩ g2 r2 => ?_
  have st2 := st1.grow g2
  refine hs p D σ H2 env _ _ st2 h2 fun es kvs H3 h3 g3 r3 => ?_
  obtain rfl := key_v (r1.rvg st.hv st1.hv g2) e2
  exact k ((kk, d2) :: es) ((kk, v2) :: kvs) H3 h3 (g1.trans (g2.trans g3)) (.cons (R0.mono (g3.hide st2.hv) (r2.clean st1.hv nr)) r3)
theorem snd_disp (hs : SndP W prs trs) : SndE W (pDisp prs) (tDisp trs) := by
  intro p D σ H env Qp Q st h k c hc
  have g0 : Grow p H (upd H c (.dK [])) := Grow.new st.hv hc
  have cp : p ≠ some c := fun e => by
    obtain ⟨_, r, m, q, _⟩ := st.hv.src c e
    rw [hc] at q
    cases q
  let D' : Addr → Prop := fun b => D b ∨ b = c
  have hv1 := st.hv.grow g0
  have eh : hide D' (upd H c (.dK [])) = hide D H := by
    rw [hide_upd_in (show D' c from Or.inr rfl), hide_or_none (D := D) hc]
  have hv' : Hv p D' (upd H c (.dK [])) := by
    refine ⟨fun b zb => ?_, fun b e => ⟨.inl (hv1.src b e).1, (hv1.src b e).2⟩⟩
    rcases zb with zb | rfl
    · exact hv1.sft b zb
    · exact SoftAt.dic upd_same
  have st' : StE W p D' (upd H c (.dK [])) σ env := by
    refine ⟨hv', pr_map (fun s x zz => ?_) st.sl⟩
    cases x with
    | no => trivial
    | sh d => obtain ⟨v, e, r⟩ := zz; exact ⟨v, e, by rw [eh]; exact r⟩
    | own ds =>
      obtain ⟨a, us, e, za, pa, ha, r⟩ := zz
      exact ⟨a, us, e, .inl za, pa, by rw [upd_ne (fun q => by rw [q, hc] at ha; cases ha)]; exact ha, by rw [eh]; exact r⟩
    | ownD es =>
      obtain ⟨a, us, e, za, pa, ha, r⟩ := zz
      exact ⟨a, us, e, .inl za, pa, by rw [upd_ne (fun q => by rw [q, hc] at ha; cases ha)]; exact ha, by rw [eh]; exact r⟩
    | deep O f d =>
      obtain ⟨v, O1, e, r, i, o⟩ := zz
      exact ⟨v, O1, e, r.mono (by rw [eh]; exact Same.refl _) fun a m u q => by rw [upd_ne (fun z => by rw [z, hc] at q; cases q)]; exact q, i, fun a m => ⟨.inl (o a m).1, (o a m).2⟩⟩
  refine hs p D' σ _ env _ _ st' h fun es kvs H2 ⟨l15, q⟩ g2 r2 => ?_
  have e2 : H2 c = some (.dK []) := g2.keep c _ cp upd_same
  refine ⟨e2, kvs, rfl, by rw [r2.length]; exact l15, ?_⟩
  refine k _ _ _ _ q ⟨fun b u n e => ?_, fun b e => ?_⟩ ⟨c, _, rfl, hc, upd_same, ?_⟩
  · have nb : b ≠ c := fun w => by rw [w, hc] at e; cases e
    rw [upd_ne nb]
    exact g2.keep b u n (by rw [upd_ne nb]; exact e)
  · have nb : b ≠ c := fun w => cp (by rw [e, w])
    obtain ⟨r, m, x1, x2⟩ := g2.src b e
    exact ⟨r, m, by rw [upd_ne nb]; exact x1, x2⟩
  · rw [hide_upd_in (Or.inr rfl)]
    exact RK.merge r2 .nil
theorem snd_dictD : SndB W prDictD (fun xs H Q => ∃ (a : Addr) (kvs : List (Key × V)), xs = [.ref a] ∧ Rd H a (.dK kvs) ∧ ∀ p, H p = none → Q (.ref p) (upd H p (.dK kvs))) := by
  intro p D H vs ds Qp Q hv hs h k
  obtain ⟨es, rfl, q⟩ := h
  obtain ⟨v, rfl, r⟩ := rv1 hs
  obtain ⟨a, us, rfl, ha, r⟩ := r.dic
  exact ⟨a, us, rfl, ha, fun c hc => k _ _ _ _ q (Grow.new hv hc) (fr_dic hv r hc)⟩
end
end Pu
/-! ### lists within lists that change: slots that own a whole tree -/
namespace Pu
open PySem PySem.W PySem.Spec PyProof.Rows L2 Gk
section
variable {Ob : Type}
/-- the list at a path -/
def subL : Dt Ob → List Nat → Option (List (Dt Ob))
  | .lst ds, [] => some ds
  | .lst ds, j :: r => match ds[j]? with
    | some d => subL d r
    | none => none
  | _, _ => none
def putL : Dt Ob → List Nat → List (Dt Ob) → Dt Ob
  | .lst _, [], xs => .lst xs
  | .lst ds, j :: r, xs => match ds[j]? with
    | some d => .lst (ds.set j (putL d r xs))
    | none => .lst ds
  | d, _, _ => d
/-- the address there -/
def adrAt (H : Hp) : V → List Nat → Option Addr
  | .ref a, [] => some a
  | .ref a, j :: r => match H a with
    | some (.lst us) => match us[j]? with
      | some v => adrAt H v r
      | none => none
    | _ => none
  | _, _ => none
end
section
variable {Ob : Type} {W : Wd Ob} {p : Option Addr} {D : Addr → Prop} {H H' : Hp} {v : V} {d d' : Dt Ob} {ds : List (Dt Ob)} {us : List V} {O : List Addr}
theorem RM.to {f : Bool} (h : RM W p D H true O v d) : RM W p D H f O v d := by
  cases f with
  | true => exact h
  | false => exact h.less
theorem RMs.to {f : Bool} (h : RMs W p D H true O us ds) : RMs W p D H f O us ds := by
  cases f with
  | true => exact h
  | false => exact h.less
/-- one item, and what stands beside it -/
theorem RMs.split : ∀ {O : List Addr} {us : List V} {ds : List (Dt Ob)} {j : Nat} {d : Dt Ob}, RMs W p D H true O us ds → ds[j]? = some d → ∃ v Oj, us[j]? = some v ∧ RM W p D H true Oj v d ∧ (∀ b ∈ Oj, b ∈ O) ∧
    ∀ (H' : Hp) (O' : List Addr) (d' : Dt Ob), Same (hide D H) (hide D H') → (∀ b ∈ O, b ∉ Oj → ∀ u, H b = some u → H' b = some u) → RM W p D H' true O' v d' → ∀ X : List Addr, (∀ b ∈ X, b ∉ O) → (∀ b ∈ O', b ∈ Oj ∨ b ∈ X) → ∃ O'', RMs W p D H' true O'' us (ds.set j d') ∧ ∀ b ∈ O'', b ∈ O ∨ b ∈ X
  | _, _, _, _, _, .nil, e => by simp at e
  | _, _, _, 0, _, .cons (O := Oa) (O' := Ob') r t n, e => by
    simp at e
    subst e
    refine ⟨_, Oa, rfl, r, fun b hb => List.mem_append_left _ hb, fun H' O' d' s k r' X hX i => ?_⟩
    refine ⟨O' ++ Ob', .cons r' (t.mono s fun b hb u hu => k b (List.mem_append_right _ hb) (fun z => n b z hb) u hu) (fun b hb z => (i b hb).elim (fun q => n b q z) fun q => hX b q (List.mem_append_right _ z)), fun b hb => ?_⟩
    rcases List.mem_append.mp hb with hb | hb
    · exact (i b hb).imp (List.mem_append_left _) id
    · exact .inl (List.mem_append_right _ hb)
  | _, _, _, j + 1, d, .cons (O := Oa) (O' := Ob') r t n, e => by
    obtain ⟨v, Oj, e1, rj, i1, up⟩ := RMs.split (j := j) (d := d) t (by simpa using e)
    refine ⟨v, Oj, by simpa using e1, rj, fun b hb => List.mem_append_right _ (i1 b hb), fun H' O' d' s k r' X hX i => ?_⟩
    obtain ⟨O2, r2, i2⟩ := up H' O' d' s (fun b hb nb u hu => k b (List.mem_append_right _ hb) nb u hu) r' X (fun b hb z => hX b hb (List.mem_append_right _ z)) i
    refine ⟨Oa ++ O2, ?_, fun b hb => ?_⟩
    · show RMs W p D H' true (Oa ++ O2) _ (_ :: _)
      exact .cons (r.mono s fun b hb u hu => k b (List.mem_append_left _ hb) (fun z => n b hb (i1 b z)) u hu) r2 fun b hb z => (i2 b z).elim (n b hb) fun q => hX b q (List.mem_append_left _ hb)
    · rcases List.mem_append.mp hb with hb | hb
      · exact .inl (List.mem_append_left _ hb)
      · exact (i2 b hb).imp (List.mem_append_right _) id
/-- a list within a tree of one's own, and what becomes of the tree where that list changes -/
theorem RM.focus : ∀ {path : List Nat} {O : List Addr} {v : V} {d : Dt Ob} {ds : List (Dt Ob)}, RM W p D H true O v d → (∀ b ∈ O, D b) → subL d path = some ds →
    ∃ q us Oq, adrAt H v path = some q ∧ q ∈ O ∧ H q = some (.lst us) ∧ RMs W p D H true Oq us ds ∧ q ∉ Oq ∧ (∀ b ∈ Oq, b ∈ O) ∧
      ∀ (us' : List V) (ds' : List (Dt Ob)) (O' : List Addr), RMs W p D (upd H q (.lst us')) true O' us' ds' → ∀ X : List Addr, (∀ b ∈ X, b ∉ O) → (∀ b ∈ O', b ∈ Oq ∨ b ∈ X) → ∃ O'', RM W p D (upd H q (.lst us')) true O'' v (putL d path ds') ∧ ∀ b ∈ O'', b ∈ O ∨ b ∈ X
  | [], _, _, _, _, .lst (O := O0) (a := a) (us := us) h r n, hD, e => by
    obtain rfl := Option.some.inj e
    refine ⟨a, us, O0, rfl, List.mem_cons_self, h, r, n, fun b hb => List.mem_cons_of_mem _ hb, fun us' ds' O' r' X hX i => ⟨a :: O', .lst upd_same r' fun z => (i a z).elim n fun q => hX a q List.mem_cons_self, fun b hb => ?_⟩⟩
    rcases List.mem_cons.mp hb with rfl | hb
    · exact .inl List.mem_cons_self
    · exact (i b hb).imp (List.mem_cons_of_mem _) id
  | j :: path, _, _, _, ds, .lst (O := O0) (a := a) (us := us) (ds := xs) h r n, hD, e => by
    unfold subL at e
    cases ex : xs[j]? with
    | none => rw [ex] at e; cases e
    | some x =>
      rw [ex] at e
      obtain ⟨w, Oj, e1, rj, i1, up⟩ := r.split ex
      obtain ⟨q, us2, Oq, e2, q1, hq, rq, nq, iq, up2⟩ := RM.focus (path := path) rj (fun b hb => hD b (List.mem_cons_of_mem _ (i1 b hb))) e
      have qa : q ≠ a := fun z => n (i1 a (by rw [← z]; exact q1))
      have dq : D q := hD q (List.mem_cons_of_mem _ (i1 q q1))
      refine ⟨q, us2, Oq, ?_, List.mem_cons_of_mem _ (i1 q q1), hq, rq, nq, fun b hb => List.mem_cons_of_mem _ (i1 b (iq b hb)), fun us' ds' O' r' X hX i => ?_⟩
      · show adrAt H (.ref a) (j :: path) = _
        unfold adrAt
        rw [h]
        show (match us[j]? with | some v => adrAt H v path | none => none) = _
        rw [e1]
        exact e2
      · have hX0 : ∀ b ∈ X, b ∉ O0 := fun b hb z => hX b hb (List.mem_cons_of_mem _ z)
        obtain ⟨O2, r2, i2⟩ := up2 us' ds' O' r' X (fun b hb z => hX0 b hb (i1 b z)) i
        obtain ⟨O3, r3, i3⟩ := up (upd H q (.lst us')) O2 (putL x path ds') (by rw [hide_upd_in dq]; exact Same.refl _) (fun b hb nb u hu => by rw [upd_ne (fun z => nb (by rw [z]; exact q1))]; exact hu) r2 X hX0 i2
        refine ⟨a :: O3, ?_, fun b hb => ?_⟩
        · show RM W p D (upd H q (.lst us')) true (a :: O3) (.ref a) (match xs[j]? with | some d => .lst (xs.set j (putL d path ds')) | none => .lst xs)
          rw [ex]
          exact .lst (by rw [upd_ne (Ne.symm qa)]; exact h) r3 fun z => (i3 a z).elim n fun q => hX a q List.mem_cons_self
        · rcases List.mem_cons.mp hb with rfl | hb
          · exact .inl List.mem_cons_self
          · exact (i3 b hb).imp (List.mem_cons_of_mem _) id
  | [], _, _, _, _, .cl c r, hD, e => by
    cases r with
    | lst _ _ => have := c rfl; cases this
    | _ => cases e
  | _ :: _, _, _, _, _, .cl c r, hD, e => by
    cases r with
    | lst _ _ => have := c rfl; cases this
    | _ => cases e
  | [], _, _, _, _, .tup _ _, _, e => by cases e
  | _ :: _, _, _, _, _, .tup _ _, _, e => by cases e
theorem RMs.flat {vs : List V} (e : flats ds = some vs) : RMs W p D H true [] vs ds := by
  induction ds generalizing vs with
  | nil => cases e; exact .nil
  | cons d r ih =>
    unfold flats at e
    cases e1 : d.fv with
    | none => rw [e1] at e; cases e
    | some w =>
      cases e2 : flats r with
      | none => rw [e1, e2] at e; cases e
      | some ws =>
        rw [e1, e2] at e
        obtain rfl := Option.some.inj e
        refine .cons (O := []) (O' := []) (.cl (fun _ => ?_) (R0.of_fv e1)) (ih e2) fun _ m => by cases m
        cases d <;> first | rfl | cases e1
end
section
variable {Ob : Type} {W : Wd Ob} {C : Ct} {H H' H1 : Hp} {v : V} {d t : Dt Ob} {ds : List (Dt Ob)} {us : List V} {σ : L2.St} {env : PEnv Ob} {i : Nat} {O : List Addr}
/-- a slot's own tree, at a statement -/
theorem StS.deep (s : StS W C σ H env) {f : Bool} (e : env[i]? = some (.deep O f t)) : ∃ v O1, σ[i]? = some (some v) ∧ RM W C.p (DOf C σ env) H f O1 v t ∧ (∀ b ∈ O1, b ∈ O) ∧ (∀ b ∈ O, DOf C σ env b ∧ C.p ≠ some b) := by
  obtain ⟨w, ew, v, O1, rfl, r, i1, o⟩ := s.e.get e
  exact ⟨v, O1, ew, r, i1, o⟩
/-- a list within it changes -/
theorem StS.store (s : StS W C σ H env) (e : env[i]? = some (.deep O true t)) {path : List Nat} (es : subL t path = some ds) :
    ∃ v q us Oq O1, σ[i]? = some (some v) ∧ adrAt H v path = some q ∧ H q = some (.lst us) ∧ RMs W C.p (DOf C σ env) H true Oq us ds ∧ us.length = ds.length ∧ q ∉ Oq ∧ RM W C.p (DOf C σ env) H true O1 v t ∧ (∀ b ∈ Oq, b ∈ O1) ∧ q ∈ O1 ∧ (∀ b ∈ O1, b ∈ O) ∧
      ∀ (us' : List V) (ds' : List (Dt Ob)) (O' : List Addr), RMs W C.p (DOf C σ env) (upd H q (.lst us')) true O' us' ds' → ∀ X : List Addr, (∀ b ∈ X, b ∉ O1) → (∀ b ∈ X, b ∈ O) → (∀ b ∈ O', b ∈ Oq ∨ b ∈ X) → StS W C σ (upd H q (.lst us')) (env.set i (.deep O true (putL t path ds'))) := by
  obtain ⟨v, O1, ev, r, i1, o⟩ := s.deep e
  obtain ⟨q, us, Oq, a1, q1, hq, rq, nq, iq, up⟩ := r.focus (fun b hb => (o b (i1 b hb)).1) es
  refine ⟨v, q, us, Oq, O1, ev, a1, hq, rq, rq.length, nq, r, iq, q1, i1, fun us' ds' O' r' X h1 h2 i' => ?_⟩
  obtain ⟨O2, r2, i2⟩ := up us' ds' O' r' X h1 i'
  exact s.mutW (x' := .deep O true (putL t path ds')) e (fun _ _ => Iff.rfl) ev (i1 q q1) (.inl ⟨_, rfl⟩) ⟨v, O2, rfl, r2, fun b hb => (i2 b hb).elim (i1 b) (h2 b), o⟩
/-- a new list is taken in by it -/
theorem StS.takeIn (s : StS W C σ H env) (e : env[i]? = some (.deep O true t)) (g : Grow C.p H H1) {q : Addr} (nq : H q = none) (hq : SoftAt H1 q) : StS W C σ H1 (env.set i (.deep (q :: O) true t)) ∧ ∃ v O1, σ[i]? = some (some v) ∧ (∀ b ∈ O1, b ∈ O) ∧ q ∉ O ∧ RM W C.p (DOf C σ (env.set i (.deep (q :: O) true t))) H1 true O1 v t := by
  obtain ⟨v, O1, ev, r, i1, o⟩ := s.deep e
  have li : i < env.length := (List.getElem?_eq_some_iff.mp e).1
  have ls : i < σ.length := (List.getElem?_eq_some_iff.mp ev).1
  have hset : σ.set i (some v) = σ := by
    apply List.ext_getElem?
    intro k
    by_cases z : k = i
    · subst z
      rw [List.getElem?_set_self ls, ev]
    · rw [List.getElem?_set_ne (Ne.symm z)]
  have nD : ¬ DOf C σ env q := s.hv.nd nq
  have h0 : C.H0 q = none := s.g0.back nq
  have mem : ∀ b, DOf C (σ.set i (some v)) (env.set i (.deep (q :: O) true t)) b → DOf C σ env b ∨ b = q := fun b z => by
    rcases DOf.set_any b z with z | z
    · exact .inl z
    · rcases List.mem_cons.mp z with rfl | z
      · exact .inr rfl
      · exact .inl (o b z).1
  have hs : Same (hide (DOf C σ env) H) (hide (DOf C (σ.set i (some v)) (env.set i (.deep (q :: O) true t))) H1) := by
    rw [← hide_or_none (D := DOf C σ env) nq]
    exact ((hide_keep fun b u n e => g.keep b u (fun z => n (.inl (s.hv.src b z).1)) e)).trans (hide_mono mem)
  have own : ∀ b ∈ (q :: O : List Addr), DOf C (σ.set i (some v)) (env.set i (.deep (q :: O) true t)) b := fun b hb => by
    refine .inr ⟨?_, i, .deep (q :: O) true t, some v, by rw [List.getElem?_set_self li], by rw [List.getElem?_set_self ls], hb⟩
    rcases List.mem_cons.mp hb with rfl | hb
    · exact h0
    · exact s.new i _ _ b e ev hb
  have := s.put (i := i) (x := .deep (q :: O) true t) (v := v) g hs ⟨v, O1, rfl, r.mono hs fun a m u z => g.keep a u (o a (i1 a m)).2 z, fun b hb => List.mem_cons_of_mem _ (i1 b hb), fun b hb => ⟨own b hb, ?_⟩⟩ fun a oa => ?_
  · rw [hset] at this hs
    exact ⟨this, v, O1, ev, i1, fun z => nD (o q z).1, r.mono hs fun a m u z => g.keep a u (o a (i1 a m)).2 z⟩
  · rcases List.mem_cons.mp hb with rfl | hb
    · exact s.hv.np nq
    · exact (o b hb).2
  · rcases List.mem_cons.mp oa with rfl | oa
    · exact ⟨h0, hq, fun z => nD (.inl (.inr z)), fun j y u n e2 q2 o2 => nD (.inr ⟨h0, j, y, u, e2, q2, o2⟩)⟩
    · refine ⟨s.new i _ _ a e ev oa, (s.hv.grow g).sft a (o a oa).1, s.gdis i _ _ a e ev oa, fun j y u n e2 q2 o2 => n (s.dis j i y _ u _ a e2 q2 o2 e ev oa)⟩
theorem adr_nil {q : Addr} (h : adrAt H v [] = some q) : v = .ref q := by
  cases v with
  | ref a =>
    unfold adrAt at h
    obtain rfl := Option.some.inj h
    rfl
  | _ => unfold adrAt at h; cases h
theorem adr_snoc : ∀ {path : List Nat} {v : V} {j : Nat} {q : Addr}, adrAt H v (path ++ [j]) = some q → ∃ b us w, adrAt H v path = some b ∧ H b = some (.lst us) ∧ us[j]? = some w ∧ w = .ref q
  | [], v, j, q, h => by
    cases v with
    | ref a =>
      unfold adrAt at h
      cases e : H a with
      | none => rw [List.nil_append] at h; simp [adrAt, e] at h
      | some o =>
        cases o with
        | lst us =>
          simp only [List.nil_append, e] at h
          cases e2 : us[j]? with
          | none => rw [e2] at h; cases h
          | some w =>
            rw [e2] at h
            exact ⟨a, us, w, rfl, e, e2, adr_nil h⟩
        | _ => simp [e] at h
    | _ => unfold adrAt at h; cases h
  | i :: path, v, j, q, h => by
    cases v with
    | ref a =>
      rw [List.cons_append] at h
      unfold adrAt at h
      cases e : H a with
      | none => simp [e] at h
      | some o =>
        cases o with
        | lst us =>
          simp only [e] at h
          cases e2 : us[i]? with
          | none => rw [e2] at h; cases h
          | some w =>
            rw [e2] at h
            obtain ⟨b, us2, w2, h1, h2, h3, h4⟩ := adr_snoc (path := path) h
            refine ⟨b, us2, w2, ?_, h2, h3, h4⟩
            unfold adrAt
            simp only [e, e2]
            exact h1
        | _ => simp [e] at h
    | _ => unfold adrAt at h; cases h
theorem subL_snoc : ∀ {path : List Nat} {t : Dt Ob} {j : Nat} {cs : List (Dt Ob)}, subL t (path ++ [j]) = some cs → ∃ ds, subL t path = some ds ∧ ds[j]? = some (.lst cs)
  | [], t, j, cs, h => by
    cases t with
    | lst ds =>
      rw [List.nil_append] at h
      unfold subL at h
      cases e : ds[j]? with
      | none => rw [e] at h; cases h
      | some d =>
        rw [e] at h
        cases d with
        | lst xs => obtain rfl := Option.some.inj h; exact ⟨ds, rfl, e⟩
        | _ => cases h
    | _ => cases h
  | i :: path, t, j, cs, h => by
    cases t with
    | lst ds =>
      rw [List.cons_append] at h
      unfold subL at h
      cases e : ds[i]? with
      | none => rw [e] at h; cases h
      | some d =>
        rw [e] at h
        obtain ⟨xs, h1, h2⟩ := subL_snoc (path := path) h
        refine ⟨xs, ?_, h2⟩
        unfold subL
        rw [e]
        exact h1
    | _ => cases h
/-! the list that stands at x[k1][k2].. -/
def tIxs (K : Frag) (te : TE) : List TE → TE
  | [] => te
  | tk :: r => tIxs K (tOp (rIxL K) te tk) r
def pIxs : List (PTE Ob) → PEnv Ob → Dt Ob → List Nat → (List Nat → Prop) → Prop
  | [], _, _, path, Q => Q path
  | pk :: r, env, t, path, Q => pk (shE env) fun _ x => ∃ k j ds cs, x = .int k ∧ subL t path = some ds ∧ ixN ds.length k = some j ∧ ds[j]? = some (.lst cs) ∧ pIxs r env t (path ++ [j]) Q
/-- te gives the list at one of these paths -/
def Runs (W : Wd Ob) (C : Ct) (env : PEnv Ob) (i : Nat) (σ : L2.St) (H : Hp) (te : TE) (P : List Nat → Prop) : Prop := ∀ Q : VK, (∀ H' v q path, P path → StS W C σ H' env → Grow C.p H H' → σ[i]? = some (some v) → adrAt H' v path = some q → Q (.ref q) H') → te σ H Q
theorem adr_grow (s : StS W C σ H env) (e : env[i]? = some (.deep O true t)) (g : Grow C.p H H') {path : List Nat} {q : Addr} {v : V} (ev : σ[i]? = some (some v)) (es : ∃ ds, subL t path = some ds) (h : adrAt H v path = some q) : adrAt H' v path = some q := by
  obtain ⟨ds, es⟩ := es
  obtain ⟨v1, q1, _, _, _, e1, a1, _⟩ := (s.grow g).store e es
  obtain ⟨v2, q2, us, _, _, e2, a2, hq2, _, _, _, _, _, qO, iO, _⟩ := s.store e es
  rw [e1] at e2
  obtain rfl := Option.some.inj (Option.some.inj e2)
  rw [e1] at ev
  obtain rfl := Option.some.inj (Option.some.inj ev)
  rw [h] at a2
  obtain rfl := Option.some.inj a2
  -- the same address
  have key : ∀ {path : List Nat} {v : V} {t : Dt Ob} {O1 : List Addr} {q : Addr}, RM W C.p (DOf C σ env) H true O1 v t → (∀ b ∈ O1, b ∈ O) → adrAt H v path = some q → (∃ ds, subL t path = some ds) → adrAt H' v path = some q := by
    intro path
    induction path with
    | nil => intro v t O1 q r io h _; rw [adr_nil h]; rfl
    | cons j path ih =>
      intro v t O1 q r io h ⟨ds, es⟩
      cases r with
      | @lst O2 a us xs h1 rr n =>
        unfold adrAt at h ⊢
        have k1 := g.keep _ _ ((s.deep e).choose_spec.choose_spec.2.2.2 _ (io _ List.mem_cons_self)).2 h1
        rw [h1] at h
        rw [k1]
        change (match us[j]? with | some v => adrAt H v path | none => none) = some _ at h
        show (match us[j]? with | some v => adrAt H' v path | none => none) = some _
        cases e2 : us[j]? with
        | none => rw [e2] at h; cases h
        | some w =>
          simp only [e2] at h ⊢
          unfold subL at es
          cases ex : xs[j]? with
          | none => rw [ex] at es; cases es
          | some x =>
            rw [ex] at es
            obtain ⟨w2, Oj, f1, rj, ij, _⟩ := rr.split ex
            rw [e2] at f1
            obtain rfl := Option.some.inj f1
            exact ih rj (fun b hb => io b (List.mem_cons_of_mem _ (ij b hb))) h ⟨ds, es⟩
      | cl c r =>
        cases r with
        | lst _ _ => have := c rfl; cases this
        | _ => cases es
      | tup _ _ => cases es
  obtain ⟨v0, O0, f0, r0, i0, _⟩ := s.deep e
  rw [e1] at f0
  obtain rfl := Option.some.inj (Option.some.inj f0)
  exact key r0 i0 h ⟨ds, es⟩
theorem RMs.append {D : Addr → Prop} {p : Option Addr} : ∀ {O O' : List Addr} {us vs : List V} {ds es : List (Dt Ob)}, RMs W p D H true O us ds → RMs W p D H true O' vs es → (∀ b ∈ O, b ∉ O') → RMs W p D H true (O ++ O') (us ++ vs) (ds ++ es)
  | _, _, _, _, _, _, .nil, h, _ => h
  | _, O', _, _, _, _, .cons (O := Oa) (O' := Ob') r t n, h, k => by
    rw [List.append_assoc]
    refine .cons r (RMs.append t h fun b m => k b (List.mem_append_right _ m)) fun b m z => ?_
    rcases List.mem_append.mp z with z | z
    · exact n b m z
    · exact k b (List.mem_append_left _ m) z
theorem RMs.put {D : Addr → Prop} {p : Option Addr} {v : V} {d : Dt Ob} {O' : List Addr} (h : RM W p D H true O' v d) : ∀ {O : List Addr} {us : List V} {ds : List (Dt Ob)} (j : Nat), RMs W p D H true O us ds → (∀ b ∈ O', b ∉ O) → ∃ O2, RMs W p D H true O2 (us.set j v) (ds.set j d) ∧ ∀ b ∈ O2, b ∈ O ∨ b ∈ O'
  | _, _, _, _, .nil, _ => ⟨[], .nil, fun b m => .inl m⟩
  | _, _, _, 0, .cons (O := Oa) (O' := Ob') r t n, k => ⟨O' ++ Ob', .cons h t fun b m z => k b m (List.mem_append_right _ z), fun b m => by
      rcases List.mem_append.mp m with m | m
      · exact .inr m
      · exact .inl (List.mem_append_right _ m)⟩
  | _, _, _, j + 1, .cons (O := Oa) (O' := Ob') r t n, k => by
    obtain ⟨O2, r2, i2⟩ := RMs.put h j t fun b m z => k b m (List.mem_append_right _ z)
    refine ⟨Oa ++ O2, .cons r r2 fun b m z => ?_, fun b m => ?_⟩
    · rcases i2 b z with z | z
      · exact n b m z
      · exact k b z (List.mem_append_left _ m)
    · rcases List.mem_append.mp m with m | m
      · exact .inl (List.mem_append_left _ m)
      · exact (i2 b m).imp (List.mem_append_right _) id
theorem RMs.dropLast {D : Addr → Prop} {p : Option Addr} : ∀ {us : List V} {O : List Addr} {ds : List (Dt Ob)}, RMs W p D H true O us ds → ∃ O2, RMs W p D H true O2 us.dropLast ds.dropLast ∧ ∀ b ∈ O2, b ∈ O
  | [], _, _, h => by cases h; exact ⟨[], .nil, fun b m => m⟩
  | [_], _, _, h => by
    cases h with
    | cons r t n => cases t; exact ⟨[], .nil, fun b m => by cases m⟩
  | _ :: w :: us, _, _, h => by
    cases h with
    | @cons Oa Ob' _ _ d _ r t n =>
      obtain ⟨O2, r2, i2⟩ := RMs.dropLast (us := w :: us) t
      cases t with
      | cons r1 t1 n1 =>
        refine ⟨Oa ++ O2, .cons r r2 fun b m z => n b m (i2 b z), fun b m => ?_⟩
        rcases List.mem_append.mp m with m | m
        · exact List.mem_append_left _ m
        · exact List.mem_append_right _ (i2 b m)
theorem subL_snoc' : ∀ {path : List Nat} {t : Dt Ob} {j : Nat} {ds cs : List (Dt Ob)}, subL t path = some ds → ds[j]? = some (.lst cs) → subL t (path ++ [j]) = some cs
  | [], t, j, ds, cs, h, e => by
    cases t with
    | lst xs =>
      obtain rfl := Option.some.inj h
      show subL (.lst xs) [j] = _
      unfold subL
      rw [e]
      rfl
    | _ => cases h
  | i :: path, t, j, ds, cs, h, e => by
    cases t with
    | lst xs =>
      unfold subL at h
      cases ex : xs[i]? with
      | none => rw [ex] at h; cases h
      | some x =>
        rw [ex] at h
        have h2 := subL_snoc' (path := path) h e
        rw [List.cons_append]
        unfold subL
        rw [ex]
        exact h2
    | _ => cases h
/-! paths -/
def SndX (W : Wd Ob) (i : Nat) (px : PEnv Ob → Dt Ob → (List Nat → Prop) → Prop) (tx : TE) : Prop := ∀ (C : Ct) (σ : L2.St) (H : Hp) (env : PEnv Ob) (O : List Addr) (t : Dt Ob) (Q : List Nat → Prop), StS W C σ H env → env[i]? = some (.deep O true t) → px env t Q → Runs W C env i σ H tx Q
def pxv (_ : PEnv Ob) (t : Dt Ob) (Q : List Nat → Prop) : Prop := (∃ ds, t = .lst ds) ∧ Q []
def pxi (px : PEnv Ob → Dt Ob → (List Nat → Prop) → Prop) (pk : PTE Ob) (env : PEnv Ob) (t : Dt Ob) (Q : List Nat → Prop) : Prop := px env t fun path => pk (shE env) fun _ x => ∃ k j ds cs, x = .int k ∧ subL t path = some ds ∧ ixN ds.length k = some j ∧ ds[j]? = some (.lst cs) ∧ Q (path ++ [j])
theorem snd_xv {i : Nat} : SndX W i (pxv (Ob := Ob)) (tVar i) := by
  intro C σ H env O t Q s e ⟨⟨ds, ht⟩, h⟩ Q' k
  subst ht
  obtain ⟨v, O1, ev, r, i1, o⟩ := s.deep e
  refine ⟨v, ev, ?_⟩
  cases r with
  | lst h1 r n => exact k H _ _ [] h s (Grow.refl s.e.hv) ev rfl
  | cl c _ => have := c rfl; cases this
theorem snd_xi {i : Nat} {px : PEnv Ob → Dt Ob → (List Nat → Prop) → Prop} {tx tk : TE} {pk : PTE Ob} (hx : SndX W i px tx) (hk : SndE W pk tk) : SndX W i (pxi px pk) (tOp (rIxL W.K) tx tk) := by
  intro C σ H env O t Q s e h Q' k
  refine hx C σ H env O t _ s e h _ fun H1 v q path hP s1 g1 ev ea => ?_
  refine hk C.p C.B σ H1 (shE env) _ _ s1.shareE hP fun fl d w H2 ⟨kk, j, ds, cs, ex, es, ej, ec, q'⟩ g2 r2 => ?_
  subst ex
  have rv := (r2.rv s1.shareE.hv).int
  subst rv
  have s2 := s1.grow g2
  have a2 := adr_grow s1 e g2 ev ⟨ds, es⟩ ea
  obtain ⟨v3, q3, us3, _, _, ev3, a3, hq3, _⟩ := s2.store e (subL_snoc' es ec)
  rw [ev] at ev3
  obtain rfl := Option.some.inj (Option.some.inj ev3)
  obtain ⟨b, us, w, b1, b2, b3, b4⟩ := adr_snoc a3
  rw [a2] at b1
  obtain rfl := Option.some.inj b1
  obtain ⟨v4, q4, us4, _, _, ev4, a4, hq4, _, len4, _⟩ := s2.store e es
  rw [ev] at ev4
  obtain rfl := Option.some.inj (Option.some.inj ev4)
  rw [a2] at a4
  obtain rfl := Option.some.inj a4
  rw [b2] at hq4
  obtain rfl := Option.some.inj hq4 |> HO.lst.inj
  subst b4
  refine ⟨q, us, kk, .ref q3, rfl, rfl, SqL.of b2, ?_, k H2 v q3 _ q' s2 (g1.trans g2) ev a3⟩
  unfold atI
  rw [len4, ej]
  exact b3
/-! statements -/
abbrev PX (Ob : Type) := PEnv Ob → Dt Ob → (List Nat → Prop) → Prop
def pAppX (i : Nat) (px : PX Ob) (pe : PTE Ob) (pD : PEnds Ob) (env : PEnv Ob) : Prop := ∃ O t, env[i]? = some (.deep O true t) ∧ px env t fun path => ∃ ds, subL t path = some ds ∧ ds.length ≤ 999 ∧ pe (shE env) fun _ d => d.fv.isSome = true ∧ pD.nx (env.set i (.deep O true (putL t path (ds ++ [d]))))
def pExtX (i : Nat) (px : PX Ob) (pe : PTE Ob) (pD : PEnds Ob) (env : PEnv Ob) : Prop := ∃ O t, env[i]? = some (.deep O true t) ∧ px env t fun path => ∃ ds, subL t path = some ds ∧ pe (shE env) fun _ d => ∃ xs, d = .lst xs ∧ (flats xs).isSome = true ∧ ds.length + xs.length ≤ 999 ∧ pD.nx (env.set i (.deep O true (putL t path (ds ++ xs))))
/-- name = x[..].pop(), of a flat value -/
def pPopX (i : Nat) (px : PX Ob) (j : Nat) (pD : PEnds Ob) (env : PEnv Ob) : Prop := ∃ O t, env[i]? = some (.deep O true t) ∧ i ≠ j ∧ px env t fun path => ∃ ds d, subL t path = some ds ∧ ds[ds.length - 1]? = some d ∧ d.fv.isSome = true ∧ pD.nx ((env.set i (.deep O true (putL t path ds.dropLast))).set j (.sh d))
/-- a target x[..][k] -/
def pSetG (i : Nat) (px : PX Ob) (pk : PTE Ob) (O : List Addr) (d : Dt Ob) (env : PEnv Ob) (t : Dt Ob) (Q : PEnv Ob → Dt Ob → Prop) : Prop := px env t fun path => ∃ ds, subL t path = some ds ∧ pk (shE env) fun _ x => ∃ k j, x = .int k ∧ ixN ds.length k = some j ∧ Q (env.set i (.deep O true (putL t path (ds.set j d)))) (putL t path (ds.set j d))
theorem flats_one {d : Dt Ob} {v : V} (e : d.fv = some v) : flats [d] = some [v] := by
  unfold flats
  rw [e]
  rfl
/-- the list at a path, in a heap that has grown -/
theorem StS.atX (s : StS W C σ H env) (e : env[i]? = some (.deep O true t)) {path : List Nat} {v : V} {q : Addr} (ev : σ[i]? = some (some v)) (ea : adrAt H v path = some q) (es : subL t path = some ds) :
    ∃ (us : List V) (Oq O1 : List Addr), H q = some (.lst us) ∧ RMs W C.p (DOf C σ env) H true Oq us ds ∧ us.length = ds.length ∧ q ∉ Oq ∧ (∀ b ∈ Oq, b ∈ O1) ∧ q ∈ O1 ∧ (∀ b ∈ O1, b ∈ O) ∧
      ∀ (us' : List V) (ds' : List (Dt Ob)) (O' : List Addr), RMs W C.p (DOf C σ env) (upd H q (.lst us')) true O' us' ds' → (∀ b ∈ O', b ∈ Oq) → StS W C σ (upd H q (.lst us')) (env.set i (.deep O true (putL t path ds'))) := by
  obtain ⟨v4, q4, us4, Oq, O1, ev4, a4, hq4, rq, len4, nq, _, iq, q1, i1, up⟩ := s.store e es
  rw [ev] at ev4
  obtain rfl := Option.some.inj (Option.some.inj ev4)
  rw [ea] at a4
  obtain rfl := Option.some.inj a4
  exact ⟨us4, Oq, O1, hq4, rq, len4, nq, iq, q1, i1, fun us' ds' O' r i' => up us' ds' O' r [] (fun b m => by cases m) (fun b m => by cases m) fun b m => .inl (i' b m)⟩
theorem RMs.keep {D : Addr → Prop} {p : Option Addr} {q : Addr} {x : HO} {Oq : List Addr} (r : RMs W p D H true Oq us ds) (dq : D q) (nq : q ∉ Oq) : RMs W p D (upd H q x) true Oq us ds :=
  r.mono (by rw [hide_upd_in dq]; exact Same.refl _) fun b m u z => by rw [upd_ne (show b ≠ q from fun h => nq (by rw [← h]; exact m))]; exact z
theorem fv_ex {d : Dt Ob} (h : d.fv.isSome = true) : ∃ v, d.fv = some v := Option.isSome_iff_exists.mp h
theorem snd_appX {i : Nat} {px : PX Ob} {tx te : TE} {pe : PTE Ob} (hx : SndX W i px tx) (he : SndE W pe te) : SndS W (pAppX i px pe) (tDrop (tBM W.K "list" rAppend tx (tCons te tNil))) := by
  intro C pD D σ H env s h k
  obtain ⟨O, t, e, h⟩ := h
  refine hx C σ H env O t _ s e h _ fun H1 v q path ⟨ds, es, el, hP⟩ s1 g1 ev ea => ?_
  refine ⟨?_, ?_⟩
  · obtain ⟨us, _, _, hq, _⟩ := s1.atX e ev ea es
    exact .inl ⟨rfl, us, SqL.of hq⟩
  refine he C.p C.B σ H1 (shE env) _ _ s1.shareE hP fun fl d w H2 ⟨ew, q'⟩ g2 r2 => ?_
  obtain ⟨w', ew⟩ := fv_ex ew
  obtain rfl := (r2.rv s1.shareE.hv).fv ew
  have s2 := s1.grow g2
  obtain ⟨us, Oq, O1, hq, rq, len, nq, iq, q1, i1, up⟩ := s2.atX e ev (adr_grow s1 e g2 ev ⟨ds, es⟩ ea) es
  obtain ⟨v0, O0, ev0, _, _, oo⟩ := s2.deep e
  refine ⟨q, us, w, rfl, rfl, hq, ?_, k.nx _ _ _ (up (us ++ [w]) (ds ++ [d]) (Oq ++ []) ((rq.keep (oo q (i1 q q1)).1 nq).append (RMs.flat (flats_one ew)) fun _ _ m => by cases m) fun b m => by rw [List.append_nil] at m; exact m) q'⟩
  rw [len]
  exact Nat.lt_of_le_of_lt el (by decide)
theorem snd_extX {i : Nat} {px : PX Ob} {tx te : TE} {pe : PTE Ob} (hx : SndX W i px tx) (he : SndE W pe te) : SndS W (pExtX i px pe) (tDrop (tBM W.K "list" rExtend tx (tCons te tNil))) := by
  intro C pD D σ H env s h k
  obtain ⟨O, t, e, h⟩ := h
  refine hx C σ H env O t _ s e h _ fun H1 v q path ⟨ds, es, hP⟩ s1 g1 ev ea => ?_
  refine ⟨?_, ?_⟩
  · obtain ⟨us, _, _, hq, _⟩ := s1.atX e ev ea es
    exact .inl ⟨rfl, us, SqL.of hq⟩
  refine he C.p C.B σ H1 (shE env) _ _ s1.shareE hP fun fl d w H2 ⟨xs, ed, ew, el, q'⟩ g2 r2 => ?_
  obtain ⟨ws, ew⟩ := Option.isSome_iff_exists.mp ew
  subst ed
  obtain ⟨b, zs, rfl, hb, rb⟩ := (r2.rv s1.shareE.hv).lst
  obtain rfl := rb.flats ew
  have s2 := s1.grow g2
  obtain ⟨us, Oq, O1, hq, rq, len, nq, iq, q1, i1, up⟩ := s2.atX e ev (adr_grow s1 e g2 ev ⟨ds, es⟩ ea) es
  obtain ⟨v0, O0, ev0, _, _, oo⟩ := s2.deep e
  refine ⟨q, b, us, zs, rfl, rfl, hq, hb, ?_, k.nx _ _ _ (up (us ++ zs) (ds ++ xs) (Oq ++ []) ((rq.keep (oo q (i1 q q1)).1 nq).append (RMs.flat ew) fun _ _ m => by cases m) fun b m => by rw [List.append_nil] at m; exact m) q'⟩
  rw [len, rb.length]
  exact Nat.le_of_lt (Nat.lt_of_le_of_lt el (by decide))
theorem snd_popX {i j : Nat} {px : PX Ob} {tx : TE} (hx : SndX W i px tx) : SndS W (pPopX i px j) (tAsg (tBM0 W.K "list" rPop tx) (gName j)) := by
  intro C pD D σ H env s h k
  obtain ⟨O, t, e, n, h⟩ := h
  refine hx C σ H env O t _ s e h _ fun H1 v q path ⟨ds, d, es, ed, ef, hP⟩ s1 g1 ev ea => ?_
  obtain ⟨us, Oq, O1, hq, rq, len, nq, iq, q1, i1, up⟩ := s1.atX e ev ea es
  obtain ⟨v0, O0, ev0, _, _, oo⟩ := s1.deep e
  refine ⟨.inl ⟨rfl, us, SqL.of hq⟩, ?_⟩
  obtain ⟨w, ew⟩ := fv_ex ef
  obtain ⟨w', Oj, e1, rj, _, _⟩ := rq.split ed
  obtain rfl : w' = w := by
    cases rj with
    | cl _ r => exact (RV.cl r).fv ew
    | lst _ _ _ => cases ew
    | tup _ _ => cases ew
  obtain ⟨O2, r2, i2⟩ := (rq.keep (x := .lst us.dropLast) (oo q (i1 q q1)).1 nq).dropLast
  refine ⟨q, us, w', rfl, rfl, hq, by rw [len]; exact e1, k.nx _ _ _ ((up us.dropLast ds.dropLast O2 r2 i2).setSh (R0.of_fv ew)) hP⟩
theorem snd_setG {i : Nat} {px : PX Ob} {pk : PTE Ob} {tx tk : TE} (hx : SndX W i px tx) (hk : SndE W pk tk) {Qp : PEnv Ob → Dt Ob → Prop} {v : V} {Q : L2.St → Hp → Prop}
    (s : StS W C σ H env) (e : env[i]? = some (.deep O true t)) (ed : d.fv = some v) (h : pSetG i px pk O d env t Qp) (k : ∀ H' t', Qp (env.set i (.deep O true t')) t' → StS W C σ H' (env.set i (.deep O true t')) → Q σ H') : gSub tx tk rSetL v σ H Q := by
  refine hx C σ H env O t _ s e h _ fun H1 v1 q path ⟨ds, es, hP⟩ s1 g1 ev ea => ?_
  refine hk C.p C.B σ H1 (shE env) _ _ s1.shareE hP fun fl x w H2 ⟨kk, j, ex, ej, q'⟩ g2 r2 => ?_
  subst ex
  obtain rfl := (r2.rv s1.shareE.hv).int
  have s2 := s1.grow g2
  obtain ⟨us, Oq, O1, hq, rq, len, nq, iq, q1, i1, up⟩ := s2.atX e ev (adr_grow s1 e g2 ev ⟨ds, es⟩ ea) es
  obtain ⟨v0, O0, ev0, _, _, oo⟩ := s2.deep e
  have hf : d.isL = false := by cases d <;> first | rfl | cases ed
  obtain ⟨O2, r2, i2⟩ := RMs.put (.cl (fun _ => hf) (R0.of_fv ed)) j (rq.keep (x := .lst (us.set j v)) (oo q (i1 q q1)).1 nq) fun _ m => by cases m
  exact ⟨q, us, kk, j, rfl, rfl, hq, by rw [len]; exact ej, k _ _ q' (up _ _ O2 r2 fun b m => (i2 b m).elim id fun z => by cases z)⟩
theorem envSet {x : PV Ob} {y : PV Ob} (e : env[i]? = some x) : (env.set i y)[i]? = some y := List.getElem?_set_self (List.getElem?_eq_some_iff.mp e).1
theorem shE_deep {O' : List Addr} (e : env[i]? = some (.deep O true t)) : shE (env.set i (.deep O' true t)) = shE env := by
  unfold shE
  rw [List.map_set]
  apply List.ext_getElem?
  intro k
  by_cases z : k = i
  · subst z
    rw [List.getElem?_set_self (by rw [List.length_map]; exact (List.getElem?_eq_some_iff.mp e).1), List.getElem?_map, e]
    rfl
  · rw [List.getElem?_set_ne (Ne.symm z)]
def pSetX (i : Nat) (px : PX Ob) (pk pe : PTE Ob) (pD : PEnds Ob) (env : PEnv Ob) : Prop := ∃ O t, env[i]? = some (.deep O true t) ∧ pe (shE env) fun _ d => d.fv.isSome = true ∧ pSetG i px pk O d env t fun env' _ => pD.nx env'
def pSet2X (i : Nat) (px1 : PX Ob) (pk1 : PTE Ob) (px2 : PX Ob) (pk2 pe1 pe2 : PTE Ob) (pD : PEnds Ob) (env : PEnv Ob) : Prop := ∃ O t, env[i]? = some (.deep O true t) ∧ pe1 (shE env) fun _ d1 => pe2 (shE env) fun _ d2 => d1.fv.isSome = true ∧ d2.fv.isSome = true ∧ pSetG i px1 pk1 O d1 env t fun env' t' => pSetG i px2 pk2 O d2 env' t' fun env2 _ => pD.nx env2
theorem snd_setX {i : Nat} {px : PX Ob} {pk pe : PTE Ob} {tx tk te : TE} (hx : SndX W i px tx) (hk : SndE W pk tk) (he : SndE W pe te) : SndS W (pSetX i px pk pe) (tAsg te (gSub tx tk rSetL)) := by
  intro C pD D σ H env s h k
  obtain ⟨O, t, e, h⟩ := h
  refine he C.p C.B σ H (shE env) _ _ s.shareE h fun fl d v H1 ⟨ef, q⟩ g1 r1 => ?_
  obtain ⟨w, ew⟩ := fv_ex ef
  obtain rfl := (r1.rv s.shareE.hv).fv ew
  exact snd_setG hx hk (s.grow g1) e ew q fun H' t' q' s' => k.nx _ _ _ s' q'
theorem snd_set2X {i : Nat} {px1 px2 : PX Ob} {pk1 pk2 pe1 pe2 : PTE Ob} {tx1 tk1 tx2 tk2 te1 te2 : TE} (hx1 : SndX W i px1 tx1) (hk1 : SndE W pk1 tk1) (hx2 : SndX W i px2 tx2) (hk2 : SndE W pk2 tk2) (he1 : SndE W pe1 te1) (he2 : SndE W pe2 te2) :
    SndS W (pSet2X i px1 pk1 px2 pk2 pe1 pe2) (tAsg (tTup (tCons te1 (tCons te2 tNil))) (gTup W.K 2 (gCons (gSub tx1 tk1 rSetL) (gCons (gSub tx2 tk2 rSetL) gNil)))) := by
  intro C pD D σ H env s h k
  obtain ⟨O, t, e, h⟩ := h
  refine he1 C.p C.B σ H (shE env) _ _ s.shareE h fun fl d1 v1 H1 h g1 r1 => ?_
  have s1 := s.grow g1
  refine he2 C.p C.B σ H1 (shE env) _ _ s1.shareE h fun fl d2 v2 H2 ⟨ef1, ef2, q⟩ g2 r2 => ?_
  obtain ⟨w1, ew1⟩ := fv_ex ef1
  obtain ⟨w2, ew2⟩ := fv_ex ef2
  obtain rfl := (r1.rv s.shareE.hv).fv ew1
  obtain rfl := (r2.rv s1.shareE.hv).fv ew2
  have s2 := s1.grow g2
  refine ⟨by show 2 ≤ sizeLine; decide, fun a na => ?_⟩
  have s3 := s2.grow (Grow.new s2.e.hv (o := .tup [v1, v2]) na)
  refine ⟨a, [v1, v2], rfl, SqT.of upd_same, rfl, v1, [v2], rfl, ?_⟩
  refine snd_setG hx1 hk1 s3 e ew1 q fun H' t' q' s' => ?_
  refine ⟨v2, [], rfl, ?_⟩
  exact snd_setG hx2 hk2 s' (envSet e) ew2 q' fun H' t' q' s' => ⟨rfl, k.nx _ _ _ s' q'⟩
def pParF (i j : Nat) (pa pb : PTE Ob) (pD : PEnds Ob) (env : PEnv Ob) : Prop := pa (shE env) fun _ d1 => pb (shE env) fun _ d2 => d1.fv.isSome = true ∧ d2.fv.isSome = true ∧ pD.nx ((env.set i (.sh d1)).set j (.sh d2))
theorem snd_parF {i j : Nat} {pa pb : PTE Ob} {ta tb : TE} (ha : SndE W pa ta) (hb : SndE W pb tb) : SndS W (pParF i j pa pb) (tPar i j (tCons ta (tCons tb tNil))) := by
  intro C pD D σ H env s h k
  refine ha C.p C.B σ H (shE env) _ _ s.shareE h fun fl d1 v1 H1 h g1 r1 => ?_
  have s1 := s.grow g1
  refine hb C.p C.B σ H1 (shE env) _ _ s1.shareE h fun fl d2 v2 H2 ⟨ef1, ef2, q⟩ g2 r2 => ?_
  obtain ⟨w1, ew1⟩ := fv_ex ef1
  obtain ⟨w2, ew2⟩ := fv_ex ef2
  obtain rfl := (r1.rv s.shareE.hv).fv ew1
  obtain rfl := (r2.rv s1.shareE.hv).fv ew2
  exact ⟨v1, v2, rfl, k.nx _ _ _ (((s1.grow g2).setSh (R0.of_fv ew1)).setSh (R0.of_fv ew2)) q⟩
/-! a new flat list is stored -/
theorem snd_setGL {i : Nat} {px : PX Ob} {pk : PTE Ob} {tx tk : TE} (hx : SndX W i px tx) (hk : SndE W pk tk) {Qp : PEnv Ob → Dt Ob → Prop} {q : Addr} {us0 : List V} {ds0 : List (Dt Ob)} {v : V} {O1 : List Addr} {Q : L2.St → Hp → Prop}
    (s : StS W C σ H env) (e : env[i]? = some (.deep (q :: O) true t)) (ev : σ[i]? = some (some v)) (i1 : ∀ b ∈ O1, b ∈ O) (nO : q ∉ O) (r : RM W C.p (DOf C σ env) H true O1 v t) (hq : H q = some (.lst us0)) (ef : flats ds0 = some us0)
    (h : pSetG i px pk (q :: O) (.lst ds0) env t Qp) (k : ∀ H' t', Qp (env.set i (.deep (q :: O) true t')) t' → StS W C σ H' (env.set i (.deep (q :: O) true t')) → Q σ H') : gSub tx tk rSetL (.ref q) σ H Q := by
  refine hx C σ H env (q :: O) t _ s e h _ fun H1 v1 q1 path ⟨ds, es, hP⟩ s1 g1 ev1 ea => ?_
  rw [ev] at ev1
  obtain rfl := Option.some.inj (Option.some.inj ev1)
  refine hk C.p C.B σ H1 (shE env) _ _ s1.shareE hP fun fl x w H2 ⟨kk, j, ex, ej, q'⟩ g2 r2 => ?_
  subst ex
  obtain rfl := (r2.rv s1.shareE.hv).int
  have s2 := s1.grow g2
  have g12 := g1.trans g2
  obtain ⟨v0, O0, ev0, _, _, oo⟩ := s.deep e
  have rr := r.mono (g12.hide s.hv) fun b m u z => g12.keep b u (oo b (List.mem_cons_of_mem _ (i1 b m))).2 z
  obtain ⟨q2, us, Oq, a2, m2, h2, rq, nq, iq, up⟩ := rr.focus (fun b m => (oo b (List.mem_cons_of_mem _ (i1 b m))).1) es
  rw [adr_grow s1 e g2 ev ⟨ds, es⟩ ea] at a2
  obtain rfl := Option.some.inj a2
  have nqO : q ∉ O1 := fun z => nO (i1 q z)
  have ne : q ≠ q1 := fun z => nqO (by rw [z]; exact m2)
  have rn : RM W C.p (DOf C σ env) (upd H2 q1 (.lst (us.set j (.ref q)))) true [q] (.ref q) (.lst ds0) := .lst (O := []) (by rw [upd_ne ne]; exact g12.keep q _ (oo q List.mem_cons_self).2 hq) (RMs.flat ef) fun m => by cases m
  obtain ⟨O2, r3, i3⟩ := RMs.put rn j (rq.keep (oo q1 (List.mem_cons_of_mem _ (i1 q1 m2))).1 nq) fun b m z => by
    obtain rfl : b = q := by simpa using m
    exact nqO (iq b z)
  obtain ⟨O3, r4, i4⟩ := up _ _ O2 r3 [q] (fun b m z => by
    obtain rfl : b = q := by simpa using m
    exact nqO z) i3
  refine ⟨q1, us, kk, j, rfl, rfl, h2, by rw [rq.length]; exact ej, k _ _ q' ?_⟩
  exact s2.mutW (x' := .deep (q :: O) true (putL t path (ds.set j (.lst ds0)))) e (fun _ _ => Iff.rfl) ev (show q1 ∈ q :: O from List.mem_cons_of_mem _ (i1 q1 m2)) (.inl ⟨_, rfl⟩) ⟨v, O3, rfl, r4, fun b m => (i4 b m).elim (fun z => List.mem_cons_of_mem _ (i1 b z)) (fun z => by
    obtain rfl : b = q := by simpa using z
    exact List.mem_cons_self), fun b m => oo b m⟩
def pSetXL (i : Nat) (px : PX Ob) (pk pe : PTE Ob) (pD : PEnds Ob) (env : PEnv Ob) : Prop := ∃ O t, env[i]? = some (.deep O true t) ∧ pe (shE env) fun fl d => fl = .fr ∧ ∃ ds, d = .lst ds ∧ (flats ds).isSome = true ∧ ∀ q, pSetG i px pk (q :: O) d (env.set i (.deep (q :: O) true t)) t fun env' _ => pD.nx env'
def pSet2XL (i : Nat) (px1 : PX Ob) (pk1 : PTE Ob) (px2 : PX Ob) (pk2 pe1 pe2 : PTE Ob) (pD : PEnds Ob) (env : PEnv Ob) : Prop := ∃ O t, env[i]? = some (.deep O true t) ∧ pe1 (shE env) fun fl d => fl = .fr ∧ ∃ ds, d = .lst ds ∧ (flats ds).isSome = true ∧ pe2 (shE env) fun _ d2 => d2.fv.isSome = true ∧
  ∀ q, pSetG i px1 pk1 (q :: O) d (env.set i (.deep (q :: O) true t)) t fun env' t' => pSetG i px2 pk2 (q :: O) d2 env' t' fun env2 _ => pD.nx env2
theorem snd_setXL {i : Nat} {px : PX Ob} {pk pe : PTE Ob} {tx tk te : TE} (hx : SndX W i px tx) (hk : SndE W pk tk) (he : SndE W pe te) : SndS W (pSetXL i px pk pe) (tAsg te (gSub tx tk rSetL)) := by
  intro C pD D σ H env s h k
  obtain ⟨O, t, e, h⟩ := h
  refine he C.p C.B σ H (shE env) _ _ s.shareE h fun fl d v H1 ⟨efl, ds, ed, ef, q⟩ g1 r1 => ?_
  subst efl ed
  obtain ⟨us', ef⟩ := Option.isSome_iff_exists.mp ef
  obtain ⟨a, us, rfl, na, ha, ra⟩ := r1
  obtain rfl := ra.flats ef
  obtain ⟨s1, v, O1, ev, i1, nO, r⟩ := s.takeIn e g1 na (.lst ha)
  exact snd_setGL hx hk s1 (envSet e) ev i1 nO r ha ef (q a) fun H' t' q' s' => k.nx _ _ _ s' q'
theorem snd_set2XL {i : Nat} {px1 px2 : PX Ob} {pk1 pk2 pe1 pe2 : PTE Ob} {tx1 tk1 tx2 tk2 te1 te2 : TE} (hx1 : SndX W i px1 tx1) (hk1 : SndE W pk1 tk1) (hx2 : SndX W i px2 tx2) (hk2 : SndE W pk2 tk2) (he1 : SndE W pe1 te1) (he2 : SndE W pe2 te2) :
    SndS W (pSet2XL i px1 pk1 px2 pk2 pe1 pe2) (tAsg (tTup (tCons te1 (tCons te2 tNil))) (gTup W.K 2 (gCons (gSub tx1 tk1 rSetL) (gCons (gSub tx2 tk2 rSetL) gNil)))) := by
  intro C pD D σ H env s h k
  obtain ⟨O, t, e, h⟩ := h
  refine he1 C.p C.B σ H (shE env) _ _ s.shareE h fun fl d v H1 ⟨efl, ds, ed, ef, h⟩ g1 r1 => ?_
  subst efl ed
  obtain ⟨us', ef⟩ := Option.isSome_iff_exists.mp ef
  obtain ⟨a, us, rfl, na, ha, ra⟩ := r1
  obtain rfl := ra.flats ef
  obtain ⟨s1, v, O1, ev, i1, nO, r⟩ := s.takeIn e g1 na (.lst ha)
  rw [← shE_deep (O' := a :: O) e] at h
  refine he2 C.p C.B σ H1 _ _ _ s1.shareE h fun fl d2 v2 H2 ⟨ef2, q⟩ g2 r2 => ?_
  obtain ⟨w2, ew2⟩ := fv_ex ef2
  obtain rfl := (r2.rv s1.shareE.hv).fv ew2
  have s2 := s1.grow g2
  refine ⟨by show 2 ≤ sizeLine; decide, fun b nb => ?_⟩
  have g3 := Grow.new s2.e.hv (o := .tup [.ref a, v2]) nb
  have g23 := g2.trans g3
  have s3 := s1.grow g23
  obtain ⟨_, _, _, _, _, oo⟩ := s1.deep (envSet e)
  refine ⟨b, [.ref a, v2], rfl, SqT.of upd_same, rfl, .ref a, [v2], rfl, ?_⟩
  refine snd_setGL hx1 hk1 s3 (envSet e) ev i1 nO (r.mono (g23.hide s1.hv) fun b m u z => g23.keep b u (oo b (List.mem_cons_of_mem _ (i1 b m))).2 z) (g23.keep a _ (oo a List.mem_cons_self).2 ha) ef (q a) fun H' t' q' s' => ?_
  refine ⟨v2, [], rfl, ?_⟩
  exact snd_setG hx2 hk2 s' (envSet (envSet e)) ew2 q' fun H' t' q' s' => ⟨rfl, k.nx _ _ _ s' q'⟩
end
end Pu
/-! ### fields of own objects, over trees -/
namespace Pu
open PySem PySem.W PySem.Spec PyProof.Rows L2 Gk
section
variable {Ob : Type}
def pFld (fo : Ob → Option (Dt Ob)) (pe : PTE Ob) (env : PEnv Ob) (Q : PQ Ob) : Prop := pe env fun _ d => ∃ x y, d = .ob x ∧ fo x = some y ∧ Q .cl y
/-- what the field f holds, of the objects that fo knows -/
def FldOk (W : Wd Ob) (f : Str) (fo : Ob → Option (Dt Ob)) : Prop := ∀ p H v x y, W.rep H v x → fo x = some y → ∃ a C dx fs u, v = .ref a ∧ H a = some (.ins C dx fs) ∧ Cls W.K C ∧ NoAttr W.K C f ∧ fs.lookup f = some u ∧ R0 (W.at nz) p H u y
end
section
variable {Ob : Type} {W : Wd Ob} {pe : PTE Ob} {te : TE} {f : Str} {fo : Ob → Option (Dt Ob)}
theorem snd_fld {z : Addr → Prop} (hz : noZ z) (ok : FldOk W f fo) (he : SndE (W.at z) pe te) : SndE (W.at z) (pFld fo pe) (tFld W.K te f) := by
  subst hz
  intro p D σ H env Qp Q st h k
  refine he p D σ H env _ _ st h fun fl d v H1 ⟨x, y, e, o, h1⟩ g1 r1 => ?_
  subst e
  have rc := r1.obc
  have rp : W.rep (hide D H1) v x := by
    cases rc with
    | ob h =>
      rw [show (W.at nz).fz = nz from rfl, thaw_none] at h
      exact h
  obtain ⟨a, C, dx, fs, u, rfl, ea, c, n, l, ru⟩ := ok p _ v x y rp o
  exact ⟨a, C, dx, fs, u, rfl, (hide_some ea).2, c, n, l, k _ _ _ _ h1 g1 ru⟩
end
end Pu
/-! ### a flat item is taken off a list of one's own, within a statement -/
namespace Pu
open PySem PySem.W PySem.Spec PyProof.Rows L2 Gk
section
variable {Ob : Type} {W : Wd Ob} {C : Ct} {H H' : Hp} {v : V} {d : Dt Ob} {σ : L2.St} {env : PEnv Ob} {i j k : Nat}
theorem snd_cv {y : V} (h : d.fv = some y) : SndE W (pC d) (tC y) := by
  intro p D σ H env Qp Q st hp k
  exact k _ _ _ H hp (Grow.refl st.hv) (show R0 W p (hide D H) y d from R0.of_fv h)
def pHoist (k : Nat) (ps : Dt Ob → PTS Ob) (pD : PEnds Ob) (env : PEnv Ob) : Prop := ∃ ds d, env[k]? = some (.own ds) ∧ ds[ds.length - 1]? = some d ∧ d.fv.isSome = true ∧ ps d pD (env.set k (.own ds.dropLast))
def Hoist (k : Nat) (t : TS) (t' : V → TS) : Prop := ∀ (D : Ends) (σ : L2.St) (H : Hp) (l : Addr) (xs : List V) (y : V), σ[k]? = some (some (.ref l)) → H l = some (.lst xs) → xs[xs.length - 1]? = some y → t' y D σ (upd H l (.lst xs.dropLast)) → t D σ H
theorem RA.dropL {p : Option Addr} : ∀ {us : List V} {ds : List (Dt Ob)}, RA W p H us ds → RA W p H us.dropLast ds.dropLast
  | _, _, .nil => .nil
  | _, _, .cons _ .nil => .nil
  | _, _, .cons r (.cons r2 t) => .cons r (RA.dropL (.cons r2 t))
theorem snd_hoist {t : TS} {t' : V → TS} {ps : Dt Ob → PTS Ob} (hh : Hoist k t t') (hs : ∀ d y, d.fv = some y → SndS W (ps d) (t' y)) : SndS W (pHoist k ps) t := by
  intro C pD D σ H env s h kk
  obtain ⟨ds, d, e, el, ef, h⟩ := h
  obtain ⟨w, ew, a, us, rfl, da, pa, ha, r⟩ := s.e.get e
  obtain ⟨y, ey⟩ := Option.isSome_iff_exists.mp ef
  obtain ⟨y', e1, r1⟩ := RA.get r el
  obtain rfl := (RV.cl r1).fv ey
  refine hh D σ H a us y' ew ha (by rw [r.length]; exact e1) ?_
  refine hs d y' ey C pD D σ _ _ (s.mutW (x' := .own ds.dropLast) e (fun _ _ => Iff.rfl) ew rfl (.inl ⟨_, rfl⟩) ⟨a, us.dropLast, rfl, da, pa, upd_same, ?_⟩) h kk
  rw [hide_upd_in da]
  exact r.dropL
theorem tyV_pop {K : Frag} {x : V} {l : Addr} {xs ys : List V} (hl : H l = some (.lst xs)) (h : tyV K "list" x (upd H l (.lst ys))) : tyV K "list" x H := by
  cases x with
  | ref a =>
    rcases h with ⟨_, zs, h⟩ | ⟨h, _⟩ | ⟨h, _⟩ | ⟨h, _⟩
    · by_cases e : a = l
      · subst e
        exact .inl ⟨rfl, xs, SqL.of hl⟩
      · refine .inl ⟨rfl, zs, ?_⟩
        rcases h with (h | ⟨u, h⟩) | h
        · exact .inl (.inl (by rw [upd_ne e] at h; exact h))
        · exact .inl (.inr ⟨u, by rw [upd_ne e] at h; exact h⟩)
        · exact .inr h
    · exact absurd h (by decide)
    · exact absurd h (by decide)
    · exact absurd h (by decide)
  | str _ => exact absurd (show ("list" : String) = "str" from h) (by decide)
  | int _ => exact absurd (show ("list" : String) = "int" from h) (by decide)
  | _ => exact h.elim
theorem hoist_par {K : Frag} : Hoist k (tPar i j (tCons (tBM0 K "list" rPop (tVar k)) (tCons (tLst tNil) tNil))) (fun y => tPar i j (tCons (tC y) (tCons (tLst tNil) tNil))) := by
  intro D σ H l xs y e h ey q
  exact ⟨_, e, .inl ⟨rfl, xs, SqL.of h⟩, l, xs, y, rfl, rfl, h, ey, q⟩
theorem hoist_app {K : Frag} : Hoist k (tDrop (tBM K "list" rAppend (tVar i) (tCons (tBM0 K "list" rPop (tVar k)) tNil))) (fun y => tDrop (tBM K "list" rAppend (tVar i) (tCons (tC y) tNil))) := by
  intro D σ H l xs y e h ey q
  obtain ⟨v, e1, ty, q⟩ := q
  exact ⟨v, e1, tyV_pop h ty, _, e, .inl ⟨rfl, xs, SqL.of h⟩, l, xs, y, rfl, rfl, h, ey, q⟩
theorem hoist_app4 {K : Frag} {a b c : Nat} : Hoist k (tDrop (tBM K "list" rAppend (tVar i) (tCons (tLst (tCons (tVar a) (tCons (tVar b) (tCons (tBM0 K "list" rPop (tVar k)) (tCons (tVar c) tNil))))) tNil)))
    (fun y => tDrop (tBM K "list" rAppend (tVar i) (tCons (tLst (tCons (tVar a) (tCons (tVar b) (tCons (tC y) (tCons (tVar c) tNil))))) tNil))) := by
  intro D σ H l xs y e h ey q
  obtain ⟨v, e1, ty, va, ea, vb, eb, q⟩ := q
  exact ⟨v, e1, tyV_pop h ty, va, ea, vb, eb, _, e, .inl ⟨rfl, xs, SqL.of h⟩, l, xs, y, rfl, rfl, h, ey, q⟩
end
end Pu
/-! ### plans as trees -/
namespace Pu
open PySem PySem.W PySem.Spec PyProof.Rows L2 Gk
structure PR where
  name : Str
  al : List Str
  num : Int
  see : List Str
def PR.words (r : PR) : List Str := r.name :: r.al
def wordsP (rows : List PR) : List Str := rows.flatMap PR.words
section
variable {Ob : Type}
def rowP (r : PR) : Dt Ob := .lst [.str r.name, .lst (strsD r.al), .int r.num, .lst (strsD r.see)]
def planP (rows : List PR) (sets : List Str) (g : Dt Ob) : Dt Ob := .lst [.lst (rows.map rowP), .lst (strsD sets), g]
theorem atI_3 {α : Type} {x y z u : α} {l : List α} : atI (x :: y :: z :: u :: l) 3 = some u := by
  have h : ixN (x :: y :: z :: u :: l).length 3 = some 3 := by unfold ixN; rw [if_pos (by decide), if_pos (by rw [List.length_cons, List.length_cons, List.length_cons, List.length_cons]; omega)]; rfl
  unfold atI
  rw [h]
  rfl
def FNamesP : List (Dt Ob) → PQ Ob → Prop := fun ds Q => ∃ rows rest, ds = [.lst (.lst (rows.map rowP) :: rest)] ∧ rows.length ≤ 100 ∧ (wordsP rows).length ≤ 900 ∧ Q .fr (.lst (strsD (wordsP rows)))
def FPlaceP : List (Dt Ob) → PQ Ob → Prop := fun ds Q => ∃ rows rest name, ds = [.lst (.lst (rows.map rowP) :: rest), .str name] ∧ rows.length ≤ 100 ∧ (wordsP rows).length ≤ 900 ∧ (∀ i : Nat, name ∈ wordsP rows → Q .cl (.int i)) ∧ (name ∉ wordsP rows → Q .cl .non)
def FCopyP : List (Dt Ob) → PQ Ob → Prop := fun ds Q => ∃ rows sets g, ds = [planP rows sets g] ∧ rows.length ≤ 100 ∧ Q .fr (planP rows sets .non)
theorem FNamesP_len {ds : List (Dt Ob)} {Q : PQ Ob} (h : FNamesP ds Q) : ds.length = 1 := by obtain ⟨_, _, rfl, _⟩ := h; rfl
theorem FPlaceP_len {ds : List (Dt Ob)} {Q : PQ Ob} (h : FPlaceP ds Q) : ds.length = 2 := by obtain ⟨_, _, _, rfl, _⟩ := h; rfl
theorem FCopyP_len {ds : List (Dt Ob)} {Q : PQ Ob} (h : FCopyP ds Q) : ds.length = 1 := by obtain ⟨_, _, _, rfl, _⟩ := h; rfl
theorem wordsP_cons {r : PR} {rows : List PR} : wordsP (r :: rows) = (r.name :: r.al) ++ wordsP rows := rfl
theorem wordsP_app {a b : List PR} : wordsP (a ++ b) = wordsP a ++ wordsP b := List.flatMap_append
theorem wordsP_mem {rows : List PR} {w : Str} : w ∈ wordsP rows ↔ ∃ r ∈ rows, w = r.name ∨ w ∈ r.al := by
  unfold wordsP PR.words
  rw [List.mem_flatMap]
  simp only [List.mem_cons]
theorem wordsP_take {rows : List PR} {i : Nat} {r : PR} (h : rows[i]? = some r) : wordsP (rows.take (i + 1)) = wordsP (rows.take i) ++ (r.name :: r.al) := by
  rw [List.take_add_one, h, wordsP_app]
  show _ ++ wordsP [r] = _
  rw [wordsP_cons]
  exact congrArg _ (List.append_nil _)
theorem wordsP_take_le (rows : List PR) (i : Nat) : (wordsP (rows.take i)).length ≤ (wordsP rows).length := by
  have : wordsP rows = wordsP (rows.take i) ++ wordsP (rows.drop i) := by rw [← wordsP_app, List.take_append_drop]
  rw [this, List.length_append]
  omega
theorem wordsP_in {rows : List PR} {r : PR} (h : r ∈ rows) : r.al.length + 1 ≤ (wordsP rows).length := by
  induction rows with
  | nil => cases h
  | cons x l ih =>
    rw [wordsP_cons, List.length_append, List.length_cons]
    rcases List.mem_cons.mp h with rfl | h
    · omega
    · have := ih h; omega
theorem strsD_app {a b : List Str} : (strsD (a ++ b) : List (Dt Ob)) = strsD a ++ strsD b := by unfold strsD; exact List.map_append
theorem strsD_len {a : List Str} : (strsD a : List (Dt Ob)).length = a.length := by unfold strsD; exact List.length_map ..
theorem flatsS : ∀ ws : List Str, flats (strsD (Ob := Ob) ws) = some (ws.map V.str)
  | [] => rfl
  | w :: ws => by
    show flats (.str w :: strsD ws) = _
    unfold flats
    rw [flatsS ws]
    rfl
theorem inV_decS (w : Str) (ws : List Str) : inV (.str w) (ws.map V.str) = decide (w ∈ ws) := Bool.eq_iff_iff.mpr ((inV_strs w ws).trans (decide_eq_true_iff).symm)
theorem kT_plain : ∀ ks : List Key, plainL (Ob := Ob) (ks.map kT) = true
  | [] => by unfold plainL; rfl
  | k :: ks => by
    rw [List.map_cons]
    unfold plainL
    rw [kT_plain ks]
    cases k <;> (unfold kT Dt.plain; rfl)
theorem kT_py : ∀ ks : List Key, toPyL (Ob := Ob) (ks.map kT) = ks.map kD
  | [] => by unfold toPyL; rfl
  | k :: ks => by
    rw [List.map_cons, List.map_cons]
    unfold toPyL
    rw [kT_py ks]
    cases k <;> (unfold kT toPy; rfl)
theorem po_neNil {ks : List Key} {Q : PQ Ob} (h : ∀ k ∈ ks, kOk k = true) (q : Q .cl (.bl (!ks.isEmpty))) : poEqD true (.lst (ks.map kT)) (.lst []) Q := by
  unfold poEqD
  refine ⟨by unfold Dt.plain; exact kT_plain ks, by unfold Dt.plain plainL; rfl, ?_, ?_, ?_⟩
  · unfold toPy; rw [kT_py]; exact keys_shaped ks h
  · unfold toPy toPyL; exact keys_shaped [] (by simp)
  · have e : (toPy (Ob := Ob) (.lst (ks.map kT))).eqv (toPy (Ob := Ob) (.lst [])) = ks.isEmpty := by
      unfold toPy
      rw [kT_py]
      unfold toPyL
      exact keys_nil ks
    rw [if_pos rfl, e]
    exact q
theorem kT_ints (is : List Int) : (is.map Sum.inl).map kT = (is.map Dt.int : List (Dt Ob)) := by rw [List.map_map]; rfl
theorem kT_strs (ws : List Str) : (ws.map Sum.inr).map kT = (strsD ws : List (Dt Ob)) := by unfold strsD; rw [List.map_map]; rfl
theorem po_neNilI {is : List Int} {Q : PQ Ob} (q : Q .cl (.bl (!is.isEmpty))) : poEqD true (.lst (is.map Dt.int)) (.lst []) Q := by
  rw [← kT_ints]
  refine po_neNil (fun k hk => ?_) (by rw [List.isEmpty_map]; exact q)
  obtain ⟨i, _, rfl⟩ := List.mem_map.mp hk
  rfl
theorem po_neNilS {ws : List Str} {Q : PQ Ob} (h : ∀ w ∈ ws, PyData.strOk w = true) (q : Q .cl (.bl (!ws.isEmpty))) : poEqD true (.lst (strsD ws)) (.lst []) Q := by
  rw [← kT_strs]
  refine po_neNil (fun k hk => ?_) (by rw [List.isEmpty_map]; exact q)
  obtain ⟨i, hi, rfl⟩ := List.mem_map.mp hk
  exact h i hi
def NmP (w : Str) : Prop := nameB w = true ∧ PyData.strOk w = true
instance (w : Str) : Decidable (NmP w) := inferInstanceAs (Decidable (_ ∧ _))
structure GoodP (rows : List PR) (sets : List Str) (n m : Nat) : Prop where
  lo : 1 ≤ rows.length
  wn : (wordsP rows).Nodup
  wk : ∀ w ∈ wordsP rows, NmP w
  wl : (wordsP rows).length ≤ n
  nn : (rows.map (·.num)).Nodup
  nk : ∀ r ∈ rows, -1000000000 ≤ r.num ∧ (r.num ≤ 20 + (m : Int) ∨ r.num = 1000000000)
  sn : sets.Nodup
  sl : sets.length ≤ 3
  sk : ∀ w ∈ sets, NmP w
  see : ∀ r ∈ rows, r.see.Nodup ∧ ∀ w ∈ r.see, w ∈ sets
def FPlanP : List (Dt Ob) → PQ Ob → Prop := fun ds Q => ∃ many : Nat, ds = [.src, .int many] ∧ 1 ≤ many ∧ many ≤ 8 ∧ ∀ rows sets g, GoodP rows sets 8 0 → rows.length ≤ many → (g = .non ∨ ∃ ws, g = .lst (strsD ws) ∧ ws.length ≤ 8) → Q .fr (planP rows sets g)
theorem FPlanP_len {ds : List (Dt Ob)} {Q : PQ Ob} (h : FPlanP ds Q) : ds.length = 2 := by obtain ⟨_, rfl, _⟩ := h; rfl
def poolA : List Str := ["a", "b", "c", "d", "ab", "zz", "mid", "abcdefgh"]
def poolB : List Str := ["jig", "kelp", "lmopq", "fgh", "stuv", "wxyz", "i", "e"]
def numP : List Int := [0, 1, 2, 3, 5, 9, -1, 1000000000, -1000000000]
theorem perm_kT {js : List Key} {ws : List Str} (h : js.Perm (ws.map Sum.inr)) : ∃ ys : List Str, ys.Perm ws ∧ (js.map kT : List (Dt Ob)) = strsD ys := by
  obtain ⟨ys, _, e, p⟩ := perm_strs h
  exact ⟨ys, p, by rw [e, kT_strs]⟩
theorem perm_inj {α β : Type} {f : α → β} (g : β → α) (gf : ∀ a, g (f a) = a) {js : List β} {xs : List α} (h : js.Perm (xs.map f)) : ∃ ys : List α, js = ys.map f ∧ ys.Perm xs := by
  refine ⟨js.map g, ?_, ?_⟩
  · rw [List.map_map]
    have : ∀ l : List β, (∀ b ∈ l, ∃ a, b = f a) → l = l.map (f ∘ g) := by
      intro l
      induction l with
      | nil => exact fun _ => rfl
      | cons b l ih =>
        intro k
        obtain ⟨a, rfl⟩ := k b List.mem_cons_self
        rw [List.map_cons, ← ih fun b hb => k b (List.mem_cons_of_mem _ hb)]
        show _ = f (g (f a)) :: l
        rw [gf]
    refine this js fun b hb => ?_
    obtain ⟨a, _, e⟩ := List.mem_map.mp (h.mem_iff.mp hb)
    exact ⟨a, e.symm⟩
  · have z := h.map g
    rw [List.map_map] at z
    have : ∀ l : List α, l.map (g ∘ f) = l := by
      intro l
      induction l with
      | nil => rfl
      | cons a l ih => rw [List.map_cons, ih]; show g (f a) :: l = _; rw [gf]
    rwa [this] at z
theorem mix_strs {ws : List Str} {Q : PQ Ob} (hl : ws.length ≤ 1000) (ok : ∀ w ∈ ws, PyData.strOk w = true) (q : ∀ ys : List Str, ys.Perm ws → Q .fr (.lst (strsD ys))) : FMixed [.src, .lst (strsD ws)] Q := by
  refine ⟨ws.map Sum.inr, by rw [kT_strs], by rw [List.length_map]; exact hl, fun k hk => ?_, fun js hj => ?_⟩
  · obtain ⟨x, hx, rfl⟩ := List.mem_map.mp hk
    exact ok x hx
  · obtain ⟨ys, hy, e⟩ := perm_kT (Ob := Ob) hj
    rw [e]
    exact q ys hy
theorem mix_ints {is : List Int} {Q : PQ Ob} (hl : is.length ≤ 1000) (q : ∀ ys : List Int, ys.Perm is → Q .fr (.lst (ys.map Dt.int))) : FMixed [.src, .lst (is.map Dt.int)] Q := by
  refine ⟨is.map Sum.inl, by rw [kT_ints], by rw [List.length_map]; exact hl, fun k hk => ?_, fun js hj => ?_⟩
  · obtain ⟨x, hx, rfl⟩ := List.mem_map.mp hk
    rfl
  · obtain ⟨ys, e, hy⟩ := perm_inj (fun k : Key => match k with | .inl i => i | .inr _ => 0) (fun _ => rfl) hj
    rw [e, kT_ints]
    exact q ys hy
/-- a for whose list is told first -/
def pForB (pg : PTG Ob) (pb : PTS Ob) (pD : PEnds Ob) (env : PEnv Ob) (ds : List (Dt Ob)) : Prop := ∃ I : Nat → PEnv Ob → Prop, I 0 env ∧
  (∀ i d env', ds[i]? = some d → I i env' → pg d env' fun env2 => pb { pD with nx := I (i + 1), ct := I (i + 1), bk := pD.nx } env2) ∧ ∀ env', I ds.length env' → pD.nx env'
theorem for_open {pi : PTI Ob} {pg : PTG Ob} {pb : PTS Ob} {pD : PEnds Ob} {env : PEnv Ob} (h : pi env fun c ds => c = true ∧ pForB pg pb pD env ds) : pFor pi pg pb pD env := h
theorem for_at {pg : PTG Ob} {pb : PTS Ob} {pD : PEnds Ob} {env : PEnv Ob} {ds : List (Dt Ob)} (I : Nat → PEnv Ob → Prop) (h0 : I 0 env)
    (hs : ∀ (i : Nat) (d : Dt Ob) (env' : PEnv Ob), ds[i]? = some d → I i env' → pg d env' fun env2 => pb { pD with nx := I (i + 1), ct := I (i + 1), bk := pD.nx } env2) (hd : ∀ env', I ds.length env' → pD.nx env') : pForB pg pb pD env ds := ⟨I, h0, hs, hd⟩
theorem rngGet {n i : Nat} {d : Dt Ob} (h : (rngD 0 n)[i]? = some d) : i < n ∧ d = .int (i : Nat) := by
  have l := (List.getElem?_eq_some_iff.mp h).1
  rw [rngD_len] at l
  rw [rngD_at l] at h
  exact ⟨l, by rw [← Option.some.inj h, Int.zero_add]⟩
theorem cutTo {α : Type} {xs : List α} {z : Int} (h0 : 0 ≤ z) : cutD xs none (some z) = xs.take z.toNat := by
  obtain ⟨n, rfl⟩ := Int.eq_ofNat_of_zero_le h0
  unfold cutD
  rw [HT.sIx_none, HT.sIx_nat]
  simp only [List.drop_zero, Int.toNat_natCast, Nat.sub_zero]
  by_cases h : n ≤ xs.length
  · rw [Nat.min_eq_left h]
  · rw [Nat.min_eq_right (by omega), List.take_of_length_le (Nat.le_refl _), List.take_of_length_le (by omega)]
theorem cutFrom {α : Type} {xs : List α} {z : Int} (h0 : 0 ≤ z) : cutD xs (some z) none = xs.drop z.toNat := by
  obtain ⟨n, rfl⟩ := Int.eq_ofNat_of_zero_le h0
  unfold cutD
  rw [HT.sIx_none, HT.sIx_nat]
  simp only [Int.toNat_natCast]
  by_cases h : n ≤ xs.length
  · rw [Nat.min_eq_left h, List.take_of_length_le (by rw [List.length_drop]; exact Nat.le_refl _)]
  · rw [Nat.min_eq_right (by omega), Nat.sub_self, List.take_zero, List.drop_of_length_le (by omega)]
theorem cutToS {xs : List Str} {z : Int} (h0 : 0 ≤ z) : cutD (strsD xs : List (Dt Ob)) none (some z) = strsD (xs.take z.toNat) := by rw [cutTo h0]; unfold strsD; rw [List.map_take]
theorem last_ex {α : Type} {l : List α} (h : 0 < l.length) : ∃ a x, l = a ++ [x] := ⟨l.dropLast, l.getLast (List.ne_nil_of_length_pos h), (List.dropLast_concat_getLast _).symm⟩
theorem strs_last {a : List Str} {x : Str} : (strsD (a ++ [x]) : List (Dt Ob))[(strsD (a ++ [x]) : List (Dt Ob)).length - 1]? = some (.str x) ∧ (strsD (a ++ [x]) : List (Dt Ob)).dropLast = strsD a := by
  have e : (strsD (a ++ [x]) : List (Dt Ob)) = strsD a ++ [.str x] := strsD_app
  rw [e, List.length_append, List.length_singleton]
  exact ⟨List.getElem?_concat_length, List.dropLast_concat⟩
theorem ints_last {a : List Int} {x : Int} : ((a ++ [x]).map Dt.int : List (Dt Ob))[((a ++ [x]).map Dt.int : List (Dt Ob)).length - 1]? = some (.int x) ∧ ((a ++ [x]).map Dt.int : List (Dt Ob)).dropLast = a.map Dt.int := by
  have e : ((a ++ [x]).map Dt.int : List (Dt Ob)) = a.map Dt.int ++ [.int x] := by rw [List.map_append]; rfl
  rw [e, List.length_append, List.length_singleton]
  exact ⟨List.getElem?_concat_length, List.dropLast_concat⟩
theorem poolA_ok : poolA.Nodup ∧ ∀ w ∈ poolA, NmP w := by decide +kernel
theorem poolB_ok : poolB.Nodup ∧ ∀ w ∈ poolB, NmP w := by decide +kernel
theorem numP_ok : numP.Nodup ∧ ∀ n ∈ numP, -1000000000 ≤ n ∧ (n ≤ 20 + ((0 : Nat) : Int) ∨ n = 1000000000) := by decide +kernel
end
end Pu
local macro_rules | `(tactic| walk_at "pu") => `(tactic| simp only [Pu.pSeq, Pu.pNext, Pu.pVar, Pu.pC, Pu.pOp, Pu.pNil, Pu.pCons, Pu.pTup, Pu.pLst, Pu.pCB, Pu.pTest, Pu.pNot, Pu.pAnd, Pu.pOr, Pu.pYes, Pu.pIf, Pu.pAsg, Pu.pAsgF, Pu.pAsgT, Pu.pIfS, Pu.pRet, Pu.pRetN, Pu.pDrop, Pu.pApp, Pu.pSetI, Pu.pPutD, Pu.pPar, Pu.pSh, Pu.pCall, Pu.shE, Pu.PV.share, Pu.tp_cl, Pu.tp_fr, Pu.tp_own, Pu.tp_ownD, Pu.sq_lst, Pu.sq_tup, Pu.sq_rows, Pu.fv_non, Pu.fv_bl, Pu.fv_int, Pu.fv_str, Pu.ky_int, Pu.ky_str, Nat.reduceAdd, Nat.reduceLeDiff, Nat.reduceLT, Nat.zero_add, Pu.okArgs, Pu.initE, Pu.piL, Pu.piT, Pu.piR1, Pu.piR2, Pu.piS, Pu.piE, Pu.pgN, Pu.pgNil, Pu.pgCons, Pu.pgT, Pu.pwipe, Pu.pM, Pu.setAll, Pu.poI, Pu.poB, Pu.poEq, Pu.poIxL, Pu.poIxT, Pu.pAsgM, List.forall_mem_cons, List.not_mem_nil, false_imp_iff, implies_true, forall_const, Pu.poIn, Pu.poCat, Pu.poCatT, Pu.poCatS, Pu.prLen, Pu.prList, Pu.prTuple, Pu.prInt1, Pu.prMax2, Pu.prMin2, Pu.rowD, Pu.rowP, Pu.planP, Pu.pHoist, Pu.atI_3, Pu.pParF, Pu.modelD, Pu.pSlL, Pu.pSlT, Pu.pNoPart, Pu.pPart, Pu.pDGet, Pu.pDIn, Pu.pDNew, Pu.pNext, Pu.pRevT, Pu.pRevL, Pu.pListRg, Pu.atI_0, Pu.atI_1, Pu.atI_2, Pu.PV.own.injEq, Pu.PV.ownD.injEq, Pu.PV.sh.injEq, Pu.Dt.int.injEq, Pu.Dt.bl.injEq, Pu.Dt.str.injEq, Pu.Dt.lst.injEq, Pu.Dt.tup.injEq, Pu.Dt.dic.injEq, decide_true, decide_false, exists_and_left, exists_const, exists_eq, List.cons.injEq, and_assoc,
  List.map_cons, List.map_nil, List.cons_append, List.nil_append, List.append_nil, List.getElem?_cons_zero, List.getElem?_cons_succ, List.getElem?_nil, List.set_cons_zero, List.set_cons_succ, List.length_cons, List.length_nil, List.replicate, ne_eq, reduceCtorEq, not_false_eq_true, true_and, and_true, if_true, if_false, Option.some.injEq, exists_eq_left', exists_eq_left])
/-! ### _law_names, _law_place, _law_copy over trees -/
namespace Pu
open PySem PySem.W PySem.Spec PyProof.Rows L2 Gk
section
variable {P : Program} {w : World} {Ob : Type} {W : Wd Ob} {mg : Str → Option Value} {base : Heap}
abbrev sP_names : Stmt := (top 38)
abbrev nP_names : List Str := ["plan", "found", "row"]
theorem scP_names : FnScope nP_names ["plan"] (defScope sP_names) := ⟨rfl, rfl, rfl, by decide +kernel, rfl, by decide +kernel, by decide +kernel⟩
theorem okP_names {f : Addr} {fd : FuncData} (Fu : Fun W.K "_law_names" "_law_names" sP_names f fd) (B : Blt mg)  : FnOk P w W.K mg base CX0 1 f fd ["plan"] (PFn W anyZ FNamesP) := by
  refine pfn_ok Fu scP_names (fun ds Qp h => ?_) (fun cdv A outer s H Q E hr => ?_)
  · exact FNamesP_len h
  · have nd := scP_names.nd
    have hu := hu_of hr
    have hu64 : (A.deeper (envOfC "_law_names" (defScope sP_names) s.heap.objs.size f cdv)).units + 64 < cLine := by have := hr.un; omega
    refine ⟨_, (pss_cons (ps_set (i := 1) nd rfl (Or.inl rfl) (pe_lst pa_nil)) (pss_cons (ps_for PassesOwn.never rfl (pi_list (pe_ix ix_list (pv 0) pe_int (fun _ _ => rfl))) (pg_name (i := 2) nd rfl (Or.inl rfl)) (pss_one (ps_set (i := 1) nd rfl (Or.inl rfl) (pe_op op_cat (pe_op op_cat (pv 1) (pe_lst (pa_cons (pe_ix ix_list (pv 2) pe_int (fun _ _ => rfl)) pa_nil))) (pe_ix ix_list (pv 2) pe_int (fun _ _ => rfl)))))) (pss_one (ps_ret (pv 1))))), fun z hz => ⟨_, (snd_seq (snd_asg (m := true) (snd_lst snd_nil)) (snd_seq (snd_for (snd_piL (snd_op snd_var snd_cint snd_rIxL)) snd_gNS (snd_asg (m := true) (snd_op (snd_op snd_var (snd_lst (snd_cons (snd_op snd_var snd_cint snd_rIxL) snd_nil)) snd_rCat) (snd_op snd_var snd_cint snd_rIxL) snd_rCat))) snd_retO)), fun ds Qp h => ?_⟩⟩
    obtain ⟨rows, rest, rfl, h1, h2, hq⟩ := h
    walk_at "pu"
    refine go ?_
    walk_at "pu"
    obtain ⟨I, hI⟩ : ∃ I : Nat → PEnv Ob → Prop, ∀ i env, I i env ↔ ∃ x2, env = [.sh (.lst (.lst (rows.map rowP) :: rest)), .own (strsD (wordsP (rows.take i))), x2] := ⟨_, fun _ _ => Iff.rfl⟩
    refine for_in (rows.map rowP) I (fun Q q => by walk_at "pu"; exact q) ((hI _ _).mpr ⟨_, rfl⟩) ?_ ?_
    · intro i d env' hd hi
      obtain ⟨x2, rfl⟩ := (hI _ _).mp hi
      obtain ⟨r, hr, rfl⟩ := map_get hd
      have wt := wordsP_take hr
      have wl := wordsP_take_le rows (i + 1)
      rw [wt, List.length_append, List.length_cons] at wl
      walk_at "pu"
      refine ⟨by rw [strsD_len]; omega, by rw [List.length_append, strsD_len, strsD_len, List.length_singleton]; omega, (hI _ _).mpr ⟨_, by rw [wt, strsD_app, List.append_assoc]; rfl⟩⟩
    · intro env' hi
      obtain ⟨x2, rfl⟩ := (hI _ _).mp hi
      refine go (.inl ⟨_, rfl, ?_⟩)
      rw [List.length_map, List.take_length]
      exact hq

abbrev sP_place : Stmt := (top 41)
abbrev nP_place : List Str := ["plan", "name", "places", "at", "row"]
theorem scP_place : FnScope nP_place ["plan", "name"] (defScope sP_place) := ⟨rfl, rfl, rfl, by decide +kernel, rfl, by decide +kernel, by decide +kernel⟩
theorem okP_place {f : Addr} {fd : FuncData} (Fu : Fun W.K "_law_place" "_law_place" sP_place f fd) (B : Blt mg)  : FnOk P w W.K mg base CX0 1 f fd ["plan", "name"] (PFn W anyZ FPlaceP) := by
  refine pfn_ok Fu scP_place (fun ds Qp h => ?_) (fun cdv A outer s H Q E hr => ?_)
  · exact FPlaceP_len h
  · have nd := scP_place.nd
    have hu := hu_of hr
    have hu64 : (A.deeper (envOfC "_law_place" (defScope sP_place) s.heap.objs.size f cdv)).units + 64 < cLine := by have := hr.un; omega
    refine ⟨_, (pss_cons (ps_setLc (i := 2) (own := [("at", 3), ("row", 4)]) (te := (tVar 3)) (g := (gTup W.K 2 (gCons (gName 3) (gCons (gName 4) gNil)))) (tt := (tTest (tOp (rIn W.K false) (tVar 1) (tOp rCat (tLst (tCons (tOp (rIxL W.K) (tVar 4) (tC (.int 0))) tNil)) (tOp (rIxL W.K) (tVar 4) (tC (.int 1))))))) rfl nd rfl rfl (sw_true rfl rfl rfl (by decide +kernel)) (pi_enum (by rfl) B.enumerate (pa_cons (pe_ix ix_list (pv 0) pe_int (fun _ _ => rfl)) pa_nil)) (blkOk_by (N := nP_place) (sc := defScope sP_place) (by decide +kernel)) (fun _ _ _ _ _ => (pg_tup rfl (pgs_cons (pg_name (i := 3) nd rfl (Or.inl rfl)) (pgs_cons (pg_name (i := 4) nd rfl (Or.inl rfl)) pgs_nil)))) (fun _ _ _ _ _ => by exact (pts_one (pt_cmpR op_in_seq (pv 1) (pe_op op_cat (pe_lst (pa_cons (pe_ix ix_list (pv 4) pe_int (fun _ _ => rfl)) pa_nil)) (pe_ix ix_list (pv 4) pe_int (fun _ _ => rfl))) (by rfl)))) (fun _ _ _ _ _ => by exact (pv 3))) (pss_one (ps_ret (pe_ifExp (pt_cmpR (op_neD hu64) (pv 2) (pe_lst pa_nil) (nomark _)) (pe_ix ix_list (pv 2) pe_int (fun _ _ => rfl)) pe_non)))), fun z hz => ⟨_, (snd_seq (snd_asg (m := false) (snd_lc (snd_piE (snd_cons (snd_op snd_var snd_cint snd_rIxL) snd_nil)) (snd_gT (snd_gCons snd_gN (snd_gCons snd_gN snd_gNil))) (by decide) (snd_test (snd_op snd_var (snd_op (snd_lst (snd_cons (snd_op snd_var snd_cint snd_rIxL) snd_nil)) (snd_op snd_var snd_cint snd_rIxL) snd_rCat) snd_rIn)) snd_var)) (snd_ret (snd_if (snd_test (snd_op snd_var (snd_lst snd_nil) snd_rNeD)) (snd_op snd_var snd_cint snd_rIxL) snd_cnon))), fun ds Qp h => ?_⟩⟩
    obtain ⟨rows, rest, name, rfl, h1, h2, hq1, hq2⟩ := h
    walk_at "pu"
    refine lc_inv (enumD (rows.map rowP)) (fun j acc => ∃ is : List Int, acc = is.map Dt.int ∧ (∀ i ∈ is, ∃ n : Nat, i = n) ∧ (is = [] ↔ name ∉ wordsP (rows.take j))) (fun Q q => by walk_at "pu"; exact q _) (by rw [enumD_len, List.length_map]; omega) ⟨[], rfl, (fun i h => by cases h), ⟨fun _ h => (by cases h), fun _ => rfl⟩⟩ ?_ ?_
    · rintro i d acc hd ⟨is, rfl, hn, hi⟩
      obtain ⟨x, hx⟩ : ∃ x, (rows.map (rowP (Ob := Ob)))[i]? = some x := by
        have : i < (enumD (rows.map (rowP (Ob := Ob)))).length := (List.getElem?_eq_some_iff.mp hd).1
        rw [enumD_len] at this
        exact ⟨_, List.getElem?_eq_getElem this⟩
      rw [enumD_at hx] at hd
      obtain rfl := Option.some.inj hd
      obtain ⟨r, hr, rfl⟩ := map_get hx
      have wt := wordsP_take hr
      have wl := wordsP_in (List.mem_of_getElem? hr)
      walk_at "pu"
      refine ⟨by rw [strsD_len]; omega, (r.name :: r.al).map V.str, flatsS (r.name :: r.al), ?_⟩
      rw [inV_decS]
      by_cases hm : name ∈ r.name :: r.al
      · rw [decide_eq_true hm]
        walk_at "pu"
        refine ⟨is ++ [(i : Int)], by rw [List.map_append]; rfl, fun j hj => ?_, ?_⟩
        · rcases List.mem_append.mp hj with hj | hj
          · exact hn j hj
          · exact ⟨i, by simpa using hj⟩
        · rw [wt]
          exact ⟨fun h => by simp at h, fun h => absurd (List.mem_append_right _ hm) h⟩
      · rw [decide_eq_false hm]
        walk_at "pu"
        refine ⟨is, rfl, hn, ?_⟩
        rw [wt, List.mem_append]
        exact hi.trans ⟨fun a b => b.elim a hm, fun a b => a (.inl b)⟩
    · rintro acc ⟨is, rfl, hn, hi⟩ hl
      rw [enumD_len, List.length_map, List.take_length] at hi
      walk_at "pu"
      refine go ?_
      walk_at "pu"
      refine po_neNilI ?_
      walk_at "pu"
      cases is with
      | nil =>
        walk_at "pu"
        exact hq2 (hi.mp rfl)
      | cons i is =>
        walk_at "pu"
        obtain ⟨n, rfl⟩ := hn i List.mem_cons_self
        refine hq1 n ?_
        by_cases z : name ∈ wordsP rows
        · exact z
        · exact absurd (hi.mpr z) (by simp)

abbrev sP_copy : Stmt := (top 40)
abbrev nP_copy : List Str := ["plan", "rows", "row"]
theorem scP_copy : FnScope nP_copy ["plan"] (defScope sP_copy) := ⟨rfl, rfl, rfl, by decide +kernel, rfl, by decide +kernel, by decide +kernel⟩
theorem okP_copy {f : Addr} {fd : FuncData} (Fu : Fun W.K "_law_copy" "_law_copy" sP_copy f fd) (B : Blt mg)  : FnOk P w W.K mg base CX0 1 f fd ["plan"] (PFn W anyZ FCopyP) := by
  refine pfn_ok Fu scP_copy (fun ds Qp h => ?_) (fun cdv A outer s H Q E hr => ?_)
  · exact FCopyP_len h
  · have nd := scP_copy.nd
    have hu := hu_of hr
    have hu64 : (A.deeper (envOfC "_law_copy" (defScope sP_copy) s.heap.objs.size f cdv)).units + 64 < cLine := by have := hr.un; omega
    refine ⟨_, (pss_cons (ps_setLc (i := 1) (own := [("row", 2)]) (te := (tLst (tCons (tOp (rIxL W.K) (tVar 2) (tC (.int 0))) (tCons (tCB (rListP W.K) (tCons (tOp (rIxL W.K) (tVar 2) (tC (.int 1))) tNil)) (tCons (tOp (rIxL W.K) (tVar 2) (tC (.int 2))) (tCons (tCB (rListP W.K) (tCons (tOp (rIxL W.K) (tVar 2) (tC (.int 3))) tNil)) tNil)))))) (g := (gName 2)) (tt := tYes) rfl nd rfl rfl (sw_true rfl rfl rfl (by decide +kernel)) (pi_list (pe_ix ix_list (pv 0) pe_int (fun _ _ => rfl))) (blkOk_by (N := nP_copy) (sc := defScope sP_copy) (by decide +kernel)) (fun _ _ _ _ _ => (pg_name (i := 2) nd rfl (Or.inl rfl))) (fun _ _ _ _ _ => pts_nil) (fun _ _ _ _ _ => by exact (pe_lst (pa_cons (pe_ix ix_list (pv 2) pe_int (fun _ _ => rfl)) (pa_cons (pe_callTy call_list_of (by rfl) B.list bt_list (pa_cons (pe_ix ix_list (pv 2) pe_int (fun _ _ => rfl)) pa_nil)) (pa_cons (pe_ix ix_list (pv 2) pe_int (fun _ _ => rfl)) (pa_cons (pe_callTy call_list_of (by rfl) B.list bt_list (pa_cons (pe_ix ix_list (pv 2) pe_int (fun _ _ => rfl)) pa_nil)) pa_nil))))))) (pss_one (ps_ret (pe_lst (pa_cons (pv 1) (pa_cons (pe_callTy call_list_of (by rfl) B.list bt_list (pa_cons (pe_ix ix_list (pv 0) pe_int (fun _ _ => rfl)) pa_nil)) (pa_cons pe_non pa_nil))))))), fun z hz => ⟨_, (snd_seq (snd_asg (m := false) (snd_lc (snd_piL (snd_op snd_var snd_cint snd_rIxL)) snd_gN (by decide) snd_yes (snd_lst (snd_cons (snd_op snd_var snd_cint snd_rIxL) (snd_cons (snd_cb snd_list (snd_cons (snd_op snd_var snd_cint snd_rIxL) snd_nil)) (snd_cons (snd_op snd_var snd_cint snd_rIxL) (snd_cons (snd_cb snd_list (snd_cons (snd_op snd_var snd_cint snd_rIxL) snd_nil)) snd_nil))))))) (snd_ret (snd_lst (snd_cons snd_var (snd_cons (snd_cb snd_list (snd_cons (snd_op snd_var snd_cint snd_rIxL) snd_nil)) (snd_cons snd_cnon snd_nil)))))), fun ds Qp h => ?_⟩⟩
    obtain ⟨rows, sets, g, rfl, h1, hq⟩ := h
    walk_at "pu"
    refine lc_in (rows.map rowP) (fun _ => true) id (fun Q q => by walk_at "pu"; exact q _) (by rw [List.length_map]; omega) ?_ ?_
    · intro d hd R hR
      obtain ⟨r, hr, rfl⟩ := List.mem_map.mp hd
      walk_at "pu"
      exact hR
    have e : List.map id (List.filter (fun _ => true) (rows.map (rowP (Ob := Ob)))) = rows.map rowP := by rw [List.map_id, List.filter_eq_self.mpr fun _ _ => rfl]
    rw [e]
    walk_at "pu"
    refine go ?_
    walk_at "pu"
    exact hq
end
end Pu
/-! ### _law_plan over trees -/
namespace Pu
open PySem PySem.W PySem.Spec PyProof.Rows L2 Gk
section
variable {P : Program} {w : World} {Ob : Type} {W : Wd Ob} {mg : Str → Option Value} {base : Heap}
abbrev sP_plan : Stmt := (top 39)
abbrev nP_plan : List Str := ["stream", "many", "some", "pool", "numbers", "sets", "rows", "turn", "name", "aliases", "one", "given"]
theorem scP_plan : FnScope nP_plan ["stream", "many"] (defScope sP_plan) := ⟨rfl, rfl, rfl, by decide +kernel, rfl, by decide +kernel, by decide +kernel⟩
theorem okP_plan {f : Addr} {fd : FuncData} (Fu : Fun W.K "_law_plan" "_law_plan" sP_plan f fd) (B : Blt mg) (cD : Cal P w W.K mg base W "_law_draw" 1 ["stream", "size"] [] anyZ FDraw) (cC : Cal P w W.K mg base W "_law_choose" 2 ["stream", "items"] [] anyZ FPick) (cS : Cal P w W.K mg base W "_law_shuffled" 2 ["stream", "items"] [] anyZ FMixed) (cN : Cal P w W.K mg base W "_law_names" 1 ["plan"] [] anyZ FNamesP) : FnOk P w W.K mg base CX0 3 f fd ["stream", "many"] (PFn W anyZ FPlanP) := by
  obtain ⟨fD, dD, eD, GD, bD, vD, gD, kD⟩ := cD.ex
  obtain ⟨fC, dC, eC, GC, bC, vC, gC, kC⟩ := cC.ex
  obtain ⟨fS, dS, eS, GS, bS, vS, gS, kS⟩ := cS.ex
  obtain ⟨fN, dN, eN, GN, bN, vN, gN, kN⟩ := cN.ex
  refine pfn_ok Fu scP_plan (fun ds Qp h => ?_) (fun cdv A outer s H Q E hr => ?_)
  · exact FPlanP_len h
  · have nd := scP_plan.nd
    have hu := hu_of hr
    have hu64 : (A.deeper (envOfC "_law_plan" (defScope sP_plan) s.heap.objs.size f cdv)).units + 64 < cLine := by have := hr.un; omega
    refine ⟨_, (pss_cons (ps_set (i := 2) nd rfl (Or.inl rfl) (pe_lst (pa_cons pe_str (pa_cons pe_str (pa_cons pe_str (pa_cons pe_str (pa_cons pe_str (pa_cons pe_str (pa_cons pe_str (pa_cons pe_str pa_nil)))))))))) (pss_cons (ps_if (pt_cmpR op_eq (pe_call GD (hr.mono (by decide)) (by rfl) gD kD bD vD pass0 (pa_cons (pv 0) (pa_cons pe_int pa_nil))) pe_int (nomark _)) (pss_one (ps_set (i := 2) nd rfl (Or.inl rfl) (pe_lst (pa_cons pe_str (pa_cons pe_str (pa_cons pe_str (pa_cons pe_str (pa_cons pe_str (pa_cons pe_str (pa_cons pe_str (pa_cons pe_str pa_nil))))))))))) pss_nil) (pss_cons (ps_set (i := 3) nd rfl (Or.inl rfl) (pe_call GS hr (by rfl) gS kS bS vS pass0 (pa_cons (pv 0) (pa_cons (pv 2) pa_nil)))) (pss_cons (ps_set (i := 4) nd rfl (Or.inl rfl) (pe_call GS hr (by rfl) gS kS bS vS pass0 (pa_cons (pv 0) (pa_cons (pe_lst (pa_cons pe_int (pa_cons pe_int (pa_cons pe_int (pa_cons pe_int (pa_cons pe_int (pa_cons pe_int (pa_cons (pe_op op_sub pe_int pe_int) (pa_cons (pe_op op_pow pe_int pe_int) (pa_cons (pe_op op_sub pe_int (pe_op op_pow pe_int pe_int)) pa_nil)))))))))) pa_nil)))) (pss_cons (ps_par (i := 5) (j := 6) rfl nd rfl rfl (by decide) rfl rfl (pa_cons (pe_call GC hr (by rfl) gC kC bC vC pass0 (pa_cons (pv 0) (pa_cons (pe_lst (pa_cons (pe_lst (pa_cons pe_str (pa_cons pe_str (pa_cons pe_str pa_nil)))) (pa_cons (pe_lst (pa_cons pe_str (pa_cons pe_str (pa_cons pe_str pa_nil)))) pa_nil))) pa_nil))) (pa_cons (pe_lst pa_nil) pa_nil)) rfl) (pss_cons (ps_set (i := 5) nd rfl (Or.inl rfl) (pe_call GS hr (by rfl) gS kS bS vS pass0 (pa_cons (pv 0) (pa_cons (pe_slice sl_list (pv 5) po_none (po_some (pe_call GD (hr.mono (by decide)) (by rfl) gD kD bD vD pass0 (pa_cons (pv 0) (pa_cons pe_int pa_nil))))) pa_nil)))) (pss_cons (ps_for PassesOwn.never rfl (pi_range1 (by rfl) B.range (pa_cons (pe_op op_add pe_int (pe_call GD (hr.mono (by decide)) (by rfl) gD kD bD vD pass0 (pa_cons (pv 0) (pa_cons (pv 1) pa_nil)))) pa_nil)) (pg_name (i := 7) nd rfl (Or.inl rfl)) (pss_cons (ps_par (i := 8) (j := 9) rfl nd rfl rfl (by decide) rfl rfl (pa_cons (pe_bm0 PySem.F.plainAttrs_list PySem.F.slot_list_pop PySem.F.type_list_pop mt_pop (pv 3)) (pa_cons (pe_lst pa_nil) pa_nil)) rfl) (pss_cons (ps_if (PW.pt (pw_and (pt_cmpR op_eq (pe_call GD (hr.mono (by decide)) (by rfl) gD kD bD vD pass0 (pa_cons (pv 0) (pa_cons pe_int pa_nil))) pe_int (nomark _)) (pw_and1 (pt_cmpR op_gt (pe_callB call_len_seq (by rfl) B.len PySem.boot_len (pa_cons (pv 3) pa_nil)) (pv 1) (nomark _))))) (pss_one (ps_expr (by exact (pe_bm PySem.F.plainAttrs_list PySem.F.slot_list_append PySem.F.type_list_append mt_append (pv 9) (pa_cons (pe_bm0 PySem.F.plainAttrs_list PySem.F.slot_list_pop PySem.F.type_list_pop mt_pop (pv 3)) pa_nil))))) pss_nil) (pss_cons (ps_setLc (i := 2) (own := [("one", 10)]) (te := (tVar 10)) (g := (gName 10)) (tt := (tTest (tOp rEq (tCall (PFn W anyZ FDraw) [] E0 (tCons (tVar 0) (tCons (tC (.int 2)) tNil))) (tC (.int 0))))) rfl nd rfl rfl (sw_true rfl rfl rfl (by decide +kernel)) (pi_list (pv 5)) (blkOk_by (N := nP_plan) (sc := defScope sP_plan) (by decide +kernel)) (fun _ _ _ _ _ => (pg_name (i := 10) nd rfl (Or.inl rfl))) (fun _ _ _ _ _ => by exact (pts_one (pt_cmpR op_eq (pe_call GD (hr.mono (by decide)) (by rfl) gD kD bD vD pass0 (pa_cons (pv 0) (pa_cons pe_int pa_nil))) pe_int (nomark _)))) (fun _ _ _ _ _ => by exact (pv 10))) (pss_one (ps_expr (by exact (pe_bm PySem.F.plainAttrs_list PySem.F.slot_list_append PySem.F.type_list_append mt_append (pv 6) (pa_cons (pe_lst (pa_cons (pv 8) (pa_cons (pv 9) (pa_cons (pe_bm0 PySem.F.plainAttrs_list PySem.F.slot_list_pop PySem.F.type_list_pop mt_pop (pv 4)) (pa_cons (pv 2) pa_nil))))) pa_nil))))))))) (pss_cons (ps_set (i := 11) nd rfl (Or.inl rfl) pe_non) (pss_cons (ps_if (pt_cmpR op_eq (pe_call GD (hr.mono (by decide)) (by rfl) gD kD bD vD pass0 (pa_cons (pv 0) (pa_cons pe_int pa_nil))) pe_int (nomark _)) (pss_cons (ps_set (i := 11) nd rfl (Or.inl rfl) (pe_call GS hr (by rfl) gS kS bS vS pass0 (pa_cons (pv 0) (pa_cons (pe_call GN (hr.mono (by decide)) (by rfl) gN kN bN vN pass0 (pa_cons (pe_lst (pa_cons (pv 6) pa_nil)) pa_nil)) pa_nil)))) (pss_one (ps_set (i := 11) nd rfl (Or.inl rfl) (pe_slice sl_list (pv 11) po_none (po_some (pe_op op_add pe_int (pe_call GD (hr.mono (by decide)) (by rfl) gD kD bD vD pass0 (pa_cons (pv 0) (pa_cons (pe_callB call_len_seq (by rfl) B.len PySem.boot_len (pa_cons (pv 11) pa_nil)) pa_nil))))))))) pss_nil) (pss_one (ps_ret (pe_lst (pa_cons (pv 6) (pa_cons (pv 5) (pa_cons (pv 11) pa_nil))))))))))))))), fun z hz => ⟨_, (snd_seq (snd_asg (m := false) (snd_lst (snd_cons snd_cstr (snd_cons snd_cstr (snd_cons snd_cstr (snd_cons snd_cstr (snd_cons snd_cstr (snd_cons snd_cstr (snd_cons snd_cstr (snd_cons snd_cstr snd_nil)))))))))) (snd_seq (snd_ifS (snd_test (snd_op (snd_call (dds := []) trivial (by rfl) (snd_cons snd_var (snd_cons snd_cint snd_nil))) snd_cint snd_rEq)) (snd_asg (m := false) (snd_lst (snd_cons snd_cstr (snd_cons snd_cstr (snd_cons snd_cstr (snd_cons snd_cstr (snd_cons snd_cstr (snd_cons snd_cstr (snd_cons snd_cstr (snd_cons snd_cstr snd_nil)))))))))) snd_next) (snd_seq (snd_asg (m := true) (snd_call (dds := []) trivial (by rfl) (snd_cons snd_var (snd_cons snd_var snd_nil)))) (snd_seq (snd_asg (m := true) (snd_call (dds := []) trivial (by rfl) (snd_cons snd_var (snd_cons (snd_lst (snd_cons snd_cint (snd_cons snd_cint (snd_cons snd_cint (snd_cons snd_cint (snd_cons snd_cint (snd_cons snd_cint (snd_cons (snd_op snd_cint snd_cint snd_rI) (snd_cons (snd_op snd_cint snd_cint snd_rIC) (snd_cons (snd_op snd_cint (snd_op snd_cint snd_cint snd_rIC) snd_rI) snd_nil)))))))))) snd_nil)))) (snd_seq (snd_par (i := 5) (j := 6) (m1 := false) (m2 := true) (by decide) (snd_call (dds := []) trivial (by rfl) (snd_cons snd_var (snd_cons (snd_lst (snd_cons (snd_lst (snd_cons snd_cstr (snd_cons snd_cstr (snd_cons snd_cstr snd_nil)))) (snd_cons (snd_lst (snd_cons snd_cstr (snd_cons snd_cstr (snd_cons snd_cstr snd_nil)))) snd_nil))) snd_nil))) (snd_lst snd_nil)) (snd_seq (snd_asg (m := false) (snd_call (dds := []) trivial (by rfl) (snd_cons snd_var (snd_cons (snd_slL snd_var snd_noPart (snd_part (snd_call (dds := []) trivial (by rfl) (snd_cons snd_var (snd_cons snd_cint snd_nil))))) snd_nil)))) (snd_seq (snd_for (snd_piR1 (snd_cons (snd_op snd_cint (snd_call (dds := []) trivial (by rfl) (snd_cons snd_var (snd_cons snd_var snd_nil))) snd_rI) snd_nil)) snd_gNS (snd_seq (snd_hoist (k := 3) hoist_par (fun d y e => snd_par (i := 8) (j := 9) (m1 := false) (m2 := true) (by decide) (snd_cv e) (snd_lst snd_nil))) (snd_seq (snd_ifS (snd_and (snd_test (snd_op (snd_call (dds := []) trivial (by rfl) (snd_cons snd_var (snd_cons snd_cint snd_nil))) snd_cint snd_rEq)) (snd_test (snd_op (snd_cb snd_len (snd_cons snd_var snd_nil)) snd_var snd_rB))) (snd_hoist (k := 3) hoist_app (fun d y e => snd_app (i := 9) (snd_cv e))) snd_next) (snd_seq (snd_asg (m := false) (snd_lc (snd_piL snd_var) snd_gN (by decide) (snd_test (snd_op (snd_call (dds := []) trivial (by rfl) (snd_cons snd_var (snd_cons snd_cint snd_nil))) snd_cint snd_rEq)) snd_var)) (snd_share 9 (snd_hoist (k := 4) hoist_app4 (fun d y e => snd_app (i := 6) (snd_lst (snd_cons snd_var (snd_cons snd_var (snd_cons (snd_cv e) (snd_cons snd_var snd_nil)))))))))))) (snd_seq (snd_share 6 (snd_asg (m := false) snd_cnon)) (snd_seq (snd_ifS (snd_test (snd_op (snd_call (dds := []) trivial (by rfl) (snd_cons snd_var (snd_cons snd_cint snd_nil))) snd_cint snd_rEq)) (snd_seq (snd_asg (m := false) (snd_call (dds := []) trivial (by rfl) (snd_cons snd_var (snd_cons (snd_call (dds := []) trivial (by rfl) (snd_cons (snd_lst (snd_cons snd_var snd_nil)) snd_nil)) snd_nil)))) (snd_asg (m := false) (snd_slL snd_var snd_noPart (snd_part (snd_op snd_cint (snd_call (dds := []) trivial (by rfl) (snd_cons snd_var (snd_cons (snd_cb snd_len (snd_cons snd_var snd_nil)) snd_nil))) snd_rI))))) snd_next) (snd_ret (snd_lst (snd_cons snd_var (snd_cons snd_var (snd_cons snd_var snd_nil)))))))))))))), fun ds Qp h => ?_⟩⟩
    obtain ⟨many, rfl, h1, h8, hq⟩ := h
    walk_at "pu"
    refine go ?_
    walk_at "pu"
    refine ⟨3, rfl, by decide, by decide, fun k0 k00 k01 => ?_⟩
    walk_at "pu"
    refine ⟨rfl, ?_⟩
    generalize hN : hold _ = N
    have fin : ∀ ws, (ws = poolA ∨ ws = poolB) → N [.sh .src, .sh (.int many), .sh (.lst (strsD ws)), .no, .no, .no, .no, .no, .no, .no, .no, .no] := by
      intro ws hws
      subst hN
      refine go ?_
      walk_at "pu"
      refine mix_strs (by rcases hws with rfl | rfl <;> decide) (by rcases hws with rfl | rfl <;> decide +kernel) fun pool hp => ?_
      walk_at "pu"
      refine go ?_
      walk_at "pu"
      refine ⟨10, 9, rfl, rfl, ⟨by decide, by decide, by decide⟩, 10, 9, rfl, rfl, ⟨by decide, by decide, by decide⟩, _, rfl, (fun z => by cases z), ?_⟩
      refine mix_ints (is := numP) (by decide) fun nums hn => ?_
      walk_at "pu"
      refine go ?_
      walk_at "pu"
      refine ⟨_, rfl, by show 0 < 2; decide, by show 2 < 1000000; decide, fun x hx => ?_⟩
      obtain ⟨sb, hsb, rfl⟩ : ∃ sb : List Str, (sb = (["a", "s", "t"] : List Str) ∨ sb = (["jkl", "m", "qrstuvwx"] : List Str)) ∧ x = .lst (strsD sb) := by
        rcases List.mem_cons.mp hx with rfl | hx
        · exact ⟨_, .inl rfl, rfl⟩
        · rcases List.mem_cons.mp hx with rfl | hx
          · exact ⟨_, .inr rfl, rfl⟩
          · cases hx
      walk_at "pu"
      refine go ?_
      walk_at "pu"
      refine ⟨4, rfl, by decide, by decide, fun k1 k10 k11 => ?_⟩
      walk_at "pu"
      rw [cutToS k10]
      have hsb2 : sb.Nodup ∧ sb.length ≤ 3 ∧ ∀ w ∈ sb, NmP w := by rcases hsb with rfl | rfl <;> decide +kernel
      have hws2 : ws.Nodup ∧ ws.length ≤ 8 ∧ ∀ w ∈ ws, NmP w := by
        rcases hws with rfl | rfl
        · exact ⟨poolA_ok.1, by decide, poolA_ok.2⟩
        · exact ⟨poolB_ok.1, by decide, poolB_ok.2⟩
      have tl : (sb.take k1.toNat).length ≤ 3 := by rw [List.length_take]; omega
      refine mix_strs (by omega) (fun w hw => (hsb2.2.2 w (List.mem_of_mem_take hw)).2) fun ss hss => ?_
      have ssN : ss.Nodup := hss.nodup_iff.mpr (hsb2.1.sublist (List.take_sublist _ _))
      have ssL : ss.length ≤ 3 := by rw [hss.length_eq]; exact tl
      have ssK : ∀ w ∈ ss, NmP w := fun w hw => hsb2.2.2 w (List.mem_of_mem_take (hss.mem_iff.mp hw))
      clear hsb2 tl hss
      walk_at "pu"
      refine go ?_
      walk_at "pu"
      refine for_open ?_
      walk_at "pu"
      refine ⟨many, rfl, by omega, by omega, fun k2 k20 k21 => ?_⟩
      walk_at "pu"
      refine ⟨by omega, by omega, ?_⟩
      obtain ⟨n, hn0, hn1, hnm⟩ : ∃ n : Nat, (1 + k2).toNat = n ∧ 1 ≤ n ∧ n ≤ many := ⟨_, rfl, by omega, by omega⟩
      rw [hn0]
      clear hx hsb hn0 k21 k20 k01 k00 k10 k11
      generalize hL : (hold _ : PEnv Ob → Prop) = L
      obtain ⟨I, hI⟩ : ∃ I : Nat → PEnv Ob → Prop, ∀ i env, I i env ↔ ∃ ps ns rws x2 x7 x8 x9 x10, env = [.sh .src, .sh (.int many), x2, .own (strsD ps), .own (ns.map Dt.int), .sh (.lst (strsD ss)), .own (rws.map rowP), x7, x8, x9, x10, .no]
        ∧ (wordsP rws ++ ps).Perm ws ∧ (rws.map (·.num) ++ ns).Perm numP ∧ rws.length = i ∧ many ≤ ps.length + i ∧ ∀ r ∈ rws, r.see.Nodup ∧ ∀ w ∈ r.see, w ∈ ss := ⟨_, fun _ _ => Iff.rfl⟩
      refine for_at I ((hI _ _).mpr ⟨pool, nums, [], _, _, _, _, _, rfl, hp, hn, rfl, ?_, fun r hr => by cases hr⟩) ?_ ?_
      · rw [hp.length_eq]
        rcases hws with rfl | rfl
        · exact h8
        · exact h8
      · intro i d env' hd hi
        obtain ⟨ps, ns, rws, x2, x7, x8, x9, x10, rfl, hpp, hnn, hl, hm, hsee⟩ := (hI _ _).mp hi
        obtain ⟨il, rfl⟩ := rngGet hd
        obtain ⟨qs, nm, rfl⟩ := last_ex (l := ps) (by omega)
        have wl := hpp.length_eq
        rw [List.length_append, List.length_append, List.length_singleton] at wl
        rw [List.length_append, List.length_singleton] at hm
        have nl := hnn.length_eq
        rw [List.length_append, List.length_map, show numP.length = 9 from rfl] at nl
        walk_at "pu"
        refine ⟨_, strs_last.1, rfl, ?_⟩
        rw [strs_last.2]
        refine go ?_
        walk_at "pu"
        refine ⟨3, rfl, by decide, by decide, fun k _ _ => ?_⟩
        walk_at "pu"
        refine ⟨rfl, ?_⟩
        generalize hN : (hold _ : PEnv Ob → Prop) = N
        have fin : ∀ (qs' al : List Str), (qs' ++ al).Perm qs → many ≤ qs'.length + (i + 1) → N [.sh .src, .sh (.int many), x2, .own (strsD qs'), .own (ns.map Dt.int), .sh (.lst (strsD ss)), .own (rws.map rowP), .sh (.int i), .sh (.str nm), .own (strsD al), x10, .no] := by
          intro qs' al hqa hmq
          subst hN
          refine go ?_
          walk_at "pu"
          refine lc_inv (strsD ss) (fun j acc => ∃ vs : List Str, acc = strsD vs ∧ vs.Sublist (ss.take j)) (fun Q q => by walk_at "pu"; exact q _) (by rw [strsD_len]; omega) ⟨[], rfl, List.nil_sublist _⟩ ?_ ?_
          · rintro j d acc hd ⟨vs, rfl, hv⟩
            obtain ⟨o, ho, rfl⟩ := map_get hd
            have tk : ss.take (j + 1) = ss.take j ++ [o] := by rw [List.take_add_one, ho]; rfl
            walk_at "pu"
            refine ⟨2, rfl, by decide, by decide, fun k _ _ => ⟨.int k, rfl, rfl, ?_⟩⟩
            rw [tk]
            split
            · exact ⟨vs ++ [o], (strsD_app (a := vs) (b := [o])).symm, hv.append (List.Sublist.refl _)⟩
            · exact ⟨vs, rfl, hv.trans (List.sublist_append_left _ _)⟩
          · rintro acc ⟨vs, rfl, hv⟩ hvl
            rw [strsD_len, List.take_length] at hv
            obtain ⟨ms, nu, rfl⟩ := last_ex (l := ns) (by omega)
            walk_at "pu"
            refine go ?_
            walk_at "pu"
            refine ⟨_, ints_last.1, rfl, by rw [List.length_map]; omega, ?_⟩
            rw [ints_last.2]
            refine (hI _ _).mpr ⟨qs', ms, rws ++ [⟨nm, al, nu, vs⟩], _, _, _, _, _, by rw [List.map_append]; rfl, ?_, ?_, by rw [List.length_append, hl]; rfl, by omega, ?_⟩
            · rw [wordsP_app, List.append_assoc]
              refine (List.Perm.append_left _ ?_).trans hpp
              show ((nm :: al) ++ [] ++ qs').Perm (qs ++ [nm])
              rw [List.append_nil]
              exact ((List.perm_append_comm.trans hqa).cons nm).trans (List.perm_append_singleton nm qs).symm
            · rw [List.map_append, List.append_assoc]
              exact (List.Perm.append_left _ List.perm_append_comm).trans hnn
            · intro r hr
              rcases List.mem_append.mp hr with hr | hr
              · exact hsee r hr
              · obtain rfl : r = ⟨nm, al, nu, vs⟩ := by simpa using hr
                exact ⟨ssN.sublist hv, fun w hw => hv.subset hw⟩
        have skip := fin qs [] (by rw [List.append_nil]) (by omega)
        by_cases c1 : V.int k = V.int 0
        · rw [decide_eq_true c1, if_pos rfl]
          by_cases c2 : (many : Int) < ((strsD qs : List (Dt Ob)).length : Nat)
          · rw [decide_eq_true c2, if_pos rfl]
            rw [strsD_len] at c2
            obtain ⟨q2, a, rfl⟩ := last_ex (l := qs) (by omega)
            refine ⟨_, strs_last.1, rfl, ?_⟩
            rw [strs_last.2]
            rw [List.length_append, List.length_singleton] at c2
            exact fin q2 [a] (List.Perm.refl _) (by omega)
          · rw [decide_eq_false c2, if_neg Bool.false_ne_true]
            exact skip
        · rw [decide_eq_false c1, if_neg Bool.false_ne_true]
          exact skip
      · intro env' hi
        obtain ⟨ps, ns, rws, x2, x7, x8, x9, x10, rfl, hpp, hnn, hl, hm, hsee⟩ := (hI _ _).mp hi
        rw [rngD_len] at hl
        have wl := hpp.length_eq
        rw [List.length_append] at wl
        have good : GoodP rws ss 8 0 := by
          refine ⟨by omega, ?_, fun w hw => hws2.2.2 w (hpp.mem_iff.mp (List.mem_append_left _ hw)), by omega, ?_, fun r hr => numP_ok.2 r.num (hnn.mem_iff.mp (List.mem_append_left _ (List.mem_map_of_mem hr))), ssN, ssL, ssK, hsee⟩
          · exact (hpp.nodup_iff.mpr hws2.1).sublist (List.sublist_append_left _ _)
          · exact (hnn.nodup_iff.mpr numP_ok.1).sublist (List.sublist_append_left _ _)
        subst hL
        refine go ?_
        walk_at "pu"
        refine go ?_
        walk_at "pu"
        refine go ?_
        walk_at "pu"
        refine ⟨2, rfl, by decide, by decide, fun k _ _ => ?_⟩
        walk_at "pu"
        refine ⟨rfl, ?_⟩
        by_cases c : V.int k = V.int 0
        · rw [decide_eq_true c, if_pos rfl]
          refine ⟨rws, [], rfl, by omega, by omega, ?_⟩
          walk_at "pu"
          refine mix_strs (by omega) (fun w hw => (good.wk w hw).2) fun gs hgs => ?_
          have gl := hgs.length_eq
          have wn := wordsP_in (List.mem_of_getElem? (List.getElem?_eq_getElem (show 0 < rws.length by omega)))
          walk_at "pu"
          refine go ?_
          walk_at "pu"
          refine ⟨_, rfl, by rw [strsD_len]; omega, by rw [strsD_len]; omega, fun k hk0 _ => ?_⟩
          walk_at "pu"
          rw [cutToS (by omega)]
          refine go ?_
          walk_at "pu"
          exact hq rws ss _ good (by omega) (.inr ⟨_, rfl, by rw [List.length_take]; omega⟩)
        · rw [decide_eq_false c, if_neg Bool.false_ne_true]
          refine go ?_
          walk_at "pu"
          exact hq rws ss .non good (by omega) (.inl rfl)
    by_cases c : V.int k0 = V.int 0
    · rw [decide_eq_true c, if_pos rfl]
      exact fin poolB (.inr rfl)
    · rw [decide_eq_false c, if_neg Bool.false_ne_true]
      exact fin poolA (.inl rfl)
end
end Pu
/-! ### _law_copy gives a plan of the caller's own -/
namespace Pu
open PySem PySem.W PySem.Spec PyProof.Rows L2 Gk
def RowAtP (H : Hp) (v : V) (r : PR) : Prop := ∃ t a s, v = .ref t ∧ H t = some (.lst [.str r.name, .ref a, .int r.num, .ref s]) ∧ H a = some (.lst (r.al.map V.str)) ∧ H s = some (.lst (r.see.map V.str))
section
variable {P : Program} {w : World} {Ob : Type} {W : Wd Ob} {mg : Str → Option Value} {base : Heap}
def spCopyX (Ob : Type) : Sp := fun vs H Q _ => ∃ (pl rw st : Addr) (gv : V) (us : List V) (rows : List PR) (sets : List Str), vs = [.ref pl] ∧ H pl = some (.lst [.ref rw, .ref st, gv]) ∧ H rw = some (.lst us) ∧ Paired (RowAtP H) us rows ∧ rows.length ≤ 100 ∧ H st = some (.lst (sets.map V.str)) ∧
  ∀ (H' : Hp) (t r s : Addr) (O : List Addr), Same H H' → H t = none → H' t = some (.lst [.ref r, .ref s, .non]) → H s = none → H' s = some (.lst (sets.map V.str)) → s ≠ t →
    (∀ (W : Wd Ob) p (D : Addr → Prop), (∀ b ∈ O, D b) → RM W p D H' true O (.ref r) (.lst (rows.map rowP))) → (∀ b ∈ O, H b = none ∧ b ≠ t ∧ b ≠ s) → Q (.ref t) H'
theorem rm_strs {p : Option Addr} {D : Addr → Prop} {H : Hp} {q : Addr} {ws : List Str} (h : H q = some (.lst (ws.map V.str))) : RM W p D H true [q] (.ref q) (.lst (strsD ws)) := .lst (O := []) h (RMs.flat (flatsS ws)) fun m => by cases m
theorem rm_row {p : Option Addr} {D : Addr → Prop} {H : Hp} {q q1 q2 : Addr} {r : PR} (h : H q = some (.lst [.str r.name, .ref q1, .int r.num, .ref q2])) (h1 : H q1 = some (.lst (r.al.map V.str))) (h2 : H q2 = some (.lst (r.see.map V.str))) (n1 : q ≠ q1) (n2 : q ≠ q2) (n12 : q1 ≠ q2) :
    RM W p D H true [q, q1, q2] (.ref q) (rowP r) := by
  have fl : ∀ {v : V} {d : Dt Ob}, d.fv = some v → d.isL = false → RM W p D H true [] v d := fun e i => .cl (fun _ => i) (R0.of_fv e)
  have i4 : RMs W p D H true ([q2] ++ []) [.ref q2] [.lst (strsD r.see)] := .cons (rm_strs h2) .nil fun _ _ m => by cases m
  have i3 : RMs W p D H true ([] ++ ([q2] ++ [])) [.int r.num, .ref q2] [.int r.num, .lst (strsD r.see)] := .cons (fl rfl rfl) i4 fun _ m => by cases m
  have i2 : RMs W p D H true ([q1] ++ ([] ++ ([q2] ++ []))) [.ref q1, .int r.num, .ref q2] [.lst (strsD r.al), .int r.num, .lst (strsD r.see)] := .cons (rm_strs h1) i3 fun b m z => by
    obtain rfl : b = q1 := by simpa using m
    exact n12 (by simpa using z)
  have i1 : RMs W p D H true ([] ++ ([q1] ++ ([] ++ ([q2] ++ [])))) [.str r.name, .ref q1, .int r.num, .ref q2] [.str r.name, .lst (strsD r.al), .int r.num, .lst (strsD r.see)] := .cons (fl rfl rfl) i2 fun _ m => by cases m
  refine .lst h i1 fun m => ?_
  rcases List.mem_cons.mp (show q ∈ [q1, q2] from m) with z | z
  · exact n1 z
  · exact n2 (by simpa using z)
theorem none_back {H H' : Hp} {q : Addr} (s : Same H H') (n : H' q = none) : H q = none := by
  cases e : H q with
  | none => rfl
  | some u => rw [s q u e] at n; cases n
theorem ok_copyX {f : Addr} {fd : FuncData} (Fu : Fun W.K "_law_copy" "_law_copy" sP_copy f fd) (B : Blt mg) : FnOk P w W.K mg base CX0 1 f fd ["plan"] (spCopyX Ob) := by
  refine Fu.ok scP_copy (fun vs H Q E h => ?_) (fun cdv A outer s H vs Q E hr h => ?_)
  · obtain ⟨pl, rw, st, gv, us, rows, sets, rfl, _⟩ := h
    rfl
  · obtain ⟨pl, rw, st, gv, us, rows, sets, rfl, hpl, hrw, hrs, hl, hst, k⟩ := h
    have nd := scP_copy.nd
    refine ⟨_, (pss_cons (ps_setLc (i := 1) (own := [("row", 2)]) (te := (tLst (tCons (tOp (rIxL W.K) (tVar 2) (tC (.int 0))) (tCons (tCB (rListP W.K) (tCons (tOp (rIxL W.K) (tVar 2) (tC (.int 1))) tNil)) (tCons (tOp (rIxL W.K) (tVar 2) (tC (.int 2))) (tCons (tCB (rListP W.K) (tCons (tOp (rIxL W.K) (tVar 2) (tC (.int 3))) tNil)) tNil)))))) (g := (gName 2)) (tt := tYes) rfl nd rfl rfl (sw_true rfl rfl rfl (by decide +kernel)) (pi_list (pe_ix ix_list (pv 0) pe_int (fun _ _ => rfl))) (blkOk_by (N := nP_copy) (sc := defScope sP_copy) (by decide +kernel)) (fun _ _ _ _ _ => (pg_name (i := 2) nd rfl (Or.inl rfl))) (fun _ _ _ _ _ => pts_nil) (fun _ _ _ _ _ => by exact (pe_lst (pa_cons (pe_ix ix_list (pv 2) pe_int (fun _ _ => rfl)) (pa_cons (pe_callTy call_list_of (by rfl) B.list bt_list (pa_cons (pe_ix ix_list (pv 2) pe_int (fun _ _ => rfl)) pa_nil)) (pa_cons (pe_ix ix_list (pv 2) pe_int (fun _ _ => rfl)) (pa_cons (pe_callTy call_list_of (by rfl) B.list bt_list (pa_cons (pe_ix ix_list (pv 2) pe_int (fun _ _ => rfl)) pa_nil)) pa_nil))))))) (pss_one (ps_ret (pe_lst (pa_cons (pv 1) (pa_cons (pe_callTy call_list_of (by rfl) B.list bt_list (pa_cons (pe_ix ix_list (pv 0) pe_int (fun _ _ => rfl)) pa_nil)) (pa_cons pe_non pa_nil))))))), ?_⟩
    have len := paired_len hrs
    walk_at "rd"
    refine ⟨_, rfl, pl, _, 0, _, rfl, rfl, SqL.of hpl, rfl, rw, rfl, ⟨us, SqL.of hrw⟩, fun D hD => ?_⟩
    refine lc_list (K := W.K) (a := rw) (xs := us) (fun i H' => ∃ (vs : List V) (O : List Addr), Same H H' ∧ H' D = some (.lst vs) ∧ vs.length = i ∧ (∀ (W : Wd Ob) p (D' : Addr → Prop), D' D → RMs W p D' H' true O vs ((rows.take i).map rowP)) ∧ ∀ b ∈ O, H b = none ∧ b ≠ D) ⟨[], [], (Same.refl H).new hD, upd_same, rfl, fun _ _ _ _ => .nil, fun b m => by cases m⟩ ?_ ?_ ?_
    · rintro i H' _ ⟨vs, O, sm, _⟩
      exact SqL.of (sm _ _ hrw)
    · rintro i v H' hi ⟨vs, O, sm, cD, vl, hO, nO⟩
      obtain ⟨x, hx, t, a, s', rfl, ht, ha, hs⟩ := paired_left hrs hi
      have il : i < rows.length := (List.getElem?_eq_some_iff.mp hx).1
      have et : (rows.take (i + 1)).map (rowP (Ob := Ob)) = (rows.take i).map rowP ++ [rowP x] := by rw [List.take_add_one, hx, List.map_append]; rfl
      refine ⟨rfl, ?_⟩
      unfold tYes
      show (if true = true then _ else _)
      rw [if_pos rfl]
      walk_at "rd"
      refine ⟨t, _, 0, _, rfl, rfl, SqL.of (sm _ _ ht), rfl, ?_⟩
      walk_at "rd"
      refine ⟨t, _, 1, _, rfl, rfl, SqL.of (sm _ _ ht), rfl, ?_⟩
      walk_at "rd"
      refine ⟨a, _, rfl, .inl (SqL.of (sm _ _ ha)), fun q1 n1 => ?_⟩
      have sm1 := sm.new (o := .lst (x.al.map V.str)) n1
      have c1 : upd H' q1 (.lst (x.al.map V.str)) q1 = some (.lst (x.al.map V.str)) := upd_same
      have k1 : Same H' (upd H' q1 (.lst (x.al.map V.str))) := (Same.refl H').new n1
      generalize upd H' q1 (.lst (x.al.map V.str)) = H1 at sm1 c1 k1
      walk_at "rd"
      refine ⟨t, _, 2, _, rfl, rfl, SqL.of (sm1 _ _ ht), rfl, ?_⟩
      walk_at "rd"
      refine ⟨t, _, 3, _, rfl, rfl, SqL.of (sm1 _ _ ht), rfl, ?_⟩
      walk_at "rd"
      refine ⟨s', _, rfl, .inl (SqL.of (sm1 _ _ hs)), fun q2 n2 => ?_⟩
      have sm2 := sm1.new (o := .lst (x.see.map V.str)) n2
      have c2 : upd H1 q2 (.lst (x.see.map V.str)) q2 = some (.lst (x.see.map V.str)) := upd_same
      have k2 : Same H1 (upd H1 q2 (.lst (x.see.map V.str))) := (Same.refl H1).new n2
      generalize upd H1 q2 (.lst (x.see.map V.str)) = H2 at sm2 c2 k2
      walk_at "rd"
      refine ⟨by show 4 ≤ sizeLine; decide, fun q3 n3 => ?_⟩
      have sm3 := sm2.new (o := .lst [.str x.name, .ref q1, .int x.num, .ref q2]) n3
      have c3 : upd H2 q3 (.lst [.str x.name, .ref q1, .int x.num, .ref q2]) q3 = some (.lst [.str x.name, .ref q1, .int x.num, .ref q2]) := upd_same
      have k3 : Same H2 (upd H2 q3 (.lst [.str x.name, .ref q1, .int x.num, .ref q2])) := (Same.refl H2).new n3
      generalize upd H2 q3 (.lst [.str x.name, .ref q1, .int x.num, .ref q2]) = H3 at sm3 c3 k3
      have k12 := k1.trans k2
      have kk := k12.trans k3
      have n12 : q1 ≠ q2 := ne_of_none c1 n2
      have n13 : q1 ≠ q3 := ne_of_none (k2 _ _ c1) n3
      have n23 : q2 ≠ q3 := ne_of_none c2 n3
      have d1 : D ≠ q1 := ne_of_none cD n1
      have d2 : D ≠ q2 := ne_of_none (k1 _ _ cD) n2
      have d3 : D ≠ q3 := ne_of_none (k12 _ _ cD) n3
      have z2 : H' q2 = none := none_back k1 n2
      have z3 : H' q3 = none := none_back k12 n3
      refine ⟨vs, kk _ _ cD, ?_, vs ++ [.ref q3], O ++ ([q3, q1, q2] ++ []), sm3.mut hD, upd_same, by rw [List.length_append, vl]; rfl, fun W p D' hD' => ?_, fun b hb => ?_⟩
      · rw [vl]
        exact Nat.lt_of_le_of_lt (show i ≤ 100 by omega) (by decide)
      · rw [et]
        refine RMs.append ((hO W p D' hD').mono (by rw [hide_upd_in hD']; exact hide_keep fun b u _ e => kk b u e) fun b m u e => by rw [upd_ne (nO b m).2]; exact kk b u e) (.cons (rm_row (by rw [upd_ne d3.symm]; exact c3) (by rw [upd_ne d1.symm]; exact k3 _ _ (k2 _ _ c1)) (by rw [upd_ne d2.symm]; exact k3 _ _ c2) n13.symm n23.symm n12) .nil fun _ _ m => by cases m) fun b m z => ?_
        obtain ⟨u, eu, _⟩ := (hO W p D' hD').soft b m
        simp only [List.append_nil, List.mem_cons, List.not_mem_nil, or_false] at z
        rcases z with rfl | rfl | rfl
        · rw [z3] at eu; cases eu
        · rw [n1] at eu; cases eu
        · rw [z2] at eu; cases eu
      · rcases List.mem_append.mp hb with hb | hb
        · exact nO b hb
        · simp only [List.append_nil, List.mem_cons, List.not_mem_nil, or_false] at hb
          rcases hb with rfl | rfl | rfl
          · exact ⟨none_back sm z3, d3.symm⟩
          · exact ⟨none_back sm n1, d1.symm⟩
          · exact ⟨none_back sm z2, d2.symm⟩
    · rintro H' ⟨vs, O, sm, cD, vl, hO, nO⟩
      rw [len, List.take_length] at hO
      walk_at "rd"
      refine ⟨pl, _, 1, _, rfl, rfl, SqL.of (sm _ _ hpl), rfl, ?_⟩
      walk_at "rd"
      refine ⟨st, _, rfl, .inl (SqL.of (sm _ _ hst)), fun q nq => ?_⟩
      walk_at "rd"
      refine ⟨by show 3 ≤ sizeLine; decide, fun t nt => ?_⟩
      have nqt : q ≠ t := ne_of_none upd_same nt
      have ntb : H' t = none := none_back ((Same.refl H').new nq) nt
      have kk : Same H' (upd (upd H' q (.lst (sets.map V.str))) t (.lst [.ref D, .ref q, .non])) := ((Same.refl H').new nq).new nt
      refine k _ t D q (D :: O) ((sm.new nq).new nt) (none_back sm ntb) upd_same (none_back sm nq) (by rw [upd_ne nqt]; exact upd_same) nqt (fun W p D' hD' => ?_) fun b hb => ?_
      · exact .lst (kk _ _ cD) ((hO W p D' (hD' D List.mem_cons_self)).mono (hide_keep fun b u _ e => kk b u e) fun b m u e => kk b u e) fun m => (nO D m).2 rfl
      · have sf : ∃ u, H' b = some u := by
          rcases List.mem_cons.mp hb with rfl | hb
          · exact ⟨_, cD⟩
          · obtain ⟨u, e, _⟩ := (hO W none (fun b => b = D) rfl).soft b hb
            exact ⟨u, e⟩
        obtain ⟨u, eu⟩ := sf
        refine ⟨?_, ne_of_none eu ntb, ne_of_none eu nq⟩
        rcases List.mem_cons.mp hb with rfl | hb
        · exact hD
        · exact (nO b hb).1
end
end Pu
/-! ### rows, sets, given = _law_copy(plan): the rows are the caller's own -/
namespace Pu
open PySem PySem.W PySem.Spec PyProof.Rows L2 Gk
section
variable {Ob : Type} {W : Wd Ob} {C : Ct} {H H' : Hp} {v : V} {t : Dt Ob} {σ : L2.St} {env : PEnv Ob} {i j l : Nat} {pe : PTE Ob} {te : TE}
theorem StS.setDeep (s : StS W C σ H env) (g : Grow C.p H H') {O : List Addr} (hO : ∀ b ∈ O, H b = none) (hi : i < env.length) (r : ∀ D : Addr → Prop, (∀ b ∈ O, D b) → RM W C.p D H' true O v t) : StS W C (σ.set i (some v)) H' (env.set i (.deep O true t)) := by
  have own : ∀ b ∈ O, DOf C (σ.set i (some v)) (env.set i (.deep O true t)) b := fun b m => .inr ⟨s.g0.back (hO b m), i, .deep O true t, some v, by rw [List.getElem?_set_self hi], by rw [List.getElem?_set_self (by rw [s.lenE]; exact hi)], m⟩
  refine s.put g (fun b u e => ?_) ⟨v, O, rfl, r _ own, fun _ m => m, fun b m => ⟨own b m, s.hv.np (hO b m)⟩⟩ fun a m => ⟨s.g0.back (hO a m), (r (fun _ => True) fun _ _ => trivial).soft a m, fun z => s.hv.nd (hO a m) (.inl (.inr z)), fun k y u n e q o => s.hv.nd (hO a m) (.inr ⟨s.g0.back (hO a m), k, y, u, e, q, o⟩)⟩
  obtain ⟨n, e⟩ := hide_some e
  have n2 : ¬ DOf C (σ.set i (some v)) (env.set i (.deep O true t)) b := fun z => by
    rcases DOf.set_any b z with z | z
    · exact n z
    · rw [hO b z] at e; cases e
  rw [hide_at n2]
  exact g.keep b u (fun z => n (s.hv.src b z).1) e
theorem R0.rowP {p : Option Addr} {H : Hp} {v : V} {r : PR} (h : R0 W p H v (rowP r)) : RowAtP H v r := by
  unfold Pu.rowP at h
  cases h with
  | lst h1 r1 =>
    cases r1 with
    | cons a1 r1 =>
      cases r1 with
      | cons a2 r1 =>
        cases r1 with
        | cons a3 r1 =>
          cases r1 with
          | cons a4 r1 =>
            cases r1
            cases a1
            cases a3
            cases a2 with
            | lst h2 r2 =>
              cases a4 with
              | lst h4 r4 =>
                obtain rfl := r2.flats (flatsS _)
                obtain rfl := r4.flats (flatsS _)
                exact ⟨_, _, _, rfl, h1, h2, h4⟩
theorem RA.rowsP {p : Option Addr} {H : Hp} : ∀ {us : List V} {rows : List PR}, RA W p H us (rows.map rowP) → Paired (RowAtP H) us rows
  | [], [], _ => .nil
  | _ :: _, [], h => by cases h
  | [], _ :: _, h => by cases h
  | _ :: _, _ :: _, h => by
    cases h with
    | cons r t => exact .cons r.rowP (RA.rowsP t)
def pCopyU (i j l : Nat) (pe : PTE Ob) (pD : PEnds Ob) (env : PEnv Ob) : Prop := i < env.length ∧ j < env.length ∧ i ≠ j ∧ pe env fun fl d => fl ≠ .raw ∧ ∃ rows sets g, d = planP rows sets g ∧ rows.length ≤ 100 ∧
  ∀ O, pD.nx (((env.set i (.deep O true (.lst (rows.map rowP)))).set j (.own (strsD sets))).set l (.sh .non))
theorem snd_copyU {E : XK} (he : SndE W pe te) : SndS W (pCopyU i j l pe) (tAsg (tCall (frSp (spCopyX Ob)) [] E (tCons te tNil)) (gUnl W.K 3 (gCons (gName i) (gCons (gName j) (gCons (gName l) gNil))))) := by
  intro C pD D σ H env s h k
  obtain ⟨hi, hj, hij, h⟩ := h
  refine he C.p (DOf C σ env) σ H env _ _ s.e h fun fl d v H1 ⟨nr, rows, sets, g, ed, hl, q⟩ g1 r1 => ?_
  subst ed
  have s1 := s.grow g1
  have cl := r1.clean s.hv nr
  unfold planP at cl
  cases cl with
  | @lst pl us0 _ h0 r0 =>
    cases r0 with
    | cons a1 r0 =>
      cases r0 with
      | cons a2 r0 =>
        cases r0 with
        | cons a3 r0 =>
          cases r0
          cases a1 with
          | @lst rw us _ h2 r2 =>
            cases a2 with
            | @lst st us2 _ h3 r3 =>
              obtain rfl := r3.flats (flatsS _)
              refine ⟨DOf C σ env, s1.hv.sft, pl, rw, st, _, us, rows, sets, rfl, h0, h2, r2.rowsP, hl, h3, fun H' t r s' O sm nt ht ns hs nst hR hO gone => ?_⟩
              have gg := glue_grow s1.hv sm
              have nB : ∀ {b u}, H' b = some u → ¬ DOf C σ env b := fun e z => by rw [gone _ z] at e; cases e
              have up : ∀ {b}, hide (DOf C σ env) H1 b = none → H' b ≠ none → H1 b = none := fun {b} e n => by
                cases x : H' b with
                | none => exact absurd x n
                | some u => rw [hide_at (nB x)] at e; exact e
              have ns1 : H1 s' = none := up ns (by rw [hs]; exact fun z => by cases z)
              have hR' : ∀ D : Addr → Prop, (∀ b ∈ O, D b) → RM W C.p D (glue (DOf C σ env) H1 H') true O (.ref r) (.lst (rows.map rowP)) := fun D hD => by
                exact (hR W C.p D hD).mono (hide_keep fun b u _ e => by rw [glue_at (nB e)]; exact e) fun b m u e => by rw [glue_at (nB e)]; exact e
              have s2 := s1.setOwn (i := j) (H' := upd H1 s' (.lst (sets.map V.str))) (x := .own (strsD sets)) (Grow.new s1.hv ns1) ns1 hj (fun b => ⟨fun z => by
                have z : (some (V.ref s') : Option V) = some (.ref b) := z
                cases z
                rfl, fun z => by rw [z]; rfl⟩) ⟨_, upd_same, .inl ⟨_, rfl⟩⟩ fun D' _ d => ⟨s', _, rfl, d, s1.hv.np ns1, upd_same, RA.of_fv (flatsS sets)⟩
              have gs : glue (DOf C σ env) H1 H' s' = some (.lst (sets.map V.str)) := by rw [glue_at (nB hs)]; exact hs
              have g2 : Grow C.p (upd H1 s' (.lst (sets.map V.str))) (glue (DOf C σ env) H1 H') := ⟨fun b u n e => by
                by_cases z : b = s'
                · subst z
                  rw [upd_same] at e
                  rw [← e]
                  exact gs
                · rw [upd_ne z] at e
                  exact gg.keep b u n e, gg.src⟩
              have s3 := s2.setDeep (i := i) (v := .ref r) (t := .lst (rows.map rowP)) g2 (O := O) (fun b m => by
                rw [upd_ne (hO b m).2.2]
                obtain ⟨u, eu, _⟩ := (hR W none (fun _ => True) fun _ _ => trivial).soft b m
                exact up (hO b m).1 (by rw [eu]; exact fun z => by cases z)) (by rw [List.length_set]; exact hi) hR'
              rw [List.set_comm _ _ hij.symm, List.set_comm _ _ hij.symm] at s3
              refine ⟨t, [.ref r, .ref s', .non], rfl, SqL.of (by rw [glue_at (nB ht)]; exact ht), rfl, .ref r, [.ref s', .non], rfl, .ref s', [.non], rfl, .non, [], rfl, rfl, ?_⟩
              exact k.nx _ _ _ (s3.setSh (i := l) .non) (q O)
end
end Pu
/-! ### the greatest of a list; paths within the rows of a plan -/
namespace Pu
open PySem PySem.W PySem.Spec PyProof.Rows L2 Gk
structure CalS (P : Program) (w : World) (K : Frag) (mg : Str → Option Value) (base : Heap) (x : Str) (k : Nat) (ps : List Str) (sp : Sp) : Prop where
  ex : ∃ (f : Addr) (fd : FuncData), FnOk P w K mg base CX0 k f fd ps sp ∧ Binds K fd ps [] ∧ mg x = some (.ref f) ∧ keepIn K (.ref f) = true
section
variable {Ob : Type} {W : Wd Ob}
def prMaxL (xs : List (Dt Ob)) (Q : PQ Ob) : Prop := ∃ is : List Int, xs = [.lst (is.map Dt.int)] ∧ 0 < is.length ∧ ∀ m, m ∈ is → (∀ y ∈ is, y ≤ m) → Q .cl (.int m)
theorem flatsI : ∀ is : List Int, flats (is.map Dt.int : List (Dt Ob)) = some (is.map V.int)
  | [] => rfl
  | i :: is => by
    show flats (.int i :: is.map Dt.int) = _
    unfold flats
    rw [flatsI is]
    rfl
theorem snd_maxL : SndB W prMaxL (rMax W.K) := by
  intro p D H vs ds Qp Q hv hs h k
  obtain ⟨is, rfl, h0, q⟩ := h
  obtain ⟨v, rfl, r⟩ := rv1 hs
  obtain ⟨a, us, rfl, ha, r⟩ := r.lst
  obtain rfl := r.flats (flatsI is)
  exact ⟨a, is, rfl, SqL.of ha, h0, fun m hm hx => k _ _ _ H (q m hm hx) (Grow.refl hv) (.int m)⟩
variable {rows : List PR} {r : PR} {a : Nat} {env : PEnv Ob} {Q : List Nat → Prop}
theorem ixN_nat {n i : Nat} (h : i < n) : ixN n (i : Int) = some i := by
  unfold ixN
  rw [if_pos (by omega), if_pos (by omega)]
  simp
theorem atI_last {α : Type} {l : List α} {x : α} : atI (l ++ [x]) (-1) = some x := by
  have e : ixN (l ++ [x]).length (-1) = some l.length := by
    unfold ixN
    rw [if_neg (by decide), if_pos (by rw [List.length_append, List.length_singleton]; omega)]
    rw [List.length_append, List.length_singleton]
    congr 1
    omega
  unfold atI
  rw [e]
  exact List.getElem?_concat_length
theorem rowsP_at (h : rows[a]? = some r) : (rows.map (rowP (Ob := Ob)))[a]? = some (rowP r) := by rw [List.getElem?_map, h]; rfl
theorem subP1 (h : rows[a]? = some r) : subL (.lst (rows.map (rowP (Ob := Ob)))) [a] = some [.str r.name, .lst (strsD r.al), .int r.num, .lst (strsD r.see)] := by
  unfold subL
  rw [rowsP_at h]
  rfl
theorem subP11 (h : rows[a]? = some r) : subL (.lst (rows.map (rowP (Ob := Ob)))) [a, 1] = some (strsD r.al) := by
  unfold subL
  rw [rowsP_at h]
  rfl
theorem subP13 (h : rows[a]? = some r) : subL (.lst (rows.map (rowP (Ob := Ob)))) [a, 3] = some (strsD r.see) := by
  unfold subL
  rw [rowsP_at h]
  rfl
theorem putP1 (h : rows[a]? = some r) (r' : PR) : putL (.lst (rows.map (rowP (Ob := Ob)))) [a] [.str r'.name, .lst (strsD r'.al), .int r'.num, .lst (strsD r'.see)] = .lst ((rows.set a r').map rowP) := by
  unfold putL
  rw [rowsP_at h, List.map_set]
  rfl
theorem putP11 (h : rows[a]? = some r) (xs : List Str) : putL (.lst (rows.map (rowP (Ob := Ob)))) [a, 1] (strsD xs) = .lst ((rows.set a { r with al := xs }).map rowP) := by
  unfold putL
  rw [rowsP_at h, List.map_set]
  rfl
theorem putP13 (h : rows[a]? = some r) (xs : List Str) : putL (.lst (rows.map (rowP (Ob := Ob)))) [a, 3] (strsD xs) = .lst ((rows.set a { r with see := xs }).map rowP) := by
  unfold putL
  rw [rowsP_at h, List.map_set]
  rfl
theorem px_row {k : Nat} (hk : (shE env)[k]? = some (.sh (.int (a : Nat)))) (h : rows[a]? = some r) (q : Q [a]) : pxi pxv (pVar k) env (.lst (rows.map rowP)) Q := by
  have al := (List.getElem?_eq_some_iff.mp h).1
  refine ⟨⟨_, rfl⟩, ?_⟩
  refine Eq.mpr (ev_var hk) ?_
  exact ⟨a, a, rows.map rowP, _, rfl, rfl, ixN_nat (by rw [List.length_map]; exact al), rowsP_at h, q⟩
theorem px_row1 {k : Nat} (hk : (shE env)[k]? = some (.sh (.int (a : Nat)))) (h : rows[a]? = some r) (q : Q [a, 1]) : pxi (pxi pxv (pVar k)) (pC (.int 1)) env (.lst (rows.map rowP)) Q := by
  show pxi pxv (pVar k) env _ (fun path => ∃ k j ds cs, Dt.int 1 = .int k ∧ subL _ path = some ds ∧ ixN ds.length k = some j ∧ ds[j]? = some (.lst cs) ∧ Q (path ++ [j]))
  exact px_row hk h ⟨1, 1, _, strsD r.al, rfl, subP1 h, rfl, rfl, q⟩
theorem px_row3 {k : Nat} (hk : (shE env)[k]? = some (.sh (.int (a : Nat)))) (h : rows[a]? = some r) (q : Q [a, 3]) : pxi (pxi pxv (pVar k)) (pC (.int 3)) env (.lst (rows.map rowP)) Q := by
  show pxi pxv (pVar k) env _ (fun path => ∃ k j ds cs, Dt.int 3 = .int k ∧ subL _ path = some ds ∧ ixN ds.length k = some j ∧ ds[j]? = some (.lst cs) ∧ Q (path ++ [j]))
  exact px_row hk h ⟨3, 3, _, strsD r.see, rfl, subP1 h, rfl, rfl, q⟩
end
end Pu
/-! ### how good plans change -/
namespace Pu
open PySem PySem.W PySem.Spec PyProof.Rows L2 Gk
theorem nodup_sub_len {α : Type} : ∀ {l1 l2 : List α}, l1.Nodup → (∀ x ∈ l1, x ∈ l2) → l1.length ≤ l2.length
  | [], _, _, _ => Nat.zero_le _
  | x :: l1, l2, nd, sub => by
    obtain ⟨s, t, rfl⟩ := List.append_of_mem (sub x List.mem_cons_self)
    rw [List.nodup_cons] at nd
    have := nodup_sub_len (l1 := l1) (l2 := s ++ t) nd.2 fun y hy => by
      have ne : y ≠ x := fun e => nd.1 (e ▸ hy)
      rcases List.mem_append.mp (sub y (List.mem_cons_of_mem _ hy)) with h | h
      · exact List.mem_append_left _ h
      · rcases List.mem_cons.mp h with h | h
        · exact absurd h ne
        · exact List.mem_append_right _ h
    rw [List.length_append] at this
    rw [List.length_cons, List.length_append, List.length_cons]
    omega
theorem wordsP_perm {a b : List PR} (h : a.Perm b) : (wordsP a).Perm (wordsP b) := by
  unfold wordsP
  exact h.flatMap_right _
theorem GoodP.perm {rows rows' : List PR} {sets : List Str} {n m : Nat} (g : GoodP rows sets n m) (h : rows.Perm rows') : GoodP rows' sets n m := by
  have w := wordsP_perm h
  exact ⟨by rw [← h.length_eq]; exact g.lo, w.nodup_iff.mp g.wn, fun x hx => g.wk x (w.mem_iff.mpr hx), by rw [← w.length_eq]; exact g.wl, (h.map _).nodup_iff.mp g.nn, fun r hr => g.nk r (h.mem_iff.mpr hr), g.sn, g.sl, g.sk, fun r hr => g.see r (h.mem_iff.mpr hr)⟩
theorem rows_at {rows : List PR} {a : Nat} {r : PR} (h : rows[a]? = some r) : rows.Perm (r :: rows.eraseIdx a) := (er_perm h).symm
theorem rows_set {rows : List PR} {a : Nat} {r : PR} (h : rows[a]? = some r) (r' : PR) : (rows.set a r').Perm (r' :: rows.eraseIdx a) := by
  have al := (List.getElem?_eq_some_iff.mp h).1
  have e : (rows.set a r')[a]? = some r' := List.getElem?_set_self al
  have := rows_at e
  rwa [List.eraseIdx_set_eq] at this
/-- the row in front is another one, whose words are the same -/
theorem GoodP.head {R : List PR} {r r' : PR} {sets sets' : List Str} {n m : Nat} (g : GoodP (r :: R) sets n m) (w : (r'.name :: r'.al).Perm (r.name :: r.al)) (nf : r'.num = r.num ∨ ((∀ x ∈ R, x.num ≠ r'.num) ∧ 0 ≤ r'.num ∧ r'.num ≤ 21 + (m : Int)))
    (s1 : sets'.Nodup) (s2 : sets'.length ≤ 3) (s3 : ∀ x ∈ sets', NmP x) (s4 : ∀ x ∈ sets, x ∈ sets') (s5 : r'.see.Nodup ∧ ∀ x ∈ r'.see, x ∈ sets') : GoodP (r' :: R) sets' n (m + 1) := by
  have ww : (wordsP (r' :: R)).Perm (wordsP (r :: R)) := by
    rw [wordsP_cons, wordsP_cons]
    exact w.append_right _
  refine ⟨g.lo, ww.nodup_iff.mpr g.wn, fun x hx => g.wk x (ww.mem_iff.mp hx), by rw [ww.length_eq]; exact g.wl, ?_, fun x hx => ?_, s1, s2, s3, fun x hx => ?_⟩
  · have nn := g.nn
    rw [List.map_cons, List.nodup_cons] at nn ⊢
    refine ⟨fun z => ?_, nn.2⟩
    rcases nf with e | ⟨f, _⟩
    · rw [e] at z; exact nn.1 z
    · obtain ⟨x, hx, e⟩ := List.mem_map.mp z
      exact f x hx e
  · rcases List.mem_cons.mp hx with rfl | hx
    · rcases nf with e | ⟨_, lo, hi⟩
      · rw [e]
        have := g.nk r List.mem_cons_self
        exact ⟨this.1, by omega⟩
      · omega
    · have := g.nk x (List.mem_cons_of_mem _ hx)
      omega
  · rcases List.mem_cons.mp hx with rfl | hx
    · exact s5
    · have := g.see x (List.mem_cons_of_mem _ hx)
      exact ⟨this.1, fun y hy => s4 y (this.2 y hy)⟩
theorem GoodP.up {rows : List PR} {sets : List Str} {n n' m m' : Nat} (g : GoodP rows sets n m) (hn : n ≤ n') (hm : m ≤ m') : GoodP rows sets n' m' :=
  ⟨g.lo, g.wn, g.wk, Nat.le_trans g.wl hn, g.nn, fun r hr => by have := g.nk r hr; omega, g.sn, g.sl, g.sk, g.see⟩
section
variable {rows : List PR} {a b : Nat} {r rb : PR} {sets : List Str} {n m : Nat} {N : Int}
theorem GoodP.num (g : GoodP rows sets n m) (h : rows[a]? = some r) (f : ∀ x ∈ rows, x.num ≠ N) (lo : 0 ≤ N) (hi : N ≤ 21 + (m : Int)) : GoodP (rows.set a { r with num := N }) sets n (m + 1) :=
  ((g.perm (rows_at h)).head (r' := { r with num := N }) (List.Perm.refl _) (.inr ⟨fun x hx => f x ((rows_at h).mem_iff.mpr (List.mem_cons_of_mem _ hx)), lo, hi⟩) g.sn g.sl g.sk (fun _ h => h) (g.see r (List.mem_of_getElem? h))).perm (rows_set h _).symm
theorem GoodP.addSet {s : Str} (g : GoodP rows sets n m) (h : rows[a]? = some r) (ns : s ∉ sets) (ok : NmP s) (l : sets.length < 3) : GoodP (rows.set a { r with see := r.see ++ [s] }) (sets ++ [s]) n (m + 1) := by
  have sr := g.see r (List.mem_of_getElem? h)
  refine ((g.perm (rows_at h)).head (r' := { r with see := r.see ++ [s] }) (List.Perm.refl _) (.inl rfl) ?_ ?_ ?_ (fun _ h => List.mem_append_left _ h) ⟨?_, ?_⟩).perm (rows_set h _).symm
  · rw [List.nodup_append]
    exact ⟨g.sn, by simp, fun x hx y hy => by obtain rfl : y = s := by simpa using hy
                                              exact fun e => ns (e ▸ hx)⟩
  · rw [List.length_append, List.length_singleton]; exact l
  · intro x hx
    rcases List.mem_append.mp hx with hx | hx
    · exact g.sk x hx
    · obtain rfl : x = s := by simpa using hx
      exact ok
  · show (r.see ++ [s]).Nodup
    rw [List.nodup_append]
    exact ⟨sr.1, by simp, fun x hx y hy => by obtain rfl : y = s := by simpa using hy
                                              exact fun e => ns (e ▸ sr.2 x hx)⟩
  · intro x hx
    rcases List.mem_append.mp hx with hx | hx
    · exact List.mem_append_left _ (sr.2 x hx)
    · exact List.mem_append_right _ hx
theorem GoodP.swapA {x : Str} {xs : List Str} (g : GoodP rows sets n m) (h : rows[a]? = some r) (e : r.al = x :: xs) : GoodP (rows.set a { r with name := x, al := r.name :: xs }) sets n (m + 1) := by
  refine ((g.perm (rows_at h)).head (r' := { r with name := x, al := r.name :: xs }) ?_ (.inl rfl) g.sn g.sl g.sk (fun _ h => h) (g.see r (List.mem_of_getElem? h))).perm (rows_set h _).symm
  rw [e]
  exact List.Perm.swap _ _ _
theorem GoodP.ins {x : Str} {ys : List Str} (g : GoodP rows sets n m) (h : rows[a]? = some r) (e : r.al = ys ++ [x]) (f : ∀ x ∈ rows, x.num ≠ N) (lo : 0 ≤ N) (hi : N ≤ 21 + (m : Int)) : GoodP ((rows.set a { r with al := ys }).take b ++ [(⟨x, [], N, []⟩ : PR)] ++ (rows.set a { r with al := ys }).drop b) sets n (m + 1) := by
  have p1 : ((rows.set a { r with al := ys }).take b ++ [(⟨x, [], N, []⟩ : PR)] ++ (rows.set a { r with al := ys }).drop b).Perm ((⟨x, [], N, []⟩ : PR) :: { r with al := ys } :: rows.eraseIdx a) := by
    rw [List.append_assoc]
    refine List.perm_middle.trans ?_
    show (_ :: (List.take b _ ++ List.drop b _)).Perm _
    rw [List.take_append_drop]
    exact (rows_set h _).cons _
  have g1 := g.perm (rows_at h)
  have w : (wordsP ((⟨x, [], N, []⟩ : PR) :: { r with al := ys } :: rows.eraseIdx a)).Perm (wordsP (r :: rows.eraseIdx a)) := by
    rw [wordsP_cons, wordsP_cons, wordsP_cons, e, ← List.append_assoc]
    refine List.Perm.append_right _ ?_
    show (x :: r.name :: ys).Perm (r.name :: (ys ++ [x]))
    exact (List.Perm.swap _ _ _).trans ((List.perm_append_singleton x ys).symm.cons _)
  refine GoodP.perm ?_ p1.symm
  have nr : N ∉ (({ r with al := ys } : PR) :: rows.eraseIdx a).map (·.num) := fun z => by
    obtain ⟨y, hy, e⟩ := List.mem_map.mp z
    rcases List.mem_cons.mp hy with rfl | hy
    · exact f r (List.mem_of_getElem? h) e
    · exact f y ((rows_at h).mem_iff.mpr (List.mem_cons_of_mem _ hy)) e
  refine ⟨Nat.succ_pos _, w.nodup_iff.mpr g1.wn, fun x hx => g1.wk x (w.mem_iff.mp hx), by rw [w.length_eq]; exact g1.wl, ?_, fun y hy => ?_, g.sn, g.sl, g.sk, fun y hy => ?_⟩
  · rw [List.map_cons, List.nodup_cons]
    exact ⟨nr, g1.nn⟩
  · rcases List.mem_cons.mp hy with rfl | hy
    · show -1000000000 ≤ N ∧ (N ≤ 20 + ((m + 1 : Nat) : Int) ∨ N = 1000000000)
      omega
    · rcases List.mem_cons.mp hy with rfl | hy
      · have := g.nk r (List.mem_of_getElem? h)
        show -1000000000 ≤ r.num ∧ (r.num ≤ 20 + ((m + 1 : Nat) : Int) ∨ r.num = 1000000000)
        omega
      · have := g1.nk y (List.mem_cons_of_mem _ hy)
        omega
  · rcases List.mem_cons.mp hy with rfl | hy
    · exact ⟨List.nodup_nil, fun _ h => by cases h⟩
    · rcases List.mem_cons.mp hy with rfl | hy
      · exact g.see r (List.mem_of_getElem? h)
      · exact g1.see y (List.mem_cons_of_mem _ hy)
theorem GoodP.merge (g : GoodP rows sets n m) (h : rows[a]? = some r) (hb : rows[b]? = some rb) (ne : a ≠ b) : GoodP ((rows.set b { rb with al := rb.al ++ (r.name :: r.al) }).take a ++ (rows.set b { rb with al := rb.al ++ (r.name :: r.al) }).drop (a + 1)) sets n (m + 1) := by
  obtain ⟨rb', hrb'⟩ : ∃ rb' : PR, rb' = { rb with al := rb.al ++ (r.name :: r.al) } := ⟨_, rfl⟩
  rw [← hrb']
  have h' : (rows.set b rb')[a]? = some r := by rw [List.getElem?_set_ne (Ne.symm ne)]; exact h
  have mem : r ∈ rows.eraseIdx b := List.mem_eraseIdx_iff_getElem?.mpr ⟨a, ne, h⟩
  obtain ⟨s, t, est⟩ := List.append_of_mem mem
  have pY : (rows.eraseIdx b).Perm (r :: (s ++ t)) := by rw [est]; exact List.perm_middle
  have pX : ((rows.set b rb').eraseIdx a).Perm (rb' :: (s ++ t)) := by
    have q : (r :: (rows.set b rb').eraseIdx a).Perm (r :: rb' :: (s ++ t)) := (rows_at h').symm.trans ((rows_set hb rb').trans ((pY.cons rb').trans (List.Perm.swap _ _ _)))
    exact q.cons_inv
  have eX : (rows.set b rb').take a ++ (rows.set b rb').drop (a + 1) = (rows.set b rb').eraseIdx a := (List.eraseIdx_eq_take_drop_succ _ _).symm
  rw [eX]
  have g1 : GoodP (rb :: r :: (s ++ t)) sets n m := g.perm ((rows_at hb).trans (pY.cons rb))
  refine GoodP.perm ?_ pX.symm
  have w : (wordsP (rb' :: (s ++ t))).Perm (wordsP (rb :: r :: (s ++ t))) := by
    rw [wordsP_cons, wordsP_cons, wordsP_cons, hrb', ← List.append_assoc]
    exact List.Perm.refl _
  have en : rb'.num = rb.num := by rw [hrb']
  have es : rb'.see = rb.see := by rw [hrb']
  refine ⟨Nat.succ_pos _, w.nodup_iff.mpr g1.wn, fun x hx => g1.wk x (w.mem_iff.mp hx), by rw [w.length_eq]; exact g1.wl, ?_, fun y hy => ?_, g.sn, g.sl, g.sk, fun y hy => ?_⟩
  · have nn := g1.nn
    rw [List.map_cons, List.map_cons, List.nodup_cons, List.nodup_cons] at nn
    rw [List.map_cons, List.nodup_cons, en]
    exact ⟨fun z => nn.1 (List.mem_cons_of_mem _ z), nn.2.2⟩
  · rcases List.mem_cons.mp hy with rfl | hy
    · have := g1.nk rb List.mem_cons_self
      rw [en]
      omega
    · have := g1.nk y (List.mem_cons_of_mem _ (List.mem_cons_of_mem _ hy))
      omega
  · rcases List.mem_cons.mp hy with rfl | hy
    · rw [es]; exact g1.see rb List.mem_cons_self
    · exact g1.see y (List.mem_cons_of_mem _ (List.mem_cons_of_mem _ hy))
end
end Pu
/-! ### more changes of good plans -/
namespace Pu
open PySem PySem.W PySem.Spec PyProof.Rows L2 Gk
def poolC : List Str := ["n", "new", "q", "xy", "nn", "old", "r", "u", "v", "w", "x", "y", "z", "aa", "bb"]
theorem poolC_ok : poolC.Nodup ∧ ∀ w ∈ poolC, NmP w := by decide +kernel
section
variable {rows : List PR} {a b : Nat} {r rb : PR} {sets : List Str} {n m : Nat} {N : Int} {w : Str}
theorem set_same (h : rows[a]? = some r) : rows.set a r = rows := by
  obtain ⟨hl, e⟩ := List.getElem?_eq_some_iff.mp h
  rw [← e]
  exact List.set_getElem_self hl
/-- a new row -/
theorem GoodP.more (g : GoodP rows sets n m) (nw : w ∉ wordsP rows) (ok : NmP w) (f : ∀ x ∈ rows, x.num ≠ N) (lo : 0 ≤ N) (hi : N ≤ 21 + (m : Int)) {vs : List Str} (hv : vs.Nodup ∧ ∀ x ∈ vs, x ∈ sets) (t : Nat) : GoodP (rows.take t ++ [(⟨w, [], N, vs⟩ : PR)] ++ rows.drop t) sets (n + 1) (m + 1) := by
  have p1 : (rows.take t ++ [(⟨w, [], N, vs⟩ : PR)] ++ rows.drop t).Perm ((⟨w, [], N, vs⟩ : PR) :: rows) := by
    rw [List.append_assoc]
    refine List.perm_middle.trans ?_
    show (_ :: (List.take t _ ++ List.drop t _)).Perm _
    rw [List.take_append_drop]
  refine GoodP.perm ?_ p1.symm
  refine ⟨Nat.succ_pos _, ?_, fun x hx => ?_, ?_, ?_, fun y hy => ?_, g.sn, g.sl, g.sk, fun y hy => ?_⟩
  · show (w :: wordsP rows).Nodup
    exact List.nodup_cons.mpr ⟨nw, g.wn⟩
  · rcases List.mem_cons.mp (show x ∈ w :: wordsP rows from hx) with rfl | hx
    · exact ok
    · exact g.wk x hx
  · show (w :: wordsP rows).length ≤ n + 1
    exact Nat.succ_le_succ g.wl
  · rw [List.map_cons, List.nodup_cons]
    exact ⟨fun z => by
      obtain ⟨y, hy, e⟩ := List.mem_map.mp z
      exact f y hy e, g.nn⟩
  · rcases List.mem_cons.mp hy with rfl | hy
    · show -1000000000 ≤ N ∧ (N ≤ 20 + ((m + 1 : Nat) : Int) ∨ N = 1000000000)
      omega
    · have := g.nk y hy
      omega
  · rcases List.mem_cons.mp hy with rfl | hy
    · exact hv
    · exact g.see y hy
/-- a row gets a new word -/
theorem GoodP.fresh (g : GoodP rows sets n m) (h : rows[a]? = some r) (nw : w ∉ wordsP rows) (ok : NmP w) {r' : PR} (hw : (r'.name :: r'.al).Perm (w :: r.name :: r.al)) (en : r'.num = r.num) (es : r'.see = r.see) : GoodP (rows.set a r') sets (n + 1) (m + 1) := by
  have g1 := g.perm (rows_at h)
  have nw1 : w ∉ wordsP (r :: rows.eraseIdx a) := fun z => nw ((wordsP_perm (rows_at h)).mem_iff.mpr z)
  refine GoodP.perm ?_ (rows_set h r').symm
  have ww : (wordsP (r' :: rows.eraseIdx a)).Perm (w :: wordsP (r :: rows.eraseIdx a)) := by
    rw [wordsP_cons, wordsP_cons]
    exact hw.append_right _
  refine ⟨Nat.succ_pos _, ww.nodup_iff.mpr (List.nodup_cons.mpr ⟨nw1, g1.wn⟩), fun x hx => ?_, by rw [ww.length_eq]; exact Nat.succ_le_succ g1.wl, ?_, fun y hy => ?_, g.sn, g.sl, g.sk, fun y hy => ?_⟩
  · rcases List.mem_cons.mp (ww.mem_iff.mp hx) with rfl | hx
    · exact ok
    · exact g1.wk x hx
  · have nn := g1.nn
    rw [List.map_cons] at nn ⊢
    rw [en]
    exact nn
  · rcases List.mem_cons.mp hy with rfl | hy
    · have := g1.nk r List.mem_cons_self
      rw [en]
      omega
    · have := g1.nk y (List.mem_cons_of_mem _ hy)
      omega
  · rcases List.mem_cons.mp hy with rfl | hy
    · rw [es]; exact g1.see r List.mem_cons_self
    · exact g1.see y (List.mem_cons_of_mem _ hy)
theorem GoodP.seeTo (g : GoodP rows sets n m) (h : rows[a]? = some r) {vs : List Str} (hv : vs.Nodup ∧ ∀ x ∈ vs, x ∈ sets) : GoodP (rows.set a { r with see := vs }) sets n (m + 1) :=
  ((g.perm (rows_at h)).head (r' := { r with see := vs }) (List.Perm.refl _) (.inl rfl) g.sn g.sl g.sk (fun _ h => h) hv).perm (rows_set h _).symm
/-- two rows in front -/
theorem rows_two (h : rows[a]? = some r) (hb : rows[b]? = some rb) (ne : a ≠ b) : ∃ R, rows.Perm (r :: rb :: R) ∧ ∀ r' rb' : PR, ((rows.set a r').set b rb').Perm (r' :: rb' :: R) := by
  have mem : rb ∈ rows.eraseIdx a := List.mem_eraseIdx_iff_getElem?.mpr ⟨b, Ne.symm ne, hb⟩
  obtain ⟨s, t, est⟩ := List.append_of_mem mem
  have pY : (rows.eraseIdx a).Perm (rb :: (s ++ t)) := by rw [est]; exact List.perm_middle
  refine ⟨s ++ t, (rows_at h).trans (pY.cons r), fun r' rb' => ?_⟩
  have hb' : (rows.set a r')[b]? = some rb := by rw [List.getElem?_set_ne ne]; exact hb
  have q : (rb :: (rows.set a r').eraseIdx b).Perm (rb :: r' :: (s ++ t)) := (rows_at hb').symm.trans ((rows_set h r').trans ((pY.cons r').trans (List.Perm.swap _ _ _)))
  exact (rows_set hb' rb').trans ((q.cons_inv.cons rb').trans (List.Perm.swap _ _ _))
/-- the names, or the numbers, of two rows change places -/
theorem GoodP.swap2 (g : GoodP rows sets n m) (h : rows[a]? = some r) (hb : rows[b]? = some rb) (ne : a ≠ b) {r' rb' : PR} (hw : ((r'.name :: r'.al) ++ (rb'.name :: rb'.al)).Perm ((r.name :: r.al) ++ (rb.name :: rb.al))) (hn : [r'.num, rb'.num].Perm [r.num, rb.num]) (e1 : r'.see = r.see) (e2 : rb'.see = rb.see) : GoodP ((rows.set a r').set b rb') sets n m := by
  obtain ⟨R, p1, p2⟩ := rows_two h hb ne
  have g1 := g.perm p1
  refine GoodP.perm ?_ (p2 r' rb').symm
  have ww : (wordsP (r' :: rb' :: R)).Perm (wordsP (r :: rb :: R)) := by
    rw [wordsP_cons, wordsP_cons, wordsP_cons, wordsP_cons, ← List.append_assoc, ← List.append_assoc]
    exact hw.append_right _
  have nn : ((r' :: rb' :: R).map (·.num)).Perm ((r :: rb :: R).map (·.num)) := by
    have q := hn.append_right (R.map fun x : PR => x.num)
    exact q
  refine ⟨Nat.succ_pos _, ww.nodup_iff.mpr g1.wn, fun x hx => g1.wk x (ww.mem_iff.mp hx), by rw [ww.length_eq]; exact g1.wl, nn.nodup_iff.mpr g1.nn, fun y hy => ?_, g.sn, g.sl, g.sk, fun y hy => ?_⟩
  · obtain ⟨z, hz, e⟩ := List.mem_map.mp (nn.mem_iff.mp (List.mem_map_of_mem (f := (·.num)) hy))
    have := g1.nk z hz
    rw [e] at this
    exact this
  · rcases List.mem_cons.mp hy with rfl | hy
    · rw [e1]; exact g1.see r List.mem_cons_self
    · rcases List.mem_cons.mp hy with rfl | hy
      · rw [e2]; exact g1.see rb (List.mem_cons_of_mem _ List.mem_cons_self)
      · exact g1.see y (List.mem_cons_of_mem _ (List.mem_cons_of_mem _ hy))
theorem GoodP.names2 (g : GoodP rows sets n m) (h : rows[a]? = some r) (hb : rows[b]? = some rb) (ne : a ≠ b) : GoodP ((rows.set a { r with name := rb.name }).set b { rb with name := r.name }) sets n m := by
  refine g.swap2 h hb ne ?_ (List.Perm.refl _) rfl rfl
  show (rb.name :: (r.al ++ (r.name :: rb.al))).Perm (r.name :: (r.al ++ (rb.name :: rb.al)))
  refine (List.Perm.cons _ List.perm_middle).trans ?_
  refine (List.Perm.swap _ _ _).trans (List.Perm.cons _ ?_)
  exact List.perm_middle.symm
theorem GoodP.nums2 (g : GoodP rows sets n m) (h : rows[a]? = some r) (hb : rows[b]? = some rb) (ne : a ≠ b) : GoodP ((rows.set a { r with num := rb.num }).set b { rb with num := r.num }) sets n m :=
  g.swap2 h hb ne (List.Perm.refl _) (List.Perm.swap _ _ _) rfl rfl
/-- a row is taken out and put in elsewhere -/
theorem GoodP.move (g : GoodP rows sets n m) (h : rows[a]? = some r) (t : Nat) : GoodP ((rows.take a ++ rows.drop (a + 1)).take t ++ [r] ++ (rows.take a ++ rows.drop (a + 1)).drop t) sets n m := by
  refine g.perm ?_
  rw [← List.eraseIdx_eq_take_drop_succ, List.append_assoc]
  refine (rows_at h).trans (List.Perm.symm ?_)
  refine List.perm_middle.trans ?_
  show (_ :: (List.take t _ ++ List.drop t _)).Perm _
  rw [List.take_append_drop]
end
end Pu
/-! ### one, old = (e, x[..][k]); x[..][k] = [.. old ..]: a list within is read and replaced -/
namespace Pu
open PySem PySem.W PySem.Spec PyProof.Rows L2 Gk
section
variable {Ob : Type} {W : Wd Ob} {C : Ct} {H H' : Hp} {σ : L2.St} {env : PEnv Ob} {i i1 i2 : Nat}
theorem StS.setNo {v : V} (s : StS W C σ H env) : StS W C (σ.set i (some v)) H (env.set i .no) :=
  s.put (Grow.refl s.hv) (hide_mono (H := H) (DOf.set_sh (C := C) (σ := σ) (env := env) (i := i) (v := v) (x := .no) rfl)) trivial fun _ z => z.elim
def pOld (i i1 i2 : Nat) (px : PX Ob) (pk pe1 pe2 pe3 : PTE Ob) (pD : PEnds Ob) (env : PEnv Ob) : Prop := ∃ O t, env[i]? = some (.deep O true t) ∧ i ≠ i1 ∧ i ≠ i2 ∧ pe1 (shE env) fun _ d1 => pe2 (shE env) fun fl2 d2 => fl2 = .cl ∧ d1.fv.isSome = true ∧
  pe3 (((shE env).set i1 (.sh d1)).set i2 (.sh d2)) fun fl d => fl = .fr ∧ ∃ ds, d = .lst ds ∧ (flats ds).isSome = true ∧ ∀ q, pSetG i px pk (q :: O) d (((env.set i1 (.sh d1)).set i2 .no).set i (.deep (q :: O) true t)) t fun env' _ => pD.nx env'
theorem snd_old {px : PX Ob} {pk pe1 pe2 pe3 : PTE Ob} {tx tk te1 te2 te3 : TE} (hx : SndX W i px tx) (hk : SndE W pk tk) (h1 : SndE W pe1 te1) (h2 : SndE W pe2 te2) (h3 : SndE W pe3 te3) :
    SndS W (pOld i i1 i2 px pk pe1 pe2 pe3) (tSeq (tAsg (tTup (tCons te1 (tCons te2 tNil))) (gTup W.K 2 (gCons (gName i1) (gCons (gName i2) gNil)))) (tAsg te3 (gSub tx tk rSetL))) := by
  intro C pD D σ H env s h k
  obtain ⟨O, t, e, n1, n2, h⟩ := h
  refine h1 C.p C.B σ H (shE env) _ _ s.shareE h fun _ d1 v1 H1 h g1 r1 => ?_
  have s1 := s.grow g1
  refine h2 C.p C.B σ H1 (shE env) _ _ s1.shareE h fun fl2 d2 v2 H2 ⟨efl, ef1, h⟩ g2 r2 => ?_
  subst efl
  obtain ⟨w1, ew1⟩ := fv_ex ef1
  obtain rfl := (r1.rv s.shareE.hv).fv ew1
  have s20 := s1.grow g2
  have c20 : R0 W C.p (hide C.B H2) v2 d2 := r2
  refine ⟨by show 2 ≤ sizeLine; decide, fun p np => ?_⟩
  have gp : Grow C.p H2 (upd H2 p (.tup [v1, v2])) := Grow.new s20.e.hv np
  have s2 := s20.grow gp
  have c2 := c20.mono (gp.hide s20.shareE.hv)
  have cp : upd H2 p (.tup [v1, v2]) p = some (.tup [v1, v2]) := upd_same
  generalize upd H2 p (.tup [v1, v2]) = H2 at s2 c2 cp
  have st : StE W C.p C.B H2 ((σ.set i1 (some v1)).set i2 (some v2)) (((shE env).set i1 (.sh d1)).set i2 (.sh d2)) := ⟨s2.shareE.hv, pr_set ⟨v2, rfl, c2⟩ i2 (pr_set ⟨v1, rfl, R0.of_fv ew1⟩ i1 s2.shareE.sl)⟩
  have s3 : StS W C ((σ.set i1 (some v1)).set i2 (some v2)) H2 ((env.set i1 (.sh d1)).set i2 .no) := (s2.setSh (i := i1) (R0.of_fv ew1)).setNo
  have e3 : ((env.set i1 (.sh d1)).set i2 .no)[i]? = some (.deep O true t) := by rw [List.getElem?_set_ne (Ne.symm n2), List.getElem?_set_ne (Ne.symm n1)]; exact e
  refine ⟨p, [v1, v2], rfl, SqT.of cp, rfl, v1, [v2], rfl, v2, [], rfl, rfl, ?_⟩
  refine h3 C.p C.B _ H2 _ _ _ st h fun fl d v H3 ⟨efl, ds, ed, ef, q⟩ g3 r3 => ?_
  subst efl ed
  obtain ⟨us', ef⟩ := Option.isSome_iff_exists.mp ef
  obtain ⟨a, us, rfl, na, ha, ra⟩ := r3
  obtain rfl := ra.flats ef
  obtain ⟨s4, v, O1, ev, i1', nO, r⟩ := s3.takeIn e3 g3 na (.lst ha)
  exact snd_setGL hx hk s4 (envSet e3) ev i1' nO r ha ef (q a) fun H' t' q' s' => k.nx _ _ _ s' q'
end
end Pu
/-! ### texts over trees: join, split, startswith, isdecimal, str(int), int(text) -/
namespace Pu
open PySem PySem.W PySem.Spec PyProof.Rows L2 Gk
theorem bt_str : bootBuiltins "str" = some (.type "str") := by decide +kernel
section
variable {Ob : Type} {W : Wd Ob} {po pe : PTE Ob} {to te : TE}
abbrev rJoin (K : Frag) : V → List V → Hp → VK → Prop := fun x xs H Q => ∃ a p, ∃ ys : List Str, x = .str a ∧ xs = [.ref p] ∧ (SqL K H p (ys.map V.str) ∨ SqT K H p (ys.map V.str)) ∧ (ys.map (·.length)).sum + ys.length * a.length ≤ 16777216 ∧ Q (.str (Txt.join a ys)) H
abbrev rSplit : V → List V → Hp → VK → Prop := fun x xs H Q => ∃ a b, x = .str a ∧ xs = [.str b] ∧ (b.length == 0) = false ∧ a.length + 2 ≤ sizeLine ∧ rNewStrs (Txt.split a b) H Q
abbrev rStarts : V → List V → Hp → VK → Prop := fun x xs H Q => ∃ a b, x = .str a ∧ xs = [.str b] ∧ Q (.bl (Txt.startswith a b)) H
abbrev rIsDec : V → List V → Hp → VK → Prop := fun x xs H Q => ∃ a, x = .str a ∧ xs = [] ∧ True ∧ Q (.bl (Txt.isdecimal a)) H
def pJoin (po pe : PTE Ob) (env : PEnv Ob) (Q : PQ Ob) : Prop := po env fun _ x => ∃ a, x = .str a ∧ pe env fun _ d => ∃ ys, d = .lst (strsD ys) ∧ (ys.map (·.length)).sum + ys.length * a.length ≤ 16777216 ∧ Q .cl (.str (Txt.join a ys))
def pSplit (po pe : PTE Ob) (env : PEnv Ob) (Q : PQ Ob) : Prop := po env fun _ x => ∃ a, x = .str a ∧ pe env fun _ d => ∃ b, d = .str b ∧ (b.length == 0) = false ∧ a.length + 2 ≤ sizeLine ∧ Q .fr (.lst (strsD (Txt.split a b)))
def pStarts (po pe : PTE Ob) (env : PEnv Ob) (Q : PQ Ob) : Prop := po env fun _ x => ∃ a, x = .str a ∧ pe env fun _ d => ∃ b, d = .str b ∧ Q .cl (.bl (Txt.startswith a b))
def pIsDec (po : PTE Ob) (env : PEnv Ob) (Q : PQ Ob) : Prop := po env fun _ x => ∃ a, x = .str a ∧ Q .cl (.bl (Txt.isdecimal a))
def prStrI (xs : List (Dt Ob)) (Q : PQ Ob) : Prop := ∃ i : Int, xs = [.int i] ∧ i.natAbs.log2 < 1920 ∧ Q .cl (.str (toString i))
def prIntS (xs : List (Dt Ob)) (Q : PQ Ob) : Prop := ∃ a n, xs = [.str a] ∧ PySem.intText? a = some n ∧ a.length ≤ 640 ∧ Q .cl (.int n)
theorem snd_join (ho : SndE W po to) (he : SndE W pe te) : SndE W (pJoin po pe) (tM1 (rJoin W.K) to te) := by
  intro p D σ H env Qp Q st h k
  refine ho p D σ H env _ _ st h fun f1 x v1 H1 ⟨a, ex, h⟩ g1 r1 => ?_
  subst ex
  obtain rfl := (r1.rv st.hv).str
  have st1 := st.grow g1
  refine ⟨⟨a, rfl⟩, ?_⟩
  refine he p D σ H1 env _ _ st1 h fun f2 d v2 H2 ⟨ys, e2, hl, q⟩ g2 r2 => ?_
  subst e2
  obtain ⟨b, us, rfl, hb, rb⟩ := (r2.rv st1.hv).lst
  obtain rfl := rb.flats (flatsS ys)
  exact ⟨a, b, ys, rfl, rfl, .inl (SqL.of hb), hl, k _ _ _ H2 q (g1.trans g2) (show R0 W p _ _ _ from .str _)⟩
theorem snd_split (ho : SndE W po to) (he : SndE W pe te) : SndE W (pSplit po pe) (tM1 rSplit to te) := by
  intro p D σ H env Qp Q st h k
  refine ho p D σ H env _ _ st h fun f1 x v1 H1 ⟨a, ex, h⟩ g1 r1 => ?_
  subst ex
  obtain rfl := (r1.rv st.hv).str
  have st1 := st.grow g1
  refine ⟨⟨a, rfl⟩, ?_⟩
  refine he p D σ H1 env _ _ st1 h fun f2 d v2 H2 ⟨b, e2, hb, hl, q⟩ g2 r2 => ?_
  subst e2
  obtain rfl := (r2.rv st1.hv).str
  have g12 := g1.trans g2
  have hv2 := (st.grow g12).hv
  refine ⟨a, b, rfl, rfl, hb, hl, fun c hc => k _ _ _ _ q (g12.trans (Grow.new hv2 hc)) ?_⟩
  exact ⟨c, _, rfl, g12.back hc, upd_same, RA.of_fv (flatsS _)⟩
theorem snd_starts (ho : SndE W po to) (he : SndE W pe te) : SndE W (pStarts po pe) (tM1 rStarts to te) := by
  intro p D σ H env Qp Q st h k
  refine ho p D σ H env _ _ st h fun f1 x v1 H1 ⟨a, ex, h⟩ g1 r1 => ?_
  subst ex
  obtain rfl := (r1.rv st.hv).str
  have st1 := st.grow g1
  refine ⟨⟨a, rfl⟩, ?_⟩
  refine he p D σ H1 env _ _ st1 h fun f2 d v2 H2 ⟨b, e2, q⟩ g2 r2 => ?_
  subst e2
  obtain rfl := (r2.rv st1.hv).str
  exact ⟨a, b, rfl, rfl, k _ _ _ H2 q (g1.trans g2) (show R0 W p _ _ _ from .bl _)⟩
theorem snd_isDec (ho : SndE W po to) : SndE W (pIsDec po) (tM0 rIsDec to) := by
  intro p D σ H env Qp Q st h k
  refine ho p D σ H env _ _ st h fun f1 x v1 H1 ⟨a, ex, q⟩ g1 r1 => ?_
  subst ex
  obtain rfl := (r1.rv st.hv).str
  exact ⟨⟨a, rfl⟩, a, rfl, rfl, trivial, k _ _ _ H1 q g1 (show R0 W p _ _ _ from .bl _)⟩
theorem snd_strI : SndB W prStrI (fun xs H Q => ∃ i, xs = [.int i] ∧ i.natAbs.log2 < 1920 ∧ Q (.str (toString i)) H) := by
  intro p D H vs ds Qp Q hv hs h k
  obtain ⟨i, rfl, hl, q⟩ := h
  obtain ⟨v, rfl, r⟩ := rv1 hs
  obtain rfl := r.int
  exact ⟨i, rfl, hl, k _ _ _ H q (Grow.refl hv) (.str _)⟩
theorem snd_intS : SndB W prIntS (fun xs H Q => ∃ a n, xs = [.str a] ∧ PySem.intText? a = some n ∧ a.length ≤ 640 ∧ Q (.int n) H) := by
  intro p D H vs ds Qp Q hv hs h k
  obtain ⟨a, n, rfl, hn, hl, q⟩ := h
  obtain ⟨v, rfl, r⟩ := rv1 hs
  obtain rfl := r.str
  exact ⟨a, n, rfl, hn, hl, k _ _ _ H q (Grow.refl hv) (.int _)⟩
end
end Pu
/-! ### over trees: (a, .., *r) = a list; xs.extend(ys); a text times an int; calls by keyword alone; try -/
namespace Pu
open PySem PySem.W PySem.Spec PyProof.Rows L2 Gk StarT
section
variable {Ob : Type} {W : Wd Ob} {pe : PTE Ob} {te : TE} {pgs : PTGs Ob} {gs : TGs} {px : PTA Ob} {tx : TA}
def pAsgStar (pe : PTE Ob) (n : Nat) (pgs : PTGs Ob) (pD : PEnds Ob) (env : PEnv Ob) : Prop := pe env fun fl d => fl ≠ .raw ∧ ∃ ds, d = .lst ds ∧ n ≤ ds.length ∧ pgs (ds.take n ++ [.lst (ds.drop n)]) env pD.nx
theorem snd_asgStar {n : Nat} (he : SndE W pe te) (hg : SndGsS W pgs gs) : SndS W (pAsgStar pe n pgs) (tAsg te (gStar W.K n gs)) := by
  intro C pD D σ H env s h k
  refine he C.p (DOf C σ env) σ H env _ _ s.e h fun fl d v H1 ⟨n1, ds, ed, hn, q⟩ gr r => ?_
  subst ed
  have rc := RR.clean r s.hv n1
  cases rc with
  | @lst b us _ hb rb =>
    have s1 := s.grow gr
    refine ⟨b, us, rfl, SqL.of (hide_some hb).2, by rw [rb.length]; exact hn, fun c hc => ?_⟩
    have g2 : Grow C.p H1 (upd H1 c (.lst (us.drop n))) := Grow.new s1.hv hc
    have s2 := s1.grow g2
    have sm := g2.hide s1.hv
    have nd : ¬ DOf C σ env c := s1.hv.nd hc
    have hcc : hide (DOf C σ env) (upd H1 c (.lst (us.drop n))) c = some (.lst (us.drop n)) := by rw [hide_at nd, upd_same]
    refine hg C σ _ env _ _ _ _ s2 (RA.append ((rb.take n).mono sm) (.cons (.lst hcc ((rb.drop n).mono sm)) .nil)) q fun σ' env' q' s' => ?_
    exact k.nx _ _ _ s' q'
def pExt (i : Nat) (pe : PTE Ob) (pD : PEnds Ob) (env : PEnv Ob) : Prop := ∃ ds, env[i]? = some (.own ds) ∧ pe env fun fl d => fl ≠ .raw ∧ ∃ xs, d = .lst xs ∧ ds.length + xs.length ≤ 1000 ∧ pD.nx (env.set i (.own (ds ++ xs)))
theorem snd_ext {i : Nat} (he : SndE W pe te) : SndS W (pExt i pe) (tDrop (tBM W.K "list" rExtend (tVar i) (tCons te tNil))) := by
  intro C pD D σ H env s h k
  obtain ⟨ds, e, h⟩ := h
  obtain ⟨w, ew, a, us, rfl, da, pa, ha, r⟩ := s.e.get e
  refine ⟨_, ew, .inl ⟨rfl, us, SqL.of ha⟩, ?_⟩
  refine he C.p (DOf C σ env) σ H env _ _ s.e h fun fl d v H1 ⟨n, xs, ed, hl, q⟩ g1 r1 => ?_
  subst ed
  have s1 := s.grow g1
  have ha1 := g1.keep _ _ pa ha
  have cl := RR.clean r1 s.hv n
  have r' := r.mono (g1.hide s.hv)
  cases cl with
  | @lst b zs _ hb rb =>
    refine ⟨a, b, us, zs, rfl, rfl, ha1, (hide_some hb).2, ?_, ?_⟩
    · rw [r.length, rb.length]
      exact Nat.le_trans hl (by decide)
    · refine k.nx _ _ _ (s1.mutW (x' := .own (ds ++ xs)) e (fun _ _ => Iff.rfl) ew rfl (.inl ⟨_, rfl⟩) ⟨a, us ++ zs, rfl, da, pa, upd_same, ?_⟩) q
      rw [hide_upd_in da]
      exact r'.append rb
/-- a text times an int -/
def repS (x : Str) (n : Int) : Str := ⟨(List.replicate n.toNat x.cps).foldl (· ++ ·) #[]⟩
def rMulSt : R2 := fun x y H Q => ∃ a n, x = .str a ∧ y = .int n ∧ 1 ≤ n ∧ n ≤ 1000 ∧ 1 ≤ a.length ∧ a.length ≤ 1000 ∧ Q (.str (repS a n)) H
theorem rep_size (x : Array Nat) : ∀ (m : Nat) (acc : Array Nat), ((List.replicate m x).foldl (· ++ ·) acc).size = acc.size + m * x.size
  | 0, acc => by simp
  | m + 1, acc => by
    rw [List.replicate_succ, List.foldl_cons, rep_size x m, Array.size_append, Nat.succ_mul]
    omega
theorem op_mul_str {X : Cx} : OpR X (binaryOp .Mult) rMulSt := by
  intro pins s σ H x y v u Q I rx ry h
  obtain ⟨a, n, rfl, rfl, h1, h2, h3, h4, q⟩ := h
  obtain ⟨t, rfl⟩ := rx
  obtain ⟨t', rfl⟩ := ry
  have hlen : a.length * n.toNat ≤ 1000 * 1000 := Nat.mul_le_mul h4 (by omega)
  refine PySem.P.mul_str (by rw [decide_eq_false (by omega), decide_eq_false (by omega)]; rfl) (fun _ _ => ?_) (fun _ _ => ?_) ?_
  · have : (1000 : Int) ≤ (2 ^ 63 - 1) / n := by
      rw [Int.le_ediv_iff_mul_le (by omega)]
      omega
    omega
  · unfold Builtin.Str.tooLong
    have e := sizeLine_eq
    exact decide_eq_false (by omega)
  · rw [if_neg (by omega)]
    by_cases e : n = 1
    · subst e
      rw [if_pos (by simp)]
      refine ⟨.str a, H, I, ⟨_, rfl⟩, ?_⟩
      have : repS a 1 = a := by
        unfold repS
        show (⟨#[] ++ a.cps⟩ : Str) = a
        rw [Array.empty_append]
      rw [this] at q
      exact q
    · rw [if_neg (by
        rw [Bool.or_eq_true, beq_iff_eq, beq_iff_eq]
        omega)]
      refine ⟨?_, .str (repS a n), H, I.tok _, ⟨_, rfl⟩, q⟩
      have e := sizeLine_eq
      have l := rep_size a.cps n.toNat #[]
      have l2 : a.length * n.toNat = n.toNat * a.cps.size := Nat.mul_comm _ _
      show ((List.replicate n.toNat a.cps).foldl (· ++ ·) #[]).size ≤ sizeLine
      rw [l]
      simp only [List.size_toArray, List.length_nil]
      omega
def poMulSt (x y : Dt Ob) (Q : PQ Ob) : Prop := ∃ a n, x = .str a ∧ y = .int n ∧ 1 ≤ n ∧ n ≤ 1000 ∧ 1 ≤ a.length ∧ a.length ≤ 1000 ∧ Q .cl (.str (repS a n))
theorem snd_rMulSt : SndR W poMulSt rMulSt := by
  intro p D H x y dx dy Qp Q hv hx hy h k
  obtain ⟨a, n, rfl, rfl, h1, h2, h3, h4, q⟩ := h
  exact ⟨a, n, hx.str, hy.int, h1, h2, h3, h4, k _ _ _ H q (Grow.refl hv) (.str _)⟩
/-- a def called by keyword alone -/
def tCallK0 (m : Nat) (sp : Sp) (E : XK) (tk : TA) : TE := fun σ H Q => tk σ H fun zs H2 => zs.length = m ∧ sp zs H2 Q E
theorem pe_callK0 {X : Cx} {CX : CXT} {k : Nat} {f : Addr} {fd : FuncData} {ps ks : List Str} {sp : Sp} {E : XK} {x : Str} {p pos : Pos} {kws : List Keyword} {tk : TA} (F : FnOk X.prog X.w X.K X.mg X.base CX k f fd ps sp) (hr : Room k X.A) (hg : Gl X x) (hm : X.mg x = some (.ref f)) (hk : PySem.W.keepIn X.K (.ref f) = true)
    (hb : KBn X.K fd ps 0 ks (fun _ ws => ws) (fun _ zs => zs)) (hx : Passes CX X E) (hkw : PK X kws tk) (hall : (backToKw pos (keywordEach kws X.env)).all (·.1.isSome) = true := by rfl) (hks : (backToKw pos (keywordEach kws X.env)).filterMap (·.1) = ks := by rfl)
    (hdb : (x == ("__debug__" : Str)) = false := by decide) (hpl : ((backTo pos (starEach [] X.env)).any (·.1) || (backToKw pos (keywordEach kws X.env)).any (·.1.isNone)) = false := by rfl) : PE X (.Call (.Name x p) [] kws pos) (tCallK0 ks.length sp E tk) := by
  refine ⟨fun pins s σ H Q I h => ?_⟩
  refine wpAny_Call_Name_kw (ld_glob I hg hm ?_ hdb)
  refine PySem.W.callWith_KW0 (h₀ := X.base) I.ok.mod.kin hk hall ?_ hpl
  refine thn (hkw.run pos pins s σ H _ I h) fun ws s2 ⟨zs, H2, I2, rz, l2, q2⟩ => ⟨I2.kIn, ?_⟩
  rw [hks]
  exact run_fnN (us := []) (vs := []) F hr hb hx I2 .nil rz rfl l2 q2
theorem snd_callK0 {F : List (Dt Ob) → PQ Ob → Prop} {U : (Addr → Prop) → Prop} {z : Addr → Prop} {m : Nat} {E : XK} (hU : U z) (hl : ∀ ds Q, F ds Q → ds.length = m) (hx : SndA (W.at z) px tx) : SndE (W.at z) (pCall F [] px) (tCallK0 m (PFn W U F) E tx) := by
  intro p D σ H env Qp Q st h k
  refine hx p D σ H env _ _ st h fun xs vs H1 ⟨ok, h1⟩ g1 r1 => ?_
  have hv1 := st.hv.grow g1
  rw [List.append_nil] at h1
  have rc := RRs.clean st.hv r1 ok
  exact ⟨by rw [rc.length, hl _ _ h1], z, p, D, _, Qp, hU, hv1, rc, h1, fun fl d v H' q g r => k _ _ _ _ q (g1.trans g) (r.back g1)⟩
structure CalK (P : Program) (w : World) (K : Frag) (mg : Str → Option Value) (base : Heap) (W : Wd Ob) (x : Str) (k : Nat) (ps ks : List Str) (U : (Addr → Prop) → Prop) (F : List (Dt Ob) → PQ Ob → Prop) : Prop where
  ex : ∃ (f : Addr) (fd : FuncData), FnOk P w K mg base CX0 k f fd ps (PFn W U F) ∧ KBn K fd ps 0 ks (fun _ ws => ws) (fun _ zs => zs) ∧ mg x = some (.ref f) ∧ keepIn K (.ref f) = true
/-- isinstance(x, str), x a text -/
def pIsStr (pe : PTE Ob) (env : PEnv Ob) (Q : PQ Ob) : Prop := pe env fun _ d => (∃ x, d = .str x) ∧ Q .cl (.bl true)
theorem snd_isStr (he : SndE W pe te) : SndE W (pIsStr pe) (tCB (rIsi W.K) (tCons te (tCons (tC (.ty "str")) tNil))) := by
  intro p D σ H env Qp Q st h k
  refine he p D σ H env _ _ st h fun fl d v H1 ⟨⟨x, e⟩, q⟩ g1 r1 => ?_
  subst e
  obtain rfl := (r1.rv st.hv).str
  exact ⟨.str x, .ty "str", _, _, true, rfl, .ty "str", .base (.str _), kit_ty (by decide +kernel), k _ _ _ H1 q g1 (show R0 W p _ _ _ from .bl _)⟩
/-- enumerate(a text) -/
def signsV (x : Str) : List V := x.cps.toList.map fun c => V.str ⟨#[c]⟩
theorem signsV_ra {p : Option Addr} {H : Hp} (x : Str) : RA W p H (signsV x) (signsD x) := by
  unfold signsV signsD
  induction x.cps.toList with
  | nil => exact .nil
  | cons c l ih => exact .cons (.str _) ih
theorem walk_enumS {x : Str} : Walk (Ites x) (signsV x).length (fun _ => True) (YPair (fun i => some (.int (i : Nat))) (fun i => (signsV x)[i]?)) := by
  have el : (signsV x).length = x.cps.size := by unfold signsV; rw [List.length_map, Array.length_toList]
  rw [el]
  refine ⟨fun i _ hi q => hi, fun _ q => rfl, fun i H v H' _ q y => ?_⟩
  obtain ⟨T, c, h1, h2, h3, h4⟩ := y
  refine ⟨T, .int (i : Nat), .str ⟨#[c]⟩, h1, h2, h3, rfl, ?_⟩
  show (signsV x)[i]? = _
  unfold signsV
  rw [List.getElem?_map, Array.getElem?_toList, h4]
  rfl
def piES (pa : PTA Ob) (env : PEnv Ob) (Q : Bool → List (Dt Ob) → Prop) : Prop := pa env fun xs => ∃ x, xs.map (·.2) = [.str x] ∧ Q true (enumD (signsD x))
theorem snd_piES (h : SndA W px tx) : SndI W (piES px) (iEnumS tx) := by
  intro p D σ H env Qp R st h1 k
  refine h p D σ H env _ _ st h1 fun xs vs H1 ⟨x, e, q⟩ g1 r1 => ?_
  obtain ⟨v, f, rfl, rfl, r0⟩ := rrs1 r1 e st.hv
  obtain rfl := (r0.rv st.hv).str
  exact ⟨x, rfl, k _ _ _ _ q g1 (walkD_pair (a := 0) walk_enumS (signsV_ra x) (fun _ _ => trivial) fun _ _ _ _ => trivial)⟩
end
end Pu
/-! ### k02: rules of its own, over trees -/
namespace Pu
open PySem PySem.W PySem.Spec PyProof.Rows L2 Gk NdefX
section
variable {Ob : Type} {W : Wd Ob} {P : Program} {w : World} {K : Frag} {mg : Str → Option Value} {base : Heap}
/-- a def that raises nothing, by its body over trees, where no repr is under way -/
theorem pfn_okG {F : List (Dt Ob) → PQ Ob → Prop} {U : (Addr → Prop) → Prop} {x qual : Str} {st : Stmt} {f : Addr} {fd : FuncData} {N ps : List Str} {k : Nat} (Fu : Fun K x qual st f fd) (S : FnScope N ps (defScope st)) (hl : ∀ ds Qp, F ds Qp → ds.length = ps.length)
    (body : ∀ (cdv : Value) (A : Around) (outer : List Env) (s : Shared) (H : Hp) (Q : VK) (E : XK), A.guards = some [] → Room k (A.deeper (envOfC qual (defScope st) s.heap.objs.size f cdv)) →
      ∃ t, PSs (cxOf CX0 P w K mg base N qual (defScope st) f cdv A outer s H E).nox (defBody st) t ∧ ∀ z, U z → ∃ pt, SndS (W.at z) pt t ∧ ∀ ds Qp, F ds Qp → pt { nx := fun _ => Qp .cl .non, rt := Qp } (initE N ds)) : FnG P w K mg base CX0 (k + 1) f fd ps (PFn W U F) := by
  refine Gk.Fun.okG Fu S (fun vs H Q E h => ?_) (fun cdv A outer s H vs Q E hG hr h => ?_)
  · obtain ⟨z, p, B, ds, Qp, hU, hv, r, hF, _⟩ := h
    rw [r.length]
    exact hl ds Qp hF
  · obtain ⟨z, p, B, ds, Qp, hU, hv, r, hF, kk⟩ := h
    obtain ⟨t, h1, h23⟩ := body cdv A outer s H Q E hG hr
    obtain ⟨pt, h2, h3⟩ := h23 z hU
    exact ⟨t, h1, run_body h2 hv r kk (h3 ds Qp hF)⟩
/-! a def of the text that is called where no repr is under way -/
structure CalG (P : Program) (w : World) (K : Frag) (mg : Str → Option Value) (base : Heap) (W : Wd Ob) (x : Str) (k : Nat) (ps : List Str) (dvs : List V) (U : (Addr → Prop) → Prop) (F : List (Dt Ob) → PQ Ob → Prop) : Prop where
  ex : ∃ (f : Addr) (fd : FuncData) (ds : List Value), FnG P w K mg base CX0 k f fd ps (PFn W U F) ∧ Binds K fd ps ds ∧ Vals dvs ds ∧ mg x = some (.ref f) ∧ keepIn K (.ref f) = true
end
section
variable {Ob : Type} {W : Wd Ob} {p : Option Addr} {D : Addr → Prop} {H H' H0 H1 : Hp} {v : V} {d : Dt Ob} {ds : List (Dt Ob)} {es : List (Key × Dt Ob)} {pe : PTE Ob} {te : TE}
/-! is True, is False -/
def isBl (b : Bool) : Dt Ob → Bool
  | .bl c => decide (c = b)
  | _ => false
def poIsB (neg : Bool) (x y : Dt Ob) (Q : PQ Ob) : Prop := ∃ b, y = .bl b ∧ (∀ o, x ≠ .ob o) ∧ Q .cl (.bl (if neg then !isBl b x else isBl b x))
theorem RV.isBl {b : Bool} (n : ∀ o, d ≠ .ob o) (h : RV W p D H v d) : decide (v = .bl b) = Pu.isBl b d := by
  cases d with
  | non => rw [h.non]; rfl
  | bl c => rw [h.bl]; unfold Pu.isBl; congr 1; exact propext ⟨fun z => by cases z; rfl, fun z => by rw [z]⟩
  | int i => rw [h.int]; rfl
  | str x => rw [h.str]; rfl
  | lst ds => obtain ⟨a, us, rfl, _⟩ := h.lst; rfl
  | tup ds => obtain ⟨a, us, rfl, _⟩ := h.tup; rfl
  | dic ds => obtain ⟨a, us, rfl, _⟩ := h.dic; rfl
  | src => obtain ⟨a, _, rfl⟩ := h.src; rfl
  | ob x => exact absurd rfl (n x)
theorem snd_rIsB {neg : Bool} : SndR W (poIsB neg) (rIsB neg) := by
  intro p D H x y dx dy Qp Q hv hx hy h k
  obtain ⟨b, rfl, n, q⟩ := h
  refine ⟨b, hy.bl, ?_⟩
  rw [RV.isBl n hx]
  exact k _ _ _ H q (Grow.refl hv) (.bl _)
/-! x in l, data of any depth -/
def poInD (neg : Bool) (x y : Dt Ob) (Q : PQ Ob) : Prop := ∃ ds, y = .lst ds ∧ x.plain = true ∧ plainL ds = true ∧ SeqAt.shaped (toPy x) = true ∧ SeqAt.shaped (.list (toPyL ds)) = true ∧ Q .cl (.bl (if neg then !(toPyL ds).any fun z => PyData.eqv z (toPy x) else (toPyL ds).any fun z => PyData.eqv z (toPy x)))
theorem snd_rNotInD : SndR W (poInD true) (rNotInD W.K) := by
  intro p D H x y dx dy Qp Q hv hx hy h k
  obtain ⟨ds, rfl, p1, p2, s1, s2, q⟩ := h
  have py : (Dt.lst ds : Dt Ob).plain = true := by unfold Dt.plain; exact p2
  have hd := hy.dp py
  unfold toPy at hd
  exact ⟨_, _, hx.dp p1, hd, s1, s2, k _ _ _ H q (Grow.refl hv) (.bl _)⟩
/-! list(d.items()) -/
def pListItems (pe : PTE Ob) (env : PEnv Ob) (Q : PQ Ob) : Prop := pe env fun _ d => ∃ es, d = .dic es ∧ Q .fr (.lst (pairsD es))
theorem kV_kT {k : Key} : R0 W p H (kV k) (kT k) := by cases k <;> first | exact .int _ | exact .str _
theorem pr_mem {α β : Type} {F G : α → β → Prop} : ∀ {xs : List α} {ys : List β}, Paired F xs ys → (∀ x y, x ∈ xs → F x y → G x y) → Paired G xs ys
  | _, _, .nil, _ => .nil
  | _, _, .cons r t, h => .cons (h _ _ List.mem_cons_self r) (pr_mem t fun x y m => h x y (List.mem_cons_of_mem _ m))
theorem items_ra {H2 : Hp} (sub : Same (hide D H) H2) : ∀ {ts : List Addr} {kvs : List (Key × V)} {es : List (Key × Dt Ob)}, Paired (fun (t : Addr) (q : Key × V) => H2 t = some (.tup [kV q.1, q.2])) ts kvs → RK W p (hide D H) kvs es → RA W p H2 (ts.map V.ref) (pairsD es)
  | _, _, _, .nil, .nil => .nil
  | _, _, _, .cons r t, .cons a b => .cons (.tup r (.cons kV_kT (.cons (a.mono sub) .nil))) (items_ra sub t b)
theorem snd_listItems {z : Addr → Prop} (hz : noZ z) (he : SndE (W.at z) pe te) : SndE (W.at z) (pListItems pe) (LiI.tListItems te) := by
  subst hz
  intro p D σ H env Qp Q st h k
  refine he p D σ H env _ _ st h fun fl d v H1 ⟨es, e, h1⟩ g1 r1 => ?_
  subst e
  have st1 := st.grow g1
  obtain ⟨a, us, rfl, ha, rk⟩ := (r1.rv st.hv).dic
  have ha : H1 a = some (.dK us) := by
    rcases ha with ha | ⟨o, ha⟩
    · exact ha
    · have hd := r1.rv st.hv
      cases hd with
      | cl hd => cases hd with
        | dic hd _ =>
          rcases hd with hd | ⟨z, _⟩
          · rw [(hide_some hd).2] at ha; cases ha
          · exact z.elim
      | rd hd _ => rw [hd] at ha; cases ha
  refine ⟨a, us, rfl, ha, fun H' q ts sm nq nts qn cq pt => ?_⟩
  refine k .fr _ _ H' h1 (g1.trans (Grow.of st1.hv sm)) ⟨q, _, rfl, g1.back nq, cq, ?_⟩
  have nD : ∀ b, H1 b = none → ¬ D b := fun b e z => st1.hv.dom b z e
  have sub : Same (hide D H1) (hide (fun b => D b ∨ b = q) H') := fun b u e => by
    obtain ⟨n, e⟩ := hide_some e
    rw [hide_at (fun z => z.elim n fun z => by rw [z, nq] at e; cases e)]
    exact sm _ _ e
  refine items_ra sub (pr_mem pt fun t kv ht e => ?_) rk
  rw [hide_at (fun z => z.elim (nD t (nts t ht)) fun z => qn (by rw [← z]; exact ht))]
  exact e
/-! s.upper() -/
def pUpper (pe : PTE Ob) (env : PEnv Ob) (Q : PQ Ob) : Prop := pe env fun _ d => ∃ x, d = .str x ∧ x.length ≤ 1000 ∧ Q .cl (.str (Txt.upper x))
theorem snd_upper (he : SndE W pe te) : SndE W (pUpper pe) (tM0 (fun x xs H Q => ∃ a, x = .str a ∧ xs = [] ∧ a.length ≤ 5592405 ∧ Q (.str (Txt.upper a)) H) te) := by
  intro p D σ H env Qp Q st h k
  refine he p D σ H env _ _ st h fun fl d v H1 ⟨x, e, l, h1⟩ g1 r1 => ?_
  subst e
  obtain rfl := (r1.rv st.hv).str
  exact ⟨⟨x, rfl⟩, x, rfl, rfl, Nat.le_trans l (by decide), k .cl _ _ H1 h1 g1 (.str _)⟩
end
end Pu
local macro_rules | `(tactic| walk_at "pu") => `(tactic| simp only [Pu.pSeq, Pu.pNext, Pu.pVar, Pu.pC, Pu.pOp, Pu.pNil, Pu.pCons, Pu.pTup, Pu.pLst, Pu.pCB, Pu.pTest, Pu.pNot, Pu.pAnd, Pu.pOr, Pu.pYes, Pu.pIf, Pu.pAsg, Pu.pAsgF, Pu.pAsgT, Pu.pIfS, Pu.pRet, Pu.pRetN, Pu.pDrop, Pu.pApp, Pu.pSetI, Pu.pPutD, Pu.pPar, Pu.pSh, Pu.pCall, Pu.shE, Pu.PV.share, Pu.tp_cl, Pu.tp_fr, Pu.tp_own, Pu.tp_ownD, Pu.sq_lst, Pu.sq_tup, Pu.sq_rows, Pu.fv_non, Pu.fv_bl, Pu.fv_int, Pu.fv_str, Pu.ky_int, Pu.ky_str, Nat.reduceAdd, Nat.reduceLeDiff, Nat.reduceLT, Nat.zero_add, Pu.okArgs, Pu.initE, Pu.piL, Pu.piT, Pu.piR1, Pu.piR2, Pu.piS, Pu.piE, Pu.pgN, Pu.pgNil, Pu.pgCons, Pu.pgT, Pu.pwipe, Pu.pM, Pu.setAll, Pu.poI, Pu.poB, Pu.poEq, Pu.poIxL, Pu.poIxT, Pu.pAsgM, List.forall_mem_cons, List.not_mem_nil, false_imp_iff, implies_true, forall_const, Pu.poIn, Pu.poCat, Pu.poCatT, Pu.poCatS, Pu.prLen, Pu.prList, Pu.prTuple, Pu.prInt1, Pu.prMax2, Pu.prMin2, Pu.rowD, Pu.rowP, Pu.planP, Pu.pHoist, Pu.atI_3, Pu.pParF, Pu.pCopyU, Pu.modelD, Pu.pSlL, Pu.pSlT, Pu.pNoPart, Pu.pPart, Pu.pDGet, Pu.pDIn, Pu.pDNew, Pu.pNext, Pu.pRevT, Pu.pRevL, Pu.pListRg, Pu.atI_0, Pu.atI_1, Pu.atI_2, Pu.PV.own.injEq, Pu.PV.ownD.injEq, Pu.PV.sh.injEq, Pu.Dt.int.injEq, Pu.Dt.bl.injEq, Pu.Dt.str.injEq, Pu.Dt.lst.injEq, Pu.Dt.tup.injEq, Pu.Dt.dic.injEq, decide_true, decide_false, exists_and_left, exists_const, exists_eq, List.cons.injEq, and_assoc,
  List.map_cons, List.map_nil, List.cons_append, List.nil_append, List.append_nil, List.getElem?_cons_zero, List.getElem?_cons_succ, List.getElem?_nil, List.set_cons_zero, List.set_cons_succ, List.length_cons, List.length_nil, List.replicate, ne_eq, reduceCtorEq, not_false_eq_true, true_and, and_true, if_true, if_false, Option.some.injEq, exists_eq_left', exists_eq_left])
/-! ### _law_further over trees -/
namespace Pu
open PySem PySem.W PySem.Spec PyProof.Rows L2 Gk
section
variable {P : Program} {w : World} {Ob : Type} {W : Wd Ob} {mg : Str → Option Value} {base : Heap}
def FFurther : List (Dt Ob) → PQ Ob → Prop := fun ds Q => ∃ rows sets g n m, ∃ many : Nat, ds = [.src, planP rows sets g, .int many] ∧ GoodP rows sets n m ∧ n ≤ 100 ∧ m ≤ 100 ∧ rows.length ≤ many ∧ many ≤ 16 ∧
  ∀ rows' sets', GoodP rows' sets' n (m + 1) → rows'.length ≤ many → Q .fr (planP rows' sets' .non)
theorem FFurther_len {ds : List (Dt Ob)} {Q : PQ Ob} (h : FFurther ds Q) : ds.length = 3 := by obtain ⟨_, _, _, _, _, _, rfl, _⟩ := h; rfl
set_option hygiene false in
local macro_rules | `(tactic| walk_at "ef") => `(tactic| (
  refine ⟨rfl, ?_⟩
  by_cases e : a = b
  · rw [if_neg (by rw [e]; simp)]
    exact fin rows sets rfl rfl same hl
  · rw [if_pos (by simp; omega)]
    refine ⟨O, _, rfl, ?_⟩
    refine px_row1 rfl hrb ⟨_, subP11 hrb, ?_⟩
    walk_at "pu"
    refine ⟨_, rA, _, rfl, _, atI_0, _, rA, _, rfl, _, atI_1, strsD r.al, rfl, by rw [strsD_len]; omega, by rw [show flats (.str r.name :: strsD r.al : List (Dt Ob)) = _ from flatsS (r.name :: r.al)]; rfl, by rw [strsD_len, strsD_len]; omega, ?_⟩
    rw [show (strsD rb.al ++ .str r.name :: strsD r.al : List (Dt Ob)) = strsD (rb.al ++ r.name :: r.al) from (strsD_app (a := rb.al) (b := r.name :: r.al)).symm, putP11 hrb]
    refine go ?_
    walk_at "pu"
    rw [show ((a : Nat) : Int) + 1 = ((a + 1 : Nat) : Int) from by omega, cutTo (by omega), cutFrom (by omega), Int.toNat_natCast, Int.toNat_natCast, ← List.map_take, ← List.map_drop, ← List.map_append]
    refine ⟨by simp only [List.length_map, List.length_take, List.length_drop, List.length_set]; omega, ?_⟩
    exact fin _ sets rfl rfl (hg.merge hr hrb e) (by simp only [List.length_append, List.length_take, List.length_drop, List.length_set]; omega)))
abbrev sP_further : Stmt := (top 42)
abbrev nP_further : List Str := ["stream", "plan", "many", "rows", "sets", "given", "at", "to", "kind", "number", "row", "name"]
theorem scP_further : FnScope nP_further ["stream", "plan", "many"] (defScope sP_further) := ⟨rfl, rfl, rfl, by decide +kernel, rfl, by decide +kernel, by decide +kernel⟩
theorem okP_further {f : Addr} {fd : FuncData} (Fu : Fun W.K "_law_further" "_law_further" sP_further f fd) (B : Blt mg) (cX : CalS P w W.K mg base "_law_copy" 1 ["plan"] (frSp (spCopyX Ob))) (cD : Cal P w W.K mg base W "_law_draw" 1 ["stream", "size"] [] anyZ FDraw) : FnOk P w W.K mg base CX0 2 f fd ["stream", "plan", "many"] (PFn W anyZ FFurther) := by
  obtain ⟨fD, dD, eD, GD, bD, vD, gD, kD⟩ := cD.ex
  obtain ⟨fX, dX, GX, bX, gX, kX⟩ := cX.ex
  refine pfn_ok Fu scP_further (fun ds Qp h => ?_) (fun cdv A outer s H Q E hr => ?_)
  · exact FFurther_len h
  · have nd := scP_further.nd
    have hu := hu_of hr
    have hu64 : (A.deeper (envOfC "_law_further" (defScope sP_further) s.heap.objs.size f cdv)).units + 64 < cLine := by have := hr.un; omega
    refine ⟨_, (pss_cons (ps_asg (by exact (pe_call GX (hr.mono (by decide)) (by rfl) gX kX bX .nil pass0 (pa_cons (pv 1) pa_nil))) (by exact (pg_unl (n := 3) rfl (pgs_cons (pg_name (i := 3) nd rfl (Or.inl rfl)) (pgs_cons (pg_name (i := 4) nd rfl (Or.inr rfl)) (pgs_cons (pg_name (i := 5) nd rfl (Or.inl rfl)) pgs_nil)))))) (pss_cons (ps_par (i := 6) (j := 7) rfl nd rfl rfl (by decide) rfl rfl (pa_cons (pe_call GD hr (by rfl) gD kD bD vD pass0 (pa_cons (pv 0) (pa_cons (pe_callB call_len_seq (by rfl) B.len PySem.boot_len (pa_cons (pv 3) pa_nil)) pa_nil))) (pa_cons (pe_call GD hr (by rfl) gD kD bD vD pass0 (pa_cons (pv 0) (pa_cons (pe_callB call_len_seq (by rfl) B.len PySem.boot_len (pa_cons (pv 3) pa_nil)) pa_nil))) pa_nil)) rfl) (pss_cons (ps_set (i := 8) nd rfl (Or.inl rfl) (pe_call GD hr (by rfl) gD kD bD vD pass0 (pa_cons (pv 0) (pa_cons pe_int pa_nil)))) (pss_cons (ps_set (i := 9) nd rfl (Or.inl rfl) (pe_op op_add (pe_callB (cr_max rfl) (by rfl) B.max bt_max (pa_cons (pe_op op_cat (pe_lc (own := [("row", 10)]) (te := (tOp (rIxL W.K) (tVar 10) (tC (.int 2)))) (g := (gName 10)) (tt := (tTest (tOp (rI0 fun i j => .bl (decide (i < j))) (tOp (rIxL W.K) (tVar 10) (tC (.int 2))) (tOp (rI CPow fun i j => .int (i ^ j.toNat)) (tC (.int 10)) (tC (.int 9)))))) rfl nd (pi_list (pv 3)) (blkOk_by (N := nP_further) (sc := defScope sP_further) (by decide +kernel)) (fun _ _ _ _ _ => (pg_name (i := 10) nd rfl (Or.inl rfl))) (fun _ _ _ _ _ => by exact (pts_one (pt_cmpR op_lt (pe_ix ix_list (pv 10) pe_int (fun _ _ => rfl)) (pe_op op_pow pe_int pe_int) (nomark _)))) (fun _ _ _ _ _ => by exact (pe_ix ix_list (pv 10) pe_int (fun _ _ => rfl)))) (pe_lst (pa_cons pe_int pa_nil))) pa_nil)) pe_int)) (pss_cons (ps_if (PW.pt (pw_and (pt_cmpR op_eq (pv 8) pe_int (nomark _)) (pw_and1 (pt_cmpR op_lt (pe_callB call_len_seq (by rfl) B.len PySem.boot_len (pa_cons (pv 4) pa_nil)) pe_int (nomark _))))) (pss_cons (ps_expr (by exact (pe_bm PySem.F.plainAttrs_list PySem.F.slot_list_append PySem.F.type_list_append mt_append (pv 4) (pa_cons (pe_ix ix_list (pe_lc (own := [("name", 11)]) (te := (tVar 11)) (g := (gName 11)) (tt := (tTest (tOp (rIn W.K true) (tVar 11) (tVar 4)))) rfl nd (pi_list (pe_lst (pa_cons pe_str (pa_cons pe_str (pa_cons pe_str pa_nil))))) (blkOk_by (N := nP_further) (sc := defScope sP_further) (by decide +kernel)) (fun _ _ _ _ _ => (pg_name (i := 11) nd rfl (Or.inl rfl))) (fun _ _ _ _ _ => by exact (pts_one (pt_cmpR op_notIn_seq (pv 11) (pv 4) (by rfl)))) (fun _ _ _ _ _ => by exact (pv 11))) pe_int (fun _ _ => rfl)) pa_nil)))) (pss_one (ps_expr (by exact (pe_bm PySem.F.plainAttrs_list PySem.F.slot_list_append PySem.F.type_list_append mt_append (pe_ix ix_list (pe_ix ix_list (pv 3) (pv 6) (fun _ _ => rfl)) pe_int (fun _ _ => rfl)) (pa_cons (pe_ix ix_list (pv 4) (pe_un un_neg pe_int) (fun _ _ => rfl)) pa_nil)))))) (pss_one (ps_if (pt_cmpR op_lt (pv 8) pe_int (nomark _)) (pss_one (ps_asg (by exact (pv 9)) (by exact (pg_sub (pe_ix ix_list (pv 3) (pv 6) (fun _ _ => rfl)) pe_int set_list)))) (pss_one (ps_if (PW.pt (pw_and (pt_cmpR op_eq (pv 8) pe_int (nomark _)) (pw_and1 (pt_cmpR (op_neD hu64) (pe_ix ix_list (pe_ix ix_list (pv 3) (pv 6) (fun _ _ => rfl)) pe_int (fun _ _ => rfl)) (pe_lst pa_nil) (nomark _))))) (pss_one (ps_asg (by exact (pe_tup (pa_cons (pe_ix ix_list (pe_ix ix_list (pe_ix ix_list (pv 3) (pv 6) (fun _ _ => rfl)) pe_int (fun _ _ => rfl)) pe_int (fun _ _ => rfl)) (pa_cons (pe_ix ix_list (pe_ix ix_list (pv 3) (pv 6) (fun _ _ => rfl)) pe_int (fun _ _ => rfl)) pa_nil)))) (by exact (pg_tup (n := 2) rfl (pgs_cons (pg_sub (pe_ix ix_list (pv 3) (pv 6) (fun _ _ => rfl)) pe_int set_list) (pgs_cons (pg_sub (pe_ix ix_list (pe_ix ix_list (pv 3) (pv 6) (fun _ _ => rfl)) pe_int (fun _ _ => rfl)) pe_int set_list) pgs_nil)))))) (pss_one (ps_if (PW.pt (pw_and (pt_cmpR op_eq (pv 8) pe_int (nomark _)) (pw_and (pt_cmpR (op_neD hu64) (pe_ix ix_list (pe_ix ix_list (pv 3) (pv 6) (fun _ _ => rfl)) pe_int (fun _ _ => rfl)) (pe_lst pa_nil) (nomark _)) (pw_and1 (pt_cmpR op_lt (pe_callB call_len_seq (by rfl) B.len PySem.boot_len (pa_cons (pv 3) pa_nil)) (pv 2) (nomark _)))))) (pss_cons (ps_set (i := 11) nd rfl (Or.inl rfl) (pe_bm0 PySem.F.plainAttrs_list PySem.F.slot_list_pop PySem.F.type_list_pop mt_pop (pe_ix ix_list (pe_ix ix_list (pv 3) (pv 6) (fun _ _ => rfl)) pe_int (fun _ _ => rfl)))) (pss_one (ps_set (i := 3) nd rfl (Or.inl rfl) (pe_op op_cat (pe_op op_cat (pe_slice sl_list (pv 3) po_none (po_some (pv 7))) (pe_lst (pa_cons (pe_lst (pa_cons (pv 11) (pa_cons (pe_lst pa_nil) (pa_cons (pv 9) (pa_cons (pe_lst pa_nil) pa_nil))))) pa_nil))) (pe_slice sl_list (pv 3) (po_some (pv 7)) po_none))))) (pss_one (ps_if (pt_cmpR op_ne (pv 6) (pv 7) (nomark _)) (pss_cons (ps_expr (by exact (pe_bm PySem.F.plainAttrs_list PySem.F.slot_list_extend PySem.F.type_list_extend mt_extend (pe_ix ix_list (pe_ix ix_list (pv 3) (pv 7) (fun _ _ => rfl)) pe_int (fun _ _ => rfl)) (pa_cons (pe_op op_cat (pe_lst (pa_cons (pe_ix ix_list (pe_ix ix_list (pv 3) (pv 6) (fun _ _ => rfl)) pe_int (fun _ _ => rfl)) pa_nil)) (pe_ix ix_list (pe_ix ix_list (pv 3) (pv 6) (fun _ _ => rfl)) pe_int (fun _ _ => rfl))) pa_nil)))) (pss_one (ps_set (i := 3) nd rfl (Or.inl rfl) (pe_op op_cat (pe_slice sl_list (pv 3) po_none (po_some (pv 6))) (pe_slice sl_list (pv 3) (po_some (pe_op op_add (pv 6) pe_int)) po_none))))) pss_nil))))))))) (pss_one (ps_ret (pe_lst (pa_cons (pv 3) (pa_cons (pv 4) (pa_cons (pv 5) pa_nil))))))))))), fun z hz => ⟨_, (snd_seq (snd_copyU (i := 3) (j := 4) (l := 5) snd_var) (snd_seq (snd_parF (i := 6) (j := 7) (snd_call (dds := []) trivial (by rfl) (snd_cons snd_var (snd_cons (snd_cb snd_len (snd_cons snd_var snd_nil)) snd_nil))) (snd_call (dds := []) trivial (by rfl) (snd_cons snd_var (snd_cons (snd_cb snd_len (snd_cons snd_var snd_nil)) snd_nil)))) (snd_seq (snd_asg (m := false) (snd_call (dds := []) trivial (by rfl) (snd_cons snd_var (snd_cons snd_cint snd_nil)))) (snd_seq (snd_asgF (snd_op (snd_cb snd_maxL (snd_cons (snd_op (snd_lc (vs := [10]) (js := [10]) (snd_piL snd_var) snd_gN (by decide) (snd_test (snd_op (snd_op snd_var snd_cint snd_rIxL) (snd_op snd_cint snd_cint snd_rIC) snd_rB)) (snd_op snd_var snd_cint snd_rIxL)) (snd_lst (snd_cons snd_cint snd_nil)) snd_rCat) snd_nil)) snd_cint snd_rI)) (snd_seq (snd_ifS (snd_and (snd_test (snd_op snd_var snd_cint snd_rEq)) (snd_test (snd_op (snd_cb snd_len (snd_cons snd_var snd_nil)) snd_cint snd_rB))) (snd_seq (snd_app (i := 4) (snd_op (snd_lc (vs := [11]) (js := [11]) (snd_piL (snd_lst (snd_cons snd_cstr (snd_cons snd_cstr (snd_cons snd_cstr snd_nil))))) snd_gN (by decide) (snd_test (snd_op snd_var snd_var snd_rIn)) snd_var) snd_cint snd_rIxL)) (snd_appX (i := 3) (snd_xi (snd_xi snd_xv snd_var) snd_cint) (snd_op snd_var (snd_neg snd_cint) snd_rIxL))) (snd_ifS (snd_test (snd_op snd_var snd_cint snd_rB)) (snd_setX (i := 3) (snd_xi snd_xv snd_var) snd_cint snd_var) (snd_ifS (snd_and (snd_test (snd_op snd_var snd_cint snd_rEq)) (snd_test (snd_op (snd_op (snd_op snd_var snd_var snd_rIxL) snd_cint snd_rIxL) (snd_lst snd_nil) snd_rNeD))) (snd_set2X (i := 3) (snd_xi snd_xv snd_var) snd_cint (snd_xi (snd_xi snd_xv snd_var) snd_cint) snd_cint (snd_op (snd_op (snd_op snd_var snd_var snd_rIxL) snd_cint snd_rIxL) snd_cint snd_rIxL) (snd_op (snd_op snd_var snd_var snd_rIxL) snd_cint snd_rIxL)) (snd_ifS (snd_and (snd_test (snd_op snd_var snd_cint snd_rEq)) (snd_and (snd_test (snd_op (snd_op (snd_op snd_var snd_var snd_rIxL) snd_cint snd_rIxL) (snd_lst snd_nil) snd_rNeD)) (snd_test (snd_op (snd_cb snd_len (snd_cons snd_var snd_nil)) snd_var snd_rB)))) (snd_seq (snd_popX (i := 3) (j := 11) (snd_xi (snd_xi snd_xv snd_var) snd_cint)) (snd_share 3 (snd_asg (m := false) (snd_op (snd_op (snd_slL snd_var snd_noPart (snd_part snd_var)) (snd_lst (snd_cons (snd_lst (snd_cons snd_var (snd_cons (snd_lst snd_nil) (snd_cons snd_var (snd_cons (snd_lst snd_nil) snd_nil))))) snd_nil)) snd_rCat) (snd_slL snd_var (snd_part snd_var) snd_noPart) snd_rCat)))) (snd_ifS (snd_test (snd_op snd_var snd_var snd_rNe)) (snd_seq (snd_extX (i := 3) (snd_xi (snd_xi snd_xv snd_var) snd_cint) (snd_op (snd_lst (snd_cons (snd_op (snd_op snd_var snd_var snd_rIxL) snd_cint snd_rIxL) snd_nil)) (snd_op (snd_op snd_var snd_var snd_rIxL) snd_cint snd_rIxL) snd_rCat)) (snd_share 3 (snd_asg (m := false) (snd_op (snd_slL snd_var snd_noPart (snd_part snd_var)) (snd_slL snd_var (snd_part (snd_op snd_var snd_cint snd_rI)) snd_noPart) snd_rCat)))) snd_next))))) (snd_ret (snd_lst (snd_cons snd_var (snd_cons snd_var (snd_cons snd_var snd_nil)))))))))), fun ds Qp h => ?_⟩⟩
    obtain ⟨rows, sets, g, n, m, many, rfl, hg, hn, hm, hl, hmany, hq⟩ := h
    have lo := hg.lo
    walk_at "pu"
    refine ⟨by decide, rows, rfl, sets, rfl, by omega, fun O => ?_⟩
    refine go ?_
    walk_at "pu"
    refine ⟨_, rfl, by rw [List.length_map]; omega, by rw [List.length_map]; omega, fun k0 h0 h0' => ?_⟩
    walk_at "pu"
    refine ⟨_, rfl, by rw [List.length_map]; omega, by rw [List.length_map]; omega, fun k1 h1 h1' => ?_⟩
    walk_at "pu"
    rw [List.length_map] at h0' h1'
    obtain ⟨a, rfl⟩ := Int.eq_ofNat_of_zero_le h0
    obtain ⟨b, rfl⟩ := Int.eq_ofNat_of_zero_le h1
    have al : a < rows.length := by omega
    have bl : b < rows.length := by omega
    obtain ⟨r, hr⟩ : ∃ r, rows[a]? = some r := ⟨_, List.getElem?_eq_getElem al⟩
    obtain ⟨rb, hrb⟩ : ∃ r, rows[b]? = some r := ⟨_, List.getElem?_eq_getElem bl⟩
    clear h0 h1 h0' h1'
    refine ⟨rfl, rfl, ?_⟩
    refine go ?_
    walk_at "pu"
    refine ⟨5, rfl, by decide, by decide, fun kd kd0 kd5 => ?_⟩
    walk_at "pu"
    refine go ?_
    walk_at "pu"
    refine lc_inv (rows.map rowP) (fun i acc => acc = (((rows.take i).map (·.num)).filter fun z => decide (z < 1000000000)).map Dt.int) (fun Q q => by walk_at "pu"; exact q _) (by rw [List.length_map]; omega) rfl ?_ ?_
    · rintro i d acc hd rfl
      obtain ⟨x, hx, rfl⟩ := map_get hd
      walk_at "pu"
      refine ⟨10, 9, rfl, rfl, ⟨by decide, by decide, by decide⟩, ?_⟩
      have et : ((rows.take (i + 1)).map (·.num)).filter (fun z => decide (z < 1000000000)) = ((rows.take i).map (·.num)).filter (fun z => decide (z < 1000000000)) ++ (if x.num < 1000000000 then [x.num] else []) := by
        rw [List.take_add_one, hx, List.map_append, List.filter_append]
        congr 1
        show [x.num].filter _ = _
        rw [List.filter_cons]
        by_cases c : x.num < 1000000000
        · rw [if_pos (decide_eq_true c), if_pos c]; rfl
        · rw [if_neg (fun z => c (of_decide_eq_true z)), if_neg c]; rfl
      refine ⟨1000000000, rfl, ?_⟩
      rw [et]
      by_cases c : x.num < 1000000000
      · rw [if_pos c, if_pos (decide_eq_true c), List.map_append]
        rfl
      · rw [if_neg c, if_neg (fun z => c (of_decide_eq_true z)), List.append_nil]
    · rintro acc hE hacc
      rw [List.length_map, List.take_length] at hE
      subst hE
      simp only [List.length_map] at hacc
      walk_at "pu"
      refine ⟨by rw [List.length_map]; omega, ?_⟩
      obtain ⟨ns, hns⟩ : ∃ ns, ns = (rows.map (·.num)).filter fun z => decide (z < 1000000000) := ⟨_, rfl⟩
      rw [← hns]
      refine ⟨ns ++ [20], by rw [List.map_append]; rfl, by rw [List.length_append]; exact Nat.succ_pos _, fun mx hm1 hm2 => ?_⟩
      have hin : ∀ z, z ∈ ns ↔ (∃ r ∈ rows, r.num = z) ∧ z < 1000000000 := fun z => by
        rw [hns, List.mem_filter, List.mem_map]
        exact ⟨fun h => ⟨h.1, of_decide_eq_true h.2⟩, fun h => ⟨h.1, decide_eq_true h.2⟩⟩
      have mx20 : 20 ≤ mx := hm2 20 (List.mem_append_right _ List.mem_cons_self)
      have mxm : mx ≤ 20 + (m : Int) := by
        rcases List.mem_append.mp hm1 with h | h
        · obtain ⟨⟨x, hx, rfl⟩, lt⟩ := (hin mx).mp h
          rcases (hg.nk x hx).2 with h | h <;> omega
        · have : mx = 20 := by simpa using h
          omega
      have fresh : ∀ x ∈ rows, x.num ≠ mx + 1 := fun x hx e => by
        rcases (hg.nk x hx).2 with h | h
        · have := hm2 x.num (List.mem_append_left _ ((hin _).mpr ⟨⟨x, hx, rfl⟩, by omega⟩))
          omega
        · omega
      clear hin hns hm1 hm2 hacc
      obtain ⟨N, rfl⟩ : ∃ N, mx = N - 1 := ⟨mx + 1, by omega⟩
      have eN : N - 1 + 1 = N := by omega
      rw [eN] at fresh
      walk_at "pu"
      rw [eN]
      refine go ?_
      walk_at "pu"
      refine ⟨rfl, ?_⟩
      generalize hF : (hold (pRet (pLst (pCons (pVar 3) (pCons (pVar 4) (pCons (pVar 5) pNil)))) { nx := fun _ => Qp .cl .non, rt := Qp }) : PEnv Ob → Prop) = F
      have fin : ∀ {x0 x1 x2 x3 x4 x6 x7 x8 x9 x10 x11 : PV Ob} (rows' : List PR) (sets' : List Str), x3.share = .sh (.lst (rows'.map rowP)) → x4.share = .sh (.lst (strsD sets')) → GoodP rows' sets' n (m + 1) → rows'.length ≤ many →
          F [x0, x1, x2, x3, x4, .sh .non, x6, x7, x8, x9, x10, x11] := by
        intro x0 x1 x2 x3 x4 x6 x7 x8 x9 x10 x11 rows' sets' e3 e4 g' l'
        subst hF
        refine go ?_
        unfold pRet shE
        simp only [List.map_cons, List.map_nil, e3, e4]
        walk_at "pu"
        exact hq rows' sets' g' l'
      have wa := wordsP_in (List.mem_of_getElem? hr)
      have wb := wordsP_in (List.mem_of_getElem? hrb)
      have wl := hg.wl
      have same := hg.up (Nat.le_refl n) (Nat.le_succ m)
      have hk : kd = 0 ∨ kd = 1 ∨ kd = 2 ∨ kd = 3 ∨ kd = 4 := by omega
      have rA : atI (rows.map (rowP (Ob := Ob))) (a : Int) = some (rowP r) := atI_nat' (rowsP_at hr)
      have okA : ∀ w ∈ r.al, PyData.strOk w = true := fun w hw => (hg.wk w (wordsP_mem.mpr ⟨r, List.mem_of_getElem? hr, .inr hw⟩)).2
      have hB : pSetX 3 (pxi pxv (pVar 6)) (pC (Dt.int 2)) (pVar 9) { nx := F, rt := Qp } [.sh .src, .sh (.lst [.lst (rows.map rowP), .lst (strsD sets), g]), .sh (.int many), .deep O true (.lst (rows.map rowP)), .own (strsD sets), .sh .non, .sh (.int a), .sh (.int b), .sh (.int kd), .sh (.int N), .no, .no] := by
        refine ⟨O, _, rfl, ?_⟩
        walk_at "pu"
        refine ⟨rfl, px_row rfl hr ⟨_, subP1 hr, ?_⟩⟩
        walk_at "pu"
        refine ⟨2, rfl, ?_⟩
        rw [show putL (.lst (rows.map (rowP (Ob := Ob)))) [a] ([Dt.str r.name, Dt.lst (strsD r.al), Dt.int r.num, Dt.lst (strsD r.see)].set 2 (Dt.int N)) = _ from putP1 hr { r with num := N }]
        exact fin _ sets rfl rfl (hg.num hr fresh (by omega) (by omega)) (by rw [List.length_set]; exact hl)
      rcases hk with rfl | rfl | rfl | rfl | rfl
      · rw [if_pos (by decide)]
        by_cases l3 : sets.length < 3
        · rw [if_pos (by rw [strsD_len]; simp; omega)]
          refine ⟨by rw [strsD_len]; omega, ?_⟩
          obtain ⟨cand, hcand⟩ : ∃ cand : List Str, cand = (["u", "kk", "a"] : List Str) := ⟨_, rfl⟩
          refine lc_inv (strsD cand) (fun i acc => acc = strsD ((cand.take i).filter fun s => !decide (s ∈ sets))) (fun Q q => by subst hcand; walk_at "pu"; exact q _) (by rw [hcand, strsD_len]; decide) rfl ?_ ?_
          · rintro i d acc hd rfl
            obtain ⟨o, ho, rfl⟩ := map_get hd
            walk_at "pu"
            refine ⟨_, flatsS sets, ?_⟩
            rw [inV_decS]
            have et : (cand.take (i + 1)).filter (fun s => !decide (s ∈ sets)) = (cand.take i).filter (fun s => !decide (s ∈ sets)) ++ (if (!decide (o ∈ sets)) = true then [o] else []) := by
              rw [List.take_add_one, ho, List.filter_append]
              congr 1
              show [o].filter _ = _
              rw [List.filter_cons]
              rfl
            rw [et]
            by_cases c : (!decide (o ∈ sets)) = true
            · rw [if_pos c, if_pos c]
              exact (strsD_app (b := [o])).symm
            · rw [if_neg c, if_neg c, List.append_nil]
          · rintro acc hE hacc
            rw [strsD_len, List.take_length] at hE
            subst hE
            obtain ⟨s, rest, es⟩ : ∃ s rest, (cand.filter fun s => !decide (s ∈ sets)) = s :: rest := by
              cases e : cand.filter fun s => !decide (s ∈ sets) with
              | cons s rest => exact ⟨s, rest, rfl⟩
              | nil =>
                exfalso
                have sub : ∀ x ∈ cand, x ∈ sets := fun x hx => by
                  by_cases z : x ∈ sets
                  · exact z
                  · have : x ∈ cand.filter fun s => !decide (s ∈ sets) := List.mem_filter.mpr ⟨hx, by rw [decide_eq_false z]; rfl⟩
                    rw [e] at this
                    cases this
                have := nodup_sub_len (show cand.Nodup by rw [hcand]; decide +kernel) sub
                rw [show cand.length = 3 by rw [hcand]; rfl] at this
                omega
            have sm : s ∈ cand.filter fun s => !decide (s ∈ sets) := by rw [es]; exact List.mem_cons_self
            have sc := (List.mem_filter.mp sm).1
            have sn : s ∉ sets := fun z => by
              have := (List.mem_filter.mp sm).2
              rw [decide_eq_true z] at this
              cases this
            have sk : NmP s := (show ∀ x ∈ cand, NmP x by rw [hcand]; decide +kernel) s sc
            rw [es]
            walk_at "pu"
            refine ⟨_, atI_0, ?_⟩
            refine go ?_
            have ssl := (hg.see r (List.mem_of_getElem? hr))
            have ssl3 := nodup_sub_len ssl.1 ssl.2
            refine ⟨O, _, rfl, px_row3 rfl hr ⟨_, subP13 hr, by rw [strsD_len]; omega, ?_⟩⟩
            walk_at "pu"
            refine ⟨1, rfl, _, rfl, .str s, atI_last, rfl, ?_⟩
            rw [show (strsD r.see ++ [Dt.str s] : List (Dt Ob)) = strsD (r.see ++ [s]) from (strsD_app (a := r.see) (b := [s])).symm, putP13 hr]
            exact fin _ (sets ++ [s]) rfl (by show PV.sh (.lst (strsD sets ++ [.str s])) = _; rw [strsD_app]; rfl) (hg.addSet hr sn sk l3) (by rw [List.length_set]; exact hl)
        · rw [if_neg (by rw [strsD_len]; simp; omega), if_pos (by decide)]
          exact hB
      · rw [if_neg (by decide), if_pos (by decide)]
        exact hB
      · rw [if_neg (by decide), if_neg (by decide)]
        refine ⟨rfl, ?_⟩
        rw [if_pos (by decide)]
        refine ⟨_, rA, _, rfl, _, atI_1, ?_⟩
        refine po_neNilS okA ?_
        walk_at "pu"
        cases hal : r.al with
        | nil =>
          rw [if_neg (by decide)]
          refine ⟨rfl, ?_⟩
          rw [if_neg (by decide)]
          walk_at "ef"
        | cons x xs =>
          rw [if_pos (by rfl)]
          refine ⟨O, _, rfl, ?_⟩
          walk_at "pu"
          refine ⟨_, rA, _, rfl, _, atI_1, strsD r.al, rfl, .str x, by rw [hal]; exact atI_0, _, rA, _, rfl, _, atI_0, rfl, rfl, ?_⟩
          refine px_row rfl hr ⟨_, subP1 hr, ?_⟩
          walk_at "pu"
          refine ⟨0, rfl, ?_⟩
          rw [show putL (.lst (rows.map (rowP (Ob := Ob)))) [a] ([Dt.str r.name, Dt.lst (strsD r.al), Dt.int r.num, Dt.lst (strsD r.see)].set 0 (Dt.str x)) = _ from putP1 hr { r with name := x }]
          have hr2 : (rows.set a { r with name := x })[a]? = some { r with name := x } := List.getElem?_set_self al
          refine px_row1 rfl hr2 ⟨_, subP11 hr2, ?_⟩
          walk_at "pu"
          have e2 : ((strsD r.al).set 0 (Dt.str r.name) : List (Dt Ob)) = strsD (r.name :: xs) := by rw [hal]; rfl
          refine ⟨0, ixN_nat (n := (strsD r.al : List (Dt Ob)).length) (i := 0) (by rw [strsD_len, hal]; exact Nat.succ_pos _), ?_⟩
          rw [show (strsD ({ r with name := x } : PR).al : List (Dt Ob)) = strsD r.al from rfl, e2, putP11 hr2, List.set_set]
          exact fin _ sets rfl rfl (hg.swapA hr hal) (by rw [List.length_set]; exact hl)
      · rw [if_neg (by decide), if_neg (by decide)]
        refine ⟨rfl, ?_⟩
        rw [if_neg (by decide)]
        refine ⟨rfl, ?_⟩
        rw [if_pos (by decide)]
        refine ⟨_, rA, _, rfl, _, atI_1, ?_⟩
        refine po_neNilS okA ?_
        walk_at "pu"
        rcases List.eq_nil_or_concat r.al with hal | ⟨ys, x, hal⟩
        · rw [if_neg (by rw [hal]; decide)]
          walk_at "ef"
        · rw [List.concat_eq_append] at hal
          rw [if_pos (by rw [hal]; simp)]
          by_cases lm : rows.length < many
          · rw [if_pos (by rw [List.length_map]; simp; omega)]
            refine ⟨O, _, rfl, by decide, px_row1 rfl hr ⟨_, .str x, subP11 hr, by rw [hal]; exact strs_last.1, rfl, ?_⟩⟩
            rw [hal, strs_last.2, putP11 hr]
            refine go ?_
            walk_at "pu"
            refine go ?_
            walk_at "pu"
            rw [cutTo (by omega), cutFrom (by omega), Int.toNat_natCast]
            refine ⟨by simp only [List.length_map, List.length_take, List.length_set]; omega, by simp only [List.length_append, List.length_map, List.length_take, List.length_drop, List.length_set, List.length_singleton]; omega, ?_⟩
            refine fin _ sets ?_ rfl (hg.ins (b := b) hr hal fresh (by omega) (by omega)) (by simp only [List.length_append, List.length_take, List.length_drop, List.length_set, List.length_singleton]; omega)
            rw [List.map_append, List.map_append, List.map_take, List.map_drop]
            rfl
          · rw [if_neg (by rw [List.length_map]; simp; omega)]
            walk_at "ef"
      · rw [if_neg (by decide), if_neg (by decide)]
        refine ⟨rfl, ?_⟩
        rw [if_neg (by decide)]
        refine ⟨rfl, ?_⟩
        rw [if_neg (by decide)]
        walk_at "ef"
end
end Pu
/-! ### _law_changed over trees -/
namespace Pu
open PySem PySem.W PySem.Spec PyProof.Rows L2 Gk
section
variable {P : Program} {w : World} {Ob : Type} {W : Wd Ob} [∀ z, NoNon (W.at z)] {mg : Str → Option Value} {base : Heap}
def FChangedP : List (Dt Ob) → PQ Ob → Prop := fun ds Q => ∃ rows sets g n m, ∃ many : Nat, ds = [.src, planP rows sets g, .int many] ∧ GoodP rows sets n m ∧ n ≤ 13 ∧ m ≤ 100 ∧ rows.length ≤ many ∧ many ≤ 16 ∧
  ∀ rows' sets', GoodP rows' sets' (n + 1) (m + 1) → rows'.length ≤ many → Q .fr (planP rows' sets' .non)
theorem FChangedP_len {ds : List (Dt Ob)} {Q : PQ Ob} (h : FChangedP ds Q) : ds.length = 3 := by obtain ⟨_, _, _, _, _, _, rfl, _⟩ := h; rfl
set_option hygiene false in
local macro_rules | `(tactic| walk_at "ss") => `(tactic| (
  refine po_neNilS okS ?_
  walk_at "pu"
  by_cases e0 : sets = []
  · rw [if_neg (by rw [e0]; decide)]
    refine ⟨O, _, rfl, px_row1 rfl hr ⟨_, subP11 hr, by rw [strsD_len]; omega, ?_⟩⟩
    walk_at "pu"
    refine ⟨rfl, ?_⟩
    rw [show (strsD r.al ++ [Dt.str w] : List (Dt Ob)) = strsD (r.al ++ [w]) from (strsD_app (a := r.al) (b := [w])).symm, putP11 hr]
    exact fin _ rfl (hg.fresh hr nw okw (r' := { r with al := r.al ++ [w] }) (List.perm_append_singleton w (r.name :: r.al)) rfl rfl) (by rw [List.length_set]; exact hl)
  · rw [if_pos (by cases sets with
      | nil => exact absurd rfl e0
      | cons _ _ => rfl)]
    refine ⟨O, _, rfl, by decide, by decide, ?_⟩
    walk_at "pu"
    refine ⟨_, rfl, by rw [strsD_len]; exact List.length_pos_iff.mpr e0, by rw [strsD_len]; omega, fun od hod => ?_⟩
    obtain ⟨one, hone, rfl⟩ := List.mem_map.mp hod
    walk_at "pu"
    refine ⟨_, rA, _, rfl, _, atI_3, rfl, ?_⟩
    refine lc_inv (strsD sets) (fun i acc => ∃ vs : List Str, acc = strsD vs ∧ vs.Sublist (sets.take i)) (fun Q q => by walk_at "pu"; exact q _) (by rw [strsD_len]; omega) ⟨[], rfl, List.nil_sublist _⟩ ?_ ?_
    · rintro i d acc hd ⟨vs, rfl, hv⟩
      obtain ⟨o, ho, rfl⟩ := map_get hd
      have tk : sets.take (i + 1) = sets.take i ++ [o] := by rw [List.take_add_one, ho]; rfl
      walk_at "pu"
      refine ⟨_, flatsS r.see, ?_⟩
      rw [tk]
      refine ⟨rfl, rfl, ?_⟩
      split
      · exact ⟨vs ++ [o], (strsD_app (b := [o])).symm, hv.append (List.Sublist.refl _)⟩
      · exact ⟨vs, rfl, hv.trans (List.sublist_append_left _ _)⟩
    · rintro acc ⟨vs, rfl, hv⟩ hacc
      rw [strsD_len, List.take_length] at hv
      refine ⟨rfl, _, rfl, by rw [flatsS]; rfl, fun q => px_row rfl hr ⟨_, subP1 hr, ?_⟩⟩
      walk_at "pu"
      refine ⟨3, rfl, ?_⟩
      rw [show putL (.lst (rows.map (rowP (Ob := Ob)))) [a] ([Dt.str r.name, Dt.lst (strsD r.al), Dt.int r.num, Dt.lst (strsD r.see)].set 3 (Dt.lst (strsD vs))) = _ from putP1 hr { r with see := vs }]
      exact fin _ rfl ((hg.seeTo hr ⟨hg.sn.sublist hv, fun x hx => hv.subset hx⟩).up (Nat.le_succ n) (Nat.le_refl _)) (by rw [List.length_set]; exact hl)))
abbrev sP_changed : Stmt := (top 43)
abbrev nP_changed : List Str := ["stream", "plan", "many", "rows", "sets", "given", "at", "to", "kind", "pool", "name", "fresh", "number", "row", "some", "one", "old"]
theorem scP_changed : FnScope nP_changed ["stream", "plan", "many"] (defScope sP_changed) := ⟨rfl, rfl, rfl, by decide +kernel, rfl, by decide +kernel, by decide +kernel⟩
theorem okP_changed {f : Addr} {fd : FuncData} (Fu : Fun W.K "_law_changed" "_law_changed" sP_changed f fd) (B : Blt mg) (cX : CalS P w W.K mg base "_law_copy" 1 ["plan"] (frSp (spCopyX Ob))) (cD : Cal P w W.K mg base W "_law_draw" 1 ["stream", "size"] [] anyZ FDraw) (cC : Cal P w W.K mg base W "_law_choose" 2 ["stream", "items"] [] anyZ FPick) (cP : Cal P w W.K mg base W "_law_place" 1 ["plan", "name"] [] anyZ FPlaceP) (cY : Cal P w W.K mg base W "_law_copy" 1 ["plan"] [] anyZ FCopyP) (cU : Cal P w W.K mg base W "_law_further" 2 ["stream", "plan", "many"] [] anyZ FFurther) : FnOk P w W.K mg base CX0 3 f fd ["stream", "plan", "many"] (PFn W anyZ FChangedP) := by
  obtain ⟨fD, dD, eD, GD, bD, vD, gD, kD⟩ := cD.ex
  obtain ⟨fC, dC, eC, GC, bC, vC, gC, kC⟩ := cC.ex
  obtain ⟨fP, dP, eP, GP, bP, vP, gP, kP⟩ := cP.ex
  obtain ⟨fY, dY, eY, GY, bY, vY, gY, kY⟩ := cY.ex
  obtain ⟨fU, dU, eU, GU, bU, vU, gU, kU⟩ := cU.ex
  obtain ⟨fX, dX, GX, bX, gX, kX⟩ := cX.ex
  refine pfn_ok Fu scP_changed (fun ds Qp h => ?_) (fun cdv A outer s H Q E hr => ?_)
  · exact FChangedP_len h
  · have nd := scP_changed.nd
    have hu := hu_of hr
    have hu64 : (A.deeper (envOfC "_law_changed" (defScope sP_changed) s.heap.objs.size f cdv)).units + 64 < cLine := by have := hr.un; omega
    refine ⟨_, (pss_cons (ps_if (pt_cmpR op_eq (pe_call GD (hr.mono (by decide)) (by rfl) gD kD bD vD pass0 (pa_cons (pv 0) (pa_cons pe_int pa_nil))) pe_int (nomark _)) (pss_one (ps_ret (pe_call GU hr (by rfl) gU kU bU vU pass0 (pa_cons (pv 0) (pa_cons (pv 1) (pa_cons (pv 2) pa_nil)))))) pss_nil) (pss_cons (ps_asg (by exact (pe_call GX (hr.mono (by decide)) (by rfl) gX kX bX .nil pass0 (pa_cons (pv 1) pa_nil))) (by exact (pg_unl (n := 3) rfl (pgs_cons (pg_name (i := 3) nd rfl (Or.inl rfl)) (pgs_cons (pg_name (i := 4) nd rfl (Or.inl rfl)) (pgs_cons (pg_name (i := 5) nd rfl (Or.inl rfl)) pgs_nil)))))) (pss_cons (ps_par (i := 6) (j := 7) rfl nd rfl rfl (by decide) rfl rfl (pa_cons (pe_call GD (hr.mono (by decide)) (by rfl) gD kD bD vD pass0 (pa_cons (pv 0) (pa_cons (pe_callB call_len_seq (by rfl) B.len PySem.boot_len (pa_cons (pv 3) pa_nil)) pa_nil))) (pa_cons (pe_call GD (hr.mono (by decide)) (by rfl) gD kD bD vD pass0 (pa_cons (pv 0) (pa_cons (pe_callB call_len_seq (by rfl) B.len PySem.boot_len (pa_cons (pv 3) pa_nil)) pa_nil))) pa_nil)) rfl) (pss_cons (ps_set (i := 8) nd rfl (Or.inl rfl) (pe_call GD (hr.mono (by decide)) (by rfl) gD kD bD vD pass0 (pa_cons (pv 0) (pa_cons pe_int pa_nil)))) (pss_cons (ps_set (i := 9) nd rfl (Or.inl rfl) (pe_lst (pa_cons pe_str (pa_cons pe_str (pa_cons pe_str (pa_cons pe_str (pa_cons pe_str (pa_cons pe_str (pa_cons pe_str (pa_cons pe_str (pa_cons pe_str (pa_cons pe_str (pa_cons pe_str (pa_cons pe_str (pa_cons pe_str (pa_cons pe_str (pa_cons pe_str pa_nil))))))))))))))))) (pss_cons (ps_setLc (i := 9) (own := [("name", 10)]) (te := (tVar 10)) (g := (gName 10)) (tt := (tTest (tOp rIsNP (tCall (PFn W anyZ FPlaceP) [] E0 (tCons (tVar 1) (tCons (tVar 10) tNil))) (tC .non)))) rfl nd rfl rfl (sw_true rfl rfl rfl (by decide +kernel)) (pi_list (pv 9)) (blkOk_by (N := nP_changed) (sc := defScope sP_changed) (by decide +kernel)) (fun _ _ _ _ _ => (pg_name (i := 10) nd rfl (Or.inl rfl))) (fun _ _ _ _ _ => by exact (pts_one (pt_cmpR op_isN (pe_call GP (hr.mono (by decide)) (by rfl) gP kP bP vP pass0 (pa_cons (pv 1) (pa_cons (pv 10) pa_nil))) pe_non (nomark _)))) (fun _ _ _ _ _ => by exact (pv 10))) (pss_cons (ps_set (i := 11) nd rfl (Or.inl rfl) (pe_call GC hr (by rfl) gC kC bC vC pass0 (pa_cons (pv 0) (pa_cons (pv 9) pa_nil)))) (pss_cons (ps_if (PW.pt (pw_and (pt_cmpR op_lt (pv 8) pe_int (nomark _)) (pw_and1 (pt_cmpR op_lt (pe_callB call_len_seq (by rfl) B.len PySem.boot_len (pa_cons (pv 3) pa_nil)) (pv 2) (nomark _))))) (pss_cons (ps_set (i := 12) nd rfl (Or.inl rfl) (pe_op op_add (pe_callB (cr_max rfl) (by rfl) B.max bt_max (pa_cons (pe_op op_cat (pe_lc (own := [("row", 13)]) (te := (tOp (rIxL W.K) (tVar 13) (tC (.int 2)))) (g := (gName 13)) (tt := (tTest (tOp (rI0 fun i j => .bl (decide (i < j))) (tOp (rIxL W.K) (tVar 13) (tC (.int 2))) (tOp (rI CPow fun i j => .int (i ^ j.toNat)) (tC (.int 10)) (tC (.int 9)))))) rfl nd (pi_list (pv 3)) (blkOk_by (N := nP_changed) (sc := defScope sP_changed) (by decide +kernel)) (fun _ _ _ _ _ => (pg_name (i := 13) nd rfl (Or.inl rfl))) (fun _ _ _ _ _ => by exact (pts_one (pt_cmpR op_lt (pe_ix ix_list (pv 13) pe_int (fun _ _ => rfl)) (pe_op op_pow pe_int pe_int) (nomark _)))) (fun _ _ _ _ _ => by exact (pe_ix ix_list (pv 13) pe_int (fun _ _ => rfl)))) (pe_lst (pa_cons pe_int pa_nil))) pa_nil)) pe_int)) (pss_cons (ps_setLc (i := 14) (own := [("one", 15)]) (te := (tVar 15)) (g := (gName 15)) (tt := (tTest (tOp rEq (tCall (PFn W anyZ FDraw) [] E0 (tCons (tVar 0) (tCons (tC (.int 3)) tNil))) (tC (.int 0))))) rfl nd rfl rfl (sw_true rfl rfl rfl (by decide +kernel)) (pi_list (pv 4)) (blkOk_by (N := nP_changed) (sc := defScope sP_changed) (by decide +kernel)) (fun _ _ _ _ _ => (pg_name (i := 15) nd rfl (Or.inl rfl))) (fun _ _ _ _ _ => by exact (pts_one (pt_cmpR op_eq (pe_call GD (hr.mono (by decide)) (by rfl) gD kD bD vD pass0 (pa_cons (pv 0) (pa_cons pe_int pa_nil))) pe_int (nomark _)))) (fun _ _ _ _ _ => by exact (pv 15))) (pss_cons (ps_set (i := 7) nd rfl (Or.inl rfl) (pe_call GC hr (by rfl) gC kC bC vC pass0 (pa_cons (pv 0) (pa_cons (pe_lst (pa_cons (pv 7) (pa_cons (pe_callB call_len_seq (by rfl) B.len PySem.boot_len (pa_cons (pv 3) pa_nil)) pa_nil))) pa_nil)))) (pss_one (ps_set (i := 3) nd rfl (Or.inl rfl) (pe_op op_cat (pe_op op_cat (pe_slice sl_list (pv 3) po_none (po_some (pv 7))) (pe_lst (pa_cons (pe_lst (pa_cons (pv 11) (pa_cons (pe_lst pa_nil) (pa_cons (pv 12) (pa_cons (pv 14) pa_nil))))) pa_nil))) (pe_slice sl_list (pv 3) (po_some (pv 7)) po_none))))))) (pss_one (ps_if (pt_cmpR op_eq (pv 8) pe_int (nomark _)) (pss_one (ps_asg (by exact (pe_tup (pa_cons (pe_op op_cat (pe_ix ix_list (pe_ix ix_list (pv 3) (pv 6) (fun _ _ => rfl)) pe_int (fun _ _ => rfl)) (pe_lst (pa_cons (pe_ix ix_list (pe_ix ix_list (pv 3) (pv 6) (fun _ _ => rfl)) pe_int (fun _ _ => rfl)) pa_nil))) (pa_cons (pv 11) pa_nil)))) (by exact (pg_tup (n := 2) rfl (pgs_cons (pg_sub (pe_ix ix_list (pv 3) (pv 6) (fun _ _ => rfl)) pe_int set_list) (pgs_cons (pg_sub (pe_ix ix_list (pv 3) (pv 6) (fun _ _ => rfl)) pe_int set_list) pgs_nil)))))) (pss_one (ps_if (pt_cmpR op_eq (pv 8) pe_int (nomark _)) (pss_one (ps_asg (by exact (pe_tup (pa_cons (pe_ix ix_list (pe_ix ix_list (pv 3) (pv 7) (fun _ _ => rfl)) pe_int (fun _ _ => rfl)) (pa_cons (pe_ix ix_list (pe_ix ix_list (pv 3) (pv 6) (fun _ _ => rfl)) pe_int (fun _ _ => rfl)) pa_nil)))) (by exact (pg_tup (n := 2) rfl (pgs_cons (pg_sub (pe_ix ix_list (pv 3) (pv 6) (fun _ _ => rfl)) pe_int set_list) (pgs_cons (pg_sub (pe_ix ix_list (pv 3) (pv 7) (fun _ _ => rfl)) pe_int set_list) pgs_nil)))))) (pss_one (ps_if (pt_cmpR op_eq (pv 8) pe_int (nomark _)) (pss_one (ps_asg (by exact (pe_tup (pa_cons (pe_ix ix_list (pe_ix ix_list (pv 3) (pv 7) (fun _ _ => rfl)) pe_int (fun _ _ => rfl)) (pa_cons (pe_ix ix_list (pe_ix ix_list (pv 3) (pv 6) (fun _ _ => rfl)) pe_int (fun _ _ => rfl)) pa_nil)))) (by exact (pg_tup (n := 2) rfl (pgs_cons (pg_sub (pe_ix ix_list (pv 3) (pv 6) (fun _ _ => rfl)) pe_int set_list) (pgs_cons (pg_sub (pe_ix ix_list (pv 3) (pv 7) (fun _ _ => rfl)) pe_int set_list) pgs_nil)))))) (pss_one (ps_if (pt_cmpR op_eq (pv 8) pe_int (nomark _)) (pss_cons (ps_set (i := 3) nd rfl (Or.inl rfl) (pe_op op_cat (pe_slice sl_list (pv 3) po_none (po_some (pv 6))) (pe_slice sl_list (pv 3) (po_some (pe_op op_add (pv 6) pe_int)) po_none))) (pss_one (ps_set (i := 3) nd rfl (Or.inl rfl) (pe_op op_cat (pe_op op_cat (pe_slice sl_list (pv 3) po_none (po_some (pv 7))) (pe_lst (pa_cons (pe_ix ix_list (pe_ix ix_list (pe_call GY (hr.mono (by decide)) (by rfl) gY kY bY vY pass0 (pa_cons (pv 1) pa_nil)) pe_int (fun _ _ => rfl)) (pv 6) (fun _ _ => rfl)) pa_nil))) (pe_slice sl_list (pv 3) (po_some (pv 7)) po_none))))) (pss_one (ps_if (pt_cmpR (op_neD hu64) (pv 4) (pe_lst pa_nil) (nomark _)) (pss_cons (ps_asg (by exact (pe_tup (pa_cons (pe_call GC hr (by rfl) gC kC bC vC pass0 (pa_cons (pv 0) (pa_cons (pv 4) pa_nil))) (pa_cons (pe_ix ix_list (pe_ix ix_list (pv 3) (pv 6) (fun _ _ => rfl)) pe_int (fun _ _ => rfl)) pa_nil)))) (by exact (pg_tup (n := 2) rfl (pgs_cons (pg_name (i := 15) nd rfl (Or.inr rfl)) (pgs_cons (pg_name (i := 16) nd rfl (Or.inr rfl)) pgs_nil))))) (pss_one (ps_asg (by exact (pe_lc (own := [("name", 10)]) (te := (tVar 10)) (g := (gName 10)) (tt := (tTest (tOp rNe (tOp (rIn W.K false) (tVar 10) (tVar 16)) (tOp rEq (tVar 10) (tVar 15))))) rfl nd (pi_list (pv 4)) (blkOk_by (N := nP_changed) (sc := defScope sP_changed) (by decide +kernel)) (fun _ _ _ _ _ => (pg_name (i := 10) nd rfl (Or.inl rfl))) (fun _ _ _ _ _ => by exact (pts_one (pt_cmpR op_ne (pe_cmpR op_in_seq (pv 10) (pv 16) (by rfl)) (pe_cmpR op_eq (pv 10) (pv 15) (nomark _)) (nomark _)))) (fun _ _ _ _ _ => by exact (pv 10)))) (by exact (pg_sub (pe_ix ix_list (pv 3) (pv 6) (fun _ _ => rfl)) pe_int set_list))))) (pss_one (ps_expr (by exact (pe_bm PySem.F.plainAttrs_list PySem.F.slot_list_append PySem.F.type_list_append mt_append (pe_ix ix_list (pe_ix ix_list (pv 3) (pv 6) (fun _ _ => rfl)) pe_int (fun _ _ => rfl)) (pa_cons (pv 11) pa_nil)))))))))))))))) (pss_one (ps_ret (pe_lst (pa_cons (pv 3) (pa_cons (pv 4) (pa_cons (pv 5) pa_nil)))))))))))))), fun z hz => ⟨_, (snd_seq (snd_ifS (snd_test (snd_op (snd_call (dds := []) trivial (by rfl) (snd_cons snd_var (snd_cons snd_cint snd_nil))) snd_cint snd_rEq)) (snd_ret (snd_call (dds := []) trivial (by rfl) (snd_cons snd_var (snd_cons snd_var (snd_cons snd_var snd_nil))))) snd_next) (snd_seq (snd_copyU (i := 3) (j := 4) (l := 5) snd_var) (snd_seq (snd_share 4 (snd_parF (i := 6) (j := 7) (snd_call (dds := []) trivial (by rfl) (snd_cons snd_var (snd_cons (snd_cb snd_len (snd_cons snd_var snd_nil)) snd_nil))) (snd_call (dds := []) trivial (by rfl) (snd_cons snd_var (snd_cons (snd_cb snd_len (snd_cons snd_var snd_nil)) snd_nil))))) (snd_seq (snd_asg (m := false) (snd_call (dds := []) trivial (by rfl) (snd_cons snd_var (snd_cons snd_cint snd_nil)))) (snd_seq (snd_asg (m := false) (snd_lst (snd_cons snd_cstr (snd_cons snd_cstr (snd_cons snd_cstr (snd_cons snd_cstr (snd_cons snd_cstr (snd_cons snd_cstr (snd_cons snd_cstr (snd_cons snd_cstr (snd_cons snd_cstr (snd_cons snd_cstr (snd_cons snd_cstr (snd_cons snd_cstr (snd_cons snd_cstr (snd_cons snd_cstr (snd_cons snd_cstr snd_nil))))))))))))))))) (snd_seq (snd_asg (m := false) (snd_lc (vs := [10]) (js := [10]) (snd_piL snd_var) snd_gN (by decide) (snd_test (snd_op (snd_call (dds := []) trivial (by rfl) (snd_cons snd_var (snd_cons snd_var snd_nil))) snd_cnon snd_rIsN)) snd_var)) (snd_seq (snd_asg (m := false) (snd_call (dds := []) trivial (by rfl) (snd_cons snd_var (snd_cons snd_var snd_nil)))) (snd_seq (snd_ifS (snd_and (snd_test (snd_op snd_var snd_cint snd_rB)) (snd_test (snd_op (snd_cb snd_len (snd_cons snd_var snd_nil)) snd_var snd_rB))) (snd_seq (snd_asgF (snd_op (snd_cb snd_maxL (snd_cons (snd_op (snd_lc (vs := [13]) (js := [13]) (snd_piL snd_var) snd_gN (by decide) (snd_test (snd_op (snd_op snd_var snd_cint snd_rIxL) (snd_op snd_cint snd_cint snd_rIC) snd_rB)) (snd_op snd_var snd_cint snd_rIxL)) (snd_lst (snd_cons snd_cint snd_nil)) snd_rCat) snd_nil)) snd_cint snd_rI)) (snd_seq (snd_asg (m := false) (snd_lc (vs := [15]) (js := [15]) (snd_piL snd_var) snd_gN (by decide) (snd_test (snd_op (snd_call (dds := []) trivial (by rfl) (snd_cons snd_var (snd_cons snd_cint snd_nil))) snd_cint snd_rEq)) snd_var)) (snd_seq (snd_asgF (snd_call (dds := []) trivial (by rfl) (snd_cons snd_var (snd_cons (snd_lst (snd_cons snd_var (snd_cons (snd_cb snd_len (snd_cons snd_var snd_nil)) snd_nil))) snd_nil)))) (snd_share 3 (snd_asg (m := false) (snd_op (snd_op (snd_slL snd_var snd_noPart (snd_part snd_var)) (snd_lst (snd_cons (snd_lst (snd_cons snd_var (snd_cons (snd_lst snd_nil) (snd_cons snd_var (snd_cons snd_var snd_nil))))) snd_nil)) snd_rCat) (snd_slL snd_var (snd_part snd_var) snd_noPart) snd_rCat)))))) (snd_ifS (snd_test (snd_op snd_var snd_cint snd_rEq)) (snd_set2XL (i := 3) (snd_xi snd_xv snd_var) snd_cint (snd_xi snd_xv snd_var) snd_cint (snd_op (snd_op (snd_op snd_var snd_var snd_rIxL) snd_cint snd_rIxL) (snd_lst (snd_cons (snd_op (snd_op snd_var snd_var snd_rIxL) snd_cint snd_rIxL) snd_nil)) snd_rCat) snd_var) (snd_ifS (snd_test (snd_op snd_var snd_cint snd_rEq)) (snd_set2X (i := 3) (snd_xi snd_xv snd_var) snd_cint (snd_xi snd_xv snd_var) snd_cint (snd_op (snd_op snd_var snd_var snd_rIxL) snd_cint snd_rIxL) (snd_op (snd_op snd_var snd_var snd_rIxL) snd_cint snd_rIxL)) (snd_ifS (snd_test (snd_op snd_var snd_cint snd_rEq)) (snd_set2X (i := 3) (snd_xi snd_xv snd_var) snd_cint (snd_xi snd_xv snd_var) snd_cint (snd_op (snd_op snd_var snd_var snd_rIxL) snd_cint snd_rIxL) (snd_op (snd_op snd_var snd_var snd_rIxL) snd_cint snd_rIxL)) (snd_ifS (snd_test (snd_op snd_var snd_cint snd_rEq)) (snd_seq (snd_share 3 (snd_asg (m := false) (snd_op (snd_slL snd_var snd_noPart (snd_part snd_var)) (snd_slL snd_var (snd_part (snd_op snd_var snd_cint snd_rI)) snd_noPart) snd_rCat))) (snd_share 3 (snd_asg (m := false) (snd_op (snd_op (snd_slL snd_var snd_noPart (snd_part snd_var)) (snd_lst (snd_cons (snd_op (snd_op (snd_call (dds := []) trivial (by rfl) (snd_cons snd_var snd_nil)) snd_cint snd_rIxL) snd_var snd_rIxL) snd_nil)) snd_rCat) (snd_slL snd_var (snd_part snd_var) snd_noPart) snd_rCat)))) (snd_ifS (snd_test (snd_op snd_var (snd_lst snd_nil) snd_rNeD)) (snd_old (i := 3) (i1 := 15) (i2 := 16) (snd_xi snd_xv snd_var) snd_cint (snd_call (dds := []) trivial (by rfl) (snd_cons snd_var (snd_cons snd_var snd_nil))) (snd_op (snd_op snd_var snd_var snd_rIxL) snd_cint snd_rIxL) (snd_lc (vs := [10]) (js := [10]) (snd_piL snd_var) snd_gN (by decide) (snd_test (snd_op (snd_op snd_var snd_var snd_rIn) (snd_op snd_var snd_var snd_rEq) snd_rNe)) snd_var)) (snd_appX (i := 3) (snd_xi (snd_xi snd_xv snd_var) snd_cint) snd_var))))))) (snd_ret (snd_lst (snd_cons snd_var (snd_cons snd_var (snd_cons snd_var snd_nil))))))))))))), fun ds Qp h => ?_⟩⟩
    obtain ⟨rows, sets, g, n, m, many, rfl, hg, hn, hm, hl, hmany, hq⟩ := h
    have lo := hg.lo
    have wlen := hg.wl
    walk_at "pu"
    refine ⟨2, rfl, by decide, by decide, fun kz kz0 kz2 => ?_⟩
    walk_at "pu"
    refine ⟨rfl, ?_⟩
    by_cases cz : V.int kz = V.int 0
    · rw [decide_eq_true cz, if_pos rfl]
      exact ⟨rows, sets, g, n, m, many, rfl, hg, by omega, hm, hl, hmany, fun rows' sets' g' l' => hq rows' sets' (g'.up (Nat.le_succ n) (Nat.le_refl _)) l'⟩
    rw [decide_eq_false cz, if_neg Bool.false_ne_true]
    clear cz kz0 kz2
    refine go ?_
    walk_at "pu"
    refine ⟨by decide, rows, rfl, sets, rfl, by omega, fun O => ?_⟩
    refine go ?_
    walk_at "pu"
    refine ⟨_, rfl, by rw [List.length_map]; omega, by rw [List.length_map]; omega, fun k0 h0 h0' => ?_⟩
    walk_at "pu"
    refine ⟨_, rfl, by rw [List.length_map]; omega, by rw [List.length_map]; omega, fun k1 h1 h1' => ?_⟩
    walk_at "pu"
    rw [List.length_map] at h0' h1'
    obtain ⟨a, rfl⟩ := Int.eq_ofNat_of_zero_le h0
    obtain ⟨b, rfl⟩ := Int.eq_ofNat_of_zero_le h1
    have al : a < rows.length := by omega
    have bl : b < rows.length := by omega
    obtain ⟨r, hr⟩ : ∃ r, rows[a]? = some r := ⟨_, List.getElem?_eq_getElem al⟩
    obtain ⟨rb, hrb⟩ : ∃ r, rows[b]? = some r := ⟨_, List.getElem?_eq_getElem bl⟩
    clear h0 h1 h0' h1'
    refine ⟨rfl, rfl, ?_⟩
    refine go ?_
    walk_at "pu"
    refine ⟨8, rfl, by decide, by decide, fun kd kd0 kd8 => ?_⟩
    walk_at "pu"
    refine go ?_
    walk_at "pu"
    refine go ?_
    walk_at "pu"
    refine lc_inv (strsD poolC) (fun i acc => acc = strsD ((poolC.take i).filter fun s => !decide (s ∈ wordsP rows))) (fun Q q => by walk_at "pu"; exact q _) (by rw [strsD_len]; decide) rfl ?_ ?_
    · rintro i d acc hd rfl
      obtain ⟨o, ho, rfl⟩ := map_get hd
      have et : (poolC.take (i + 1)).filter (fun s => !decide (s ∈ wordsP rows)) = (poolC.take i).filter (fun s => !decide (s ∈ wordsP rows)) ++ (if (!decide (o ∈ wordsP rows)) = true then [o] else []) := by
        rw [List.take_add_one, ho, List.filter_append]
        congr 1
        show [o].filter _ = _
        rw [List.filter_cons]
        rfl
      walk_at "pu"
      refine ⟨rows, _, o, rfl, by omega, by omega, fun j hj => ?_, fun hj => ?_⟩
      · rw [et, if_neg (by rw [decide_eq_true hj]; decide), List.append_nil]
        exact ⟨rfl, false, rfl, by rw [if_neg (by decide)]⟩
      · rw [et, if_pos (by rw [decide_eq_false hj]; decide)]
        exact ⟨rfl, true, rfl, by rw [if_pos rfl]; exact (strsD_app (b := [o])).symm⟩
    · rintro acc hE hacc
      rw [strsD_len, List.take_length] at hE
      subst hE
      obtain ⟨pl, hpl⟩ : ∃ pl, pl = poolC.filter fun s => !decide (s ∈ wordsP rows) := ⟨_, rfl⟩
      rw [← hpl]
      have plm : ∀ x ∈ pl, NmP x ∧ x ∉ wordsP rows := fun x hx => by
        rw [hpl, List.mem_filter] at hx
        refine ⟨poolC_ok.2 x hx.1, fun z => ?_⟩
        rw [decide_eq_true z] at hx
        exact absurd hx.2 (by decide)
      have pl0 : 0 < pl.length := by
        cases e : pl with
        | cons _ _ => exact Nat.succ_pos _
        | nil =>
          exfalso
          have sub : ∀ x ∈ poolC, x ∈ wordsP rows := fun x hx => by
            by_cases z : x ∈ wordsP rows
            · exact z
            · have : x ∈ pl := by rw [hpl]; exact List.mem_filter.mpr ⟨hx, by rw [decide_eq_false z]; rfl⟩
              rw [e] at this
              cases this
          have := nodup_sub_len poolC_ok.1 sub
          rw [show poolC.length = 15 from rfl] at this
          omega
      have pl15 : pl.length ≤ 15 := by rw [hpl]; exact List.length_filter_le _ _
      clear hpl hacc
      walk_at "pu"
      refine go ?_
      walk_at "pu"
      refine ⟨_, rfl, by rw [strsD_len]; exact pl0, by rw [strsD_len]; omega, fun fd hfd => ?_⟩
      obtain ⟨w, hw, rfl⟩ := List.mem_map.mp hfd
      obtain ⟨okw, nw⟩ := plm w hw
      walk_at "pu"
      refine go ?_
      walk_at "pu"
      generalize hF : (hold (pRet (pLst (pCons (pVar 3) (pCons (pVar 4) (pCons (pVar 5) pNil)))) { nx := fun _ => Qp .cl .non, rt := Qp }) : PEnv Ob → Prop) = F
      have fin : ∀ {x0 x1 x2 x3 x6 x7 x8 x9 x10 x11 x12 x13 x14 x15 x16 : PV Ob} (rows' : List PR), x3.share = .sh (.lst (rows'.map rowP)) → GoodP rows' sets (n + 1) (m + 1) → rows'.length ≤ many →
          F [x0, x1, x2, x3, .sh (.lst (strsD sets)), .sh .non, x6, x7, x8, x9, x10, x11, x12, x13, x14, x15, x16] := by
        intro x0 x1 x2 x3 x6 x7 x8 x9 x10 x11 x12 x13 x14 x15 x16 rows' e3 g' l'
        subst hF
        refine go ?_
        unfold pRet shE
        simp only [List.map_cons, List.map_nil, e3]
        walk_at "pu"
        exact hq rows' sets g' l'
      have wa := wordsP_in (List.mem_of_getElem? hr)
      have wb := wordsP_in (List.mem_of_getElem? hrb)
      have hk : kd = 0 ∨ kd = 1 ∨ kd = 2 ∨ kd = 3 ∨ kd = 4 ∨ kd = 5 ∨ kd = 6 ∨ kd = 7 := by omega
      have rA : atI (rows.map (rowP (Ob := Ob))) (a : Int) = some (rowP r) := atI_nat' (rowsP_at hr)
      have rB : atI (rows.map (rowP (Ob := Ob))) (b : Int) = some (rowP rb) := atI_nat' (rowsP_at hrb)
      have okS : ∀ w ∈ sets, PyData.strOk w = true := fun w hw => (hg.sk w hw).2
      have same := hg.up (Nat.le_succ n) (Nat.le_succ m)
      have sr := hg.see r (List.mem_of_getElem? hr)
      have sr3 := nodup_sub_len sr.1 sr.2
      have sl3 := hg.sl
      by_cases ck : kd < 3
      · rw [if_pos (by simp; omega)]
        by_cases lm : rows.length < many
        · rw [if_pos (by rw [List.length_map]; simp; omega)]
          refine lc_inv (rows.map rowP) (fun i acc => acc = (((rows.take i).map (·.num)).filter fun z => decide (z < 1000000000)).map Dt.int) (fun Q q => by walk_at "pu"; exact q _) (by rw [List.length_map]; omega) rfl ?_ ?_
          · rintro i d acc hd rfl
            obtain ⟨x, hx, rfl⟩ := map_get hd
            walk_at "pu"
            refine ⟨10, 9, rfl, rfl, ⟨by decide, by decide, by decide⟩, ?_⟩
            have et : ((rows.take (i + 1)).map (·.num)).filter (fun z => decide (z < 1000000000)) = ((rows.take i).map (·.num)).filter (fun z => decide (z < 1000000000)) ++ (if x.num < 1000000000 then [x.num] else []) := by
              rw [List.take_add_one, hx, List.map_append, List.filter_append]
              congr 1
              show [x.num].filter _ = _
              rw [List.filter_cons]
              by_cases c : x.num < 1000000000
              · rw [if_pos (decide_eq_true c), if_pos c]; rfl
              · rw [if_neg (fun z => c (of_decide_eq_true z)), if_neg c]; rfl
            refine ⟨1000000000, rfl, ?_⟩
            rw [et]
            by_cases c : x.num < 1000000000
            · rw [if_pos c, if_pos (decide_eq_true c), List.map_append]
              rfl
            · rw [if_neg c, if_neg (fun z => c (of_decide_eq_true z)), List.append_nil]
          · rintro acc hE hacc
            rw [List.length_map, List.take_length] at hE
            subst hE
            simp only [List.length_map] at hacc
            walk_at "pu"
            refine ⟨by rw [List.length_map]; omega, ?_⟩
            obtain ⟨ns, hns⟩ : ∃ ns, ns = (rows.map (·.num)).filter fun z => decide (z < 1000000000) := ⟨_, rfl⟩
            rw [← hns]
            refine ⟨ns ++ [20], by rw [List.map_append]; rfl, by rw [List.length_append]; exact Nat.succ_pos _, fun mx hm1 hm2 => ?_⟩
            have hin : ∀ z, z ∈ ns ↔ (∃ r ∈ rows, r.num = z) ∧ z < 1000000000 := fun z => by
              rw [hns, List.mem_filter, List.mem_map]
              exact ⟨fun h => ⟨h.1, of_decide_eq_true h.2⟩, fun h => ⟨h.1, decide_eq_true h.2⟩⟩
            have mx20 : 20 ≤ mx := hm2 20 (List.mem_append_right _ List.mem_cons_self)
            have mxm : mx ≤ 20 + (m : Int) := by
              rcases List.mem_append.mp hm1 with h | h
              · obtain ⟨⟨x, hx, rfl⟩, lt⟩ := (hin mx).mp h
                rcases (hg.nk x hx).2 with h | h <;> omega
              · have : mx = 20 := by simpa using h
                omega
            have fresh : ∀ x ∈ rows, x.num ≠ mx + 1 := fun x hx e => by
              rcases (hg.nk x hx).2 with h | h
              · have := hm2 x.num (List.mem_append_left _ ((hin _).mpr ⟨⟨x, hx, rfl⟩, by omega⟩))
                omega
              · omega
            clear hin hns hm1 hm2 hacc
            obtain ⟨N, rfl⟩ : ∃ N, mx = N - 1 := ⟨mx + 1, by omega⟩
            have eN : N - 1 + 1 = N := by omega
            rw [eN] at fresh
            walk_at "pu"
            rw [eN]
            refine go ?_
            walk_at "pu"
            refine lc_inv (strsD sets) (fun i acc => ∃ vs : List Str, acc = strsD vs ∧ vs.Sublist (sets.take i)) (fun Q q => by walk_at "pu"; exact q _) (by rw [strsD_len]; omega) ⟨[], rfl, List.nil_sublist _⟩ ?_ ?_
            · rintro i d acc hd ⟨vs, rfl, hv⟩
              obtain ⟨o, ho, rfl⟩ := map_get hd
              have tk : sets.take (i + 1) = sets.take i ++ [o] := by rw [List.take_add_one, ho]; rfl
              walk_at "pu"
              refine ⟨3, rfl, by decide, by decide, fun k _ _ => ⟨.int k, rfl, rfl, ?_⟩⟩
              rw [tk]
              split
              · exact ⟨vs ++ [o], (strsD_app (b := [o])).symm, hv.append (List.Sublist.refl _)⟩
              · exact ⟨vs, rfl, hv.trans (List.sublist_append_left _ _)⟩
            · rintro acc ⟨vs, rfl, hv⟩ hacc
              rw [strsD_len, List.take_length] at hv
              walk_at "pu"
              refine go ?_
              walk_at "pu"
              refine ⟨_, rfl, by show 0 < 2; decide, by show 2 < 1000000; decide, fun td htd => ?_⟩
              obtain ⟨t, rfl⟩ : ∃ t : Nat, td = .int t := by
                rcases List.mem_cons.mp htd with rfl | htd
                · exact ⟨b, rfl⟩
                · rcases List.mem_cons.mp htd with rfl | htd
                  · exact ⟨rows.length, by rw [List.length_map]⟩
                  · cases htd
              walk_at "pu"
              refine go ?_
              walk_at "pu"
              rw [cutTo (by omega), cutFrom (by omega), Int.toNat_natCast]
              refine ⟨by simp only [List.length_map, List.length_take]; omega, by simp only [List.length_map, List.length_take, List.length_drop, List.length_append, List.length_singleton]; omega, ?_⟩
              refine fin (rows.take t ++ [(⟨w, [], N, vs⟩ : PR)] ++ rows.drop t) ?_ (hg.more nw okw fresh (by omega) (by omega) ⟨hg.sn.sublist hv, fun x hx => hv.subset hx⟩ t) (by simp only [List.length_take, List.length_drop, List.length_append, List.length_singleton]; omega)
              simp only [List.map_append, List.map_take, List.map_drop, List.map_cons, List.map_nil]
              rfl
        · rw [if_neg (by rw [List.length_map]; simp; omega)]
          have e3 : ¬ V.int kd = V.int 3 := fun z => by cases z; omega
          have e4 : ¬ V.int kd = V.int 4 := fun z => by cases z; omega
          have e5 : ¬ V.int kd = V.int 5 := fun z => by cases z; omega
          have e6 : ¬ V.int kd = V.int 6 := fun z => by cases z; omega
          refine ⟨rfl, ?_⟩
          rw [if_neg (by simp [e3])]
          refine ⟨rfl, ?_⟩
          rw [if_neg (by simp [e4])]
          refine ⟨rfl, ?_⟩
          rw [if_neg (by simp [e5])]
          refine ⟨rfl, ?_⟩
          rw [if_neg (by simp [e6])]
          walk_at "ss"
      · rw [if_neg (by simp; omega)]
        rcases hk with rfl | rfl | rfl | rfl | rfl | rfl | rfl | rfl
        · exact absurd (by decide) ck
        · exact absurd (by decide) ck
        · exact absurd (by decide) ck
        · refine ⟨rfl, ?_⟩
          rw [if_pos (by decide)]
          refine ⟨O, _, rfl, ?_⟩
          walk_at "pu"
          have e1 : (strsD r.al ++ [Dt.str r.name] : List (Dt Ob)) = strsD (r.al ++ [r.name]) := (strsD_app (a := r.al) (b := [r.name])).symm
          refine ⟨_, rA, _, rfl, _, atI_1, _, rA, _, rfl, _, atI_0, strsD r.al, rfl, by rw [strsD_len]; omega, by rw [e1, flatsS]; rfl, rfl, fun q => ?_⟩
          rw [e1]
          refine px_row rfl hr ⟨_, subP1 hr, ?_⟩
          walk_at "pu"
          refine ⟨1, rfl, ?_⟩
          rw [show putL (.lst (rows.map (rowP (Ob := Ob)))) [a] ([Dt.str r.name, Dt.lst (strsD r.al), Dt.int r.num, Dt.lst (strsD r.see)].set 1 (Dt.lst (strsD (r.al ++ [r.name])))) = _ from putP1 hr { r with al := r.al ++ [r.name] }]
          have hr2 : (rows.set a { r with al := r.al ++ [r.name] })[a]? = some { r with al := r.al ++ [r.name] } := List.getElem?_set_self al
          refine px_row rfl hr2 ⟨_, subP1 hr2, ?_⟩
          walk_at "pu"
          refine ⟨0, rfl, ?_⟩
          rw [show putL (.lst ((rows.set a { r with al := r.al ++ [r.name] }).map (rowP (Ob := Ob)))) [a] ([Dt.str r.name, Dt.lst (strsD (r.al ++ [r.name])), Dt.int r.num, Dt.lst (strsD r.see)].set 0 (Dt.str w)) = _ from putP1 hr2 { r with name := w, al := r.al ++ [r.name] }, List.set_set]
          exact fin _ rfl (hg.fresh hr nw okw (r' := { r with name := w, al := r.al ++ [r.name] }) ((List.perm_append_singleton r.name r.al).cons w) rfl rfl) (by rw [List.length_set]; exact hl)
        · refine ⟨rfl, ?_⟩
          rw [if_neg (by decide)]
          refine ⟨rfl, ?_⟩
          rw [if_pos (by decide)]
          refine ⟨O, _, rfl, ?_⟩
          walk_at "pu"
          refine ⟨_, rB, _, rfl, _, atI_0, _, rA, _, rfl, _, atI_0, rfl, rfl, ?_⟩
          refine px_row rfl hr ⟨_, subP1 hr, ?_⟩
          walk_at "pu"
          refine ⟨0, rfl, ?_⟩
          rw [show putL (.lst (rows.map (rowP (Ob := Ob)))) [a] ([Dt.str r.name, Dt.lst (strsD r.al), Dt.int r.num, Dt.lst (strsD r.see)].set 0 (Dt.str rb.name)) = _ from putP1 hr { r with name := rb.name }]
          by_cases e : a = b
          · subst e
            obtain rfl : r = rb := Option.some.inj (hr.symm.trans hrb)
            have hr2 : (rows.set a { r with name := r.name })[a]? = some r := List.getElem?_set_self al
            refine px_row rfl hr2 ⟨_, subP1 hr2, ?_⟩
            walk_at "pu"
            refine ⟨0, rfl, ?_⟩
            rw [show putL (.lst ((rows.set a { r with name := r.name }).map (rowP (Ob := Ob)))) [a] ([Dt.str r.name, Dt.lst (strsD r.al), Dt.int r.num, Dt.lst (strsD r.see)].set 0 (Dt.str r.name)) = _ from putP1 hr2 r, List.set_set]
            refine fin _ rfl ?_ (by rw [List.length_set]; exact hl)
            rw [set_same hr]
            exact same
          · have hr2 : (rows.set a { r with name := rb.name })[b]? = some rb := by rw [List.getElem?_set_ne e]; exact hrb
            refine px_row rfl hr2 ⟨_, subP1 hr2, ?_⟩
            walk_at "pu"
            refine ⟨0, rfl, ?_⟩
            rw [show putL (.lst ((rows.set a { r with name := rb.name }).map (rowP (Ob := Ob)))) [b] ([Dt.str rb.name, Dt.lst (strsD rb.al), Dt.int rb.num, Dt.lst (strsD rb.see)].set 0 (Dt.str r.name)) = _ from putP1 hr2 { rb with name := r.name }]
            exact fin _ rfl ((hg.names2 hr hrb e).up (Nat.le_succ n) (Nat.le_succ m)) (by rw [List.length_set, List.length_set]; exact hl)
        · refine ⟨rfl, ?_⟩
          rw [if_neg (by decide)]
          refine ⟨rfl, ?_⟩
          rw [if_neg (by decide)]
          refine ⟨rfl, ?_⟩
          rw [if_pos (by decide)]
          refine ⟨O, _, rfl, ?_⟩
          walk_at "pu"
          refine ⟨_, rB, _, rfl, _, atI_2, _, rA, _, rfl, _, atI_2, rfl, rfl, ?_⟩
          refine px_row rfl hr ⟨_, subP1 hr, ?_⟩
          walk_at "pu"
          refine ⟨2, rfl, ?_⟩
          rw [show putL (.lst (rows.map (rowP (Ob := Ob)))) [a] ([Dt.str r.name, Dt.lst (strsD r.al), Dt.int r.num, Dt.lst (strsD r.see)].set 2 (Dt.int rb.num)) = _ from putP1 hr { r with num := rb.num }]
          by_cases e : a = b
          · subst e
            obtain rfl : r = rb := Option.some.inj (hr.symm.trans hrb)
            have hr2 : (rows.set a { r with num := r.num })[a]? = some r := List.getElem?_set_self al
            refine px_row rfl hr2 ⟨_, subP1 hr2, ?_⟩
            walk_at "pu"
            refine ⟨2, rfl, ?_⟩
            rw [show putL (.lst ((rows.set a { r with num := r.num }).map (rowP (Ob := Ob)))) [a] ([Dt.str r.name, Dt.lst (strsD r.al), Dt.int r.num, Dt.lst (strsD r.see)].set 2 (Dt.int r.num)) = _ from putP1 hr2 r, List.set_set]
            refine fin _ rfl ?_ (by rw [List.length_set]; exact hl)
            rw [set_same hr]
            exact same
          · have hr2 : (rows.set a { r with num := rb.num })[b]? = some rb := by rw [List.getElem?_set_ne e]; exact hrb
            refine px_row rfl hr2 ⟨_, subP1 hr2, ?_⟩
            walk_at "pu"
            refine ⟨2, rfl, ?_⟩
            rw [show putL (.lst ((rows.set a { r with num := rb.num }).map (rowP (Ob := Ob)))) [b] ([Dt.str rb.name, Dt.lst (strsD rb.al), Dt.int rb.num, Dt.lst (strsD rb.see)].set 2 (Dt.int r.num)) = _ from putP1 hr2 { rb with num := r.num }]
            exact fin _ rfl ((hg.nums2 hr hrb e).up (Nat.le_succ n) (Nat.le_succ m)) (by rw [List.length_set, List.length_set]; exact hl)
        · refine ⟨rfl, ?_⟩
          rw [if_neg (by decide)]
          refine ⟨rfl, ?_⟩
          rw [if_neg (by decide)]
          refine ⟨rfl, ?_⟩
          rw [if_neg (by decide)]
          refine ⟨rfl, ?_⟩
          rw [if_pos (by decide)]
          rw [show ((a : Nat) : Int) + 1 = ((a + 1 : Nat) : Int) from by omega, cutTo (by omega), cutFrom (by omega), Int.toNat_natCast, Int.toNat_natCast, ← List.map_take, ← List.map_drop, ← List.map_append]
          refine ⟨by simp only [List.length_map, List.length_take, List.length_drop]; omega, ?_⟩
          refine go ?_
          walk_at "pu"
          refine ⟨rows, sets, g, rfl, by omega, _, rfl, _, atI_0, _, rfl, _, rA, ?_⟩
          rw [cutTo (by omega), cutFrom (by omega), Int.toNat_natCast]
          refine ⟨by simp only [List.length_map, List.length_take, List.length_drop, List.length_append]; omega, by simp only [List.length_map, List.length_take, List.length_drop, List.length_append, List.length_singleton]; omega, ?_⟩
          refine fin ((rows.take a ++ rows.drop (a + 1)).take b ++ [r] ++ (rows.take a ++ rows.drop (a + 1)).drop b) ?_ ((hg.move hr b).up (Nat.le_succ n) (Nat.le_succ m)) (by simp only [List.length_take, List.length_drop, List.length_append, List.length_singleton]; omega)
          simp only [List.map_append, List.map_take, List.map_drop, List.map_cons, List.map_nil]
          rfl
        · refine ⟨rfl, ?_⟩
          rw [if_neg (by decide)]
          refine ⟨rfl, ?_⟩
          rw [if_neg (by decide)]
          refine ⟨rfl, ?_⟩
          rw [if_neg (by decide)]
          refine ⟨rfl, ?_⟩
          rw [if_neg (by decide)]
          walk_at "ss"
end
end Pu
/-! ### _law_later over trees -/
namespace Pu
open PySem PySem.W PySem.Spec PyProof.Rows L2 Gk
section
variable {P : Program} {w : World} {Ob : Type} {W : Wd Ob} {mg : Str → Option Value} {base : Heap}
def FLaterP : List (Dt Ob) → PQ Ob → Prop := fun ds Q => ∃ rows sets g n m, ∃ many : Nat, ds = [.src, planP rows sets g, .int many] ∧ GoodP rows sets n m ∧ n ≤ 10 ∧ m ≤ 97 ∧ rows.length ≤ many ∧ many ≤ 16 ∧
  ∀ rows' sets', GoodP rows' sets' (n + 3) (m + 3) → rows'.length ≤ many → Q .fr (planP rows' sets' .non)
theorem FLaterP_len {ds : List (Dt Ob)} {Q : PQ Ob} (h : FLaterP ds Q) : ds.length = 3 := by obtain ⟨_, _, _, _, _, _, rfl, _⟩ := h; rfl
theorem GoodP.sets {rows : List PR} {sets sets' : List Str} {n m : Nat} (g : GoodP rows sets n m) (p : sets'.Perm sets) : GoodP rows sets' n m :=
  ⟨g.lo, g.wn, g.wk, g.wl, g.nn, g.nk, p.nodup_iff.mpr g.sn, by rw [p.length_eq]; exact g.sl, fun x hx => g.sk x (p.mem_iff.mp hx), fun r hr => ⟨(g.see r hr).1, fun x hx => p.mem_iff.mpr ((g.see r hr).2 x hx)⟩⟩
abbrev sP_later : Stmt := (top 44)
abbrev nP_later : List Str := ["stream", "plan", "many", "found", "turn"]
theorem scP_later : FnScope nP_later ["stream", "plan", "many"] (defScope sP_later) := ⟨rfl, rfl, rfl, by decide +kernel, rfl, by decide +kernel, by decide +kernel⟩
theorem okP_later {f : Addr} {fd : FuncData} (Fu : Fun W.K "_law_later" "_law_later" sP_later f fd) (B : Blt mg) (cC : Cal P w W.K mg base W "_law_choose" 2 ["stream", "items"] [] anyZ FPick) (cS : Cal P w W.K mg base W "_law_shuffled" 2 ["stream", "items"] [] anyZ FMixed) (cY : Cal P w W.K mg base W "_law_copy" 1 ["plan"] [] anyZ FCopyP) (cH : Cal P w W.K mg base W "_law_changed" 3 ["stream", "plan", "many"] [] anyZ FChangedP) : FnOk P w W.K mg base CX0 4 f fd ["stream", "plan", "many"] (PFn W anyZ FLaterP) := by
  obtain ⟨fC, dC, eC, GC, bC, vC, gC, kC⟩ := cC.ex
  obtain ⟨fS, dS, eS, GS, bS, vS, gS, kS⟩ := cS.ex
  obtain ⟨fY, dY, eY, GY, bY, vY, gY, kY⟩ := cY.ex
  obtain ⟨fH, dH, eH, GH, bH, vH, gH, kH⟩ := cH.ex
  refine pfn_ok Fu scP_later (fun ds Qp h => ?_) (fun cdv A outer s H Q E hr => ?_)
  · exact FLaterP_len h
  · have nd := scP_later.nd
    have hu := hu_of hr
    have hu64 : (A.deeper (envOfC "_law_later" (defScope sP_later) s.heap.objs.size f cdv)).units + 64 < cLine := by have := hr.un; omega
    refine ⟨_, (pss_cons (ps_set (i := 3) nd rfl (Or.inl rfl) (pe_call GY (hr.mono (by decide)) (by rfl) gY kY bY vY pass0 (pa_cons (pv 1) pa_nil))) (pss_cons (ps_for PassesOwn.never rfl (pi_range1 (by rfl) B.range (pa_cons (pe_call GC (hr.mono (by decide)) (by rfl) gC kC bC vC pass0 (pa_cons (pv 0) (pa_cons (pe_lst (pa_cons pe_int (pa_cons pe_int (pa_cons pe_int (pa_cons pe_int (pa_cons pe_int (pa_cons pe_int pa_nil))))))) pa_nil))) pa_nil)) (pg_name (i := 4) nd rfl (Or.inl rfl)) (pss_one (ps_set (i := 3) nd rfl (Or.inl rfl) (pe_call GH hr (by rfl) gH kH bH vH pass0 (pa_cons (pv 0) (pa_cons (pv 3) (pa_cons (pv 2) pa_nil))))))) (pss_cons (ps_asg (by exact (pe_call GS (hr.mono (by decide)) (by rfl) gS kS bS vS pass0 (pa_cons (pv 0) (pa_cons (pe_ix ix_list (pv 3) pe_int (fun _ _ => rfl)) pa_nil)))) (by exact (pg_sub (pv 3) pe_int set_list))) (pss_one (ps_ret (pv 3)))))), fun z hz => ⟨_, (snd_seq (snd_asg (m := true) (snd_call (dds := []) trivial (by rfl) (snd_cons snd_var snd_nil))) (snd_seq (snd_for (snd_piR1 (snd_cons (snd_call (dds := []) trivial (by rfl) (snd_cons snd_var (snd_cons (snd_lst (snd_cons snd_cint (snd_cons snd_cint (snd_cons snd_cint (snd_cons snd_cint (snd_cons snd_cint (snd_cons snd_cint snd_nil))))))) snd_nil))) snd_nil)) snd_gNS (snd_share 3 (snd_asg (m := true) (snd_call (dds := []) trivial (by rfl) (snd_cons snd_var (snd_cons snd_var (snd_cons snd_var snd_nil))))))) (snd_seq (snd_setI (i := 3) (snd_call (dds := []) trivial (by rfl) (snd_cons snd_var (snd_cons (snd_op snd_var snd_cint snd_rIxL) snd_nil))) snd_cint) snd_retO))), fun ds Qp h => ?_⟩⟩
    obtain ⟨rows, sets, g, n, m, many, rfl, hg, hn, hm, hl, hmany, hq⟩ := h
    walk_at "pu"
    refine ⟨rows, sets, g, rfl, by omega, ?_⟩
    walk_at "pu"
    refine go ?_
    walk_at "pu"
    refine for_open ?_
    walk_at "pu"
    refine ⟨_, rfl, by show 0 < 6; decide, by show 6 < 1000000; decide, fun td htd => ?_⟩
    obtain ⟨t, rfl, ht⟩ : ∃ t : Nat, td = .int t ∧ t ≤ 3 := by
      simp only [List.mem_cons, List.not_mem_nil, or_false] at htd
      rcases htd with rfl | rfl | rfl | rfl | rfl | rfl
      · exact ⟨0, rfl, by decide⟩
      · exact ⟨1, rfl, by decide⟩
      · exact ⟨1, rfl, by decide⟩
      · exact ⟨1, rfl, by decide⟩
      · exact ⟨2, rfl, by decide⟩
      · exact ⟨3, rfl, by decide⟩
    walk_at "pu"
    refine ⟨by omega, by omega, ?_⟩
    rw [Int.toNat_natCast]
    generalize hL : (hold _ : PEnv Ob → Prop) = L
    obtain ⟨I, hI⟩ : ∃ I : Nat → PEnv Ob → Prop, ∀ i env, I i env ↔ ∃ rows' sets' x4, env = [.sh .src, .sh (.lst [.lst (rows.map rowP), .lst (strsD sets), g]), .sh (.int many), .own [.lst (rows'.map rowP), .lst (strsD sets'), .non], x4]
      ∧ GoodP rows' sets' (n + i) (m + i) ∧ rows'.length ≤ many ∧ i ≤ t := ⟨_, fun _ _ => Iff.rfl⟩
    refine for_at I ((hI _ _).mpr ⟨rows, sets, _, rfl, hg, hl, Nat.zero_le _⟩) ?_ ?_
    · intro i d env' hd hi
      obtain ⟨rows', sets', x4, rfl, hg', hl', hit⟩ := (hI _ _).mp hi
      obtain ⟨il, rfl⟩ := rngGet hd
      walk_at "pu"
      refine ⟨rows', sets', .non, n + i, m + i, many, rfl, hg', by omega, by omega, hl', hmany, fun rows2 sets2 g2 l2 => ?_⟩
      walk_at "pu"
      exact (hI _ _).mpr ⟨rows2, sets2, _, rfl, g2, l2, by omega⟩
    · intro env' hi
      obtain ⟨rows', sets', x4, rfl, hg', hl', hit⟩ := (hI _ _).mp hi
      rw [rngD_len] at hg' hit
      subst hL
      refine go ?_
      walk_at "pu"
      refine go ?_
      walk_at "pu"
      refine mix_strs (by have := hg'.sl; omega) (fun w hw => (hg'.sk w hw).2) fun ys hy => ?_
      walk_at "pu"
      refine ⟨1, rfl, go (.inl ⟨_, rfl, ?_⟩)⟩
      exact hq rows' ys ((hg'.sets hy).up (by omega) (by omega)) hl'
end
end Pu
/-! ### _law_lines over trees -/
namespace Pu
open PySem PySem.W PySem.Spec PyProof.Rows L2 Gk Tx
/-- what a plan of the law's texts keeps -/
structure GoodT (rows : List PR) (sets : List Str) : Prop where
  lo : 1 ≤ rows.length
  hi : rows.length ≤ 16
  wn : (wordsP rows).Nodup
  wk : ∀ w ∈ wordsP rows, NmP w
  wl : (wordsP rows).length ≤ 20
  nn : (rows.map (·.num)).Nodup
  nk : ∀ r ∈ rows, -(10 ^ 9 : Int) ≤ r.num ∧ r.num ≤ 10 ^ 9
  sn : sets.Nodup
  sl : sets.length ≤ 3
  sk : ∀ w ∈ sets, NmP w
theorem GoodP.t {rows : List PR} {sets : List Str} {n m : Nat} (g : GoodP rows sets n m) (h : rows.length ≤ 16) (hn : n ≤ 20) (hm : m ≤ 1000) : GoodT rows sets :=
  ⟨g.lo, h, g.wn, g.wk, Nat.le_trans g.wl hn, g.nn, fun r hr => by have := g.nk r hr; omega, g.sn, g.sl, g.sk⟩
def planQ {Ob : Type} (rows : List PR) (sets : List Str) (rest : List (Dt Ob)) : Dt Ob := .lst (.lst (rows.map rowP) :: .lst (strsD sets) :: rest)
theorem planP_Q {Ob : Type} (rows : List PR) (sets : List Str) (g : Dt Ob) : planP rows sets g = planQ rows sets [g] := rfl
def PR.row (r : PR) : Gk.Row := ⟨r.name, r.al, r.num⟩
theorem nm_len {w : Str} (h : NmP w) : w.length ≤ 8 := by
  have h := h.1
  unfold nameB at h
  rw [Bool.and_eq_true, Bool.and_eq_true, decide_eq_true_eq, decide_eq_true_eq] at h
  omega
theorem nm_free {w : Str} (h : NmP w) {k : Nat} (hk : k < 97) : k ∉ w.cps.toList := fun z => by
  have h := h.1
  unfold nameB at h
  rw [Bool.and_eq_true, Bool.and_eq_true, List.all_eq_true] at h
  have := h.2.2 k z
  revert this
  have : ∀ i : Fin 97, letterB i.val = false := by decide +kernel
  rw [this ⟨k, hk⟩]
  exact Bool.noConfusion
theorem sum_le {c : Nat} : ∀ {ws : List Str}, (∀ w ∈ ws, w.length ≤ c) → (ws.map (·.length)).sum ≤ ws.length * c
  | [], _ => Nat.zero_le _
  | w :: ws, h => by
    rw [List.map_cons, List.sum_cons, List.length_cons, Nat.succ_mul]
    have := sum_le (c := c) fun x hx => h x (List.mem_cons_of_mem _ hx)
    have := h w List.mem_cons_self
    omega
theorem join_ok {c : Nat} {ws : List Str} {a : Str} (ha : a.length = 1) (h : ∀ w ∈ ws, w.length ≤ c) (hc : c ≤ 1000) (hl : ws.length ≤ 1000) : (ws.map (·.length)).sum + ws.length * a.length ≤ 16777216 := by
  rw [ha, Nat.mul_one]
  have h1 := sum_le h
  have h2 : ws.length * c ≤ 1000 * 1000 := Nat.mul_le_mul hl hc
  omega
section
variable {P : Program} {w : World} {Ob : Type} {W : Wd Ob} {mg : Str → Option Value} {base : Heap}
/-- the line of a row, and of a set -/
def wordsR (r : Gk.Row) : List Str := ("member" : Str) :: r.name :: numT r.num :: r.al
def lineR (r : Gk.Row) : Str := Txt.join (" " : Str) (wordsR r)
def seenIn (rows : List PR) (s : Str) : List Str := (rows.filter fun r => decide (s ∈ r.see)).map (·.name)
def wordsS (rows : List PR) (s : Str) : List Str := ("set" : Str) :: s :: seenIn rows s
def lineS (rows : List PR) (s : Str) : Str := Txt.join (" " : Str) (wordsS rows s)
theorem log_ok {n : Int} (h : -(10 ^ 9 : Int) ≤ n ∧ n ≤ 10 ^ 9) : n.natAbs.log2 < 1920 := by
  have h1 : n.natAbs ≤ 10 ^ 9 := by omega
  by_cases z : n.natAbs = 0
  · rw [z]; decide
  · exact Nat.lt_trans ((Nat.log2_lt z).mpr (show n.natAbs < 2 ^ 30 by omega)) (by decide)
def FLinesP : List (Dt Ob) → PQ Ob → Prop := fun ds Q => ∃ rows sets g, ds = [planQ rows sets g] ∧ GoodT rows sets ∧
  ∀ (rows' : List Gk.Row) (ss : List Str), Paired SortedRow (rows.map PR.row) rows' → ss.Perm sets → sortedS ss = true → Q .fr (.lst (strsD (rows'.map lineR ++ ss.map (lineS rows))))
theorem FLinesP_len {ds : List (Dt Ob)} {Q : PQ Ob} (h : FLinesP ds Q) : ds.length = 1 := by obtain ⟨_, _, _, rfl, _⟩ := h; rfl
theorem GoodT.one {rows : List PR} {sets : List Str} (g : GoodT rows sets) {r : PR} (h : r ∈ rows) : NmP r.name ∧ (∀ w ∈ r.al, NmP w) ∧ r.al.length ≤ 19 := by
  refine ⟨g.wk _ (wordsP_mem.mpr ⟨r, h, .inl rfl⟩), fun w hw => g.wk _ (wordsP_mem.mpr ⟨r, h, .inr hw⟩), ?_⟩
  have := wordsP_in h
  have := g.wl
  omega
theorem memE_len : ("member" : Str).length = 6 ∧ ("set" : Str).length = 3 ∧ (" " : Str).length = 1 := by decide
theorem wordsR_len {r : Gk.Row} (hn : NmP r.name) (ha : ∀ w ∈ r.al, NmP w) (hk : -(10 ^ 9 : Int) ≤ r.num ∧ r.num ≤ 10 ^ 9) : ∀ w ∈ wordsR r, w.length ≤ 11 := by
  intro w hw
  rcases List.mem_cons.mp hw with rfl | hw
  · rw [memE_len.1]; decide
  rcases List.mem_cons.mp hw with rfl | hw
  · exact Nat.le_trans (nm_len hn) (by decide)
  rcases List.mem_cons.mp hw with rfl | hw
  · exact numT_len hk
  · exact Nat.le_trans (nm_len (ha w hw)) (by decide)
theorem wordsS_len {rows : List PR} {sets : List Str} (g : GoodT rows sets) {s : Str} (h : NmP s) : (∀ w ∈ wordsS rows s, w.length ≤ 8) ∧ (wordsS rows s).length ≤ 18 := by
  constructor
  · intro w hw
    rcases List.mem_cons.mp hw with rfl | hw
    · rw [memE_len.2.1]; decide
    rcases List.mem_cons.mp hw with rfl | hw
    · exact nm_len h
    · obtain ⟨r, hr, rfl⟩ := List.mem_map.mp hw
      exact nm_len (g.one (List.mem_filter.mp hr).1).1
  · have : (seenIn rows s).length ≤ rows.length := by unfold seenIn; rw [List.length_map]; exact List.length_filter_le ..
    have := g.hi
    show (seenIn rows s).length + 2 ≤ 18
    omega
theorem seenIn_take {rows : List PR} {s : Str} {i : Nat} {r : PR} (h : rows[i]? = some r) : seenIn (rows.take (i + 1)) s = seenIn (rows.take i) s ++ (if s ∈ r.see then [r.name] else []) := by
  unfold seenIn
  rw [List.take_add_one, h, List.filter_append, List.map_append]
  congr 1
  show List.map _ (List.filter _ [r]) = _
  by_cases z : s ∈ r.see
  · rw [if_pos z, List.filter_cons_of_pos (by exact decide_eq_true z)]; rfl
  · rw [if_neg z, List.filter_cons_of_neg (by rw [decide_eq_false z]; exact Bool.false_ne_true)]; rfl
abbrev sP_lines : Stmt := (top 46)
abbrev nP_lines : List Str := ["plan", "found", "row", "name"]
theorem scP_lines : FnScope nP_lines ["plan"] (defScope sP_lines) := ⟨rfl, rfl, rfl, by decide +kernel, rfl, by decide +kernel, by decide +kernel⟩
theorem okP_lines {f : Addr} {fd : FuncData} (Fu : Fun W.K "_law_lines" "_law_lines" sP_lines f fd) (B : Blt mg) (Bs : mg "str" = none)  : FnOk P w W.K mg base CX0 1 f fd ["plan"] (PFn W anyZ FLinesP) := by
  refine pfn_ok Fu scP_lines (fun ds Qp h => ?_) (fun cdv A outer s H Q E hr => ?_)
  · exact FLinesP_len h
  · have nd := scP_lines.nd
    have hu := hu_of hr
    have hu64 : (A.deeper (envOfC "_law_lines" (defScope sP_lines) s.heap.objs.size f cdv)).units + 64 < cLine := by have := hr.un; omega
    refine ⟨_, (pss_cons (ps_set (i := 1) nd rfl (Or.inl rfl) (pe_lst pa_nil)) (pss_cons (ps_for PassesOwn.never rfl (pi_list (pe_ix ix_list (pv 0) pe_int (fun _ _ => rfl))) (pg_name (i := 2) nd rfl (Or.inl rfl)) (pss_one (ps_expr (by exact (pe_bm PySem.F.plainAttrs_list PySem.F.slot_list_append PySem.F.type_list_append mt_append (pv 1) (pa_cons (pe_join pe_str (pe_op op_cat (pe_lst (pa_cons pe_str (pa_cons (pe_ix ix_list (pv 2) pe_int (fun _ _ => rfl)) (pa_cons (pe_callTy call_str_int (by rfl) Bs bt_str (pa_cons (pe_ix ix_list (pv 2) pe_int (fun _ _ => rfl)) pa_nil)) pa_nil)))) (pe_callB cr_sortedS (by rfl) B.sorted bt_sorted (pa_cons (pe_ix ix_list (pv 2) pe_int (fun _ _ => rfl)) pa_nil)))) pa_nil)))))) (pss_cons (ps_for PassesOwn.never rfl (pi_list (pe_callB cr_sortedS (by rfl) B.sorted bt_sorted (pa_cons (pe_ix ix_list (pv 0) pe_int (fun _ _ => rfl)) pa_nil))) (pg_name (i := 3) nd rfl (Or.inr rfl)) (pss_one (ps_expr (by exact (pe_bm PySem.F.plainAttrs_list PySem.F.slot_list_append PySem.F.type_list_append mt_append (pv 1) (pa_cons (pe_join pe_str (pe_op op_cat (pe_lst (pa_cons pe_str (pa_cons (pv 3) pa_nil))) (pe_lc (own := [("row", 2)]) (te := (tOp (rIxL W.K) (tVar 2) (tC (.int 0)))) (g := (gName 2)) (tt := (tTest (tOp (rIn W.K false) (tVar 3) (tOp (rIxL W.K) (tVar 2) (tC (.int 3)))))) rfl nd (pi_list (pe_ix ix_list (pv 0) pe_int (fun _ _ => rfl))) (blkOk_by (N := nP_lines) (sc := defScope sP_lines) (by decide +kernel)) (fun _ _ _ _ _ => (pg_name (i := 2) nd rfl (Or.inl rfl))) (fun _ _ _ _ _ => by exact (pts_one (pt_cmpR op_in_seq (pv 3) (pe_ix ix_list (pv 2) pe_int (fun _ _ => rfl)) (by rfl)))) (fun _ _ _ _ _ => by exact (pe_ix ix_list (pv 2) pe_int (fun _ _ => rfl)))))) pa_nil)))))) (pss_one (ps_ret (pv 1)))))), fun z hz => ⟨_, (snd_seq (snd_asg (m := true) (snd_lst snd_nil)) (snd_seq (snd_for (snd_piL (snd_op snd_var snd_cint snd_rIxL)) snd_gNS (snd_app (i := 1) (snd_join snd_cstr (snd_op (snd_lst (snd_cons snd_cstr (snd_cons (snd_op snd_var snd_cint snd_rIxL) (snd_cons (snd_cb snd_strI (snd_cons (snd_op snd_var snd_cint snd_rIxL) snd_nil)) snd_nil)))) (snd_cb snd_sortedS (snd_cons (snd_op snd_var snd_cint snd_rIxL) snd_nil)) snd_rCat)))) (snd_seq (snd_for (snd_piL (snd_cb snd_sortedS (snd_cons (snd_op snd_var snd_cint snd_rIxL) snd_nil))) snd_gNS (snd_app (i := 1) (snd_join snd_cstr (snd_op (snd_lst (snd_cons snd_cstr (snd_cons snd_var snd_nil))) (snd_lc (vs := [2]) (js := [2]) (snd_piL (snd_op snd_var snd_cint snd_rIxL)) snd_gN (by decide) (snd_test (snd_op snd_var (snd_op snd_var snd_cint snd_rIxL) snd_rIn)) (snd_op snd_var snd_cint snd_rIxL)) snd_rCat)))) snd_retO))), fun ds Qp h => ?_⟩⟩
    obtain ⟨rows, sets, g, rfl, hg, hq⟩ := h
    unfold planQ
    walk_at "pu"
    refine go ?_
    walk_at "pu"
    generalize hL : (hold _ : PEnv Ob → Prop) = L
    obtain ⟨I, hI⟩ : ∃ I : Nat → PEnv Ob → Prop, ∀ i env, I i env ↔ ∃ (rows1 : List Gk.Row) (x2 x3 : PV Ob), env = [.sh (.lst (.lst (rows.map rowP) :: .lst (strsD sets) :: g)), .own (strsD (rows1.map lineR)), x2, x3]
      ∧ Paired SortedRow ((rows.take i).map PR.row) rows1 := ⟨_, fun _ _ => Iff.rfl⟩
    refine for_in (rows.map rowP) I (fun Q q => by walk_at "pu"; exact q) ((hI _ _).mpr ⟨[], _, _, rfl, .nil⟩) ?_ ?_
    · intro i d env' hd hi
      obtain ⟨rows1, x2, x3, rfl, hp⟩ := (hI _ _).mp hi
      obtain ⟨r, hr, rfl⟩ := map_get hd
      obtain ⟨o1, o2, o3⟩ := hg.one (List.mem_of_getElem? hr)
      have o4 := hg.nk r (List.mem_of_getElem? hr)
      have hl1 : rows1.length ≤ 16 := by
        rw [← paired_len hp, List.length_map, List.length_take]
        have := hg.hi
        omega
      walk_at "pu"
      refine ⟨by rw [strsD_len, List.length_map]; omega, _, rfl, ?_⟩
      walk_at "pu"
      refine ⟨_, rfl, log_ok o4, by decide, r.al, rfl, by omega, fun ys py sy => ?_⟩
      refine ⟨strsD ys, rfl, by rw [strsD_len, py.length_eq]; show 3 + _ ≤ _; omega, wordsR ⟨r.name, ys, r.num⟩, rfl, ?_, ?_⟩
      · refine join_ok memE_len.2.2 (wordsR_len o1 (fun w hw => o2 w (py.mem_iff.mp hw)) o4) (by decide) ?_
        show ys.length + 3 ≤ 1000
        rw [py.length_eq]
        omega
      · generalize PV.sh (Dt.lst [Dt.str r.name, Dt.lst (strsD r.al), Dt.int r.num, Dt.lst (strsD r.see)]) = y2
        refine (hI _ _).mpr ⟨rows1 ++ [⟨r.name, ys, r.num⟩], y2, x3, ?_, ?_⟩
        · rw [List.map_append, strsD_app]
          rfl
        · rw [List.take_add_one, hr, List.map_append]
          exact pr_app hp (.cons ⟨rfl, rfl, py, sy⟩ .nil)
    · intro env' hi
      obtain ⟨rows1, x2, x3, rfl, hp⟩ := (hI _ _).mp hi
      rw [List.length_map, List.take_length] at hp
      subst hL
      refine go ?_
      walk_at "pu"
      refine for_open ?_
      walk_at "pu"
      refine ⟨sets, rfl, by have := hg.sl; omega, fun ss ps so => ?_⟩
      refine ⟨strsD ss, rfl, rfl, ?_⟩
      obtain ⟨J, hJ⟩ : ∃ J : Nat → PEnv Ob → Prop, ∀ i env, J i env ↔ ∃ (x2 x3 : PV Ob), env = [.sh (.lst (.lst (rows.map rowP) :: .lst (strsD sets) :: g)), .own (strsD (rows1.map lineR ++ (ss.take i).map (lineS rows))), x2, x3] := ⟨_, fun _ _ => Iff.rfl⟩
      refine for_at J ((hJ _ _).mpr ⟨_, _, by rw [List.take_zero, List.map_nil, List.append_nil]⟩) ?_ ?_
      · intro i d env' hd hi
        obtain ⟨x2, x3, rfl⟩ := (hJ _ _).mp hi
        obtain ⟨s, hs, rfl⟩ := map_get hd
        walk_at "pu"
        have hs1 : s ∈ sets := ps.mem_iff.mp (List.mem_of_getElem? hs)
        obtain ⟨w1, w2⟩ := wordsS_len hg (hg.sk s hs1)
        have l1 : rows1.length ≤ 16 := by
          rw [← paired_len hp, List.length_map]
          exact hg.hi
        have l2 : ss.length ≤ 3 := by rw [ps.length_eq]; exact hg.sl
        refine ⟨by rw [strsD_len, List.length_append, List.length_map, List.length_map, List.length_take]; omega, _, rfl, ?_⟩
        walk_at "pu"
        refine lc_inv (rows.map rowP) (fun i acc => acc = strsD (seenIn (rows.take i) s)) (fun Q q => by walk_at "pu"; exact q _) (by rw [List.length_map]; have := hg.hi; omega) rfl ?_ ?_
        · rintro k d _ hk rfl
          obtain ⟨r, hr, rfl⟩ := map_get hk
          rw [seenIn_take hr]
          walk_at "pu"
          refine ⟨_, flatsS _, ?_⟩
          rw [inV_decS]
          by_cases z : s ∈ r.see
          · rw [if_pos z, if_pos (decide_eq_true z), strsD_app]
            rfl
          · rw [if_neg z, if_neg (by rw [decide_eq_false z]; exact Bool.false_ne_true), List.append_nil]
        · rintro _ rfl _
          rw [List.length_map, List.take_length]
          refine ⟨strsD (seenIn rows s), rfl, ?_, wordsS rows s, rfl, ?_, ?_⟩
          · rw [strsD_len]
            have : (seenIn rows s).length + 2 ≤ 18 := w2
            show 2 + _ ≤ 1000
            omega
          · exact join_ok memE_len.2.2 w1 (by decide) (by omega)
          · generalize PV.sh (Dt.str s) = y3
            refine (hJ _ _).mpr ⟨x2, y3, ?_⟩
            rw [List.take_add_one, hs, List.map_append, ← List.append_assoc, strsD_app (a := _ ++ _)]
            rfl
      · intro env' hi
        obtain ⟨x2, x3, rfl⟩ := (hJ _ _).mp hi
        rw [strsD_len, List.take_length]
        refine go ?_
        refine .inl ⟨_, rfl, hq rows1 ss hp ps so⟩
end
end Pu
/-! ### k80: the world of its editions, over trees -/
namespace Gk
open PySem PySem.W PySem.Spec PyProof.Rows L2 NdefX
theorem _root_.PySem.L2.FnOk.dead {P : Program} {w : World} {K : PySem.W.Frag} {mg : Str → Option Value} {base : Heap} {k : Nat} {f : Addr} {fd : FuncData} {ps : List Str} {sp sp0 : Sp} (F : FnOk P w K mg base (L2.CX P w) k f fd ps sp) (h : ∀ vs H Q E, sp0 vs H Q E → sp vs H Q E0) : FnOk P w K mg base CX0 k f fd ps sp0 :=
  ⟨fun vs H Q E q => F.len vs H Q E0 (h _ _ _ _ q), fun A outer s H args us vs Q E hr he hb hv hs => codeAny_mono (F.run A outer s H args us vs Q E0 hr he hb hv (h _ _ _ _ hs)) fun r s' hq => by
    cases r with
    | error e =>
      obtain ⟨_, _, _, _, _, _, _, _, _, _, _, _, z⟩ := hq
      exact z.elim
    | ok fl => cases fl <;> exact hq⟩
theorem memFs_number {e al : Addr} {x : Row} {pl : Int} : (memFs e al x pl).lookup ("number" : Str) = some (V.int x.num) := by
  have h1 : ¬ (("number" : Str) = "_edition") := by decide +kernel
  have h2 : ¬ (("number" : Str) = "place") := by decide +kernel
  unfold memFs
  rw [lookup_putF, if_neg h1, lookup_putF, if_neg h2, lookup_putF, if_pos rfl]
theorem memFs_aliases {e al : Addr} {x : Row} {pl : Int} : (memFs e al x pl).lookup ("aliases" : Str) = some (V.ref al) := by
  have h1 : ¬ (("aliases" : Str) = "_edition") := by decide +kernel
  have h2 : ¬ (("aliases" : Str) = "place") := by decide +kernel
  have h3 : ¬ (("aliases" : Str) = "number") := by decide +kernel
  unfold memFs
  rw [lookup_putF, if_neg h1, lookup_putF, if_neg h2, lookup_putF, if_neg h3, lookup_putF, if_pos rfl]
theorem memFs_name {e al : Addr} {x : Row} {pl : Int} : (memFs e al x pl).lookup ("name" : Str) = some (V.str x.name) := by
  have h1 : ¬ (("name" : Str) = "_edition") := by decide +kernel
  have h2 : ¬ (("name" : Str) = "place") := by decide +kernel
  have h3 : ¬ (("name" : Str) = "number") := by decide +kernel
  have h4 : ¬ (("name" : Str) = "aliases") := by decide +kernel
  unfold memFs
  rw [lookup_putF, if_neg h1, lookup_putF, if_neg h2, lookup_putF, if_neg h3, lookup_putF, if_neg h4, lookup_putF, if_pos rfl]
theorem words_sorted {rows rows' : List Row} (h : Paired SortedRow rows rows') : (wordsOf rows').Perm (wordsOf rows) := by
  induction h with
  | nil => exact List.Perm.refl _
  | cons r t ih =>
    rw [words_cons, words_cons, r.nm]
    exact List.Perm.append (r.perm.symm.cons _ |>.symm) ih
end Gk
namespace Pu
open PySem PySem.W PySem.Spec PyProof.Rows L2 Gk NdefX Tx
/-- an edition as k80 makes it -/
structure Ed8 (CE : Addr) (H : Hp) (e : Addr) (rows : List Gk.Row) (gs : List (Str × List Int)) : Prop where
  ed : EdAt CE H e rows gs
  nd : (wordsOf rows).Nodup
  l16 : rows.length ≤ 16
  lay : EdLay rows
  gn : (gs.map (·.1)).Nodup
  g3 : gs.length ≤ 3
  gp : ∀ z ∈ gs, PlOk z.2 rows.length
inductive Ob8 where
  | scr (ns : List Int) | ed (rows : List Gk.Row) (gs : List (Str × List Int)) | mem (rows : List Gk.Row) (gs : List (Str × List Int)) (i : Nat) (r : Gk.Row) | grp (rows : List Gk.Row) (gs : List (Str × List Int)) (ns : List Int)
abbrev D8 := Dt Ob8
def rep8 (K : Frag) (CE CM CG : Addr) (H : Hp) (v : V) : Ob8 → Prop
  | .scr ns => ∃ a, v = .ref a ∧ SqL K H a (ns.map V.int)
  | .ed rows gs => ∃ x, v = .ref x ∧ Ed8 CE H x rows gs
  | .mem rows gs i r => ∃ q e, v = .ref q ∧ MemAt CM H q e r i ∧ rows[i]? = some r ∧ Ed8 CE H e rows gs
  | .grp rows gs ns => ∃ q e, v = .ref q ∧ GrAt K CG H q e ns ∧ PlOk ns rows.length ∧ Ed8 CE H e rows gs
theorem Ed8.later {CE : Addr} {H H' : Hp} {e : Addr} {rows : List Gk.Row} {gs : List (Str × List Int)} (h : Ed8 CE H e rows gs) (s : Same H H') : Ed8 CE H' e rows gs := ⟨h.ed.later s, h.nd, h.l16, h.lay, h.gn, h.g3, h.gp⟩
def W8 (K : Frag) (CE CM CG : Addr) : Wd Ob8 where
  K := K
  rep := rep8 K CE CM CG
  mono := fun {H H' v x} s h => by
    cases x with
    | scr ns => obtain ⟨a, e, r⟩ := h; exact ⟨a, e, s.seq r⟩
    | ed rows gs => obtain ⟨a, e, r⟩ := h; exact ⟨a, e, r.later s⟩
    | mem rows gs i r => obtain ⟨q, a, e, m, hr, h⟩ := h; exact ⟨q, a, e, m.later s, hr, h.later s⟩
    | grp rows gs ns => obtain ⟨q, a, e, m, hr, h⟩ := h; exact ⟨q, a, e, m.later s, hr, h.later s⟩
section
variable {P : Program} {w : World} {K : Frag} {mg : Str → Option Value} {base : Heap} {CE CM CG CN : Addr} {k : Nat} {f : Addr} {fd : FuncData} {ps : List Str} {p : Option Addr} {H : Hp} {v : V}
theorem at8 {x : Ob8} (h : R0 ((W8 K CE CM CG).at nz) p H v (.ob x)) : rep8 K CE CM CG H v x := by
  cases h with
  | ob h =>
    rw [show ((W8 K CE CM CG).at nz).fz = fun _ => False from rfl, thaw_none] at h
    exact h
theorem of8 {x : Ob8} (h : rep8 K CE CM CG H v x) : R0 ((W8 K CE CM CG).at nz) p H v (.ob x) := by
  refine .ob ?_
  rw [show ((W8 K CE CM CG).at nz).fz = fun _ => False from rfl, thaw_none]
  exact h
def FGet8 : List D8 → PQ Ob8 → Prop := fun ds Q => ∃ rows gs w i r, ds = [.ob (.ed rows gs), .str w] ∧ rows[i]? = some r ∧ w ∈ r.name :: r.al ∧ Q .cl (.ob (.mem rows gs i r))
theorem fn_get8 (F : FnOk P w K mg base CX0 k f fd ps (spEdGet CE CM)) : FnOk P w K mg base CX0 k f fd ps (PFn (W8 K CE CM CG) noZ FGet8) := by
  refine wrap_fn F fun p vs Hc ds Qp Q E r ⟨rows, gs, wd, i, rr, e, hi, hw, hq⟩ kk _ => ?_
  subst e
  obtain ⟨v1, us1, rfl, q1, t1⟩ := ra_one r
  obtain ⟨v2, us2, rfl, q2, t2⟩ := ra_one t1
  obtain rfl := ra_nil t2
  obtain ⟨x, rfl, ex⟩ := at8 q1
  cases q2
  exact ⟨x, wd, rows, gs, i, rr, rfl, ex.ed, ex.nd, hi, hw, fun H' q s _ ma => kk _ _ H' hq s (of8 ⟨q, x, rfl, ma, hi, ex.later s⟩)⟩
def FNames8 : List D8 → PQ Ob8 → Prop := fun ds Q => ∃ rows gs, ds = [.ob (.ed rows gs)] ∧ (rows.length ≤ 16 → Q .fr (.lst (strsD (rows.map (·.name)))))
theorem fn_names8 (T : EdTxt K CE) (F : FnOk P w K mg base CX0 k f fd ps (spEdNames CE)) : FnOk P w K mg base CX0 k f fd ps (PFn (W8 K CE CM CG) noZ FNames8) := by
  refine wrap_fn F fun p vs Hc ds Qp Q E r ⟨rows, gs, e, hq⟩ kk kf => ?_
  subst e
  obtain ⟨v1, us1, rfl, q1, t1⟩ := ra_one r
  obtain rfl := ra_nil t1
  obtain ⟨x, rfl, ex⟩ := at8 q1
  obtain ⟨dx, r, g, pl, nu, h1, h2, _⟩ := ex.ed.ob
  exact ⟨x, dx, r, _, rows, rfl, h1, edFs_rows, h2, ex.l16, fun H' q s nq cq => kf _ q _ H' (hq ex.l16) s nq cq (RA.ofStrs _)⟩
def FSets8 : List D8 → PQ Ob8 → Prop := fun ds Q => ∃ rows gs, ds = [.ob (.ed rows gs)] ∧ ∀ ys : List Str, ys.Perm (gs.map (·.1)) → sortedS ys = true → Q .fr (.lst (strsD ys))
theorem fn_sets8 (F : FnOk P w K mg base CX0 k f fd ps (spEdSets CE)) : FnOk P w K mg base CX0 k f fd ps (PFn (W8 K CE CM CG) noZ FSets8) := by
  refine wrap_fn F fun p vs Hc ds Qp Q E r ⟨rows, gs, e, hq⟩ kk kf => ?_
  subst e
  obtain ⟨v1, us1, rfl, q1, t1⟩ := ra_one r
  obtain rfl := ra_nil t1
  obtain ⟨x, rfl, ex⟩ := at8 q1
  have g3 := ex.g3
  exact ⟨x, rows, gs, rfl, ex.ed, by omega, fun H' q ys s nq cq py sy => kf _ q _ H' (hq ys py sy) s nq cq (RA.ofStrs _)⟩
/-- edition.group(name), of a set that the edition has -/
def spEdGrp0 (K : Frag) (CE CG : Addr) : Sp := fun vs H Q _ => ∃ (x : Addr) (rows : List Gk.Row) (gs : List (Str × List Int)) (z : Str × List Int), vs = [.ref x, .str z.1] ∧ EdAt CE H x rows gs ∧ (gs.map (·.1)).Nodup ∧ z ∈ gs ∧ ∀ H' q, Same H H' → H q = none → GrAt K CG H' q x z.2 → Q (.ref q) H'
theorem grp_right (F : FnOk P w K mg base (L2.CX P w) k f fd ps (spEdGroup K CE CG CN)) : FnOk P w K mg base CX0 k f fd ps (spEdGrp0 K CE CG) :=
  F.dead fun _ _ _ _ ⟨x, rows, gs, z, e, he, nd, hz, h⟩ => ⟨x, .str z.1, rows, gs, e, he, nd, .inl ⟨z, rfl, hz, h⟩⟩
def FGrp8 : List D8 → PQ Ob8 → Prop := fun ds Q => ∃ rows gs z, ds = [.ob (.ed rows gs), .str z.1] ∧ z ∈ gs ∧ Q .cl (.ob (.grp rows gs z.2))
theorem fn_grp8 (F : FnOk P w K mg base CX0 k f fd ps (spEdGrp0 K CE CG)) : FnOk P w K mg base CX0 k f fd ps (PFn (W8 K CE CM CG) noZ FGrp8) := by
  refine wrap_fn F fun p vs Hc ds Qp Q E r ⟨rows, gs, z, e, hz, hq⟩ kk _ => ?_
  subst e
  obtain ⟨v1, us1, rfl, q1, t1⟩ := ra_one r
  obtain ⟨v2, us2, rfl, q2, t2⟩ := ra_one t1
  obtain rfl := ra_nil t2
  obtain ⟨x, rfl, ex⟩ := at8 q1
  cases q2
  exact ⟨x, rows, gs, z, rfl, ex.ed, ex.gn, hz, fun H' q s _ ga => kk _ _ H' hq s (of8 ⟨q, x, rfl, ga, ex.gp z hz, ex.later s⟩)⟩
def FGNames8 : List D8 → PQ Ob8 → Prop := fun ds Q => ∃ rows gs ns, ds = [.ob (.grp rows gs ns)] ∧ Q .fr (.lst (strsD (namesAt rows ns)))
theorem fn_gnames8 (F : FnOk P w K mg base CX0 k f fd ps (spGrNames K CE CG)) : FnOk P w K mg base CX0 k f fd ps (PFn (W8 K CE CM CG) noZ FGNames8) := by
  refine wrap_fn F fun p vs Hc ds Qp Q E r ⟨rows, gs, ns, e, hq⟩ kk kf => ?_
  subst e
  obtain ⟨v1, us1, rfl, q1, t1⟩ := ra_one r
  obtain rfl := ra_nil t1
  obtain ⟨x, ed, rfl, ga, ok, ex⟩ := at8 q1
  exact ⟨x, ed, ns, rows, gs, rfl, ga, ex.ed, ok, ex.l16, fun H' q s nq cq => kf _ q _ H' hq s nq cq (RA.ofStrs _)⟩
def FEq8 : List D8 → PQ Ob8 → Prop := fun ds Q => ∃ rows gs rows' gs', ds = [.ob (.ed rows gs), .ob (.ed rows' gs')] ∧ Q .cl (.bl (eqEd rows gs rows' gs'))
theorem fn_eq8 (F : FnOk P w K mg base CX0 k f fd ps (spEdEq K CE)) : FnOk P w K mg base CX0 k f fd ps (PFn (W8 K CE CM CG) noZ FEq8) := by
  refine wrap_fn F fun p vs Hc ds Qp Q E r ⟨rows, gs, rows', gs', e, hq⟩ kk _ => ?_
  subst e
  obtain ⟨v1, us1, rfl, q1, t1⟩ := ra_one r
  obtain ⟨v2, us2, rfl, q2, t2⟩ := ra_one t1
  obtain rfl := ra_nil t2
  obtain ⟨x, rfl, ex⟩ := at8 q1
  obtain ⟨y, rfl, ey⟩ := at8 q2
  exact ⟨x, .ref y, rows, gs, rfl, ex.ed, ex.lay, .inl ⟨y, rows', gs', rfl, ey.ed, ey.lay, kk _ _ _ hq (Same.refl _) (.bl _)⟩⟩
/-! fields of members -/
def foName8 : Ob8 → Option D8
  | .mem _ _ _ r => some (.str r.name)
  | _ => none
def foAl8 : Ob8 → Option D8
  | .mem _ _ _ r => some (.tup (strsD r.al))
  | _ => none
def foNum8 : Ob8 → Option D8
  | .mem _ _ _ r => some (.int r.num)
  | _ => none
theorem fld_name8 (T : MemTxt K CM) : FldOk (W8 K CE CM CG) "name" foName8 := by
  intro p H v x y h e
  cases x with
  | mem rows gs i r =>
    obtain ⟨q, ed, rfl, ⟨dx, al, h1, h2⟩, _, _⟩ := h
    obtain rfl := Option.some.inj e
    exact ⟨q, CM, dx, _, _, rfl, h1, T.cl, T.nN, memFs_name, .str _⟩
  | _ => cases e
theorem fld_al8 (T : MemTxt K CM) : FldOk (W8 K CE CM CG) "aliases" foAl8 := by
  intro p H v x y h e
  cases x with
  | mem rows gs i r =>
    obtain ⟨q, ed, rfl, ⟨dx, al, h1, h2⟩, _, _⟩ := h
    obtain rfl := Option.some.inj e
    exact ⟨q, CM, dx, _, _, rfl, h1, T.cl, T.nA, memFs_aliases, .tup h2 (RA.ofStrs _)⟩
  | _ => cases e
theorem fld_num8 (T : MemTxt K CM) : FldOk (W8 K CE CM CG) "number" foNum8 := by
  intro p H v x y h e
  cases x with
  | mem rows gs i r =>
    obtain ⟨q, ed, rfl, ⟨dx, al, h1, h2⟩, _, _⟩ := h
    obtain rfl := Option.some.inj e
    exact ⟨q, CM, dx, _, _, rfl, h1, T.cl, T.nU, memFs_number, .int _⟩
  | _ => cases e
/-! which objects are whose -/
def isMem8 : Ob8 → Prop
  | .mem _ _ _ _ => True
  | _ => False
def isEd8 : Ob8 → Prop
  | .ed _ _ => True
  | _ => False
def isGr8 : Ob8 → Prop
  | .grp _ _ _ => True
  | _ => False
theorem edFs_other8 {r g pl nu : Addr} {f : Str} (h : f ∉ (["_rows", "_groups", "_places", "_numbers"] : List Str)) : (edFs r g pl nu).lookup f = (none : Option V) := by
  simp only [List.mem_cons, List.not_mem_nil, or_false, not_or] at h
  obtain ⟨h1, h2, h3, h4⟩ := h
  unfold edFs
  rw [lookup_putF, if_neg h4, lookup_putF, if_neg h3, lookup_putF, if_neg h2, lookup_putF, if_neg h1]
  rfl
theorem grFs_other8 {e t : Addr} {f : Str} (h : f ∉ (["_edition", "_places"] : List Str)) : (grFs e t).lookup f = (none : Option V) := by
  simp only [List.mem_cons, List.not_mem_nil, or_false, not_or] at h
  unfold grFs
  rw [lookup_putF, if_neg h.2, lookup_putF, if_neg h.1]
  rfl
theorem ins_ed8 {m : Str} (hm : m ∉ (["_rows", "_groups", "_places", "_numbers"] : List Str)) : ∀ x, isEd8 x → InsC (W8 K CE CM CG) CE m x := by
  intro x hx H v h
  cases x with
  | ed rows gs =>
    obtain ⟨q, rfl, h⟩ := h
    obtain ⟨dx, r, g, pl, nu, h1, _⟩ := h.ed.ob
    exact ⟨q, dx, _, rfl, h1, edFs_other8 hm⟩
  | _ => exact hx.elim
theorem ins_gr8 {m : Str} (hm : m ∉ (["_edition", "_places"] : List Str)) : ∀ x, isGr8 x → InsC (W8 K CE CM CG) CG m x := by
  intro x hx H v h
  cases x with
  | grp rows gs ns =>
    obtain ⟨q, ed, rfl, ⟨dx, t, h1, _⟩, _⟩ := h
    exact ⟨q, dx, _, rfl, h1, grFs_other8 hm⟩
  | _ => exact hx.elim
/-- the methods of the text, over trees -/
structure Own8 (P : Program) (w : World) (K : Frag) (mg : Str → Option Value) (base : Heap) (CE CM CG : Addr) : Prop where
  TE : EdTxt K CE
  TM : MemTxt K CM
  TG : GrTxt K CG
  ZE : ClsQ K CE
  ge : ∃ f fd, FnOk P w K mg base CX0 3 f fd ["self", "name"] (PFn (W8 K CE CM CG) noZ FGet8) ∧ Binds K fd ["self", "name"] [] ∧ findIn K (.ref CE) "__getitem__" = some (some (.ref f)) ∧ isFn K (.ref f) = true ∧ fnIn K f = true
  nm : ∃ p f fd, FnOk P w K mg base CX0 1 f fd ["self"] (PFn (W8 K CE CM CG) noZ FNames8) ∧ Binds K fd ["self"] [] ∧ PropOf K CE "names" p f
  st : ∃ p f fd, FnOk P w K mg base CX0 1 f fd ["self"] (PFn (W8 K CE CM CG) noZ FSets8) ∧ Binds K fd ["self"] [] ∧ PropOf K CE "sets" p f
  gr : ∃ f fd, FnOk P w K mg base CX0 4 f fd ["self", "name"] (PFn (W8 K CE CM CG) noZ FGrp8) ∧ Binds K fd ["self", "name"] [] ∧ Meth K CE "group" f
  gn : ∃ p f fd, FnOk P w K mg base CX0 1 f fd ["self"] (PFn (W8 K CE CM CG) noZ FGNames8) ∧ Binds K fd ["self"] [] ∧ PropOf K CG "names" p f
  eq : ∃ f fd, FnOk P w K mg base CX0 1 f fd ["self", "other"] (PFn (W8 K CE CM CG) noZ FEq8) ∧ Binds K fd ["self", "other"] [] ∧ findIn K (.ref CE) "__eq__" = some (some (.ref f)) ∧ isFn K (.ref f) = true
  mkE : ∃ f fd, Mk K CE f ∧ FnOk P w K mg base CX0 4 f fd ["self", "members", "sets"] (frSp (spEdInit K CE)) ∧ Binds K fd ["self", "members", "sets"] [] ∧ mg "Edition" = some (.ref CE)
def isEdD (d : D8) : Prop := ∃ rows gs, d = .ob (.ed rows gs)
theorem edD_ok (Z : ClsQ K CE) {z : Addr → Prop} (hz : noZ z) : ∀ d, isEdD d → CleanD d ∧ ∀ p D H v, R0 ((W8 K CE CM CG).at z) p (hide D H) v d → ∃ t, TyX (W8 K CE CM CG).K H v t ∧ notFirst (W8 K CE CM CG).K CE t = true := by
  subst hz
  rintro d ⟨rows, gs, rfl⟩
  refine ⟨clean_ob, fun p D H v h => ?_⟩
  obtain ⟨x, rfl, ex⟩ := at8 h
  obtain ⟨dx, r, g, pl, nu, h1, _⟩ := ex.ed.ob
  exact ⟨_, Z.ty (hide_some h1).2, ClsQ.self⟩
/-! rows and sets that Edition takes -/
structure Gd8 (rows : List Gk.Row) (sets : List (Str × List Str)) : Prop where
  ok : RowsOk rows
  sg : SetsGood (rows.map (·.name)) sets
  nd : (wordsOf rows).Nodup
  lay : ∀ r1, Paired SortedRow rows r1 → EdLay r1
theorem pl_in (ns ws : List Str) : ∀ i, i ≤ ns.length → ∀ z ∈ plTo ns ws i, 0 ≤ z ∧ z < (i : Int)
  | 0, _, z, h => by cases h
  | i + 1, hi, z, h => by
    unfold plTo at h
    rcases List.mem_append.mp h with h | h
    · have := pl_in ns ws i (by omega) z h
      omega
    · revert h
      cases ns[i]? with
      | none => intro h; cases h
      | some x =>
        intro h
        have h : z ∈ (if inV (V.str x) (ws.map V.str) = true then [(i : Int)] else []) := h
        by_cases c : inV (.str x) (ws.map V.str) = true
        · rw [if_pos c] at h
          have := List.mem_singleton.mp h
          omega
        · rw [if_neg c] at h
          cases h
theorem Gd8.ed {H : Hp} {x : Addr} {rows rows' : List Gk.Row} {sets : List (Str × List Str)} (g : Gd8 rows sets) (ps : Paired SortedRow rows rows') (e : EdAt CE H x rows' (groupsOf (rows.map (·.name)) sets)) : Ed8 CE H x rows' (groupsOf (rows.map (·.name)) sets) := by
  have ln := paired_len ps
  refine ⟨e, (words_sorted ps).nodup_iff.mpr g.nd, by rw [← ln]; exact g.ok.hi, g.lay _ ps, ?_, ?_, ?_⟩
  · rw [groups_keys]; exact g.sg.nd
  · unfold groupsOf; rw [List.length_map]; exact g.sg.few
  · intro z hz
    obtain ⟨y, hy, rfl⟩ := List.mem_map.mp hz
    rw [← ln]
    refine ⟨fun i hi => ?_, ?_⟩
    · have := pl_in _ _ _ (Nat.le_refl _) i hi
      rw [List.length_map] at this
      exact this
    · have := plTo_len (rows.map (·.name)) y.2 (rows.map (·.name)).length
      rw [List.length_map] at this
      rw [List.length_map]
      exact this
end
end Pu
/-! ### k80: Edition(..), over trees -/
namespace Gk
open PySem PySem.W PySem.Spec PyProof.Rows L2 NdefX
theorem SetsArg.later {K : Frag} {H H' : Hp} {v : V} {ns : List Str} {sets : List (Str × List Str)} (h : SetsArg K H v ns sets) (s : Same H H') : SetsArg K H' v ns sets := by
  rcases h with h | ⟨d, kvs, e, hd, pd, ok⟩
  · exact .inl h
  · exact .inr ⟨d, kvs, e, s _ _ hd, paired_map (fun kv y z => by obtain ⟨e, l, e2, h1⟩ := z; exact ⟨e, l, e2, h1.imp s.seq s.sqT⟩) pd, ok⟩
theorem MembersK.later {K : Frag} {H H' : Hp} {a : Addr} {rows : List Row} (h : MembersK K H a rows) (s : Same H H') : MembersK K H' a rows := by
  obtain ⟨vs, h1, h2⟩ := h
  exact ⟨vs, h1.imp s.seq s.sqT, paired_map (fun _ _ z => RowK.later z s) h2⟩
/-- the model told in another sequence -/
def revRow (x : Row) : Row := ⟨x.name, x.al.reverse, x.num⟩
end Gk
namespace Pu
open PySem PySem.W PySem.Spec PyProof.Rows L2 Gk NdefX Tx
section
variable {P : Program} {w : World} {K : Frag} {mg : Str → Option Value} {base : Heap} {CE CM CG CN : Addr} {k : Nat} {f : Addr} {fd : FuncData} {ps : List Str} {p : Option Addr} {D : Addr → Prop} {H : Hp} {v : V} {d : D8} {px : PTA Ob8} {tx : TA}
def pMkEd (px : PTA Ob8) (env : PEnv Ob8) (Q : PQ Ob8) : Prop := px env fun xs => okArgs xs ∧ ∃ md rows sets, xs.map (·.2) = [md, setsD sets] ∧ md.seq = some (rows.map rowD) ∧ Gd8 rows sets ∧ ∀ rows', Paired SortedRow rows rows' → Q .cl (.ob (.ed rows' (groupsOf (rows.map (·.name)) sets)))
theorem rows_k {us : List V} : ∀ {rows : List Gk.Row}, RA ((W8 K CE CM CG).at nz) p H us (rows.map rowD) → Paired (RowK K H) us rows := by
  induction us with
  | nil => intro rows r; cases rows with
    | nil => exact .nil
    | cons x l => cases r
  | cons u us ih => intro rows r; cases rows with
    | nil => cases r
    | cons x l => cases r with | cons a b => exact .cons (rowAt_at a).k (ih b)
theorem members_k {rows : List Gk.Row} (h : R0 ((W8 K CE CM CG).at nz) p H v d) (e : d.seq = some (rows.map rowD)) : ∃ m, v = .ref m ∧ MembersK K H m rows := by
  cases d with
  | lst ds => obtain rfl := Option.some.inj e; cases h with | lst e r => exact ⟨_, rfl, _, .inl (SqL.of e), rows_k r⟩
  | tup ds => obtain rfl := Option.some.inj e; cases h with | tup e r => exact ⟨_, rfl, _, .inr (SqT.of e), rows_k r⟩
  | _ => cases e
theorem sets_k {ns : List Str} {sets : List (Str × List Str)} (h : R0 ((W8 K CE CM CG).at nz) p H v (setsD sets)) (g : SetsGood ns sets) : SetsArg K H v ns sets := by
  obtain ⟨d, rfl, kvs, h1, h2⟩ := setsAt_at rfl h
  refine .inr ⟨d, kvs, rfl, h1, paired_map (fun kv y z => ?_) h2, g⟩
  obtain ⟨e1, l1, e2, h1⟩ := z
  exact ⟨e1, l1, e2, .inl (SqL.of h1)⟩
theorem hide_upd_out {a : Addr} {o : HO} (h : ¬ D a) : hide D (upd H a o) = upd (hide D H) a o := by
  funext b
  by_cases e : b = a
  · subst e
    rw [hide_at h, upd_same, upd_same]
  · rw [upd_ne e]
    by_cases z : D b
    · rw [hide_in z, hide_in z]
    · rw [hide_at z, hide_at z, upd_ne e]
theorem snd_mkEd {zz : Addr → Prop} (hz : noZ zz) (hx : SndA ((W8 K CE CM CG).at zz) px tx) : SndE ((W8 K CE CM CG).at zz) (pMkEd px) (tMake CE (frSp (spEdInit K CE)) [] E0 tx) := by
  subst hz
  intro p D σ H env Qp Q st h k
  refine hx p D σ H env _ _ st h fun xs vs H1 ⟨ok, md, rows, sets, e, es, g, hq⟩ g1 r1 => ?_
  have st1 := st.grow g1
  have ra := RRs.clean st.hv r1 ok
  rw [e] at ra
  obtain ⟨v1, us1, rfl, q1, t1⟩ := ra_one ra
  obtain ⟨v2, us2, rfl, q2, t2⟩ := ra_one t1
  obtain rfl := ra_nil t2
  obtain ⟨m, rfl, hM⟩ := members_k q1 es
  have hA := sets_k q2 g.sg
  intro x dx hx0 hd0 ne
  have nx : ¬ D x := st1.hv.nd hx0
  have nd : ¬ D dx := st1.hv.nd hd0
  have eH : hide D (upd (upd H1 dx (.own x)) x (.ins CE dx [])) = upd (upd (hide D H1) dx (.own x)) x (.ins CE dx []) := by rw [hide_upd_out nx, hide_upd_out nd]
  have hx1 : hide D H1 x = none := hide_none hx0
  have hd1 : hide D H1 dx = none := hide_none hd0
  have s3 : Same (hide D H1) (upd (upd (hide D H1) dx (.own x)) x (.ins CE dx [])) := ((Same.refl _).new hd1).new (by rw [upd_ne ne.symm]; exact hx1)
  have cx : upd (upd (hide D H1) dx (.own x)) x (.ins CE dx []) x = some (.ins CE dx []) := upd_same
  have off : ∀ b, b ≠ x → b ≠ dx → upd (upd H1 dx (.own x)) x (.ins CE dx []) b = H1 b := fun b h1 h2 => by rw [upd_ne h1, upd_ne h2]
  have neD : ∀ b, D b → b ≠ x ∧ b ≠ dx := fun b z => ⟨fun q => nx (q ▸ z), fun q => nd (q ▸ z)⟩
  refine ⟨D, fun a z => ?_, ?_⟩
  · obtain ⟨o, eo, so⟩ := st1.hv.sft a z
    exact ⟨o, by rw [off a (neD a z).1 (neD a z).2]; exact eo, so⟩
  rw [eH]
  generalize hG : upd (upd (hide D H1) dx (.own x)) x (.ins CE dx []) = H3 at s3 cx
  refine ⟨x, dx, m, v2, rows, sets, rfl, cx, hM.later s3, g.ok, hA.later s3, fun H' rows' bt ps ea gone => ⟨rfl, ?_⟩⟩
  have sm : Same (hide D H1) H' := fun b u e => bt b u (ne_of_none e hx1) (s3 b u e)
  refine k .cl _ _ _ (hq rows' ps) (g1.trans ⟨fun b u n e => ?_, fun a e => ?_⟩) ?_
  · by_cases z : D b
    · rw [glue_in z, off b (neD b z).1 (neD b z).2]; exact e
    · rw [glue_at z]
      exact sm b u (by rw [hide_at z]; exact e)
  · obtain ⟨z, r, m, e1, e2⟩ := st1.hv.src a e
    exact ⟨r, m, by rw [glue_in z, off a (neD a z).1 (neD a z).2]; exact e1, e2⟩
  · show R0 ((W8 K CE CM CG).at nz) p (hide D (glue D _ H')) (.ref x) _
    rw [glue_hide gone]
    exact of8 ⟨x, rfl, g.ed ps ea⟩
end
end Pu
/-! ### k80: rows and sets of its editions; their text -/
namespace Pu
open PySem PySem.W PySem.Spec PyProof.Rows L2 Gk Tx
structure RowsT (rows : List Gk.Row) : Prop where
  lo : 1 ≤ rows.length
  hi : rows.length ≤ 16
  wn : (wordsOf rows).Nodup
  wk : ∀ w ∈ wordsOf rows, NmP w
  few : ∀ r ∈ rows, r.al.length ≤ 19
  nn : (rows.map (·.num)).Nodup
  nk : ∀ r ∈ rows, -(10 ^ 9 : Int) ≤ r.num ∧ r.num ≤ 10 ^ 9
theorem words_row : ∀ rows : List PR, wordsOf (rows.map PR.row) = wordsP rows
  | [] => rfl
  | r :: rows => by
    rw [List.map_cons, words_cons, words_row rows]
    rfl
theorem nums_row (rows : List PR) : (rows.map PR.row).map (·.num) = rows.map (·.num) := by rw [List.map_map]; rfl
theorem names_row (rows : List PR) : (rows.map PR.row).map (·.name) = rows.map (·.name) := by rw [List.map_map]; rfl
theorem GoodT.rows {rows : List PR} {sets : List Str} (g : GoodT rows sets) : RowsT (rows.map PR.row) := by
  refine ⟨by rw [List.length_map]; exact g.lo, by rw [List.length_map]; exact g.hi, by rw [words_row]; exact g.wn, by rw [words_row]; exact g.wk, fun r hr => ?_, by rw [nums_row]; exact g.nn, fun r hr => ?_⟩
  · obtain ⟨x, hx, rfl⟩ := List.mem_map.mp hr
    exact (g.one hx).2.2
  · obtain ⟨x, hx, rfl⟩ := List.mem_map.mp hr
    exact g.nk x hx
theorem sorted_mem {rows rows' : List Gk.Row} (h : Paired SortedRow rows rows') : ∀ y ∈ rows', ∃ x ∈ rows, SortedRow x y := by
  induction h with
  | nil => exact fun y hy => by cases hy
  | cons r t ih =>
    intro y hy
    rcases List.mem_cons.mp hy with rfl | hy
    · exact ⟨_, List.mem_cons_self, r⟩
    · obtain ⟨x, hx, s⟩ := ih y hy
      exact ⟨x, List.mem_cons_of_mem _ hx, s⟩
theorem RowsT.sorted {rows rows' : List Gk.Row} (g : RowsT rows) (h : Paired SortedRow rows rows') : RowsT rows' := by
  have l := paired_len h
  refine ⟨by rw [← l]; exact g.lo, by rw [← l]; exact g.hi, (words_sorted h).nodup_iff.mpr g.wn, fun w hw => g.wk w ((words_sorted h).mem_iff.mp hw), fun r hr => ?_, ?_, fun r hr => ?_⟩
  · obtain ⟨x, hx, s⟩ := sorted_mem h r hr
    rw [s.perm.length_eq]
    exact g.few x hx
  · rw [nums_sorted h]
    exact g.nn
  · obtain ⟨x, hx, s⟩ := sorted_mem h r hr
    rw [s.num]
    exact g.nk x hx
theorem RowsT.take {rows : List Gk.Row} (g : RowsT rows) {k : Nat} (hk : 1 ≤ k) : RowsT (rows.take k) := by
  have lo := g.lo
  have hi := g.hi
  have sb : (rows.take k).Sublist rows := List.take_sublist ..
  have sw : (wordsOf (rows.take k)).Sublist (wordsOf rows) := by
    conv => rhs; rw [← List.take_append_drop k rows]
    unfold Gk.wordsOf
    rw [List.flatMap_append]
    exact List.sublist_append_left _ _
  refine ⟨by rw [List.length_take]; omega, by rw [List.length_take]; omega, sw.nodup g.wn, fun w hw => g.wk w (sw.subset hw), fun r hr => g.few r (sb.subset hr), (sb.map _).nodup g.nn, fun r hr => g.nk r (sb.subset hr)⟩
theorem RowsT.row {rows : List Gk.Row} (g : RowsT rows) {r : Gk.Row} (hr : r ∈ rows) : NmP r.name ∧ ∀ w ∈ r.al, NmP w :=
  ⟨g.wk _ (mem_words hr _ List.mem_cons_self), fun w hw => g.wk _ (mem_words hr _ (List.mem_cons_of_mem _ hw))⟩
theorem RowsT.lay {rows : List Gk.Row} (g : RowsT rows) : EdLay rows := fun x hx => ⟨(g.row hx).1.2, fun y hy => ((g.row hx).2 y hy).2⟩
theorem RowsT.ok {rows : List Gk.Row} (g : RowsT rows) : RowsOk rows := by
  refine ⟨g.lo, g.hi, fun x hx => ?_, fun x hx => Nat.lt_of_le_of_lt (g.few x hx) (by decide), ?_⟩
  · have far := g.nk x hx
    have e : farI = 10 ^ 9 := by decide
    exact ⟨(g.row hx).1.1, fun y hy => ((g.row hx).2 y hy).1, by rw [e]; exact far.1, by rw [e]; exact far.2, Nat.le_trans (g.few x hx) (by decide)⟩
  · refine (marks_apart rows).nodup_iff.mpr (List.nodup_append.mpr ⟨nodup_inr g.wn, nodup_map_inl g.nn, fun a ha b hb e => ?_⟩)
    obtain ⟨y, _, rfl⟩ := List.mem_map.mp ha
    obtain ⟨z, _, rfl⟩ := List.mem_map.mp hb
    cases e
/-! sets: their names, and what each holds -/
def setsN (ks : List Str) (nm : Str → List Str) : List (Str × List Str) := ks.map fun s => (s, nm s)
structure KsOk (ns ks : List Str) (nm : Str → List Str) : Prop where
  nd : ks.Nodup
  l3 : ks.length ≤ 3
  nk : ∀ s ∈ ks, NmP s
  fl : ∀ s ∈ ks, ns.filter (fun n => decide (n ∈ nm s)) = nm s
theorem sub_filter {l l' : List Str} (h : l'.Sublist l) : l.Nodup → l.filter (fun n => decide (n ∈ l')) = l' := by
  induction h with
  | slnil => intro _; rfl
  | @cons l1 l2 a h ih =>
    intro nd
    rw [List.nodup_cons] at nd
    rw [List.filter_cons_of_neg (by rw [decide_eq_false fun z => nd.1 (h.subset z)]; exact Bool.false_ne_true)]
    exact ih nd.2
  | @cons_cons l1 l2 a h ih =>
    intro nd
    rw [List.nodup_cons] at nd
    rw [List.filter_cons_of_pos (by exact decide_eq_true List.mem_cons_self)]
    congr 1
    refine Eq.trans (List.filter_congr fun x hx => ?_) (ih nd.2)
    have ne : x ≠ a := fun e => nd.1 (e ▸ hx)
    rw [decide_eq_decide, List.mem_cons]
    exact ⟨fun z => z.resolve_left ne, .inr⟩
theorem GoodT.names {rows : List PR} {sets : List Str} (g : GoodT rows sets) : (rows.map (·.name)).Nodup := by
  have h := g.wn
  clear g
  induction rows with
  | nil => exact List.nodup_nil
  | cons r rows ih =>
    rw [wordsP_cons, List.cons_append, List.nodup_cons] at h
    rw [List.map_cons, List.nodup_cons]
    refine ⟨fun z => ?_, ih ((List.sublist_append_right _ _).nodup h.2)⟩
    obtain ⟨x, hx, e⟩ := List.mem_map.mp z
    exact h.1 (List.mem_append_right _ (wordsP_mem.mpr ⟨x, hx, .inl e.symm⟩))
theorem GoodT.ks {rows : List PR} {sets ks : List Str} (g : GoodT rows sets) (p : ks.Sublist sets ∨ ks.Perm sets) : KsOk (rows.map (·.name)) ks (seenIn rows) := by
  refine ⟨?_, ?_, fun s hs => g.sk s ?_, fun s _ => sub_filter ?_ g.names⟩
  · rcases p with p | p
    · exact p.nodup g.sn
    · exact p.nodup_iff.mpr g.sn
  · rcases p with p | p
    · exact Nat.le_trans p.length_le g.sl
    · rw [p.length_eq]; exact g.sl
  · rcases p with p | p
    · exact p.subset hs
    · exact p.mem_iff.mp hs
  · unfold seenIn
    exact (List.filter_sublist ..).map _
theorem KsOk.sg {ns ks : List Str} {nm : Str → List Str} (g : KsOk ns ks nm) (nd : ns.Nodup) (hl : ns.length ≤ 16) : SetsGood ns (setsN ks nm) := by
  have sub : ∀ s ∈ ks, (nm s).Sublist ns := fun s hs => by
    have := g.fl s hs
    rw [← this]
    exact List.filter_sublist ..
  refine ⟨by unfold setsN; rw [List.length_map]; exact g.l3, by unfold setsN; rw [List.map_map]; show (ks.map id).Nodup; rw [List.map_id]; exact g.nd, fun x hx => ?_, fun x hx y hy => ?_, fun x hx => ?_, fun x hx => ?_⟩
  all_goals obtain ⟨s, hs, rfl⟩ := List.mem_map.mp hx
  · exact (g.nk s hs).1
  · exact (sub s hs).subset hy
  · exact (sub s hs).nodup nd
  · have := (sub s hs).length_le
    show (nm s).length ≤ 100
    omega
theorem RowsT.names {rows : List Gk.Row} (g : RowsT rows) : (rows.map (·.name)).Nodup := by
  have h := g.wn
  clear g
  induction rows with
  | nil => exact List.nodup_nil
  | cons r rows ih =>
    rw [words_cons, List.cons_append, List.nodup_cons] at h
    rw [List.map_cons, List.nodup_cons]
    refine ⟨fun z => ?_, ih ((List.sublist_append_right _ _).nodup h.2)⟩
    obtain ⟨x, hx, e⟩ := List.mem_map.mp z
    exact h.1 (List.mem_append_right _ (mem_words hx _ (e ▸ List.mem_cons_self)))
theorem gd8_of {rows : List Gk.Row} {ks : List Str} {nm : Str → List Str} (g : RowsT rows) (k : KsOk (rows.map (·.name)) ks nm) : Gd8 rows (setsN ks nm) :=
  ⟨g.ok, k.sg g.names (by rw [List.length_map]; exact g.hi), g.wn, fun _ p => (g.sorted p).lay⟩
/-- rows that are sorted stay -/
theorem sorted_same {rows rows' : List Gk.Row} (h : Paired SortedRow rows rows') : (∀ r ∈ rows, sortedS r.al = true) → rows' = rows := by
  induction h with
  | nil => intro _; rfl
  | @cons x y l l' r t ih =>
    intro h
    rw [ih fun z hz => h z (List.mem_cons_of_mem _ hz)]
    congr 1
    have e := sorted_unique r.srt (h x List.mem_cons_self) r.perm
    have e1 := r.nm
    have e2 := r.num
    cases x; cases y
    simp only at e e1 e2
    rw [e, e1, e2]
/-- the names at the places of a set -/
theorem names_pl (rows : List Gk.Row) (ws : List Str) : ∀ i, i ≤ rows.length → namesAt rows (plTo (rows.map (·.name)) ws i) = ((rows.map (·.name)).take i).filter fun n => decide (n ∈ ws)
  | 0, _ => rfl
  | i + 1, hi => by
    have ih := names_pl rows ws i (by omega)
    have hl : i < rows.length := by omega
    have e1 : (rows.map (·.name))[i]? = some rows[i].name := by rw [List.getElem?_map, List.getElem?_eq_getElem hl]; rfl
    unfold plTo
    rw [e1, List.take_add_one, e1, List.filter_append]
    unfold namesAt at ih ⊢
    rw [List.map_append, ih]
    congr 1
    show (if inV (.str rows[i].name) (ws.map V.str) = true then [(i : Int)] else []).map _ = List.filter _ [rows[i].name]
    rw [inV_decS]
    by_cases c : rows[i].name ∈ ws
    · rw [if_pos (decide_eq_true c), List.filter_cons_of_pos (by exact decide_eq_true c), List.map_cons, Int.toNat_natCast, List.getElem?_eq_getElem hl]
      rfl
    · rw [if_neg (by rw [decide_eq_false c]; exact Bool.false_ne_true), List.filter_cons_of_neg (by rw [decide_eq_false c]; exact Bool.false_ne_true)]
      rfl
/-! the text -/
def lineG (s : Str) (ns : List Str) : Str := Txt.join (" " : Str) (("set" : Str) :: s :: ns)
def linesM (rows : List Gk.Row) (ks : List Str) (nm : Str → List Str) : List Str := rows.map lineR ++ ks.map fun s => lineG s (nm s)
def textM (rows : List Gk.Row) (ks : List Str) (nm : Str → List Str) : Str := Txt.join ("\n" : Str) (linesM rows ks nm)
end Pu
namespace Pu
open PySem PySem.W PySem.Spec PyProof.Rows L2 Gk Tx
def wordsM (rows : List Gk.Row) (ks : List Str) (nm : Str → List Str) : List (List Str) := rows.map wordsR ++ ks.map fun s => ("set" : Str) :: s :: nm s
theorem linesM_words (rows : List Gk.Row) (ks : List Str) (nm : Str → List Str) : linesM rows ks nm = (wordsM rows ks nm).map (Txt.join (" " : Str)) := by
  unfold linesM wordsM
  rw [List.map_append, List.map_map, List.map_map]
  rfl
theorem KsOk.sub {ns ks : List Str} {nm : Str → List Str} (g : KsOk ns ks nm) {s : Str} (hs : s ∈ ks) : (nm s).Sublist ns := by
  have := g.fl s hs
  rw [← this]
  exact List.filter_sublist ..
theorem KsOk.perm {ns ks ys : List Str} {nm : Str → List Str} (g : KsOk ns ks nm) (p : ys.Perm ks) : KsOk ns ys nm :=
  ⟨p.nodup_iff.mpr g.nd, by rw [p.length_eq]; exact g.l3, fun s hs => g.nk s (p.mem_iff.mp hs), fun s hs => g.fl s (p.mem_iff.mp hs)⟩
theorem KsOk.take {ns ks : List Str} {nm : Str → List Str} (g : KsOk ns ks nm) (j : Nat) : KsOk ns (ks.take j) nm :=
  ⟨(List.take_sublist ..).nodup g.nd, by rw [List.length_take]; have := g.l3; omega, fun s hs => g.nk s (List.mem_of_mem_take hs), fun s hs => g.fl s (List.mem_of_mem_take hs)⟩
theorem wordsM_ok {rows : List Gk.Row} {ks : List Str} {nm : Str → List Str} (g : RowsT rows) (k : KsOk (rows.map (·.name)) ks nm) : ∀ ws ∈ wordsM rows ks nm, (∀ w ∈ ws, w.length ≤ 11 ∧ 32 ∉ w.cps.toList ∧ 10 ∉ w.cps.toList) ∧ ws.length ≤ 22 ∧ ws ≠ [] := by
  intro ws hw
  have nmw : ∀ w : Str, NmP w → w.length ≤ 11 ∧ 32 ∉ w.cps.toList ∧ 10 ∉ w.cps.toList := fun w h => ⟨Nat.le_trans (nm_len h) (by decide), nm_free h (by decide), nm_free h (by decide)⟩
  rcases List.mem_append.mp hw with h | h
  · obtain ⟨r, hr, rfl⟩ := List.mem_map.mp h
    have := g.few r hr
    refine ⟨fun w hw => ?_, by show r.al.length + 3 ≤ 22; omega, List.cons_ne_nil _ _⟩
    rcases List.mem_cons.mp hw with rfl | hw
    · decide +kernel
    rcases List.mem_cons.mp hw with rfl | hw
    · exact nmw _ (g.row hr).1
    rcases List.mem_cons.mp hw with rfl | hw
    · exact ⟨numT_len (g.nk r hr), numT_free (by decide) _, numT_free (by decide) _⟩
    · exact nmw _ ((g.row hr).2 w hw)
  · obtain ⟨s, hs, rfl⟩ := List.mem_map.mp h
    have l := (k.sub hs).length_le
    have hi := g.hi
    rw [List.length_map] at l
    refine ⟨fun w hw => ?_, by show (nm s).length + 2 ≤ 22; omega, List.cons_ne_nil _ _⟩
    rcases List.mem_cons.mp hw with rfl | hw
    · decide +kernel
    rcases List.mem_cons.mp hw with rfl | hw
    · exact nmw _ (k.nk w hs)
    · obtain ⟨r, hr, rfl⟩ := List.mem_map.mp ((k.sub hs).subset hw)
      exact nmw _ (g.row hr).1
theorem line_ok {ws : List Str} (h : (∀ w ∈ ws, w.length ≤ 11 ∧ 32 ∉ w.cps.toList ∧ 10 ∉ w.cps.toList) ∧ ws.length ≤ 22 ∧ ws ≠ []) : (ws.map (·.length)).sum + ws.length * (" " : Str).length ≤ 16777216 ∧ (Txt.join (" " : Str) ws).length ≤ 300 ∧ 10 ∉ (Txt.join (" " : Str) ws).cps.toList := by
  have h1 := join_ok (ws := ws) memE_len.2.2 (fun w hw => (h.1 w hw).1) (by decide) (by have := h.2.1; omega)
  refine ⟨h1, ?_, ?_⟩
  · refine Nat.le_trans (join_len _ _) ?_
    have a := sum_le (fun w hw => (h.1 w hw).1)
    have b := h.2.1
    rw [memE_len.2.2]
    omega
  · exact joinT_free (c := 32) (by decide) fun p hp => (h.1 p hp).2.2
theorem text_ok {rows : List Gk.Row} {ks : List Str} {nm : Str → List Str} (g : RowsT rows) (k : KsOk (rows.map (·.name)) ks nm) : ((linesM rows ks nm).map (·.length)).sum + (linesM rows ks nm).length * ("\n" : Str).length ≤ 16777216 ∧ (linesM rows ks nm).length ≤ 19 ∧
    (∀ l ∈ linesM rows ks nm, l.length ≤ 300 ∧ 10 ∉ l.cps.toList) ∧ linesM rows ks nm ≠ [] ∧ (textM rows ks nm).length ≤ 10000 := by
  have h1 : (linesM rows ks nm).length ≤ 19 := by
    unfold linesM
    rw [List.length_append, List.length_map, List.length_map]
    have := g.hi
    have := k.l3
    omega
  have h2 : ∀ l ∈ linesM rows ks nm, l.length ≤ 300 ∧ 10 ∉ l.cps.toList := fun l hl => by
    rw [linesM_words] at hl
    obtain ⟨ws, hw, rfl⟩ := List.mem_map.mp hl
    exact ⟨(line_ok (wordsM_ok g k ws hw)).2.1, (line_ok (wordsM_ok g k ws hw)).2.2⟩
  refine ⟨join_ok (c := 300) (by decide) (fun l hl => (h2 l hl).1) (by decide) (by omega), h1, h2, fun e => ?_, ?_⟩
  · have := congrArg List.length e
    unfold linesM at this
    rw [List.length_append, List.length_map, List.length_map] at this
    have := g.lo
    simp only [List.length_nil] at *
    omega
  · refine Nat.le_trans (join_len _ _) ?_
    have a := sum_le (c := 300) (fun l hl => (h2 l hl).1)
    have b : ("\n" : Str).length = 1 := by decide
    rw [b]
    omega
end Pu
namespace Pu
open PySem PySem.W PySem.Spec PyProof.Rows L2 Gk Tx
theorem text_split {rows : List Gk.Row} {ks : List Str} {nm : Str → List Str} (g : RowsT rows) (k : KsOk (rows.map (·.name)) ks nm) : Txt.split (textM rows ks nm) ("\n" : Str) = linesM rows ks nm :=
  split_join (c := 10) (text_ok g k).2.2.2.1 fun p hp => ((text_ok g k).2.2.1 p hp).2
theorem lines_take (rows : List Gk.Row) (ks : List Str) (nm : Str → List Str) (i : Nat) : (linesM rows ks nm).take i = linesM (rows.take i) (ks.take (i - rows.length)) nm := by
  unfold linesM
  rw [List.take_append, List.length_map, ← List.map_take, ← List.map_take]
theorem KsOk.pre {rows : List Gk.Row} {ks : List Str} {nm : Str → List Str} (k : KsOk (rows.map (·.name)) ks nm) (i : Nat) : KsOk ((rows.take i).map (·.name)) (ks.take (i - rows.length)) nm := by
  by_cases h : rows.length ≤ i
  · rw [List.take_of_length_le h]
    exact k.take _
  · rw [show i - rows.length = 0 from by omega]
    exact ⟨List.nodup_nil, Nat.zero_le _, fun s hs => (by cases hs), fun s hs => (by cases hs)⟩
theorem risingS_take : ∀ (l : List Str) (p : Str) (n : Nat), risingS p l = true → risingS p (l.take n) = true
  | [], _, n, h => by rw [List.take_nil]; exact h
  | x :: r, p, 0, _ => rfl
  | x :: r, p, n + 1, h => by
    have h' : (!ltCps x.cps.toList p.cps.toList && risingS x r) = true := h
    rw [Bool.and_eq_true] at h'
    show (!ltCps x.cps.toList p.cps.toList && risingS x (r.take n)) = true
    rw [Bool.and_eq_true]
    exact ⟨h'.1, risingS_take r x n h'.2⟩
theorem sortedS_take {l : List Str} (n : Nat) (h : sortedS l = true) : sortedS (l.take n) = true := by
  cases l with
  | nil => rw [List.take_nil]; exact h
  | cons x r => cases n with
    | zero => rfl
    | succ n => exact risingS_take r x n h
end Pu
namespace Pu
open PySem PySem.W PySem.Spec PyProof.Rows L2 Gk Tx
theorem like_refl8 (rows : List Gk.Row) : Paired LikeRow rows rows := by
  induction rows with
  | nil => exact .nil
  | cons x l ih => exact .cons ⟨rfl, rfl, List.Perm.refl _⟩ ih
theorem sorted_two {rows a b : List Gk.Row} (p : Paired SortedRow rows a) (q : Paired SortedRow rows b) : a = b := Gk.sorted_same (like_refl8 rows) p q
theorem sorted_self : ∀ {rows : List Gk.Row}, (∀ r ∈ rows, sortedS r.al = true) → Paired SortedRow rows rows
  | [], _ => .nil
  | r :: rows, h => .cons ⟨rfl, rfl, List.Perm.refl _, h r List.mem_cons_self⟩ (sorted_self fun x hx => h x (List.mem_cons_of_mem _ hx))
theorem sorted_als {rows rows' : List Gk.Row} (h : Paired SortedRow rows rows') : ∀ r ∈ rows', sortedS r.al = true := fun r hr => by
  obtain ⟨x, _, s⟩ := sorted_mem h r hr
  exact s.srt
theorem setsN_keys (ks : List Str) (nm : Str → List Str) : (setsN ks nm).map (·.1) = ks := by
  unfold setsN
  rw [List.map_map]
  exact List.map_id _
theorem ed_same {r : List Gk.Row} {ks ks' : List Str} {nm : Str → List Str} (g : RowsT r) (hs : ∀ x ∈ r, sortedS x.al = true) (k : KsOk (r.map (·.name)) ks nm) (p : ks'.Perm ks) :
    eqEd r (groupsOf (r.map (·.name)) (setsN ks' nm)) r (groupsOf (r.map (·.name)) (setsN ks nm)) = true := by
  have s := sorted_self hs
  refine (same_eq g.lay (by rw [setsN_keys]; exact k.nd) (by rw [setsN_keys]; exact p.nodup_iff.mpr k.nd) (by unfold setsN; rw [List.length_map, List.length_map]; exact p.length_eq) (fun x hx => ?_) (like_refl8 r) s s).2
  obtain ⟨z, hz, rfl⟩ := List.mem_map.mp hx
  exact ⟨_, List.mem_map.mpr ⟨z, p.mem_iff.mp hz, rfl⟩, rfl, fun _ => Iff.rfl⟩
theorem join_all {P : Nat → Prop} {sep : Str} (hs : ∀ c ∈ sep.cps.toList, P c) : ∀ {xs : List Str}, (∀ x ∈ xs, ∀ c ∈ x.cps.toList, P c) → ∀ c ∈ (Str.join sep xs).cps.toList, P c
  | [], _ => fun c hc => by cases hc
  | [x], h => h x List.mem_cons_self
  | x :: y :: r, h => by
    have e : (Str.join sep (x :: y :: r)).cps.toList = x.cps.toList ++ (sep.cps.toList ++ (Str.join sep (y :: r)).cps.toList) := by
      show ((x.cps ++ sep.cps) ++ (Str.join sep (y :: r)).cps).toList = _
      rw [Array.toList_append, Array.toList_append, List.append_assoc]
    rw [e]
    intro c hc
    rcases List.mem_append.mp hc with z | z
    · exact h x List.mem_cons_self c z
    · rcases List.mem_append.mp z with z | z
      · exact hs c z
      · exact join_all hs (fun p hp => h p (List.mem_cons_of_mem _ hp)) c z
theorem joinT_all {P : Nat → Prop} {sep : Str} (hs : ∀ c ∈ sep.cps.toList, P c) {xs : List Str} (h : ∀ x ∈ xs, ∀ c ∈ x.cps.toList, P c) : ∀ c ∈ (Txt.join sep xs).cps.toList, P c := by
  show ∀ c ∈ (PySem.Builtin.Str.glued sep xs).cps.toList, P c
  rw [StrLaws.glued_eq_join]
  exact join_all hs h
def SmallC (c : Nat) : Prop := c < 16 ^ 8
theorem nm_small {w : Str} (h : NmP w) : ∀ c ∈ w.cps.toList, SmallC c := fun c hc => by
  have h2 := h.2
  unfold PyData.strOk at h2
  rw [← Array.all_toList, List.all_eq_true] at h2
  have := h2 c hc
  rw [decide_eq_true_eq] at this
  exact Nat.lt_trans this (by decide)
theorem num_small (n : Int) : ∀ c ∈ (numT n).cps.toList, SmallC c := fun c hc => by
  by_cases z : c ≤ 57
  · exact Nat.lt_of_le_of_lt z (by decide)
  · exact absurd hc (numT_free (by omega) n)
theorem text_small {rows : List Gk.Row} {ks : List Str} {nm : Str → List Str} (g : RowsT rows) (k : KsOk (rows.map (·.name)) ks nm) : ∀ c ∈ (textM rows ks nm).cps.toList, SmallC c := by
  refine joinT_all (show ∀ c ∈ ("\n" : Str).cps.toList, c < 16 ^ 8 by decide +kernel) fun l hl => ?_
  rw [linesM_words] at hl
  obtain ⟨ws, hw, rfl⟩ := List.mem_map.mp hl
  refine joinT_all (show ∀ c ∈ (" " : Str).cps.toList, c < 16 ^ 8 by decide +kernel) fun w hww => ?_
  rcases List.mem_append.mp hw with h | h
  · obtain ⟨r, hr, rfl⟩ := List.mem_map.mp h
    rcases List.mem_cons.mp hww with rfl | hww
    · exact (show ∀ c ∈ ("member" : Str).cps.toList, c < 16 ^ 8 by decide +kernel)
    rcases List.mem_cons.mp hww with rfl | hww
    · exact nm_small (g.row hr).1
    rcases List.mem_cons.mp hww with rfl | hww
    · exact num_small _
    · exact nm_small ((g.row hr).2 w hww)
  · obtain ⟨s, hs, rfl⟩ := List.mem_map.mp h
    rcases List.mem_cons.mp hww with rfl | hww
    · exact (show ∀ c ∈ ("set" : Str).cps.toList, c < 16 ^ 8 by decide +kernel)
    rcases List.mem_cons.mp hww with rfl | hww
    · exact nm_small (k.nk w hs)
    · obtain ⟨r, hr, rfl⟩ := List.mem_map.mp ((k.sub hs).subset hww)
      exact nm_small (g.row hr).1
theorem shown_two {t : Str} (h : t.length ≤ 10000) (hc : ∀ c ∈ t.cps.toList, SmallC c) : (listText (PyData.shownAll ([t, t].map .str))).length ≤ sizeLine := by
  have e := sizeLine_eq
  have r := PySem.StrLaws.reprText_len t hc
  refine Nat.le_trans (listText_len_le _) ?_
  simp only [List.map_cons, List.map_nil, PyData.shownAll_cons, PyData.shownAll_nil, PyData.shown_str, List.sum_cons, List.sum_nil, List.length_cons, List.length_nil]
  omega
end Pu
/-! ### k80: _law_edition over trees -/
namespace Pu
open PySem PySem.W PySem.Spec PyProof.Rows L2 Gk Tx
section
variable {P : Program} {w : World} {K : Frag} {mg : Str → Option Value} {base : Heap} {CE CM CG : Addr}
def FEdP : List D8 → PQ Ob8 → Prop := fun ds Q => ∃ rows sets g, ds = [planQ rows sets g] ∧ GoodT rows sets ∧
  ∀ rows', Paired SortedRow (rows.map PR.row) rows' → Q .cl (.ob (.ed rows' (groupsOf (rows.map (·.name)) (setsN sets (seenIn rows)))))
theorem FEdP_len {ds : List D8} {Q : PQ Ob8} (h : FEdP ds Q) : ds.length = 1 := by obtain ⟨_, _, _, rfl, _⟩ := h; rfl
theorem setsN_snoc {l : List Str} {s : Str} {nm : Str → List Str} : setsN (l ++ [s]) nm = setsN l nm ++ [(s, nm s)] := by unfold setsN; rw [List.map_append]; rfl
theorem setsN_put {l : List Str} {s : Str} {nm : Str → List Str} (h : s ∉ l) : putD ((setsN l nm).map (setD (Ob := Ob8))) (.inr s) (.lst (strsD (nm s))) = (setsN (l ++ [s]) nm).map setD := by
  rw [setsN_snoc, List.map_append, putD_new]
  · rfl
  · unfold setsN
    rw [List.map_map, List.map_map]
    intro z
    obtain ⟨x, hx, e⟩ := List.mem_map.mp z
    exact h (Sum.inr.inj e ▸ hx)
theorem nodup_take {l : List Str} (nd : l.Nodup) {i : Nat} {s : Str} (h : l[i]? = some s) : s ∉ l.take i := fun z => by
  have e : l.take (i + 1) = l.take i ++ [s] := by rw [List.take_add_one, h]; rfl
  have := (List.take_sublist (i + 1) l).nodup nd
  rw [e] at this
  exact (List.nodup_append.mp this).2.2 s z s List.mem_cons_self rfl
abbrev sP_pedit : Stmt := (top 45)
abbrev nP_pedit : List Str := ["plan", "groups", "name", "row"]
theorem scP_pedit : FnScope nP_pedit ["plan"] (defScope sP_pedit) := ⟨rfl, rfl, rfl, by decide +kernel, rfl, by decide +kernel, by decide +kernel⟩
theorem okP_pedit {f : Addr} {fd : FuncData} (Fu : Fun K "_law_edition" "_law_edition" sP_pedit f fd) (B : Blt mg) (Bs : mg "str" = none) (O : Own8 P w K mg base CE CM CG)   : FnOk P w K mg base CX0 6 f fd ["plan"] (PFn (W8 K CE CM CG) noZ FEdP) := by
  obtain ⟨TE, TM, TG, ZE, ⟨fGe, dGe, GGe, bGe, hGe, iGe, jGe⟩, ⟨pNm, fNm, dNm, GNm, bNm, hNm⟩, ⟨pSt, fSt, dSt, GSt, bSt, hSt⟩, ⟨fGr, dGr, GGr, bGr, mGr⟩, ⟨pGn, fGn, dGn, GGn, bGn, hGn⟩, ⟨fEq, dEq, GEq, bEq, hEq, iEq⟩, ⟨fMk, dMk, MMk, GMk, bMk, gMk⟩⟩ := O
  refine pfn_ok Fu scP_pedit (fun ds Qp h => ?_) (fun cdv A outer s H Q E hr => ?_)
  · exact FEdP_len h
  · have nd := scP_pedit.nd
    have hu := hu_of hr
    have hu64 : (A.deeper (envOfC "_law_edition" (defScope sP_pedit) s.heap.objs.size f cdv)).units + 64 < cLine := by have := hr.un; omega
    refine ⟨_, (pss_cons (ps_set (i := 1) nd rfl (Or.inl rfl) pe_dnewK) (pss_cons (ps_for PassesOwn.never rfl (pi_list (pe_ix ix_list (pv 0) pe_int (fun _ _ => rfl))) (pg_name (i := 2) nd rfl (Or.inr rfl)) (pss_one (ps_asg (by exact (pe_lc (own := [("row", 3)]) (te := (tOp (rIxL K) (tVar 3) (tC (.int 0)))) (g := (gName 3)) (tt := (tTest (tOp (rIn K false) (tVar 2) (tOp (rIxL K) (tVar 3) (tC (.int 3)))))) rfl nd (pi_list (pe_ix ix_list (pv 0) pe_int (fun _ _ => rfl))) (blkOk_by (N := nP_pedit) (sc := defScope sP_pedit) (by decide +kernel)) (fun _ _ _ _ _ => (pg_name (i := 3) nd rfl (Or.inl rfl))) (fun _ _ _ _ _ => by exact (pts_one (pt_cmpR op_in_seq (pv 2) (pe_ix ix_list (pv 3) pe_int (fun _ _ => rfl)) (by rfl)))) (fun _ _ _ _ _ => by exact (pe_ix ix_list (pv 3) pe_int (fun _ _ => rfl))))) (by exact (pg_sub (pv 1) (pv 2) (L2.set_dict hu)))))) (pss_one (ps_ret (pe_make MMk GMk (hr.mono (by decide)) (by rfl) gMk bMk .nil pass0 (pa_cons (pe_lc (own := [("row", 3)]) (te := (tTup (tCons (tOp (rIxL K) (tVar 3) (tC (.int 0))) (tCons (tCB (rTupleP K) (tCons (tOp (rIxL K) (tVar 3) (tC (.int 1))) tNil)) (tCons (tOp (rIxL K) (tVar 3) (tC (.int 2))) tNil))))) (g := (gName 3)) (tt := tYes) rfl nd (pi_list (pe_ix ix_list (pv 0) pe_int (fun _ _ => rfl))) (blkOk_by (N := nP_pedit) (sc := defScope sP_pedit) (by decide +kernel)) (fun _ _ _ _ _ => (pg_name (i := 3) nd rfl (Or.inl rfl))) (fun _ _ _ _ _ => pts_nil) (fun _ _ _ _ _ => by exact (pe_tup (pa_cons (pe_ix ix_list (pv 3) pe_int (fun _ _ => rfl)) (pa_cons (pe_callTy call_tuple_of (by rfl) B.tuple bt_tuple (pa_cons (pe_ix ix_list (pv 3) pe_int (fun _ _ => rfl)) pa_nil)) (pa_cons (pe_ix ix_list (pv 3) pe_int (fun _ _ => rfl)) pa_nil)))))) (pa_cons (pv 1) pa_nil))))))), fun z hz => ⟨_, (snd_seq (snd_asg (m := true) snd_dnew) (snd_seq (snd_for (snd_piL (snd_op snd_var snd_cint snd_rIxL)) snd_gNS (snd_putD (i := 1) (snd_lc (vs := [3]) (js := [3]) (snd_piL (snd_op snd_var snd_cint snd_rIxL)) snd_gN (by decide) (snd_test (snd_op snd_var (snd_op snd_var snd_cint snd_rIxL) snd_rIn)) (snd_op snd_var snd_cint snd_rIxL)) snd_var)) (snd_share 1 (snd_ret (snd_mkEd hz (snd_cons (snd_lc (vs := [3]) (js := [3]) (snd_piL (snd_op snd_var snd_cint snd_rIxL)) snd_gN (by decide) snd_yes (snd_tup (snd_cons (snd_op snd_var snd_cint snd_rIxL) (snd_cons (snd_cb snd_tuple (snd_cons (snd_op snd_var snd_cint snd_rIxL) snd_nil)) (snd_cons (snd_op snd_var snd_cint snd_rIxL) snd_nil))))) (snd_cons snd_var snd_nil))))))), fun ds Qp h => ?_⟩⟩
    obtain ⟨rows, sets, g, rfl, hg, hq⟩ := h
    unfold planQ
    have hl16 := hg.hi
    have hl3 := hg.sl
    walk_at "pu"
    obtain ⟨J, hJ⟩ : ∃ J : Nat → PEnv Ob8 → Prop, ∀ i env, J i env ↔ ∃ (x2 x3 : PV Ob8), env = [.sh (.lst (.lst (rows.map rowP) :: .lst (strsD sets) :: g)), .ownD ((setsN (sets.take i) (seenIn rows)).map setD), x2, x3] := ⟨_, fun _ _ => Iff.rfl⟩
    refine for_in (strsD sets) J (fun Q q => by walk_at "pu"; exact q) ((hJ _ _).mpr ⟨_, _, rfl⟩) ?_ ?_
    · intro i d env' hd hi
      obtain ⟨x2, x3, rfl⟩ := (hJ _ _).mp hi
      obtain ⟨s, hs, rfl⟩ := map_get hd
      walk_at "pu"
      refine ⟨by unfold setsN; rw [List.length_map, List.length_map, List.length_take]; omega, ?_⟩
      refine lc_inv (rows.map rowP) (fun i acc => acc = strsD (seenIn (rows.take i) s)) (fun Q q => by walk_at "pu"; exact q _) (by rw [List.length_map]; omega) rfl ?_ ?_
      · rintro k d _ hk rfl
        obtain ⟨r, hr, rfl⟩ := map_get hk
        rw [seenIn_take hr]
        walk_at "pu"
        refine ⟨_, flatsS _, ?_⟩
        rw [inV_decS]
        by_cases z : s ∈ r.see
        · rw [if_pos z, if_pos (decide_eq_true z), strsD_app]
          rfl
        · rw [if_neg z, if_neg (by rw [decide_eq_false z]; exact Bool.false_ne_true), List.append_nil]
      · rintro _ rfl _
        rw [List.length_map, List.take_length]
        refine ⟨by decide, ?_⟩
        rw [setsN_put (nodup_take hg.sn hs)]
        generalize PV.sh (Dt.str s) = y2
        refine (hJ _ _).mpr ⟨y2, x3, ?_⟩
        rw [List.take_add_one, hs]
        rfl
    · intro env' hi
      obtain ⟨x2, x3, rfl⟩ := (hJ _ _).mp hi
      rw [strsD_len, List.take_length]
      walk_at "pu"
      refine go ?_
      refine ⟨_, rfl, ?_⟩
      walk_at "pu"
      unfold pMkEd
      walk_at "pu"
      refine lc_inv (rows.map rowP) (fun i acc => acc = (rows.take i).map fun r => rowD r.row) (fun Q q => by walk_at "pu"; exact q _) (by rw [List.length_map]; omega) rfl ?_ ?_
      · rintro k d _ hk rfl
        obtain ⟨r, hr, rfl⟩ := map_get hk
        walk_at "pu"
        rw [List.take_add_one, hr, List.map_append]
        rfl
      · rintro _ rfl _
        rw [List.length_map, List.take_length]
        walk_at "pu"
        refine ⟨rows.map PR.row, setsN sets (seenIn rows), rfl, by rw [List.map_map]; rfl, ?_, fun rows' ps => ?_⟩
        · refine gd8_of hg.rows ?_
          rw [names_row]
          exact hg.ks (.inr (List.Perm.refl _))
        · rw [names_row]
          exact hq rows' ps
end
end Pu
/-! ### k80: edition_text over trees -/
namespace Pu
open PySem PySem.W PySem.Spec PyProof.Rows L2 Gk Tx
section
variable {P : Program} {w : World} {K : Frag} {mg : Str → Option Value} {base : Heap} {CE CM CG : Addr}
def FTextP : List D8 → PQ Ob8 → Prop := fun ds Q => ∃ (rows : List Gk.Row) (ks : List Str) (nm : Str → List Str), ds = [.ob (.ed rows (groupsOf (rows.map (·.name)) (setsN ks nm)))] ∧ RowsT rows ∧ KsOk (rows.map (·.name)) ks nm ∧
  ∀ ys : List Str, ys.Perm ks → sortedS ys = true → Q .cl (.str (textM rows ys nm))
theorem FTextP_len {ds : List D8} {Q : PQ Ob8} (h : FTextP ds Q) : ds.length = 1 := by obtain ⟨_, _, _, rfl, _⟩ := h; rfl
def pLcB (pg : PTG Ob8) (pt : PTT Ob8) (pe : PTE Ob8) (vs : List Nat) (env : PEnv Ob8) (Q : PQ Ob8) (ds : List D8) : Prop := ds.length ≤ 1000 ∧ ∃ I : Nat → List D8 → Prop, I 0 [] ∧
  (∀ i d acc, ds[i]? = some d → I i acc → pg d (pwipe env vs) fun env2 => pt env2 fun b => if b = true then pe env2 fun f x => f ≠ .raw ∧ I (i + 1) (acc ++ [x]) else I (i + 1) acc) ∧ ∀ acc, I ds.length acc → acc.length ≤ ds.length → Q .fr (.lst acc)
theorem lc_open {pi : PTI Ob8} {pg : PTG Ob8} {pt : PTT Ob8} {pe : PTE Ob8} {vs : List Nat} {env : PEnv Ob8} {Q : PQ Ob8} (h : pi env fun _ ds => pLcB pg pt pe vs env Q ds) : pLc pi pg pt pe vs env Q := h
theorem lc_at {pg : PTG Ob8} {pt : PTT Ob8} {pe : PTE Ob8} {vs : List Nat} {env : PEnv Ob8} {Q : PQ Ob8} {ds : List D8} (I : Nat → List D8 → Prop) (h1 : ds.length ≤ 1000) (h0 : I 0 [])
    (hb : ∀ (i : Nat) (d : D8) (acc : List D8), ds[i]? = some d → I i acc → pg d (pwipe env vs) fun env2 => pt env2 fun b => if b = true then pe env2 fun fl x => fl ≠ .raw ∧ I (i + 1) (acc ++ [x]) else I (i + 1) acc)
    (q : ∀ acc, I ds.length acc → acc.length ≤ ds.length → Q .fr (.lst acc)) : pLcB pg pt pe vs env Q ds := ⟨h1, I, h0, hb, q⟩
theorem edD_cl {rows : List Gk.Row} {gs : List (Str × List Int)} : ObC (W8 K CE CM CG) CE (.ob (.ed rows gs)) := ⟨_, rfl, "group", ins_ed8 (by decide +kernel) _ trivial⟩
theorem okArgs_cl : ∀ l : List D8, okArgs (l.map fun z => (Fl.cl, z))
  | [] => trivial
  | _ :: l => ⟨fun h => Fl.noConfusion h, okArgs_cl l⟩
theorem snd_cl (l : List D8) : List.map (fun x : Fl × D8 => x.snd) (l.map fun z => (Fl.cl, z)) = l := by rw [List.map_map]; exact List.map_id _
abbrev sP_etext : Stmt := (top 28)
abbrev nP_etext : List Str := ["edition", "members", "name", "lines", "member", "words"]
theorem scP_etext : FnScope nP_etext ["edition"] (defScope sP_etext) := ⟨rfl, rfl, rfl, by decide +kernel, rfl, by decide +kernel, by decide +kernel⟩
theorem okP_etext {f : Addr} {fd : FuncData} (Fu : Fun K "edition_text" "edition_text" sP_etext f fd) (B : Blt mg) (Bs : mg "str" = none) (O : Own8 P w K mg base CE CM CG)   : FnOk P w K mg base CX0 6 f fd ["edition"] (PFn (W8 K CE CM CG) noZ FTextP) := by
  obtain ⟨TE, TM, TG, ZE, ⟨fGe, dGe, GGe, bGe, hGe, iGe, jGe⟩, ⟨pNm, fNm, dNm, GNm, bNm, hNm⟩, ⟨pSt, fSt, dSt, GSt, bSt, hSt⟩, ⟨fGr, dGr, GGr, bGr, mGr⟩, ⟨pGn, fGn, dGn, GGn, bGn, hGn⟩, ⟨fEq, dEq, GEq, bEq, hEq, iEq⟩, ⟨fMk, dMk, MMk, GMk, bMk, gMk⟩⟩ := O
  refine pfn_ok Fu scP_etext (fun ds Qp h => ?_) (fun cdv A outer s H Q E hr => ?_)
  · exact FTextP_len h
  · have nd := scP_etext.nd
    have hu := hu_of hr
    have hu64 : (A.deeper (envOfC "edition_text" (defScope sP_etext) s.heap.objs.size f cdv)).units + 64 < cLine := by have := hr.un; omega
    refine ⟨_, (pss_cons (ps_setLc (i := 1) (own := [("name", 2)]) (te := (tOp (rSubI CE (PFn (W8 K CE CM CG) noZ FGet8) E0) (tVar 0) (tVar 2))) (g := (gName 2)) (tt := tYes) rfl nd rfl rfl (sw_true rfl rfl rfl (by decide +kernel)) (pi_list (pe_prop (E := E0) (pv 0) TE.cl hNm GNm (hr.mono (by decide)) bNm .nil pass0 rfl)) (blkOk_by (N := nP_etext) (sc := defScope sP_etext) (by decide +kernel)) (fun _ _ _ _ _ => (pg_name (i := 2) nd rfl (Or.inl rfl))) (fun _ _ _ _ _ => pts_nil) (fun _ _ _ _ _ => by exact (pe_subI (E := E0) GGe (hr.mono (by decide)) hGe iGe jGe bGe pass0 (pv 0) (pv 2) (fun _ _ => rfl)))) (pss_cons (ps_setLc (i := 3) (own := [("member", 4)]) (te := (tLst (tCons (tC (.str "member")) (tCons (tFld K (tVar 4) "name") (tCons (tCB (fun xs H Q => ∃ i : Int, xs = [.int i] ∧ i.natAbs.log2 < 1920 ∧ Q (.str (toString i)) H) (tCons (tFld K (tVar 4) "number") tNil)) (StX.tStar K (tFld K (tVar 4) "aliases") tNil)))))) (g := (gName 4)) (tt := tYes) rfl nd rfl rfl (sw_true rfl rfl rfl (by decide +kernel)) (pi_list (pv 1)) (blkOk_by (N := nP_etext) (sc := defScope sP_etext) (by decide +kernel)) (fun _ _ _ _ _ => (pg_name (i := 4) nd rfl (Or.inl rfl))) (fun _ _ _ _ _ => pts_nil) (fun _ _ _ _ _ => by exact (pe_lst (pa_cons pe_str (pa_cons (pe_fld (by exact (pv 4)) (by rfl)) (pa_cons (pe_callTy call_str_int (by rfl) Bs bt_str (pa_cons (pe_fld (by exact (pv 4)) (by rfl)) pa_nil)) (StX.pa_star (pe_fld (by exact (pv 4)) (by rfl)) pa_nil))))))) (pss_cons (ps_expr (by exact (pe_bm PySem.F.plainAttrs_list PySem.F.slot_list_extend PySem.F.type_list_extend mt_extend (pv 3) (pa_cons (pe_lc (own := [("name", 2)]) (te := (tLst (tCons (tC (.str "set")) (tCons (tVar 2) (StX.tStar K (tProp CG (PFn (W8 K CE CM CG) noZ FGNames8) [] E0 (tMeth CE "group" (PFn (W8 K CE CM CG) noZ FGrp8) [] E0 (tVar 0) (tCons (tVar 2) tNil))) tNil))))) (g := (gName 2)) (tt := tYes) rfl nd (pi_list (pe_prop (E := E0) (pv 0) TE.cl hSt GSt (hr.mono (by decide)) bSt .nil pass0 rfl)) (blkOk_by (N := nP_etext) (sc := defScope sP_etext) (by decide +kernel)) (fun _ _ _ _ _ => (pg_name (i := 2) nd rfl (Or.inl rfl))) (fun _ _ _ _ _ => pts_nil) (fun _ _ _ _ _ => by exact (pe_lst (pa_cons pe_str (pa_cons (pv 2) (StX.pa_star (pe_prop (E := E0) (pe_meth (E := E0) (pv 0) TE.cl mGr GGr (hr.mono (by decide)) bGr .nil pass0 (pa_cons (pv 2) pa_nil)) TG.cl hGn GGn (hr.mono (by decide)) bGn .nil pass0 rfl) pa_nil)))))) pa_nil)))) (pss_one (ps_ret (pe_join pe_str (pe_lc (own := [("words", 5)]) (te := (tM1 (rJoin K) (tC (.str " ")) (tVar 5))) (g := (gName 5)) (tt := tYes) rfl nd (pi_list (pv 3)) (blkOk_by (N := nP_etext) (sc := defScope sP_etext) (by decide +kernel)) (fun _ _ _ _ _ => (pg_name (i := 5) nd rfl (Or.inl rfl))) (fun _ _ _ _ _ => pts_nil) (fun _ _ _ _ _ => by exact (pe_join pe_str (pv 5)))))))))), fun z hz => ⟨_, (snd_seq (snd_asg (m := false) (snd_lc (vs := [2]) (js := [2]) (snd_piL (snd_prop (dds := []) hz (by rfl) (ins_ed8 (m := "names") (by decide +kernel)) snd_var)) snd_gN (by decide) snd_yes (snd_op snd_var snd_var (snd_rSubI hz)))) (snd_seq (snd_asg (m := true) (snd_lc (vs := [4]) (js := [4]) (snd_piL snd_var) snd_gN (by decide) snd_yes (snd_lst (snd_cons snd_cstr (snd_cons (snd_fld hz (fld_name8 TM) snd_var) (snd_cons (snd_cb snd_strI (snd_cons (snd_fld hz (fld_num8 TM) snd_var) snd_nil)) (snd_star (snd_fld hz (fld_al8 TM) snd_var) snd_nil))))))) (snd_seq (snd_ext (i := 3) (snd_lc (vs := [2]) (js := [2]) (snd_piL (snd_prop (dds := []) hz (by rfl) (ins_ed8 (m := "names") (by decide +kernel)) snd_var)) snd_gN (by decide) snd_yes (snd_lst (snd_cons snd_cstr (snd_cons snd_var (snd_star (snd_prop (dds := []) hz (by rfl) (ins_gr8 (m := "names") (by decide +kernel)) (snd_meth (dds := []) hz (by rfl) (ins_ed8 (m := "group") (by decide +kernel)) snd_var (snd_cons snd_var snd_nil))) snd_nil)))))) (snd_ret (snd_join snd_cstr (snd_lc (vs := [5]) (js := [5]) (snd_piL snd_var) snd_gN (by decide) snd_yes (snd_join snd_cstr snd_var))))))), fun ds Qp h => ?_⟩⟩
    obtain ⟨rows, ks, nm, rfl, hg, hk, hq⟩ := h
    have hl16 := hg.hi
    have hl3 := hk.l3
    have hsf := names_pl rows
    obtain ⟨gs, hgs⟩ : ∃ gs, gs = groupsOf (rows.map (·.name)) (setsN ks nm) := ⟨_, rfl⟩
    rw [← hgs]
    walk_at "pu"
    refine lc_inv (strsD (rows.map (·.name))) (fun i acc => acc.length = i ∧ ∀ j r, j < i → rows[j]? = some r → acc[j]? = some (.ob (.mem rows gs j r))) (fun Q q => ⟨_, rfl, trivial, rows, gs, rfl, fun _ => ⟨_, rfl, q _⟩⟩) (by rw [strsD_len, List.length_map]; omega) ⟨rfl, fun _ _ h => absurd h (Nat.not_lt_zero _)⟩ ?_ ?_
    · rintro i d acc hd ⟨hl, ha⟩
      obtain ⟨s, hs, rfl⟩ := map_get hd
      obtain ⟨r, hr, rfl⟩ := map_get hs
      walk_at "pu"
      refine ⟨edD_cl, clean_str, rows, gs, r.name, i, r, rfl, hr, List.mem_cons_self, by decide, ?_, fun j r' hj hr' => ?_⟩
      · rw [List.length_append, hl]; rfl
      · by_cases e : j < i
        · rw [List.getElem?_append_left (by omega)]
          exact ha j r' e hr'
        · obtain rfl : j = i := by omega
          rw [List.getElem?_append_right (by omega), hl, Nat.sub_self]
          rw [hr] at hr'
          obtain rfl := Option.some.inj hr'
          rfl
    · rintro mems ⟨hml, hm⟩ _
      rw [strsD_len, List.length_map] at hml hm
      walk_at "pu"
      refine go ?_
      walk_at "pu"
      refine lc_inv mems (fun i acc => acc = (rows.take i).map fun r => .lst (strsD (wordsR r))) (fun Q q => by walk_at "pu"; exact q _) (by omega) rfl ?_ ?_
      · rintro i d _ hd rfl
        have hi : i < rows.length := by
          have := (List.getElem?_eq_some_iff.mp hd).1
          omega
        have hr : rows[i]? = some rows[i] := List.getElem?_eq_getElem hi
        rw [hm i _ hi hr] at hd
        obtain rfl := Option.some.inj hd
        rw [List.take_add_one, hr, List.map_append]
        walk_at "pu"
        refine ⟨_, _, rfl, rfl, _, _, rfl, rfl, _, rfl, log_ok (hg.nk _ (List.getElem_mem hi)), _, _, rfl, rfl, strsD rows[i].al, rfl, ?_⟩
        have fw := hg.few _ (List.getElem_mem hi)
        walk_at "pu"
        refine ⟨okArgs_cl _, by rw [List.length_map, strsD_len]; omega, ?_⟩
        rw [snd_cl]
        rfl
      · rintro _ rfl _
        rw [hml, List.take_length]
        walk_at "pu"
        refine go ?_
        walk_at "pu"
        refine ⟨_, rfl, lc_open ?_⟩
        refine ⟨_, rfl, trivial, rows, gs, rfl, fun ys py sy => ⟨strsD ys, rfl, ?_⟩⟩
        have ek : gs.map (·.1) = ks := by
          rw [hgs, groups_keys]
          unfold setsN
          rw [List.map_map]
          exact List.map_id _
        rw [ek] at py
        have hy := hk.perm py
        have yl := py.length_eq
        have wok := wordsM_ok hg hy
        refine lc_at (fun i acc => acc = (ys.take i).map fun s => .lst (strsD (("set" : Str) :: s :: nm s))) (by rw [strsD_len]; omega) rfl ?_ ?_
        · rintro i d _ hd rfl
          obtain ⟨s, hs, rfl⟩ := map_get hd
          have hsk : s ∈ ks := py.mem_iff.mp (List.mem_of_getElem? hs)
          have nl := (hk.sub hsk).length_le
          rw [List.length_map] at nl
          rw [List.take_add_one, hs, List.map_append]
          walk_at "pu"
          unfold pStar pProp pMeth
          walk_at "pu"
          have zm : (s, plTo (rows.map (·.name)) (nm s) (rows.map (·.name)).length) ∈ gs := by
            rw [hgs]
            unfold groupsOf setsN
            rw [List.map_map]
            exact List.mem_map.mpr ⟨s, hsk, rfl⟩
          have nn : namesAt rows (plTo (rows.map (·.name)) (nm s) (rows.map (·.name)).length) = nm s := by
            have e := hsf (nm s) rows.length (Nat.le_refl _)
            rw [List.length_map, e, List.take_of_length_le (by rw [List.length_map]; exact Nat.le_refl _)]
            exact hk.fl s hsk
          refine ⟨_, rfl, trivial, rows, gs, _, rfl, zm, _, rfl, trivial, rows, gs, _, rfl, strsD (nm s), by rw [nn]; rfl, okArgs_cl _, by rw [List.length_map, strsD_len]; omega, ?_⟩
          rw [snd_cl]
          rfl
        · rintro _ rfl _
          rw [strsD_len, List.take_length]
          refine ⟨by decide, _, rfl, by rw [List.length_map, List.length_map]; omega, ?_⟩
          walk_at "pu"
          refine go ?_
          walk_at "pu"
          have eW : (rows.map fun r => (Dt.lst (strsD (wordsR r)) : D8)) ++ (ys.map fun s => .lst (strsD (("set" : Str) :: s :: nm s))) = (wordsM rows ys nm).map fun ws => .lst (strsD ws) := by
            unfold wordsM
            rw [List.map_append, List.map_map, List.map_map]
            rfl
          rw [eW]
          have lW : (wordsM rows ys nm).length ≤ 19 := by
            unfold wordsM
            rw [List.length_append, List.length_map, List.length_map]
            omega
          refine ⟨_, rfl, ?_⟩
          refine lc_inv ((wordsM rows ys nm).map fun ws => .lst (strsD ws)) (fun i acc => acc = strsD (((wordsM rows ys nm).take i).map (Txt.join (" " : Str)))) (fun Q q => by walk_at "pu"; exact q _) (by rw [List.length_map]; omega) rfl ?_ ?_
          · rintro i d _ hd rfl
            obtain ⟨ws, hw, rfl⟩ := map_get hd
            walk_at "pu"
            refine ⟨_, rfl, ws, rfl, (line_ok (wok ws (List.mem_of_getElem? hw))).1, by decide, ?_⟩
            rw [List.take_add_one, hw, List.map_append, strsD_app]
            rfl
          · rintro _ rfl _
            rw [List.length_map, List.take_length, ← linesM_words]
            refine ⟨linesM rows ys nm, rfl, ?_, hq ys py sy⟩
            refine join_ok (c := 300) (by decide) (fun w hw => ?_) (by decide) (by rw [linesM_words, List.length_map]; omega)
            rw [linesM_words] at hw
            obtain ⟨ws, hw2, rfl⟩ := List.mem_map.mp hw
            exact (line_ok (wok ws hw2)).2.1
end
end Pu
/-! ### k80: _number_of over trees -/
namespace Pu
open PySem PySem.W PySem.Spec PyProof.Rows L2 Gk Tx
section
variable {P : Program} {w : World} {K : Frag} {mg : Str → Option Value} {base : Heap} {CE CM CG : Addr}
def FNumP : List D8 → PQ Ob8 → Prop := fun ds Q => ∃ n : Int, ds = [.str (numT n)] ∧ (-(10 ^ 9 : Int) ≤ n ∧ n ≤ 10 ^ 9) ∧ Q .cl (.int n)
theorem FNumP_len {ds : List D8} {Q : PQ Ob8} (h : FNumP ds Q) : ds.length = 1 := by obtain ⟨_, rfl, _⟩ := h; rfl
theorem numT_len10 {m : Nat} (h : m ≤ 10 ^ 9) : (numT (m : Int)).length ≤ 10 := PySem.W.KT.len_num (by omega) (by omega)
abbrev sP_numof : Stmt := (top 31)
abbrev nP_numof : List Str := ["word", "digits"]
theorem scP_numof : FnScope nP_numof ["word"] (defScope sP_numof) := ⟨rfl, rfl, rfl, by decide +kernel, rfl, by decide +kernel, by decide +kernel⟩
theorem okP_numof {f : Addr} {fd : FuncData} (Fu : Fun K "_number_of" "_number_of" sP_numof f fd) (B : Blt mg) (Bs : mg "str" = none) (O : Own8 P w K mg base CE CM CG) {tD : Tok} (gD : mg "MOST_DIGITS" = some (.int 10 tD))   : FnOk P w K mg base CX0 1 f fd ["word"] (PFn (W8 K CE CM CG) noZ FNumP) := by
  obtain ⟨TE, TM, TG, ZE, ⟨fGe, dGe, GGe, bGe, hGe, iGe, jGe⟩, ⟨pNm, fNm, dNm, GNm, bNm, hNm⟩, ⟨pSt, fSt, dSt, GSt, bSt, hSt⟩, ⟨fGr, dGr, GGr, bGr, mGr⟩, ⟨pGn, fGn, dGn, GGn, bGn, hGn⟩, ⟨fEq, dEq, GEq, bEq, hEq, iEq⟩, ⟨fMk, dMk, MMk, GMk, bMk, gMk⟩⟩ := O
  refine pfn_ok Fu scP_numof (fun ds Qp h => ?_) (fun cdv A outer s H Q E hr => ?_)
  · exact FNumP_len h
  · have nd := scP_numof.nd
    have hu := hu_of hr
    have hu64 : (A.deeper (envOfC "_number_of" (defScope sP_numof) s.heap.objs.size f cdv)).units + 64 < cLine := by have := hr.un; omega
    refine ⟨_, (pss_cons (ps_set (i := 1) nd rfl (Or.inl rfl) (pe_ifExp (pt_val (pe_m1 F.slot_str_startswith F.type_str_startswith mt_startswith (pv 0) pe_str)) (pe_slice sl_str (pv 0) (po_some pe_int) po_none) (pv 0))) (pss_cons (ps_if (PW.pt (pw_or (pt_not (pt_val (pe_m0 F.slot_str_isdecimal F.type_str_isdecimal mt_isdecimal (pv 1)))) (pw_or1 (pt_cmpR op_gt (pe_callB call_len_str (by rfl) B.len PySem.boot_len (pa_cons (pv 1) pa_nil)) (pe_glob (v := .int 10) (by rfl) gD ⟨_, rfl⟩) (nomark _))))) (pss_one (ps_ret pe_non)) pss_nil) (pss_one (ps_ret (pe_callTy call_int_str (by rfl) B.int bt_int (pa_cons (pv 0) pa_nil)))))), fun z hz => ⟨_, (snd_seq (snd_asg (m := false) (snd_if (snd_tB (snd_starts snd_var snd_cstr)) (snd_slS snd_var (snd_part snd_cint) snd_noPart) snd_var)) (snd_seq (snd_ifS (snd_or (snd_not (snd_tB (snd_isDec snd_var))) (snd_test (snd_op (snd_cb snd_lenS (snd_cons snd_var snd_nil)) snd_cint snd_rB))) (snd_ret snd_cnon) snd_next) (snd_ret (snd_cb snd_intS (snd_cons snd_var snd_nil))))), fun ds Qp h => ?_⟩⟩
    obtain ⟨n, rfl, hn, hq⟩ := h
    walk_at "pu"
    generalize hN : (hold _ : PEnv Ob8 → Prop) = N
    have fin : ∀ m : Nat, m ≤ 10 ^ 9 → N [.sh (.str (numT n)), .sh (.str (numT (m : Int)))] := by
      intro m hm
      subst hN
      have l10 := numT_len10 hm
      refine go ?_
      walk_at "pu"
      refine ⟨_, rfl, ?_⟩
      rw [numT_dec]
      walk_at "pu"
      refine ⟨_, rfl, by omega, ?_⟩
      walk_at "pu"
      rw [if_neg (by rw [decide_eq_false (by omega)]; exact Bool.false_ne_true)]
      refine go ?_
      walk_at "pu"
      exact ⟨_, n, rfl, numT_reads hn, Nat.le_trans (numT_len hn) (by decide), hq⟩
    refine ⟨_, rfl, _, rfl, _, rfl, ?_⟩
    have es : Txt.startswith (numT n) ("-" : Str) = decide (n < 0) := numT_starts
    rw [es]
    by_cases h0 : n < 0
    · rw [if_pos (decide_eq_true h0)]
      obtain ⟨m, e⟩ := Int.eq_ofNat_of_zero_le (a := -n) (by omega)
      have ec := numT_cut h0
      rw [e] at ec
      refine ⟨_, rfl, _, rfl, by have := numT_len hn; omega, ?_⟩
      rw [ec]
      exact ⟨_, rfl, fin m (by omega)⟩
    · rw [if_neg (by rw [decide_eq_false h0]; exact Bool.false_ne_true)]
      obtain ⟨m, rfl⟩ := Int.eq_ofNat_of_zero_le (a := n) (by omega)
      exact fin m (by omega)
end
end Pu
/-! ### k80: _edition_in over trees -/
namespace Pu
open PySem PySem.W PySem.Spec PyProof.Rows L2 Gk Tx
section
variable {P : Program} {w : World} {K : Frag} {mg : Str → Option Value} {base : Heap} {CE CM CG : Addr}
def FInP : List D8 → PQ Ob8 → Prop := fun ds Q => ∃ (rows : List Gk.Row) (ks : List Str) (nm : Str → List Str), ds = [.lst (strsD (linesM rows ks nm))] ∧ RowsT rows ∧ (∀ r ∈ rows, sortedS r.al = true) ∧ KsOk (rows.map (·.name)) ks nm ∧ sortedS ks = true ∧
  Q .cl (.ob (.ed rows (groupsOf (rows.map (·.name)) (setsN ks nm))))
theorem FInP_len {ds : List D8} {Q : PQ Ob8} (h : FInP ds Q) : ds.length = 1 := by obtain ⟨_, _, _, rfl, _⟩ := h; rfl
theorem words_split {ws : List Str} (h : (∀ w ∈ ws, w.length ≤ 11 ∧ 32 ∉ w.cps.toList ∧ 10 ∉ w.cps.toList) ∧ ws.length ≤ 22 ∧ ws ≠ []) : Txt.split (Txt.join (" " : Str) ws) (" " : Str) = ws := split_join (c := 32) h.2.2 fun p hp => (h.1 p hp).2.1
theorem set_ne_member : (decide ((V.str ("set" : Str)) = V.str ("member" : Str))) = false := by decide
abbrev sP_edin : Stmt := (top 30)
abbrev nP_edin : List Str := ["lines", "members", "groups", "line", "word", "words", "name", "digits", "aliases", "edition"]
theorem scP_edin : FnScope nP_edin ["lines"] (defScope sP_edin) := ⟨rfl, rfl, rfl, by decide +kernel, rfl, by decide +kernel, by decide +kernel⟩
theorem okP_edin {f : Addr} {fd : FuncData} (Fu : Fun K "_edition_in" "_edition_in" sP_edin f fd) (B : Blt mg) (Bs : mg "str" = none) (O : Own8 P w K mg base CE CM CG)  (cEt : Cal P w K mg base (W8 K CE CM CG) "edition_text" 6 ["edition"] [] noZ FTextP) (cNu : Cal P w K mg base (W8 K CE CM CG) "_number_of" 1 ["word"] [] noZ FNumP) : FnOk P w K mg base CX0 7 f fd ["lines"] (PFn (W8 K CE CM CG) noZ FInP) := by
  obtain ⟨fEt, dEt, eEt, GEt, bEt, vEt, gEt, kEt⟩ := cEt.ex
  obtain ⟨fNu, dNu, eNu, GNu, bNu, vNu, gNu, kNu⟩ := cNu.ex
  obtain ⟨TE, TM, TG, ZE, ⟨fGe, dGe, GGe, bGe, hGe, iGe, jGe⟩, ⟨pNm, fNm, dNm, GNm, bNm, hNm⟩, ⟨pSt, fSt, dSt, GSt, bSt, hSt⟩, ⟨fGr, dGr, GGr, bGr, mGr⟩, ⟨pGn, fGn, dGn, GGn, bGn, hGn⟩, ⟨fEq, dEq, GEq, bEq, hEq, iEq⟩, ⟨fMk, dMk, MMk, GMk, bMk, gMk⟩⟩ := O
  refine pfn_ok Fu scP_edin (fun ds Qp h => ?_) (fun cdv A outer s H Q E hr => ?_)
  · exact FInP_len h
  · have nd := scP_edin.nd
    have hu := hu_of hr
    have hu64 : (A.deeper (envOfC "_edition_in" (defScope sP_edin) s.heap.objs.size f cdv)).units + 64 < cLine := by have := hr.un; omega
    refine ⟨_, (pss_cons (ps_set (i := 1) nd rfl (Or.inl rfl) (pe_lst pa_nil)) (pss_cons (ps_set (i := 2) nd rfl (Or.inl rfl) pe_dnewK) (pss_cons (ps_for PassesOwn.never rfl (pi_list (pv 0)) (pg_name (i := 3) nd rfl (Or.inl rfl)) (pss_cons (ps_asg (by exact (pe_split (pv 3) pe_str)) (StarT.pg_star (n := 1) rfl (pgs_cons (pg_name (i := 4) nd rfl (Or.inl rfl)) (StarT.pgs_star (pg_name (i := 5) nd rfl (Or.inl rfl)))))) (pss_one (ps_if (PW.pt (pw_and (pt_cmpR op_eq (pv 4) pe_str (nomark _)) (pw_and1 (pt_cmpR op_ge (pe_callB call_len_seq (by rfl) B.len PySem.boot_len (pa_cons (pv 5) pa_nil)) pe_int (nomark _))))) (pss_cons (ps_asg (by exact (pv 5)) (StarT.pg_star (n := 2) rfl (pgs_cons (pg_name (i := 6) nd rfl (Or.inl rfl)) (pgs_cons (pg_name (i := 7) nd rfl (Or.inl rfl)) (StarT.pgs_star (pg_name (i := 8) nd rfl (Or.inl rfl))))))) (pss_one (ps_expr (by exact (pe_bm PySem.F.plainAttrs_list PySem.F.slot_list_append PySem.F.type_list_append mt_append (pv 1) (pa_cons (pe_tup (pa_cons (pv 6) (pa_cons (pe_callTy call_tuple_of (by rfl) B.tuple bt_tuple (pa_cons (pv 8) pa_nil)) (pa_cons (pe_call GNu (hr.mono (by decide)) (by rfl) gNu kNu bNu vNu pass0 (pa_cons (pv 7) pa_nil)) pa_nil)))) pa_nil)))))) (pss_one (ps_if (PW.pt (pw_and (pt_cmpR op_eq (pv 4) pe_str (nomark _)) (pw_and1 (pt_truth (pv 5) (by intro _; rfl))))) (pss_one (ps_asg (by exact (pe_slice sl_list (pv 5) (po_some pe_int) po_none)) (by exact (pg_sub (pv 2) (pe_ix ix_list (pv 5) pe_int (fun _ _ => rfl)) (L2.set_dict hu))))) (pss_one (ps_ret pe_non)))))))) (pss_cons (ps_try_thru0 (pss_one (ps_set (i := 9) nd rfl (Or.inl rfl) (pe_make MMk GMk (hr.mono (by decide)) (by rfl) gMk bMk .nil pass0 (pa_cons (pv 1) (pa_cons (pv 2) pa_nil)))))) (pss_one (ps_ret (pe_ifExp (pt_cmpR op_eq (pe_call GEt hr (by rfl) gEt kEt bEt vEt pass0 (pa_cons (pv 9) pa_nil)) (pe_join pe_str (pv 0)) (nomark _)) (pv 9) pe_non))))))), fun z hz => ⟨_, (snd_seq (snd_asg (m := true) (snd_lst snd_nil)) (snd_seq (snd_asg (m := true) snd_dnew) (snd_seq (snd_for (snd_piL snd_var) snd_gNS (snd_seq (snd_asgStar (n := 1) (snd_split snd_var snd_cstr) (snd_gConsS (snd_gNS' (i := 4)) (snd_gConsS (snd_gNS' (i := 5)) snd_gNilS))) (snd_ifS (snd_and (snd_test (snd_op snd_var snd_cstr snd_rEq)) (snd_test (snd_op (snd_cb snd_len (snd_cons snd_var snd_nil)) snd_cint snd_rB))) (snd_seq (snd_asgStar (n := 2) snd_var (snd_gConsS (snd_gNS' (i := 6)) (snd_gConsS (snd_gNS' (i := 7)) (snd_gConsS (snd_gNS' (i := 8)) snd_gNilS)))) (snd_app (i := 1) (snd_tup (snd_cons snd_var (snd_cons (snd_cb snd_tuple (snd_cons snd_var snd_nil)) (snd_cons (snd_call (dds := []) hz (by rfl) (snd_cons snd_var snd_nil)) snd_nil)))))) (snd_ifS (snd_and (snd_test (snd_op snd_var snd_cstr snd_rEq)) (snd_tru snd_var)) (snd_putD (i := 2) (snd_slL snd_var (snd_part snd_cint) snd_noPart) (snd_op snd_var snd_cint snd_rIxL)) (snd_ret snd_cnon))))) (snd_seq (snd_share 2 (snd_share 1 (snd_asg (m := false) (snd_mkEd hz (snd_cons snd_var (snd_cons snd_var snd_nil)))))) (snd_ret (snd_if (snd_test (snd_op (snd_call (dds := []) hz (by rfl) (snd_cons snd_var snd_nil)) (snd_join snd_cstr snd_var) snd_rEq)) snd_var snd_cnon)))))), fun ds Qp h => ?_⟩⟩
    obtain ⟨rows, ks, nm, rfl, hg, hs, hk, hks, hq⟩ := h
    have hl16 := hg.hi
    have hl3 := hk.l3
    have wok := wordsM_ok hg hk
    have lW : (wordsM rows ks nm).length ≤ 19 := by
      unfold wordsM
      rw [List.length_append, List.length_map, List.length_map]
      omega
    have lL : (linesM rows ks nm).length = rows.length + ks.length := by
      unfold linesM
      rw [List.length_append, List.length_map, List.length_map]
    walk_at "pu"
    refine go ?_
    walk_at "pu"
    refine go ?_
    walk_at "pu"
    generalize hN : (hold _ : PEnv Ob8 → Prop) = N
    obtain ⟨I, hI⟩ : ∃ I : Nat → PEnv Ob8 → Prop, ∀ i env, I i env ↔ ∃ (x3 x4 x5 x6 x7 x8 : PV Ob8), env = [.sh (.lst (strsD (linesM rows ks nm))), .own ((rows.take i).map rowD), .ownD ((setsN (ks.take (i - rows.length)) nm).map setD), x3, x4, x5, x6, x7, x8, .no] := ⟨_, fun _ _ => Iff.rfl⟩
    have mkI : ∀ (i : Nat) (m : List D8) (t : List (Key × D8)) (x3 x4 x5 x6 x7 x8 : PV Ob8), m = (rows.take i).map rowD → t = (setsN (ks.take (i - rows.length)) nm).map setD → I i [.sh (.lst (strsD (linesM rows ks nm))), .own m, .ownD t, x3, x4, x5, x6, x7, x8, .no] := fun i m t x3 x4 x5 x6 x7 x8 e1 e2 => (hI _ _).mpr ⟨x3, x4, x5, x6, x7, x8, by rw [e1, e2]⟩
    refine for_in (strsD (linesM rows ks nm)) I (fun Q q => by walk_at "pu"; exact q) ((hI _ _).mpr ⟨.no, .no, .no, .no, .no, .no, by rw [Nat.zero_sub]; rfl⟩) ?_ ?_
    · intro i d env' hd hi
      obtain ⟨x3, x4, x5, x6, x7, x8, rfl⟩ := (hI _ _).mp hi
      obtain ⟨ln, hln, rfl⟩ := map_get hd
      rw [linesM_words] at hln
      obtain ⟨ws, hw, rfl⟩ := map_get hln
      have ok := wok ws (List.mem_of_getElem? hw)
      walk_at "pu"
      have lw := (line_ok ok).2.1
      have lpos : 1 ≤ ws.length := List.length_pos_iff.mpr ok.2.2
      have esz := sizeLine_eq
      refine ⟨_, rfl, _, rfl, by decide, by omega, ?_⟩
      rw [words_split ok]
      refine ⟨by decide, _, rfl, by rw [strsD_len]; omega, ?_⟩
      by_cases hil : i < rows.length
      · have hr : rows[i]? = some rows[i] := List.getElem?_eq_getElem hil
        obtain ⟨r, er⟩ : ∃ r, r = rows[i] := ⟨_, rfl⟩
        rw [← er] at hr
        have ew : ws = wordsR r := by
          unfold wordsM at hw
          rw [List.getElem?_append_left (by rw [List.length_map]; exact hil), List.getElem?_map, hr] at hw
          exact (Option.some.inj hw).symm
        subst ew
        refine ⟨_, _, rfl, _, _, rfl, rfl, ?_⟩
        walk_at "pu"
        refine go ?_
        walk_at "pu"
        have ed : (List.drop 1 (strsD (wordsR r)) : List D8) = strsD (r.name :: numT r.num :: r.al) := rfl
        rw [ed]
        refine ⟨rfl, ?_⟩
        rw [if_pos (decide_eq_true (by rw [strsD_len, List.length_cons, List.length_cons]; omega))]
        refine ⟨by decide, _, rfl, by rw [strsD_len, List.length_cons, List.length_cons]; omega, _, _, rfl, _, _, rfl, _, _, rfl, rfl, ?_⟩
        walk_at "pu"
        refine go ?_
        walk_at "pu"
        refine ⟨by rw [List.length_map, List.length_take]; omega, r.num, rfl, hg.nk r (List.mem_of_getElem? hr), by decide, ?_⟩
        refine mkI _ _ _ _ _ _ _ _ _ ?_ ?_
        · rw [List.take_add_one, hr, List.map_append]
          rfl
        · rw [Nat.sub_eq_zero_of_le (by omega), Nat.sub_eq_zero_of_le (by omega)]
      · obtain ⟨s, hs1, ew⟩ : ∃ s, ks[i - rows.length]? = some s ∧ ws = ("set" : Str) :: s :: nm s := by
          unfold wordsM at hw
          rw [List.getElem?_append_right (by rw [List.length_map]; omega), List.length_map, List.getElem?_map] at hw
          cases e : ks[i - rows.length]? with
          | none => rw [e] at hw; cases hw
          | some s => rw [e] at hw; exact ⟨s, rfl, (Option.some.inj hw).symm⟩
        subst ew
        refine ⟨_, _, rfl, _, _, rfl, rfl, ?_⟩
        walk_at "pu"
        refine go ?_
        walk_at "pu"
        have ed : (List.drop 1 (strsD (("set" : Str) :: s :: nm s)) : List D8) = strsD (s :: nm s) := rfl
        rw [ed]
        have e2 : (cutD (strsD (s :: nm s)) (some 1) none : List D8) = strsD (nm s) := by rw [cutFrom (by decide)]; rfl
        rw [e2]
        refine ⟨rfl, ?_⟩
        rw [set_ne_member, if_neg Bool.false_ne_true]
        refine ⟨rfl, true, rfl, ?_⟩
        show (if true = true then _ else _)
        rw [if_pos rfl]
        refine ⟨by unfold setsN; rw [List.length_map, List.length_map, List.length_take]; omega, .str s, atI_0, _, rfl, ?_⟩
        refine mkI _ _ _ _ _ _ _ _ _ ?_ ?_
        · rw [List.take_of_length_le (by omega), List.take_of_length_le (by omega)]
        · rw [setsN_put (nodup_take hk.nd hs1), show i + 1 - rows.length = (i - rows.length) + 1 from by omega, List.take_add_one, hs1]
          rfl
    · intro env' hi
      obtain ⟨x3, x4, x5, x6, x7, x8, rfl⟩ := (hI _ _).mp hi
      rw [strsD_len, lL, List.take_of_length_le (by omega), List.take_of_length_le (by omega)]
      subst hN
      walk_at "pu"
      refine go ?_
      walk_at "pu"
      unfold pMkEd
      walk_at "pu"
      refine ⟨rows, setsN ks nm, rfl, rfl, gd8_of hg hk, fun rows' ps => ?_⟩
      obtain rfl := sorted_same ps hs
      refine go ?_
      walk_at "pu"
      refine ⟨rows', ks, nm, rfl, hg, hk, fun ys py sy => ?_⟩
      obtain rfl := sorted_unique sy hks py
      refine ⟨_, rfl, _, rfl, (text_ok hg hk).1, ?_⟩
      walk_at "pu"
      refine ⟨rfl, ?_⟩
      have et : decide (V.str (textM rows' ys nm) = V.str (Txt.join ("\n" : Str) (linesM rows' ys nm))) = true := decide_eq_true rfl
      rw [if_pos et]
      exact hq
end
end Pu
/-! ### k80: read_edition over trees -/
namespace Pu
open PySem PySem.W PySem.Spec PyProof.Rows L2 Gk Tx
instance {K : Frag} {CE CM CG : Addr} {z : Addr → Prop} : NoNon ((W8 K CE CM CG).at z) := ⟨fun H v x h e => by
  subst e
  cases x with
  | scr ns => obtain ⟨a, e, _⟩ := h; cases e
  | ed rows gs => obtain ⟨a, e, _⟩ := h; cases e
  | mem rows gs i r => obtain ⟨q, a, e, _⟩ := h; cases e
  | grp rows gs ns => obtain ⟨q, a, e, _⟩ := h; cases e⟩
section
variable {P : Program} {w : World} {K : Frag} {mg : Str → Option Value} {base : Heap} {CE CM CG : Addr}
def FReadP : List D8 → PQ Ob8 → Prop := fun ds Q => ∃ (rows : List Gk.Row) (ks : List Str) (nm : Str → List Str), ds = [.str (textM rows ks nm)] ∧ RowsT rows ∧ (∀ r ∈ rows, sortedS r.al = true) ∧ KsOk (rows.map (·.name)) ks nm ∧ sortedS ks = true ∧
  Q .cl (.ob (.ed rows (groupsOf (rows.map (·.name)) (setsN ks nm))))
theorem FReadP_len {ds : List D8} {Q : PQ Ob8} (h : FReadP ds Q) : ds.length = 1 := by obtain ⟨_, _, _, rfl, _⟩ := h; rfl
abbrev sP_redit : Stmt := (top 29)
abbrev nP_redit : List Str := ["text", "lines", "edition", "many"]
theorem scP_redit : FnScope nP_redit ["text"] (defScope sP_redit) := ⟨rfl, rfl, rfl, by decide +kernel, rfl, by decide +kernel, by decide +kernel⟩
theorem okP_redit {f : Addr} {fd : FuncData} (Fu : Fun K "read_edition" "read_edition" sP_redit f fd) (B : Blt mg) (Bs : mg "str" = none) (O : Own8 P w K mg base CE CM CG)  (cIn : Cal P w K mg base (W8 K CE CM CG) "_edition_in" 7 ["lines"] [] noZ FInP) : FnOk P w K mg base CX0 8 f fd ["text"] (PFn (W8 K CE CM CG) noZ FReadP) := by
  obtain ⟨fIn, dIn, eIn, GIn, bIn, vIn, gIn, kIn⟩ := cIn.ex
  obtain ⟨TE, TM, TG, ZE, ⟨fGe, dGe, GGe, bGe, hGe, iGe, jGe⟩, ⟨pNm, fNm, dNm, GNm, bNm, hNm⟩, ⟨pSt, fSt, dSt, GSt, bSt, hSt⟩, ⟨fGr, dGr, GGr, bGr, mGr⟩, ⟨pGn, fGn, dGn, GGn, bGn, hGn⟩, ⟨fEq, dEq, GEq, bEq, hEq, iEq⟩, ⟨fMk, dMk, MMk, GMk, bMk, gMk⟩⟩ := O
  refine pfn_ok Fu scP_redit (fun ds Qp h => ?_) (fun cdv A outer s H Q E hr => ?_)
  · exact FReadP_len h
  · have nd := scP_redit.nd
    have hu := hu_of hr
    have hu64 : (A.deeper (envOfC "read_edition" (defScope sP_redit) s.heap.objs.size f cdv)).units + 64 < cLine := by have := hr.un; omega
    refine ⟨_, (pss_cons (ps_if (pt_not (pt_val (pe_callB call_isi (by rfl) B.isinstance bt_isinstance (pa_cons (pv 0) (pa_cons (pe_bltn (v := .ty "str") (by rfl) Bs bt_str rfl) pa_nil))))) (pss_one ps_never) pss_nil) (pss_cons (ps_set (i := 1) nd rfl (Or.inl rfl) (pe_split (pv 0) pe_str)) (pss_cons (ps_set (i := 2) nd rfl (Or.inl rfl) pe_non) (pss_cons (ps_for PassesOwn.never rfl (pi_range2 (by rfl) B.range (pa_cons pe_int (pa_cons (pe_op op_add (pe_callB call_len_seq (by rfl) B.len PySem.boot_len (pa_cons (pv 1) pa_nil)) pe_int) pa_nil))) (pg_name (i := 3) nd rfl (Or.inl rfl)) (pss_cons (ps_set (i := 2) nd rfl (Or.inl rfl) (pe_call GIn hr (by rfl) gIn kIn bIn vIn pass0 (pa_cons (pe_slice sl_list (pv 1) po_none (po_some (pv 3))) pa_nil))) (pss_one (ps_if (pt_cmpR op_isN (pv 2) pe_non (nomark _)) (pss_one ps_never) pss_nil)))) (pss_one (ps_ret (pv 2))))))), fun z hz => ⟨_, (snd_seq (snd_ifS (snd_not (snd_tB (snd_isStr snd_var))) snd_never snd_next) (snd_seq (snd_asg (m := false) (snd_split snd_var snd_cstr)) (snd_seq (snd_asg (m := false) snd_cnon) (snd_seq (snd_for (snd_piR2 (snd_cons snd_cint (snd_cons (snd_op (snd_cb snd_len (snd_cons snd_var snd_nil)) snd_cint snd_rI) snd_nil))) snd_gNS (snd_seq (snd_asg (m := false) (snd_call (dds := []) hz (by rfl) (snd_cons (snd_slL snd_var snd_noPart (snd_part snd_var)) snd_nil))) (snd_ifS (snd_test (snd_op snd_var snd_cnon snd_rIsN)) snd_never snd_next))) (snd_ret snd_var))))), fun ds Qp h => ?_⟩⟩
    obtain ⟨rows, ks, nm, rfl, hg, hs, hk, hks, hq⟩ := h
    obtain ⟨t1, t2, t3, t4, t5⟩ := text_ok hg hk
    have lL : (linesM rows ks nm).length = rows.length + ks.length := by
      unfold linesM
      rw [List.length_append, List.length_map, List.length_map]
    have hlo := hg.lo
    have esz := sizeLine_eq
    walk_at "pu"
    refine ⟨⟨_, rfl⟩, true, rfl, ?_⟩
    rw [if_neg (by decide)]
    refine go ?_
    walk_at "pu"
    refine ⟨_, rfl, _, rfl, by decide, by omega, ?_⟩
    rw [text_split hg hk]
    refine ⟨_, rfl, ?_⟩
    refine go ?_
    walk_at "pu"
    refine go ?_
    walk_at "pu"
    obtain ⟨I, hI⟩ : ∃ I : Nat → PEnv Ob8 → Prop, ∀ i env, I i env ↔ ∃ (x2 x3 : PV Ob8), env = [.sh (.str (textM rows ks nm)), .sh (.lst (strsD (linesM rows ks nm))), x2, x3] ∧ (i = (linesM rows ks nm).length → x2 = .sh (.ob (.ed rows (groupsOf (rows.map (·.name)) (setsN ks nm))))) := ⟨_, fun _ _ => Iff.rfl⟩
    refine for_in (rngD 1 (linesM rows ks nm).length) I (fun Q q => ?_) ((hI _ _).mpr ⟨_, _, rfl, fun e => by omega⟩) ?_ ?_
    · walk_at "pu"
      rw [strsD_len]
      refine ⟨by omega, by omega, by omega, by omega, ?_⟩
      rw [show (((linesM rows ks nm).length : Int) + 1 - 1).toNat = (linesM rows ks nm).length from by omega]
      exact q
    · intro i d env' hd hi
      obtain ⟨x2, x3, rfl, _⟩ := (hI _ _).mp hi
      have il : i < (linesM rows ks nm).length := by
        have := (List.getElem?_eq_some_iff.mp hd).1
        rwa [rngD_len] at this
      rw [rngD_at il] at hd
      obtain rfl := Option.some.inj hd
      walk_at "pu"
      rw [cutToS (by omega), show (1 + (i : Int)).toNat = i + 1 from by omega, lines_take]
      refine ⟨rows.take (i + 1), ks.take (i + 1 - rows.length), nm, rfl, hg.take (by omega), fun r hr => hs r (List.mem_of_mem_take hr), hk.pre (i + 1), sortedS_take _ hks, ?_⟩
      refine ⟨_, rfl, ?_⟩
      refine go ?_
      walk_at "pu"
      refine ⟨rfl, false, rfl, ?_⟩
      rw [if_neg (by decide)]
      generalize PV.sh (Dt.int (1 + (i : Int))) = y3
      refine (hI _ _).mpr ⟨_, y3, rfl, fun e => ?_⟩
      rw [List.take_of_length_le (by omega), List.take_of_length_le (by omega)]
    · intro env' hi
      obtain ⟨x2, x3, rfl, hx⟩ := (hI _ _).mp hi
      rw [rngD_len] at hx
      obtain rfl := hx rfl
      exact go hq
end
end Pu
/-! ### k80: _law_great over trees -/
namespace Pu
open PySem PySem.W PySem.Spec PyProof.Rows L2 Gk Tx
section
variable {P : Program} {w : World} {K : Frag} {mg : Str → Option Value} {base : Heap} {CE CM CG : Addr}
def setsG : List Str := ["all", "s", "zzzzzzzz"]
def signG (i : Nat) : Str := ⟨#[112 - i]⟩
def gRow (i : Nat) : PR := ⟨repS (signG i) (1 + ((i : Nat) : Int) / 2), if i < 3 then [signG i ++ "z"] else [], ((i : Nat) : Int) * 7 - 20, if i < 9 then setsG else []⟩
def greatR : List PR := (List.range 16).map gRow
theorem great_ok : GoodT greatR [] := by
  refine ⟨by decide +kernel, by decide +kernel, by decide +kernel, by decide +kernel, by decide +kernel, by decide +kernel, by decide +kernel, List.nodup_nil, Nat.zero_le _, fun w h => (by cases h)⟩
theorem great_good {ss : List Str} (nd : ss.Nodup) (l : ss.length ≤ 3) (m : ∀ w ∈ ss, w ∈ setsG) : GoodT greatR ss :=
  ⟨great_ok.lo, great_ok.hi, great_ok.wn, great_ok.wk, great_ok.wl, great_ok.nn, great_ok.nk, nd, l, fun w hw => (show ∀ w ∈ setsG, NmP w by decide +kernel) w (m w hw)⟩
theorem great_at {i : Nat} (h : i < 16) : greatR[i]? = some (gRow i) := by
  unfold greatR
  rw [List.getElem?_map, List.getElem?_range h]
  rfl
theorem sign_at : ∀ i, i < 16 → (signsD (Ob := Ob8) ("ponmlkjihgfedcba" : Str))[i]? = some (.str (signG i)) := by
  have h : ∀ i : Fin 16, ("ponmlkjihgfedcba" : Str).cps.toList[i.val]? = some (112 - i.val) := by decide +kernel
  intro i hi
  unfold signsD
  rw [List.getElem?_map, h ⟨i, hi⟩]
  rfl
def FGreatP : List D8 → PQ Ob8 → Prop := fun ds Q => ds = [.src] ∧ ∀ sets, GoodT greatR sets → Q .fr (planQ greatR sets [])
theorem FGreatP_len {ds : List D8} {Q : PQ Ob8} (h : FGreatP ds Q) : ds.length = 1 := by obtain ⟨rfl, _⟩ := h; rfl
def alG (i : Nat) : List Str := if i < 3 then [signG i ++ "z"] else []
theorem alG_eq (i : Nat) : ((List.replicate (if decide ((i : Int) < 3) = true then (1 : Int) else 0).toNat [(Dt.str (signG i ++ ("z" : Str)) : D8)]).flatten) = strsD (alG i) := by
  unfold alG
  by_cases h : i < 3
  · rw [if_pos (decide_eq_true (by omega)), if_pos h]
    rfl
  · rw [if_neg (by rw [decide_eq_false (by omega)]; exact Bool.false_ne_true), if_neg h]
    rfl
theorem kG_le (i : Nat) : (if decide ((i : Int) < 3) = true then (1 : Int) else 0) ≤ 1 ∧ 0 ≤ (if decide ((i : Int) < 3) = true then (1 : Int) else 0) := by
  split <;> decide
abbrev sP_great : Stmt := (top 47)
abbrev nP_great : List Str := ["stream", "rows", "sets", "nth", "sign", "aliases", "one"]
theorem scP_great : FnScope nP_great ["stream"] (defScope sP_great) := ⟨rfl, rfl, rfl, by decide +kernel, rfl, by decide +kernel, by decide +kernel⟩
theorem okP_great {f : Addr} {fd : FuncData} (Fu : Fun K "_law_great" "_law_great" sP_great f fd) (B : Blt mg) (Bs : mg "str" = none) (O : Own8 P w K mg base CE CM CG)  (cD : Cal P w K mg base (W8 K CE CM CG) "_law_draw" 1 ["stream", "size"] [] anyZ FDraw) (cS : Cal P w K mg base (W8 K CE CM CG) "_law_shuffled" 2 ["stream", "items"] [] anyZ FMixed) : FnOk P w K mg base CX0 3 f fd ["stream"] (PFn (W8 K CE CM CG) noZ FGreatP) := by
  obtain ⟨fD, dD, eD, GD, bD, vD, gD, kD⟩ := cD.ex
  obtain ⟨fS, dS, eS, GS, bS, vS, gS, kS⟩ := cS.ex
  obtain ⟨TE, TM, TG, ZE, ⟨fGe, dGe, GGe, bGe, hGe, iGe, jGe⟩, ⟨pNm, fNm, dNm, GNm, bNm, hNm⟩, ⟨pSt, fSt, dSt, GSt, bSt, hSt⟩, ⟨fGr, dGr, GGr, bGr, mGr⟩, ⟨pGn, fGn, dGn, GGn, bGn, hGn⟩, ⟨fEq, dEq, GEq, bEq, hEq, iEq⟩, ⟨fMk, dMk, MMk, GMk, bMk, gMk⟩⟩ := O
  refine pfn_ok Fu scP_great (fun ds Qp h => ?_) (fun cdv A outer s H Q E hr => ?_)
  · exact FGreatP_len h
  · have nd := scP_great.nd
    have hu := hu_of hr
    have hu64 : (A.deeper (envOfC "_law_great" (defScope sP_great) s.heap.objs.size f cdv)).units + 64 < cLine := by have := hr.un; omega
    refine ⟨_, (pss_cons (ps_par (i := 1) (j := 2) rfl nd rfl rfl (by decide) rfl rfl (pa_cons (pe_lst pa_nil) (pa_cons (pe_lst (pa_cons pe_str (pa_cons pe_str (pa_cons pe_str pa_nil)))) pa_nil)) rfl) (pss_cons (ps_for PassesOwn.never rfl (StarT.pi_enumS (by rfl) B.enumerate (pa_cons pe_str pa_nil)) (pg_tup rfl (pgs_cons (pg_name (i := 3) nd rfl (Or.inr rfl)) (pgs_cons (pg_name (i := 4) nd rfl (Or.inl rfl)) pgs_nil))) (pss_cons (ps_set (i := 5) nd rfl (Or.inl rfl) (pe_op op_rep (pe_lst (pa_cons (pe_op op_add_str (pv 4) pe_str) pa_nil)) (pe_callTy call_int1 (by rfl) B.int bt_int (pa_cons (pe_cmpR op_lt (pv 3) pe_int (nomark _)) pa_nil)))) (pss_one (ps_expr (by exact (pe_bm PySem.F.plainAttrs_list PySem.F.slot_list_append PySem.F.type_list_append mt_append (pv 1) (pa_cons (pe_lst (pa_cons (pe_op op_mul_str (pv 4) (pe_op op_add pe_int (pe_op op_fdiv (pv 3) pe_int))) (pa_cons (pv 5) (pa_cons (pe_op op_sub (pe_op op_mul (pv 3) pe_int) pe_int) (pa_cons (pe_lc (own := [("one", 6)]) (te := (tVar 6)) (g := (gName 6)) (tt := (tTest (tOp (rI0 fun i j => .bl (decide (i < j))) (tVar 3) (tC (.int 9))))) rfl nd (pi_list (pv 2)) (blkOk_by (N := nP_great) (sc := defScope sP_great) (by decide +kernel)) (fun _ _ _ _ _ => (pg_name (i := 6) nd rfl (Or.inl rfl))) (fun _ _ _ _ _ => by exact (pts_one (pt_cmpR op_lt (pv 3) pe_int (nomark _)))) (fun _ _ _ _ _ => by exact (pv 6))) pa_nil))))) pa_nil))))))) (pss_one (ps_ret (pe_lst (pa_cons (pv 1) (pa_cons (pe_call GS hr (by rfl) gS kS bS vS pass0 (pa_cons (pv 0) (pa_cons (pe_slice sl_list (pv 2) po_none (po_some (pe_call GD (hr.mono (by decide)) (by rfl) gD kD bD vD pass0 (pa_cons (pv 0) (pa_cons pe_int pa_nil))))) pa_nil))) pa_nil))))))), fun z hz => ⟨_, (snd_seq (snd_par (i := 1) (j := 2) (m1 := true) (m2 := false) (by decide) (snd_lst snd_nil) (snd_lst (snd_cons snd_cstr (snd_cons snd_cstr (snd_cons snd_cstr snd_nil))))) (snd_seq (snd_for (snd_piES (snd_cons snd_cstr snd_nil)) (snd_gTS (snd_gConsS snd_gNS' (snd_gConsS snd_gNS' snd_gNilS))) (snd_seq (snd_asg (m := false) (snd_op (snd_lst (snd_cons (snd_op snd_var snd_cstr snd_rCatS) snd_nil)) (snd_cb snd_int1 (snd_cons (snd_op snd_var snd_cint snd_rB) snd_nil)) snd_rRep)) (snd_app (i := 1) (snd_lst (snd_cons (snd_op snd_var (snd_op snd_cint (snd_op snd_var snd_cint snd_rIC) snd_rI) snd_rMulSt) (snd_cons snd_var (snd_cons (snd_op (snd_op snd_var snd_cint snd_rIC) snd_cint snd_rI) (snd_cons (snd_lc (vs := [6]) (js := [6]) (snd_piL snd_var) snd_gN (by decide) (snd_test (snd_op snd_var snd_cint snd_rB)) snd_var) snd_nil)))))))) (snd_ret (snd_lst (snd_cons snd_var (snd_cons (snd_call (dds := []) trivial (by rfl) (snd_cons snd_var (snd_cons (snd_slL snd_var snd_noPart (snd_part (snd_call (dds := []) trivial (by rfl) (snd_cons snd_var (snd_cons snd_cint snd_nil))))) snd_nil))) snd_nil)))))), fun ds Qp h => ?_⟩⟩
    obtain ⟨rfl, hq⟩ := h
    walk_at "pu"
    refine go ?_
    walk_at "pu"
    generalize hN : (hold _ : PEnv Ob8 → Prop) = N
    obtain ⟨I, hI⟩ : ∃ I : Nat → PEnv Ob8 → Prop, ∀ i env, I i env ↔ ∃ (x3 x4 x5 x6 : PV Ob8), env = [.sh .src, .own ((greatR.take i).map rowP), .sh (.lst (strsD setsG)), x3, x4, x5, x6] := ⟨_, fun _ _ => Iff.rfl⟩
    have mkI : ∀ (i : Nat) (m : List D8) (x3 x4 x5 x6 : PV Ob8), m = (greatR.take i).map rowP → I i [.sh .src, .own m, .sh (.lst (strsD setsG)), x3, x4, x5, x6] := fun i m x3 x4 x5 x6 e => (hI _ _).mpr ⟨x3, x4, x5, x6, by rw [e]⟩
    refine for_in (enumD (signsD (Ob := Ob8) ("ponmlkjihgfedcba" : Str))) I (fun Q q => ⟨_, rfl, q⟩) (mkI 0 _ _ _ _ _ rfl) ?_ ?_
    · intro i d env' hd hi
      obtain ⟨x3, x4, x5, x6, rfl⟩ := (hI _ _).mp hi
      have il : i < 16 := by
        have := (List.getElem?_eq_some_iff.mp hd).1
        rw [enumD_len] at this
        exact this
      rw [enumD_at (sign_at i il)] at hd
      obtain rfl := Option.some.inj hd
      refine ⟨_, rfl, rfl, _, _, rfl, _, _, rfl, rfl, ?_⟩
      walk_at "pu"
      have kg := kG_le i
      refine ⟨show 1 + 1 ≤ 1000 by decide, .inr ⟨_, _, rfl, rfl, by omega, by omega, by show 1 * _ ≤ 1000; omega, ?_⟩⟩
      rw [alG_eq]
      refine ⟨_, rfl, ?_⟩
      refine go ?_
      walk_at "pu"
      have lg : ((greatR.take i).map (rowP (Ob := Ob8))).length ≤ 16 := by rw [List.length_map, List.length_take]; omega
      refine ⟨by omega, _, _, rfl, rfl, ⟨by decide, by decide⟩, _, rfl, _, _, rfl, rfl, by omega, by omega, by show 1 ≤ 1; decide, by show 1 ≤ 1000; decide, _, _, rfl, rfl, .inl ⟨by omega, by omega⟩, _, rfl, ?_⟩
      refine lc_inv (strsD setsG) (fun j acc => acc = if i < 9 then strsD (setsG.take j) else []) (fun Q q => by walk_at "pu"; exact q _) (by decide) (by show [] = if i < 9 then [] else []; split <;> rfl) ?_ ?_
      · rintro j d _ hd rfl
        obtain ⟨z, hz, rfl⟩ := map_get hd
        walk_at "pu"
        by_cases h9 : i < 9
        · rw [if_pos h9, if_pos h9, if_pos (decide_eq_true (by omega)), List.take_add_one, hz, strsD_app]
          rfl
        · rw [if_neg h9, if_neg h9, if_neg (by rw [decide_eq_false (by omega)]; exact Bool.false_ne_true)]
      · rintro _ rfl _
        refine ⟨by decide, by decide, ?_⟩
        generalize PV.sh (Dt.int (i : Int)) = y3
        generalize PV.sh (Dt.str (signG i)) = y4
        generalize PV.sh (Dt.lst (strsD (alG i))) = y5
        refine mkI _ _ _ _ _ _ ?_
        rw [List.take_add_one, great_at il, List.map_append]
        have er : (rowP (gRow i) : D8) = .lst [.str (repS (signG i) (1 + ((i : Nat) : Int) / 2)), .lst (strsD (alG i)), .int (((i : Nat) : Int) * 7 - 20), .lst (strsD (if i < 9 then setsG else []))] := rfl
        show _ = _ ++ [rowP (gRow i)]
        rw [er]
        by_cases h9 : i < 9
        · rw [if_pos h9, if_pos h9]
          rfl
        · rw [if_neg h9, if_neg h9]
          rfl
    · intro env' hi
      obtain ⟨x3, x4, x5, x6, rfl⟩ := (hI _ _).mp hi
      rw [enumD_len]
      have e16 : (signsD (Ob := Ob8) ("ponmlkjihgfedcba" : Str)).length = 16 := rfl
      rw [e16, show greatR.take 16 = greatR from rfl]
      subst hN
      refine go ?_
      walk_at "pu"
      refine ⟨⟨by decide, by decide, trivial⟩, 4, rfl, by decide, by decide, fun k k0 k4 => ?_⟩
      have ec : (cutD (strsD setsG : List D8) none (some k)) = strsD (setsG.take k.toNat) := cutToS k0
      refine ⟨k, rfl, _, rfl, ?_⟩
      rw [ec]
      have sub : (setsG.take k.toNat).Sublist setsG := List.take_sublist ..
      refine ⟨⟨by decide, fun h => Fl.noConfusion h, trivial⟩, mix_strs (Nat.le_trans sub.length_le (by decide)) (fun w hw => (show ∀ w ∈ setsG, PyData.strOk w = true by decide +kernel) w (sub.subset hw)) fun ss ps => ?_⟩
      refine ⟨⟨fun h => Fl.noConfusion h, fun h => Fl.noConfusion h, trivial⟩, show 2 ≤ 1000 by decide, ?_⟩
      exact hq ss (great_good (ps.nodup_iff.mpr (sub.nodup (by decide +kernel))) (by rw [ps.length_eq]; exact Nat.le_trans sub.length_le (by decide)) fun w hw => sub.subset (ps.mem_iff.mp hw))
end
end Pu
/-! ### k80: _law_same over trees -/
namespace Pu
open PySem PySem.W PySem.Spec PyProof.Rows L2 Gk Tx
def shownS (ws : List Str) : Str := listText (PyData.shownAll (ws.map .str))
def prReprS {Ob : Type} (xs : List (Dt Ob)) (Q : PQ Ob) : Prop := ∃ ws : List Str, xs = [.lst (strsD ws)] ∧ ws ≠ [] ∧ (shownS ws).length ≤ sizeLine ∧ Q .cl (.str (shownS ws))
theorem strs_show : ∀ ws : List Str, PyData.showableAll (ws.map .str) = true ∧ PyData.depthAll (ws.map .str) ≤ 40
  | [] => ⟨by simp [PyData.showableAll], by simp [PyData.depthAll]⟩
  | w :: ws => by
    obtain ⟨a, b⟩ := strs_show ws
    constructor
    · rw [List.map_cons]
      simp [PyData.showableAll, PyData.showable, a]
    · rw [List.map_cons]
      simp only [PyData.depthAll, PyData.depth]
      omega
theorem snd_reprS {Ob : Type} {W : Wd Ob} : SndB W prReprS (rReprU W.K) := by
  intro p D H vs ds Qp Q hv hs h k
  obtain ⟨ws, rfl, hne, hl, q⟩ := h
  obtain ⟨v, rfl, r⟩ := rv1 hs
  obtain ⟨a, us, rfl, ha, rb⟩ := r.lst
  obtain rfl := rb.flats (flatsS ws)
  refine .inl ⟨a, ws.map V.str, ws.map .str, rfl, SqL.of ha, by simpa using hne, ?_, (strs_show ws).1, (strs_show ws).2, hl, k _ _ _ H q (Grow.refl hv) (.str _)⟩
  clear hne hl q rb ha hs r
  induction ws with
  | nil => exact .nil
  | cons w ws ih => exact .cons (.dat (.str w) rfl) ih
section
variable {P : Program} {w : World} {K : Frag} {mg : Str → Option Value} {base : Heap} {CE CM CG : Addr}
def FSameP : List D8 → PQ Ob8 → Prop := fun ds Q => ∃ ws : List Str, ds = [.lst (strsD ws), .lst (strsD ws)] ∧ ws ≠ [] ∧ (shownS ws).length ≤ sizeLine ∧ Q .cl (.bl true)
theorem FSameP_len {ds : List D8} {Q : PQ Ob8} (h : FSameP ds Q) : ds.length = 2 := by obtain ⟨_, rfl, _⟩ := h; rfl
abbrev sP_same : Stmt := (top 37)
abbrev nP_same : List Str := ["one", "two"]
theorem scP_same : FnScope nP_same ["one", "two"] (defScope sP_same) := ⟨rfl, rfl, rfl, by decide +kernel, rfl, by decide +kernel, by decide +kernel⟩
theorem okP_same {f : Addr} {fd : FuncData} (Fu : Fun K "_law_same" "_law_same" sP_same f fd) (B : Blt mg) (Bs : mg "str" = none) (O : Own8 P w K mg base CE CM CG)   : FnG P w K mg base CX0 1 f fd ["one", "two"] (PFn (W8 K CE CM CG) noZ FSameP) := by
  obtain ⟨TE, TM, TG, ZE, ⟨fGe, dGe, GGe, bGe, hGe, iGe, jGe⟩, ⟨pNm, fNm, dNm, GNm, bNm, hNm⟩, ⟨pSt, fSt, dSt, GSt, bSt, hSt⟩, ⟨fGr, dGr, GGr, bGr, mGr⟩, ⟨pGn, fGn, dGn, GGn, bGn, hGn⟩, ⟨fEq, dEq, GEq, bEq, hEq, iEq⟩, ⟨fMk, dMk, MMk, GMk, bMk, gMk⟩⟩ := O
  refine pfn_okG Fu scP_same (fun ds Qp h => ?_) (fun cdv A outer s H Q E hG hr => ?_)
  · exact FSameP_len h
  · have nd := scP_same.nd
    have hu := hu_of hr
    have hu60 : (A.deeper (envOfC "_law_same" (defScope sP_same) s.heap.objs.size f cdv)).units + 60 < cLine := by have := hr.un; omega
    have hG1 : (A.deeper (envOfC "_law_same" (defScope sP_same) s.heap.objs.size f cdv)).guards = some [] := hG
    have hu64 : (A.deeper (envOfC "_law_same" (defScope sP_same) s.heap.objs.size f cdv)).units + 64 < cLine := by have := hr.un; omega
    refine ⟨_, (pss_one (ps_ret (pe_cmpR op_eq (pe_callB (call_reprU hG1 hu60) (by rfl) B.repr bt_repr (pa_cons (pv 0) pa_nil)) (pe_callB (call_reprU hG1 hu60) (by rfl) B.repr bt_repr (pa_cons (pv 1) pa_nil)) (nomark _)))), fun z hz => ⟨_, (snd_ret (snd_op (snd_cb snd_reprS (snd_cons snd_var snd_nil)) (snd_cb snd_reprS (snd_cons snd_var snd_nil)) snd_rEq)), fun ds Qp h => ?_⟩⟩
    obtain ⟨ws, rfl, hne, hl, hq⟩ := h
    walk_at "pu"
    refine ⟨ws, rfl, hne, hl, ws, rfl, hne, hl, _, rfl, _, rfl, rfl, ?_⟩
    have e : decide (V.str (shownS ws) = V.str (shownS ws)) = true := decide_eq_true rfl
    rw [e]
    exact hq
end
end Pu
/-! ### k80: the law -/
namespace Pu
open PySem PySem.W PySem.Spec PyProof.Rows L2 Gk NdefX Tx
def spLaw80 (K : Frag) : Sp := fun vs H Q _ => ∃ (a : Addr) (ns : List Int), vs = [.ref a] ∧ SqL K H a (ns.map V.int) ∧ ns.length ≤ 63 ∧ (∀ z ∈ ns, Builtin.Int.intBits z ≤ 1048576) ∧ ∀ H', Q (.bl true) H'
theorem ne_of_none' {H : Hp} {b p : Addr} {u : HO} (hb : H b = some u) (hp : H p = none) : b ≠ p := fun z => by rw [z, hp] at hb; cases hb
theorem sl_first {α β : Type} {F : α → β → Prop} {σ : List α} {x : β} {xs : List β} (h : Paired F σ (x :: xs)) : ∃ s σ2, σ = s :: σ2 ∧ F s x ∧ σ2.length = xs.length := by
  cases h with
  | cons r t => exact ⟨_, _, rfl, r, paired_len t⟩
theorem seq_hide {K : Frag} {B : Addr → Prop} {H : Hp} {a : Addr} {xs : List V} (h : SqL K (hide B H) a xs) : SqL K H a xs := by
  have e : Same (hide B H) H := fun b u hb => by
    by_cases z : B b
    · rw [hide_in z] at hb; cases hb
    · rw [hide_at z] at hb; exact hb
  exact e.seq h
theorem lenN {α : Type} {l : List α} (h : l.length = 6) : ∃ a1 a2 a3 a4 a5 a6, l = [a1, a2, a3, a4, a5, a6] := match l, h with
  | [a1, a2, a3, a4, a5, a6], _ => ⟨_, _, _, _, _, _, rfl⟩
section
variable {P : Program} {w : World} {K : Frag} {mg : Str → Option Value} {base : Heap} {CE CM CG : Addr}
/-- a turn of the inner loop -/
def turn80 (K : Frag) (CE CM CG : Addr) : PTS Ob8 :=
  pSeq
        (pPar 5 6 false false (pCall FEdP [] (pCons (pVar 4) pNil))
          (pJoin (pC (Dt.str (Str.ofString "\n"))) (pCall FLinesP [] (pCons (pVar 4) pNil))))
        (pSeq
          (pIfS
            (pNot
              (pTest
                (pCall FSameP []
                  (pCons
                    (pLst
                      (pCons (pCall FTextP [] (pCons (pVar 5) pNil))
                        (pCons (pCall FTextP [] (pCons (pVar 5) pNil)) pNil)))
                    (pCons (pLst (pCons (pVar 6) (pCons (pVar 6) pNil))) pNil)))))
            (pRet (pC (Dt.bl false))) pNext)
          (pSeq
            (pIfS
              (pOr
                (pNot
                  (pTest
                    (pOp (poEqI (ObC (W8 K CE CM CG) CE) isEdD FEq8 false) (pCall FReadP [] (pCons (pVar 6) pNil))
                      (pVar 5))))
                (pNot
                  (pTest
                    (pOp (poEqI (ObC (W8 K CE CM CG) CE) isEdD FEq8 false) (pCall FReadP [] (pCons (pVar 6) pNil))
                      (pVar 5)))))
              (pRet (pC (Dt.bl false))) pNext)
            (pIfS
              (pTest (pOp (poEq true) (pCall FTextP [] (pCons (pCall FReadP [] (pCons (pVar 6) pNil)) pNil)) (pVar 6)))
              (pRet (pC (Dt.bl false))) pNext)))
theorem turn80_ok {ns : List Int} {sm : D8} {x5 x6 : PV Ob8} {pD : PEnds Ob8} {rows : List PR} {sets : List Str} {rest : List D8} (hg : GoodT rows sets) (knx : ∀ x5 x6 : PV Ob8, pD.nx [.sh (.ob (.scr ns)), .no, .sh .src, .sh sm, .sh (planQ rows sets rest), x5, x6]) :
    turn80 K CE CM CG pD [.sh (.ob (.scr ns)), .no, .sh .src, .sh sm, .sh (planQ rows sets rest), x5, x6] := by
  obtain ⟨d, hd⟩ : ∃ d, d = planQ (Ob := Ob8) rows sets rest := ⟨_, rfl⟩
  rw [← hd] at knx ⊢
  unfold turn80
  walk_at "pu"
  refine ⟨rows, sets, rest, by rw [hd], hg, fun rows' ps => ?_⟩
  have rt := hg.rows.sorted ps
  have eN : rows.map (·.name) = rows'.map (·.name) := ((names_sorted ps).trans (names_row rows)).symm
  have sal := sorted_als ps
  have k0 : KsOk (rows'.map (·.name)) sets (seenIn rows) := by
    rw [← eN]
    exact hg.ks (.inr (List.Perm.refl _))
  rw [eN]
  unfold pJoin
  walk_at "pu"
  refine ⟨rows, sets, rest, by rw [hd], hg, fun rows2 ss ps2 pss so => ?_⟩
  obtain rfl := sorted_two ps ps2
  have k1 := k0.perm pss
  have t1 := text_ok rt k1
  have el : rows'.map lineR ++ ss.map (lineS rows) = linesM rows' ss (seenIn rows) := rfl
  rw [el]
  refine ⟨_, rfl, t1.1, ?_⟩
  have et : Txt.join ("\n" : Str) (linesM rows' ss (seenIn rows)) = textM rows' ss (seenIn rows) := rfl
  rw [et]
  have sm2 := text_small rt k1
  have sh2 := shown_two t1.2.2.2.2 sm2
  generalize hT : textM rows' ss (seenIn rows) = T at sh2 sm2
  have tx0 : ∀ Q : PQ Ob8, Q .cl (.str T) → FTextP [.ob (.ed rows' (groupsOf (rows'.map (·.name)) (setsN sets (seenIn rows))))] Q := fun Q q => ⟨rows', sets, seenIn rows, rfl, rt, k0, fun ys py sy => by
    obtain rfl := sorted_unique so sy (pss.trans py.symm)
    rw [hT]
    exact q⟩
  have tx1 : ∀ Q : PQ Ob8, Q .cl (.str T) → FTextP [.ob (.ed rows' (groupsOf (rows'.map (·.name)) (setsN ss (seenIn rows))))] Q := fun Q q => ⟨rows', ss, seenIn rows, rfl, rt, k1, fun ys py sy => by
    obtain rfl := sorted_unique so sy py.symm
    rw [hT]
    exact q⟩
  have rd0 : ∀ Q : PQ Ob8, Q .cl (.ob (.ed rows' (groupsOf (rows'.map (·.name)) (setsN ss (seenIn rows))))) → FReadP [.str T] Q := fun Q q => ⟨rows', ss, seenIn rows, by rw [hT], rt, sal, k1, so, q⟩
  have eq0 : eqEd rows' (groupsOf (rows'.map (·.name)) (setsN ss (seenIn rows))) rows' (groupsOf (rows'.map (·.name)) (setsN sets (seenIn rows))) = true := ed_same rt sal k0 pss
  generalize groupsOf (rows'.map (·.name)) (setsN ss (seenIn rows)) = g1 at *
  generalize groupsOf (rows'.map (·.name)) (setsN sets (seenIn rows)) = g0 at *
  refine go ?_
  walk_at "pu"
  refine tx0 _ ?_
  walk_at "pu"
  refine tx0 _ ?_
  walk_at "pu"
  refine ⟨[T, T], rfl, List.cons_ne_nil _ _, sh2, true, rfl, ?_⟩
  rw [if_neg (by decide)]
  have cmp : ∀ Q : PQ Ob8, Q .cl (.bl true) → poEqI (ObC (W8 K CE CM CG) CE) isEdD FEq8 false (.ob (.ed rows' g1)) (.ob (.ed rows' g0)) Q := fun Q q =>
    ⟨edD_cl, ⟨_, _, rfl⟩, rows', g1, rows', g0, rfl, true, by rw [eq0], q⟩
  refine go ?_
  walk_at "pu"
  refine rd0 _ ?_
  refine cmp _ ⟨true, rfl, ?_⟩
  rw [if_neg (by decide)]
  refine rd0 _ ?_
  refine cmp _ ⟨true, rfl, ?_⟩
  rw [if_neg (by decide)]
  refine go ?_
  walk_at "pu"
  refine rd0 _ ?_
  refine ⟨by decide, tx1 _ ⟨_, rfl, rfl, ?_⟩⟩
  have e : decide (V.str T = V.str T) = true := decide_eq_true rfl
  rw [e, if_neg (by decide)]
  exact knx _ _
abbrev sP_law80 : Stmt := (top 48)
abbrev nP_law80 : List Str := ["script", "start", "stream", "some", "plan", "one", "due"]
theorem scP_law80 : FnScope nP_law80 ["script"] (defScope sP_law80) := ⟨rfl, rfl, rfl, by decide +kernel, rfl, by decide +kernel, by decide +kernel⟩
theorem ok_law80 {f fS : Addr} {fd0 fdS : FuncData} (Fu : Fun K "law" "law" sP_law80 f fd0) (B : Blt mg) (O : Own8 P w K mg base CE CM CG) (GS : FnOk P w K mg base CX0 1 fS fdS ["script", "start"] (spStream K)) (bS : Binds K fdS ["script", "start"] []) (gS : mg "_law_stream" = some (.ref fS)) (kS : keepIn K (.ref fS) = true) (cPl : Cal P w K mg base (W8 K CE CM CG) "_law_plan" 3 ["stream", "many"] [] anyZ FPlanP) (cLa : Cal P w K mg base (W8 K CE CM CG) "_law_later" 4 ["stream", "plan", "many"] [] anyZ FLaterP) (cGt : Cal P w K mg base (W8 K CE CM CG) "_law_great" 3 ["stream"] [] noZ FGreatP) (cEd : Cal P w K mg base (W8 K CE CM CG) "_law_edition" 6 ["plan"] [] noZ FEdP) (cLi : Cal P w K mg base (W8 K CE CM CG) "_law_lines" 1 ["plan"] [] anyZ FLinesP) (cEt : Cal P w K mg base (W8 K CE CM CG) "edition_text" 6 ["edition"] [] noZ FTextP) (cRe : Cal P w K mg base (W8 K CE CM CG) "read_edition" 8 ["text"] [] noZ FReadP) (cSm : CalG P w K mg base (W8 K CE CM CG) "_law_same" 1 ["one", "two"] [] noZ FSameP) (cKEt : CalK P w K mg base (W8 K CE CM CG) "edition_text" 6 ["edition"] ["edition"] noZ FTextP) (cKRe : CalK P w K mg base (W8 K CE CM CG) "read_edition" 8 ["text"] ["text"] noZ FReadP) : FnG P w K mg base CX0 9 f fd0 ["script"] (spLaw80 K) := by
  obtain ⟨fPl, dPl, ePl, GPl, bPl, vPl, gPl, kPl⟩ := cPl.ex
  obtain ⟨fLa, dLa, eLa, GLa, bLa, vLa, gLa, kLa⟩ := cLa.ex
  obtain ⟨fGt, dGt, eGt, GGt, bGt, vGt, gGt, kGt⟩ := cGt.ex
  obtain ⟨fEd, dEd, eEd, GEd, bEd, vEd, gEd, kEd⟩ := cEd.ex
  obtain ⟨fLi, dLi, eLi, GLi, bLi, vLi, gLi, kLi⟩ := cLi.ex
  obtain ⟨fEt, dEt, eEt, GEt, bEt, vEt, gEt, kEt⟩ := cEt.ex
  obtain ⟨fRe, dRe, eRe, GRe, bRe, vRe, gRe, kRe⟩ := cRe.ex
  obtain ⟨fSm, dSm, eSm, GSm, bSm, vSm, gSm, kSm⟩ := cSm.ex
  obtain ⟨fKEt, dKEt, GKEt, bKEt, gKEt, kKEt⟩ := cKEt.ex
  obtain ⟨fKRe, dKRe, GKRe, bKRe, gKRe, kKRe⟩ := cKRe.ex
  obtain ⟨TE, TM, TG, ZE, ⟨fGe, dGe, GGe, bGe, hGe, iGe, jGe⟩, ⟨pNm, fNm, dNm, GNm, bNm, hNm⟩, ⟨pSt, fSt, dSt, GSt, bSt, hSt⟩, ⟨fGr, dGr, GGr, bGr, mGr⟩, ⟨pGn, fGn, dGn, GGn, bGn, hGn⟩, ⟨fEq, dEq, GEq, bEq, hEq, iEq⟩, ⟨fMk, dMk, MMk, GMk, bMk, gMk⟩⟩ := O
  refine Gk.Fun.okG Fu scP_law80 (fun vs H Q E h => ?_) (fun cdv A outer s H vs Q E hG hr h => ?_)
  · obtain ⟨a, ns, rfl, _⟩ := h
    rfl
  · obtain ⟨a, ns, rfl, hS', hlen, hbits, k⟩ := h
    have nd := scP_law80.nd
    have hr1 : Room 1 _ := hr.mono (by decide)
    have hu := hu_of hr
    have hu60 : (A.deeper (envOfC "law" (defScope sP_law80) s.heap.objs.size f cdv)).units + 60 < cLine := by have := hr.un; omega
    have hu64 : (A.deeper (envOfC "law" (defScope sP_law80) s.heap.objs.size f cdv)).units + 64 < cLine := by have := hr.un; omega
    have hG1 : (A.deeper (envOfC "law" (defScope sP_law80) s.heap.objs.size f cdv)).guards = some [] := hG
    refine ⟨_, (pss_cons (ps_for PassesOwn.never rfl (pi_range1 (by rfl) B.range (pa_cons (pe_callB (call_max2 rfl) (by rfl) B.max bt_max (pa_cons pe_int (pa_cons (pe_callB (call_min2 rfl) (by rfl) B.min bt_min (pa_cons pe_int (pa_cons (pe_callB call_len_seq (by rfl) B.len PySem.boot_len (pa_cons (pv 0) pa_nil)) pa_nil))) pa_nil))) pa_nil)) (pg_name (i := 1) nd rfl (Or.inl rfl)) (pss_cons (ps_set (i := 2) nd rfl (Or.inl rfl) (pe_call GS hr1 (by rfl) gS kS bS .nil pass0 (pa_cons (pv 0) (pa_cons (pv 1) pa_nil)))) (pss_cons (ps_set (i := 3) nd rfl (Or.inl rfl) (pe_lst (pa_cons (pe_call GPl (hr.mono (by decide)) (by rfl) gPl kPl bPl vPl pass0 (pa_cons (pv 2) (pa_cons pe_int pa_nil))) (pa_cons (pe_call GLa (hr.mono (by decide)) (by rfl) gLa kLa bLa vLa pass0 (pa_cons (pv 2) (pa_cons (pe_call GPl (hr.mono (by decide)) (by rfl) gPl kPl bPl vPl pass0 (pa_cons (pv 2) (pa_cons pe_int pa_nil))) (pa_cons pe_int pa_nil)))) (pa_cons (pe_call GGt (hr.mono (by decide)) (by rfl) gGt kGt bGt vGt pass0 (pa_cons (pv 2) pa_nil)) pa_nil))))) (pss_one (ps_for PassesOwn.never rfl (pi_list (pv 3)) (pg_name (i := 4) nd rfl (Or.inl rfl)) (pss_cons (ps_par (i := 5) (j := 6) rfl nd rfl rfl (by decide) rfl rfl (pa_cons (pe_call GEd (hr.mono (by decide)) (by rfl) gEd kEd bEd vEd pass0 (pa_cons (pv 4) pa_nil)) (pa_cons (pe_join pe_str (pe_call GLi (hr.mono (by decide)) (by rfl) gLi kLi bLi vLi pass0 (pa_cons (pv 4) pa_nil))) pa_nil)) rfl) (pss_cons (ps_if (pt_not (pt_val (pe_callG GSm hG1 (hr.mono (by decide)) (by rfl) gSm kSm bSm vSm pass0 (pa_cons (pe_lst (pa_cons (pe_call GEt (hr.mono (by decide)) (by rfl) gEt kEt bEt vEt pass0 (pa_cons (pv 5) pa_nil)) (pa_cons (pe_callK0 GKEt (hr.mono (by decide)) (by rfl) gKEt kKEt bKEt pass0 (pk_cons (pv 5) pk_nil)) pa_nil))) (pa_cons (pe_lst (pa_cons (pv 6) (pa_cons (pv 6) pa_nil))) pa_nil))))) (pss_one (ps_ret pe_bl)) pss_nil) (pss_cons (ps_if (PW.pt (pw_or (pt_not (pt_cmpR (op_eqI (E := E0) GEq (hr.mono (by decide)) hEq iEq bEq pass0) (pe_call GRe hr (by rfl) gRe kRe bRe vRe pass0 (pa_cons (pv 6) pa_nil)) (pv 5) (nomark _))) (pw_or1 (pt_not (pt_cmpR (op_eqI (E := E0) GEq (hr.mono (by decide)) hEq iEq bEq pass0) (pe_callK0 GKRe (hr.mono (by decide)) (by rfl) gKRe kKRe bKRe pass0 (pk_cons (pv 6) pk_nil)) (pv 5) (nomark _)))))) (pss_one (ps_ret pe_bl)) pss_nil) (pss_one (ps_if (pt_cmpR op_ne (pe_call GEt (hr.mono (by decide)) (by rfl) gEt kEt bEt vEt pass0 (pa_cons (pe_call GRe hr (by rfl) gRe kRe bRe vRe pass0 (pa_cons (pv 6) pa_nil)) pa_nil)) (pv 6) (nomark _)) (pss_one (ps_ret pe_bl)) pss_nil)))))))))) (pss_one (ps_ret pe_bl))), ?_⟩
    have hz : noZ nz := rfl
    walk_at "rd"
    refine ⟨_, rfl, a, _, rfl, .inl hS', _, _, rfl, _, _, rfl, _, rfl, ?_, ?_, ?_⟩
    · split <;> (try split) <;> omega
    · split <;> (try split) <;> omega
    have hn : ∀ j : Int, (if (if ((ns.map V.int).length : Int) < 4 then ((ns.map V.int).length : Int) else 4) > 1 then (if ((ns.map V.int).length : Int) < 4 then ((ns.map V.int).length : Int) else 4) else 1) = j → j.toNat ≤ 4 := by
      intro j e
      split at e <;> (try split at e) <;> omega
    generalize hj : (if (if ((ns.map V.int).length : Int) < 4 then ((ns.map V.int).length : Int) else 4) > 1 then (if ((ns.map V.int).length : Int) < 4 then ((ns.map V.int).length : Int) else 4) else 1) = j
    have hj4 := hn j hj
    refine for_range (lo := 0) (n := j.toNat) (fun i σ H' => ∃ a vs, σ = some (.ref a) :: vs ∧ vs.length = 6 ∧ SqL K H' a (ns.map V.int)) ⟨_, _, rfl, rfl, hS'⟩ ?_ ?_
    · rintro i σ Hs hi ⟨a, vs, rfl, hvs, s0⟩
      obtain ⟨v1, v2, v3, v4, v5, v6, rfl⟩ := lenN hvs
      refine rd_gn ?_
      with_reducible refine rd_seq ?_
      have hi4 : i ≤ 3 := by omega
      refine rd_asg (rd_call (rd_cons (rd_var rfl (rd_cons (rd_var rfl (rd_nil ⟨a, ns, _, rfl, s0, hlen, hbits, by omega, by omega, fun H1 p r m sm hp c1 hm => rd_gn ?_⟩))))))
      have s1 : Same Hs (hide (only p) H1) := fun b u hb => by
        have nb : b ≠ p := ne_of_none' hb hp
        rw [hide_but nb]
        exact sm b u hb
      have hvp : Hv (some p) (only p) H1 := ⟨fun b e => by cases e; exact SoftAt.lst c1, fun b e => by cases e; exact ⟨rfl, r, m, c1, hm⟩⟩
      dsimp only
      refine run_block (Ob := Ob8) (W := (W8 K CE CM CG).at nz) (p := some p) (B := only p) (pD := { nx := fun env => ∃ xs : List (PV Ob8), env = .sh (.ob (.scr ns)) :: xs ∧ xs.length = 6, rt := fun _ _ => False, bk := fun _ => False, ct := fun _ => False }) (env := [.sh (.ob (.scr ns)), .no, .sh .src, .no, .no, .no, .no]) (by exact (snd_seq (snd_asg (m := false) (snd_lst (snd_cons (snd_call (dds := []) trivial (by rfl) (snd_cons snd_var (snd_cons snd_cint snd_nil))) (snd_cons (snd_call (dds := []) trivial (by rfl) (snd_cons snd_var (snd_cons (snd_call (dds := []) trivial (by rfl) (snd_cons snd_var (snd_cons snd_cint snd_nil))) (snd_cons snd_cint snd_nil)))) (snd_cons (snd_call (dds := []) hz (by rfl) (snd_cons snd_var snd_nil)) snd_nil))))) (snd_for (snd_piL snd_var) snd_gNS (snd_seq (snd_par (i := 5) (j := 6) (m1 := false) (m2 := false) (by decide) (snd_call (dds := []) hz (by rfl) (snd_cons snd_var snd_nil)) (snd_join snd_cstr (snd_call (dds := []) trivial (by rfl) (snd_cons snd_var snd_nil)))) (snd_seq (snd_ifS (snd_not (snd_tB (snd_call (dds := []) hz (by rfl) (snd_cons (snd_lst (snd_cons (snd_call (dds := []) hz (by rfl) (snd_cons snd_var snd_nil)) (snd_cons (snd_callK0 hz (fun _ _ h => FTextP_len h) (snd_cons snd_var snd_nil)) snd_nil))) (snd_cons (snd_lst (snd_cons snd_var (snd_cons snd_var snd_nil))) snd_nil))))) (snd_ret snd_cbl) snd_next) (snd_seq (snd_ifS (snd_or (snd_not (snd_test (snd_op (snd_call (dds := []) hz (by rfl) (snd_cons snd_var snd_nil)) snd_var (snd_rEqI hz (okd := isEdD) (edD_ok ZE hz))))) (snd_not (snd_test (snd_op (snd_callK0 hz (fun _ _ h => FReadP_len h) (snd_cons snd_var snd_nil)) snd_var (snd_rEqI hz (okd := isEdD) (edD_ok ZE hz)))))) (snd_ret snd_cbl) snd_next) (snd_ifS (snd_test (snd_op (snd_call (dds := []) hz (by rfl) (snd_cons (snd_call (dds := []) hz (by rfl) (snd_cons snd_var snd_nil)) snd_nil)) snd_var snd_rNe)) (snd_ret snd_cbl) snd_next))))))) hvp ?_ ?_ ?_ ?_ (fun _ _ _ _ z => z.elim) (fun _ _ _ _ _ z => z.elim) (fun _ _ _ _ _ z => z.elim)
      · refine .cons ⟨_, rfl, .ob ?_⟩ (.cons trivial (.cons ⟨_, rfl, .src rfl⟩ (.cons trivial (.cons trivial (.cons trivial (.cons trivial .nil))))))
        rw [show ((W8 K CE CM CG).at nz).fz = fun _ => False from rfl, thaw_none]
        exact ⟨a, rfl, s1.seq s0⟩
      · intro x hx
        simp only [List.mem_cons, List.not_mem_nil, or_false] at hx
        rcases hx with rfl | rfl | rfl | rfl | rfl | rfl | rfl <;> rfl
      · -- the plans
        have fin : ∀ d1 d2 d3 : D8, (∀ d ∈ [d1, d2, d3], ∃ rows sets rest, d = planQ rows sets rest ∧ GoodT rows sets) → pFor (piL (pVar 3)) (pgN 4) (turn80 K CE CM CG) { nx := fun env => ∃ xs : List (PV Ob8), env = .sh (.ob (.scr ns)) :: xs ∧ xs.length = 6, rt := fun _ _ => False, bk := fun _ => False, ct := fun _ => False }
            [.sh (.ob (.scr ns)), .no, .sh .src, .sh (.lst [d1, d2, d3]), .no, .no, .no] := by
          intro d1 d2 d3 hP
          obtain ⟨I, hI⟩ : ∃ I : Nat → PEnv Ob8 → Prop, ∀ i env, I i env ↔ ∃ x4 x5 x6 : PV Ob8, env = [.sh (.ob (.scr ns)), .no, .sh .src, .sh (.lst [d1, d2, d3]), x4, x5, x6] := ⟨_, fun _ _ => Iff.rfl⟩
          refine for_in [d1, d2, d3] I (fun Q q => by walk_at "pu"; exact q) ((hI _ _).mpr ⟨_, _, _, rfl⟩) ?_ (fun env' hi => by obtain ⟨x4, x5, x6, rfl⟩ := (hI _ _).mp hi; exact ⟨_, rfl, rfl⟩)
          intro i d env' hd hi
          obtain ⟨x4, x5, x6, rfl⟩ := (hI _ _).mp hi
          obtain ⟨rows, sets, rest, rfl, hg⟩ := hP d (List.mem_of_getElem? hd)
          exact turn80_ok hg fun x5 x6 => (hI _ _).mpr ⟨_, _, _, rfl⟩
        walk_at "pu"
        have nr : ¬ Fl.fr = Fl.raw := fun h => Fl.noConfusion h
        refine ⟨4, rfl, by decide, by decide, fun r1 t1 u1 G1 l1 _ => ⟨4, rfl, by decide, by decide, fun r2 t2 u2 G2 l2 _ => ⟨nr, r2, t2, u2, 8, 0, 6, rfl, G2, by decide, by decide, by omega, by decide, fun r3 t3 G3 l3 => ⟨rfl, fun t4 G4 => ⟨nr, nr, nr, go (fin _ _ _ fun d hd => ?_)⟩⟩⟩⟩⟩
        simp only [List.mem_cons, List.not_mem_nil, or_false] at hd
        rcases hd with rfl | rfl | rfl
        · exact ⟨r1, t1, [u1], rfl, G1.t (by omega) (by decide) (by decide)⟩
        · exact ⟨r3, t3, [.non], rfl, G3.t (by omega) (by decide) (by decide)⟩
        · exact ⟨greatR, t4, [], rfl, G4⟩
      · intro σ' H' env' g sl he
        obtain ⟨xs, rfl, hxs⟩ := he
        obtain ⟨s, σ2, rfl, hs, hl⟩ := sl_first sl
        obtain ⟨v, rfl, hv⟩ := hs
        cases hv with
        | ob h =>
          rw [show ((W8 K CE CM CG).at nz).fz = fun _ => False from rfl, thaw_none] at h
          obtain ⟨a', rfl, h'⟩ := h
          refine ⟨a', σ2, rfl, by rw [hl, List.length_map]; exact hxs, seq_hide h'⟩
    · rintro σ Hs ⟨a, vs, rfl, hvs, s0⟩
      obtain ⟨v1, v2, v3, v4, v5, v6, rfl⟩ := lenN hvs
      walk_at "rd"
      exact k _
end
end Pu
/-! ### one class of errors, as the top has written it -/
namespace Gk
open PySem PySem.W PySem.Spec PyProof.Rows L2 NdefX
/-- an error class's __init__ as it is written -/
structure ErrSt (st : Stmt) (fld : Str) : Prop where
  ex : ∃ (txt : Str) (j : Nat) (p0 p1 p2 p3 p4 p5 p6 p7 p8 p9 : Pos), defBody st = errBody txt fld j p0 p1 p2 p3 p4 p5 p6 p7 p8 p9 ∧ SupEval txt j p0 p1 p2 p3 p4
  sc : nscB ["self", fld, "__class__"] ["self", fld] ["__class__"] (defScope st) = true
  su : (defScope st).names.lookup ("super" : Str) = some .globalImplicit
  arg : ∃ ar : Arg, ((defArgs st).posonlyargs ++ (defArgs st).args).head? = some ar ∧ ar.arg = "self"
  bnd : ∀ (q : Str) (cl : List (Str × Addr)) (kV doc pm ct cdv : Value) (an : Option Addr) (u v : Value), bindArgs (fnX "__init__" q (defArgs st) (defBody st) (defScope st) cl .none kV doc pm an cdv ct) ⟨[u, v], []⟩ = pure ([("self", u), (fld, v)] : List (Str × Value))
  kwb : ∀ (q : Str) (cl : List (Str × Addr)) (kV doc pm ct cdv : Value) (an : Option Addr) (u v : Value), bindArgs (fnX "__init__" q (defArgs st) (defBody st) (defScope st) cl .none kV doc pm an cdv ct) ⟨[u], [(fld, v)]⟩ = pure ([("self", u), (fld, v)] : List (Str × Value))
def noFd : FuncData := fnX "" "" ⟨[], [], none, [], [], none, []⟩ [] ⟨.function, [], false, false, []⟩ [] .none .none .none .none none .none .none
/-- the def at f -/
def fdAt (K : Frag) (f : Addr) : FuncData := match K.lookup f with
  | some ⟨_, _, .func fd, _⟩ => fd
  | _ => noFd
theorem fdAt_of {K : Frag} {f : Addr} {oc : Value} {od : Option Addr} {fd : FuncData} {osl : Array (Option Value)} (h : K.lookup f = some ⟨oc, od, .func fd, osl⟩) : fdAt K f = fd := by
  unfold fdAt
  rw [h]
/-- the objects of an error class, as they are written -/
structure ErrObj (P : Program) (K : Frag) (st : Stmt) (C fI : Addr) : Prop where
  cls : ∃ nm q N bs bm sn sub ab col dd k0 k1 k2 k3 k5, K.lookup C = some (excClassObj nm q C N bs bm true sn sub ab col dd k0 k1 k2 k3 k5 "ValueError.__new__") ∧ PySem.HandSPX.refsVE bm = true
  fn : ∃ (oc kV doc pm ct ccl cl : Value) (od an cdd cld : Option Addr) (osl ccs csl : Array (Option Value)) (q : Str) (cc cd : Addr) (vs : Array Value) (file : Str) (tf : Tok),
    K.lookup fI = some ⟨oc, od, .func (fnX "__init__" q (defArgs st) (defBody st) (defScope st) [("__class__", cc)] .none kV doc pm an (.ref cd) ct), osl⟩ ∧ codeIn K (.ref cd) q = true ∧ K.lookup cd = some ⟨ccl, cdd, .fields vs, ccs⟩ ∧ vs[2]? = some (.str file tf) ∧ ((P.main.file : Str) == file) = true ∧
    K.lookup cc = some ⟨cl, cld, .cell (some (.ref C)), csl⟩
theorem errObj_mk {P : Program} {K : Frag} {st : Stmt} {C fI : Addr} {nm q0 : Str} {N : Addr} {bs bm : List Value} {sn : List Str} {sub : List Value} {ab : Bool} {col : Option Bool} {dd : Option Addr} {k0 k1 k2 k3 k5 : Option Value}
    {oc kV doc pm ct ccl cl : Value} {od an cdd cld : Option Addr} {osl ccs csl : Array (Option Value)} {q : Str} {cc cd : Addr} {vs : Array Value} {file : Str} {tf : Tok}
    (lC : K.lookup C = some (excClassObj nm q0 C N bs bm true sn sub ab col dd k0 k1 k2 k3 k5 "ValueError.__new__")) (hb : PySem.HandSPX.refsVE bm = true)
    (lI : K.lookup fI = some ⟨oc, od, .func (fnX "__init__" q (defArgs st) (defBody st) (defScope st) [("__class__", cc)] .none kV doc pm an (.ref cd) ct), osl⟩) (hc : codeIn K (.ref cd) q = true) (ld : K.lookup cd = some ⟨ccl, cdd, .fields vs, ccs⟩) (h2 : vs[2]? = some (.str file tf)) (hf : ((P.main.file : Str) == file) = true)
    (lc : K.lookup cc = some ⟨cl, cld, .cell (some (.ref C)), csl⟩) : ErrObj P K st C fI :=
  ⟨⟨nm, q0, N, bs, bm, sn, sub, ab, col, dd, k0, k1, k2, k3, k5, lC, hb⟩, ⟨oc, kV, doc, pm, ct, ccl, cl, od, an, cdd, cld, osl, ccs, csl, q, cc, cd, vs, file, tf, lI, hc, ld, h2, hf, lc⟩⟩
/-- the answers that a class of errors gives -/
def errChk (K : Frag) (x fld : Str) (C fI : Addr) : Bool :=
  nsIn K mainGlobals x == some (some (.ref C)) && (findIn K (.ref C) "__init__" == some (some (.ref fI)) && (typeIn K (.ref fI) == some (.type "function") && (findIn K (.ref C) fld == some none && (subIn K (.ref C) (.type "ValueError") == some true && (mroIn K C (.ref C) == some true &&
  (ks_superIn K C C "__init__" == some (some (.builtin "ValueError.__init__")) && (findIn K (.ref C) "__setattr__" == some (some (.builtin "object.__setattr__")) && (subIn K (.ref C) (.type "BaseException") == some true && (typeIn K (.ref C) == some (.type "type") && (keepIn K (.ref C) &&
  (findIn K (.ref C) "__getattribute__" == some (some (.builtin "BaseException.__getattribute__")) && (findIn K (.ref C) "__getattr__" == some none && (hasDictIn K C && (findIn K (.ref C) "__class__" == some (some (.builtin "object.__class__")) && mroIn K C (.type "object") == some true))))))))))))))
section
variable {P : Program} {K : Frag} {mg : Str → Option Value} {C fI : Addr} {x fld : Str} {st : Stmt} {h : Heap}
theorem err_one (X : K.In h) (NS : h.Ns mainGlobals mg) (S : ErrSt st fld) (fd1 : (fld == ("__debug__" : Str)) = false) (fd2 : (fld == ("__classdict__" : Str)) = false) (O : ErrObj P K st C fI) (e1 : errChk K x fld C fI = true) (sup : mg "super" = none)
    (top : (P.main.scope.names.lookup ("super" : Str)).isSome = false) (opq : nsIn K cStatics "thirdparty.any" = some none) : ErrTxt P K mg x C fI (fdAt K fI) fld ∧ Binds K (fdAt K fI) ["self", fld] [] ∧ XfC K C ∧ findIn K (.ref C) fld = some none := by
  unfold errChk at e1
  simp only [Bool.and_eq_true] at e1
  obtain ⟨a1, a2, a3, a4, a5, a6, a7, a8, a9, a10, a11, a12, a13, a14, a15, a16⟩ := e1
  obtain ⟨oc, kV, doc, pm, ct, ccl, cl, od, an, cdd, cld, osl, ccs, csl, q, cc, cd, vs, file, tf, lI, hc, ld, h2, hf, lc⟩ := O.fn
  obtain ⟨txt, j, p0, p1, p2, p3, p4, p5, p6, p7, p8, p9, hb, hev⟩ := S.ex
  obtain ⟨ar, ha, hself⟩ := S.arg
  have efd := fdAt_of lI
  refine ⟨⟨⟨O.cls, beq_iff_eq.mp a8, beq_iff_eq.mp a9, beq_iff_eq.mp a10, a11⟩, mg_of X NS (beq_iff_eq.mp a1), beq_iff_eq.mp a2, beq_iff_eq.mp a3, beq_iff_eq.mp a4, beq_iff_eq.mp a5, beq_iff_eq.mp a6, beq_iff_eq.mp a7, sup,
    ⟨oc, kV, doc, pm, ct, ccl, cl, od, an, cdd, cld, osl, ccs, csl, q, defArgs st, defScope st, txt, j, p0, p1, p2, p3, p4, p5, p6, p7, p8, p9, cc, cd, vs, file, tf, ar, by rw [efd, hb], by rw [efd]; exact lI, hc, ld, h2, hf, lc, nscope_by S.sc, S.su, ha, hself, hev⟩, fd1, fd2, top, opq⟩, ?_,
    ⟨beq_iff_eq.mp a12, beq_iff_eq.mp a13, beq_iff_eq.mp a9, a14⟩, beq_iff_eq.mp a4⟩
  rw [efd]
  exact .all fun us hl => match us, hl with | [u, v], _ => S.bnd _ _ _ _ _ _ _ _ u v
end
end Gk
/-! ### everything as it is written -/
namespace Gk
open PySem PySem.W PySem.Spec PyProof.Rows L2 NdefX
abbrev sNoSet : Stmt := (inClass (top 13) 0)
theorem stNoSet : ErrSt sNoSet "value" := ⟨⟨_, _, _, _, _, _, _, _, _, _, _, _, rfl, fun env => ⟨_, rfl⟩⟩, by decide +kernel, by decide +kernel, ⟨_, rfl, rfl⟩, fun _ _ _ _ _ _ _ _ _ _ => rfl, fun _ _ _ _ _ _ _ _ _ _ => rfl⟩
def none2 (K : Frag) : Bool := (["range", "max", "min", "len", "enumerate", "zip", "list", "dict", "tuple", "sorted", "set", "any", "all", "isinstance", "str", "int", "bool", "repr", "sum", "super"] : List Str).all fun x => nsIn K mainGlobals x == some none
/-- what the text says of a class -/
def cls2 (K : Frag) (C : Addr) : Bool :=
  plainGet K C Str.empty && (hasDictIn K C && (plainOver K C && (findIn K (.ref C) "__setattr__" == some (some (.builtin "object.__setattr__")) && (findIn K (.ref C) "__class__" == some (some (.builtin "object.__class__")) && (mroIn K C (.type "object") == some true && (kitOne K (.ref C) (.ref C) == some true &&
  (kinds7.all (fun T => kitOne K (.type T) (.ref C) == some false) && kinds7.all (fun T => notFirst K C (.type T)))))))))
theorem cls2_of {K : Frag} {C : Addr} (h : cls2 K C = true) (hn : specialIn K (.builtin "object.__class__") "__get__" = some (some (.builtin "getset_descriptor.__get__"))) (ht : takesIn K (.builtin "object.__class__") = some true) : ClsQ K C := by
  unfold cls2 at h
  simp only [Bool.and_eq_true] at h
  obtain ⟨a1, a2, a3, a4, a5, a6, a7, a8, a9⟩ := h
  exact ⟨⟨a1, a2, a3, beq_iff_eq.mp a4⟩, beq_iff_eq.mp a5, hn, ht, beq_iff_eq.mp a6, beq_iff_eq.mp a7, fun T hT => beq_iff_eq.mp (List.all_eq_true.mp a8 T hT), fun T hT => List.all_eq_true.mp a9 T hT⟩
def no2 (K : Frag) (C : Addr) (fs : List Str) : Bool := fs.all fun f => findIn K (.ref C) f == some none
theorem no2_of {K : Frag} {C : Addr} {fs : List Str} (h : no2 K C fs = true) (f : Str) (hf : f ∈ fs) : NoAttr K C f := beq_iff_eq.mp (List.all_eq_true.mp h f hf)
theorem all_mk80 {l : PySem.W.OpenLaw} {w : World} {K : Frag} {h : Heap} {mg : Str → Option Value} {fa CE CG CM CN1 fN1 aStm aDrw aChs aShf aNms aPla aCpy aPlc aFur aChg aLat aLed aLin aGre aSam aTxt aRed aEdi aNum aNam aInt aEnt aRow aCho aGro aLaw aEin tEin pEn pEs pGn aEnm aEst aEeq aEge aEgr aMin aGin aGnm : Addr} {odStm anStm : Option Addr} {slStm : Array (Option Value)} {ocStm kVStm dcStm pmStm cdStm ctStm : Value} {odDrw anDrw : Option Addr} {slDrw : Array (Option Value)} {ocDrw kVDrw dcDrw pmDrw cdDrw ctDrw : Value} {odChs anChs : Option Addr} {slChs : Array (Option Value)} {ocChs kVChs dcChs pmChs cdChs ctChs : Value} {odShf anShf : Option Addr} {slShf : Array (Option Value)} {ocShf kVShf dcShf pmShf cdShf ctShf : Value} {odNms anNms : Option Addr} {slNms : Array (Option Value)} {ocNms kVNms dcNms pmNms cdNms ctNms : Value} {odPla anPla : Option Addr} {slPla : Array (Option Value)} {ocPla kVPla dcPla pmPla cdPla ctPla : Value} {odCpy anCpy : Option Addr} {slCpy : Array (Option Value)} {ocCpy kVCpy dcCpy pmCpy cdCpy ctCpy : Value} {odPlc anPlc : Option Addr} {slPlc : Array (Option Value)} {ocPlc kVPlc dcPlc pmPlc cdPlc ctPlc : Value} {odFur anFur : Option Addr} {slFur : Array (Option Value)} {ocFur kVFur dcFur pmFur cdFur ctFur : Value} {odChg anChg : Option Addr} {slChg : Array (Option Value)} {ocChg kVChg dcChg pmChg cdChg ctChg : Value} {odLat anLat : Option Addr} {slLat : Array (Option Value)} {ocLat kVLat dcLat pmLat cdLat ctLat : Value} {odLed anLed : Option Addr} {slLed : Array (Option Value)} {ocLed kVLed dcLed pmLed cdLed ctLed : Value} {odLin anLin : Option Addr} {slLin : Array (Option Value)} {ocLin kVLin dcLin pmLin cdLin ctLin : Value} {odGre anGre : Option Addr} {slGre : Array (Option Value)} {ocGre kVGre dcGre pmGre cdGre ctGre : Value} {odSam anSam : Option Addr} {slSam : Array (Option Value)} {ocSam kVSam dcSam pmSam cdSam ctSam : Value} {odTxt anTxt : Option Addr} {slTxt : Array (Option Value)} {ocTxt kVTxt dcTxt pmTxt cdTxt ctTxt : Value} {odRed anRed : Option Addr} {slRed : Array (Option Value)} {ocRed kVRed dcRed pmRed cdRed ctRed : Value} {odEdi anEdi : Option Addr} {slEdi : Array (Option Value)} {ocEdi kVEdi dcEdi pmEdi cdEdi ctEdi : Value} {odNum anNum : Option Addr} {slNum : Array (Option Value)} {ocNum kVNum dcNum pmNum cdNum ctNum : Value} {odNam anNam : Option Addr} {slNam : Array (Option Value)} {ocNam kVNam dcNam pmNam cdNam ctNam : Value} {odInt anInt : Option Addr} {slInt : Array (Option Value)} {ocInt kVInt dcInt pmInt cdInt ctInt : Value} {odEnt anEnt : Option Addr} {slEnt : Array (Option Value)} {ocEnt kVEnt dcEnt pmEnt cdEnt ctEnt : Value} {odRow anRow : Option Addr} {slRow : Array (Option Value)} {ocRow kVRow dcRow pmRow cdRow ctRow : Value} {odCho anCho : Option Addr} {slCho : Array (Option Value)} {ocCho kVCho dcCho pmCho cdCho ctCho : Value} {odGro anGro : Option Addr} {slGro : Array (Option Value)} {ocGro kVGro dcGro pmGro cdGro ctGro : Value} {odLaw anLaw : Option Addr} {slLaw : Array (Option Value)} {ocLaw kVLaw dcLaw pmLaw cdLaw ctLaw : Value} {dEin : Option Addr} {clEin : Value} {nEin : Nat} {ssEin : Array (Option Value)} {rEnm rEst rGnm : List Value} {odEin anEin : Option Addr} {slEin : Array (Option Value)} {ocEin kVEin dcEin pmEin cdEin ctEin : Value} {odEnm anEnm : Option Addr} {slEnm : Array (Option Value)} {ocEnm kVEnm dcEnm pmEnm cdEnm ctEnm : Value} {odEst anEst : Option Addr} {slEst : Array (Option Value)} {ocEst kVEst dcEst pmEst cdEst ctEst : Value} {odEeq anEeq : Option Addr} {slEeq : Array (Option Value)} {ocEeq kVEeq dcEeq pmEeq cdEeq ctEeq : Value} {odEge anEge : Option Addr} {slEge : Array (Option Value)} {ocEge kVEge dcEge pmEge cdEge ctEge : Value} {odEgr anEgr : Option Addr} {slEgr : Array (Option Value)} {ocEgr kVEgr dcEgr pmEgr cdEgr ctEgr : Value} {odMin anMin : Option Addr} {slMin : Array (Option Value)} {ocMin kVMin dcMin pmMin cdMin ctMin : Value} {odGin anGin : Option Addr} {slGin : Array (Option Value)} {ocGin kVGin dcGin pmGin cdGin ctGin : Value} {odGnm anGnm : Option Addr} {slGnm : Array (Option Value)} {ocGnm kVGnm dcGnm pmGnm cdGnm ctGnm : Value} {tk1 tk2 tk3 tk4 tk5 tk6 : Tok} (X : K.In h) (NS : h.Ns mainGlobals mg) (hfa : mg "law" = some (.ref fa))
    (gCE : nsIn K mainGlobals "Edition" = some (some (.ref CE)))
    (gCG : nsIn K mainGlobals "Group" = some (some (.ref CG)))
    (gCM : nsIn K mainGlobals "Member" = some (some (.ref CM)))
    (gStm : nsIn K mainGlobals "_law_stream" = some (some (.ref aStm)))
    (lStm : K.lookup aStm = some ⟨ocStm, odStm, .func (PySem.W.fnOf "_law_stream" "_law_stream" (defArgs sStream) (defBody sStream) (defScope sStream) .none kVStm dcStm pmStm anStm cdStm ctStm), slStm⟩) (qStm : codeIn K cdStm "_law_stream" = true) (kStm : keepIn K (.ref aStm) = true)
    (gDrw : nsIn K mainGlobals "_law_draw" = some (some (.ref aDrw)))
    (lDrw : K.lookup aDrw = some ⟨ocDrw, odDrw, .func (PySem.W.fnOf "_law_draw" "_law_draw" (defArgs sDrawP) (defBody sDrawP) (defScope sDrawP) .none kVDrw dcDrw pmDrw anDrw cdDrw ctDrw), slDrw⟩) (qDrw : codeIn K cdDrw "_law_draw" = true) (kDrw : keepIn K (.ref aDrw) = true)
    (gChs : nsIn K mainGlobals "_law_choose" = some (some (.ref aChs)))
    (lChs : K.lookup aChs = some ⟨ocChs, odChs, .func (PySem.W.fnOf "_law_choose" "_law_choose" (defArgs sChoose) (defBody sChoose) (defScope sChoose) .none kVChs dcChs pmChs anChs cdChs ctChs), slChs⟩) (qChs : codeIn K cdChs "_law_choose" = true) (kChs : keepIn K (.ref aChs) = true)
    (gShf : nsIn K mainGlobals "_law_shuffled" = some (some (.ref aShf)))
    (lShf : K.lookup aShf = some ⟨ocShf, odShf, .func (PySem.W.fnOf "_law_shuffled" "_law_shuffled" (defArgs sShuf) (defBody sShuf) (defScope sShuf) .none kVShf dcShf pmShf anShf cdShf ctShf), slShf⟩) (qShf : codeIn K cdShf "_law_shuffled" = true) (kShf : keepIn K (.ref aShf) = true)
    (gNms : nsIn K mainGlobals "_law_names" = some (some (.ref aNms)))
    (lNms : K.lookup aNms = some ⟨ocNms, odNms, .func (PySem.W.fnOf "_law_names" "_law_names" (defArgs Pu.sP_names) (defBody Pu.sP_names) (defScope Pu.sP_names) .none kVNms dcNms pmNms anNms cdNms ctNms), slNms⟩) (qNms : codeIn K cdNms "_law_names" = true) (kNms : keepIn K (.ref aNms) = true)
    (gPla : nsIn K mainGlobals "_law_plan" = some (some (.ref aPla)))
    (lPla : K.lookup aPla = some ⟨ocPla, odPla, .func (PySem.W.fnOf "_law_plan" "_law_plan" (defArgs Pu.sP_plan) (defBody Pu.sP_plan) (defScope Pu.sP_plan) .none kVPla dcPla pmPla anPla cdPla ctPla), slPla⟩) (qPla : codeIn K cdPla "_law_plan" = true) (kPla : keepIn K (.ref aPla) = true)
    (gCpy : nsIn K mainGlobals "_law_copy" = some (some (.ref aCpy)))
    (lCpy : K.lookup aCpy = some ⟨ocCpy, odCpy, .func (PySem.W.fnOf "_law_copy" "_law_copy" (defArgs Pu.sP_copy) (defBody Pu.sP_copy) (defScope Pu.sP_copy) .none kVCpy dcCpy pmCpy anCpy cdCpy ctCpy), slCpy⟩) (qCpy : codeIn K cdCpy "_law_copy" = true) (kCpy : keepIn K (.ref aCpy) = true)
    (gPlc : nsIn K mainGlobals "_law_place" = some (some (.ref aPlc)))
    (lPlc : K.lookup aPlc = some ⟨ocPlc, odPlc, .func (PySem.W.fnOf "_law_place" "_law_place" (defArgs Pu.sP_place) (defBody Pu.sP_place) (defScope Pu.sP_place) .none kVPlc dcPlc pmPlc anPlc cdPlc ctPlc), slPlc⟩) (qPlc : codeIn K cdPlc "_law_place" = true) (kPlc : keepIn K (.ref aPlc) = true)
    (gFur : nsIn K mainGlobals "_law_further" = some (some (.ref aFur)))
    (lFur : K.lookup aFur = some ⟨ocFur, odFur, .func (PySem.W.fnOf "_law_further" "_law_further" (defArgs Pu.sP_further) (defBody Pu.sP_further) (defScope Pu.sP_further) .none kVFur dcFur pmFur anFur cdFur ctFur), slFur⟩) (qFur : codeIn K cdFur "_law_further" = true) (kFur : keepIn K (.ref aFur) = true)
    (gChg : nsIn K mainGlobals "_law_changed" = some (some (.ref aChg)))
    (lChg : K.lookup aChg = some ⟨ocChg, odChg, .func (PySem.W.fnOf "_law_changed" "_law_changed" (defArgs Pu.sP_changed) (defBody Pu.sP_changed) (defScope Pu.sP_changed) .none kVChg dcChg pmChg anChg cdChg ctChg), slChg⟩) (qChg : codeIn K cdChg "_law_changed" = true) (kChg : keepIn K (.ref aChg) = true)
    (gLat : nsIn K mainGlobals "_law_later" = some (some (.ref aLat)))
    (lLat : K.lookup aLat = some ⟨ocLat, odLat, .func (PySem.W.fnOf "_law_later" "_law_later" (defArgs Pu.sP_later) (defBody Pu.sP_later) (defScope Pu.sP_later) .none kVLat dcLat pmLat anLat cdLat ctLat), slLat⟩) (qLat : codeIn K cdLat "_law_later" = true) (kLat : keepIn K (.ref aLat) = true)
    (gLed : nsIn K mainGlobals "_law_edition" = some (some (.ref aLed)))
    (lLed : K.lookup aLed = some ⟨ocLed, odLed, .func (PySem.W.fnOf "_law_edition" "_law_edition" (defArgs Pu.sP_pedit) (defBody Pu.sP_pedit) (defScope Pu.sP_pedit) .none kVLed dcLed pmLed anLed cdLed ctLed), slLed⟩) (qLed : codeIn K cdLed "_law_edition" = true) (kLed : keepIn K (.ref aLed) = true)
    (gLin : nsIn K mainGlobals "_law_lines" = some (some (.ref aLin)))
    (lLin : K.lookup aLin = some ⟨ocLin, odLin, .func (PySem.W.fnOf "_law_lines" "_law_lines" (defArgs Pu.sP_lines) (defBody Pu.sP_lines) (defScope Pu.sP_lines) .none kVLin dcLin pmLin anLin cdLin ctLin), slLin⟩) (qLin : codeIn K cdLin "_law_lines" = true) (kLin : keepIn K (.ref aLin) = true)
    (gGre : nsIn K mainGlobals "_law_great" = some (some (.ref aGre)))
    (lGre : K.lookup aGre = some ⟨ocGre, odGre, .func (PySem.W.fnOf "_law_great" "_law_great" (defArgs Pu.sP_great) (defBody Pu.sP_great) (defScope Pu.sP_great) .none kVGre dcGre pmGre anGre cdGre ctGre), slGre⟩) (qGre : codeIn K cdGre "_law_great" = true) (kGre : keepIn K (.ref aGre) = true)
    (gSam : nsIn K mainGlobals "_law_same" = some (some (.ref aSam)))
    (lSam : K.lookup aSam = some ⟨ocSam, odSam, .func (PySem.W.fnOf "_law_same" "_law_same" (defArgs Pu.sP_same) (defBody Pu.sP_same) (defScope Pu.sP_same) .none kVSam dcSam pmSam anSam cdSam ctSam), slSam⟩) (qSam : codeIn K cdSam "_law_same" = true) (kSam : keepIn K (.ref aSam) = true)
    (gTxt : nsIn K mainGlobals "edition_text" = some (some (.ref aTxt)))
    (lTxt : K.lookup aTxt = some ⟨ocTxt, odTxt, .func (PySem.W.fnOf "edition_text" "edition_text" (defArgs Pu.sP_etext) (defBody Pu.sP_etext) (defScope Pu.sP_etext) .none kVTxt dcTxt pmTxt anTxt cdTxt ctTxt), slTxt⟩) (qTxt : codeIn K cdTxt "edition_text" = true) (kTxt : keepIn K (.ref aTxt) = true)
    (gRed : nsIn K mainGlobals "read_edition" = some (some (.ref aRed)))
    (lRed : K.lookup aRed = some ⟨ocRed, odRed, .func (PySem.W.fnOf "read_edition" "read_edition" (defArgs Pu.sP_redit) (defBody Pu.sP_redit) (defScope Pu.sP_redit) .none kVRed dcRed pmRed anRed cdRed ctRed), slRed⟩) (qRed : codeIn K cdRed "read_edition" = true) (kRed : keepIn K (.ref aRed) = true)
    (gEdi : nsIn K mainGlobals "_edition_in" = some (some (.ref aEdi)))
    (lEdi : K.lookup aEdi = some ⟨ocEdi, odEdi, .func (PySem.W.fnOf "_edition_in" "_edition_in" (defArgs Pu.sP_edin) (defBody Pu.sP_edin) (defScope Pu.sP_edin) .none kVEdi dcEdi pmEdi anEdi cdEdi ctEdi), slEdi⟩) (qEdi : codeIn K cdEdi "_edition_in" = true) (kEdi : keepIn K (.ref aEdi) = true)
    (gNum : nsIn K mainGlobals "_number_of" = some (some (.ref aNum)))
    (lNum : K.lookup aNum = some ⟨ocNum, odNum, .func (PySem.W.fnOf "_number_of" "_number_of" (defArgs Pu.sP_numof) (defBody Pu.sP_numof) (defScope Pu.sP_numof) .none kVNum dcNum pmNum anNum cdNum ctNum), slNum⟩) (qNum : codeIn K cdNum "_number_of" = true) (kNum : keepIn K (.ref aNum) = true)
    (gNam : nsIn K mainGlobals "is_name" = some (some (.ref aNam)))
    (lNam : K.lookup aNam = some ⟨ocNam, odNam, .func (PySem.W.fnOf "is_name" "is_name" (defArgs sIsName) (defBody sIsName) (defScope sIsName) .none kVNam dcNam pmNam anNam cdNam ctNam), slNam⟩) (qNam : codeIn K cdNam "is_name" = true) (kNam : keepIn K (.ref aNam) = true)
    (gInt : nsIn K mainGlobals "is_integer" = some (some (.ref aInt)))
    (lInt : K.lookup aInt = some ⟨ocInt, odInt, .func (PySem.W.fnOf "is_integer" "is_integer" (defArgs sIsInt) (defBody sIsInt) (defScope sIsInt) .none kVInt dcInt pmInt anInt cdInt ctInt), slInt⟩) (qInt : codeIn K cdInt "is_integer" = true) (kInt : keepIn K (.ref aInt) = true)
    (gEnt : nsIn K mainGlobals "_is_entry" = some (some (.ref aEnt)))
    (lEnt : K.lookup aEnt = some ⟨ocEnt, odEnt, .func (PySem.W.fnOf "_is_entry" "_is_entry" (defArgs sIsEntry) (defBody sIsEntry) (defScope sIsEntry) .none kVEnt dcEnt pmEnt anEnt cdEnt ctEnt), slEnt⟩) (qEnt : codeIn K cdEnt "_is_entry" = true) (kEnt : keepIn K (.ref aEnt) = true)
    (gRow : nsIn K mainGlobals "_rows_of" = some (some (.ref aRow)))
    (lRow : K.lookup aRow = some ⟨ocRow, odRow, .func (PySem.W.fnOf "_rows_of" "_rows_of" (defArgs sRowsOf) (defBody sRowsOf) (defScope sRowsOf) .none kVRow dcRow pmRow anRow cdRow ctRow), slRow⟩) (qRow : codeIn K cdRow "_rows_of" = true) (kRow : keepIn K (.ref aRow) = true)
    (gCho : nsIn K mainGlobals "_is_choice" = some (some (.ref aCho)))
    (lCho : K.lookup aCho = some ⟨ocCho, odCho, .func (PySem.W.fnOf "_is_choice" "_is_choice" (defArgs sIsChoice) (defBody sIsChoice) (defScope sIsChoice) .none kVCho dcCho pmCho anCho cdCho ctCho), slCho⟩) (qCho : codeIn K cdCho "_is_choice" = true) (kCho : keepIn K (.ref aCho) = true)
    (gGro : nsIn K mainGlobals "_groups_of" = some (some (.ref aGro)))
    (lGro : K.lookup aGro = some ⟨ocGro, odGro, .func (PySem.W.fnOf "_groups_of" "_groups_of" (defArgs sGroupsOf) (defBody sGroupsOf) (defScope sGroupsOf) .none kVGro dcGro pmGro anGro cdGro ctGro), slGro⟩) (qGro : codeIn K cdGro "_groups_of" = true) (kGro : keepIn K (.ref aGro) = true)
    (gLaw : nsIn K mainGlobals "law" = some (some (.ref aLaw)))
    (lLaw : K.lookup aLaw = some ⟨ocLaw, odLaw, .func (PySem.W.fnOf "law" "law" (defArgs Pu.sP_law80) (defBody Pu.sP_law80) (defScope Pu.sP_law80) .none kVLaw dcLaw pmLaw anLaw cdLaw ctLaw), slLaw⟩) (qLaw : codeIn K cdLaw "law" = true) (kLaw : keepIn K (.ref aLaw) = true)
    (fEin : findIn K (.ref CE) "__init__" = some (some (.ref aEin)))
    (lEin : K.lookup aEin = some ⟨ocEin, odEin, .func (PySem.W.fnOf "__init__" "Edition.__init__" (defArgs sEdInit) (defBody sEdInit) (defScope sEdInit) (.ref tEin) kVEin dcEin pmEin anEin cdEin ctEin), slEin⟩) (qEin : codeIn K cdEin "Edition.__init__" = true) (kEin : keepIn K (.ref aEin) = true)
    (tupEin : K.lookup tEin = some ⟨clEin, dEin, .seq [Value.none].toArray nEin, ssEin⟩)
    (fEnm : findIn K (.ref CE) "names" = some (some (.ref pEn))) (sEnm : specialIn K (.ref pEn) "__get__" = some (some (.builtin "property.__get__"))) (tEnm : takesIn K (.ref pEn) = some true) (vEnm : recIn K pEn "property" = some (.ref aEnm :: rEnm))
    (lEnm : K.lookup aEnm = some ⟨ocEnm, odEnm, .func (PySem.W.fnOf "names" "Edition.names" (defArgs sEdNames) (defBody sEdNames) (defScope sEdNames) .none kVEnm dcEnm pmEnm anEnm cdEnm ctEnm), slEnm⟩) (qEnm : codeIn K cdEnm "Edition.names" = true) (kEnm : keepIn K (.ref aEnm) = true)
    (fEst : findIn K (.ref CE) "sets" = some (some (.ref pEs))) (sEst : specialIn K (.ref pEs) "__get__" = some (some (.builtin "property.__get__"))) (tEst : takesIn K (.ref pEs) = some true) (vEst : recIn K pEs "property" = some (.ref aEst :: rEst))
    (lEst : K.lookup aEst = some ⟨ocEst, odEst, .func (PySem.W.fnOf "sets" "Edition.sets" (defArgs sEdSets) (defBody sEdSets) (defScope sEdSets) .none kVEst dcEst pmEst anEst cdEst ctEst), slEst⟩) (qEst : codeIn K cdEst "Edition.sets" = true) (kEst : keepIn K (.ref aEst) = true)
    (fEeq : findIn K (.ref CE) "__eq__" = some (some (.ref aEeq))) (iEeq : isFn K (.ref aEeq) = true)
    (lEeq : K.lookup aEeq = some ⟨ocEeq, odEeq, .func (PySem.W.fnOf "__eq__" "Edition.__eq__" (defArgs sEdEq) (defBody sEdEq) (defScope sEdEq) .none kVEeq dcEeq pmEeq anEeq cdEeq ctEeq), slEeq⟩) (qEeq : codeIn K cdEeq "Edition.__eq__" = true) (kEeq : keepIn K (.ref aEeq) = true)
    (fEge : findIn K (.ref CE) "__getitem__" = some (some (.ref aEge))) (iEge : isFn K (.ref aEge) = true)
    (lEge : K.lookup aEge = some ⟨ocEge, odEge, .func (PySem.W.fnOf "__getitem__" "Edition.__getitem__" (defArgs sEdGet) (defBody sEdGet) (defScope sEdGet) .none kVEge dcEge pmEge anEge cdEge ctEge), slEge⟩) (qEge : codeIn K cdEge "Edition.__getitem__" = true) (kEge : keepIn K (.ref aEge) = true)
    (fEgr : findIn K (.ref CE) "group" = some (some (.ref aEgr))) (iEgr : isFn K (.ref aEgr) = true)
    (lEgr : K.lookup aEgr = some ⟨ocEgr, odEgr, .func (PySem.W.fnOf "group" "Edition.group" (defArgs sEdGroup) (defBody sEdGroup) (defScope sEdGroup) .none kVEgr dcEgr pmEgr anEgr cdEgr ctEgr), slEgr⟩) (qEgr : codeIn K cdEgr "Edition.group" = true) (kEgr : keepIn K (.ref aEgr) = true)
    (fMin : findIn K (.ref CM) "__init__" = some (some (.ref aMin))) (iMin : isFn K (.ref aMin) = true)
    (lMin : K.lookup aMin = some ⟨ocMin, odMin, .func (PySem.W.fnOf "__init__" "Member.__init__" (defArgs sMemInit) (defBody sMemInit) (defScope sMemInit) .none kVMin dcMin pmMin anMin cdMin ctMin), slMin⟩) (qMin : codeIn K cdMin "Member.__init__" = true) (kMin : keepIn K (.ref aMin) = true)
    (fGin : findIn K (.ref CG) "__init__" = some (some (.ref aGin))) (iGin : isFn K (.ref aGin) = true)
    (lGin : K.lookup aGin = some ⟨ocGin, odGin, .func (PySem.W.fnOf "__init__" "Group.__init__" (defArgs sGrInit) (defBody sGrInit) (defScope sGrInit) .none kVGin dcGin pmGin anGin cdGin ctGin), slGin⟩) (qGin : codeIn K cdGin "Group.__init__" = true) (kGin : keepIn K (.ref aGin) = true)
    (fGnm : findIn K (.ref CG) "names" = some (some (.ref pGn))) (sGnm : specialIn K (.ref pGn) "__get__" = some (some (.builtin "property.__get__"))) (tGnm : takesIn K (.ref pGn) = some true) (vGnm : recIn K pGn "property" = some (.ref aGnm :: rGnm))
    (lGnm : K.lookup aGnm = some ⟨ocGnm, odGnm, .func (PySem.W.fnOf "names" "Group.names" (defArgs sGrNames) (defBody sGrNames) (defScope sGrNames) .none kVGnm dcGnm pmGnm anGnm cdGnm ctGnm), slGnm⟩) (qGnm : codeIn K cdGnm "Group.names" = true) (kGnm : keepIn K (.ref aGnm) = true)
    (jEge : fnIn K aEge = true)
    (mkE : makesIn K CE = true) (iEin : isFn K (.ref aEin) = true) (kCE : keepIn K (.ref CE) = true) (mkG : makesIn K CG = true) (kCG : keepIn K (.ref CG) = true) (mkM : makesIn K CM = true) (kCM : keepIn K (.ref CM) = true)
    (cE : cls2 K CE = true) (cG : cls2 K CG = true) (cM : cls2 K CM = true)
    (oE : no2 K CE ["_rows", "_groups", "_places", "_numbers"] = true) (oG : no2 K CG ["_edition", "_places"] = true) (oM : no2 K CM ["name", "aliases", "number", "place", "_edition"] = true) (hN : none2 K = true)
    (hn : specialIn K (.builtin "object.__class__") "__get__" = some (some (.builtin "getset_descriptor.__get__"))) (ht : takesIn K (.builtin "object.__class__") = some true)
    (aCN1 : nsIn K mainGlobals "NoSet" = some (some (.ref CN1))) (aIN1 : findIn K (.ref CN1) "__init__" = some (some (.ref fN1))) (ON1 : ErrObj l.prog K sNoSet CN1 fN1) (hE1 : errChk K "NoSet" "value" CN1 fN1 = true) (em1 : exmOne K (.ref CN1) (.ref CN1) = some true)
    (top : (l.prog.main.scope.names.lookup ("super" : Str)).isSome = false) (opq : nsIn K cStatics "thirdparty.any" = some none)
    (vLet : nsIn K mainGlobals "LETTERS" = some (some (.str letters tk1))) (vLon : nsIn K mainGlobals "LONGEST_NAME" = some (some (.int 8 tk2))) (vFar : nsIn K mainGlobals "FARTHEST_NUMBER" = some (some (.int farI tk3))) (vMem : nsIn K mainGlobals "MOST_MEMBERS" = some (some (.int 16 tk4))) (vSet : nsIn K mainGlobals "MOST_SETS" = some (some (.int 3 tk5))) (vDig : nsIn K mainGlobals "MOST_DIGITS" = some (some (.int 10 tk6))) :
    ∃ fd : FuncData, (∀ (s : Shared) (v : Value), BindsTo s fd ⟨[v], []⟩ [("script", v)]) ∧ ∀ base : Heap, K.In base → base.Ns mainGlobals mg → FnG l.prog w K mg base CX0 9 fa fd ["script"] (Pu.spLaw80 K) := by
  have e := hfa.symm.trans (mg_of X NS gLaw)
  cases e
  have none_ : ∀ x ∈ (["range", "max", "min", "len", "enumerate", "zip", "list", "dict", "tuple", "sorted", "set", "any", "all", "isinstance", "str", "int", "bool", "repr", "sum", "super"] : List Str), mg x = none := fun x hx => mg_none_of X NS (beq_iff_eq.mp (List.all_eq_true.mp hN x hx))
  have z_range : mg "range" = none := none_ _ (by simp)
  have z_max : mg "max" = none := none_ _ (by simp)
  have z_min : mg "min" = none := none_ _ (by simp)
  have z_len : mg "len" = none := none_ _ (by simp)
  have z_enumerate : mg "enumerate" = none := none_ _ (by simp)
  have z_zip : mg "zip" = none := none_ _ (by simp)
  have z_list : mg "list" = none := none_ _ (by simp)
  have z_dict : mg "dict" = none := none_ _ (by simp)
  have z_tuple : mg "tuple" = none := none_ _ (by simp)
  have z_sorted : mg "sorted" = none := none_ _ (by simp)
  have z_set : mg "set" = none := none_ _ (by simp)
  have z_any : mg "any" = none := none_ _ (by simp)
  have z_all : mg "all" = none := none_ _ (by simp)
  have z_isinstance : mg "isinstance" = none := none_ _ (by simp)
  have z_str : mg "str" = none := none_ _ (by simp)
  have z_int : mg "int" = none := none_ _ (by simp)
  have z_bool : mg "bool" = none := none_ _ (by simp)
  have z_repr : mg "repr" = none := none_ _ (by simp)
  have z_sum : mg "sum" = none := none_ _ (by simp)
  have z_super : mg "super" = none := none_ _ (by simp)
  have FStm := fun_mk (st := sStream) lStm qStm kStm
  have bStm := FStm.binds (ps := ["script", "start"]) fun _ _ _ _ _ _ us hl => match us, hl with | [_, _], _ => rfl
  have mStm := mg_of X NS gStm
  have FDrw := fun_mk (st := sDrawP) lDrw qDrw kDrw
  have bDrw := FDrw.binds (ps := ["stream", "size"]) fun _ _ _ _ _ _ us hl => match us, hl with | [_, _], _ => rfl
  have mDrw := mg_of X NS gDrw
  have FChs := fun_mk (st := sChoose) lChs qChs kChs
  have bChs := FChs.binds (ps := ["stream", "items"]) fun _ _ _ _ _ _ us hl => match us, hl with | [_, _], _ => rfl
  have mChs := mg_of X NS gChs
  have FShf := fun_mk (st := sShuf) lShf qShf kShf
  have bShf := FShf.binds (ps := ["stream", "items"]) fun _ _ _ _ _ _ us hl => match us, hl with | [_, _], _ => rfl
  have mShf := mg_of X NS gShf
  have FNms := fun_mk (st := Pu.sP_names) lNms qNms kNms
  have bNms := FNms.binds (ps := ["plan"]) fun _ _ _ _ _ _ us hl => match us, hl with | [_], _ => rfl
  have mNms := mg_of X NS gNms
  have FPla := fun_mk (st := Pu.sP_plan) lPla qPla kPla
  have bPla := FPla.binds (ps := ["stream", "many"]) fun _ _ _ _ _ _ us hl => match us, hl with | [_, _], _ => rfl
  have mPla := mg_of X NS gPla
  have FCpy := fun_mk (st := Pu.sP_copy) lCpy qCpy kCpy
  have bCpy := FCpy.binds (ps := ["plan"]) fun _ _ _ _ _ _ us hl => match us, hl with | [_], _ => rfl
  have mCpy := mg_of X NS gCpy
  have FPlc := fun_mk (st := Pu.sP_place) lPlc qPlc kPlc
  have bPlc := FPlc.binds (ps := ["plan", "name"]) fun _ _ _ _ _ _ us hl => match us, hl with | [_, _], _ => rfl
  have mPlc := mg_of X NS gPlc
  have FFur := fun_mk (st := Pu.sP_further) lFur qFur kFur
  have bFur := FFur.binds (ps := ["stream", "plan", "many"]) fun _ _ _ _ _ _ us hl => match us, hl with | [_, _, _], _ => rfl
  have mFur := mg_of X NS gFur
  have FChg := fun_mk (st := Pu.sP_changed) lChg qChg kChg
  have bChg := FChg.binds (ps := ["stream", "plan", "many"]) fun _ _ _ _ _ _ us hl => match us, hl with | [_, _, _], _ => rfl
  have mChg := mg_of X NS gChg
  have FLat := fun_mk (st := Pu.sP_later) lLat qLat kLat
  have bLat := FLat.binds (ps := ["stream", "plan", "many"]) fun _ _ _ _ _ _ us hl => match us, hl with | [_, _, _], _ => rfl
  have mLat := mg_of X NS gLat
  have FLed := fun_mk (st := Pu.sP_pedit) lLed qLed kLed
  have bLed := FLed.binds (ps := ["plan"]) fun _ _ _ _ _ _ us hl => match us, hl with | [_], _ => rfl
  have mLed := mg_of X NS gLed
  have FLin := fun_mk (st := Pu.sP_lines) lLin qLin kLin
  have bLin := FLin.binds (ps := ["plan"]) fun _ _ _ _ _ _ us hl => match us, hl with | [_], _ => rfl
  have mLin := mg_of X NS gLin
  have FGre := fun_mk (st := Pu.sP_great) lGre qGre kGre
  have bGre := FGre.binds (ps := ["stream"]) fun _ _ _ _ _ _ us hl => match us, hl with | [_], _ => rfl
  have mGre := mg_of X NS gGre
  have FSam := fun_mk (st := Pu.sP_same) lSam qSam kSam
  have bSam := FSam.binds (ps := ["one", "two"]) fun _ _ _ _ _ _ us hl => match us, hl with | [_, _], _ => rfl
  have mSam := mg_of X NS gSam
  have FTxt := fun_mk (st := Pu.sP_etext) lTxt qTxt kTxt
  have bTxt := FTxt.binds (ps := ["edition"]) fun _ _ _ _ _ _ us hl => match us, hl with | [_], _ => rfl
  have mTxt := mg_of X NS gTxt
  have FRed := fun_mk (st := Pu.sP_redit) lRed qRed kRed
  have bRed := FRed.binds (ps := ["text"]) fun _ _ _ _ _ _ us hl => match us, hl with | [_], _ => rfl
  have mRed := mg_of X NS gRed
  have FEdi := fun_mk (st := Pu.sP_edin) lEdi qEdi kEdi
  have bEdi := FEdi.binds (ps := ["lines"]) fun _ _ _ _ _ _ us hl => match us, hl with | [_], _ => rfl
  have mEdi := mg_of X NS gEdi
  have FNum := fun_mk (st := Pu.sP_numof) lNum qNum kNum
  have bNum := FNum.binds (ps := ["word"]) fun _ _ _ _ _ _ us hl => match us, hl with | [_], _ => rfl
  have mNum := mg_of X NS gNum
  have FNam := fun_mk (st := sIsName) lNam qNam kNam
  have bNam := FNam.binds (ps := ["value"]) fun _ _ _ _ _ _ us hl => match us, hl with | [_], _ => rfl
  have mNam := mg_of X NS gNam
  have FInt := fun_mk (st := sIsInt) lInt qInt kInt
  have bInt := FInt.binds (ps := ["value"]) fun _ _ _ _ _ _ us hl => match us, hl with | [_], _ => rfl
  have mInt := mg_of X NS gInt
  have FEnt := fun_mk (st := sIsEntry) lEnt qEnt kEnt
  have bEnt := FEnt.binds (ps := ["value"]) fun _ _ _ _ _ _ us hl => match us, hl with | [_], _ => rfl
  have mEnt := mg_of X NS gEnt
  have FRow := fun_mk (st := sRowsOf) lRow qRow kRow
  have bRow := FRow.binds (ps := ["members"]) fun _ _ _ _ _ _ us hl => match us, hl with | [_], _ => rfl
  have mRow := mg_of X NS gRow
  have FCho := fun_mk (st := sIsChoice) lCho qCho kCho
  have bCho := FCho.binds (ps := ["value", "names"]) fun _ _ _ _ _ _ us hl => match us, hl with | [_, _], _ => rfl
  have mCho := mg_of X NS gCho
  have FGro := fun_mk (st := sGroupsOf) lGro qGro kGro
  have bGro := FGro.binds (ps := ["sets", "names"]) fun _ _ _ _ _ _ us hl => match us, hl with | [_, _], _ => rfl
  have mGro := mg_of X NS gGro
  have FLaw := fun_mk (st := Pu.sP_law80) lLaw qLaw kLaw
  have bLaw := FLaw.binds (ps := ["script"]) fun _ _ _ _ _ _ us hl => match us, hl with | [_], _ => rfl
  have mLaw := mg_of X NS gLaw
  have FEnm := fun_mk (st := sEdNames) lEnm qEnm kEnm
  have bEnm := FEnm.binds (ps := ["self"]) fun _ _ _ _ _ _ us hl => match us, hl with | [_], _ => rfl
  have FEst := fun_mk (st := sEdSets) lEst qEst kEst
  have bEst := FEst.binds (ps := ["self"]) fun _ _ _ _ _ _ us hl => match us, hl with | [_], _ => rfl
  have FEeq := fun_mk (st := sEdEq) lEeq qEeq kEeq
  have bEeq := FEeq.binds (ps := ["self", "other"]) fun _ _ _ _ _ _ us hl => match us, hl with | [_, _], _ => rfl
  have FEge := fun_mk (st := sEdGet) lEge qEge kEge
  have bEge := FEge.binds (ps := ["self", "name"]) fun _ _ _ _ _ _ us hl => match us, hl with | [_, _], _ => rfl
  have FEgr := fun_mk (st := sEdGroup) lEgr qEgr kEgr
  have bEgr := FEgr.binds (ps := ["self", "name"]) fun _ _ _ _ _ _ us hl => match us, hl with | [_, _], _ => rfl
  have FMin := fun_mk (st := sMemInit) lMin qMin kMin
  have bMin := FMin.binds (ps := ["self", "edition", "place"]) fun _ _ _ _ _ _ us hl => match us, hl with | [_, _, _], _ => rfl
  have FGin := fun_mk (st := sGrInit) lGin qGin kGin
  have bGin := FGin.binds (ps := ["self", "edition", "places"]) fun _ _ _ _ _ _ us hl => match us, hl with | [_, _, _], _ => rfl
  have FGnm := fun_mk (st := sGrNames) lGnm qGnm kGnm
  have bGnm := FGnm.binds (ps := ["self"]) fun _ _ _ _ _ _ us hl => match us, hl with | [_], _ => rfl
  have FEin : FunD K "__init__" "Edition.__init__" (defArgs sEdInit) (defBody sEdInit) (defScope sEdInit) [V.non] [] aEin (PySem.W.fnOf "__init__" "Edition.__init__" (defArgs sEdInit) (defBody sEdInit) (defScope sEdInit) (.ref tEin) kVEin dcEin pmEin anEin cdEin ctEin) := ⟨⟨_, _, _, _, _, _, _, _, _, _, rfl, lEin, qEin, .inr ⟨by simp, tEin, _, [Value.none], nEin, rfl, tupEin, rfl, .cons rfl .nil⟩, .inl rfl⟩, kEin⟩
  have bEin : Binds K (PySem.W.fnOf "__init__" "Edition.__init__" (defArgs sEdInit) (defBody sEdInit) (defScope sEdInit) (.ref tEin) kVEin dcEin pmEin anEin cdEin ctEin) ["self", "members", "sets"] [] := by
    obtain ⟨ds, hd, hb⟩ := FEin.binds1 (ps := ["self", "members", "sets"]) 3 1 (by simp) rfl fun T kV doc pm an cdv ct us its h1 h2 => match us, its, h1, h2 with | [_, _, _], [_], _, _ => ⟨_, rfl, rfl⟩
    cases hd
    exact hb
  have ZE := cls2_of cE hn ht
  have ZG := cls2_of cG hn ht
  have ZM := cls2_of cM hn ht
  have TE : EdTxt K CE := ⟨ZE.cl, no2_of oE _ (by simp), no2_of oE _ (by simp), no2_of oE _ (by simp), no2_of oE _ (by simp)⟩
  have TG : GrTxt K CG := ⟨ZG.cl, no2_of oG _ (by simp), no2_of oG _ (by simp)⟩
  have TM : MemTxt K CM := ⟨ZM.cl, no2_of oM _ (by simp), no2_of oM _ (by simp), no2_of oM _ (by simp), no2_of oM _ (by simp), no2_of oM _ (by simp)⟩
  have mCE := mg_of X NS gCE
  have mCG := mg_of X NS gCG
  have mCM := mg_of X NS gCM
  have mLet := mg_of X NS vLet
  have mLon := mg_of X NS vLon
  have mFar := mg_of X NS vFar
  have mMem := mg_of X NS vMem
  have mSetv := mg_of X NS vSet
  have mDig := mg_of X NS vDig
  have mN1 := mg_of X NS aCN1
  have ME : Mk K CE aEin := ⟨mkE, fEin, iEin, kCE⟩
  have MG : Mk K CG aGin := ⟨mkG, fGin, iGin, kCG⟩
  have MM : Mk K CM aMin := ⟨mkM, fMin, iMin, kCM⟩
  have PN : PropOf K CE "names" pEn aEnm := ⟨fEnm, sEnm, tEnm, _, vEnm⟩
  have PS : PropOf K CE "sets" pEs aEst := ⟨fEst, sEst, tEst, _, vEst⟩
  have PG : PropOf K CG "names" pGn aGnm := ⟨fGnm, sGnm, tGnm, _, vGnm⟩
  have mGr : Meth K CE "group" aEgr := ⟨fEgr, iEgr, kEgr⟩
  have BB : Pu.Blt mg := ⟨z_len, z_int, z_list, z_tuple, z_dict, z_set, z_range, z_enumerate, z_zip, z_sorted, z_max, z_min, z_sum, z_repr, z_any, z_all, z_isinstance⟩
  obtain ⟨TN1, bN1, XN1, nN1⟩ := err_one (st := sNoSet) X NS stNoSet (by decide +kernel) (by decide +kernel) ON1 hE1 z_super top opq
  refine ⟨PySem.W.fnOf "law" "law" (defArgs Pu.sP_law80) (defBody Pu.sP_law80) (defScope Pu.sP_law80) .none kVLaw dcLaw pmLaw anLaw cdLaw ctLaw, fun s v => .of_eq rfl, fun base _ _ => ?_⟩
  have GS : FnOk l.prog w K mg base CX0 1 aStm _ ["script", "start"] (spStream K) := ok_stream FStm z_int z_max
  have GD : FnOk l.prog w K mg base CX0 1 aDrw _ ["stream", "size"] spDraw := ok_drawP FDrw z_int
  have GP : FnOk l.prog w K mg base CX0 2 aChs _ ["stream", "items"] (spPick K) := ok_choose FChs z_len GD bDrw mDrw kDrw
  have GM : FnOk l.prog w K mg base CX0 2 aShf _ ["stream", "items"] (spMixed K) := ok_shuffled FShf z_len z_list GD bDrw mDrw kDrw
  have GN : FnOk l.prog w K mg base CX0 1 aNam _ ["value"] (spIsName K) := ok_isname FNam z_isinstance z_str z_len z_all mLet mLon
  have GI : FnOk l.prog w K mg base CX0 1 aInt _ ["value"] (spIsInt K) := ok_isint FInt z_isinstance z_int z_bool
  have GE : FnOk l.prog w K mg base CX0 2 aEnt _ ["value"] (spEntry K) := ok_entry FEnt z_isinstance z_tuple z_len z_all mFar GN bNam mNam kNam GI bInt mInt kInt
  have GR : FnOk l.prog w K mg base CX0 3 aRow _ ["members"] (spRowsOf K) := ok_rowsof FRow ⟨z_isinstance, z_tuple, z_list, z_len, z_any, z_set, z_sorted, z_enumerate, ⟨_, mMem⟩, ⟨_, _, GE, bEnt, mEnt, kEnt⟩⟩
  have GC : FnOk l.prog w K mg base CX0 1 aCho _ ["value", "names"] (spChoice K) := ok_choice FCho z_isinstance z_tuple z_list z_len z_all z_set
  have GG : FnOk l.prog w K mg base CX0 2 aGro _ ["sets", "names"] (spGroups K) := ok_groups FGro z_isinstance z_dict z_len z_tuple z_enumerate mSetv GN bNam mNam kNam GC bCho mCho kCho
  have HN : FnOk l.prog w K mg base CX0 1 aEnm _ ["self"] (spEdNames CE) := ok_ednames FEnm TE
  have HS : FnOk l.prog w K mg base CX0 1 aEst _ ["self"] (spEdSets CE) := ok_edsets FEst TE z_sorted
  have HI : FnOk l.prog w K mg base CX0 4 aEin _ ["self", "members", "sets"] (spEdInit K CE) := ok_edinit FEin TE z_enumerate GR bRow mRow kRow GG bGro mGro kGro HN bEnm PN
  have HE : FnOk l.prog w K mg base CX0 1 aEeq _ ["self", "other"] (spEdEq K CE) := ok_edeq FEeq TE ZE z_isinstance mCE
  have HG : FnOk l.prog w K mg base CX0 1 aGin _ ["self", "edition", "places"] (spGrInit K CG) := ok_grinit FGin TG z_tuple
  have HM : FnOk l.prog w K mg base CX0 1 aMin _ ["self", "edition", "place"] (spMemInit CE CM) := ok_meminit FMin TE TM
  have HT : FnOk l.prog w K mg base CX0 3 aEge _ ["self", "name"] (spEdGet CE CM) := ok_edget FEge TE z_isinstance z_str MM mCM HM bMin
  have HU : FnOk l.prog w K mg base (L2.CX l.prog w) 4 aEgr _ ["self", "name"] (spEdGroup K CE CG CN1) := ok_edgroup FEgr TE z_isinstance z_str MG mCG HG bGin TN1 bN1
  have HV : FnOk l.prog w K mg base CX0 1 aGnm _ ["self"] (spGrNames K CE CG) := ok_grnames FGnm TE TG
  have O : Pu.Own8 l.prog w K mg base CE CM CG := ⟨TE, TM, TG, ZE, ⟨_, _, Pu.fn_get8 HT, bEge, fEge, iEge, jEge⟩, ⟨_, _, _, Pu.fn_names8 TE HN, bEnm, PN⟩, ⟨_, _, _, Pu.fn_sets8 HS, bEst, PS⟩, ⟨_, _, Pu.fn_grp8 (Pu.grp_right HU), bEgr, mGr⟩, ⟨_, _, _, Pu.fn_gnames8 HV, bGnm, PG⟩, ⟨_, _, Pu.fn_eq8 HE, bEeq, fEeq, iEeq⟩, ⟨_, _, ME, Pu.frame_fn HI, bEin, mCE⟩⟩
  have cD : Pu.Cal l.prog w K mg base (Pu.W8 K CE CM CG) "_law_draw" 1 ["stream", "size"] [] Pu.anyZ Pu.FDraw := ⟨_, _, _, Pu.fn_draw GD, bDrw, .nil, mDrw, kDrw⟩
  have cC : Pu.Cal l.prog w K mg base (Pu.W8 K CE CM CG) "_law_choose" 2 ["stream", "items"] [] Pu.anyZ Pu.FPick := ⟨_, _, _, Pu.fn_pick (W := Pu.W8 K CE CM CG) GP, bChs, .nil, mChs, kChs⟩
  have cS : Pu.Cal l.prog w K mg base (Pu.W8 K CE CM CG) "_law_shuffled" 2 ["stream", "items"] [] Pu.anyZ Pu.FMixed := ⟨_, _, _, Pu.fn_mixed (W := Pu.W8 K CE CM CG) GM, bShf, .nil, mShf, kShf⟩
  have cN : Pu.Cal l.prog w K mg base (Pu.W8 K CE CM CG) "_law_names" 1 ["plan"] [] Pu.anyZ Pu.FNamesP := ⟨_, _, _, Pu.okP_names (W := Pu.W8 K CE CM CG) FNms BB, bNms, .nil, mNms, kNms⟩
  have cP : Pu.Cal l.prog w K mg base (Pu.W8 K CE CM CG) "_law_place" 1 ["plan", "name"] [] Pu.anyZ Pu.FPlaceP := ⟨_, _, _, Pu.okP_place (W := Pu.W8 K CE CM CG) FPlc BB, bPlc, .nil, mPlc, kPlc⟩
  have cY : Pu.Cal l.prog w K mg base (Pu.W8 K CE CM CG) "_law_copy" 1 ["plan"] [] Pu.anyZ Pu.FCopyP := ⟨_, _, _, Pu.okP_copy (W := Pu.W8 K CE CM CG) FCpy BB, bCpy, .nil, mCpy, kCpy⟩
  have cX : Pu.CalS l.prog w K mg base "_law_copy" 1 ["plan"] (Pu.frSp (Pu.spCopyX Pu.Ob8)) := ⟨_, _, Pu.frame_fn (Pu.ok_copyX (W := Pu.W8 K CE CM CG) FCpy BB), bCpy, mCpy, kCpy⟩
  have cPl : Pu.Cal l.prog w K mg base (Pu.W8 K CE CM CG) "_law_plan" 3 ["stream", "many"] [] Pu.anyZ Pu.FPlanP := ⟨_, _, _, Pu.okP_plan (W := Pu.W8 K CE CM CG) FPla BB cD cC cS cN, bPla, .nil, mPla, kPla⟩
  have cFu : Pu.Cal l.prog w K mg base (Pu.W8 K CE CM CG) "_law_further" 2 ["stream", "plan", "many"] [] Pu.anyZ Pu.FFurther := ⟨_, _, _, Pu.okP_further (W := Pu.W8 K CE CM CG) FFur BB cX cD, bFur, .nil, mFur, kFur⟩
  have cCh : Pu.Cal l.prog w K mg base (Pu.W8 K CE CM CG) "_law_changed" 3 ["stream", "plan", "many"] [] Pu.anyZ Pu.FChangedP := ⟨_, _, _, Pu.okP_changed (W := Pu.W8 K CE CM CG) FChg BB cX cD cC cP cY cFu, bChg, .nil, mChg, kChg⟩
  have cLa : Pu.Cal l.prog w K mg base (Pu.W8 K CE CM CG) "_law_later" 4 ["stream", "plan", "many"] [] Pu.anyZ Pu.FLaterP := ⟨_, _, _, Pu.okP_later (W := Pu.W8 K CE CM CG) FLat BB cC cS cY cCh, bLat, .nil, mLat, kLat⟩
  have cGt : Pu.Cal l.prog w K mg base (Pu.W8 K CE CM CG) "_law_great" 3 ["stream"] [] Pu.noZ Pu.FGreatP := ⟨_, _, _, Pu.okP_great FGre BB z_str O cD cS, bGre, .nil, mGre, kGre⟩
  have cEd : Pu.Cal l.prog w K mg base (Pu.W8 K CE CM CG) "_law_edition" 6 ["plan"] [] Pu.noZ Pu.FEdP := ⟨_, _, _, Pu.okP_pedit FLed BB z_str O, bLed, .nil, mLed, kLed⟩
  have cLi : Pu.Cal l.prog w K mg base (Pu.W8 K CE CM CG) "_law_lines" 1 ["plan"] [] Pu.anyZ Pu.FLinesP := ⟨_, _, _, Pu.okP_lines (W := Pu.W8 K CE CM CG) FLin BB z_str, bLin, .nil, mLin, kLin⟩
  have GT := Pu.okP_etext (P := l.prog) (w := w) (base := base) FTxt BB z_str O
  have cEt : Pu.Cal l.prog w K mg base (Pu.W8 K CE CM CG) "edition_text" 6 ["edition"] [] Pu.noZ Pu.FTextP := ⟨_, _, _, GT, bTxt, .nil, mTxt, kTxt⟩
  have cNu : Pu.Cal l.prog w K mg base (Pu.W8 K CE CM CG) "_number_of" 1 ["word"] [] Pu.noZ Pu.FNumP := ⟨_, _, _, Pu.okP_numof FNum BB z_str O mDig, bNum, .nil, mNum, kNum⟩
  have cIn : Pu.Cal l.prog w K mg base (Pu.W8 K CE CM CG) "_edition_in" 7 ["lines"] [] Pu.noZ Pu.FInP := ⟨_, _, _, Pu.okP_edin FEdi BB z_str O cEt cNu, bEdi, .nil, mEdi, kEdi⟩
  have GQ := Pu.okP_redit (P := l.prog) (w := w) (base := base) FRed BB z_str O cIn
  have cRe : Pu.Cal l.prog w K mg base (Pu.W8 K CE CM CG) "read_edition" 8 ["text"] [] Pu.noZ Pu.FReadP := ⟨_, _, _, GQ, bRed, .nil, mRed, kRed⟩
  have cSm : Pu.CalG l.prog w K mg base (Pu.W8 K CE CM CG) "_law_same" 1 ["one", "two"] [] Pu.noZ Pu.FSameP := ⟨_, _, _, Pu.okP_same FSam BB z_str O, bSam, .nil, mSam, kSam⟩
  have cKEt : Pu.CalK l.prog w K mg base (Pu.W8 K CE CM CG) "edition_text" 6 ["edition"] ["edition"] Pu.noZ Pu.FTextP := ⟨_, _, GT, ⟨fun s us ws _ l1 l2 => match us, ws, l1, l2 with | [], [_], _, _ => .of_eq rfl, fun _ r => r⟩, mTxt, kTxt⟩
  have cKRe : Pu.CalK l.prog w K mg base (Pu.W8 K CE CM CG) "read_edition" 8 ["text"] ["text"] Pu.noZ Pu.FReadP := ⟨_, _, GQ, ⟨fun s us ws _ l1 l2 => match us, ws, l1, l2 with | [], [_], _, _ => .of_eq rfl, fun _ r => r⟩, mRed, kRed⟩
  exact Pu.ok_law80 FLaw BB O GS bStm mStm kStm cPl cLa cGt cEd cLi cEt cRe cSm cKEt cKRe
end Gk
open PySem PySem.W PyProof.Rows
set_option maxRecDepth 100000 in
set_option maxHeartbeats 0 in
theorem PySem.Challenge.cw_growlists_k80_texts_of_editions_holds : PySem.Challenge.rw_growlists_k80_texts_of_editions.Holds := by
  w_on; o_law; k_headL; (case hw => w_witness2)
  k_fill
  refine Gk.walk_ofG (l := PySem.Challenge.rw_growlists_k80_texts_of_editions) (n := 63) (k := 9) (x := "script") (CX := fun _ => L2.CX0) (sp := fun w => Pu.spLaw80 _) rfl (by decide) rfl ⟨rfl, by decide, by decide⟩ (fun w h Y => PySem.W.kIn_of Y) ?F (fun _ _ a ns hl hb _ hS => ⟨a, ns, rfl, hS, hl, hb, fun _ => rfl⟩) fun _ _ _ _ _ z => z
  case F =>
    intro w mg fa h KX G hmg
    refine' Gk.all_mk80 (l := PySem.Challenge.rw_growlists_k80_texts_of_editions) KX G hmg ?gCE ?gCG ?gCM ?gStm ?lStm ?qStm ?kStm ?gDrw ?lDrw ?qDrw ?kDrw ?gChs ?lChs ?qChs ?kChs ?gShf ?lShf ?qShf ?kShf ?gNms ?lNms ?qNms ?kNms ?gPla ?lPla ?qPla ?kPla ?gCpy ?lCpy ?qCpy ?kCpy ?gPlc ?lPlc ?qPlc ?kPlc ?gFur ?lFur ?qFur ?kFur ?gChg ?lChg ?qChg ?kChg ?gLat ?lLat ?qLat ?kLat ?gLed ?lLed ?qLed ?kLed ?gLin ?lLin ?qLin ?kLin ?gGre ?lGre ?qGre ?kGre ?gSam ?lSam ?qSam ?kSam ?gTxt ?lTxt ?qTxt ?kTxt ?gRed ?lRed ?qRed ?kRed ?gEdi ?lEdi ?qEdi ?kEdi ?gNum ?lNum ?qNum ?kNum ?gNam ?lNam ?qNam ?kNam ?gInt ?lInt ?qInt ?kInt ?gEnt ?lEnt ?qEnt ?kEnt ?gRow ?lRow ?qRow ?kRow ?gCho ?lCho ?qCho ?kCho ?gGro ?lGro ?qGro ?kGro ?gLaw ?lLaw ?qLaw ?kLaw ?fEin ?lEin ?qEin ?kEin ?tupEin ?fEnm ?sEnm ?tEnm ?vEnm ?lEnm ?qEnm ?kEnm ?fEst ?sEst ?tEst ?vEst ?lEst ?qEst ?kEst ?fEeq ?iEeq ?lEeq ?qEeq ?kEeq ?fEge ?iEge ?lEge ?qEge ?kEge ?fEgr ?iEgr ?lEgr ?qEgr ?kEgr ?fMin ?iMin ?lMin ?qMin ?kMin ?fGin ?iGin ?lGin ?qGin ?kGin ?fGnm ?sGnm ?tGnm ?vGnm ?lGnm ?qGnm ?kGnm ?jEge ?mkE ?iEin ?kCE ?mkG ?kCG ?mkM ?kCM ?cE ?cG ?cM ?oE ?oG ?oM ?hN ?hn ?ht ?aCN1 ?aIN1 ?ON1 ?hE1 ?em1 ?top ?opq ?vLet ?vLon ?vFar ?vMem ?vSet ?vDig
    (case gCE => k_is)
    (case gCG => k_is)
    (case gCM => k_is)
    (case gStm => k_is)
    (case lStm => k_is)
    (case qStm => k_is)
    (case kStm => k_is)
    (case gDrw => k_is)
    (case lDrw => k_is)
    (case qDrw => k_is)
    (case kDrw => k_is)
    (case gChs => k_is)
    (case lChs => k_is)
    (case qChs => k_is)
    (case kChs => k_is)
    (case gShf => k_is)
    (case lShf => k_is)
    (case qShf => k_is)
    (case kShf => k_is)
    (case gNms => k_is)
    (case lNms => k_is)
    (case qNms => k_is)
    (case kNms => k_is)
    (case gPla => k_is)
    (case lPla => k_is)
    (case qPla => k_is)
    (case kPla => k_is)
    (case gCpy => k_is)
    (case lCpy => k_is)
    (case qCpy => k_is)
    (case kCpy => k_is)
    (case gPlc => k_is)
    (case lPlc => k_is)
    (case qPlc => k_is)
    (case kPlc => k_is)
    (case gFur => k_is)
    (case lFur => k_is)
    (case qFur => k_is)
    (case kFur => k_is)
    (case gChg => k_is)
    (case lChg => k_is)
    (case qChg => k_is)
    (case kChg => k_is)
    (case gLat => k_is)
    (case lLat => k_is)
    (case qLat => k_is)
    (case kLat => k_is)
    (case gLed => k_is)
    (case lLed => k_is)
    (case qLed => k_is)
    (case kLed => k_is)
    (case gLin => k_is)
    (case lLin => k_is)
    (case qLin => k_is)
    (case kLin => k_is)
    (case gGre => k_is)
    (case lGre => k_is)
    (case qGre => k_is)
    (case kGre => k_is)
    (case gSam => k_is)
    (case lSam => k_is)
    (case qSam => k_is)
    (case kSam => k_is)
    (case gTxt => k_is)
    (case lTxt => k_is)
    (case qTxt => k_is)
    (case kTxt => k_is)
    (case gRed => k_is)
    (case lRed => k_is)
    (case qRed => k_is)
    (case kRed => k_is)
    (case gEdi => k_is)
    (case lEdi => k_is)
    (case qEdi => k_is)
    (case kEdi => k_is)
    (case gNum => k_is)
    (case lNum => k_is)
    (case qNum => k_is)
    (case kNum => k_is)
    (case gNam => k_is)
    (case lNam => k_is)
    (case qNam => k_is)
    (case kNam => k_is)
    (case gInt => k_is)
    (case lInt => k_is)
    (case qInt => k_is)
    (case kInt => k_is)
    (case gEnt => k_is)
    (case lEnt => k_is)
    (case qEnt => k_is)
    (case kEnt => k_is)
    (case gRow => k_is)
    (case lRow => k_is)
    (case qRow => k_is)
    (case kRow => k_is)
    (case gCho => k_is)
    (case lCho => k_is)
    (case qCho => k_is)
    (case kCho => k_is)
    (case gGro => k_is)
    (case lGro => k_is)
    (case qGro => k_is)
    (case kGro => k_is)
    (case gLaw => k_is)
    (case lLaw => k_is)
    (case qLaw => k_is)
    (case kLaw => k_is)
    (case fEin => k_is)
    (case lEin => k_is)
    (case qEin => k_is)
    (case kEin => k_is)
    (case tupEin => k_is)
    (case fEnm => k_is)
    (case sEnm => k_is)
    (case tEnm => k_is)
    (case vEnm => k_is)
    (case lEnm => k_is)
    (case qEnm => k_is)
    (case kEnm => k_is)
    (case fEst => k_is)
    (case sEst => k_is)
    (case tEst => k_is)
    (case vEst => k_is)
    (case lEst => k_is)
    (case qEst => k_is)
    (case kEst => k_is)
    (case fEeq => k_is)
    (case iEeq => k_is)
    (case lEeq => k_is)
    (case qEeq => k_is)
    (case kEeq => k_is)
    (case fEge => k_is)
    (case iEge => k_is)
    (case lEge => k_is)
    (case qEge => k_is)
    (case kEge => k_is)
    (case fEgr => k_is)
    (case iEgr => k_is)
    (case lEgr => k_is)
    (case qEgr => k_is)
    (case kEgr => k_is)
    (case fMin => k_is)
    (case iMin => k_is)
    (case lMin => k_is)
    (case qMin => k_is)
    (case kMin => k_is)
    (case fGin => k_is)
    (case iGin => k_is)
    (case lGin => k_is)
    (case qGin => k_is)
    (case kGin => k_is)
    (case fGnm => k_is)
    (case sGnm => k_is)
    (case tGnm => k_is)
    (case vGnm => k_is)
    (case lGnm => k_is)
    (case qGnm => k_is)
    (case kGnm => k_is)
    (case jEge => k_is)
    (case mkE => k_is)
    (case iEin => k_is)
    (case kCE => k_is)
    (case mkG => k_is)
    (case kCG => k_is)
    (case mkM => k_is)
    (case kCM => k_is)
    (case cE => kernel_rfl)
    (case cG => kernel_rfl)
    (case cM => kernel_rfl)
    (case oE => kernel_rfl)
    (case oG => kernel_rfl)
    (case oM => kernel_rfl)
    (case hN => kernel_rfl)
    (case hn => k_is)
    (case ht => k_is)
    (case aCN1 => k_is)
    (case aIN1 => k_is)
    (case ON1 => (refine' Gk.errObj_mk ?zC0 ?zb0 ?zI0 ?zc0 ?zd0 ?z20 ?zf0 ?zl0; (case zC0 => k_is); (case zb0 => decide +kernel); (case zI0 => k_is); (case zc0 => k_is); (case zd0 => k_is); (case z20 => exact rfl); (case zf0 => decide +kernel); (case zl0 => k_is)))
    (case hE1 => kernel_rfl)
    (case em1 => kernel_rfl)
    (case top => decide +kernel)
    (case opq => k_is)
    (case vLet => k_is)
    (case vLon => k_is)
    (case vFar => k_is)
    (case vMem => k_is)
    (case vSet => k_is)
    (case vDig => k_is)
