import PyProof.Rows.All
import Wide.All
import OpenK.AllK
import Wide.FinOn
import KE.KStateDown
import HandS.ForMost
import HandS.ForExc
import HandS.Defaults
import HandS.Deep
import HandS.DictComp
import HandS.SortKw
import HandS.SortInts
import HandS.TupLe
import HandS.IsInst
import HandS.More
import HandS.Sort
import HandS.Strs
import HandS.Style
import HandS.Flow
import HandS.Codes
import HandS.ExcIs
import HandS.Head0
import HandS.Head1
import HandS.Head2
import HandS.HeadEnd
import HandS.HeadHook1
import HandS.HeadHook2
import HandS.HeadHook3
import HandS.HeadHook4
import PySem.Challenge.RW_folklist_k01_enough_and_longest
set_option Elab.async false
set_option linter.all false
set_option maxRecDepth 100000
set_option maxHeartbeats 4000000
/-! ### the text, its names -/
namespace Fo
open PySem PySem.Spec PyProof.Rows L2
def topS (i : Nat) : Stmt := PySem.Challenge.pw_folklist_k01_enough_and_longest.main.body.getD i (.Pass ⟨0, 0, 0, 0⟩)
abbrev s_is_whole : Stmt := topS 1
abbrev s_is_hand : Stmt := topS 2
abbrev s_enough : Stmt := topS 3
abbrev s_is_list : Stmt := topS 4
abbrev s_longest : Stmt := topS 5
abbrev s__law_draw : Stmt := topS 7
abbrev s__law_is_number : Stmt := topS 8
abbrev s__law_hands : Stmt := topS 9
abbrev s__law_thing : Stmt := topS 10
abbrev s__law_due : Stmt := topS 11
abbrev s_law : Stmt := topS 12
abbrev FnP (K : PySem.W.Frag) (x q : Str) (st : Stmt) (f : Addr) (fd : FuncData) : Prop := FunD K x q (defArgs st) (defBody st) (defScope st) [] [] f fd
structure Txt (K : PySem.W.Frag) (mg : Str → Option Value) : Prop where
  g_is_whole : mg "is_whole" = some (.ref (He.ga K "is_whole"))
  g_is_hand : mg "is_hand" = some (.ref (He.ga K "is_hand"))
  g_enough : mg "enough" = some (.ref (He.ga K "enough"))
  g_is_list : mg "is_list" = some (.ref (He.ga K "is_list"))
  g_longest : mg "longest" = some (.ref (He.ga K "longest"))
  g__law_draw : mg "_law_draw" = some (.ref (He.ga K "_law_draw"))
  g__law_is_number : mg "_law_is_number" = some (.ref (He.ga K "_law_is_number"))
  g__law_hands : mg "_law_hands" = some (.ref (He.ga K "_law_hands"))
  g__law_thing : mg "_law_thing" = some (.ref (He.ga K "_law_thing"))
  g__law_due : mg "_law_due" = some (.ref (He.ga K "_law_due"))
  g_law : mg "law" = some (.ref (He.ga K "law"))
  b_isinstance : mg "isinstance" = none
  b_len : mg "len" = none
  b_int : mg "int" = none
  b_bool : mg "bool" = none
  b_list : mg "list" = none
  b_range : mg "range" = none
  b_tuple : mg "tuple" = none
  F_is_whole : ∃ fd, FnP K "is_whole" "is_whole" s_is_whole (He.ga K "is_whole") fd
  F_is_hand : ∃ fd, FnP K "is_hand" "is_hand" s_is_hand (He.ga K "is_hand") fd
  F_enough : ∃ fd, FnP K "enough" "enough" s_enough (He.ga K "enough") fd
  F_is_list : ∃ fd, FnP K "is_list" "is_list" s_is_list (He.ga K "is_list") fd
  F_longest : ∃ fd, FnP K "longest" "longest" s_longest (He.ga K "longest") fd
  F__law_draw : ∃ fd, FnP K "_law_draw" "_law_draw" s__law_draw (He.ga K "_law_draw") fd
  F__law_is_number : ∃ fd, FnP K "_law_is_number" "_law_is_number" s__law_is_number (He.ga K "_law_is_number") fd
  F__law_hands : ∃ fd, FnP K "_law_hands" "_law_hands" s__law_hands (He.ga K "_law_hands") fd
  F__law_thing : ∃ fd, FnP K "_law_thing" "_law_thing" s__law_thing (He.ga K "_law_thing") fd
  F__law_due : ∃ fd, FnP K "_law_due" "_law_due" s__law_due (He.ga K "_law_due") fd
  F_law : ∃ fd, FnP K "law" "law" s_law (He.ga K "law") fd
end Fo
namespace Fo
open PySem PySem.Spec PyProof.Rows L2
section
variable {P : Program} {w : World} {K : PySem.W.Frag} {mg : Str → Option Value} {base : Heap}
/-! own rules over the library -/
theorem is_bool_gen {M : Model} {A : Around} {E : Value → Shared → Prop} {s : Shared} {Q : Value → Shared → Prop} {v : Value} {b : Bool} (hv : ∀ id, v ≠ .builtin id) (h : Q (.bool (v == .bool b)) s) : wpAny M A (compareOp .Is v (.bool b)) Q E s := by
  cases v <;> first | exact wpAny_pure h | exact absurd rfl (hv _)
theorem isnot_bool_gen {M : Model} {A : Around} {E : Value → Shared → Prop} {s : Shared} {Q : Value → Shared → Prop} {v : Value} {b : Bool} (hv : ∀ id, v ≠ .builtin id) (h : Q (.bool (!(v == .bool b))) s) : wpAny M A (compareOp .IsNot v (.bool b)) Q E s := by
  cases v <;> first | exact wpAny_pure h | exact absurd rfl (hv _)
theorem relv_bool {x : V} {v : Value} {b : Bool} (r : RelV x v) : (v == Value.bool b) = decide (x = V.bl b) := by
  cases x with
  | bl a =>
    cases (show v = Value.bool a from r)
    by_cases e : a = b
    · subst e
      simp
    · have h1 : (Value.bool a == Value.bool b) = false := beq_eq_false_iff_ne.mpr fun q => e (Value.bool.inj q)
      rw [h1]
      exact (decide_eq_false fun q => e (V.bl.inj q)).symm
  | non => cases (show v = Value.none from r); rfl
  | int i => obtain ⟨t, rfl⟩ := r; rfl
  | str i => obtain ⟨t, rfl⟩ := r; rfl
  | byt i => obtain ⟨t, rfl⟩ := r; rfl
  | flt i => obtain ⟨t, rfl⟩ := r; rfl
  | ref i => cases (show v = Value.ref i from r); rfl
  | ty i => cases (show v = Value.type i from r); rfl
theorem relv_nb {x : V} {v : Value} (r : RelV x v) : ∀ id, v ≠ .builtin id := by
  intro id q
  subst q
  cases x <;> first | (obtain ⟨t, e⟩ := r; cases e) | cases (show Value.builtin id = _ from r)
/-- x is True, x is False: of any x -/
theorem op_isB {X : Cx} : OpR X (compareOp .Is) (fun x y H Q => ∃ b, y = .bl b ∧ Q (.bl (decide (x = .bl b))) H) := by
  intro pins s σ H x y v u Q I rx ry h
  obtain ⟨b, rfl, q⟩ := h
  cases (show u = Value.bool b from ry)
  refine is_bool_gen (relv_nb rx) ?_
  rw [relv_bool rx]
  exact ⟨.bl _, H, I, rfl, q⟩
theorem op_isnotB {X : Cx} : OpR X (compareOp .IsNot) (fun x y H Q => ∃ b, y = .bl b ∧ Q (.bl (!decide (x = .bl b))) H) := by
  intro pins s σ H x y v u Q I rx ry h
  obtain ⟨b, rfl, q⟩ := h
  cases (show u = Value.bool b from ry)
  refine isnot_bool_gen (relv_nb rx) ?_
  rw [relv_bool rx]
  exact ⟨.bl _, H, I, rfl, q⟩
def rListOf (K : PySem.W.Frag) : List V → Hp → VK → Prop := fun xs H Q => ∃ p ys, xs = [.ref p] ∧ (SqL K H p ys ∨ SqT K H p ys) ∧ ∀ l, H l = none → Q (.ref l) (upd H l (.lst ys))

end
end Fo
namespace Fo
open PySem PySem.Spec PyProof.Rows L2
section
variable {P : Program} {w : World} {K : PySem.W.Frag} {mg : Str → Option Value} {base : Heap}
/-- a def keeps its promise, its arguments bind -/
def OkF (P : Program) (w : World) (K : PySem.W.Frag) (mg : Str → Option Value) (base : Heap) (CX : CXT) (k : Nat) (f : Addr) (ps : List Str) (sp : Sp) : Prop :=
  ∃ fd, FnOk P w K mg base CX k f fd ps sp ∧ Binds K fd ps [] ∧ PySem.W.keepIn K (.ref f) = true
theorem _root_.L2.Room.hu {A : Around} {k : Nat} (hr : Room k A) : A.units + 1 < cLine := hu_of hr
theorem _root_.L2.Room.u64 {A : Around} {k : Nat} (hr : Room k A) : A.units + 64 < cLine := Nat.lt_of_le_of_lt (Nat.add_le_add_left (by decide : 64 ≤ 200) _) (Nat.lt_of_le_of_lt (by omega) hr.un)
theorem _root_.L2.Room.u65 {A : Around} {k : Nat} (hr : Room k A) : A.units + 65 < cLine := Nat.lt_of_le_of_lt (Nat.add_le_add_left (by decide : 65 ≤ 200) _) (Nat.lt_of_le_of_lt (by omega) hr.un)
theorem passX {X : Cx} {W : WX} {E : XK} (tk : Takes X W) (hW : ∀ cls d σ H, E cls d H → W cls d σ H) : Passes (L2.CX X.prog X.w) X E := passes_call tk hW
def isInt : V → Bool
  | .int _ => true
  | _ => false
/-- a thing whose type is known not to be int's kind -/
def Thg (K : PySem.W.Frag) (H : Hp) (x : V) : Prop := (∃ i, x = .int i) ∨ (∃ b, x = .bl b) ∨ (isInt x = false ∧ ∃ n, TyX K H x (.type n) ∧ kitB n "int" = some false)
theorem thg_int {K : PySem.W.Frag} {H : Hp} {i : Int} : Thg K H (.int i) := .inl ⟨i, rfl⟩
def spWhole (K : PySem.W.Frag) : Sp := fun vs H Q _ => ∃ x, vs = [x] ∧ Thg K H x ∧ Q (.bl (isInt x)) H
theorem sc_is_whole : FnScope ["thing"] ["thing"] (defScope s_is_whole) := ⟨rfl, rfl, rfl, by decide +kernel, rfl, by decide +kernel, by decide +kernel⟩
set_option maxRecDepth 100000 in
theorem ok_is_whole (T : Txt K mg) : OkF P w K mg base CX0 1 (He.ga K "is_whole") ["thing"] (spWhole K) := by
  obtain ⟨fd, F⟩ := T.F_is_whole
  refine ⟨fd, F.ok sc_is_whole (fun vs H Q E h => ?_) (fun cdv A outer s H vs Q E hr h => ?_), F.bindsN fun _ _ _ _ _ _ us hl => match us, hl with | [_], _ => rfl, F.kp⟩
  · obtain ⟨_, rfl, _⟩ := h
    rfl
  · refine ⟨_, PSs.nox (pss_one (ps_ret (pe_and (pe_callB call_isi (by rfl) T.b_isinstance (by decide +kernel) (pa_cons (pv 0) (pa_cons (pe_bltn (v := .ty "int") (u := .type "int") (by rfl) T.b_int (by decide +kernel) rfl) pa_nil))) (pe_one (pe_not (pe_callB call_isi (by rfl) T.b_isinstance (by decide +kernel) (pa_cons (pv 0) (pa_cons (pe_bltn (v := .ty "bool") (u := .type "bool") (by rfl) T.b_bool (by decide +kernel) rfl) pa_nil)))))))), ?_⟩
    obtain ⟨x, rfl, hx, k⟩ := h
    rcases hx with ⟨i, rfl⟩ | ⟨b, rfl⟩ | ⟨hn, n, ht, hk⟩
    · exact ⟨_, rfl, _, _, _, _, true, rfl, .ty _, .base (.int i), kit_ty (by decide +kernel), true, rfl, iteT ⟨_, rfl, _, _, _, _, false, rfl, .ty _, .base (.int i), kit_ty (by decide +kernel), false, rfl, k⟩⟩
    · exact ⟨_, rfl, _, _, _, _, true, rfl, .ty _, .base (.bl b), kit_ty (by decide +kernel), true, rfl, iteT ⟨_, rfl, _, _, _, _, true, rfl, .ty _, .base (.bl b), kit_ty (by decide +kernel), true, rfl, k⟩⟩
    · rw [hn] at k
      exact ⟨_, rfl, _, _, _, _, false, rfl, .ty _, ht, kit_ty hk, false, rfl, iteF k⟩
def isHandB (x : V) (m : Int) : Bool := match x with
  | .int h => decide (0 ≤ h) && decide (h < m)
  | _ => false
def spIsHand (K : PySem.W.Frag) : Sp := fun vs H Q _ => ∃ x m, vs = [x, .int m] ∧ Thg K H x ∧ Q (.bl (isHandB x m)) H
theorem sc_is_hand : FnScope ["thing", "many"] ["thing", "many"] (defScope s_is_hand) := ⟨rfl, rfl, rfl, by decide +kernel, rfl, by decide +kernel, by decide +kernel⟩
set_option maxRecDepth 100000 in
theorem ok_is_hand (T : Txt K mg) : OkF P w K mg base CX0 2 (He.ga K "is_hand") ["thing", "many"] (spIsHand K) := by
  obtain ⟨fd, F⟩ := T.F_is_hand
  obtain ⟨fd_is_whole, G_is_whole⟩ := ok_is_whole (P := P) (w := w) (base := base) T
  refine ⟨fd, F.ok sc_is_hand (fun vs H Q E h => ?_) (fun cdv A outer s H vs Q E hr h => ?_), F.bindsN fun _ _ _ _ _ _ us hl => match us, hl with | [_, _], _ => rfl, F.kp⟩
  · obtain ⟨_, _, rfl, _⟩ := h
    rfl
  · refine ⟨_, PSs.nox (pss_one (ps_ret (pe_and (pe_call G_is_whole.1 (hr.mono (by decide)) rfl T.g_is_whole G_is_whole.2.2 G_is_whole.2.1 .nil pass0 (pa_cons (pv 0) pa_nil)) (pe_and (pe_cmpR op_ge (pv 0) pe_int (nomark _)) (pe_one (pe_cmpR op_lt (pv 0) (pv 1) (nomark _))))))), ?_⟩
    obtain ⟨x, m, rfl, hx, k⟩ := h
    refine ⟨_, rfl, _, rfl, hx, ?_⟩
    cases x with
    | int h =>
      refine ⟨true, rfl, iteT ⟨_, rfl, _, _, rfl, rfl, decide (0 ≤ h), rfl, ?_⟩⟩
      by_cases h0 : 0 ≤ h
      · rw [decide_eq_true h0]
        refine iteT ⟨_, rfl, _, rfl, _, _, rfl, rfl, ?_⟩
        have e : isHandB (.int h) m = decide (h < m) := by show (decide (0 ≤ h) && decide (h < m)) = _; rw [decide_eq_true h0]; rfl
        rw [e] at k
        exact k
      · rw [decide_eq_false h0]
        have e : isHandB (.int h) m = false := by show (decide (0 ≤ h) && decide (h < m)) = _; rw [decide_eq_false h0]; rfl
        rw [e] at k
        exact iteF k
    | _ => exact ⟨false, rfl, iteF k⟩
def isListGo (m : Int) : Int → List V → Bool
  | _, [] => true
  | b, x :: r => match x with
    | .int h => if 0 ≤ h ∧ h < m ∧ b < h then isListGo m h r else false
    | _ => false
def isListB (xs : List V) (m : Int) : Bool := !xs.isEmpty && isListGo m (-1) xs
def spIsList (K : PySem.W.Frag) : Sp := fun vs H Q _ => ∃ x m, vs = [x, .int m] ∧
  ((∃ a xs, x = .ref a ∧ H a = some (.lst xs) ∧ (∀ y ∈ xs, Thg K H y) ∧ Q (.bl (isListB xs m)) H) ∨ (∃ n, TyX K H x (.type n) ∧ kitB n "list" = some false ∧ Q (.bl false) H))
theorem drop_cons {α : Type} {xs : List α} {i : Nat} {x : α} (h : xs[i]? = some x) : xs.drop i = x :: xs.drop (i + 1) := by
  obtain ⟨hi, e⟩ := List.getElem?_eq_some_iff.mp h
  rw [List.drop_eq_getElem_cons hi, e]
theorem sc_is_list : FnScope ["thing", "many", "before", "hand"] ["thing", "many"] (defScope s_is_list) := ⟨rfl, rfl, rfl, by decide +kernel, rfl, by decide +kernel, by decide +kernel⟩
set_option maxRecDepth 100000 in
theorem ok_is_list (T : Txt K mg) : OkF P w K mg base CX0 3 (He.ga K "is_list") ["thing", "many"] (spIsList K) := by
  obtain ⟨fd, F⟩ := T.F_is_list
  obtain ⟨fd_is_whole, G_is_whole⟩ := ok_is_whole (P := P) (w := w) (base := base) T
  obtain ⟨fd_is_hand, G_is_hand⟩ := ok_is_hand (P := P) (w := w) (base := base) T
  refine ⟨fd, F.ok sc_is_list (fun vs H Q E h => ?_) (fun cdv A outer s H vs Q E hr h => ?_), F.bindsN fun _ _ _ _ _ _ us hl => match us, hl with | [_, _], _ => rfl, F.kp⟩
  · obtain ⟨_, _, rfl, _⟩ := h
    rfl
  · refine ⟨_, PSs.nox (pss_cons (ps_if (PW.pt (pw_or (pt_not (pt_val (pe_call G_is_whole.1 (hr.mono (by decide)) rfl T.g_is_whole G_is_whole.2.2 G_is_whole.2.1 .nil pass0 (pa_cons (pv 1) pa_nil)))) (pw_or (pt_not (pt_val (pe_callB call_isi (by rfl) T.b_isinstance (by decide +kernel) (pa_cons (pv 0) (pa_cons (pe_bltn (v := .ty "list") (u := .type "list") (by rfl) T.b_list (by decide +kernel) rfl) pa_nil))))) (pw_or1 (pt_cmpR op_eq (pe_callB call_len_seq (by rfl) T.b_len PySem.boot_len (pa_cons (pv 0) pa_nil)) pe_int (nomark _)))))) (pss_one (ps_ret pe_bl)) pss_nil) (pss_cons (ps_set (i := 2) sc_is_list.nd rfl (Or.inl rfl) (pe_un un_neg pe_int)) (pss_cons (ps_for PassesOwn.never rfl (pi_list (pv 0)) (pg_name (i := 3) sc_is_list.nd rfl (Or.inl rfl)) (pss_cons (ps_if (PW.pt (pw_or (pt_not (pt_val (pe_call G_is_hand.1 (hr.mono (by decide)) rfl T.g_is_hand G_is_hand.2.2 G_is_hand.2.1 .nil pass0 (pa_cons (pv 3) (pa_cons (pv 1) pa_nil))))) (pw_or1 (pt_cmpR op_le (pv 3) (pv 2) (nomark _))))) (pss_one (ps_ret pe_bl)) pss_nil) (pss_one (ps_set (i := 2) sc_is_list.nd rfl (Or.inl rfl) (pv 3))))) (pss_one (ps_ret pe_bl))))), ?_⟩
    obtain ⟨x, m, rfl, h⟩ := h
    refine ⟨_, rfl, .int m, rfl, thg_int, true, rfl, iteF ?_⟩
    rcases h with ⟨a, xs, rfl, hL, ht, k⟩ | ⟨n, ht, hn, k⟩
    · refine ⟨_, rfl, _, _, _, _, true, rfl, .ty _, .base (.lst hL), kit_ty (by decide +kernel), true, rfl, iteF ?_⟩
      refine ⟨_, rfl, _, xs, rfl, .inl (SqL.of hL), rfl, _, rfl, ?_⟩
      cases xs with
      | nil => exact iteT k
      | cons y ys =>
        have e0 : decide (V.int (((y :: ys).length : Nat) : Int) = V.int 0) = false := decide_eq_false (fun q => by
          have q1 := V.int.inj q
          simp at q1
          omega)
        rw [e0]
        refine iteF ⟨_, rfl, ⟨_, rfl, a, rfl, ⟨_, SqL.of hL⟩, for_list (xs := y :: ys) (fun i σ H' => H' = H ∧ ∃ b hv, σ = [some (.ref a), some (.int m), some (.int b), hv] ∧ isListGo m (-1) (y :: ys) = isListGo m b ((y :: ys).drop i))
          ⟨rfl, -1, none, rfl, rfl⟩ (fun i σ H' _ p => by rw [p.1]; exact SqL.of hL) ?_ ?_⟩⟩
        · rintro i z σ H' hz ⟨rfl, b, hv, rfl, e⟩
          have hzt := ht z (List.mem_of_getElem? hz)
          refine ⟨_, rfl, _, rfl, z, m, rfl, hzt, _, rfl, ?_⟩
          rw [drop_cons hz] at e
          have no : isHandB z m = false → isListGo m (-1) (y :: ys) = false := fun q => by
            rw [e]
            cases z with
            | int h =>
              have q1 : (decide (0 ≤ h) && decide (h < m)) = false := q
              show (if 0 ≤ h ∧ h < m ∧ b < h then _ else false) = false
              rw [if_neg]
              rintro ⟨q2, q3, _⟩
              rw [decide_eq_true q2, decide_eq_true q3] at q1
              cases q1
            | _ => rfl
          cases hb : isHandB z m with
          | false =>
            refine iteT (iteT ?_)
            have e1 : isListB (y :: ys) m = false := by show (true && _) = false; rw [no hb]; rfl
            rw [e1] at k
            exact k
          | true =>
            refine iteF ?_
            cases z with
            | int h =>
              have q1 : (decide (0 ≤ h) && decide (h < m)) = true := hb
              have q2 := Bool.and_eq_true_iff.mp q1
              have q3 := of_decide_eq_true q2.1
              have q4 := of_decide_eq_true q2.2
              refine ⟨_, rfl, _, rfl, _, _, rfl, rfl, _, rfl, ?_⟩
              by_cases hle : h ≤ b
              · rw [decide_eq_true hle]
                refine iteT ?_
                have e1 : isListB (y :: ys) m = false := by
                  show (true && _) = false
                  rw [e]
                  show (true && (if 0 ≤ h ∧ h < m ∧ b < h then _ else false)) = false
                  rw [if_neg (by omega)]
                  rfl
                rw [e1] at k
                exact k
              · rw [decide_eq_false hle]
                refine iteF ⟨_, rfl, rfl, h, _, rfl, ?_⟩
                rw [e]
                show (if 0 ≤ h ∧ h < m ∧ b < h then _ else false) = _
                rw [if_pos ⟨q3, q4, by omega⟩]
            | _ => cases hb
        · rintro σ H' ⟨rfl, b, hv, rfl, e⟩
          have e1 : isListB (y :: ys) m = true := by
            show (true && _) = true
            rw [e, List.drop_length]
            rfl
          rw [e1] at k
          exact k
    · refine ⟨_, rfl, _, _, _, _, false, rfl, .ty _, ht, kit_ty hn, false, rfl, iteT (iteT k)⟩
def spEnough (K : PySem.W.Frag) : Sp := fun vs H Q _ => ∃ a xs, vs = [.ref a] ∧ SqL K H a xs ∧ Q (.int ((xs.length : Int) / 2 + 1)) H
theorem sc_enough : FnScope ["members"] ["members"] (defScope s_enough) := ⟨rfl, rfl, rfl, by decide +kernel, rfl, by decide +kernel, by decide +kernel⟩
set_option maxRecDepth 100000 in
theorem ok_enough (T : Txt K mg) : OkF P w K mg base CX0 1 (He.ga K "enough") ["members"] (spEnough K) := by
  obtain ⟨fd, F⟩ := T.F_enough
  refine ⟨fd, F.ok sc_enough (fun vs H Q E h => ?_) (fun cdv A outer s H vs Q E hr h => ?_), F.bindsN fun _ _ _ _ _ _ us hl => match us, hl with | [_], _ => rfl, F.kp⟩
  · obtain ⟨_, _, rfl, _⟩ := h
    rfl
  · refine ⟨_, PSs.nox (pss_one (ps_ret (pe_op op_add (pe_op op_fdiv (pe_callB call_len_seq (by rfl) T.b_len PySem.boot_len (pa_cons (pv 0) pa_nil)) pe_int) pe_int))), ?_⟩
    obtain ⟨a, xs, rfl, hL, k⟩ := h
    exact ⟨_, rfl, _, xs, rfl, .inl hL, _, _, rfl, rfl, ⟨by decide, by decide⟩, _, _, rfl, rfl, k⟩
/-- the first of the longest rows -/
def longV {α : Type} : List α → List (List α) → List α
  | b, [] => b
  | b, r :: rs => longV (if r.length > b.length then r else b) rs
def spLongest (K : PySem.W.Frag) : Sp := fun vs H Q _ => ∃ (a : Addr) (rs : List Addr) (xss : List (List V)), vs = [.ref a] ∧ SqL K H a (rs.map V.ref) ∧ Paired (fun r xs => SqL K H r xs) rs xss ∧
  ∀ p H', H p = none → (∀ b o, H b = some o → H' b = some o) → H' p = some (.lst (longV [] xss)) → Q (.ref p) H'
theorem paired_get {α β : Type} {R : α → β → Prop} : ∀ {xs : List α} {ys : List β} {i : Nat} {x : α}, Paired R xs ys → xs[i]? = some x → ∃ y, ys[i]? = some y ∧ R x y
  | _, _, _, _, .nil, e => by simp at e
  | _, _, 0, _, .cons r _, e => by simp at e; subst e; exact ⟨_, rfl, r⟩
  | _, _, i + 1, x, .cons _ t, e => by
    obtain ⟨u, h1, h2⟩ := paired_get (i := i) (x := x) t (by simpa using e)
    exact ⟨u, by simpa using h1, h2⟩
theorem paired_len {α β : Type} {R : α → β → Prop} : ∀ {xs : List α} {ys : List β}, Paired R xs ys → xs.length = ys.length
  | _, _, .nil => rfl
  | _, _, .cons _ t => by simp [paired_len t]
theorem upd_ext {H : Hp} {p : Addr} {o : HO} (h : H p = none) : ∀ b u, H b = some u → upd H p o b = some u := fun b u e => by
  rw [upd_ne (ne_of_none e h)]
  exact e
theorem ext_sql {K : PySem.W.Frag} {H H' : Hp} {a : Addr} {xs : List V} (e : ∀ b o, H b = some o → H' b = some o) (h : SqL K H a xs) : SqL K H' a xs := Same.seq e h
theorem sc_longest : FnScope ["rows", "best", "row"] ["rows"] (defScope s_longest) := ⟨rfl, rfl, rfl, by decide +kernel, rfl, by decide +kernel, by decide +kernel⟩
set_option maxRecDepth 100000 in
theorem ok_longest (T : Txt K mg) : OkF P w K mg base CX0 1 (He.ga K "longest") ["rows"] (spLongest K) := by
  obtain ⟨fd, F⟩ := T.F_longest
  refine ⟨fd, F.ok sc_longest (fun vs H Q E h => ?_) (fun cdv A outer s H vs Q E hr h => ?_), F.bindsN fun _ _ _ _ _ _ us hl => match us, hl with | [_], _ => rfl, F.kp⟩
  · obtain ⟨_, _, _, rfl, _⟩ := h
    rfl
  · refine ⟨_, PSs.nox (pss_cons (ps_set (i := 1) sc_longest.nd rfl (Or.inl rfl) (pe_lst pa_nil)) (pss_cons (ps_for PassesOwn.never rfl (pi_list (pv 0)) (pg_name (i := 2) sc_longest.nd rfl (Or.inl rfl)) (pss_one (ps_if (pt_cmpR op_gt (pe_callB call_len_seq (by rfl) T.b_len PySem.boot_len (pa_cons (pv 2) pa_nil)) (pe_callB call_len_seq (by rfl) T.b_len PySem.boot_len (pa_cons (pv 1) pa_nil)) (nomark _)) (pss_one (ps_set (i := 1) sc_longest.nd rfl (Or.inl rfl) (pv 2))) pss_nil))) (pss_one (ps_ret (pe_callTy (T := "list") call_list_of (by rfl) T.b_list (by decide +kernel) (pa_cons (pv 1) pa_nil)))))), ?_⟩
    obtain ⟨a, rs, xss, rfl, hL, hp, k⟩ := h
    refine ⟨Nat.zero_le _, fun l hl => ?_⟩
    have E1 := upd_ext (o := .lst []) hl
    refine ⟨_, rfl, a, rfl, ⟨_, ext_sql E1 hL⟩, for_list (xs := rs.map V.ref) (fun i σ H' => H' = upd H l (.lst []) ∧ ∃ b bs rv, σ = [some (.ref a), some (.ref b), rv] ∧ SqL K H' b bs ∧ longV [] xss = longV bs (xss.drop i))
      ⟨rfl, l, [], none, rfl, SqL.of upd_same, rfl⟩ (fun i σ H' _ p => by rw [p.1]; exact ext_sql E1 hL) ?_ ?_⟩
    · rintro i z σ H' hz ⟨rfl, b, bs, rv, rfl, hb, e⟩
      rw [List.getElem?_map] at hz
      cases hr2 : rs[i]? with
      | none => rw [hr2] at hz; cases hz
      | some r =>
        rw [hr2] at hz
        cases hz
        obtain ⟨xs, hx, hxs⟩ := paired_get hp hr2
        rw [drop_cons hx] at e
        refine ⟨_, rfl, r, xs, rfl, .inl (ext_sql E1 hxs), _, rfl, b, bs, rfl, .inl hb, _, _, rfl, rfl, _, rfl, ite2 (fun hc => ?_) (fun hc => ?_)⟩
        · have hc2 := of_decide_eq_true hc
          refine ⟨_, rfl, rfl, r, xs, _, rfl, ext_sql E1 hxs, ?_⟩
          rw [e]
          show longV (if xs.length > bs.length then xs else bs) _ = _
          rw [if_pos (by omega)]
        · refine ⟨rfl, b, bs, _, rfl, hb, ?_⟩
          rw [e]
          show longV (if xs.length > bs.length then xs else bs) _ = _
          rw [if_neg (fun q => hc (decide_eq_true (by omega)))]
    · rintro σ H' ⟨rfl, b, bs, rv, rfl, hb, e⟩
      refine ⟨_, rfl, b, bs, rfl, .inl hb, fun p hp2 => ?_⟩
      have hx : longV [] xss = bs := by
        rw [e, List.length_map, paired_len hp, List.drop_length]
        rfl
      refine k p _ ?_ (fun q o h => upd_ext hp2 q o (E1 q o h)) (by rw [upd_same, hx])
      cases q : H p with
      | none => rfl
      | some o => rw [E1 p o q] at hp2; cases hp2

end
end Fo
namespace Fo
open PySem PySem.Spec PyProof.Rows L2
section
variable {P : Program} {w : World} {K : PySem.W.Frag} {mg : Str → Option Value} {base : Heap}
theorem iteI {a b : Int} {A B : Prop} (h1 : a = b → A) (h2 : ¬ a = b → B) : if decide (V.int a = V.int b) = true then A else B :=
  ite2 (fun h => h1 (V.int.inj (of_decide_eq_true h))) (fun h => h2 (fun q => h (decide_eq_true (by rw [q]))))
theorem iteD {p : Prop} [Decidable p] {A B : Prop} (h1 : p → A) (h2 : ¬ p → B) : if decide p = true then A else B :=
  ite2 (fun h => h1 (of_decide_eq_true h)) (fun h => h2 (fun q => h (decide_eq_true q)))
def spDraw (K : PySem.W.Frag) : Sp := fun vs H Q _ => ∃ (a : Addr) (ns : List Int) (k : Nat), vs = [.ref a, .int k] ∧ SqL K H a (ns.map V.int) ∧ Q (.int (ns.getD k 0)) H
theorem sc__law_draw : FnScope ["_law_script", "_law_k"] ["_law_script", "_law_k"] (defScope s__law_draw) := ⟨rfl, rfl, rfl, by decide +kernel, rfl, by decide +kernel, by decide +kernel⟩
set_option maxRecDepth 100000 in
theorem ok__law_draw (T : Txt K mg) : OkF P w K mg base CX0 1 (He.ga K "_law_draw") ["_law_script", "_law_k"] (spDraw K) := by
  obtain ⟨fd, F⟩ := T.F__law_draw
  refine ⟨fd, F.ok sc__law_draw (fun vs H Q E h => ?_) (fun cdv A outer s H vs Q E hr h => ?_), F.bindsN fun _ _ _ _ _ _ us hl => match us, hl with | [_, _], _ => rfl, F.kp⟩
  · obtain ⟨_, _, _, rfl, _⟩ := h
    rfl
  · refine ⟨_, PSs.nox (pss_one (ps_ret (pe_ifExp (pt_cmpR op_gt (pe_callB call_len_seq (by rfl) T.b_len PySem.boot_len (pa_cons (pv 0) pa_nil)) (pv 1) (nomark _)) (pe_ix ix_list (pv 0) (pv 1) (fun _ _ => rfl)) pe_int))), ?_⟩
    obtain ⟨a, ns, k, rfl, hL, q⟩ := h
    refine ⟨_, rfl, a, _, rfl, .inl hL, _, rfl, _, _, rfl, rfl, _, rfl, ite2 (fun hc => ?_) (fun hc => ?_)⟩
    · have hk : k < ns.length := by
        have := of_decide_eq_true hc
        rw [List.length_map] at this
        omega
      have e : ns[k]? = some (ns.getD k 0) := by rw [List.getD_eq_getElem?_getD, List.getElem?_eq_getElem hk]; rfl
      exact ⟨_, rfl, _, rfl, a, _, _, _, rfl, rfl, hL, atI_nat (j := k) (by rw [List.getElem?_map, e]; rfl), q⟩
    · have hk : ns.length ≤ k := by
        by_cases h : ns.length ≤ k
        · exact h
        · exact absurd (decide_eq_true (by rw [List.length_map]; omega)) hc
      have e : ns.getD k 0 = 0 := by rw [List.getD_eq_getElem?_getD, List.getElem?_eq_none hk]; rfl
      rw [e] at q
      exact q
/-- the hands whose bit is set -/
def handsGo : Nat → Int → Int → List Int
  | 0, _, _ => []
  | n + 1, i, b => (if b % 2 = 1 then [i] else []) ++ handsGo n (i + 1) (b / 2)
def handsOf (b m : Int) : List Int := handsGo m.toNat 0 b
theorem handsGo_mem : ∀ (n : Nat) (i b : Int) {x : Int}, x ∈ handsGo n i b → i ≤ x ∧ x < i + n
  | 0, _, _, _, h => by cases h
  | n + 1, i, b, x, h => by
    unfold handsGo at h
    rcases List.mem_append.mp h with h | h
    · split at h
      · rw [List.mem_singleton] at h
        omega
      · cases h
    · have := handsGo_mem n (i + 1) (b / 2) h
      omega
theorem handsGo_sorted : ∀ (n : Nat) (i b : Int), (handsGo n i b).Pairwise (· < ·)
  | 0, _, _ => List.Pairwise.nil
  | n + 1, i, b => by
    unfold handsGo
    refine List.pairwise_append.mpr ⟨?_, handsGo_sorted n _ _, ?_⟩
    · split
      · exact List.pairwise_singleton _ _
      · exact List.Pairwise.nil
    · intro x hx y hy
      have h2 := handsGo_mem n _ _ hy
      split at hx
      · rw [List.mem_singleton] at hx
        omega
      · cases hx
theorem handsGo_len : ∀ (n : Nat) (i b : Int), (handsGo n i b).length ≤ n
  | 0, _, _ => Nat.le_refl _
  | n + 1, i, b => by
    unfold handsGo
    have := handsGo_len n (i + 1) (b / 2)
    rw [List.length_append]
    split <;> simp <;> omega
def spHands : Sp := fun vs H Q _ => ∃ (b m : Int), vs = [.int b, .int m] ∧ m ≤ 1000 ∧ 0 ≤ m ∧ ∀ p H', H p = none → Same H H' → H' p = some (.lst ((handsOf b m).map V.int)) → Q (.ref p) H'
theorem sc__law_hands : FnScope ["_law_bits", "_law_many", "_law_found", "_law_hand"] ["_law_bits", "_law_many"] (defScope s__law_hands) := ⟨rfl, rfl, rfl, by decide +kernel, rfl, by decide +kernel, by decide +kernel⟩
set_option maxRecDepth 100000 in
theorem ok__law_hands (T : Txt K mg) : OkF P w K mg base CX0 1 (He.ga K "_law_hands") ["_law_bits", "_law_many"] (spHands) := by
  obtain ⟨fd, F⟩ := T.F__law_hands
  refine ⟨fd, F.ok sc__law_hands (fun vs H Q E h => ?_) (fun cdv A outer s H vs Q E hr h => ?_), F.bindsN fun _ _ _ _ _ _ us hl => match us, hl with | [_, _], _ => rfl, F.kp⟩
  · obtain ⟨_, _, rfl, _⟩ := h
    rfl
  · refine ⟨_, PSs.nox (pss_cons (ps_set (i := 2) sc__law_hands.nd rfl (Or.inl rfl) (pe_lst pa_nil)) (pss_cons (ps_for PassesOwn.never rfl (pi_range1 rfl T.b_range (pa_cons (pv 1) pa_nil)) (pg_name (i := 3) sc__law_hands.nd rfl (Or.inl rfl)) (pss_cons (ps_if (pt_cmpR op_eq (pe_op op_mod (pv 0) pe_int) pe_int (nomark _)) (pss_one (ps_expr (pe_bm PySem.F.plainAttrs_list PySem.F.slot_list_append PySem.F.type_list_append mt_append (pv 2) (pa_cons (pv 3) pa_nil)))) pss_nil) (pss_one (ps_set (i := 0) sc__law_hands.nd rfl (Or.inl rfl) (pe_op op_fdiv (pv 0) pe_int))))) (pss_one (ps_ret (pv 2))))), ?_⟩
    obtain ⟨b, m, rfl, hm, hm0, k⟩ := h
    refine ⟨Nat.zero_le _, fun p hp => ?_⟩
    refine ⟨_, rfl, m, rfl, by omega, by omega, for_range (lo := 0) (n := m.toNat) (fun i σ H' => ∃ acc b' hv, σ = [some (.int b'), some (.int m), some (.ref p), hv] ∧ H' = upd H p (.lst (acc.map V.int)) ∧ handsOf b m = acc ++ handsGo (m.toNat - i) i b' ∧ acc.length ≤ i)
      ⟨[], b, none, rfl, rfl, rfl, Nat.le_refl _⟩ ?_ ?_⟩
    · rintro i σ H' hi ⟨acc, b', hv, rfl, rfl, e, hl⟩
      have e1 : handsGo (m.toNat - i) i b' = (if b' % 2 = 1 then [(i : Int)] else []) ++ handsGo (m.toNat - (i + 1)) ((i : Int) + 1) (b' / 2) := by
        have e2 : m.toNat - i = (m.toNat - (i + 1)) + 1 := by omega
        rw [e2]
        rfl
      rw [e1] at e
      refine ⟨_, rfl, b', 2, rfl, rfl, (by show (0 : Int) < 2; decide), rfl, _, rfl, iteI (fun hb => ?_) (fun hb => ?_)⟩
      · rw [if_pos hb] at e
        refine ⟨_, rfl, .inl ⟨rfl, _, SqL.of upd_same⟩, _, rfl, p, _, _, rfl, rfl, upd_same, by rw [List.length_map]; exact small1000 (by omega), ?_⟩
        refine ⟨_, rfl, _, _, rfl, rfl, ⟨by decide, by decide⟩, ?_⟩
        rw [upd_upd]
        have ei : (0 : Int) + (i : Int) = i := by omega
        refine ⟨acc ++ [(i : Int)], b' / 2, _, rfl, by rw [List.map_append, ei]; rfl, ?_, by rw [List.length_append]; simp; omega⟩
        rw [e, List.append_assoc]
        rfl
      · rw [if_neg hb] at e
        refine ⟨_, rfl, _, _, rfl, rfl, ⟨by decide, by decide⟩, ?_⟩
        exact ⟨acc, b' / 2, _, rfl, rfl, e, by omega⟩
    · rintro σ H' ⟨acc, b', hv, rfl, rfl, e, hl⟩
      have e1 : handsOf b m = acc := by
        rw [e, Nat.sub_self]
        exact List.append_nil _
      exact ⟨_, rfl, k p _ hp (upd_ext hp) (by rw [upd_same, e1])⟩
def spIsNumber (K : PySem.W.Frag) : Sp := fun vs H Q _ => ∃ x, vs = [x] ∧ Thg K H x ∧ Q (.bl (isInt x)) H
theorem sc__law_is_number : FnScope ["_law_found"] ["_law_found"] (defScope s__law_is_number) := ⟨rfl, rfl, rfl, by decide +kernel, rfl, by decide +kernel, by decide +kernel⟩
set_option maxRecDepth 100000 in
theorem ok__law_is_number (T : Txt K mg) : OkF P w K mg base CX0 1 (He.ga K "_law_is_number") ["_law_found"] (spIsNumber K) := by
  obtain ⟨fd, F⟩ := T.F__law_is_number
  refine ⟨fd, F.ok sc__law_is_number (fun vs H Q E h => ?_) (fun cdv A outer s H vs Q E hr h => ?_), F.bindsN fun _ _ _ _ _ _ us hl => match us, hl with | [_], _ => rfl, F.kp⟩
  · obtain ⟨_, rfl, _⟩ := h
    rfl
  · refine ⟨_, PSs.nox (pss_cons (ps_if (PW.pt (pw_or (pt_cmpR op_isB (pv 0) pe_bl (nomark _)) (pw_or1 (pt_cmpR op_isB (pv 0) pe_bl (nomark _))))) (pss_one (ps_ret pe_bl)) pss_nil) (pss_one (ps_ret (pe_callB call_isi (by rfl) T.b_isinstance (by decide +kernel) (pa_cons (pv 0) (pa_cons (pe_bltn (v := .ty "int") (u := .type "int") (by rfl) T.b_int (by decide +kernel) rfl) pa_nil)))))), ?_⟩
    obtain ⟨x, rfl, hx, k⟩ := h
    rcases hx with ⟨i, rfl⟩ | ⟨b, rfl⟩ | ⟨hn, n, ht, hk⟩
    · refine ⟨_, rfl, true, rfl, _, rfl, ?_⟩
      rw [show decide (V.int i = V.bl true) = false from decide_eq_false (fun q => nomatch q)]
      refine iteF ⟨_, rfl, false, rfl, _, rfl, ?_⟩
      rw [show decide (V.int i = V.bl false) = false from decide_eq_false (fun q => nomatch q)]
      exact iteF ⟨_, rfl, _, _, _, _, true, rfl, .ty _, .base (.int i), kit_ty (by decide +kernel), k⟩
    · refine ⟨_, rfl, true, rfl, _, rfl, ?_⟩
      cases b with
      | true => exact iteT (iteT k)
      | false => exact iteF ⟨_, rfl, false, rfl, _, rfl, iteT k⟩
    · have no : ∀ b, decide (x = V.bl b) = false := fun b => decide_eq_false (fun q => by
        subst q
        cases ht with
        | base h =>
          cases h
          rw [show kitB "bool" "int" = some true by decide +kernel] at hk
          cases hk)
      refine ⟨_, rfl, true, rfl, _, rfl, ?_⟩
      rw [no]
      refine iteF ⟨_, rfl, false, rfl, _, rfl, ?_⟩
      rw [no]
      rw [hn] at k
      exact iteF ⟨_, rfl, _, _, _, _, false, rfl, .ty _, ht, kit_ty hk, k⟩

end
end Fo
namespace Fo
open PySem PySem.Spec PyProof.Rows L2
section
variable {P : Program} {w : World} {K : PySem.W.Frag} {mg : Str → Option Value} {base : Heap}
def Sd (d : PyData) : Prop := d.canLay0 = true ∧ d.depth ≤ 8
def SdAll (ds : List PyData) : Prop := PyData.canLayAll0 ds = true ∧ PyData.depthAll ds ≤ 8
theorem shaped_of {d : PyData} (h : d.canLay0 = true) (h2 : d.depth ≤ 64) : SeqAt.shaped d = true := by
  show (d.canLay0 && decide (d.depth ≤ 64)) = true
  rw [h, decide_eq_true h2]
  rfl
theorem shaped_list {ds : List PyData} (h : SdAll ds) : SeqAt.shaped (.list ds) = true := shaped_of (by simpa [PyData.canLay0] using h.1) (by simp only [PyData.depth]; have := h.2; omega)
theorem Sd.shaped {d : PyData} (h : Sd d) : SeqAt.shaped d = true := shaped_of h.1 (by have := h.2; omega)
theorem sdAll_nil : SdAll [] := ⟨by simp [PyData.canLayAll0], by simp [PyData.depthAll]⟩
theorem sdAll_cons {d : PyData} {ds : List PyData} (h : Sd d) (hs : SdAll ds) : SdAll (d :: ds) := ⟨by simp [PyData.canLayAll0, h.1, hs.1], by simp only [PyData.depthAll]; have := h.2; have := hs.2; omega⟩
theorem sd_int (i : Int) : Sd (.int i) := ⟨by simp [PyData.canLay0], by simp [PyData.depth]⟩
theorem dpAll_ints {K : PySem.W.Frag} {H : Hp} : ∀ ns : List Int, DpAll K H (ns.map V.int) (ns.map PyData.int)
  | [] => .nil
  | n :: ns => .cons (.int n) (dpAll_ints ns)
theorem sdAll_ints : ∀ ns : List Int, SdAll (ns.map PyData.int)
  | [] => sdAll_nil
  | n :: ns => sdAll_cons (sd_int n) (sdAll_ints ns)
theorem dpAll_app {K : PySem.W.Frag} {H : Hp} : ∀ {xs ys : List V} {ds es : List PyData}, DpAll K H xs ds → DpAll K H ys es → DpAll K H (xs ++ ys) (ds ++ es)
  | _, _, _, _, .nil, h => h
  | _, _, _, _, .cons a b, h => .cons a (dpAll_app b h)
theorem sdAll_app : ∀ {ds es : List PyData}, SdAll ds → SdAll es → SdAll (ds ++ es)
  | [], _, _, h => h
  | d :: ds, es, h, h2 => by
    have h1 : Sd d := ⟨by have := h.1; simp [PyData.canLayAll0] at this; exact this.1, by have := h.2; simp only [PyData.depthAll] at this; omega⟩
    have h3 : SdAll ds := ⟨by have := h.1; simp [PyData.canLayAll0] at this; exact this.2, by have := h.2; simp only [PyData.depthAll] at this; omega⟩
    exact sdAll_cons h1 (sdAll_app h3 h2)
mutual
theorem dp_same {K : PySem.W.Frag} {H H' : Hp} (e : Same H H') : ∀ {v : V} {d : PyData}, Dp K H v d → Dp K H' v d
  | _, _, .non => .non
  | _, _, .bl b => .bl b
  | _, _, .int i => .int i
  | _, _, .str x => .str x
  | _, _, .lst h a => .lst (e.seq h) (dpAll_same e a)
  | _, _, .tup h a => .tup (by
      rcases h with (h | ⟨o, h⟩) | h
      · exact .inl (.inl (e _ _ h))
      · exact .inl (.inr ⟨o, e _ _ h⟩)
      · exact .inr h) (dpAll_same e a)
theorem dpAll_same {K : PySem.W.Frag} {H H' : Hp} (e : Same H H') : ∀ {vs : List V} {ds : List PyData}, DpAll K H vs ds → DpAll K H' vs ds
  | _, _, .nil => .nil
  | _, _, .cons a b => .cons (dp_same e a) (dpAll_same e b)
end
theorem tyx_same {K : PySem.W.Frag} {H H' : Hp} (e : Same H H') {x : V} {t : Value} (h : TyX K H x t) : TyX K H' x t := by
  cases h with
  | base b =>
    refine .base ?_
    cases b with
    | non => exact .non
    | bl y => exact .bl y
    | int i => exact .int i
    | str y => exact .str y
    | flt y => exact .flt y
    | lst h => exact .lst (e _ _ h)
    | frz h => exact .frz (e _ _ h)
    | tup h => exact .tup (e _ _ h)
    | dK h => exact .dK (e _ _ h)
    | dT h => exact .dT (e _ _ h)
    | ins h a b c d f => exact .ins (e _ _ h) a b c d f
  | byt b => exact .byt b
  | set h => exact .set (e _ _ h)
  | kList h c => exact .kList h c
  | kTuple h c => exact .kTuple h c
  | kDict h c => exact .kDict h c
  | fTuple h => exact .fTuple (e _ _ h)
  | fDict h => exact .fDict (e _ _ h)
theorem thg_same {K : PySem.W.Frag} {H H' : Hp} (e : Same H H') {x : V} (h : Thg K H x) : Thg K H' x := by
  rcases h with h | h | ⟨h, n, t, k⟩
  · exact .inl h
  · exact .inr (.inl h)
  · refine .inr (.inr ⟨h, n, ?_, k⟩)
    exact tyx_same e t

/-- a thing for is_list: a list of such, or no list -/
def ThOk (K : PySem.W.Frag) (H : Hp) (v : V) : Prop :=
  (∃ a xs ds, v = .ref a ∧ H a = some (.lst xs) ∧ (∀ y ∈ xs, Thg K H y) ∧ DpAll K H xs ds ∧ SdAll ds ∧ xs.length ≤ 1000) ∨
  (∃ n d, TyX K H v (.type n) ∧ kitB n "list" = some false ∧ Dp K H v d ∧ Sd d)
theorem thok_same {K : PySem.W.Frag} {H H' : Hp} (e : Same H H') {v : V} (h : ThOk K H v) : ThOk K H' v := by
  rcases h with ⟨a, xs, ds, rfl, hL, ht, hd, hs, hl⟩ | ⟨n, d, t, k, hd, hs⟩
  · exact .inl ⟨a, xs, ds, rfl, e _ _ hL, fun y hy => thg_same e (ht y hy), dpAll_same e hd, hs, hl⟩
  · exact .inr ⟨n, d, tyx_same e t, k, dp_same e hd, hs⟩
theorem thok_ints {K : PySem.W.Frag} {H : Hp} {a : Addr} {ns : List Int} (h : H a = some (.lst (ns.map V.int))) (hl : ns.length ≤ 1000) : ThOk K H (.ref a) :=
  .inl ⟨a, _, _, rfl, h, fun y hy => by
    obtain ⟨n, _, rfl⟩ := List.mem_map.mp hy
    exact thg_int, dpAll_ints ns, sdAll_ints ns, by rw [List.length_map]; exact hl⟩
/-- an item: a thing with its data -/
def It (K : PySem.W.Frag) (H : Hp) (y : V) : Prop := Thg K H y ∧ ∃ d, Dp K H y d ∧ Sd d
theorem it_same {K : PySem.W.Frag} {H H' : Hp} (e : Same H H') {y : V} (h : It K H y) : It K H' y := ⟨thg_same e h.1, by obtain ⟨d, a, b⟩ := h.2; exact ⟨d, dp_same e a, b⟩⟩
theorem it_int {K : PySem.W.Frag} {H : Hp} (i : Int) : It K H (.int i) := ⟨thg_int, _, .int i, sd_int i⟩
theorem thok_its {K : PySem.W.Frag} {H : Hp} {a : Addr} {xs : List V} (h : H a = some (.lst xs)) (hl : xs.length ≤ 1000) (hi : ∀ y ∈ xs, It K H y) : ThOk K H (.ref a) := by
  have : ∀ xs : List V, (∀ y ∈ xs, It K H y) → ∃ ds, DpAll K H xs ds ∧ SdAll ds := by
    intro xs
    induction xs with
    | nil => exact fun _ => ⟨[], .nil, sdAll_nil⟩
    | cons x xs ih =>
      intro hx
      obtain ⟨ds, h1, h2⟩ := ih fun y hy => hx y (List.mem_cons_of_mem _ hy)
      obtain ⟨_, d, h3, h4⟩ := hx x List.mem_cons_self
      exact ⟨d :: ds, .cons h3 h1, sdAll_cons h4 h2⟩
  obtain ⟨ds, h1, h2⟩ := this xs hi
  exact .inl ⟨a, xs, ds, rfl, h, fun y hy => (hi y hy).1, h1, h2, hl⟩
theorem its_ints {K : PySem.W.Frag} {H : Hp} (ns : List Int) : ∀ y ∈ ns.map V.int, It K H y := fun y hy => by
  obtain ⟨n, _, rfl⟩ := List.mem_map.mp hy
  exact it_int n
theorem mem_cutV {xs : List V} {lo hi : Option Int} {y : V} (h : y ∈ cutV xs lo hi) : y ∈ xs := by
  unfold cutV at h
  exact List.mem_of_mem_drop (List.mem_of_mem_take h)
theorem len_cutV {xs : List V} {lo hi : Option Int} : (cutV xs lo hi).length ≤ xs.length := by
  unfold cutV
  rw [List.length_take, List.length_drop]
  omega
theorem len_cutI {hs : List Int} {lo hi : Option Int} : (cutV (hs.map V.int) lo hi).length ≤ hs.length := by
  have := @len_cutV (hs.map V.int) lo hi
  rw [List.length_map] at this
  exact this
theorem atI_mod {α : Type} {xs : List α} {n : Int} (x : Int) (hn : (xs.length : Int) = n) (h0 : 0 < n) : ∃ v, atI xs (x % n) = some v ∧ v ∈ xs := by
  have h1 := Int.emod_nonneg x (show n ≠ 0 by omega)
  have h2 := Int.emod_lt_of_pos x h0
  obtain ⟨j, hj⟩ : ∃ j : Nat, (j : Int) = x % n := ⟨(x % n).toNat, by omega⟩
  have hj2 : j < xs.length := by omega
  refine ⟨xs[j], ?_, List.getElem_mem hj2⟩
  rw [← hj]
  exact atI_nat (List.getElem?_eq_getElem hj2)
def spThing (K : PySem.W.Frag) : Sp := fun vs H Q _ => ∃ (a b : Addr) (ns hs : List Int), vs = [.ref a, .ref b] ∧ SqL K H a (ns.map V.int) ∧ H b = some (.lst (hs.map V.int)) ∧ hs ≠ [] ∧ hs.length ≤ 9 ∧
  ∀ v H', Same H H' → ThOk K H' v → Q v H'
theorem same_upd {H : Hp} {p : Addr} {o : HO} (h : H p = none) : Same H (upd H p o) := upd_ext h
theorem none_of {H H' : Hp} (e : Same H H') {p : Addr} (h : H' p = none) : H p = none := e.free h
theorem sc__law_thing : FnScope ["_law_script", "_law_hands_here", "_law_way", "_law_at", "_law_odd"] ["_law_script", "_law_hands_here"] (defScope s__law_thing) := ⟨rfl, rfl, rfl, by decide +kernel, rfl, by decide +kernel, by decide +kernel⟩
set_option maxRecDepth 100000 in
theorem ok__law_thing (T : Txt K mg) : OkF P w K mg base CX0 2 (He.ga K "_law_thing") ["_law_script", "_law_hands_here"] (spThing K) := by
  obtain ⟨fd, F⟩ := T.F__law_thing
  obtain ⟨fd__law_draw, G__law_draw⟩ := ok__law_draw (P := P) (w := w) (base := base) T
  refine ⟨fd, F.ok sc__law_thing (fun vs H Q E h => ?_) (fun cdv A outer s H vs Q E hr h => ?_), F.bindsN fun _ _ _ _ _ _ us hl => match us, hl with | [_, _], _ => rfl, F.kp⟩
  · obtain ⟨_, _, _, _, rfl, _⟩ := h
    rfl
  · refine ⟨_, PSs.nox (pss_cons (ps_set (i := 2) sc__law_thing.nd rfl (Or.inl rfl) (pe_op op_mod (pe_call G__law_draw.1 (hr.mono (by decide)) rfl T.g__law_draw G__law_draw.2.2 G__law_draw.2.1 .nil pass0 (pa_cons (pv 0) (pa_cons pe_int pa_nil))) pe_int)) (pss_cons (ps_set (i := 3) sc__law_thing.nd rfl (Or.inl rfl) (pe_op op_mod (pe_call G__law_draw.1 (hr.mono (by decide)) rfl T.g__law_draw G__law_draw.2.2 G__law_draw.2.1 .nil pass0 (pa_cons (pv 0) (pa_cons pe_int pa_nil))) (pe_callB call_len_seq (by rfl) T.b_len PySem.boot_len (pa_cons (pv 1) pa_nil)))) (pss_cons (ps_if (pt_cmpR op_eq (pv 2) pe_int (nomark _)) (pss_one (ps_ret (pe_op op_cat (pe_op op_cat (pe_slice sl_list (pv 1) po_none (po_some (pv 3))) (pe_lst (pa_cons (pe_ix ix_list (pv 1) (pe_un un_neg pe_int) (fun _ _ => rfl)) pa_nil))) (pe_slice sl_list (pv 1) (po_some (pv 3)) po_none)))) pss_nil) (pss_cons (ps_if (pt_cmpR op_eq (pv 2) pe_int (nomark _)) (pss_cons (ps_set (i := 4) sc__law_thing.nd rfl (Or.inl rfl) (pe_ix ix_list (pe_lst (pa_cons (pe_un un_neg pe_int) (pa_cons pe_int (pa_cons (pe_op op_pow pe_int pe_int) (pa_cons pe_bl (pa_cons pe_str (pa_cons pe_non (pa_cons (pe_tup (pa_cons pe_int (pa_cons pe_int pa_nil))) (pa_cons pe_bl pa_nil))))))))) (pe_op op_mod (pe_call G__law_draw.1 (hr.mono (by decide)) rfl T.g__law_draw G__law_draw.2.2 G__law_draw.2.1 .nil pass0 (pa_cons (pv 0) (pa_cons pe_int pa_nil))) pe_int) (fun _ _ => rfl))) (pss_one (ps_ret (pe_op op_cat (pe_op op_cat (pe_slice sl_list (pv 1) po_none (po_some (pv 3))) (pe_lst (pa_cons (pv 4) pa_nil))) (pe_slice sl_list (pv 1) (po_some (pe_op op_add (pv 3) pe_int)) po_none))))) pss_nil) (pss_cons (ps_if (pt_cmpR op_eq (pv 2) pe_int (nomark _)) (pss_one (ps_ret (pe_ix ix_list (pe_lst (pa_cons (pe_callTy (T := "tuple") call_tuple_of (by rfl) T.b_tuple (by decide +kernel) (pa_cons (pv 1) pa_nil)) (pa_cons (pe_lst pa_nil) (pa_cons pe_non (pa_cons pe_int (pa_cons pe_str (pa_cons pe_bl pa_nil))))))) (pe_op op_mod (pe_call G__law_draw.1 (hr.mono (by decide)) rfl T.g__law_draw G__law_draw.2.2 G__law_draw.2.1 .nil pass0 (pa_cons (pv 0) (pa_cons pe_int pa_nil))) pe_int) (fun _ _ => rfl)))) pss_nil) (pss_cons (ps_if (pt_cmpR op_eq (pv 2) pe_int (nomark _)) (pss_one (ps_ret (pe_revL (pv 1)))) pss_nil) (pss_one (ps_ret (pv 1))))))))), ?_⟩
    obtain ⟨a, b, ns, hs, rfl, hA, hB, hne, hlen, k⟩ := h
    have hl0 : 0 < hs.length := List.length_pos_iff.mpr hne
    refine ⟨_, rfl, a, ns, 1, rfl, hA, _, _, rfl, rfl, (by show (0 : Int) < 9; decide), ?_⟩
    refine ⟨_, rfl, a, ns, 2, rfl, hA, _, rfl, b, _, rfl, .inl (SqL.of hB), _, _, rfl, rfl, (by show (0 : Int) < _; rw [List.length_map]; omega), ?_⟩
    refine ⟨_, rfl, rfl, _, rfl, iteI (fun _ => ?_) (fun _ => ?_)⟩
    · refine ⟨_, rfl, _, rfl, _, rfl, b, _, rfl, SqL.of hB, fun p1 hp1 => ?_⟩
      have e1 := same_upd (o := .lst (cutV (hs.map V.int) none (some (ns.getD 2 0 % ((hs.map V.int).length : Int))))) hp1
      refine ⟨_, rfl, _, rfl, b, _, _, V.int (hs.getLast hne), rfl, rfl, SqL.of (e1 _ _ hB), ?_, ?_⟩
      · have q := List.dropLast_concat_getLast hne
        conv => lhs; rw [← q]
        rw [List.map_append]
        exact atI_last _ _
      refine ⟨(by decide : 1 ≤ sizeLine), fun p2 hp2 => ?_⟩
      have e2 := same_upd (o := .lst [V.int (hs.getLast hne)]) hp2
      refine ⟨p1, p2, _, _, rfl, rfl, e2 _ _ upd_same, upd_same, ?_, fun p3 hp3 => ?_⟩
      · have := @len_cutI hs none (some (ns.getD 2 0 % ((hs.map V.int).length : Int)))
        exact Nat.le_of_lt (small1000 (by simp only [List.length_singleton]; omega))
      have e3 := same_upd (o := .lst (cutV (hs.map V.int) none (some (ns.getD 2 0 % ((hs.map V.int).length : Int))) ++ [V.int (hs.getLast hne)])) hp3
      have e123 := (e1.trans e2).trans e3
      refine ⟨_, rfl, _, rfl, _, rfl, b, _, rfl, SqL.of (e123 _ _ hB), fun p4 hp4 => ?_⟩
      have e4 := same_upd (o := .lst (cutV (hs.map V.int) (some (ns.getD 2 0 % ((hs.map V.int).length : Int))) none)) hp4
      refine ⟨p3, p4, _, _, rfl, rfl, e4 _ _ upd_same, upd_same, ?_, fun p5 hp5 => ?_⟩
      · have q1 := @len_cutI hs none (some (ns.getD 2 0 % ((hs.map V.int).length : Int)))
        have q2 := @len_cutI hs (some (ns.getD 2 0 % ((hs.map V.int).length : Int))) none
        exact Nat.le_of_lt (small1000 (by simp only [List.length_append, List.length_singleton]; omega))
      refine k _ _ ((e123.trans e4).trans (same_upd hp5)) (thok_its upd_same (by
        have q1 := @len_cutI hs none (some (ns.getD 2 0 % ((hs.map V.int).length : Int)))
        have q2 := @len_cutI hs (some (ns.getD 2 0 % ((hs.map V.int).length : Int))) none
        simp only [List.length_append, List.length_singleton]; omega) fun y hy => ?_)
      rcases List.mem_append.mp hy with hy | hy
      · rcases List.mem_append.mp hy with hy | hy
        · exact its_ints hs y (mem_cutV hy)
        · rw [List.mem_singleton.mp hy]
          exact it_int _
      · exact its_ints hs y (mem_cutV hy)
    refine ⟨_, rfl, rfl, _, rfl, iteI (fun _ => ?_) (fun _ => ?_)⟩
    · refine ⟨1, rfl, _, _, rfl, rfl, ⟨by decide, by decide, by decide⟩, (by decide : 2 ≤ sizeLine), fun t1 ht1 => ?_⟩
      have e0 := same_upd (o := .tup [V.int 1, V.int 2]) ht1
      refine ⟨(by decide : 8 ≤ sizeLine), fun l1 hl1 => ?_⟩
      have e1 := e0.trans (same_upd (o := .lst [V.int (-1), V.int 9, V.int (10 ^ (20 : Int).toNat), V.bl true, V.str "1", V.non, V.ref t1, V.bl false]) hl1)
      have its : ∀ y ∈ [V.int (-1), V.int 9, V.int (10 ^ (20 : Int).toNat), V.bl true, V.str "1", V.non, V.ref t1, V.bl false], It K (upd (upd H t1 (.tup [V.int 1, V.int 2])) l1 (.lst [V.int (-1), V.int 9, V.int (10 ^ (20 : Int).toNat), V.bl true, V.str "1", V.non, V.ref t1, V.bl false])) y := by
        intro y hy
        have ib : ∀ b, It K (upd (upd H t1 (.tup [V.int 1, V.int 2])) l1 (.lst [V.int (-1), V.int 9, V.int (10 ^ (20 : Int).toNat), V.bl true, V.str "1", V.non, V.ref t1, V.bl false])) (.bl b) := fun b => ⟨.inr (.inl ⟨b, rfl⟩), _, .bl b, by simp [PyData.canLay0], by simp [PyData.depth]⟩
        simp only [List.mem_cons, List.not_mem_nil, or_false] at hy
        rcases hy with rfl | rfl | rfl | rfl | rfl | rfl | rfl | rfl
        · exact it_int _
        · exact it_int _
        · exact it_int _
        · exact ib true
        · exact ⟨.inr (.inr ⟨rfl, "str", .base (.str _), by decide +kernel⟩), _, .str _, by decide +kernel, by simp [PyData.depth]⟩
        · exact ⟨.inr (.inr ⟨rfl, "NoneType", .base .non, by decide +kernel⟩), _, .non, by simp [PyData.canLay0], by simp [PyData.depth]⟩
        · exact ⟨.inr (.inr ⟨rfl, "tuple", .base (.tup (same_upd hl1 _ _ upd_same)), by decide +kernel⟩), .tuple [.int 1, .int 2], .tup (.inl (.inl (same_upd hl1 _ _ upd_same))) (dpAll_ints [1, 2]), by decide +kernel, by decide +kernel⟩
        · exact ib false
      generalize hX : [V.int (-1), V.int 9, V.int (10 ^ (20 : Int).toNat), V.bl true, V.str "1", V.non, V.ref t1, V.bl false] = X0 at *
      generalize hH1 : upd (upd H t1 (.tup [V.int 1, V.int 2])) l1 (.lst X0) = H1 at *
      obtain ⟨v, hv, hm⟩ := atI_mod (xs := X0) (n := 8) (ns.getD 3 0) (by rw [← hX]; rfl) (by decide)
      have hL1 : H1 l1 = some (.lst X0) := by rw [← hH1]; exact upd_same
      refine ⟨_, rfl, a, ns, 3, rfl, e1.seq hA, _, _, rfl, rfl, (by show (0 : Int) < 8; decide), l1, X0, _, v, rfl, rfl, SqL.of (hH1 ▸ upd_same), hv, ?_⟩
      have hB1 := e1 _ _ hB
      refine ⟨_, rfl, _, rfl, _, rfl, b, _, rfl, SqL.of hB1, fun p1 hp1 => ?_⟩
      have f1 := same_upd (o := .lst (cutV (hs.map V.int) none (some (ns.getD 2 0 % ((hs.map V.int).length : Int))))) hp1
      refine ⟨_, rfl, (by decide : 1 ≤ sizeLine), fun p2 hp2 => ?_⟩
      have f2 := same_upd (o := .lst [v]) hp2
      refine ⟨p1, p2, _, _, rfl, rfl, f2 _ _ upd_same, upd_same, ?_, fun p3 hp3 => ?_⟩
      · have := @len_cutI hs none (some (ns.getD 2 0 % ((hs.map V.int).length : Int)))
        exact Nat.le_of_lt (small1000 (by simp only [List.length_singleton]; omega))
      have f3 := same_upd (o := .lst (cutV (hs.map V.int) none (some (ns.getD 2 0 % ((hs.map V.int).length : Int))) ++ [v])) hp3
      have f123 := (f1.trans f2).trans f3
      refine ⟨_, rfl, _, rfl, _, _, rfl, rfl, _, rfl, b, _, rfl, SqL.of (f123 _ _ hB1), fun p4 hp4 => ?_⟩
      have f4 := same_upd (o := .lst (cutV (hs.map V.int) (some (ns.getD 2 0 % ((hs.map V.int).length : Int) + 1)) none)) hp4
      refine ⟨p3, p4, _, _, rfl, rfl, f4 _ _ upd_same, upd_same, ?_, fun p5 hp5 => ?_⟩
      · have q1 := @len_cutI hs none (some (ns.getD 2 0 % ((hs.map V.int).length : Int)))
        have q2 := @len_cutI hs (some (ns.getD 2 0 % ((hs.map V.int).length : Int) + 1)) none
        exact Nat.le_of_lt (small1000 (by simp only [List.length_append, List.length_singleton]; omega))
      have f5 := (f123.trans f4).trans (same_upd (o := .lst (cutV (hs.map V.int) none (some (ns.getD 2 0 % ((hs.map V.int).length : Int))) ++ [v] ++ cutV (hs.map V.int) (some (ns.getD 2 0 % ((hs.map V.int).length : Int) + 1)) none)) hp5)
      refine k _ _ (e1.trans f5) (thok_its upd_same (by
        have q1 := @len_cutI hs none (some (ns.getD 2 0 % ((hs.map V.int).length : Int)))
        have q2 := @len_cutI hs (some (ns.getD 2 0 % ((hs.map V.int).length : Int) + 1)) none
        simp only [List.length_append, List.length_singleton]; omega) fun y hy => ?_)
      rcases List.mem_append.mp hy with hy | hy
      · rcases List.mem_append.mp hy with hy | hy
        · exact its_ints hs y (mem_cutV hy)
        · rw [List.mem_singleton.mp hy]
          exact it_same f5 (its v hm)
      · exact its_ints hs y (mem_cutV hy)
    refine ⟨_, rfl, rfl, _, rfl, iteI (fun _ => ?_) (fun _ => ?_)⟩
    · refine ⟨_, rfl, b, _, rfl, .inl ⟨SqL.of hB, fun t1 ht1 => ?_⟩⟩
      have e0 := same_upd (o := .tup (hs.map V.int)) ht1
      refine ⟨Nat.zero_le _, fun l0 hl0 => ?_⟩
      have e1 := e0.trans (same_upd (o := .lst []) hl0)
      refine ⟨(by decide : 6 ≤ sizeLine), fun l1 hl1 => ?_⟩
      have e2 := e1.trans (same_upd (o := .lst [V.ref t1, V.ref l0, V.non, V.int 3, V.str "012", V.bl true]) hl1)
      have tc : upd (upd (upd H t1 (.tup (hs.map V.int))) l0 (.lst [])) l1 (.lst [V.ref t1, V.ref l0, V.non, V.int 3, V.str "012", V.bl true]) t1 = some (.tup (hs.map V.int)) := same_upd hl1 _ _ (same_upd hl0 _ _ upd_same)
      have lc : upd (upd (upd H t1 (.tup (hs.map V.int))) l0 (.lst [])) l1 (.lst [V.ref t1, V.ref l0, V.non, V.int 3, V.str "012", V.bl true]) l0 = some (.lst []) := same_upd hl1 _ _ upd_same
      have its : ∀ y ∈ [V.ref t1, V.ref l0, V.non, V.int 3, V.str "012", V.bl true], ThOk K (upd (upd (upd H t1 (.tup (hs.map V.int))) l0 (.lst [])) l1 (.lst [V.ref t1, V.ref l0, V.non, V.int 3, V.str "012", V.bl true])) y := by
        intro y hy
        simp only [List.mem_cons, List.not_mem_nil, or_false] at hy
        rcases hy with rfl | rfl | rfl | rfl | rfl | rfl
        · exact .inr ⟨"tuple", _, .base (.tup tc), by decide +kernel, .tup (.inl (.inl tc)) (dpAll_ints hs), by simpa [PyData.canLay0] using (sdAll_ints hs).1, by
            have h0 : ∀ ns : List Int, PyData.depthAll (ns.map PyData.int) = 0 := by
              intro ns
              induction ns with
              | nil => simp [PyData.depthAll]
              | cons n ns ih => simp only [List.map_cons, PyData.depthAll, ih, PyData.depth]; rfl
            simp only [PyData.depth, h0]; omega⟩
        · exact thok_its lc (Nat.zero_le _) fun y hy => by cases hy
        · exact .inr ⟨"NoneType", _, .base .non, by decide +kernel, .non, by simp [PyData.canLay0], by simp [PyData.depth]⟩
        · exact .inr ⟨"int", _, .base (.int 3), by decide +kernel, .int 3, sd_int 3⟩
        · exact .inr ⟨"str", _, .base (.str _), by decide +kernel, .str _, by decide +kernel, by simp [PyData.depth]⟩
        · exact .inr ⟨"bool", _, .base (.bl _), by decide +kernel, .bl _, by simp [PyData.canLay0], by simp [PyData.depth]⟩
      obtain ⟨v, hv, hm⟩ := atI_mod (xs := [V.ref t1, V.ref l0, V.non, V.int 3, V.str "012", V.bl true]) (n := 6) (ns.getD 3 0) rfl (by decide)
      exact ⟨_, rfl, a, ns, 3, rfl, e2.seq hA, _, _, rfl, rfl, (by show (0 : Int) < 6; decide), l1, _, _, v, rfl, rfl, SqL.of upd_same, hv, k v _ e2 (its v hm)⟩
    refine ⟨_, rfl, rfl, _, rfl, iteI (fun _ => ?_) (fun _ => ?_)⟩
    · exact ⟨_, rfl, b, _, rfl, SqL.of hB, fun p1 hp1 => k _ _ (same_upd hp1) (thok_its upd_same (by rw [List.length_reverse, List.length_map]; omega) fun y hy => its_ints hs y (List.mem_reverse.mp hy))⟩
    · exact ⟨_, rfl, k _ _ (Same.refl H) (thok_ints hB (by omega))⟩
theorem isListGo_snoc (m : Int) : ∀ (xs : List V) (b : Int) (h : Int), isListGo m b xs = true → isListGo m b (xs ++ [.int h]) = (decide (0 ≤ h) && decide (h < m) && decide ((match xs.getLast? with | some (.int z) => z | _ => b) < h))
  | [], b, h, _ => by
    show (if 0 ≤ h ∧ h < m ∧ b < h then true else false) = (decide (0 ≤ h) && decide (h < m) && decide (b < h))
    by_cases h1 : 0 ≤ h <;> by_cases h2 : h < m <;> by_cases h3 : b < h <;> simp [h1, h2, h3]
  | [.int z], b, h, e => by
    have e1 : (if 0 ≤ z ∧ z < m ∧ b < z then true else false) = true := e
    have e2 : 0 ≤ z ∧ z < m ∧ b < z := by
      by_cases q : 0 ≤ z ∧ z < m ∧ b < z
      · exact q
      · rw [if_neg q] at e1
        cases e1
    show (if 0 ≤ z ∧ z < m ∧ b < z then (if 0 ≤ h ∧ h < m ∧ z < h then true else false) else false) = (decide (0 ≤ h) && decide (h < m) && decide (z < h))
    rw [if_pos e2]
    by_cases h1 : 0 ≤ h <;> by_cases h2 : h < m <;> by_cases h3 : z < h <;> simp [h1, h2, h3]
  | .int z :: y :: xs, b, h, e => by
    have e1 : (if 0 ≤ z ∧ z < m ∧ b < z then isListGo m z (y :: xs) else false) = true := e
    have e2 : 0 ≤ z ∧ z < m ∧ b < z := by
      by_cases q : 0 ≤ z ∧ z < m ∧ b < z
      · exact q
      · rw [if_neg q] at e1
        cases e1
    rw [if_pos e2] at e1
    show (if 0 ≤ z ∧ z < m ∧ b < z then isListGo m z ((y :: xs) ++ [.int h]) else false) = _
    rw [if_pos e2, isListGo_snoc m (y :: xs) z h e1]
    have e3 : (V.int z :: y :: xs).getLast? = (y :: xs).getLast? := List.getLast?_cons_cons
    rw [e3]
    have e4 : ∃ q, (y :: xs).getLast? = some q := ⟨_, List.getLast?_eq_some_getLast (List.cons_ne_nil _ _)⟩
    obtain ⟨q, hq⟩ := e4
    rw [hq]
    cases q with
    | int q => rfl
    | _ =>
      exfalso
      have hm : ∀ (l : List V) (c : Int), isListGo m c l = true → ∀ x ∈ l, ∃ i, x = .int i := by
        intro l
        induction l with
        | nil => intro _ _ x hx; cases hx
        | cons a l ih =>
          intro c hc x hx
          cases a with
          | int a =>
            rcases List.mem_cons.mp hx with rfl | hx
            · exact ⟨_, rfl⟩
            · have e5 : (if 0 ≤ a ∧ a < m ∧ c < a then isListGo m a l else false) = true := hc
              split at e5
              · exact ih _ e5 x hx
              · cases e5
          | _ => cases hc
      obtain ⟨i, hi⟩ := hm _ _ e1 _ (List.mem_of_getLast? hq)
      cases hi
  | .non :: _, _, _, e => nomatch (show false = true from e)
  | .bl _ :: _, _, _, e => nomatch (show false = true from e)
  | .str _ :: _, _, _, e => nomatch (show false = true from e)
  | .byt _ :: _, _, _, e => nomatch (show false = true from e)
  | .flt _ :: _, _, _, e => nomatch (show false = true from e)
  | .ref _ :: _, _, _, e => nomatch (show false = true from e)
  | .ty _ :: _, _, _, e => nomatch (show false = true from e)
theorem isListGo_prefix (m : Int) : ∀ (xs ys : List V) (b : Int), isListGo m b xs = false → isListGo m b (xs ++ ys) = false
  | [], _, _, e => nomatch e
  | .int z :: xs, ys, b, e => by
    have e1 : (if 0 ≤ z ∧ z < m ∧ b < z then isListGo m z xs else false) = false := e
    show (if 0 ≤ z ∧ z < m ∧ b < z then isListGo m z (xs ++ ys) else false) = false
    by_cases q : 0 ≤ z ∧ z < m ∧ b < z
    · rw [if_pos q] at e1 ⊢
      exact isListGo_prefix m xs ys z e1
    · rw [if_neg q]
  | .non :: _, _, _, _ => rfl
  | .bl _ :: _, _, _, _ => rfl
  | .str _ :: _, _, _, _ => rfl
  | .byt _ :: _, _, _, _ => rfl
  | .flt _ :: _, _, _, _ => rfl
  | .ref _ :: _, _, _, _ => rfl
  | .ty _ :: _, _, _, _ => rfl
theorem take_succ_of {α : Type} {xs : List α} {i : Nat} {x : α} (h : xs[i]? = some x) : xs.take (i + 1) = xs.take i ++ [x] := by
  rw [List.take_add_one, h]
  rfl
def spDue (K : PySem.W.Frag) : Sp := fun vs H Q _ => ∃ x m, vs = [x, .int m] ∧ 0 ≤ m ∧
  ((∃ a xs ds, x = .ref a ∧ H a = some (.lst xs) ∧ (∀ y ∈ xs, Thg K H y) ∧ DpAll K H xs ds ∧ SdAll ds ∧ xs.length ≤ 1000 ∧ ∀ H', Same H H' → Q (.bl (isListB xs m)) H') ∨
   (∃ n d, TyX K H x (.type n) ∧ kitB n "list" = some false ∧ Dp K H x d ∧ Sd d ∧ ∀ H', Same H H' → Q (.bl false) H'))
theorem sc__law_due : FnScope ["_law_thing_here", "_law_many", "_law_k"] ["_law_thing_here", "_law_many"] (defScope s__law_due) := ⟨rfl, rfl, rfl, by decide +kernel, rfl, by decide +kernel, by decide +kernel⟩
set_option maxRecDepth 100000 in
theorem ok__law_due (T : Txt K mg) : OkF P w K mg base CX0 2 (He.ga K "_law_due") ["_law_thing_here", "_law_many"] (spDue K) := by
  obtain ⟨fd, F⟩ := T.F__law_due
  obtain ⟨fd__law_is_number, G__law_is_number⟩ := ok__law_is_number (P := P) (w := w) (base := base) T
  refine ⟨fd, F.ok sc__law_due (fun vs H Q E h => ?_) (fun cdv A outer s H vs Q E hr h => ?_), F.bindsN fun _ _ _ _ _ _ us hl => match us, hl with | [_, _], _ => rfl, F.kp⟩
  · obtain ⟨_, _, rfl, _⟩ := h
    rfl
  · refine ⟨_, PSs.nox (pss_cons (ps_if (PW.pt (pw_or (pt_not (pt_val (pe_callB call_isi (by rfl) T.b_isinstance (by decide +kernel) (pa_cons (pv 0) (pa_cons (pe_bltn (v := .ty "list") (u := .type "list") (by rfl) T.b_list (by decide +kernel) rfl) pa_nil))))) (pw_or1 (pt_cmpR (op_eqD hr.u64) (pv 0) (pe_lst pa_nil) (nomark _))))) (pss_one (ps_ret pe_bl)) pss_nil) (pss_cons (ps_for PassesOwn.never rfl (pi_range1 rfl T.b_range (pa_cons (pe_callB call_len_seq (by rfl) T.b_len PySem.boot_len (pa_cons (pv 0) pa_nil)) pa_nil)) (pg_name (i := 2) sc__law_due.nd rfl (Or.inl rfl)) (pss_cons (ps_if (PW.pt (pw_or (pt_not (pt_val (pe_call G__law_is_number.1 (hr.mono (by decide)) rfl T.g__law_is_number G__law_is_number.2.2 G__law_is_number.2.1 .nil pass0 (pa_cons (pe_ix ix_list (pv 0) (pv 2) (fun _ _ => rfl)) pa_nil)))) (pw_or (pt_cmpR op_lt (pe_ix ix_list (pv 0) (pv 2) (fun _ _ => rfl)) pe_int (nomark _)) (pw_or1 (pt_cmpR op_ge (pe_ix ix_list (pv 0) (pv 2) (fun _ _ => rfl)) (pv 1) (nomark _)))))) (pss_one (ps_ret pe_bl)) pss_nil) (pss_one (ps_if (PW.pt (pw_and (pt_cmpR op_gt (pv 2) pe_int (nomark _)) (pw_and1 (pt_cmpR op_le (pe_ix ix_list (pv 0) (pv 2) (fun _ _ => rfl)) (pe_ix ix_list (pv 0) (pe_op op_sub (pv 2) pe_int) (fun _ _ => rfl)) (nomark _))))) (pss_one (ps_ret pe_bl)) pss_nil)))) (pss_one (ps_ret pe_bl)))), ?_⟩
    obtain ⟨x, m, rfl, hm, hx⟩ := h
    rcases hx with ⟨a, xs, ds, rfl, hL, ht, hd, hs, hlen, k⟩ | ⟨n, d, ty, hn, hd, hs, k⟩
    · refine ⟨_, rfl, _, _, _, _, true, rfl, .ty _, .base (.lst hL), kit_ty (by decide +kernel), true, rfl, iteF ?_⟩
      refine ⟨_, rfl, Nat.zero_le _, fun p hp => ?_⟩
      have e0 := same_upd (o := .lst []) hp
      refine ⟨.list ds, .list [], .lst (SqL.of (e0 _ _ hL)) (dpAll_same e0 hd), .lst (SqL.of upd_same) .nil, shaped_list hs, shaped_list sdAll_nil, _, rfl, ?_⟩
      generalize hH1 : upd H p (.lst []) = H1 at *
      have hL1 := e0 _ _ hL
      by_cases hnil : xs = []
      · subst hnil
        cases hd
        exact iteT (k _ e0)
      · have en : PyData.eqv (.list ds) (.list []) = false := by
          cases hd with
          | nil => exact absurd rfl hnil
          | cons _ _ => simp only [PyData.eqv, PyData.eqvAll]
        rw [en]
        have hB : ∀ b, isListGo m (-1) xs = b → isListB xs m = b := fun b e => by
          unfold isListB
          rw [e]
          cases xs with
          | nil => exact absurd rfl hnil
          | cons _ _ => rfl
        refine iteF ⟨_, rfl, a, _, rfl, .inl (SqL.of hL1), _, rfl, by omega, by omega, ?_⟩
        have hz : ((xs.length : Int)).toNat = xs.length := by omega
        rw [hz]
        refine for_range (lo := 0) (n := xs.length) (fun i σ H' => H' = H1 ∧ (∃ kv, σ = [some (.ref a), some (.int m), kv]) ∧ isListGo m (-1) (xs.take i) = true) ⟨rfl, ⟨none, rfl⟩, rfl⟩ ?_ ?_
        · rintro i σ H' hi ⟨rfl, ⟨kv, rfl⟩, e⟩
          obtain ⟨x, hx⟩ : ∃ x, xs[i]? = some x := ⟨_, List.getElem?_eq_getElem hi⟩
          have hxt := thg_same e0 (ht x (List.mem_of_getElem? hx))
          have e5 : isListGo m (-1) (xs.take (i + 1)) = isListGo m (-1) (xs.take i ++ [x]) := by rw [take_succ_of hx]
          have bad : isListGo m (-1) (xs.take i ++ [x]) = false → isListB xs m = false := fun q => hB _ (by
            rw [← List.take_append_drop (i + 1) xs]
            exact isListGo_prefix m _ _ _ (by rw [take_succ_of hx]; exact q))
          have leave : isListB xs m = false → Q (.bl false) H' := fun q => q ▸ k _ e0
          have hix : atI xs ((0 : Int) + (i : Int)) = some x := by rw [Int.zero_add]; exact atI_nat hx
          refine ⟨_, rfl, _, rfl, a, xs, _, x, rfl, rfl, SqL.of hL1, hix, x, rfl, hxt, _, rfl, ?_⟩
          cases x with
          | int h =>
            have e6 := isListGo_snoc m (xs.take i) (-1) h e
            refine iteF ⟨_, rfl, _, rfl, a, xs, _, _, rfl, rfl, SqL.of hL1, hix, _, _, rfl, rfl, _, rfl, iteD (fun hneg => iteT ?_) (fun hneg => ?_)⟩
            · refine leave (bad ?_)
              rw [e6, decide_eq_false (by omega)]
              rfl
            refine ⟨_, rfl, _, rfl, a, xs, _, _, rfl, rfl, SqL.of hL1, hix, _, rfl, _, _, rfl, rfl, _, rfl, iteD (fun hbig => ?_) (fun hbig => ?_)⟩
            · refine leave (bad ?_)
              rw [e6, decide_eq_false (show ¬ h < m by omega), Bool.and_false]
              rfl
            refine ⟨_, rfl, _, _, rfl, rfl, _, rfl, iteD (fun hk => ?_) (fun hk => ?_)⟩
            · obtain ⟨j, rfl⟩ : ∃ j, i = j + 1 := ⟨i - 1, by omega⟩
              obtain ⟨y, hy⟩ : ∃ y, xs[j]? = some y := ⟨_, List.getElem?_eq_getElem (by omega)⟩
              have hg : (xs.take (j + 1)).getLast? = some y := by rw [take_succ_of hy]; simp
              rw [hg] at e6
              obtain ⟨z, rfl⟩ : ∃ z, y = .int z := by
                have e7 : isListGo m (-1) (xs.take j ++ [y]) = true := by rw [← take_succ_of hy]; exact e
                cases y with
                | int z => exact ⟨z, rfl⟩
                | _ =>
                  exfalso
                  have hm2 : ∀ (l : List V) (c : Int) (v : V), isInt v = false → isListGo m c (l ++ [v]) = false := by
                    intro l
                    induction l with
                    | nil => intro c v hv; cases v <;> first | rfl | cases hv
                    | cons u l ih =>
                      intro c v hv
                      cases u with
                      | int u =>
                        show (if 0 ≤ u ∧ u < m ∧ c < u then isListGo m u (l ++ [v]) else false) = false
                        split
                        · exact ih u v hv
                        · rfl
                      | _ => rfl
                  rw [hm2 _ _ _ rfl] at e7
                  cases e7
              have hiy : atI xs ((0 : Int) + ((j + 1 : Nat) : Int) - 1) = some (V.int z) := by
                have : ((0 : Int) + ((j + 1 : Nat) : Int) - 1) = (j : Int) := by omega
                rw [this]
                exact atI_nat hy
              refine ⟨_, rfl, _, rfl, a, xs, _, _, rfl, rfl, SqL.of hL1, hix, _, rfl, _, rfl, _, _, rfl, rfl, a, xs, _, _, rfl, rfl, SqL.of hL1, hiy, _, _, rfl, rfl, _, rfl, iteD (fun hle => ?_) (fun hle => ?_)⟩
              · refine leave (bad ?_)
                rw [e6]
                show (_ && decide (z < h)) = false
                rw [decide_eq_false (show ¬ z < h by omega), Bool.and_false]
              · refine ⟨rfl, ⟨_, rfl⟩, ?_⟩
                rw [e5, e6]
                show (_ && decide (z < h)) = true
                rw [decide_eq_true (show z < h by omega), decide_eq_true (show 0 ≤ h by omega), decide_eq_true (show h < m by omega)]
                rfl
            · have hi0 : i = 0 := by omega
              subst hi0
              refine ⟨rfl, ⟨_, rfl⟩, ?_⟩
              rw [e5, e6]
              show (decide (0 ≤ h) && decide (h < m) && decide (-1 < h)) = true
              rw [decide_eq_true (show -1 < h by omega), decide_eq_true (show 0 ≤ h by omega), decide_eq_true (show h < m by omega)]
              rfl
          | _ =>
            refine iteT (iteT (leave (bad ?_)))
            have hm2 : ∀ (l : List V) (c : Int) (v : V), isInt v = false → isListGo m c (l ++ [v]) = false := by
              intro l
              induction l with
              | nil => intro c v hv; cases v <;> first | rfl | cases hv
              | cons u l ih =>
                intro c v hv
                cases u with
                | int u =>
                  show (if 0 ≤ u ∧ u < m ∧ c < u then isListGo m u (l ++ [v]) else false) = false
                  split
                  · exact ih u v hv
                  · rfl
                | _ => rfl
            exact hm2 _ _ _ rfl
        · rintro σ H' ⟨rfl, ⟨kv, rfl⟩, e⟩
          rw [List.take_length] at e
          have k2 := k _ e0
          rw [hB _ e] at k2
          exact k2
    · refine ⟨_, rfl, _, _, _, _, false, rfl, .ty _, ty, kit_ty hn, false, rfl, iteT (iteT ?_)⟩
      exact k _ (Same.refl H)

end
end Fo
namespace Fo
open PySem PySem.Spec PyProof.Rows L2
section
variable {P : Program} {w : World} {K : PySem.W.Frag} {mg : Str → Option Value} {base : Heap}
theorem handsGo_nil : ∀ (n : Nat) (i b : Int), handsGo n i b = [] → b % 2 ^ n = 0
  | 0, _, b, _ => by
    show b % 1 = 0
    omega
  | n + 1, i, b, h => by
    unfold handsGo at h
    have h1 := List.append_eq_nil_iff.mp h
    have h2 := handsGo_nil n _ _ h1.2
    have h3 : ¬ b % 2 = 1 := fun q => by
      rw [if_pos q] at h1
      cases h1.1
    have h4 : (2 : Int) ^ (n + 1) = 2 ^ n * 2 := Int.pow_succ 2 n
    rw [h4]
    have h5 : b = 2 * (b / 2) := by omega
    obtain ⟨c, hc⟩ := Int.dvd_of_emod_eq_zero h2
    rw [h5, hc]
    refine Int.emod_eq_zero_of_dvd ⟨c, ?_⟩
    rw [Int.mul_left_comm, Int.mul_comm 2 c, Int.mul_assoc, Int.mul_comm c 2, ← Int.mul_assoc]
theorem handsOf_ne {b : Int} (h : 1 ≤ b) (h2 : b ≤ 511) : handsOf b 9 ≠ [] := fun q => by
  have h3 := handsGo_nil 9 0 b q
  have h4 : (2 : Int) ^ 9 = 512 := by decide
  rw [h4] at h3
  omega
def spLaw (K : PySem.W.Frag) : Sp := fun vs H Q _ => ∃ (a : Addr) (ns : List Int), vs = [.ref a] ∧ SqL K H a (ns.map V.int) ∧ ns.length ≤ 63 ∧ ∀ H', Q (.bl true) H'
/-- rows of ints -/
def rowV (k : Int) (n : Nat) : List Int := (List.range n).map fun (j : Nat) => k + (j : Int)
def rowsAt (H : Hp) (rs : List Addr) (xss : List (List Int)) : Prop := Paired (fun (r : Addr) (xs : List Int) => H r = some (.lst (xs.map V.int))) rs xss
theorem rowsAt_same {H H' : Hp} (e : Same H H') : ∀ {rs : List Addr} {xss : List (List Int)}, rowsAt H rs xss → rowsAt H' rs xss
  | _, _, .nil => .nil
  | _, _, .cons h t => .cons (e _ _ h) (rowsAt_same e t)
theorem rowsAt_app {H : Hp} : ∀ {rs ss : List Addr} {xss yss : List (List Int)}, rowsAt H rs xss → rowsAt H ss yss → rowsAt H (rs ++ ss) (xss ++ yss)
  | _, _, _, _, .nil, h => h
  | _, _, _, _, .cons a t, h => .cons a (rowsAt_app t h)
theorem rowsAt_dp {K : PySem.W.Frag} {H : Hp} : ∀ {rs : List Addr} {xss : List (List Int)}, rowsAt H rs xss → DpAll K H (rs.map V.ref) (xss.map fun xs => .list (xs.map .int))
  | _, _, .nil => .nil
  | _, _, .cons h t => .cons (.lst (SqL.of h) (dpAll_ints _)) (rowsAt_dp t)
theorem depth_ints : ∀ ns : List Int, PyData.depthAll (ns.map PyData.int) = 0
  | [] => by simp [PyData.depthAll]
  | n :: ns => by simp only [List.map_cons, PyData.depthAll, depth_ints ns, PyData.depth]; rfl
theorem sdAll_rows : ∀ xss : List (List Int), SdAll (xss.map fun xs => .list (xs.map .int))
  | [] => sdAll_nil
  | xs :: xss => sdAll_cons ⟨by simpa [PyData.canLay0] using (sdAll_ints xs).1, by simp only [PyData.depth, depth_ints]; omega⟩ (sdAll_rows xss)
theorem rowsAt_sq {K : PySem.W.Frag} {H : Hp} : ∀ {rs : List Addr} {xss : List (List Int)}, rowsAt H rs xss → Paired (fun r xs => SqL K H r xs) rs (xss.map fun xs => xs.map V.int)
  | _, _, .nil => .nil
  | _, _, .cons h t => .cons (SqL.of h) (rowsAt_sq t)
theorem longV_map : ∀ (xss : List (List Int)) (b : List Int), longV (b.map V.int) (xss.map fun xs => xs.map V.int) = (longV b xss).map V.int
  | [], _ => rfl
  | xs :: xss, b => by
    show longV (if (xs.map V.int).length > (b.map V.int).length then xs.map V.int else b.map V.int) _ = (longV (if xs.length > b.length then xs else b) xss).map V.int
    rw [List.length_map, List.length_map]
    split
    · exact longV_map xss xs
    · exact longV_map xss b
theorem longV_len {α : Type} {n : Nat} : ∀ (xss : List (List α)) (b : List α), b.length ≤ n → (∀ xs ∈ xss, xs.length ≤ n) → (longV b xss).length ≤ n
  | [], _, h, _ => h
  | xs :: xss, b, h, hx => by
    show (longV (if xs.length > b.length then xs else b) xss).length ≤ n
    refine longV_len xss _ ?_ fun ys hy => hx ys (List.mem_cons_of_mem _ hy)
    split
    · exact hx xs List.mem_cons_self
    · exact h
theorem rowsAt_get {H : Hp} {rs : List Addr} {xss : List (List Int)} {i : Nat} {v : V} (h : rowsAt H rs xss) (e : (rs.map V.ref)[i]? = some v) : ∃ r xs, v = .ref r ∧ rs[i]? = some r ∧ xss[i]? = some xs ∧ H r = some (.lst (xs.map V.int)) := by
  rw [List.getElem?_map] at e
  cases q : rs[i]? with
  | none => rw [q] at e; cases e
  | some r =>
    rw [q] at e
    cases e
    obtain ⟨xs, h1, h2⟩ := paired_get h q
    exact ⟨r, xs, rfl, rfl, h1, h2⟩
theorem rowsAt_upd {H : Hp} {R : Addr} {o : HO} : ∀ {rs : List Addr} {xss : List (List Int)}, (∀ r ∈ rs, r ≠ R) → rowsAt H rs xss → rowsAt (upd H R o) rs xss
  | _, _, _, .nil => .nil
  | _, _, hn, .cons h t => .cons (by rw [upd_ne (hn _ List.mem_cons_self)]; exact h) (rowsAt_upd (fun r hr => hn r (List.mem_cons_of_mem _ hr)) t)
theorem rowV_succ (k : Int) (n : Nat) : rowV k (n + 1) = rowV k n ++ [k + (n : Int)] := by
  unfold rowV
  rw [List.range_succ, List.map_append]
  rfl
theorem sc_law : FnScope ["_law_script", "_law_hands_here", "_law_count", "_law_thing_here", "_law_many", "_law_kept", "_law_found", "_law_rows", "_law_k", "_law_j", "_law_due_here", "_law_row", "_law_handed", "_law_made"] ["_law_script"] (defScope s_law) := ⟨rfl, rfl, rfl, by decide +kernel, rfl, by decide +kernel, by decide +kernel⟩
theorem law_final (T : Txt K mg) {fd : FuncData} (F : FnP K "law" "law" s_law (He.ga K "law") fd) : FnOk P w K mg base CX0 4 (He.ga K "law") fd ["_law_script"] (spLaw K) := by
  obtain ⟨fd__law_hands, G__law_hands⟩ := ok__law_hands (P := P) (w := w) (base := base) T
  obtain ⟨fd__law_draw, G__law_draw⟩ := ok__law_draw (P := P) (w := w) (base := base) T
  obtain ⟨fd_enough, G_enough⟩ := ok_enough (P := P) (w := w) (base := base) T
  obtain ⟨fd__law_is_number, G__law_is_number⟩ := ok__law_is_number (P := P) (w := w) (base := base) T
  obtain ⟨fd__law_thing, G__law_thing⟩ := ok__law_thing (P := P) (w := w) (base := base) T
  obtain ⟨fd_is_list, G_is_list⟩ := ok_is_list (P := P) (w := w) (base := base) T
  obtain ⟨fd__law_due, G__law_due⟩ := ok__law_due (P := P) (w := w) (base := base) T
  obtain ⟨fd_longest, G_longest⟩ := ok_longest (P := P) (w := w) (base := base) T
  refine F.ok sc_law (fun vs H Q E h => ?_) (fun cdv A outer s H vs Q E hr h => ?_)
  · obtain ⟨_, _, rfl, _⟩ := h
    rfl
  · refine ⟨_, PSs.nox (pss_cons (ps_set (i := 1) sc_law.nd rfl (Or.inl rfl) (pe_call G__law_hands.1 (hr.mono (by decide)) rfl T.g__law_hands G__law_hands.2.2 G__law_hands.2.1 .nil pass0 (pa_cons (pe_op op_add pe_int (pe_op op_mod (pe_call G__law_draw.1 (hr.mono (by decide)) rfl T.g__law_draw G__law_draw.2.2 G__law_draw.2.1 .nil pass0 (pa_cons (pv 0) (pa_cons pe_int pa_nil))) pe_int)) (pa_cons pe_int pa_nil)))) (pss_cons (ps_set (i := 2) sc_law.nd rfl (Or.inl rfl) (pe_call G_enough.1 (hr.mono (by decide)) rfl T.g_enough G_enough.2.2 G_enough.2.1 .nil pass0 (pa_cons (pe_callTy (T := "list") call_list_of (by rfl) T.b_list (by decide +kernel) (pa_cons (pv 1) pa_nil)) pa_nil))) (pss_cons (ps_if (PW.pt (pw_or (pt_not (pt_val (pe_call G__law_is_number.1 (hr.mono (by decide)) rfl T.g__law_is_number G__law_is_number.2.2 G__law_is_number.2.1 .nil pass0 (pa_cons (pv 2) pa_nil)))) (pw_or (pt_not (pt_cmpR op_gt (pe_op op_mul pe_int (pv 2)) (pe_callB call_len_seq (by rfl) T.b_len PySem.boot_len (pa_cons (pv 1) pa_nil)) (nomark _))) (pw_or1 (pt_cmpR op_gt (pe_op op_sub (pe_op op_mul pe_int (pv 2)) pe_int) (pe_callB call_len_seq (by rfl) T.b_len PySem.boot_len (pa_cons (pv 1) pa_nil)) (nomark _)))))) (pss_one (ps_ret pe_bl)) pss_nil) (pss_cons (ps_set (i := 3) sc_law.nd rfl (Or.inl rfl) (pe_call G__law_thing.1 (hr.mono (by decide)) rfl T.g__law_thing G__law_thing.2.2 G__law_thing.2.1 .nil pass0 (pa_cons (pv 0) (pa_cons (pv 1) pa_nil)))) (pss_cons (ps_set (i := 4) sc_law.nd rfl (Or.inl rfl) (pe_op op_add pe_int (pe_op op_mod (pe_call G__law_draw.1 (hr.mono (by decide)) rfl T.g__law_draw G__law_draw.2.2 G__law_draw.2.1 .nil pass0 (pa_cons (pv 0) (pa_cons pe_int pa_nil))) pe_int))) (C8.pss_cut (ps_set (i := 5) sc_law.nd rfl (Or.inl rfl) (pe_ifExp (pt_val (pe_callB call_isi (by rfl) T.b_isinstance (by decide +kernel) (pa_cons (pv 3) (pa_cons (pe_bltn (v := .ty "list") (u := .type "list") (by rfl) T.b_list (by decide +kernel) rfl) pa_nil)))) (pe_callTy (T := "list") call_list_of (by rfl) T.b_list (by decide +kernel) (pa_cons (pv 3) pa_nil)) (pv 3))) (C8.pss_cut (ps_set (i := 6) sc_law.nd rfl (Or.inl rfl) (pe_call G_is_list.1 (hr.mono (by decide)) rfl T.g_is_list G_is_list.2.2 G_is_list.2.1 .nil pass0 (pa_cons (pv 3) (pa_cons (pv 4) pa_nil)))) (C8.pss_cut (ps_if (PW.pt (pw_or (pt_not (pt_val (pe_callB call_isi (by rfl) T.b_isinstance (by decide +kernel) (pa_cons (pv 6) (pa_cons (pe_bltn (v := .ty "bool") (u := .type "bool") (by rfl) T.b_bool (by decide +kernel) rfl) pa_nil))))) (pw_or (pt_cmpR op_ne (pv 6) (pe_call G__law_due.1 (hr.mono (by decide)) rfl T.g__law_due G__law_due.2.2 G__law_due.2.1 .nil pass0 (pa_cons (pv 3) (pa_cons (pv 4) pa_nil))) (nomark _)) (pw_or1 (pt_cmpR (op_neD hr.u64) (pv 3) (pv 5) (nomark _)))))) (pss_one (ps_ret pe_bl)) pss_nil) (pss_cons (ps_set (i := 7) sc_law.nd rfl (Or.inl rfl) (pe_lst pa_nil)) (C8.pss_cut (ps_for PassesOwn.never rfl (pi_range1 rfl T.b_range (pa_cons (pe_op op_mod (pe_call G__law_draw.1 (hr.mono (by decide)) rfl T.g__law_draw G__law_draw.2.2 G__law_draw.2.1 .nil pass0 (pa_cons (pv 0) (pa_cons pe_int pa_nil))) pe_int) pa_nil)) (pg_name (i := 8) sc_law.nd rfl (Or.inr rfl)) (pss_one (ps_expr (pe_bm PySem.F.plainAttrs_list PySem.F.slot_list_append PySem.F.type_list_append mt_append (pv 7) (pa_cons (pe_lc (own := [("_law_j", 9)]) (g := (gName 9)) (te := (tOp (rI0 fun i j => .int (i + j)) (tVar 8) (tVar 9))) rfl sc_law.nd (pi_range1 rfl T.b_range (pa_cons (pe_op op_mod (pe_call G__law_draw.1 (hr.mono (by decide)) rfl T.g__law_draw G__law_draw.2.2 G__law_draw.2.1 .nil pass0 (pa_cons (pv 0) (pa_cons (pe_op op_add pe_int (pv 8)) pa_nil))) pe_int) pa_nil)) (blkOk_by (own := [("_law_j", 9)]) (N := ["_law_script", "_law_hands_here", "_law_count", "_law_thing_here", "_law_many", "_law_kept", "_law_found", "_law_rows", "_law_k", "_law_j", "_law_due_here", "_law_row", "_law_handed", "_law_made"]) (sc := defScope s_law) (by decide +kernel)) (fun _ _ _ _ _ => (pg_name (i := 9) sc_law.nd rfl (Or.inl rfl))) (fun _ _ _ _ _ => pts_nil) (fun _ _ _ _ _ => (pe_op op_add (pv 8) (pv 9)))) pa_nil))))) (pss_cons (ps_set (i := 10) sc_law.nd rfl (Or.inl rfl) (pe_lst pa_nil)) (C8.pss_cut (ps_for PassesOwn.never rfl (pi_list (pv 7)) (pg_name (i := 11) sc_law.nd rfl (Or.inl rfl)) (pss_one (ps_if (pt_cmpR op_gt (pe_callB call_len_seq (by rfl) T.b_len PySem.boot_len (pa_cons (pv 11) pa_nil)) (pe_callB call_len_seq (by rfl) T.b_len PySem.boot_len (pa_cons (pv 10) pa_nil)) (nomark _)) (pss_one (ps_set (i := 10) sc_law.nd rfl (Or.inl rfl) (pv 11))) pss_nil))) (pss_cons (ps_setLc (i := 12) (own := [("_law_row", 11)]) (g := (gName 11)) (te := (tCB (rListOf K) (tCons (tVar 11) tNil))) rfl sc_law.nd rfl rfl (sw_true rfl rfl rfl (by decide +kernel)) (pi_list (pv 7)) (blkOk_by (own := [("_law_row", 11)]) (N := ["_law_script", "_law_hands_here", "_law_count", "_law_thing_here", "_law_many", "_law_kept", "_law_found", "_law_rows", "_law_k", "_law_j", "_law_due_here", "_law_row", "_law_handed", "_law_made"]) (sc := defScope s_law) (by decide +kernel)) (fun _ _ _ _ _ => (pg_name (i := 11) sc_law.nd rfl (Or.inl rfl))) (fun _ _ _ _ _ => pts_nil) (fun _ _ _ _ _ => (pe_callTy (T := "list") call_list_of (by rfl) T.b_list (by decide +kernel) (pa_cons (pv 11) pa_nil)))) (pss_cons (ps_set (i := 13) sc_law.nd rfl (Or.inl rfl) (pe_call G_longest.1 (hr.mono (by decide)) rfl T.g_longest G_longest.2.2 G_longest.2.1 .nil pass0 (pa_cons (pv 12) pa_nil))) (pss_cons (ps_if (PW.pt (pw_or (pt_not (pt_val (pe_callB call_isi (by rfl) T.b_isinstance (by decide +kernel) (pa_cons (pv 13) (pa_cons (pe_bltn (v := .ty "list") (u := .type "list") (by rfl) T.b_list (by decide +kernel) rfl) pa_nil))))) (pw_or (pt_cmpR (op_neD hr.u64) (pv 13) (pv 10) (nomark _)) (pw_or1 (pt_cmpR (op_neD hr.u64) (pv 12) (pv 7) (nomark _)))))) (pss_one (ps_ret pe_bl)) pss_nil) (pss_cons (ps_expr (pe_bm PySem.F.plainAttrs_list PySem.F.slot_list_append PySem.F.type_list_append mt_append (pv 13) (pa_cons pe_int pa_nil))) (pss_one (ps_ret (pe_cmpR (op_eqD hr.u64) (pv 12) (pv 7) (nomark _)))))))))))))))))))), ?_⟩
    obtain ⟨a, ns, rfl, hA, hns, k⟩ := h
    refine ⟨_, rfl, a, ns, 0, rfl, hA, _, _, rfl, rfl, (by show (0 : Int) < 511; decide), _, _, rfl, rfl, _, 9, rfl, by omega, by omega, fun p1 H1 n1 e1 hL1 => ?_⟩
    have hb0 := Int.emod_nonneg (ns.getD 0 0) (show (511 : Int) ≠ 0 by decide)
    have hb1 := Int.emod_lt_of_pos (ns.getD 0 0) (show (0 : Int) < 511 by decide)
    have hne : handsOf (1 + ns.getD 0 0 % 511) 9 ≠ [] := handsOf_ne (by omega) (by omega)
    have hlen : (handsOf (1 + ns.getD 0 0 % 511) 9).length ≤ 9 := handsGo_len 9 _ _
    generalize hhs : handsOf (1 + ns.getD 0 0 % 511) 9 = hs at *
    have hl1 : 0 < hs.length := List.length_pos_iff.mpr hne
    refine ⟨_, rfl, p1, _, rfl, .inl (SqL.of hL1), fun p2 hp2 => ?_⟩
    have e2 := e1.trans (same_upd (o := .lst (hs.map V.int)) hp2)
    have hL2 := (same_upd (o := .lst (hs.map V.int)) hp2) _ _ hL1
    refine ⟨p2, _, rfl, SqL.of upd_same, ?_⟩
    generalize hH2 : upd H1 p2 (.lst (hs.map V.int)) = H2 at *
    rw [List.length_map]
    refine ⟨_, rfl, _, rfl, thg_int, true, rfl, iteF ?_⟩
    refine ⟨_, rfl, _, _, rfl, rfl, .inl ⟨by decide, by decide⟩, _, rfl, p1, _, rfl, .inl (SqL.of hL2), _, _, rfl, rfl, _, rfl, ?_⟩
    rw [List.length_map]
    rw [decide_eq_true (show (hs.length : Int) < 2 * ((hs.length : Int) / 2 + 1) by omega)]
    refine iteF ?_
    refine ⟨_, rfl, _, _, rfl, rfl, .inl ⟨by decide, by decide⟩, _, _, rfl, rfl, _, rfl, p1, _, rfl, .inl (SqL.of hL2), _, _, rfl, rfl, _, rfl, ?_⟩
    rw [List.length_map]
    rw [decide_eq_false (show ¬ (hs.length : Int) < 2 * ((hs.length : Int) / 2 + 1) - 2 by omega)]
    refine iteF ?_
    -- the thing
    refine ⟨_, rfl, _, rfl, a, p1, ns, hs, rfl, e2.seq hA, hL2, hne, by omega, fun v H3 e3 ht3 => ?_⟩
    have e3' := e2.trans e3
    refine ⟨_, rfl, a, ns, 4, rfl, e3'.seq hA, _, _, rfl, rfl, (by show (0 : Int) < 9; decide), _, _, rfl, rfl, ?_⟩
    have hm0 := Int.emod_nonneg (ns.getD 4 0) (show (9 : Int) ≠ 0 by decide)
    have hm1 := Int.emod_lt_of_pos (ns.getD 4 0) (show (0 : Int) < 9 by decide)
    obtain ⟨m, hm⟩ : ∃ m, m = (1 : Int) + ns.getD 4 0 % 9 := ⟨_, rfl⟩
    have hA3 : SqL K H3 a (ns.map V.int) := e3'.seq hA
    refine ⟨fun σ H4 => Same H3 H4 ∧ ∃ kv d, σ = [some (.ref a), some (.ref p1), some (.int ((hs.length : Int) / 2 + 1)), some v, some (.int m), some kv, none, none, none, none, none, none, none, none] ∧ Dp K H4 v d ∧ Dp K H4 kv d ∧ SeqAt.shaped d = true, ?_, ?_⟩
    · rcases ht3 with ⟨b, xs, ds, rfl, hL, ht, hd, hs2, hl⟩ | ⟨n, d, ty, hn, hd, hs2⟩
      · refine ⟨_, rfl, _, _, _, _, true, rfl, .ty _, .base (.lst hL), kit_ty (by decide +kernel), true, rfl, iteT ⟨_, rfl, b, _, rfl, .inl (SqL.of hL), fun l hl => ?_⟩⟩
        have f := same_upd (o := .lst xs) hl
        exact ⟨f, _, .list ds, (by rw [hm]; rfl), .lst (SqL.of (f _ _ hL)) (dpAll_same f hd), .lst (SqL.of upd_same) (dpAll_same f hd), shaped_list hs2⟩
      · refine ⟨_, rfl, _, _, _, _, false, rfl, .ty _, ty, kit_ty hn, false, rfl, iteF ⟨_, rfl, ?_⟩⟩
        exact ⟨Same.refl _, _, d, (by rw [hm]; rfl), hd, hd, hs2.shaped⟩
    rintro σ H4 ⟨e4, kv, d, rfl, d1, d2, dsh⟩
    have ht4 := thok_same e4 ht3
    have hA4 := e4.seq hA3
    clear ht3 hA3
    refine ⟨fun σ H5 => H5 = H4 ∧ ∃ b0, σ = [some (.ref a), some (.ref p1), some (.int ((hs.length : Int) / 2 + 1)), some v, some (.int m), some kv, some (.bl b0), none, none, none, none, none, none, none] ∧
        ((∃ b xs ds, v = .ref b ∧ H4 b = some (.lst xs) ∧ (∀ y ∈ xs, Thg K H4 y) ∧ DpAll K H4 xs ds ∧ SdAll ds ∧ xs.length ≤ 1000 ∧ b0 = isListB xs m) ∨ (∃ n d, TyX K H4 v (.type n) ∧ kitB n "list" = some false ∧ Dp K H4 v d ∧ Sd d ∧ b0 = false)), ?_, ?_⟩
    · rcases ht4 with ⟨b, xs, ds, rfl, hL, ht, hd, hs2, hl⟩ | ⟨n, d, ty, hn, hd, hs2⟩
      · exact ⟨_, rfl, _, rfl, _, m, rfl, .inl ⟨b, xs, rfl, hL, ht, rfl, _, rfl, .inl ⟨b, xs, ds, rfl, hL, ht, hd, hs2, hl, rfl⟩⟩⟩
      · exact ⟨_, rfl, _, rfl, _, m, rfl, .inr ⟨n, ty, hn, rfl, _, rfl, .inr ⟨n, d, ty, hn, hd, hs2, rfl⟩⟩⟩
    rintro σ H5 ⟨rfl, b0, rfl, hb0⟩
    clear ht4
    refine ⟨fun σ H6 => Same H5 H6 ∧ σ = [some (.ref a), some (.ref p1), some (.int ((hs.length : Int) / 2 + 1)), some v, some (.int m), some kv, some (.bl b0), none, none, none, none, none, none, none], ?_, ?_⟩
    · refine ⟨_, rfl, _, _, _, _, true, rfl, .ty _, .base (.bl b0), kit_ty (by decide +kernel), true, rfl, iteF ⟨_, rfl, _, rfl, _, rfl, v, m, rfl, by omega, ?_⟩⟩
      have tail : ∀ H', Same H5 H' → Dp K H' v d ∧ Dp K H' kv d := fun H' e => ⟨dp_same e d1, dp_same e d2⟩
      rcases hb0 with ⟨b, xs, ds, rfl, hL, ht, hd, hs2, hl, rfl⟩ | ⟨n, d, ty, hn, hd, hs2, rfl⟩
      · refine .inl ⟨b, xs, ds, rfl, hL, ht, hd, hs2, hl, fun H6 e6 => ⟨rfl, _, rfl, ?_⟩⟩
        rw [decide_eq_true (rfl : V.bl (isListB xs m) = V.bl (isListB xs m))]
        refine iteF ⟨_, rfl, _, rfl, d, d, (tail H6 e6).1, (tail H6 e6).2, dsh, dsh, _, rfl, ?_⟩
        rw [PySem.SeqAt.eqv_refl d (SeqAt.canLay_of_shaped dsh)]
        exact iteF ⟨e6, rfl⟩
      · rename_i d'
        refine .inr ⟨n, _, ty, hn, hd, hs2, fun H6 e6 => ⟨rfl, _, rfl, ?_⟩⟩
        rw [decide_eq_true (rfl : V.bl false = V.bl false)]
        refine iteF ⟨_, rfl, _, rfl, d', d', (tail H6 e6).1, (tail H6 e6).2, dsh, dsh, _, rfl, ?_⟩
        rw [PySem.SeqAt.eqv_refl d' (SeqAt.canLay_of_shaped dsh)]
        exact iteF ⟨e6, rfl⟩
    rintro σ H6 ⟨e6, rfl⟩
    have hA6 := e6.seq hA4
    clear hb0
    -- the rows
    refine ⟨Nat.zero_le _, fun R hR => ?_⟩
    have eR := same_upd (o := .lst []) hR
    refine ⟨fun σ H7 => ∃ (kk : Option V) (rs : List Addr) (xss : List (List Int)), σ = [some (.ref a), some (.ref p1), some (.int ((hs.length : Int) / 2 + 1)), some v, some (.int m), some kv, some (.bl b0), some (.ref R), kk, none, none, none, none, none] ∧
        Same H6 H7 ∧ H7 R = some (.lst (rs.map V.ref)) ∧ rowsAt H7 rs xss ∧ (∀ r ∈ rs, r ≠ R) ∧ (∀ xs ∈ xss, xs.length ≤ 6) ∧ xss.length ≤ 6, ?_, ?_⟩
    · have hr0 := Int.emod_nonneg (ns.getD 5 0) (show (6 : Int) ≠ 0 by decide)
      have hr1 := Int.emod_lt_of_pos (ns.getD 5 0) (show (0 : Int) < 6 by decide)
      refine ⟨_, rfl, a, ns, 5, rfl, eR.seq hA6, _, _, rfl, rfl, (by show (0 : Int) < 6; decide), _, rfl, by omega, by omega, ?_⟩
      refine for_range (lo := 0) (n := (ns.getD 5 0 % 6).toNat) (fun i σ H7 => ∃ (kk : Option V) (rs : List Addr) (xss : List (List Int)), σ = [some (.ref a), some (.ref p1), some (.int ((hs.length : Int) / 2 + 1)), some v, some (.int m), some kv, some (.bl b0), some (.ref R), kk, none, none, none, none, none] ∧
        Same H6 H7 ∧ H7 R = some (.lst (rs.map V.ref)) ∧ rowsAt H7 rs xss ∧ (∀ r ∈ rs, r ≠ R) ∧ (∀ xs ∈ xss, xs.length ≤ 6) ∧ rs.length ≤ i) ⟨none, [], [], rfl, eR, upd_same, .nil, (by intro r h; cases h), (by intro r h; cases h), Nat.le_refl _⟩ ?_ ?_
      · rintro i σ H7 hi ⟨kk, rs, xss, rfl, e7, hRl, hrs, hnR, hxl, hln⟩
        refine ⟨_, rfl, .inl ⟨rfl, _, SqL.of hRl⟩, ?_⟩
        have hj0 := Int.emod_nonneg (ns.getD (6 + i) 0) (show (7 : Int) ≠ 0 by decide)
        have hj1 := Int.emod_lt_of_pos (ns.getD (6 + i) 0) (show (0 : Int) < 7 by decide)
        refine ⟨_, rfl, _, rfl, _, _, rfl, rfl, a, ns, 6 + i, by show [V.ref a, V.int (6 + (0 + (i : Int)))] = [V.ref a, V.int ((6 + i : Nat) : Int)]; rw [show (6 + (0 + (i : Int))) = ((6 + i : Nat) : Int) by omega], e7.seq hA6, _, _, rfl, rfl, (by show (0 : Int) < 7; decide), _, rfl, by omega, by omega, fun D hD => ?_⟩
        refine lc_range (lo := 0) (n := (ns.getD (6 + i) 0 % 7).toNat) (fun j H8 => H8 = upd H7 D (.lst ((rowV i j).map V.int))) rfl ?_ ?_
        · rintro j H8 hj rfl
          refine ⟨rfl, _, rfl, _, rfl, _, _, rfl, rfl, _, upd_same, ?_, ?_⟩
          · rw [List.length_map, rowV, List.length_map, List.length_range]
            exact small1000 (by omega)
          · rw [upd_upd, rowV_succ, List.map_append]
            congr 3
            show [V.int ((0 + (i : Int)) + (0 + (j : Int)))] = [V.int ((i : Int) + (j : Int))]
            congr 2
            omega
        · rintro H8 rfl
          have eD := same_upd (o := .lst ((rowV i (ns.getD (6 + i) 0 % 7).toNat).map V.int)) hD
          have nRD : R ≠ D := ne_of_none hRl hD
          refine ⟨R, _, _, rfl, rfl, eD _ _ hRl, by rw [List.length_map]; exact small1000 (by omega), ?_⟩
          refine ⟨_, rs ++ [D], xss ++ [rowV i (ns.getD (6 + i) 0 % 7).toNat], rfl, ?_, by rw [upd_same, List.map_append]; rfl, ?_, ?_, ?_, by rw [List.length_append]; simp; omega⟩
          · intro b o hb
            rw [upd_ne (ne_of_none hb hR)]
            exact eD _ _ (e7 _ _ hb)
          · refine rowsAt_upd ?_ (rowsAt_app (rowsAt_same eD hrs) (.cons upd_same .nil))
            intro r hr
            rcases List.mem_append.mp hr with hr | hr
            · exact hnR r hr
            · rw [List.mem_singleton.mp hr]
              exact nRD.symm
          · intro r hr
            rcases List.mem_append.mp hr with hr | hr
            · exact hnR r hr
            · rw [List.mem_singleton.mp hr]
              exact nRD.symm
          · intro xs hx
            rcases List.mem_append.mp hx with hx | hx
            · exact hxl xs hx
            · rw [List.mem_singleton.mp hx, rowV, List.length_map, List.length_range]
              omega
      · rintro σ H7 ⟨kk, rs, xss, rfl, e7, hRl, hrs, hnR, hxl, hln⟩
        exact ⟨kk, rs, xss, rfl, e7, hRl, hrs, hnR, hxl, by rw [← paired_len hrs]; omega⟩
    rintro σ H7 ⟨kk, rs, xss, rfl, e7, hRl, hrs, hnR, hxl, hln⟩
    clear hA6 hA4 d1 d2
    -- the one that is due
    refine ⟨Nat.zero_le _, fun Z hZ => ?_⟩
    have eZ := same_upd (o := .lst []) hZ
    refine ⟨fun σ H8 => ∃ (rv : Option V) (B : Addr), σ = [some (.ref a), some (.ref p1), some (.int ((hs.length : Int) / 2 + 1)), some v, some (.int m), some kv, some (.bl b0), some (.ref R), kk, none, some (.ref B), rv, none, none] ∧
        Same H7 H8 ∧ H8 B = some (.lst ((longV [] xss).map V.int)), ?_, ?_⟩
    · refine ⟨_, rfl, R, rfl, ⟨_, SqL.of (eZ _ _ hRl)⟩, for_list (xs := rs.map V.ref) (fun i σ H8 => H8 = upd H7 Z (.lst []) ∧ ∃ (rv : Option V) (B : Addr) (bs : List Int), σ = [some (.ref a), some (.ref p1), some (.int ((hs.length : Int) / 2 + 1)), some v, some (.int m), some kv, some (.bl b0), some (.ref R), kk, none, some (.ref B), rv, none, none] ∧
        H8 B = some (.lst (bs.map V.int)) ∧ longV [] xss = longV bs (xss.drop i)) ⟨rfl, none, Z, [], rfl, upd_same, rfl⟩ (fun i σ H' _ p => by rw [p.1]; exact SqL.of (eZ _ _ hRl)) ?_ ?_⟩
      · rintro i z σ H8 hz ⟨rfl, rv, B, bs, rfl, hB, e⟩
        obtain ⟨r, xs, rfl, _, hxs, hr⟩ := rowsAt_get (rowsAt_same eZ hrs) hz
        rw [drop_cons hxs] at e
        refine ⟨_, rfl, r, _, rfl, .inl (SqL.of hr), _, rfl, B, _, rfl, .inl (SqL.of hB), _, _, rfl, rfl, _, rfl, iteD (fun hc => ?_) (fun hc => ?_)⟩
        · rw [List.length_map, List.length_map] at hc
          refine ⟨_, rfl, rfl, _, r, xs, rfl, hr, ?_⟩
          rw [e]
          show longV (if xs.length > bs.length then xs else bs) _ = _
          rw [if_pos (by omega)]
        · rw [List.length_map, List.length_map] at hc
          refine ⟨rfl, _, B, bs, rfl, hB, ?_⟩
          rw [e]
          show longV (if xs.length > bs.length then xs else bs) _ = _
          rw [if_neg (by omega)]
      · rintro σ H8 ⟨rfl, rv, B, bs, rfl, hB, e⟩
        have e2 : longV [] xss = bs := by
          rw [e, List.length_map, paired_len hrs, List.drop_length]
          rfl
        exact ⟨rv, B, rfl, eZ, by rw [e2]; exact hB⟩
    rintro σ H8 ⟨rv, B, rfl, e8, hB⟩
    -- the rows handed
    have hR8 := e8 _ _ hRl
    have hrs8 := rowsAt_same e8 hrs
    refine ⟨_, rfl, R, rfl, ⟨_, SqL.of hR8⟩, fun D hD => ?_⟩
    refine lc_list (K := K) (a := R) (xs := rs.map V.ref) (fun i H9 => ∃ cs : List Addr, Same H8 H9 ∧ H9 D = some (.lst (cs.map V.ref)) ∧ rowsAt H9 cs (xss.take i) ∧ (∀ c ∈ cs, c ≠ D)) ⟨[], same_upd hD, upd_same, .nil, (by intro r h; cases h)⟩
      (fun i H' _ p => by obtain ⟨cs, e, _⟩ := p; exact SqL.of (e _ _ hR8)) ?_ ?_
    · rintro i z H9 hz ⟨cs, e9, hDl, hcs, hnD⟩
      obtain ⟨r, xs, rfl, _, hxs, hr⟩ := rowsAt_get (rowsAt_same e9 hrs8) hz
      refine ⟨rfl, _, rfl, r, _, rfl, .inl (SqL.of hr), fun l hl => ?_⟩
      have el := same_upd (o := .lst (xs.map V.int)) hl
      have nDl : D ≠ l := ne_of_none hDl hl
      have hcl : cs.length ≤ 6 := by
        have := paired_len hcs
        rw [List.length_take] at this
        omega
      refine ⟨_, el _ _ hDl, by rw [List.length_map]; exact small1000 (by omega), cs ++ [l], ?_, by rw [upd_same, List.map_append]; rfl, ?_, ?_⟩
      · intro b o hb
        rw [upd_ne (ne_of_none hb hD)]
        exact el _ _ (e9 _ _ hb)
      · rw [take_succ_of hxs]
        refine rowsAt_upd ?_ (rowsAt_app (rowsAt_same el hcs) (.cons upd_same .nil))
        intro r hr
        rcases List.mem_append.mp hr with hr | hr
        · exact hnD r hr
        · rw [List.mem_singleton.mp hr]
          exact nDl.symm
      · intro r hr
        rcases List.mem_append.mp hr with hr | hr
        · exact hnD r hr
        · rw [List.mem_singleton.mp hr]
          exact nDl.symm
    rintro H9 ⟨cs, e9, hDl, hcs, hnD⟩
    rw [List.length_map, paired_len hrs, List.take_length] at hcs
    -- the longest
    refine ⟨_, rfl, D, cs, _, rfl, SqL.of hDl, rowsAt_sq hcs, fun p H10 hp e10 hpl => ?_⟩
    have e10' : Same H9 H10 := e10
    rw [show ([] : List V) = ([] : List Int).map V.int from rfl, longV_map] at hpl
    have hB10 := e10' _ _ (e9 _ _ hB)
    have hD10 := e10' _ _ hDl
    have hc10 := rowsAt_same e10' hcs
    have hR10 := e10' _ _ (e9 _ _ hR8)
    have hr10 := rowsAt_same e10' (rowsAt_same e9 hrs8)
    have shL : SeqAt.shaped (.list ((longV [] xss).map PyData.int)) = true := shaped_list (sdAll_ints _)
    have shR : SeqAt.shaped (.list (xss.map fun xs => .list (xs.map .int))) = true := shaped_list (sdAll_rows _)
    refine ⟨_, rfl, _, _, _, _, true, rfl, .ty _, .base (.lst hpl), kit_ty (by decide +kernel), true, rfl, iteF ?_⟩
    refine ⟨_, rfl, _, rfl, _, _, .lst (SqL.of hpl) (dpAll_ints _), .lst (SqL.of hB10) (dpAll_ints _), shL, shL, _, rfl, ?_⟩
    rw [PySem.SeqAt.eqv_refl _ (SeqAt.canLay_of_shaped shL)]
    refine iteF ⟨_, rfl, _, rfl, _, _, .lst (SqL.of hD10) (rowsAt_dp hc10), .lst (SqL.of hR10) (rowsAt_dp hr10), shR, shR, _, rfl, ?_⟩
    rw [PySem.SeqAt.eqv_refl _ (SeqAt.canLay_of_shaped shR)]
    refine iteF ?_
    have hp8 : H9 p = none := hp
    have nD : D ≠ p := ne_of_none hDl hp8
    have nR : R ≠ p := ne_of_none (e9 _ _ hR8) hp8
    have ncs : ∀ r ∈ cs, r ≠ p := fun r hr q => by
      subst q
      obtain ⟨i, hi⟩ := List.getElem?_of_mem hr
      obtain ⟨_, _, q2⟩ := paired_get hcs hi
      rw [hp8] at q2
      cases q2
    have nrs : ∀ r ∈ rs, r ≠ p := fun r hr q => by
      subst q
      obtain ⟨i, hi⟩ := List.getElem?_of_mem hr
      obtain ⟨_, _, q2⟩ := paired_get (rowsAt_same e9 hrs8) hi
      rw [hp8] at q2
      cases q2
    refine ⟨_, rfl, .inl ⟨rfl, _, SqL.of hpl⟩, p, _, _, rfl, rfl, hpl, ?_, ?_⟩
    · rw [List.length_map]
      exact small1000 (Nat.le_trans (longV_len xss [] (Nat.zero_le _) hxl) (by decide))
    refine ⟨_, rfl, _, rfl, _, _, .lst (SqL.of (by rw [upd_ne nD]; exact hD10)) (rowsAt_dp (rowsAt_upd ncs hc10)), .lst (SqL.of (by rw [upd_ne nR]; exact hR10)) (rowsAt_dp (rowsAt_upd nrs hr10)), shR, shR, ?_⟩
    rw [PySem.SeqAt.eqv_refl _ (SeqAt.canLay_of_shaped shR)]
    exact k _

end
end Fo
/-! ### the head -/
namespace Fo
open PySem PySem.Spec PyProof.Rows L2
def d_is_whole : He.DefD := ⟨("is_whole", none), "is_whole", "is_whole", defArgs s_is_whole, defBody s_is_whole, defScope s_is_whole, [], []⟩
def d_is_hand : He.DefD := ⟨("is_hand", none), "is_hand", "is_hand", defArgs s_is_hand, defBody s_is_hand, defScope s_is_hand, [], []⟩
def d_enough : He.DefD := ⟨("enough", none), "enough", "enough", defArgs s_enough, defBody s_enough, defScope s_enough, [], []⟩
def d_is_list : He.DefD := ⟨("is_list", none), "is_list", "is_list", defArgs s_is_list, defBody s_is_list, defScope s_is_list, [], []⟩
def d_longest : He.DefD := ⟨("longest", none), "longest", "longest", defArgs s_longest, defBody s_longest, defScope s_longest, [], []⟩
def d__law_draw : He.DefD := ⟨("_law_draw", none), "_law_draw", "_law_draw", defArgs s__law_draw, defBody s__law_draw, defScope s__law_draw, [], []⟩
def d__law_is_number : He.DefD := ⟨("_law_is_number", none), "_law_is_number", "_law_is_number", defArgs s__law_is_number, defBody s__law_is_number, defScope s__law_is_number, [], []⟩
def d__law_hands : He.DefD := ⟨("_law_hands", none), "_law_hands", "_law_hands", defArgs s__law_hands, defBody s__law_hands, defScope s__law_hands, [], []⟩
def d__law_thing : He.DefD := ⟨("_law_thing", none), "_law_thing", "_law_thing", defArgs s__law_thing, defBody s__law_thing, defScope s__law_thing, [], []⟩
def d__law_due : He.DefD := ⟨("_law_due", none), "_law_due", "_law_due", defArgs s__law_due, defBody s__law_due, defScope s__law_due, [], []⟩
def d_law : He.DefD := ⟨("law", none), "law", "law", defArgs s_law, defBody s_law, defScope s_law, [], []⟩
def fn : List He.DefD := ([d_is_whole, d_is_hand, d_enough, d_is_list, d_longest, d__law_draw, d__law_is_number, d__law_hands, d__law_thing, d__law_due, d_law] : List He.DefD)
def fa : List He.Fa := ([.glo "is_whole", .glo "is_hand", .glo "enough", .glo "is_list", .glo "longest", .glo "_law_draw", .glo "_law_is_number", .glo "_law_hands", .glo "_law_thing", .glo "_law_due", .glo "law", .free "isinstance"] : List He.Fa) ++ (([.free "len", .free "int", .free "bool", .free "list", .free "range", .free "tuple"] : List He.Fa))
def ex (K : PySem.W.Frag) : Bool := true
abbrev R : PySem.W.OpenRow := PySem.W.OpenLaw.row PySem.Challenge.rw_folklist_k01_enough_and_longest
abbrev hk : PySem.W.Hook := He.hookX 5 fa fn [] [] ex
def ob (s : PySem.W.SharedT) : He.AlX := He.obsX 5 fa fn [] [] ex (HandSHeadRun.getT s)
theorem ob_eq (s : PySem.W.SharedT) : ob s = hk.obs s.abs := He.obsX_eq (HandSHeadRun.getT_eq s)
def names : List PySem.Str := (["is_whole", "is_hand", "enough", "is_list", "longest", "_law_draw", "_law_is_number", "_law_hands", "_law_thing", "_law_due"] : List PySem.Str)
theorem run (w : World) : HandSHeadRun.RunEq R (PySem.W.view R.prog [12]) hk ob 20000 names w := by
  intro os
  kernel_rfl
theorem txt_of {K : PySem.W.Frag} {h : Heap} {mg : Str → Option Value} {w : World} {h0 : Heap} (X : K.In h) (G : h.Ns mainGlobals mg) (c : He.SaysX fa fn [] [] ex w h0 K) : Txt K mg := by
  have c1 := c.t.d
  exact {
    g_is_whole := He.glo_ok X G (c1.fact 0 rfl)
    g_is_hand := He.glo_ok X G (c1.fact 1 rfl)
    g_enough := He.glo_ok X G (c1.fact 2 rfl)
    g_is_list := He.glo_ok X G (c1.fact 3 rfl)
    g_longest := He.glo_ok X G (c1.fact 4 rfl)
    g__law_draw := He.glo_ok X G (c1.fact 5 rfl)
    g__law_is_number := He.glo_ok X G (c1.fact 6 rfl)
    g__law_hands := He.glo_ok X G (c1.fact 7 rfl)
    g__law_thing := He.glo_ok X G (c1.fact 8 rfl)
    g__law_due := He.glo_ok X G (c1.fact 9 rfl)
    g_law := He.glo_ok X G (c1.fact 10 rfl)
    b_isinstance := He.free_ok X G (c1.fact 11 rfl)
    b_len := He.free_ok X G (c1.fact 12 rfl)
    b_int := He.free_ok X G (c1.fact 13 rfl)
    b_bool := He.free_ok X G (c1.fact 14 rfl)
    b_list := He.free_ok X G (c1.fact 15 rfl)
    b_range := He.free_ok X G (c1.fact 16 rfl)
    b_tuple := He.free_ok X G (c1.fact 17 rfl)
    F_is_whole := c1.def_ 0 (d := d_is_whole) rfl
    F_is_hand := c1.def_ 1 (d := d_is_hand) rfl
    F_enough := c1.def_ 2 (d := d_enough) rfl
    F_is_list := c1.def_ 3 (d := d_is_list) rfl
    F_longest := c1.def_ 4 (d := d_longest) rfl
    F__law_draw := c1.def_ 5 (d := d__law_draw) rfl
    F__law_is_number := c1.def_ 6 (d := d__law_is_number) rfl
    F__law_hands := c1.def_ 7 (d := d__law_hands) rfl
    F__law_thing := c1.def_ 8 (d := d__law_thing) rfl
    F__law_due := c1.def_ 9 (d := d__law_due) rfl
    F_law := c1.def_ 10 (d := d_law) rfl }
end Fo
open PySem PySem.W PySem.Calls PyProof.Rows
set_option maxHeartbeats 0 in
theorem PySem.Challenge.cw_folklist_k01_enough_and_longest_holds : PySem.Challenge.rw_folklist_k01_enough_and_longest.Holds := by
  w_on; o_law
  refine HandSHeadRun.head_any (r := OpenLaw.row PySem.Challenge.rw_folklist_k01_enough_and_longest) (q := view (OpenLaw.row PySem.Challenge.rw_folklist_k01_enough_and_longest).prog [12]) (H := Fo.hk) (ob := Fo.ob) (M := 20000) (loose := Fo.names) (d := HandSHeadRun.topDef (OpenLaw.row PySem.Challenge.rw_folklist_k01_enough_and_longest).prog 12) (kwd := []) Fo.ob_eq
    (by kernel_rfl) (fun s => by kernel_rfl) Fo.run (by kernel_rfl) (by kernel_rfl) (by kernel_rfl) (by rfl) (by first | assumption | decide +kernel) (by decide +kernel) ⟨rfl, rfl, rfl, rfl, rfl, by decide +kernel⟩ ?hw ?hc
  case hw => w_witness2
  case hc =>
    refine L2.walk_ofE (l := PySem.Challenge.rw_folklist_k01_enough_and_longest) (n := 63) (k := 4) (x := "_law_script") (CX := L2.CX0) rfl (by decide) (by kernel_rfl) ⟨rfl, by decide, by decide⟩ ?F (fun _ _ _ _ z => z)
    intro w mg fa h Y G hmg0
    obtain ⟨K, KX, c⟩ := Y
    have hmg : mg ("law" : PySem.Str) = some (.ref fa) := by
      have e : (HandSHeadRun.topDef (OpenLaw.row PySem.Challenge.rw_folklist_k01_enough_and_longest).prog 12).name = ("law" : PySem.Str) := by kernel_rfl
      rw [← e]
      exact hmg0
    have c1 := c.t.d
    obtain ⟨fd, FD⟩ := c1.def_ 10 (d := Fo.d_law) rfl
    have e := hmg.symm.trans (He.glo_ok KX G (c1.fact 10 (f := .glo "law") rfl))
    cases e
    have T := Fo.txt_of KX G c
    have b := FD.bindsA (ps := ["_law_script"]) fun _ _ _ _ _ _ us hl => match us, hl with | [_], _ => rfl
    refine ⟨K, fd, Fo.spLaw K, KX, fun s v => b s [v] rfl, fun H a ns hl _ hS => ⟨a, ns, rfl, hS, hl, fun _ => rfl⟩, fun base _ _ => ?_⟩
    exact Fo.law_final (P := (PySem.Challenge.rw_folklist_k01_enough_and_longest).prog) (w := w) (base := base) T FD
