import PyProof.Rows.All
import Wide.All
import OpenK.AllK
import Wide.FinOn
import PySem.Challenge.RW_figurestay_k06_divided_by_each_way
import HandS.ForMost
import HandS.ForExc
import HandS.Wide
import HandS.WideBits
import HandS.IsInst
import HandS.ExcInit
import HandS.ExcField
import HandS.Nested
import HandS.Deep
import HandS.More
import HandS.Codes
import HandS.Lambda
import KE.KDflt
import KE.IntTextLaws
import HandS.ExcOwn
import HandS.WordsExc
import KE.KStateDown
import HandS.Head0
import HandS.Head1
import HandS.Head2
import HandS.HeadEnd
import HandS.HeadHook1
import HandS.HeadHook2
import HandS.HeadHook3
import HandS.HeadHook4
import HandS.HeadWalk
import Wide.Once
set_option Elab.async false
set_option linter.all false
set_option maxRecDepth 100000
set_option maxHeartbeats 4000000
/-! k06: the text by places; the pen that draws. -/
namespace K06
open PySem PySem.Spec PyProof.Rows L2
def topS (i : Nat) : Stmt := PySem.Challenge.pw_figurestay_k06_divided_by_each_way.main.body.getD i (.Pass ⟨0, 0, 0, 0⟩)
abbrev sInt : Stmt := topS 4
abbrev sNInt : Stmt := topS 5
abbrev sNWay : Stmt := topS 10
abbrev sMirr : Stmt := topS 11
abbrev sDivd : Stmt := topS 12
abbrev sNear : Stmt := topS 13
abbrev sGoes : Stmt := topS 14
abbrev sBegin : Stmt := topS 16
abbrev sDraw : Stmt := topS 17
abbrev sPick : Stmt := topS 18
abbrev sTen : Stmt := topS 19
abbrev sFigs : Stmt := topS 20
abbrev sWrong : Stmt := topS 21
abbrev sSame : Stmt := topS 22
abbrev sRefd : Stmt := topS 23
abbrev sWays : Stmt := topS 24
abbrev sRnds : Stmt := topS 25
abbrev sDivr : Stmt := topS 26
abbrev sNumb : Stmt := topS 27
abbrev sRefs : Stmt := topS 28
abbrev sLaw : Stmt := topS 29
/-! ### heaps -/
/-- all but what stands at d is as it was -/
def Keep (d : Addr) (H H' : Hp) : Prop := ∀ b o, b ≠ d → H b = some o → H' b = some o
theorem Keep.refl {d : Addr} {H : Hp} : Keep d H H := fun _ _ _ e => e
theorem Keep.trans {d : Addr} {H H1 H2 : Hp} (a : Keep d H H1) (b : Keep d H1 H2) : Keep d H H2 := fun c o n e => b c o n (a c o n e)
theorem Keep.new {d p : Addr} {o : HO} {H : Hp} (h : H p = none) : Keep d H (upd H p o) := fun b u _ e => by
  rw [upd_ne (ne_of_none e h)]
  exact e
theorem Keep.at {d : Addr} {o : HO} {H : Hp} : Keep d H (upd H d o) := fun b u n e => by
  rw [upd_ne n]
  exact e
theorem Keep.same {d : Addr} {H H' : Hp} (s : Same H H') : Keep d H H' := fun b u _ e => s b u e
theorem same_new {H : Hp} {p : Addr} {o : HO} (h : H p = none) : Same H (upd H p o) := fun b u e => by
  rw [upd_ne (ne_of_none e h)]
  exact e
theorem ne_txt : ¬ (("cells" : Str) = "count") ∧ ¬ (("cells" : Str) = "left") ∧ ¬ (("count" : Str) = "left") ∧ ¬ (("count" : Str) = "cells") ∧ ¬ (("left" : Str) = "cells") ∧ ¬ (("left" : Str) = "count") := by decide +kernel
/-- what the pen's dict holds -/
def penK (p : Addr) (c l : Int) : List (Key × V) := [(Sum.inr "cells", V.ref p), (Sum.inr "count", V.int c), (Sum.inr "left", V.int l)]
theorem pen_cells (p : Addr) (c l : Int) : valV (penK p c l) (Sum.inr "cells" : Key) = some (.ref p) := valV_pos rfl
theorem pen_count (p : Addr) (c l : Int) : valV (penK p c l) (Sum.inr "count" : Key) = some (.int c) := by
  unfold penK
  rw [valV_neg (fun e => ne_txt.1 (Sum.inr.inj e)), valV_pos rfl]
theorem pen_left (p : Addr) (c l : Int) : valV (penK p c l) (Sum.inr "left" : Key) = some (.int l) := by
  unfold penK
  rw [valV_neg (fun e => ne_txt.2.1 (Sum.inr.inj e)), valV_neg (fun e => ne_txt.2.2.1 (Sum.inr.inj e)), valV_pos rfl]
theorem key_dec {a b : Str} (h : ¬ a = b) : decide ((Sum.inr a : Key) = Sum.inr b) = false := decide_eq_false fun e => h (Sum.inr.inj e)
theorem put_count (p : Addr) (c l c' : Int) : putK (penK p c l) (Sum.inr "count" : Key) (.int c') = penK p c' l := by
  unfold penK putK
  simp [key_dec ne_txt.1, key_dec ne_txt.2.2.1, key_dec ne_txt.2.2.2.2.2, ne_txt]
theorem put_left (p : Addr) (c l l' : Int) : putK (penK p c l) (Sum.inr "left" : Key) (.int l') = penK p c l' := by
  unfold penK putK
  simp [key_dec ne_txt.2.1, key_dec ne_txt.2.2.1, ne_txt]
/-- the pen stands at d: at most B draws were begun -/
structure Pen (H : Hp) (d : Addr) (B : Int) : Prop where
  ex : ∃ (p : Addr) (ns : List Int) (c l : Int), H d = some (.dK (penK p c l)) ∧ H p = some (.lst (ns.map V.int)) ∧ ns.length ≤ 63 ∧ 0 ≤ c ∧ c ≤ B
theorem Pen.mono {H : Hp} {d : Addr} {B B' : Int} (h : Pen H d B) (z : B ≤ B') : Pen H d B' := by
  obtain ⟨p, ns, c, l, a, b, e, f, g⟩ := h.ex
  exact ⟨p, ns, c, l, a, b, e, f, by omega⟩
theorem Pen.same {H H' : Hp} {d : Addr} {B : Int} (h : Pen H d B) (s : Same H H') : Pen H' d B := by
  obtain ⟨p, ns, c, l, a, b, e, f, g⟩ := h.ex
  exact ⟨p, ns, c, l, s _ _ a, s _ _ b, e, f, g⟩
section
variable {P : Program} {w : World} {K : PySem.W.Frag} {mg : Str → Option Value} {base : Heap}
theorem scBegin : FnScope ["_law_script"] ["_law_script"] (defScope sBegin) := ⟨rfl, rfl, rfl, by decide +kernel, rfl, by decide +kernel, by decide +kernel⟩
theorem scDraw : FnScope ["_law_pen", "_law_span", "_law_digit", "_law_count", "_law_cell", "_law_first", "_law_blend"] ["_law_pen", "_law_span"] (defScope sDraw) := ⟨rfl, rfl, rfl, by decide +kernel, rfl, by decide +kernel, by decide +kernel⟩
/-- draw(pen, n): an int from 0 to n - 1; the pen has begun one draw more -/
def spDraw : Sp := fun vs H Q _ => ∃ (d : Addr) (n B : Int), vs = [.ref d, .int n] ∧ Pen H d B ∧ B ≤ 1000000000 ∧ 0 < n ∧ n ≤ 1000000 ∧
  ∀ (v : Int) (H' : Hp), 0 ≤ v → v < n → Keep d H H' → Pen H' d (B + 1) → Q (.int v) H'
end
end K06

namespace K06
open PySem PySem.Spec PyProof.Rows L2
theorem neD_nil {xs : List Int} : PyData.eqv (.list (xs.map PyData.int)) (.list []) = decide (xs = []) := by
  cases xs with
  | nil => rfl
  | cons a r => rfl
theorem dp_ints {K : PySem.W.Frag} {H : Hp} : ∀ ns : List Int, DpAll K H (ns.map V.int) (ns.map PyData.int)
  | [] => .nil
  | a :: r => .cons (.int a) (dp_ints r)
theorem lay_ints : ∀ ns : List Int, PyData.canLayAll0 (ns.map PyData.int) = true
  | [] => by simp only [List.map_nil, PyData.canLayAll0]
  | a :: r => by simp only [List.map_cons, PyData.canLayAll0, PyData.canLay0, lay_ints r, Bool.and_self]
theorem dep_ints : ∀ ns : List Int, PyData.depthAll (ns.map PyData.int) ≤ 1
  | [] => by simp [PyData.depthAll]
  | a :: r => by
    have z := dep_ints r
    simp only [List.map_cons, PyData.depthAll, PyData.depth]
    omega
theorem sh_ints (ns : List Int) : SeqAt.shaped (.list (ns.map PyData.int)) = true := by
  have a := lay_ints ns
  have b := dep_ints ns
  have z : (PyData.list (ns.map PyData.int)).depth ≤ 64 := by
    simp only [PyData.depth]
    omega
  unfold SeqAt.shaped
  rw [Bool.and_eq_true]
  exact ⟨by simpa [PyData.canLay0] using a, decide_eq_true z⟩
theorem get_left {H : Hp} {d p : Addr} {c l : Int} (h : H d = some (.dK (penK p c l))) : DGet H d (V.str "left") (some (.int l)) := by
  have z := DGet.k (k := (Sum.inr "left" : Key)) h
  rw [pen_left] at z
  exact z
theorem get_count {H : Hp} {d p : Addr} {c l : Int} (h : H d = some (.dK (penK p c l))) : DGet H d (V.str "count") (some (.int c)) := by
  have z := DGet.k (k := (Sum.inr "count" : Key)) h
  rw [pen_count] at z
  exact z
theorem get_cells {H : Hp} {d p : Addr} {c l : Int} (h : H d = some (.dK (penK p c l))) : DGet H d (V.str "cells") (some (.ref p)) := by
  have z := DGet.k (k := (Sum.inr "cells" : Key)) h
  rw [pen_cells] at z
  exact z
theorem put_at_left {H : Hp} {d p : Addr} {c l l' : Int} (h : H d = some (.dK (penK p c l))) : DPut H d (V.str "left") (.int l') (upd H d (.dK (penK p c l'))) := by
  have z := DPut.k (k := (Sum.inr "left" : Key)) (v := .int l') h (by show 3 < sizeLine; decide)
  rw [put_left] at z
  exact z
theorem put_at_count {H : Hp} {d p : Addr} {c l c' : Int} (h : H d = some (.dK (penK p c l))) : DPut H d (V.str "count") (.int c') (upd H d (.dK (penK p c' l))) := by
  have z := DPut.k (k := (Sum.inr "count" : Key)) (v := .int c') h (by show 3 < sizeLine; decide)
  rw [put_count] at z
  exact z
section
variable {P : Program} {w : World} {K : PySem.W.Frag} {mg : Str → Option Value} {base : Heap}
theorem ok_draw {f : Addr} {fd : FuncData} (F : Fun K "_law_draw" "_law_draw" sDraw f fd) (mi : mg "int" = none) (ml : mg "len" = none) : FnOk P w K mg base CX0 1 f fd ["_law_pen", "_law_span"] spDraw := by
  refine F.ok scDraw (fun vs H Q E h => ?_) (fun cdv A outer s H vs Q E hr h => ?_)
  · obtain ⟨d, n, B, rfl, _⟩ := h
    rfl
  · obtain ⟨d, n, B, rfl, hp, hB, h0, h1, q⟩ := h
    have hu := hu_of hr
    have nd := scDraw.nd
    refine ⟨_, pss_cons (ps_if (pt_cmpR op_ge (pe_dget hu (pv 0) pe_str (fun _ _ => rfl)) (pv 1) (nomark _))
        (pss_cons (ps_set (i := 2) nd rfl (.inl rfl) (pe_op op_mod (pe_callTy call_int1 (by rfl) mi (by decide +kernel) (pa_cons (pe_dget hu (pv 0) pe_str (fun _ _ => rfl)) pa_nil)) (pv 1)))
        (pss_cons (ps_dput hu (pv 0) pe_str (pe_op op_fdiv (pe_dget hu (pv 0) pe_str (fun _ _ => rfl)) (pv 1)) rfl)
        (pss_one (ps_ret (pv 2))))) pss_nil)
      (pss_cons (ps_set (i := 3) nd rfl (.inl rfl) (pe_dget hu (pv 0) pe_str (fun _ _ => rfl)))
      (pss_cons (ps_dput hu (pv 0) pe_str (pe_op op_add (pv 3) pe_int) rfl)
      (pss_cons (ps_set (i := 4) nd rfl (.inl rfl) (pe_op op_add (pe_op op_mul pe_int (pv 3)) pe_int))
      (C8.pss_cut (ps_if (pt_cmpR (op_neD hr.units) (pe_dget hu (pv 0) pe_str (fun _ _ => rfl)) (pe_lst pa_nil) (nomark _))
        (pss_one (ps_set (i := 4) nd rfl (.inl rfl) (pe_ix ix_list (pe_dget hu (pv 0) pe_str (fun _ _ => rfl)) (pe_op op_mod (pe_callTy call_int1 (by rfl) mi (by decide +kernel) (pa_cons (pv 3) pa_nil)) (pe_callB call_len_seq (by rfl) ml PySem.boot_len (pa_cons (pe_dget hu (pv 0) pe_str (fun _ _ => rfl)) pa_nil))) (fun _ _ => rfl)))) pss_nil)
      (C8.pss_cut (ps_if (PW.pt (pw_and (pt_cmpR op_lt (pv 3) (pe_callB call_len_seq (by rfl) ml PySem.boot_len (pa_cons (pe_dget hu (pv 0) pe_str (fun _ _ => rfl)) pa_nil)) (nomark _)) (pw_and1 (pt_cmpR op_ge (pv 4) (pe_op op_pow pe_int pe_int) (nomark _)))))
        (pss_cons (ps_dput hu (pv 0) pe_str (pe_op op_fdiv (pe_op op_sub (pv 4) (pe_op op_pow pe_int pe_int)) (pv 1)) rfl)
        (pss_one (ps_ret (pe_op op_mod (pe_callTy call_int1 (by rfl) mi (by decide +kernel) (pa_cons (pe_op op_sub (pv 4) (pe_op op_pow pe_int pe_int)) pa_nil)) (pv 1))))) pss_nil)
      (pss_cons (ps_set (i := 5) nd rfl (.inl rfl) (pe_op op_add (pe_op op_mul (pe_op op_mod (pe_callTy call_int1 (by rfl) mi (by decide +kernel) (pa_cons (pv 4) pa_nil)) pe_int) pe_int) (pe_op op_mul (pe_op op_mul pe_int (pv 3)) (pv 3))))
      (pss_cons (ps_set (i := 6) nd rfl (.inl rfl) (pe_op op_mod (pe_callTy call_int1 (by rfl) mi (by decide +kernel) (pa_cons (pe_op op_add (pe_op op_add (pv 5) (pe_op op_mul pe_int (pv 3))) pe_int) pa_nil)) pe_int))
      (pss_cons (ps_set (i := 6) nd rfl (.inl rfl) (pe_op op_mod (pe_callTy call_int1 (by rfl) mi (by decide +kernel) (pa_cons (pe_op op_mul (pv 6) (pe_op op_add (pv 6) pe_int)) pa_nil)) pe_int))
      (pss_one (ps_ret (pe_op op_mod (pe_callTy call_int1 (by rfl) mi (by decide +kernel) (pa_cons (pe_op op_fdiv (pe_op op_mod (pe_callTy call_int1 (by rfl) mi (by decide +kernel) (pa_cons (pe_op op_add (pe_op op_mul (pv 6) (pv 6)) (pe_op op_mul pe_int (pv 6))) pa_nil)) pe_int) pe_int) pa_nil)) (pv 1)))))))))))), ?_⟩
    obtain ⟨p, ns, c, l, hd, hps, hns, hc0, hcB⟩ := hp.ex
    have npd : p ≠ d := ne_of hps hd (by intro z; cases z)
    have n0 : n ≠ 0 := by omega
    have nB : n < 1073741824 := by omega
    have pn : ∀ {H' : Hp} {c' l' : Int}, H' p = some (.lst (ns.map V.int)) → H' d = some (.dK (penK p c' l')) → 0 ≤ c' → c' ≤ B + 1 → Pen H' d (B + 1) := fun {H' c' l'} a b e g => ⟨p, ns, c', l', b, a, hns, e, g⟩
    -- pen['left'] >= span
    refine ⟨_, rfl, d, .int l, rfl, get_left hd, _, rfl, l, n, rfl, rfl, _, rfl, ite2 (fun hln => ?_) (fun hln => ?_)⟩
    · refine ⟨_, rfl, d, .int l, rfl, get_left hd, .inl ⟨l, rfl, _, rfl, l, n, rfl, rfl, h0, ?_⟩⟩
      refine ⟨_, rfl, d, .int l, rfl, get_left hd, _, rfl, l, n, rfl, rfl, ⟨h0, nB⟩, _, rfl, d, _, rfl, put_at_left hd, ?_⟩
      refine ⟨_, rfl, ?_⟩
      exact q _ _ (Int.emod_nonneg _ n0) (Int.emod_lt_of_pos _ h0) Keep.at (pn (by rw [upd_ne npd]; exact hps) upd_same hc0 (by omega))
    · refine ⟨_, rfl, d, .int c, rfl, get_count hd, ?_⟩
      refine ⟨_, rfl, _, _, rfl, rfl, _, rfl, d, _, rfl, put_at_count hd, ?_⟩
      refine ⟨_, rfl, _, c, rfl, rfl, .inl ⟨by decide, by decide⟩, _, _, rfl, rfl, ?_⟩
      generalize eH1 : upd H d (.dK (penK p (c + 1) l)) = H1
      have hd1 : H1 d = some (.dK (penK p (c + 1) l)) := by rw [← eH1]; exact upd_same
      have hp1 : H1 p = some (.lst (ns.map V.int)) := by rw [← eH1, upd_ne npd]; exact hps
      have k1 : Keep d H H1 := by rw [← eH1]; exact Keep.at
      -- if pen['cells'] != []
      have hcl : ∀ {H2 : Hp}, H2 d = some (.dK (penK p (c + 1) l)) → H2 p = some (.lst (ns.map V.int)) → DGet H2 d (V.str "cells") (some (.ref p)) ∧ (SqL K H2 p (ns.map V.int) ∨ SqT K H2 p (ns.map V.int)) := fun {H2} a b => ⟨get_cells a, .inl (SqL.of b)⟩
      refine ⟨fun σ H2 => (∃ x : Int, σ = [some (.ref d), some (.int n), none, some (.int c), some (.int x), none, none]) ∧ H2 d = some (.dK (penK p (c + 1) l)) ∧ H2 p = some (.lst (ns.map V.int)) ∧ Keep d H H2, ?_, ?_⟩
      · refine ⟨_, rfl, d, .ref p, rfl, get_cells hd1, Nat.zero_le _, fun e ne => ?_⟩
        have he1 : ∀ {b o}, H1 b = some o → (upd H1 e (.lst [])) b = some o := fun {b o} z => by rw [upd_ne (ne_of_none z ne)]; exact z
        refine ⟨.list (ns.map PyData.int), .list [], .lst (SqL.of (he1 hp1)) (dp_ints _), .lst (SqL.of upd_same) .nil, sh_ints _, sh_ints [], _, rfl, ?_⟩
        rw [neD_nil]
        generalize eH2 : upd H1 e (.lst []) = H2
        have hd2 : H2 d = some (.dK (penK p (c + 1) l)) := by rw [← eH2]; exact he1 hd1
        have hp2 : H2 p = some (.lst (ns.map V.int)) := by rw [← eH2]; exact he1 hp1
        have k2 : Keep d H H2 := by rw [← eH2]; exact k1.trans (Keep.new ne)
        refine ite2 (fun hne => ?_) (fun hne => ?_)
        · have hn0 : 0 < ns.length := by
            cases ns with
            | nil => simp at hne
            | cons a r => exact Nat.zero_lt_succ _
          have hpos : (0 : Int) < ((ns.map V.int).length : Int) := by rw [List.length_map]; omega
          obtain ⟨j, hj⟩ : ∃ j : Nat, c % ((ns.map V.int).length : Int) = (j : Int) := ⟨(c % ((ns.map V.int).length : Int)).toNat, (Int.toNat_of_nonneg (Int.emod_nonneg _ (by omega))).symm⟩
          have hjl : j < ns.length := by
            have z := Int.emod_lt_of_pos c hpos
            rw [hj, List.length_map] at z
            omega
          refine ⟨_, rfl, d, .ref p, rfl, get_cells hd2, _, rfl, .inl ⟨c, rfl, _, rfl, d, .ref p, rfl, get_cells hd2, p, _, rfl, .inl (SqL.of hp2), _, _, rfl, rfl, hpos, p, _, _, .int (ns[j]'hjl), rfl, rfl, SqL.of hp2, at_of hj (by rw [List.getElem?_map, List.getElem?_eq_getElem hjl]; rfl), ?_⟩⟩
          exact ⟨⟨_, rfl⟩, hd2, hp2, k2⟩
        · exact ⟨⟨_, rfl⟩, hd2, hp2, k2⟩
      · rintro σ2 H2 ⟨⟨x, rfl⟩, hd2, hp2, k2⟩
        refine ⟨fun σ H3 => σ = [some (.ref d), some (.int n), none, some (.int c), some (.int x), none, none] ∧ H3 = H2, ?_, ?_⟩
        · refine ⟨_, rfl, _, rfl, d, .ref p, rfl, get_cells hd2, p, _, rfl, .inl (SqL.of hp2), _, _, rfl, rfl, _, rfl, ite2 (fun _ => ?_) (fun _ => ⟨rfl, rfl⟩)⟩
          refine ⟨_, rfl, _, _, rfl, rfl, ⟨by decide, by decide, by decide⟩, _, _, rfl, rfl, _, rfl, ite2 (fun _ => ?_) (fun _ => ⟨rfl, rfl⟩)⟩
          refine ⟨_, rfl, _, _, rfl, rfl, ⟨by decide, by decide, by decide⟩, _, _, rfl, rfl, _, rfl, _, _, rfl, rfl, ⟨h0, nB⟩, _, rfl, d, _, rfl, put_at_left hd2, ?_⟩
          refine ⟨_, rfl, _, _, rfl, rfl, ⟨by decide, by decide, by decide⟩, _, _, rfl, rfl, .inl ⟨_, rfl, _, rfl, _, _, rfl, rfl, h0, ?_⟩⟩
          exact q _ _ (Int.emod_nonneg _ n0) (Int.emod_lt_of_pos _ h0) (k2.trans Keep.at) (pn (by rw [upd_ne npd]; exact hp2) upd_same (by omega) (by omega))
        · rintro σ3 H3 ⟨rfl, rfl⟩
          have hc64 : -(2 ^ 64) < c ∧ c < 2 ^ 64 := ⟨by omega, by omega⟩
          refine ⟨_, rfl, .inl ⟨x, rfl, _, _, rfl, rfl, (show (0 : Int) < 2147482811 by decide), _, _, rfl, rfl, .inr ⟨by decide, by decide⟩, ?_⟩⟩
          refine ⟨_, rfl, _, c, rfl, rfl, .inl ⟨by decide, by decide⟩, _, rfl, _, c, rfl, rfl, .inr hc64, _, _, rfl, rfl, ?_⟩
          refine ⟨_, rfl, _, rfl, _, c, rfl, rfl, .inl ⟨by decide, by decide⟩, _, _, rfl, rfl, _, _, rfl, rfl, .inl ⟨_, rfl, _, _, rfl, rfl, (show (0 : Int) < 2147482873 by decide), ?_⟩⟩
          skip
          dsimp only
          generalize x % 2147482811 * 60013 + 35023 * c * c = y1
          have hy2 := Int.emod_lt_of_pos (y1 + 151 * c + 23) (show (0 : Int) < 2147482873 by decide)
          have hy20 := Int.emod_nonneg (y1 + 151 * c + 23) (show (2147482873 : Int) ≠ 0 by decide)
          generalize (y1 + 151 * c + 23) % 2147482873 = y2 at hy2 hy20
          refine ⟨_, rfl, _, rfl, y2, _, rfl, rfl, y2, _, rfl, rfl, .inl ⟨by omega, by omega⟩, .inl ⟨_, rfl, _, _, rfl, rfl, (show (0 : Int) < 2147482951 by decide), ?_⟩⟩
          skip
          dsimp only
          have hy3 := Int.emod_lt_of_pos (y2 * (y2 + 90007)) (show (0 : Int) < 2147482951 by decide)
          have hy30 := Int.emod_nonneg (y2 * (y2 + 90007)) (show (2147482951 : Int) ≠ 0 by decide)
          generalize (y2 * (y2 + 90007)) % 2147482951 = y3 at hy3 hy30
          refine ⟨_, rfl, _, rfl, y3, y3, rfl, rfl, .inl ⟨by omega, by omega⟩, _, rfl, _, y3, rfl, rfl, .inl ⟨by decide, by decide⟩, _, _, rfl, rfl, .inl ⟨_, rfl, _, _, rfl, rfl, (show (0 : Int) < 2147483033 by decide), _, _, rfl, rfl, ⟨(show (0 : Int) < 64 by decide), (show (64 : Int) < 1073741824 by decide)⟩, .inl ⟨_, rfl, _, rfl, _, n, rfl, rfl, h0, ?_⟩⟩⟩
          exact q _ _ (Int.emod_nonneg _ n0) (Int.emod_lt_of_pos _ h0) k2 (pn hp2 hd2 (by omega) (by omega))
end
end K06

/-! own layer: lambdas as values, called by a def that got them; integers as defaults. -/
namespace Own
open PySem PySem.Spec PyProof.Rows L2 LamX NdefX
/-- the integers that stand as defaults -/
def dInts : List Expr → List Int
  | .Constant (.int i) _ _ :: r => i :: dInts r
  | _ => []
/-- the tuple of defaults -/
def DfV (H : Hp) (dV : Value) (ds : List Int) : Prop := (ds = [] ∧ dV = .none) ∨ (ds ≠ [] ∧ ∃ T : Addr, dV = .ref T ∧ H T = some (.tup (ds.map V.int)))
def DfIn (h : Heap) (dV : Value) (us : List Value) : Prop := (us = [] ∧ dV = .none) ∨ (us ≠ [] ∧ ∃ T : Addr, dV = .ref T ∧ IsTup h T us.toArray)
/-- a lambda's words in F (its body apart), its defaults dV -/
abbrev lamFd (F : NF) (b : Expr) (dV doc pm ctv : Value) : FuncData := PySem.W.kdv_fn F.name F.qual F.params (.expr b) F.scope F.cl dV doc pm (.ref F.c) ctv
def LamO (f : Addr) (F : NF) (b : Expr) (dV : Value) : HO := .ext fun h => ∃ doc pm ctv : Value, h.get? f = some ({ cls := .type "function", data := .func (lamFd F b dV doc pm ctv) } : Obj)
/-- at f stands the lambda F, whose body is b -/
def LamAt (H : Hp) (f : Addr) (F : NF) (b : Expr) : Prop := ∃ dV : Value, H f = some (LamO f F b dV) ∧ DfV H dV (dInts F.params.defaults)
theorem lamO_ne {f : Addr} {F : NF} {b : Expr} {dV : Value} (ps : Array Value) : LamO f F b dV ≠ .tbl ps := fun z => by
  unfold LamO at z
  cases z
theorem LamAt.ext {H H' : Hp} {f : Addr} {F : NF} {b : Expr} (h : LamAt H f F b) (e : ExtN H H') : LamAt H' f F b := by
  obtain ⟨dV, h1, h2⟩ := h
  refine ⟨dV, e _ _ h1 lamO_ne, ?_⟩
  rcases h2 with z | ⟨n, T, z, q⟩
  · exact .inl z
  · exact .inr ⟨n, T, z, e _ _ q fun ps z => by cases z⟩
theorem lamO_at {P : Program} {w : World} {H : Hp} {h : Heap} {f : Addr} {F : NF} {b : Expr} (hok : HOk P w H h) (e : LamAt H f F b) :
    ∃ dV doc pm ctv : Value, h.get? f = some ({ cls := .type "function", data := .func (lamFd F b dV doc pm ctv) } : Obj) ∧ ∃ us : List Value, Vals ((dInts F.params.defaults).map V.int) us ∧ DfIn h dV us := by
  obtain ⟨dV, h1, h2⟩ := e
  obtain ⟨doc, pm, ctv, z⟩ := (hok f _ h1).1
  refine ⟨dV, doc, pm, ctv, z, ?_⟩
  rcases h2 with ⟨n, z⟩ | ⟨n, T, z, q⟩
  · rw [n]
    exact ⟨[], .nil, .inl ⟨rfl, z⟩⟩
  · obtain ⟨_, its, r, p⟩ := hok T _ q
    refine ⟨its, r, .inr ⟨fun z => ?_, T, z, p⟩⟩
    rw [z] at r
    cases hd : dInts F.params.defaults with
    | nil => exact n hd
    | cons a l =>
      rw [hd] at r
      cases r
section
variable {X : Cx} {pins : List (Addr × Obj)} {σ : L2.St} {H : Hp} {s : Shared}
theorem lam_laid {F : NF} {b : Expr} {dV doc pm ctv : Value} {t' : Nat} (I : Inv X pins σ H s) :
    Inv X pins σ (upd H s.heap.objs.size (LamO s.heap.objs.size F b dV)) { s with heap := s.heap.push ({ cls := .type "function", data := .func (lamFd F b dV doc pm ctv) } : Obj), toks := t' } := by
  have e : (s.heap.push ({ cls := .type "function", data := .func (lamFd F b dV doc pm ctv) } : Obj)).get? s.heap.objs.size = some ({ cls := .type "function", data := .func (lamFd F b dV doc pm ctv) } : Obj) := Heap.get?_push_size _ rfl
  exact I.laid (fun _ _ z => Heap.get?_push_of_some _ z) (Nat.le_refl _) ⟨⟨doc, pm, ctv, e⟩, ⟨_, e⟩, fun _ _ ⟨d, p, c, z⟩ k => ⟨d, p, c, k _ z⟩⟩
/-- the words of the lambda that X makes: c' its code object -/
abbrev lamF (X : Cx) (params : Arguments) (scope : Scope) (c' : Addr) : NF := ⟨"<lambda>", X.env.qual ++ "<lambda>", params, [], scope, cloFrom X.env.cells scope.names [], c'⟩
/-- a lambda made, its defaults laid, and known from now on -/
theorem lam_tail {T : List (Addr × Str)} {c P : Addr} {params : Arguments} {body : Expr} {scope : Scope} {pos : Pos} {fl : Nat} {dV : Value} {E Q : Value → Shared → Prop} (I : Inv X pins σ H s) (TB : TabB X.base X.mg c P) (hcode : X.env.code = .ref c)
    (hm : (P, X.env.qual ++ "<lambda>") ∈ T) (hu : ∀ p ∈ T, p.1 = P → p.2 = X.env.qual ++ "<lambda>") (hT : Tabs T H) (hfree : ∀ y ∈ scope.names, y.2 = .free → ∃ c, X.env.cells.lookup y.1 = some c)
    (k : ∀ (f c' : Addr) (H1 : Hp) (s' : Shared), Inv X pins σ H1 s' → ExtN H H1 → Tabs T H1 → H f = none → H1 f = some (LamO f (lamF X params scope c') body dV) → H1 c' = some (CodeO c' (X.env.qual ++ "<lambda>")) → Q (.ref f) s') :
    wpAny (model X.prog X.w) X.A (makeTail "<lambda>" (X.env.qual ++ "<lambda>") params (.expr body) scope X.env dV .none none pos fl) Q E s := by
  have hTP := hT (P, X.env.qual ++ "<lambda>") hm
  obtain ⟨ps, hP, trip, among⟩ := hTP
  have oP : s.heap.get? P = some { cls := .none, data := .fields ps } := I.hok P _ hP
  have bl := TB.bm.keeps I.bk
  have gl := I.mod.glob.keeps I.bk
  have cd := TB.code.keeps I.bk
  rcases hc : codeAmong pos ps.toList with _ | cv
  · refine PySem.W.kdv_makeTail (closure_ok hfree) I.ok.glob gl hcode cd oP trip hc TB.gP bl ?_
    intro c' ctv doc h' tk hx hge hlt hrec htb
    obtain ⟨c0, oc, vs, t, hc0, hoc, hdc, hvc⟩ := hrec
    obtain rfl : c0 = c' := (Value.ref.inj hc0).symm
    have fresh : H c0 = none := I.hok.fresh hge
    have I1 := inv_table (t' := tk) (q := X.env.qual ++ "<lambda>") (h' := h') I hP (fun b o n e => hx b o n e) htb hge ⟨oc, vs, t, hoc, hdc, hvc⟩
    generalize eH1 : upd (upd H P (.tbl (ps ++ #[rawInt pos.line, rawInt pos.col, .ref c0]))) c0 (CodeO c0 (X.env.qual ++ "<lambda>")) = H1 at I1
    have at1 : H1 c0 = some (CodeO c0 (X.env.qual ++ "<lambda>")) := by rw [← eH1]; exact upd_same
    have ext1 : ExtN H H1 := fun b o e n => by
      have b1 : b ≠ c0 := ne_of_none e fresh
      have b2 : b ≠ P := fun z => n ps (Option.some.inj (e.symm.trans (z ▸ hP)))
      rw [← eH1, upd_ne b1, upd_ne b2]
      exact e
    have tabs1 : Tabs T H1 := fun p hp => by
      by_cases hb : p.1 = P
      · have hq := hu p hp hb
        rw [hq, hb]
        refine ⟨ps ++ #[rawInt pos.line, rawInt pos.col, .ref c0], ?_, ?_, fun p' cv hcv => ?_⟩
        · rw [← eH1, upd_ne (ne_of_none hP fresh), upd_same]
        · rw [Array.toList_append]
          exact PySem.TriplesOk_snoc _ _ _ _ trip
        · rw [Array.toList_append] at hcv
          rcases among_app _ trip hcv with z | z
          · obtain ⟨c1, a1, a2⟩ := among p' cv z
            exact ⟨c1, a1, ext1 _ _ a2 codeO_ne⟩
          · exact ⟨c0, z, at1⟩
      · obtain ⟨qs, a1, a2, a3⟩ := hT p hp
        refine ⟨qs, ?_, a2, fun p' cv hcv => ?_⟩
        · rw [← eH1, upd_ne (ne_of_none a1 fresh), upd_ne hb]
          exact a1
        · obtain ⟨c1, b1, b2⟩ := a3 p' cv hcv
          exact ⟨c1, b1, ext1 _ _ b2 codeO_ne⟩
    have nf1 : H1 h'.objs.size = none := I1.hok.fresh (Nat.le_refl _)
    have I2 := lam_laid (F := lamF X params scope c0) (b := body) (dV := dV) (doc := doc) (pm := (X.mg "__name__").getD .none) (ctv := ctv) (t' := tk) I1
    have up : ∀ b o, H1 b = some o → upd H1 h'.objs.size (LamO h'.objs.size (lamF X params scope c0) body dV) b = some o := fun b o e => (upd_ne (ne_of_none e nf1)).trans e
    exact k _ c0 _ _ I2 (ext1.trans (ExtN.of up)) (tabs1.ext up) (I.hok.fresh (Nat.le_trans hge (Nat.le_of_lt hlt))) upd_same (up _ _ at1)
  · obtain ⟨c', rfl, at0⟩ := among pos cv hc
    refine PySem.W.kdv_makeTailHit (closure_ok hfree) I.ok.glob gl hcode cd oP trip hc bl ?_
    intro ctv doc h' tk hx hsz
    have I1 : Inv X pins σ H { s with heap := h', toks := tk } := I.kept hx
    have nf1 : H h'.objs.size = none := I1.hok.fresh (Nat.le_refl _)
    have I2 := lam_laid (F := lamF X params scope c') (b := body) (dV := dV) (doc := doc) (pm := (X.mg "__name__").getD .none) (ctv := ctv) (t' := tk) I1
    have up : ∀ b o, H b = some o → upd H h'.objs.size (LamO h'.objs.size (lamF X params scope c') body dV) b = some o := fun b o e => (upd_ne (ne_of_none e nf1)).trans e
    exact k _ c' _ _ I2 (ExtN.of up) (hT.ext up) nf1 upd_same (up _ _ at0)
/-- the reading of a lambda as a value -/
def tLamV (X : Cx) (T : List (Addr × Str)) (params : Arguments) (body : Expr) (scope : Scope) : TE := fun _ H Q => Tabs T H ∧ ∀ (f c' : Addr) (H1 : Hp), ExtN H H1 → Tabs T H1 → H f = none →
  LamAt H1 f (lamF X params scope c') body → H1 c' = some (CodeO c' (X.env.qual ++ "<lambda>")) → Q (.ref f) H1
theorem pe_lamV {T : List (Addr × Str)} {c P : Addr} {params : Arguments} {body : Expr} {scope : Scope} {pos : Pos} (TB : TabB X.base X.mg c P) (hcode : X.env.code = .ref c) (hm : (P, X.env.qual ++ "<lambda>") ∈ T)
    (hu : ∀ p ∈ T, p.1 = P → p.2 = X.env.qual ++ "<lambda>") (hdef : params.defaults = []) (hkd : params.kw_defaults = []) (hfr : ∀ y ∈ scope.names, y.2 = .free → X.env.scope.names.lookup y.1 = some .cell ∨ X.env.scope.names.lookup y.1 = some .free) :
    PE X (.Lambda params body scope pos) (tLamV X T params body scope) := by
  refine ⟨fun pins s σ H Q I h => PySem.W.kla_eval ?_ ?_⟩
  · rw [defaultsOf_eq, hdef, hkd]
    rfl
  rw [makeFunction_eq]
  simp only [List.zip_nil_right, List.filterMap_nil, List.isEmpty_nil, if_true, pure_bind]
  refine lam_tail I TB hcode hm hu h.1 (fun y hy e => ?_) fun f c' H1 s' I1 e1 t1 n1 a1 b1 => ⟨.ref f, H1, I1, rfl, h.2 f c' H1 e1 t1 n1 ⟨.none, a1, .inl ⟨by show dInts params.defaults = []; rw [hdef] <;> rfl, rfl⟩⟩ b1⟩
  rcases hfr y hy e with z | z
  · exact I.ok.has _ (.inl z)
  · exact I.ok.has _ (.inr z)
/-- .. with one integer as default -/
theorem pe_lamV1 {T : List (Addr × Str)} {c P : Addr} {params : Arguments} {body : Expr} {scope : Scope} {pos p1 : Pos} {i : Int} {j : Nat} (TB : TabB X.base X.mg c P) (hcode : X.env.code = .ref c) (hm : (P, X.env.qual ++ "<lambda>") ∈ T)
    (hu : ∀ p ∈ T, p.1 = P → p.2 = X.env.qual ++ "<lambda>") (hdef : params.defaults = [.Constant (.int i) j p1]) (hkd : params.kw_defaults = []) (hfr : ∀ y ∈ scope.names, y.2 = .free → X.env.scope.names.lookup y.1 = some .cell ∨ X.env.scope.names.lookup y.1 = some .free) :
    PE X (.Lambda params body scope pos) (tLamV X T params body scope) := by
  refine ⟨fun pins s σ H Q I h => PySem.W.kdv_lam (by rw [hdef]; rfl) hkd ?_⟩
  rw [hdef]
  refine PySem.W.kdv_all1 (thn ((pe_int (X := X) (i := i) (j := j) (pos := p1)).run pins s σ H (fun v H1 => v = .int i ∧ H1 = H) I ⟨rfl, rfl⟩) ?_)
  rintro u s1 ⟨v, H1, I1, r1, rfl, rfl⟩
  refine PySem.W.kdv_all0 ?_
  rw [makeFunction_eq]
  simp only [List.zip_nil_right, List.filterMap_nil, List.isEmpty_nil, List.isEmpty_cons, if_true, pure_bind, Bool.false_eq_true, if_false]
  refine wpAny_bind (wpAny_newTextTuple ?_)
  have nT : H1 s1.heap.objs.size = none := I1.hok.fresh (Nat.le_refl _)
  have I2 : Inv X pins σ (upd H1 s1.heap.objs.size (.tup [.int i])) { s1 with heap := s1.heap.push { cls := .type "tuple", data := .seq [u].toArray } } :=
    I1.laid (t' := s1.toks) (fun _ _ z => Heap.get?_push_of_some _ z) (Nat.le_refl _) ⟨by show 1 ≤ sizeLine; decide, [u], .cons r1 .nil, IsTup.new s1.heap _⟩
  have up : ∀ b o, H1 b = some o → upd H1 s1.heap.objs.size (HO.tup [V.int i]) b = some o := fun b o e => (upd_ne (ne_of_none e nT)).trans e
  refine lam_tail I2 TB hcode hm hu (h.1.ext up) (fun y hy e => ?_) fun f c' H2 s' I3 e1 t1 n1 a1 b1 => ⟨.ref f, H2, I3, rfl, h.2 f c' H2 ((ExtN.of up).trans e1) t1 ?_ ⟨_, a1, .inr ⟨?_, _, rfl, ?_⟩⟩ b1⟩
  · rcases hfr y hy e with z | z
    · exact I.ok.has _ (.inl z)
    · exact I.ok.has _ (.inr z)
  · cases q : H1 f with
    | none => rfl
    | some o => exact (Option.some_ne_none _ ((up _ _ q).symm.trans n1)).elim
  · show dInts params.defaults ≠ []
    rw [hdef]
    simp [dInts]
  · show H2 s1.heap.objs.size = some (.tup ((dInts params.defaults).map V.int))
    rw [hdef]
    exact e1 _ _ upd_same fun ps z => by cases z
end
/-! ### what a lambda promises -/
structure LOk (P : Program) (w : World) (K : PySem.W.Frag) (mg : Str → Option Value) (base : Heap) (CX : CXT) (k : Nat) (f : Addr) (F : NF) (b : Expr) (fr : List Str) (sp : List (Option V) → Hp → VK → XK → Prop) : Prop where
  run : ∀ (A : Around) (outer : List Env) (s : Shared) (H : Hp) (ws : List (Option V)) (Q : VK) (E : XK), Room k A → Env0 P w K mg base A outer s H → LamAt H f F b → H F.c = some (CodeO F.c F.qual) →
    CellsAt F.cl fr ws s.heap H → sp ws H Q E → codeAny (model P w) A (.call (.ref f) ⟨[], []⟩) (CR CX outer P w H s Q E) s
section
variable {CX : CXT} {P : Program} {w : World} {K : PySem.W.Frag} {mg : Str → Option Value} {base : Heap} {N ps fr : List Str} {F : NF} {b : Expr} {f : Addr} {k : Nat} {sp : List (Option V) → Hp → VK → XK → Prop}
theorem lok_of (S : NScope N ps fr F.scope) (hl : (dInts F.params.defaults).length = ps.length)
    (hb : ∀ (dV doc pm ctv : Value) (s : Shared) (us : List Value), us.length = ps.length → DfIn s.heap dV us → BindsTo s (lamFd F b dV doc pm ctv) ⟨[], []⟩ (ps.zip us))
    (hbody : ∀ (A : Around) (outer : List Env) (s : Shared) (H : Hp) (ws : List (Option V)) (Q : VK) (E : XK), Room k (A.deeper (envF F f s.heap.objs.size)) → ws.length = fr.length → sp ws H Q E →
      ∃ t, PE (ncx CX P w K mg base N F f A outer s H E) b t ∧ t (startF N ((dInts F.params.defaults).map V.int) ws) H Q) : LOk P w K mg base CX (k + 1) f F b fr sp := by
  refine ⟨fun A outer s H ws Q E hr e0 hf hc C hsp => ?_⟩
  have lim : s.heap.NoLimit := e0.mod.nolimit.keeps fun b o e => (e0.bs b o e).1
  obtain ⟨dV, doc, pm, ctv, ho, us, rus, hd⟩ := lamO_at e0.hok hf
  have hlu : us.length = ps.length := by rw [← rus.length, List.length_map, hl]
  refine PySem.W.kla_callFunE hr.depth ho rfl S.co S.gen rfl (codeO_at e0.hok hc) ?_
  refine hb dV doc pm ctv s us hlu hd _ _ _ _ ?_
  refine wpAny_newFunctionEnv S.nocell (fun ⟨n, v⟩ hy => S.par n (List.of_mem_zip hy).1) (fun h₁ hns hsb => ⟨lim.fresh _ hsb, ?_⟩) S.kind
  show codeAny _ _ (.expr b (envF F f s.heap.objs.size)) _ _
  obtain ⟨t, ht, hq⟩ := hbody A outer s H ws Q E (hr.deeper _) C.len hsp
  have old : ∀ b o, s.heap.get? b = some o → h₁.get? b = some o := fun b o e => hsb.extBut b o (Nat.ne_of_lt (Heap.lt_size e)) (Heap.get?_push_of_some _ e)
  have I := inv_startN (CX := CX) (N := N) (F := F) (f := f) (E := E) (us := us) (vs := (dInts F.params.defaults).map V.int) (tk := s.toks + (ps.zip us).length) S hr.hd e0 (by rw [List.length_map, hl]) rus C hns old
  refine PySem.W.kla_codeExpr (wpAny_mono (ht.run [] _ _ H Q I hq) (fun v s' q => ?_) fun e s' q => q)
  obtain ⟨x, H', J, rx, q⟩ := q
  exact ⟨x, H', J.os, J.bare, J.base, J.hok, rx, q⟩
end
end Own

/-! own layer: calling what was got; a comprehension that knows its def. -/
namespace Own
open PySem PySem.Spec PyProof.Rows L2 LamX NdefX
section
variable {X : Cx} {pins : List (Addr × Obj)} {σ : L2.St} {H : Hp} {s : Shared} {cl : List (Str × Addr)} {fr : List Str} {ws : List (Option V)}
/-- what captured cells held at the entry they hold still -/
theorem cells_still (C : CellsAt cl fr ws X.s_0.heap X.H_0) (hx : ∀ b, b ∉ X.ex ∨ ∀ y, cl.lookup y ≠ some b) (I : Inv X pins σ H s) : CellsAt cl fr ws s.heap H := by
  have nx : ∀ {y c}, cl.lookup y = some c → c ∉ X.ex := fun {y c} e => (hx c).elim id fun z => absurd e (z y)
  have still : ∀ {y c v}, cl.lookup y = some c → X.s_0.heap.IsCell c v → s.heap.IsCell c v := fun {y c v} e ⟨o, ho, hd⟩ => by
    obtain ⟨sl, z⟩ := I.base.any ho (C.all y c e).1 (nx e)
    exact ⟨_, z, hd⟩
  constructor
  · exact C.len
  · intro y c e
    obtain ⟨n, v, z⟩ := C.all y c e
    obtain ⟨o, ho, _⟩ := id z
    exact ⟨I.base.free c o ho n (nx e), v, still e z⟩
  · exact C.inj
  · intro i y e
    obtain ⟨c, hc, hv⟩ := C.has i y e
    refine ⟨c, hc, fun v ev => ?_⟩
    obtain ⟨u, r, z⟩ := hv v ev
    exact ⟨u, r, still hc z⟩
/-- the call of a made lambda -/
theorem run_lam {CX : CXT} {k : Nat} {f : Addr} {F : NF} {b : Expr} {sp : List (Option V) → Hp → VK → XK → Prop} {Q : VK} {E : XK} (G : LOk X.prog X.w X.K X.mg X.base CX k f F b fr sp) (hr : Room k X.A) (hx : Passes CX X E) (I : Inv X pins σ H s)
    (hf : LamAt H f F b) (hc : H F.c = some (CodeO F.c F.qual)) (C : CellsAt F.cl fr ws s.heap H) (q : sp ws H Q E) : wpAny (model X.prog X.w) X.A (call (.ref f) []) (EP X pins σ Q) X.xe s := by
  refine wpAny_call (codeAny_mono (G.run _ _ _ _ _ _ _ hr I.env0 hf hc C q) fun r s' z => ?_)
  rcases r with e | fl
  · exact hx pins σ H s e s' I z
  · cases fl
    case ret u => exact I.after z
    all_goals exact False.elim z
/-- deed(), deed a name whose slot holds a lambda; what it captured is known at the entry of this very def -/
theorem pe_deed {CX : CXT} {k i : Nat} {f : Addr} {F : NF} {b : Expr} {sp : List (Option V) → Hp → VK → XK → Prop} {E : XK} {a : Str} {p1 p2 : Pos} (C : CellsAt F.cl fr ws X.s_0.heap X.H_0) (hex : X.ex = []) (G : LOk X.prog X.w X.K X.mg X.base CX k f F b fr sp) (hr : Room k X.A)
    (hx : Passes CX X E) (hN : X.N[i]? = some a) (hv : Vis X.env.scope a) (hd : (a == ("__debug__" : Str)) = false := by decide) (hcd : (a == ("__classdict__" : Str)) = false := by decide) :
    PE X (.Call (.Name a p1) [] [] p2) (fun σ H Q => σ[i]? = some (some (.ref f)) ∧ LamAt H f F b ∧ H F.c = some (CodeO F.c F.qual) ∧ sp ws H Q E) := by
  constructor
  intro pins s σ H Q I h
  obtain ⟨hs, hf, hc, q⟩ := h
  refine wpAny_Call_Name_kw (thn ((pe_var (pos := p1) hN hv hd hcd).run pins s σ H (fun v H1 => v = .ref f ∧ H1 = H) I ⟨.ref f, hs, rfl, rfl⟩) ?_)
  rintro u s1 ⟨v, H1, I1, r1, rfl, rfl⟩
  obtain rfl : u = Value.ref f := r1
  obtain ⟨dV, doc, pm, ctv, ho, _⟩ := lamO_at I1.hok hf
  refine PySem.W.callWith_F0 ⟨_, _, _, _, ho⟩ ?_
  exact run_lam G hr hx I1 hf hc (cells_still C (fun _ => .inl (by rw [hex]; simp)) I1) q
end
section
variable {X : Cx}
/-- a list comprehension's reading, the element's depending on the def's slots as the block begins -/
def tLcD (wi : TI) (g : TG) (te : L2.St → TE) (vs : List Nat) : TE := fun σ H Q => tLc wi g tYes (te σ) vs σ H Q
theorem pe_lcD {elt tg iter : Expr} {scope : Scope} {own : List (Str × Nat)} {pos : Pos} {wi : TI} {g : TG} {te : L2.St → TE} (hc : X.calm = true) (hN : X.N.Nodup) (hi : PI X tg iter wi) (ok : BlkOk X.N X.env.scope scope own)
    (hg : ∀ (s : Shared) (H : Hp) (C : Addr) (cl : List (Str × Addr)) (fp : List Addr), PG (X.blk s H scope (compEnvC scope cl C X.env) fp) tg g)
    (he : ∀ (pins : List (Addr × Obj)) (σ : L2.St) (s : Shared) (H : Hp) (C : Addr) (cl : List (Str × Addr)) (fp : List Addr), Inv X pins σ H s → (∀ b ∈ fp, FpOk X pins H b) → PE (X.blk s H scope (compEnvC scope cl C X.env) fp) elt (te σ))
    (hs : ∀ x, foldedSetIterable iter X.env x = pure x := by intro _; rfl) : PE X (.ListComp elt [⟨tg, iter, [], 0⟩] scope pos) (tLcD wi g te (own.map (·.2))) := by
  constructor
  intro pins s σ H Q I h
  have cap : ∀ y ∈ scope.names, y.2 = .free → ∃ c, X.env.cells.lookup y.1 = some c := fun y hy e => (ok.free y hy e).elim (fun z => I.ok.has _ (.inl z)) (fun z => I.ok.has _ (.inr z))
  rw [eval_ListComp]
  refine wpAny_comprehension_free (use := none) rfl hs (closure_ok cap) ok.kind (fun y hy e => (ok.uniq y hy).trans (congrArg some e)) ?_
  refine thn (hi.run pins s σ H _ I h) fun itr sA hA => thn hA fun _ sB hB => ?_
  obtain ⟨it, fp, tn, J, HB, rfl, IB, T, tB, fB, q⟩ := hB
  have nD : HB sB.heap.objs.size = none := IB.hok.fresh (Nat.le_refl _)
  obtain ⟨W, ⟨m0, w0⟩, turn⟩ := q _ nD
  refine wpAny_newObj_type (newEnv_comp ?_) (by show 0 ≤ sizeLine; decide)
  have inSz : ∀ b ∈ fp, b < sB.heap.objs.size := fun b hb => (T.obj _ _ tB b hb).elim fun _ z => Heap.lt_size z.1
  -- the new list stands
  generalize hsC : ({ sB with heap := sB.heap.push { cls := .type "list", data := .seq ([] : List Value).toArray } } : Shared) = sC
  have heapC : sC.heap = sB.heap.push { cls := .type "list", data := .seq ([] : List Value).toArray } := by subst hsC; rfl
  have toC : ∀ b o, sB.heap.get? b = some o → sC.heap.get? b = some o := fun b o z => by rw [heapC]; exact Heap.get?_push_of_some _ z
  generalize hD : sB.heap.objs.size = D at nD w0 turn inSz
  have IC : Inv X pins σ (upd HB D (.lst [])) sC := by
    have z := IB.laid (a := D) (o := .lst []) (t' := sB.toks) (h' := sC.heap) toC (Nat.le_of_eq hD) ⟨Nat.zero_le _, [], 0, .nil, by rw [heapC, ← hD]; exact Heap.get?_push_size _ rfl⟩
    subst hsC
    exact z
  generalize hHC : upd HB D (.lst []) = HC at IC w0
  have fC : ∀ b ∈ fp, FpOk X pins HC b ∧ b < sC.heap.objs.size := fun b hb => by
    have lt := inSz b hb
    refine ⟨⟨?_, (fB b hb).2⟩, ?_⟩
    · rw [← hHC, upd_ne (Nat.ne_of_lt lt)]
      exact (fB b hb).1
    · rw [heapC, Heap.size_push, hD]
      exact Nat.lt_succ_of_lt lt
  have tC : tn 0 sC.heap := T.keep _ _ _ tB fun b _ o z => toC b o z
  have blk := block_start IC ok hN fC
  generalize hcl : cellsFrom (sC.heap.objs.size + 1) scope.names (cloFrom X.env.cells scope.names []) = cells at blk ⊢
  have hgB := hg sC HC sC.heap.objs.size cells fp
  have heB := he pins σ sC HC sC.heap.objs.size cells fp IC (fun b hb => (fC b hb).1)
  have htB : PTs (X.blk sC HC scope (compEnvC scope cells sC.heap.objs.size X.env) fp) [] tYes := pts_nil
  show codeAny _ _ (.compStart (.ListComp elt [⟨tg, iter, [], 0⟩] scope pos) 0 (.ref it) (.ref D) (compEnvC scope cells sC.heap.objs.size X.env)) (compPost (model X.prog X.w) X.A X.xe none (EP X pins σ Q) (.ref D) sC.heap.objs.size) { sC with heap := pushCells (sC.heap.push { cls := .type "dict", data := .dict #[] }) scope.names }
  generalize hce : compEnvC scope cells sC.heap.objs.size X.env = ce at blk hgB heB htB ⊢
  have ceL : ce.locals = sC.heap.objs.size := by rw [← hce]; rfl
  generalize hsE : ({ sC with heap := pushCells (sC.heap.push { cls := .type "dict", data := .dict #[] }) scope.names } : Shared) = sE at blk ⊢
  have tE : tn 0 sE.heap := T.keep _ _ _ tC fun b _ o z => by rw [← hsE]; exact pushCells_keeps _ _ _ _ (Heap.get?_push_of_some _ z)
  -- the iterator's objects as the block sees them
  have seen : ∀ {σ' : L2.St} {H' : Hp} {s' : Shared}, Inv (X.blk sC HC scope ce fp) [] σ' H' s' → (∀ b ∈ fp, H' b = none) → ∀ b ∈ fp, FpOk (X.blk sC HC scope ce fp) [] H' b := fun {σ' H' s'} J' n b hb => by
    have z1 := J'.ok.exf b hb
    exact ⟨n b hb, z1.1, J'.ok.exfs b hb, .inl hb, z1.2, fun p hp => absurd (show p ∈ ([] : List (Addr × Obj)) ++ [] from hp) (by simp)⟩
  have whole : codeAny (model X.prog X.w) X.A (.compLoop (.ListComp elt [⟨tg, iter, [], 0⟩] scope pos) 0 (.ref it) (.ref D) ce) (compPost (model X.prog X.w) X.A X.xe none (EP X pins σ Q) (.ref D) sC.heap.objs.size) sE := by
    refine compLoop_any (fun n s' => ∃ (i : Nat) (H' : Hp), W i n H' ∧ (∀ b ∈ fp, H' b = none) ∧ tn i s'.heap ∧ Inv (X.blk sC HC scope ce fp) [] (wipe σ (own.map (·.2))) H' s') ?_ m0 ⟨0, HC, w0, fun b hb => (fC b hb).1.1, tE, blk⟩
    rintro n sF ⟨i, HF, wF, nF, tF, IF⟩
    rcases turn i n HF wF with ⟨hstop, hq⟩ | ⟨hgo, Nx, hNx, step⟩
    · have fin := T.done (X.blk sC HC scope ce fp) rfl rfl rfl hc i [] sF _ HF (fun _ _ => False) IF (seen IF nF) tF hstop
      refine thnF fin ?_
      rintro _ sG ⟨rfl, IG⟩
      have IX : Inv X pins σ HF sG := IC.call' (ch := fp) IG.os IG.base IG.hok IG.bare fun b hb => by
        obtain ⟨⟨_, a1, a2, a3, a4, a5⟩, _⟩ := fC b hb
        exact ⟨a3, a1, a4, a5⟩
      have free : HF sC.heap.objs.size = none := by
        have z : HF ce.locals = none := IG.free
        rw [← ceL]
        exact z
      obtain ⟨m, hn, _⟩ := IG.loc
      have hn : sG.heap.Ns ce.locals m := hn
      rw [ceL] at hn
      obtain ⟨f0, f1, f2, f3, f4, f5⟩ := IC.fpOk (H' := HF) (Nat.le_refl _) free
      exact ⟨m, hn, fun h2 sb => ⟨.ref D, HF, IX.turned (t' := sG.toks) (fun b o hb e => (sb.2 b hb).trans e) f0 f1 f3 f4 f5, rfl, hq⟩⟩
    · have nxt := T.item (X.blk sC HC scope ce fp) rfl rfl rfl hc i [] sF _ HF (fun _ _ => False) IF (seen IF nF) tF hgo
      refine thnF nxt ?_
      rintro _ sG ⟨u, rfl, hG⟩
      refine thnF hG ?_
      rintro _ sI ⟨x, HI, II, rI, yI, tI, nI⟩
      have pinned := II.pinned (seen II nI) (T.obj _ _ tI)
      refine thnF (hgB.run _ sI _ HI x u _ pinned rI (step x HI yI)) ?_
      rintro _ sJ ⟨σJ, HJ, IJ, hwJ, qJ⟩
      refine thnF (htB.run _ sJ σJ HJ _ IJ qJ) ?_
      rintro b sK ⟨HK, IK, qK⟩
      have again : ∀ {s' : Shared} {H' : Hp}, Inv (X.blk sC HC scope ce fp) ([] ++ pinsAt fp sI.heap) σJ H' s' → Nx H' → ∃ m, m < n ∧ ∃ (i : Nat) (H' : Hp), W i m H' ∧ (∀ b ∈ fp, H' b = none) ∧ tn i s'.heap ∧ Inv (X.blk sC HC scope ce fp) [] (wipe σ (own.map (·.2))) H' s' := fun {s' H'} J' hx => by
        obtain ⟨m', lt, w'⟩ := hNx H' hx
        have pn : ∀ b ∈ fp, ∀ o, sI.heap.get? b = some o → s'.heap.get? b = some o ∧ H' b = none := fun b hb o z => by
          have y := J'.pin (b, o) (List.mem_append_right _ (List.mem_append_right _ (mem_pinsAt hb z)))
          exact ⟨y.1, y.2.1⟩
        refine ⟨m', lt, i + 1, H', w', fun b hb => ?_, T.keep _ _ _ tI fun b hb o z => (pn b hb o z).1, ?_⟩
        · obtain ⟨o, z, _⟩ := T.obj _ _ tI b hb
          exact (pn b hb o z).2
        · refine (J'.unpinned (pins := [])).weak (by rw [← hwJ, wipe_length]) fun j v z => ?_
          rw [← hwJ] at z
          exact (wipe_some z).1
      cases b
      case false =>
        simp only [Bool.false_eq_true, if_false] at qK ⊢
        exact again IK qK
      case true =>
        simp only [if_true] at qK ⊢
        refine thnF (heB.run _ sK σJ HK _ IK qK) ?_
        rintro z sL ⟨y, HL, IL, rL, acc, hacc, hlen, hnx⟩
        exact app_ok (X := X.blk sC HC scope ce fp) IL hacc hlen rL fun sM IM => again IM hnx
  exact codeAny_compStart_list whole (T.self X.A 0 _ _ _ tE whole)
end
end Own

/-! own layer: a def that gets a lambda. -/
namespace Own
open PySem PySem.Spec PyProof.Rows L2 LamX NdefX
/-- a def of the text as its callers know it -/
structure DefOk (P : Program) (w : World) (K : PySem.W.Frag) (mg : Str → Option Value) (base : Heap) (CX : CXT) (x : Str) (k : Nat) (ps : List Str) (sp : Sp) : Prop where
  ex : ∃ (f : Addr) (fd : FuncData), FnOk P w K mg base CX k f fd ps sp ∧ mg x = some (.ref f) ∧ PySem.W.keepIn K (.ref f) = true ∧ Binds K fd ps []
/-- .. as the top has left it -/
structure At (K : PySem.W.Frag) (mg : Str → Option Value) (x : Str) (st : Stmt) (ps : List Str) : Prop where
  ex : ∃ (f : Addr) (fd : FuncData), Fun K x x st f fd ∧ mg x = some (.ref f) ∧ Binds K fd ps []
theorem At.ok {P : Program} {w : World} {K : PySem.W.Frag} {mg : Str → Option Value} {base : Heap} {CX : CXT} {x : Str} {st : Stmt} {k : Nat} {ps : List Str} {sp : Sp} (a : At K mg x st ps) (h : ∀ (f : Addr) (fd : FuncData), Fun K x x st f fd → FnOk P w K mg base CX k f fd ps sp) :
    DefOk P w K mg base CX x k ps sp := by
  obtain ⟨f, fd, F, g, b⟩ := a.ex
  exact ⟨f, fd, h f fd F, g, F.kp, b⟩
section
variable {X : Cx} {CX : CXT} {k j : Nat} {ps : List Str} {sp : Sp} {E : XK} {x : Str} {p pos : Pos} {e : Expr} {es : List Expr} {t : TA}
theorem pe_def (D : DefOk X.prog X.w X.K X.mg X.base CX x k ps sp) (hr : Room j X.A) (hj : k ≤ j) (hg : Gl X x) (hx : Passes CX X E) (ha : PA X (e :: es) t) (hdb : (x == ("__debug__" : Str)) = false := by decide)
    (he : starEach (e :: es) X.env = (false, eval e X.env) :: starEach es X.env := by rfl) (hpl : (backTo pos (starEach es X.env)).any (·.1) = false := by rfl) : PE X (.Call (.Name x p) (e :: es) [] pos) (tCall sp [] E t) := by
  obtain ⟨f, fd, F, g, kp, b⟩ := D.ex
  exact pe_call F (hr.mono hj) hg g kp b .nil hx ha hdb he hpl
theorem pe_def0 (D : DefOk X.prog X.w X.K X.mg X.base CX x k ps sp) (hr : Room j X.A) (hj : k ≤ j) (hg : Gl X x) (hx : Passes CX X E) (hdb : (x == ("__debug__" : Str)) = false := by decide) : PE X (.Call (.Name x p) [] [] pos) (tCall sp [] E tNil) := by
  obtain ⟨f, fd, F, g, kp, b⟩ := D.ex
  exact pe_call0 F (hr.mono hj) hg g kp b .nil hx hdb
end
/-- a def whose first argument is a lambda; sp: what it makes of the lambda's promise and of the other arguments -/
structure LamDef (P : Program) (w : World) (K : PySem.W.Frag) (mg : Str → Option Value) (base : Heap) (g : Addr) (k : Nat) (sp : (Hp → VK → XK → Prop) → List V → Hp → VK → Prop) : Prop where
  run : ∀ (A : Around) (outer : List Env) (s : Shared) (H : Hp) (us : List Value) (f : Addr) (vs : List V) (F : NF) (b : Expr) (fr : List Str) (ws : List (Option V)) (spl : List (Option V) → Hp → VK → XK → Prop) (kl : Nat) (Q : VK), Room k A → kl < k → Env0 P w K mg base A outer s H →
    Vals (.ref f :: vs) us → LOk P w K mg base (L2.CX P w) kl f F b fr spl → LamAt H f F b → H F.c = some (CodeO F.c F.qual) → CellsAt F.cl fr ws s.heap H → sp (spl ws) vs H Q →
    codeAny (model P w) A (.call (.ref g) ⟨us, []⟩) (CR CX0 outer P w H s Q E0) s
structure LamDefAt (P : Program) (w : World) (K : PySem.W.Frag) (mg : Str → Option Value) (base : Heap) (x : Str) (k : Nat) (sp : (Hp → VK → XK → Prop) → List V → Hp → VK → Prop) : Prop where
  ex : ∃ g : Addr, LamDef P w K mg base g k sp ∧ mg x = some (.ref g) ∧ PySem.W.keepIn K (.ref g) = true
/-- one of several lambdas: its words by its code object's address, its body, the captured names and their values, its promise -/
structure Lam where
  nf : Addr → NF
  b : Expr
  fr : List Str
  ws : List (Option V)
  sp : List (Option V) → Hp → VK → XK → Prop
def tLamCall {ι : Type} (L : ι → Lam) (sp : (Hp → VK → XK → Prop) → List V → Hp → VK → Prop) (t : TA) : TE := fun σ H Q => t σ H fun vs H1 => ∃ (i : ι) (f c' : Addr) (rest : List V), vs = .ref f :: rest ∧ LamAt H1 f ((L i).nf c') (L i).b ∧
  H1 ((L i).nf c').c = some (CodeO ((L i).nf c').c ((L i).nf c').qual) ∧ sp ((L i).sp (L i).ws) rest H1 Q
theorem pe_lamcall {ι : Type} {X : Cx} {L : ι → Lam} {k kl j : Nat} {sp : (Hp → VK → XK → Prop) → List V → Hp → VK → Prop} {x : Str} {p pos : Pos} {e : Expr} {es : List Expr} {t : TA} (D : LamDefAt X.prog X.w X.K X.mg X.base x k sp) (hkl : kl < k) (hr : Room j X.A) (hj : k ≤ j)
    (G : ∀ (i : ι) (f c' : Addr), LOk X.prog X.w X.K X.mg X.base (L2.CX X.prog X.w) kl f ((L i).nf c') (L i).b (L i).fr (L i).sp) (C : ∀ (i : ι) (c' : Addr), CellsAt ((L i).nf c').cl (L i).fr (L i).ws X.s_0.heap X.H_0) (hxc : ∀ (i : ι) (c' b : Addr), b ∉ X.ex ∨ ∀ y, ((L i).nf c').cl.lookup y ≠ some b)
    (hg : Gl X x) (ha : PA X (e :: es) t) (hdb : (x == ("__debug__" : Str)) = false := by decide) (he : starEach (e :: es) X.env = (false, eval e X.env) :: starEach es X.env := by rfl) (hpl : (backTo pos (starEach es X.env)).any (·.1) = false := by rfl) :
    PE X (.Call (.Name x p) (e :: es) [] pos) (tLamCall L sp t) := by
  obtain ⟨g, R, gm, kp⟩ := D.ex
  constructor
  intro pins s σ H Q I h
  refine wpAny_Call_Name_kw (ld_glob I hg gm ?_ hdb)
  refine PySem.W.callWith_K (h₀ := X.base) I.ok.mod.kin kp (thn (ha.run pos pins s σ H _ I h) ?_) he hpl
  rintro us s1 ⟨vs, H1, I1, r, i, f, c', rest, rfl, hf, hc, q⟩
  refine ⟨I1.kIn, wpAny_call (codeAny_mono (R.run X.A X.stack s1 H1 us f rest _ _ _ _ _ kl Q (hr.mono hj) hkl I1.env0 r (G i f c') hf hc (cells_still (C i c') (hxc i c') I1) q) fun z s' hz => ?_)⟩
  rcases z with er | fl
  · exact (show False from hz).elim
  · cases fl
    case ret u => exact I1.after hz
    all_goals exact False.elim hz
/-- what the def's own cells hold, told to a block that begins -/
theorem cells_blk {X : Cx} {pins : List (Addr × Obj)} {σ : L2.St} {H : Hp} {s : Shared} {scope : Scope} {fr : List Str} {js : List Nat} (I : Inv X pins σ H s) (hfree : ∀ y ∈ scope.names, y.2 = .free → X.env.scope.names.lookup y.1 = some .cell ∨ X.env.scope.names.lookup y.1 = some .free)
    (hfr : ∀ y ∈ fr, (y, NameKind.free) ∈ scope.names) (hjs : js.map (fun j => X.N[j]?) = fr.map some) : CellsAt (cloFrom X.env.cells scope.names []) fr (js.map (slotAt σ)) s.heap H := cells_of I (Caps.made I.ok hfree hfr hjs)
theorem cells_fp {X : Cx} {pins : List (Addr × Obj)} {σ : L2.St} {H : Hp} {s : Shared} {scope : Scope} {fp : List Addr} (I : Inv X pins σ H s) (hfree : ∀ y ∈ scope.names, y.2 = .free → X.env.scope.names.lookup y.1 = some .cell ∨ X.env.scope.names.lookup y.1 = some .free)
    (hfp : ∀ b ∈ fp, FpOk X pins H b) (b : Addr) : b ∉ fp ∨ ∀ y, (cloFrom X.env.cells scope.names []).lookup y ≠ some b := by
  by_cases hb : b ∈ fp
  · refine .inr fun y z => ?_
    have hf : ∀ y ∈ scope.names, y.2 = .free → ∃ c, X.env.cells.lookup y.1 = some c := fun y hy e => (hfree y hy e).elim (fun z => I.ok.has _ (.inl z)) fun z => I.ok.has _ (.inr z)
    exact (hfp b hb).2.2.2.2.1 y b (clo_cm hf z) rfl
  · exact .inl hb
end Own

/-! own layer: a text beside a dict. -/
namespace PySem.SeqAt
open AutoSeq1 (wpAny_loadPart')
open MeetsSeq
theorem own_str_dict0 (b : Str) (u : Tok) (l : Addr) (es : Array DictEntry) (ep : Nat) :
    Meets (Builtin.«str.__eq__» ⟨[.str b u, .ref l], []⟩) (fun _ R s => s.heap.get? l = some ({ cls := .type "dict", dict := none, data := .dict es ep, slots := #[] } : Obj) ∧ R (.ok (.ret .notImplemented)) s) :=
  .of_wp fun prog w A R s h => by
    obtain ⟨hp, g, d, tk, os⟩ := s
    obtain ⟨hl, h⟩ := h
    wp_walk using wpAny_loadPart' hl, wpAny_load hl
    exact ⟨_, rfl, h⟩
theorem own_dict_str0 (b : Str) (u : Tok) (l : Addr) (es : Array DictEntry) (ep : Nat) :
    Meets (Builtin.«dict.__eq__» ⟨[.ref l, .str b u], []⟩) (fun _ R s => s.heap.get? l = some ({ cls := .type "dict", dict := none, data := .dict es ep, slots := #[] } : Obj) ∧ R (.ok (.ret .notImplemented)) s) :=
  .of_wp fun prog w A R s h => by
    obtain ⟨hp, g, d, tk, os⟩ := s
    obtain ⟨hl, h⟩ := h
    have f1 := F.sub_str_dict
    wp_walk using wpAny_loadPart' hl, wpAny_load hl
    exact ⟨_, rfl, h⟩
theorem own_rc_str_dict {A : Around} {s : Shared} {l : Addr} {es : Array DictEntry} {ep : Nat} (b : Str) (u : Tok) (ho : s.heap.get? l = some ({ cls := .type "dict", dict := none, data := .dict es ep, slots := #[] } : Obj)) (hu : A.units < cLine) : RcAt A s (.str b u) (.ref l) false :=
  fun prog w E Q h => by
    refine rc_eq_decline_or (k := false) (typeIs_str s b u) ⟨_, ho, rfl⟩ (by decide) F.sub_dict_str F.slot_str_eq F.slot_dict_eq_refl ?_ ?_ ?_ (.inr hu) h
    · exact fun _ hq => call_meets F.slot_str_eq (typeIs_str s b u) F.entry_str_eq (F.args_str_eq_2 _ _) (own_str_dict0 b u l es ep) ⟨ho, hq⟩
    · exact fun _ hq => call_meets F.slot_dict_eq_refl ⟨_, ho, rfl⟩ F.entry_dict_eq (F.args_dict_eq_2 _ _) (own_dict_str0 b u l es ep) ⟨ho, hq⟩
    · exact fun _ hq => wpAny_of_eq (rfl : isSame (.str b u) (.ref l) = pure false) hq
theorem own_eq_str_dict {A : Around} {s : Shared} {l : Addr} {es : Array DictEntry} {ep : Nat} (b : Str) (u : Tok) (ho : s.heap.get? l = some ({ cls := .type "dict", dict := none, data := .dict es ep, slots := #[] } : Obj)) (hu : A.units < cLine) : EqAt A s (.str b u) (.ref l) false :=
  fun prog w E Q h => by
    unfold eqBool
    refine wpAny_holding (wpAny_ite_split (fun z => absurd (eq_of_beq z) nofun) fun _ => ?_)
    exact wpAny_bind (own_rc_str_dict b u ho hu prog w E _ (wpAny_truthy_bool h))
end PySem.SeqAt
namespace Own
open PySem PySem.Spec PyProof.Rows L2
/-- a value that is no text, and no number with a text's place -/
inductive NoTxt (H : Hp) : V → Prop where
  | non : NoTxt H .non
  | bl (b : Bool) : NoTxt H (.bl b)
  | int (i : Int) : NoTxt H (.int i)
  | lst {a : Addr} {xs : List V} (e : H a = some (.lst xs)) : NoTxt H (.ref a)
  | tup {a : Addr} {xs : List V} (e : H a = some (.tup xs)) : NoTxt H (.ref a)
  | dct {a : Addr} {kvs : List (Key × V)} (e : H a = some (.dK kvs)) : NoTxt H (.ref a)
theorem NoTxt.ne {X : Cx} {pins : List (Addr × Obj)} {σ : L2.St} {H : Hp} {s : Shared} {x : V} {v : Value} (I : Inv X pins σ H s) (h : NoTxt H x) (r : RelV x v) {A : Around} (hu : A.units < cLine) (z : Str) (t : Tok) : SeqAt.EqAt A s (.str z t) v false := by
  cases h with
  | non => cases r; exact SeqAt.EqAt.str_none z t
  | bl b => cases r; exact SeqAt.EqAt.str_bool z t b
  | int i =>
    obtain ⟨u, rfl⟩ := r
    exact SeqAt.EqAt.str_int z t i u
  | lst e =>
    cases r
    obtain ⟨its, _, pl, _⟩ := I.list (SqL.of e)
    exact SeqAt.EqAt.str_list z t pl.isList hu
  | tup e =>
    cases r
    obtain ⟨its, _, pl, _⟩ := I.tuple (SqT.of e)
    exact SeqAt.EqAt.str_tuple z t pl hu
  | dct e =>
    cases r
    obtain ⟨_, _, vs, _, ⟨⟨c, dd, da, sl⟩, es, ep, ho, hx, hd, _⟩⟩ := (show ObjOk X.prog X.w H s.heap _ (.dK _) from I.hok _ _ e)
    obtain ⟨rfl, rfl, rfl⟩ := hx
    obtain rfl : da = .dict es ep := hd
    exact SeqAt.own_eq_str_dict z t ho hu
def rNotInW (K : PySem.W.Frag) : R2 := fun x y H Q => ∃ (p : Addr) (zs : List Str), y = .ref p ∧ SqT K H p (zs.map V.str) ∧ NoTxt H x ∧ Q (.bl true) H
theorem op_notInW {X : Cx} (hu : X.A.units + 1 < cLine) : OpR X (compareOp .NotIn) (rNotInW X.K) := by
  intro pins s σ H x y v u Q I rx ry h
  obtain ⟨p, zs, rfl, hq, nt, q⟩ := h
  cases ry
  obtain ⟨its, r, pl, hz⟩ := I.tuple hq
  have txts : ∀ w ∈ its, ∃ (z : Str) (t : Tok), w = .str z t := fun w hw => by
    obtain ⟨i, hi⟩ := List.mem_iff_getElem?.mp hw
    have hlt : i < (zs.map V.str).length := by
      rw [Paired.length r]
      exact (List.getElem?_eq_some_iff.mp hi).1
    obtain ⟨u', h1, h2⟩ := r.get (List.getElem?_eq_getElem hlt)
    rw [hi] at h1
    cases h1
    rw [List.getElem_map] at h2
    obtain ⟨t, z⟩ := h2
    exact ⟨_, t, z⟩
  have hu0 : X.A.units < cLine := Nat.lt_of_le_of_lt (Nat.le_succ _) hu
  have hu' : X.A.in1.units < cLine := by first | exact hu0 | exact hu
  refine SeqAt.notIn_tupleAt (fun _ => false) pl (fun w hw => ?_) ⟨.bl _, H, I, rfl, ?_⟩
  · obtain ⟨z, t, rfl⟩ := txts w (by simpa using hw)
    exact nt.ne I rx hu' z t
  · have e : its.toArray.any (fun _ => false) = false := by simp
    rw [e]
    exact q
end Own

/-! own layer: things handed in; d.get of a written dict; an error with one field. -/
namespace Own
open PySem PySem.Spec PyProof.Rows L2
inductive Thing (H : Hp) : V → Prop where
  | non : Thing H .non
  | bl (b : Bool) : Thing H (.bl b)
  | int (i : Int) : Thing H (.int i)
  | str (z : Str) : Thing H (.str z)
  | lst {a : Addr} {xs : List V} (e : H a = some (.lst xs)) : Thing H (.ref a)
  | tup {a : Addr} {xs : List V} (e : H a = some (.tup xs)) : Thing H (.ref a)
  | dct {a : Addr} {kvs : List (Key × V)} (e : H a = some (.dK kvs)) : Thing H (.ref a)
theorem Thing.same {H H' : Hp} {x : V} (h : Thing H x) (s : Same H H') : Thing H' x := by
  cases h with
  | non => exact .non
  | bl b => exact .bl b
  | int i => exact .int i
  | str z => exact .str z
  | lst e => exact .lst (s _ _ e)
  | tup e => exact .tup (s _ _ e)
  | dct e => exact .dct (s _ _ e)
def isInt : V → Bool
  | .int _ => true
  | _ => false
def isBl : V → Bool
  | .bl _ => true
  | _ => false
/-- isinstance(x, int), isinstance(x, bool) -/
theorem Thing.isi {K : PySem.W.Frag} {H : Hp} {x : V} (h : Thing H x) : ∃ t : Value, TyX K H x t ∧ PySem.W.kitOne K t (.type "int") = some (isInt x || isBl x) ∧ PySem.W.kitOne K t (.type "bool") = some (isBl x) := by
  cases h with
  | non => exact ⟨_, .base .non, kit_ty (show kitB "NoneType" "int" = some false by decide +kernel), kit_ty (show kitB "NoneType" "bool" = some false by decide +kernel)⟩
  | bl b => exact ⟨_, .base (.bl b), kit_ty (show kitB "bool" "int" = some true by decide +kernel), kit_ty (show kitB "bool" "bool" = some true by decide +kernel)⟩
  | int i => exact ⟨_, .base (.int i), kit_ty (show kitB "int" "int" = some true by decide +kernel), kit_ty (show kitB "int" "bool" = some false by decide +kernel)⟩
  | str z => exact ⟨_, .base (.str z), kit_ty (show kitB "str" "int" = some false by decide +kernel), kit_ty (show kitB "str" "bool" = some false by decide +kernel)⟩
  | lst e => exact ⟨_, .base (.lst e), kit_ty (show kitB "list" "int" = some false by decide +kernel), kit_ty (show kitB "list" "bool" = some false by decide +kernel)⟩
  | tup e => exact ⟨_, .base (.tup e), kit_ty (show kitB "tuple" "int" = some false by decide +kernel), kit_ty (show kitB "tuple" "bool" = some false by decide +kernel)⟩
  | dct e => exact ⟨_, .base (.dK e), kit_ty (show kitB "dict" "int" = some false by decide +kernel), kit_ty (show kitB "dict" "bool" = some false by decide +kernel)⟩
theorem Thing.noTxt {H : Hp} {x : V} (h : Thing H x) : NoTxt H x ∨ ∃ z, x = .str z := by
  cases h with
  | non => exact .inl .non
  | bl b => exact .inl (.bl b)
  | int i => exact .inl (.int i)
  | str z => exact .inr ⟨z, rfl⟩
  | lst e => exact .inl (.lst e)
  | tup e => exact .inl (.tup e)
  | dct e => exact .inl (.dct e)
/-- what a written dict says at a text -/
def KGet (K : PySem.W.Frag) (d : Addr) (z : Str) (r : Option V) : Prop := ∃ ro : Option Value, PySem.W.nsIn K d z = some ro ∧ RelO r ro
section
variable {X : Cx} {d : Addr} {es : Array DictEntry} {n : Nat} {o e f : Expr} {apos cpos : Pos} {td ty tx : TE}
theorem pe_kget2 (D : KDict X.K X.w d es n) (ho : PE X o td) (he : PE X e ty) (hf : PE X f tx) (m : M2 X o "get" apos e f cpos) :
    PE X (.Call (.Attribute o "get" apos) [e, f] [] cpos) (fun σ H Q => td σ H fun x H1 => x = .ref d ∧ ty σ H1 fun y H2 => tx σ H2 fun z H3 => ∃ (t : Str) (r : Option V), y = .str t ∧ KGet X.K d t r ∧ Q (r.getD z) H3) := by
  constructor
  intro pins s σ H Q I h
  refine wpAny_Call_method m.base m.few m.line PySem.F.plainAttrs_dict PySem.F.slot_dict_get PySem.F.type_dict_get (thn (ho.run pins s σ H _ I h) ?_)
  rintro u s1 ⟨x, H1, I1, rx, rfl, q1⟩
  obtain rfl : u = Value.ref d := rx
  refine ⟨kd_type D I1, fun b q => ?_, ?_⟩
  · cases q
    exact ⟨_, I1.kIn _ _ D.at_, rfl⟩
  rw [m.trees]
  refine Calls.callWith_builtin rfl (Calls.evalArgs_plain (Calls.spliced_cons (thn (he.run pins s1 σ H1 _ I1 q1) ?_)))
  rintro iv s2 ⟨y, H2, I2, ry, q2⟩
  refine Calls.spliced_cons (thn (hf.run pins s2 σ H2 _ I2 q2) ?_)
  rintro fv s3 ⟨z, H3, I3, rz, t, r, rfl, ⟨ro, hk, rr⟩, q3⟩
  refine Calls.spliced_nil ?_
  obtain ⟨tk, rfl⟩ := ry
  show wpAny _ _ (call (.builtin "dict.get") [.ref d, .str t tk, fv]) _ _ _
  refine call_meetsIn PySem.F.slot_dict_get (kd_type D I3) PySem.F.entry_dict_get (PySem.F.args_dict_get_3 _ _ _) (meets_dict_get_default (strKind X.prog X.w) d (strKind_is X.prog X.w t tk) D.low fv) ⟨_, PySem.W.mapOf_K (prog := X.prog) I3.kIn D.at_ D.lit, ?_⟩
  rw [PySem.W.find_K D.at_ hk]
  refine ⟨r.getD z, H3, I3.tok _, ?_, q3⟩
  cases r with
  | none =>
    cases ro with
    | none => exact rz
    | some u => exact rr.elim
  | some v =>
    cases ro with
    | none => exact rr.elim
    | some u => exact rr
end
/-! ### an error class whose __init__ keeps one field -/
structure ErrC (P : Program) (w : World) (K : PySem.W.Frag) (mg : Str → Option Value) (base : Heap) (x fld : Str) (k : Nat) (C : Addr) (sp : Sp) : Prop where
  g : mg x = some (.ref C)
  oex : OexC K C
  ini : ∃ (fI : Addr) (fd : FuncData), PySem.W.findIn K (.ref C) "__init__" = some (some (.ref fI)) ∧ PySem.W.typeIn K (.ref fI) = some (.type "function") ∧ FnOk P w K mg base CX0 k fI fd ["self", fld] sp ∧ Binds K fd ["self", fld] []
  xf : XfC K C
  te : PySem.W.exmOne K (.ref C) (.ref C) = some true
  noV : PySem.W.findIn K (.ref C) fld = some none
def spErr (C : Addr) (fld : Str) : Sp := fun vs H Q _ => ∃ (a : Addr) (y : V), vs = [.ref a, y] ∧ H a = some (exo a C none) ∧ ∀ dx, H dx = none → dx ≠ a → Q .non (upd (upd H dx (exd dx [(fld, y)])) a (exo a C (some dx)))
/-- such an error leaves: its value x -/
def Bad (C : Addr) (fld : Str) (x : V) (H : Hp) (E : XK) : Prop := ∀ (d : Addr) (H' : Hp), Same H H' → H d = none → H' d = some (.xd [(fld, x)]) → E (.ref C) (some d) H'
theorem Bad.same {C : Addr} {fld : Str} {x : V} {H H1 : Hp} {E : XK} (h : Bad C fld x H E) (s : Same H H1) : Bad C fld x H1 E := fun d H' s' n e => h d H' (s.trans s') (s.free n) e
section
variable {X : Cx} {x fld : Str} {k j : Nat} {C : Addr} {e : Expr} {te : TE} {p pos : Pos}
theorem pmk_err (D : ErrC X.prog X.w X.K X.mg X.base x fld k C (spErr C fld)) (hr : Room j X.A) (hj : k + 1 ≤ j) (hg : Gl X x) (he : PE X e te) (hdb : (x == ("__debug__" : Str)) = false := by decide)
    (hst : starEach (e :: []) X.env = (false, eval e X.env) :: starEach [] X.env := by rfl) (hpl : (backTo pos (starEach [] X.env)).any (·.1) = false := by rfl) :
    PMk X (.Call (.Name x p) [e] [] pos) (tMkO C (spErr C fld) [] (tCons te tNil)) := by
  obtain ⟨fI, fd, iC, tI, F1, b⟩ := D.ini
  exact pmk_oex D.oex iC tI F1 (hr.mono hj) b .nil (fun _ _ _ _ _ _ _ z => z.elim) hg D.g (pa_cons he pa_nil hst) hdb hst hpl
end
/-- the end of such a making -/
theorem bad_mk {C : Addr} {fld : Str} {y : V} {H : Hp} {Q : XK} (h : Bad C fld y H Q) : [y].length ≤ 1000 ∧ ∀ a, H a = none → spErr C fld (.ref a :: ([y] ++ [])) (upd H a (exo a C none))
    (fun v H2 => v = .non ∧ ∃ (d : Addr) (fs : List (Str × V)), H2 a = some (exo a C (some d)) ∧ H2 d = some (exd d fs) ∧ H d = none ∧ Q (.ref C) (some d) (upd (del H2 a) d (.xd fs))) (fun _ _ _ => False) := by
  refine ⟨by show 1 ≤ 1000; decide, fun a na => ⟨a, y, rfl, upd_same, fun dx ndx ne => ⟨rfl, dx, [(fld, y)], upd_same, ?_, ?_, ?_⟩⟩⟩
  · rw [upd_ne ne, upd_same]
  · rw [upd_ne ne] at ndx
    exact ndx
  · have nd : H dx = none := by
      rw [upd_ne ne] at ndx
      exact ndx
    refine h dx _ (fun b o e => ?_) nd upd_same
    have b1 : b ≠ a := ne_of_none e na
    have b2 : b ≠ dx := ne_of_none e nd
    rw [upd_ne b2, del_ne b1, upd_ne b1, upd_ne b2, upd_ne b1]
    exact e
end Own

/-! k06: the program's own defs. -/
namespace K06
open PySem PySem.Spec PyProof.Rows L2 Own
def waysL : List Str := ["floor", "ceiling", "cut", "away", "halfup", "halfdown", "halfeven", "halfaway", "halfcut"]
def mirrL : List (Str × Str) := [("floor", "ceiling"), ("ceiling", "floor"), ("halfup", "halfdown"), ("halfdown", "halfup")]
def halvL : List (Str × Str) := [("halfup", "ceiling"), ("halfdown", "floor"), ("halfeven", "even"), ("halfaway", "away"), ("halfcut", "cut")]
def baseUp (w : Str) (b : Int) : Bool := if w = "even" then decide (b % 2 = 1) else if w = "cut" then decide (b < 0) else if w = "away" then decide (0 ≤ b) else decide (w = "ceiling")
def goesUp (w : Str) (b p : Int) : Bool := match halvL.lookup w with
  | some h => if p = 0 then baseUp h b else decide (0 < p)
  | none => baseUp w b
def near (n d : Int) (w : Str) : Int := if n % d = 0 then n / d else if goesUp w (n / d) (2 * (n % d) - d) = true then n / d + 1 else n / d
def mirr (w : Str) : Str := (mirrL.lookup w).getD w
theorem dec_int (a b : Int) : decide (V.int a = V.int b) = decide (a = b) := by simp
theorem dec_str (a b : Str) : decide (V.str a = V.str b) = decide (a = b) := by simp
/-- what the walk asks of the top: the names of built-ins are free; the tables -/
structure Txt (P : Program) (w : World) (K : PySem.W.Frag) (mg : Str → Option Value) (base : Heap) (C aW aM aH : Addr) (eM : Array DictEntry) (nM : Nat) (eH : Array DictEntry) (nH : Nat) : Prop where
  isi : mg "isinstance" = none
  int : mg "int" = none
  bool : mg "bool" = none
  len : mg "len" = none
  list : mg "list" = none
  range : mg "range" = none
  tuple : mg "tuple" = none
  all : mg "all" = none
  dm : mg "divmod" = none
  err : ErrC P w K mg base "BadValue" "value" 1 C (spErr C "value")
  gW : mg "WAYS" = some (.ref aW)
  ways : ∀ H : Hp, SqT K H aW (waysL.map V.str)
  gM : mg "MIRRORS" = some (.ref aM)
  dM : KDict K w aM eM nM
  mirr : ∀ z ∈ waysL, KGet K aM z ((mirrL.lookup z).map V.str)
  gH : mg "HALVES" = some (.ref aH)
  dH : KDict K w aH eH nH
  halv : ∀ z ∈ waysL, KGet K aH z ((halvL.lookup z).map V.str)
section
variable {P : Program} {w : World} {K : PySem.W.Frag} {mg : Str → Option Value} {base : Heap} {C aW aM aH : Addr} {eM eH : Array DictEntry} {nM nH : Nat}
theorem scInt : FnScope ["value"] ["value"] (defScope sInt) := ⟨rfl, rfl, rfl, by decide +kernel, rfl, by decide +kernel, by decide +kernel⟩
def spIsInt : Sp := fun vs H Q _ => ∃ x : V, vs = [x] ∧ Thing H x ∧ Q (.bl (isInt x)) H
theorem ok_isInt (A : At K mg "is_an_integer" sInt ["value"]) (T : Txt P w K mg base C aW aM aH eM nM eH nH) : DefOk P w K mg base CX0 "is_an_integer" 1 ["value"] spIsInt := by
  refine A.ok fun f fd F => F.ok scInt (fun vs H Q E h => ?_) (fun cdv A outer s H vs Q E hr h => ?_)
  · obtain ⟨x, rfl, _⟩ := h
    rfl
  · obtain ⟨x, rfl, th, q⟩ := h
    refine ⟨_, pss_one (ps_ret (pe_and (pe_callB call_isi (by rfl) T.isi (by decide +kernel) (pa_cons (pv 0) (pa_cons (pe_bltn (v := .ty "int") (by rfl) T.int (by decide +kernel) rfl) pa_nil)))
      (pe_one (pe_not (pe_callB call_isi (by rfl) T.isi (by decide +kernel) (pa_cons (pv 0) (pa_cons (pe_bltn (v := .ty "bool") (by rfl) T.bool (by decide +kernel) rfl) pa_nil))))))), ?_⟩
    obtain ⟨t, ht, h1, h2⟩ := th.isi (K := K)
    have hb : isBl x = true → Own.isInt x = false := by cases x <;> simp [Own.isInt, isBl]
    refine ⟨_, rfl, x, .ty "int", t, _, _, rfl, .ty _, ht, h1, _, rfl, ite2 (fun e => ?_) (fun e => ?_)⟩
    · refine ⟨_, rfl, x, .ty "bool", t, _, _, rfl, .ty _, ht, h2, _, rfl, ?_⟩
      have z : (!isBl x) = isInt x := by cases e1 : Own.isInt x <;> cases e2 : isBl x <;> simp_all
      rw [z]
      exact q
    · have z : false = isInt x := by cases e1 : Own.isInt x <;> cases e2 : isBl x <;> simp_all
      rw [z]
      exact q
theorem scNInt : FnScope ["value"] ["value"] (defScope sNInt) := ⟨rfl, rfl, rfl, by decide +kernel, rfl, by decide +kernel, by decide +kernel⟩
def spNInt (C : Addr) : Sp := fun vs H Q E => ∃ x : V, vs = [x] ∧ Thing H x ∧ (isInt x = true → Q .non H) ∧ (isInt x = false → Bad C "value" x H E)
theorem ok_nInt (A : At K mg "need_integer" sNInt ["value"]) (T : Txt P w K mg base C aW aM aH eM nM eH nH) (D : DefOk P w K mg base CX0 "is_an_integer" 1 ["value"] spIsInt) : DefOk P w K mg base (L2.CX P w) "need_integer" 3 ["value"] (spNInt C) := by
  refine A.ok fun f fd F => F.okX scNInt (fun vs H Q E h => ?_) (fun cdv A outer s H vs Q E hr h => ?_)
  · obtain ⟨x, rfl, _⟩ := h
    rfl
  · obtain ⟨x, rfl, th, q1, q2⟩ := h
    refine ⟨_, pss_one (ps_if (pt_not (pt_val (pe_def D hr (by decide) (by rfl) pass0 (pa_cons (pv 0) pa_nil)))) (pss_one (ps_raise rfl (takes_of rfl rfl rfl rfl) (pmk_err T.err hr (by decide) (by rfl) (pv 0)))) pss_nil), ?_⟩
    refine ⟨_, rfl, x, rfl, th, _, rfl, ite2 (fun e => ?_) (fun e => ?_)⟩
    · exact ⟨_, rfl, bad_mk (q2 (by simpa using e))⟩
    · exact q1 (by simpa using e)
theorem scNWay : FnScope ["value"] ["value"] (defScope sNWay) := ⟨rfl, rfl, rfl, by decide +kernel, rfl, by decide +kernel, by decide +kernel⟩
def isWay : V → Bool
  | .str z => decide (z ∈ waysL)
  | _ => false
def spNWay (C : Addr) : Sp := fun vs H Q E => ∃ x : V, vs = [x] ∧ Thing H x ∧ (isWay x = true → Q .non H) ∧ (isWay x = false → Bad C "value" x H E)
theorem ok_nWay (A : At K mg "need_way" sNWay ["value"]) (T : Txt P w K mg base C aW aM aH eM nM eH nH) : DefOk P w K mg base (L2.CX P w) "need_way" 3 ["value"] (spNWay C) := by
  refine A.ok fun f fd F => F.okX scNWay (fun vs H Q E h => ?_) (fun cdv A outer s H vs Q E hr h => ?_)
  · obtain ⟨x, rfl, _⟩ := h
    rfl
  · obtain ⟨x, rfl, th, q1, q2⟩ := h
    refine ⟨_, pss_one (ps_if (pt_cmpR (OpR.or op_notIn_seq (op_notInW (hu_of hr))) (pv 0) (pe_glob (v := .ref aW) (by rfl) T.gW rfl) (by rfl)) (pss_one (ps_raise rfl (takes_of rfl rfl rfl rfl) (pmk_err T.err hr (by decide) (by rfl) (pv 0)))) pss_nil), ?_⟩
    rcases th.noTxt with nt | ⟨z, rfl⟩
    · have hw : isWay x = false := by cases nt <;> rfl
      exact ⟨_, rfl, .inr ⟨aW, waysL, rfl, T.ways H, nt, _, rfl, iteT ⟨_, rfl, bad_mk (q2 hw)⟩⟩⟩
    · refine ⟨_, rfl, .inl ⟨aW, _, rfl, .inr (T.ways H), rfl, by decide +kernel, _, rfl, ?_⟩⟩
      have e : inV (.str z) (waysL.map V.str) = decide (z ∈ waysL) := by
        unfold inV
        rw [List.any_map]
        have : ∀ l : List Str, (l.any ((fun y => eqV y (.str z)) ∘ V.str)) = decide (z ∈ l) := by
          intro l
          induction l with
          | nil => rfl
          | cons a r ih =>
            rw [List.any_cons, ih]
            show (a == z || decide (z ∈ r)) = decide (z ∈ a :: r)
            by_cases h : a = z
            · subst h
              simp
            · have h' : ¬ z = a := fun e => h e.symm
              simp [h, h']
        exact this waysL
      show if (if true = true then !inV (.str z) (waysL.map V.str) else inV (.str z) (waysL.map V.str)) = true then _ else _
      rw [if_pos rfl, e]
      refine ite2 (fun e => ?_) (fun e => ?_)
      · exact ⟨_, rfl, bad_mk (q2 (by simpa [isWay] using e))⟩
      · exact q1 (by simpa [isWay] using e)
end
end K06

/-! k06: the program's own defs, further. -/
namespace K06
open PySem PySem.Spec PyProof.Rows L2 Own
section
variable {P : Program} {w : World} {K : PySem.W.Frag} {mg : Str → Option Value} {base : Heap} {C aW aM aH : Addr} {eM eH : Array DictEntry} {nM nH : Nat}
theorem scMirr : FnScope ["way"] ["way"] (defScope sMirr) := ⟨rfl, rfl, rfl, by decide +kernel, rfl, by decide +kernel, by decide +kernel⟩
def spMirr (C : Addr) : Sp := fun vs H Q E => ∃ x : V, vs = [x] ∧ Thing H x ∧ (∀ z ∈ waysL, x = .str z → Q (.str (mirr z)) H) ∧ (isWay x = false → Bad C "value" x H E)
theorem isWay_str {x : V} (h : isWay x = true) : ∃ z ∈ waysL, x = .str z := by
  cases x with
  | str z => exact ⟨z, by simpa [isWay] using h, rfl⟩
  | _ => simp [isWay] at h
theorem ok_mirr (A : At K mg "mirrored" sMirr ["way"]) (T : Txt P w K mg base C aW aM aH eM nM eH nH) (D : DefOk P w K mg base (L2.CX P w) "need_way" 3 ["value"] (spNWay C)) : DefOk P w K mg base (L2.CX P w) "mirrored" 4 ["way"] (spMirr C) := by
  refine A.ok fun f fd F => F.okX scMirr (fun vs H Q E h => ?_) (fun cdv A outer s H vs Q E hr h => ?_)
  · obtain ⟨x, rfl, _⟩ := h
    rfl
  · obtain ⟨x, rfl, th, q1, q2⟩ := h
    refine ⟨_, pss_cons (ps_expr (pe_def (E := E) D hr (by decide) (by rfl) (passes_call (takes_of rfl rfl rfl rfl) fun _ _ _ _ z => z) (pa_cons (pv 0) pa_nil)))
      (pss_one (ps_ret (pe_kget2 T.dM (pe_glob (v := .ref aM) (by rfl) T.gM rfl) (pv 0) (pv 0) ⟨rfl, rfl, rfl, rfl⟩))), ?_⟩
    refine ⟨_, rfl, x, rfl, th, fun hw => ?_, q2⟩
    obtain ⟨z, hz, rfl⟩ := isWay_str hw
    refine ⟨rfl, _, rfl, _, rfl, z, _, rfl, T.mirr z hz, ?_⟩
    have e : ((mirrL.lookup z).map V.str).getD (.str z) = .str (mirr z) := by
      unfold mirr
      cases mirrL.lookup z <;> rfl
    rw [e]
    exact q1 z hz rfl
theorem scGoes : FnScope ["way", "below", "past_half"] ["way", "below", "past_half"] (defScope sGoes) := ⟨rfl, rfl, rfl, by decide +kernel, rfl, by decide +kernel, by decide +kernel⟩
def spGoes : Sp := fun vs H Q _ => ∃ (z : Str) (b p : Int), vs = [.str z, .int b, .int p] ∧ z ∈ waysL ∧ Q (.bl (goesUp z b p)) H
theorem ok_goes (A : At K mg "_goes_up" sGoes ["way", "below", "past_half"]) (T : Txt P w K mg base C aW aM aH eM nM eH nH) : DefOk P w K mg base CX0 "_goes_up" 1 ["way", "below", "past_half"] spGoes := by
  refine A.ok fun f fd F => F.ok scGoes (fun vs H Q E h => ?_) (fun cdv A outer s H vs Q E hr h => ?_)
  · obtain ⟨z, b, p, rfl, _⟩ := h
    rfl
  · obtain ⟨z, b, p, rfl, hz, q⟩ := h
    have nd := scGoes.nd
    refine ⟨_, C8.pss_cut (ps_if (pt_cmpR (op_in_kd T.dH) (pv 0) (pe_glob (v := .ref aH) (by rfl) T.gH rfl) (by rfl))
        (pss_cons (ps_if (pt_cmpR op_ne (pv 2) pe_int (nomark _)) (pss_one (ps_ret (pe_cmpR op_gt (pv 2) pe_int (nomark _)))) pss_nil)
        (pss_one (ps_set (i := 0) nd rfl (.inl rfl) (pe_ix ix_kdict (pe_glob (v := .ref aH) (by rfl) T.gH rfl) (pv 0) (fun _ _ => rfl))))) pss_nil)
      (pss_cons (ps_if (pt_cmpR op_eq (pv 0) pe_str (nomark _)) (pss_one (ps_ret (pe_cmpR op_eq (pe_op op_mod (pv 1) pe_int) pe_int (nomark _)))) pss_nil)
      (pss_cons (ps_if (pt_cmpR op_eq (pv 0) pe_str (nomark _)) (pss_one (ps_ret (pe_cmpR op_lt (pv 1) pe_int (nomark _)))) pss_nil)
      (pss_cons (ps_if (pt_cmpR op_eq (pv 0) pe_str (nomark _)) (pss_one (ps_ret (pe_cmpR op_ge (pv 1) pe_int (nomark _)))) pss_nil)
      (pss_one (ps_ret (pe_cmpR op_eq (pv 0) pe_str (nomark _))))))), ?_⟩
    -- what a way says that is none of the nearer ones
    have tail : ∀ y : Str, (if y = "even" then (decide (V.int (b % 2) = V.int 1)) else if y = "cut" then decide (b < 0) else if y = "away" then decide (0 ≤ b) else decide (V.str y = V.str "ceiling")) = baseUp y b := fun y => by
      unfold baseUp
      rw [dec_int, dec_str]
    refine ⟨fun σ H' => ∃ y : Str, σ = [some (.str y), some (.int b), some (.int p)] ∧ H' = H ∧ baseUp y b = goesUp z b p, ?_, ?_⟩
    · obtain ⟨ro, hk, hr'⟩ := T.halv z hz
      refine ⟨_, rfl, z, ro, rfl, rfl, hk, _, rfl, ?_⟩
      cases hl : halvL.lookup z with
      | none =>
        rw [hl] at hr'
        have e : ro = none := by
          cases ro with
          | none => rfl
          | some u => exact hr'.elim
        subst e
        refine iteF ⟨z, rfl, rfl, ?_⟩
        unfold goesUp
        rw [hl]
      | some y =>
        rw [hl] at hr'
        obtain ⟨u, rfl⟩ : ∃ u, ro = some u := by
          cases ro with
          | none => exact hr'.elim
          | some u => exact ⟨u, rfl⟩
        refine iteT ?_
        refine ⟨_, rfl, rfl, _, rfl, ite2 (fun e => ?_) (fun e => ?_)⟩
        · have hp : p ≠ 0 := by simpa using e
          refine ⟨_, rfl, _, _, rfl, rfl, ?_⟩
          have g : goesUp z b p = decide (0 < p) := by
            unfold goesUp
            rw [hl]
            exact if_neg hp
          show Q (.bl (decide (0 < p))) H
          rw [← g]
          exact q
        · have hp : p = 0 := by simpa using e
          refine ⟨_, rfl, aH, z, .str y, rfl, rfl, ⟨eH, nH, u, T.dH.at_, T.dH.lit, hk, hr'⟩, y, rfl, rfl, ?_⟩
          unfold goesUp
          rw [hl]
          exact (if_pos hp).symm
    · rintro σ H' ⟨y, rfl, rfl, hy⟩
      rw [← hy, ← tail y] at q
      refine ⟨_, rfl, rfl, _, rfl, ite2 (fun e => ?_) (fun e => ?_)⟩
      · have e' : y = "even" := V.str.inj (of_decide_eq_true e)
        rw [if_pos e'] at q
        exact ⟨_, rfl, _, _, rfl, rfl, (show (0 : Int) < 2 by decide), rfl, q⟩
      · have e' : ¬ y = "even" := fun z => e (by rw [z]; simp)
        rw [if_neg e'] at q
        refine ⟨_, rfl, rfl, _, rfl, ite2 (fun e => ?_) (fun e => ?_)⟩
        · have e' : y = "cut" := V.str.inj (of_decide_eq_true e)
          rw [if_pos e'] at q
          exact ⟨_, rfl, _, _, rfl, rfl, q⟩
        · have e' : ¬ y = "cut" := fun z => e (by rw [z]; simp)
          rw [if_neg e'] at q
          refine ⟨_, rfl, rfl, _, rfl, ite2 (fun e => ?_) (fun e => ?_)⟩
          · have e' : y = "away" := V.str.inj (of_decide_eq_true e)
            rw [if_pos e'] at q
            exact ⟨_, rfl, _, _, rfl, rfl, q⟩
          · have e' : ¬ y = "away" := fun z => e (by rw [z]; simp)
            rw [if_neg e'] at q
            exact ⟨_, rfl, rfl, q⟩
theorem scNear : FnScope ["number", "divisor", "way", "below", "left"] ["number", "divisor", "way"] (defScope sNear) := ⟨rfl, rfl, rfl, by decide +kernel, rfl, by decide +kernel, by decide +kernel⟩
def spNear : Sp := fun vs H Q _ => ∃ (n d : Int) (z : Str), vs = [.int n, .int d, .str z] ∧ 0 < d ∧ d.natAbs < 2 ^ 1000 ∧ z ∈ waysL ∧ ∀ H', Same H H' → Q (.int (near n d z)) H'
theorem log2_lt {n k : Nat} (h : n < 2 ^ k) (hk : 0 < k) : n.log2 < k := by
  by_cases h0 : n = 0
  · subst h0
    simpa using hk
  · exact (Nat.log2_lt h0).mpr h
theorem dm_ok {n d : Int} (h0 : 0 < d) (h : d.natAbs < 2 ^ 1000) : CDivP n d := by
  refine ⟨h0, ?_⟩
  have a := log2_lt h (by decide)
  unfold Builtin.divisionGoesByPylong
  have e : ¬ (d == 0) = true := by simp; omega
  have z : ¬ (d.natAbs.log2 / 30 + 1 > 300) := by omega
  simp only [e, Bool.false_eq_true, if_false]
  rw [decide_eq_false z]
  rfl
theorem ok_near (A : At K mg "nearest_units" sNear ["number", "divisor", "way"]) (T : Txt P w K mg base C aW aM aH eM nM eH nH) (D : DefOk P w K mg base CX0 "_goes_up" 1 ["way", "below", "past_half"] spGoes) : DefOk P w K mg base CX0 "nearest_units" 2 ["number", "divisor", "way"] spNear := by
  refine A.ok fun f fd F => F.ok scNear (fun vs H Q E h => ?_) (fun cdv A outer s H vs Q E hr h => ?_)
  · obtain ⟨n, d, z, rfl, _⟩ := h
    rfl
  · obtain ⟨n, d, z, rfl, h0, hb, hz, q⟩ := h
    have nd := scNear.nd
    refine ⟨_, pss_cons (ps_asg (pe_callB call_divmodW (by rfl) T.dm (by decide +kernel) (pa_cons (pv 0) (pa_cons (pv 1) pa_nil))) (pg_tup rfl (pgs_cons (pg_name (i := 3) nd rfl (.inl rfl)) (pgs_cons (pg_name (i := 4) nd rfl (.inl rfl)) pgs_nil))))
      (pss_cons (ps_if (PW.pt (pw_and (pt_cmpR op_ne (pv 4) pe_int (nomark _)) (pw_and1 (pt_val (pe_def D hr (by decide) (by rfl) pass0 (pa_cons (pv 2) (pa_cons (pv 3) (pa_cons (pe_op op_sub (pe_op op_mul pe_int (pv 4)) (pv 1)) pa_nil))))))))
        (pss_one (ps_ret (pe_op op_add (pv 3) pe_int))) pss_nil)
      (pss_one (ps_ret (pv 3)))), ?_⟩
    refine ⟨_, rfl, _, rfl, n, d, rfl, dm_ok h0 hb, fun p hp => ?_⟩
    have sm : Same H (upd H p (.tup [.int (n / d), .int (n % d)])) := same_new hp
    refine ⟨p, _, rfl, SqT.of upd_same, rfl, _, _, rfl, _, _, rfl, rfl, ?_⟩
    refine ⟨_, rfl, rfl, _, rfl, ite2 (fun e => ?_) (fun e => ?_)⟩
    · have hne : n % d ≠ 0 := by simpa using e
      refine ⟨_, rfl, _, rfl, _, rfl, _, _, rfl, rfl, .inl ⟨by decide, by decide⟩, _, rfl, _, _, rfl, rfl, z, _, _, rfl, hz, _, rfl, ite2 (fun e => ?_) (fun e => ?_)⟩
      · refine ⟨_, rfl, _, _, rfl, rfl, ?_⟩
        have r : near n d z = n / d + 1 := by
          unfold near
          rw [if_neg hne, if_pos e]
        have q' := q _ sm
        rw [r] at q'
        exact q'
      · refine ⟨_, rfl, ?_⟩
        have r : near n d z = n / d := by
          unfold near
          rw [if_neg hne, if_neg e]
        have q' := q _ sm
        rw [r] at q'
        exact q'
    · have he : n % d = 0 := by simpa using e
      refine iteF ⟨_, rfl, ?_⟩
      have r : near n d z = n / d := by
        unfold near
        rw [if_pos he]
      have q' := q _ sm
      rw [r] at q'
      exact q'
end
end K06

/-! k06: divided; the error's own __init__; the law's small defs. -/
namespace K06
open PySem PySem.Spec PyProof.Rows L2 Own
section
variable {P : Program} {w : World} {K : PySem.W.Frag} {mg : Str → Option Value} {base : Heap} {C aW aM aH : Addr} {eM eH : Array DictEntry} {nM nH : Nat}
abbrev sErrI : Stmt := inClass (topS 2) 0
theorem scErrI : FnScope ["self", "value"] ["self", "value"] (defScope sErrI) := ⟨rfl, rfl, rfl, by decide +kernel, rfl, by decide +kernel, by decide +kernel⟩
theorem ok_errI {f : Addr} {fd : FuncData} (F : Fun K "__init__" "BadValue.__init__" sErrI f fd) (T : OexC K C) (no : PySem.W.findIn K (.ref C) "value" = some none) : FnOk P w K mg base CX0 1 f fd ["self", "value"] (spErr C "value") := by
  refine F.ok scErrI (fun vs H Q E h => ?_) (fun cdv A outer s H vs Q E hr h => ?_)
  · obtain ⟨a, y, rfl, _⟩ := h
    rfl
  · obtain ⟨a, y, rfl, ha, q⟩ := h
    refine ⟨_, pss_one (ps_ost (pv 0) (pv 1)), ?_⟩
    exact ⟨_, rfl, _, rfl, a, C, rfl, T, no, .inl ⟨ha, fun dx n1 n2 => q dx n1 n2⟩⟩
theorem scDivd : FnScope ["number", "divisor", "way"] ["number", "divisor", "way"] (defScope sDivd) := ⟨rfl, rfl, rfl, by decide +kernel, rfl, by decide +kernel, by decide +kernel⟩
def goodDiv : V → Bool
  | .int d => decide (1 ≤ d)
  | _ => false
def spDivd (C : Addr) : Sp := fun vs H Q E => ∃ x y z : V, vs = [x, y, z] ∧ Thing H x ∧ Thing H y ∧ Thing H z ∧ (Own.isInt x = false → Bad C "value" x H E) ∧ (Own.isInt x = true → goodDiv y = false → Bad C "value" y H E) ∧
  (Own.isInt x = true → goodDiv y = true → isWay z = false → Bad C "value" z H E) ∧ ∀ (n d : Int) (t : Str), x = .int n → y = .int d → z = .str t → 0 < d → t ∈ waysL → d.natAbs < 2 ^ 1000 ∧ ∀ H', Same H H' → Q (.int (near n d t)) H'
theorem isInt_int {x : V} (h : Own.isInt x = true) : ∃ n, x = .int n := by
  cases x with
  | int n => exact ⟨n, rfl⟩
  | _ => simp [Own.isInt] at h
theorem ok_divd (A : At K mg "divided" sDivd ["number", "divisor", "way"]) (T : Txt P w K mg base C aW aM aH eM nM eH nH) (D1 : DefOk P w K mg base CX0 "is_an_integer" 1 ["value"] spIsInt) (D2 : DefOk P w K mg base (L2.CX P w) "need_integer" 3 ["value"] (spNInt C))
    (D3 : DefOk P w K mg base (L2.CX P w) "need_way" 3 ["value"] (spNWay C)) (D4 : DefOk P w K mg base CX0 "nearest_units" 2 ["number", "divisor", "way"] spNear) : DefOk P w K mg base (L2.CX P w) "divided" 4 ["number", "divisor", "way"] (spDivd C) := by
  refine A.ok fun f fd F => F.okX scDivd (fun vs H Q E h => ?_) (fun cdv A outer s H vs Q E hr h => ?_)
  · obtain ⟨x, y, z, rfl, _⟩ := h
    rfl
  · obtain ⟨x, y, z, rfl, tx, ty, tz, q1, q2, q3, q4⟩ := h
    refine ⟨_, pss_cons (ps_expr (pe_def (E := E) D2 hr (by decide) (by rfl) (passes_call (takes_of rfl rfl rfl rfl) fun _ _ _ _ z => z) (pa_cons (pv 0) pa_nil)))
      (pss_cons (ps_if (PW.pt (pw_or (pt_not (pt_val (pe_def D1 hr (by decide) (by rfl) pass0 (pa_cons (pv 1) pa_nil)))) (pw_or1 (pt_cmpR op_lt (pv 1) pe_int (nomark _)))))
        (pss_one (ps_raise rfl (takes_of rfl rfl rfl rfl) (pmk_err T.err hr (by decide) (by rfl) (pv 1)))) pss_nil)
      (pss_cons (ps_expr (pe_def (E := E) D3 hr (by decide) (by rfl) (passes_call (takes_of rfl rfl rfl rfl) fun _ _ _ _ z => z) (pa_cons (pv 2) pa_nil)))
      (pss_one (ps_ret (pe_def D4 hr (by decide) (by rfl) pass0 (pa_cons (pv 0) (pa_cons (pv 1) (pa_cons (pv 2) pa_nil)))))))), ?_⟩
    refine ⟨_, rfl, x, rfl, tx, fun hx => ?_, q1⟩
    obtain ⟨n, rfl⟩ := isInt_int hx
    refine ⟨_, rfl, y, rfl, ty, _, rfl, ite2 (fun e => iteT ?_) (fun e => ?_)⟩
    · have hy : Own.isInt y = false := by simpa using e
      have hg : goodDiv y = false := by cases y <;> first | rfl | (simp [Own.isInt] at hy)
      exact ⟨_, rfl, bad_mk (q2 rfl hg)⟩
    · have hy : Own.isInt y = true := by simpa using e
      obtain ⟨d, rfl⟩ := isInt_int hy
      refine ⟨_, rfl, _, _, rfl, rfl, _, rfl, ite2 (fun e => ?_) (fun e => ?_)⟩
      · have hd : ¬ 1 ≤ d := by
          have := of_decide_eq_true e
          omega
        exact ⟨_, rfl, bad_mk (q2 rfl (decide_eq_false hd))⟩
      · have hd : 1 ≤ d := by
          have := of_decide_eq_false (by simpa using e : decide (d < 1) = false)
          omega
        refine ⟨_, rfl, z, rfl, tz, fun hz => ?_, q3 rfl (decide_eq_true hd)⟩
        obtain ⟨t, ht, rfl⟩ := isWay_str hz
        obtain ⟨b1, q⟩ := q4 n d t rfl rfl rfl (by omega) ht
        exact ⟨_, rfl, _, rfl, _, rfl, n, d, t, rfl, by omega, b1, ht, q⟩
end
end K06

/-! own layer: a text times a number; powers of ten as texts. k06: begin, pick, ten. -/
namespace Own
open PySem PySem.Spec PyProof.Rows L2
theorem op_mulS {X : Cx} : OpR X (binaryOp .Mult) (fun x y H Q => ∃ (z : Str) (n : Int), x = .str z ∧ y = .int n ∧ MulOk z n ∧ Q (.str (Txt.mul z n)) H) := by
  intro pins s σ H x y v u Q I rx ry h
  obtain ⟨z, n, rfl, rfl, ok, q⟩ := h
  obtain ⟨t, rfl⟩ := rx
  obtain ⟨t', rfl⟩ := ry
  exact SB.mul ok fun t2 k => ⟨.str _, H, I.tok _, ⟨_, rfl⟩, q⟩
theorem zeros_fold : ∀ (n : Nat) (acc : Array Nat), ((List.replicate n #[48]).foldl (· ++ ·) acc).toList = acc.toList ++ List.replicate n 48
  | 0, acc => by simp
  | n + 1, acc => by
    rw [List.replicate_succ, List.foldl_cons, zeros_fold n, Array.toList_append, List.replicate_succ, List.append_assoc]
    rfl
theorem zero_cps : ("0" : Str).cps = #[48] := by decide +kernel
theorem one_cps : ("1" : Str).cps = #[49] := by decide +kernel
theorem zeros (n : Nat) : (Txt.mul "0" (n : Int)).cps.toList = List.replicate n 48 := by
  unfold Txt.mul
  by_cases h0 : n = 0
  · subst h0
    rw [if_pos (by omega)]
    rfl
  · rw [if_neg (by omega)]
    by_cases h1 : n = 1
    · subst h1
      rw [if_pos (by simp), zero_cps]
      rfl
    · have e : ¬ (((n : Int) == 1 || ("0" : Str).length == 0) = true) := by
        have l : ("0" : Str).length = 1 := by decide +kernel
        rw [l]
        simp
        omega
      rw [if_neg e]
      show ((List.replicate (n : Int).toNat ("0" : Str).cps).foldl (· ++ ·) #[]).toList = _
      rw [zero_cps, Int.toNat_natCast, zeros_fold]
      rfl
/-- '1' + '0' * n -/
def tenS (n : Nat) : Str := ("1" : Str) ++ Txt.mul "0" (n : Int)
theorem tenS_list (n : Nat) : (tenS n).cps.toList = 49 :: List.replicate n 48 := by
  have e : (tenS n).cps = ("1" : Str).cps ++ (Txt.mul "0" (n : Int)).cps := rfl
  rw [e, Array.toList_append, zeros, one_cps]
  rfl
theorem tens_val : ∀ (n a : Nat), (List.replicate n 48).foldl (fun acc c => acc * 10 + (c - 48)) a = a * 10 ^ n
  | 0, a => by simp
  | n + 1, a => by
    rw [List.replicate_succ, List.foldl_cons, tens_val n]
    show (a * 10 + 0) * 10 ^ n = a * 10 ^ (n + 1)
    rw [Nat.add_zero, Nat.pow_succ, Nat.mul_assoc, Nat.mul_comm 10]
theorem str_len (x : Str) : x.length = x.cps.toList.length := by
  cases x
  rfl
theorem tenS_len (n : Nat) : (tenS n).length = n + 1 := by
  rw [str_len, tenS_list, List.length_cons, List.length_replicate]
theorem ten_text {n : Nat} (h : n ≤ 600) : PySem.intText? (tenS n) = some ((10 : Int) ^ n) := by
  have e := PySem.intText_digits (x := tenS n) (fun c hc => by
      rw [tenS_list] at hc
      rcases List.mem_cons.mp hc with rfl | hc
      · exact ⟨by decide, by decide⟩
      · have := (List.mem_replicate.mp hc).2
        omega) (by rw [tenS_list]; simp) (by rw [tenS_len]; omega)
  rw [e]
  have z : NumText.digitsVal (tenS n).cps.toList = 10 ^ n := by
    rw [tenS_list]
    unfold NumText.digitsVal
    rw [List.foldl_cons, tens_val]
    simp
  rw [z]
  simp
theorem mulOk0 {n : Nat} (h : n ≤ 600) : MulOk "0" (n : Int) := by
  have l : ("0" : Str).length = 1 := by decide +kernel
  refine ⟨?_, fun h1 h2 => ?_, fun h1 h2 => ?_⟩
  · rw [Bool.or_eq_false_iff]
    exact ⟨decide_eq_false (by omega), decide_eq_false (by omega)⟩
  · rw [l]
    have z := Int.le_ediv_of_mul_le (c := (n : Int)) (a := 1) (b := 2 ^ 63 - 1) (by omega) (by omega)
    omega
  · rw [l, Nat.one_mul, Int.toNat_natCast]
    exact decide_eq_false (by have := sizeLine_eq; omega)
end Own
namespace K06
open PySem PySem.Spec PyProof.Rows L2 Own
section
variable {P : Program} {w : World} {K : PySem.W.Frag} {mg : Str → Option Value} {base : Heap} {C aW aM aH : Addr} {eM eH : Array DictEntry} {nM nH : Nat}
theorem ok_draw' (A : At K mg "_law_draw" sDraw ["_law_pen", "_law_span"]) (T : Txt P w K mg base C aW aM aH eM nM eH nH) : DefOk P w K mg base CX0 "_law_draw" 1 ["_law_pen", "_law_span"] spDraw := A.ok fun f fd F => ok_draw F T.int T.len
def spBegin (K : PySem.W.Frag) : Sp := fun vs H Q _ => ∃ (a : Addr) (ns : List Int), vs = [.ref a] ∧ SqL K H a (ns.map V.int) ∧ ns.length ≤ 63 ∧ ∀ (d : Addr) (H' : Hp), H d = none → Same H H' → Pen H' d 0 → Q (.ref d) H'
theorem take63 (xs : List V) (h : xs.length ≤ 63) : cutV xs none (some 63) = xs := by
  unfold cutV
  rw [HT.sIx_none, show HT.sIx xs.length xs.length (some 63) = min 63 xs.length from HT.sIx_nat xs.length xs.length 63, List.drop_zero, Nat.min_eq_right h, Nat.sub_zero, List.take_length]
theorem ok_begin (A : At K mg "_law_begin" sBegin ["_law_script"]) (T : Txt P w K mg base C aW aM aH eM nM eH nH) : DefOk P w K mg base CX0 "_law_begin" 1 ["_law_script"] (spBegin K) := by
  refine A.ok fun f fd F => F.ok scBegin (fun vs H Q E h => ?_) (fun cdv A outer s H vs Q E hr h => ?_)
  · obtain ⟨a, ns, rfl, _⟩ := h
    rfl
  · obtain ⟨a, ns, rfl, hS, hl, q⟩ := h
    refine ⟨_, pss_one (ps_ret (pe_disp (pps_cons pe_str (pe_callTy call_list_of (by rfl) T.list (by decide +kernel) (pa_cons (pe_slice sl_list (pv 0) po_none (po_some pe_int)) pa_nil))
      (pps_cons pe_str pe_int (pps_cons pe_str pe_int pps_nil))) (by rfl) (by rfl) (fun z => by cases z) (by decide))), ?_⟩
    intro d hd
    have s0 : Same H (upd H d (.dK [])) := same_new hd
    refine ⟨_, rfl, 63, rfl, a, _, rfl, s0.seq hS, fun c hc => ?_⟩
    rw [take63 _ (by rw [List.length_map]; exact hl)]
    have s1 : Same H (upd (upd H d (.dK [])) c (.lst (ns.map V.int))) := s0.trans (same_new hc)
    refine ⟨c, _, rfl, .inl (SqL.of upd_same), fun p hp => ?_⟩
    have s2 : Same (upd (upd H d (.dK [])) c (.lst (ns.map V.int))) (upd (upd (upd H d (.dK [])) c (.lst (ns.map V.int))) p (.lst (ns.map V.int))) := same_new hp
    have hdd : upd (upd (upd H d (.dK [])) c (.lst (ns.map V.int))) p (.lst (ns.map V.int)) d = some (.dK []) := s2 _ _ (same_new hc _ _ upd_same)
    have npd : p ≠ d := fun z => by
      rw [z] at hp
      have := same_new (o := .lst (ns.map V.int)) hc _ _ (upd_same (H := H) (a := d) (o := .dK []))
      rw [hp] at this
      cases this
    refine ⟨hdd, [(Sum.inr "cells", .ref p), (Sum.inr "count", .int 0), (Sum.inr "left", .int 0)], rfl, by show 3 ≤ 15; decide, ?_⟩
    have em : mergeK [] [(Sum.inr "cells", V.ref p), (Sum.inr "count", V.int 0), (Sum.inr "left", V.int 0)] = penK p 0 0 := by
      unfold mergeK
      rw [List.foldl_cons, putK_new _ valV_nil, List.foldl_cons, putK_new _ (by
        rw [List.nil_append, valV_neg (fun e => ne_txt.1 (Sum.inr.inj e)), valV_nil]), List.foldl_cons, putK_new _ (by
        show valV [_, _] _ = none
        rw [valV_neg (fun e => ne_txt.2.1 (Sum.inr.inj e)), valV_neg (fun e => ne_txt.2.2.1 (Sum.inr.inj e)), valV_nil])]
      rfl
    rw [em]
    refine q d _ hd (fun b o e => ?_) ⟨p, ns, 0, 0, upd_same, ?_, hl, by omega, by omega⟩
    · rw [upd_ne (ne_of_none e hd)]
      exact s2 _ _ (s1 _ _ e)
    · rw [upd_ne npd]
      exact upd_same
theorem scPick : FnScope ["_law_pen", "_law_some"] ["_law_pen", "_law_some"] (defScope sPick) := ⟨rfl, rfl, rfl, by decide +kernel, rfl, by decide +kernel, by decide +kernel⟩
def spPick : Sp := fun vs H Q _ => ∃ (d a : Addr) (xs : List V) (B : Int), vs = [.ref d, .ref a] ∧ H a = some (.lst xs) ∧ xs ≠ [] ∧ xs.length ≤ 1000 ∧ Pen H d B ∧ B ≤ 1000000000 ∧ ∀ (x : V) (H' : Hp), x ∈ xs → Keep d H H' → Pen H' d (B + 1) → Q x H'
theorem ok_pick (A : At K mg "_law_pick" sPick ["_law_pen", "_law_some"]) (T : Txt P w K mg base C aW aM aH eM nM eH nH) (D : DefOk P w K mg base CX0 "_law_draw" 1 ["_law_pen", "_law_span"] spDraw) : DefOk P w K mg base CX0 "_law_pick" 2 ["_law_pen", "_law_some"] spPick := by
  refine A.ok fun f fd F => F.ok scPick (fun vs H Q E h => ?_) (fun cdv A outer s H vs Q E hr h => ?_)
  · obtain ⟨d, a, xs, B, rfl, _⟩ := h
    rfl
  · obtain ⟨d, a, xs, B, rfl, ha, hne, hl, hp, hB, q⟩ := h
    refine ⟨_, pss_one (ps_ret (pe_ix ix_list (pv 1) (pe_def D hr (by decide) (by rfl) pass0 (pa_cons (pv 0) (pa_cons (pe_callB call_len_seq (by rfl) T.len PySem.boot_len (pa_cons (pv 1) pa_nil)) pa_nil))) (fun _ _ => rfl))), ?_⟩
    have h0 : 0 < xs.length := List.length_pos_iff.mpr hne
    refine ⟨_, rfl, _, rfl, _, rfl, a, xs, rfl, .inl (SqL.of ha), d, (xs.length : Int), B, rfl, hp, hB, by omega, by omega, fun v H' h1 h2 kp hp' => ?_⟩
    have nad : a ≠ d := by
      obtain ⟨p, ns, c, l, e, _⟩ := hp.ex
      exact ne_of ha e (by intro z; cases z)
    obtain ⟨j, rfl⟩ : ∃ j : Nat, v = (j : Int) := ⟨v.toNat, (Int.toNat_of_nonneg h1).symm⟩
    have hj : j < xs.length := by omega
    exact ⟨a, xs, _, xs[j], rfl, rfl, SqL.of (kp _ _ nad ha), atI_nat (List.getElem?_eq_getElem hj), q _ _ (List.getElem_mem hj) kp hp'⟩
theorem scTen : FnScope ["_law_number_here"] ["_law_number_here"] (defScope sTen) := ⟨rfl, rfl, rfl, by decide +kernel, rfl, by decide +kernel, by decide +kernel⟩
def spTen : Sp := fun vs H Q _ => ∃ n : Nat, vs = [.int n] ∧ n ≤ 600 ∧ Q (.int ((10 : Int) ^ n)) H
theorem ok_ten (A : At K mg "_law_ten" sTen ["_law_number_here"]) (T : Txt P w K mg base C aW aM aH eM nM eH nH) : DefOk P w K mg base CX0 "_law_ten" 1 ["_law_number_here"] spTen := by
  refine A.ok fun f fd F => F.ok scTen (fun vs H Q E h => ?_) (fun cdv A outer s H vs Q E hr h => ?_)
  · obtain ⟨n, rfl, _⟩ := h
    rfl
  · obtain ⟨n, rfl, hn, q⟩ := h
    refine ⟨_, pss_one (ps_ret (pe_callTy call_int_str (by rfl) T.int (by decide +kernel) (pa_cons (pe_op op_add_str pe_str (pe_op op_mulS pe_str (pv 0))) pa_nil))), ?_⟩
    have hl : ("1" : Str).length + (Txt.mul "0" (n : Int)).length ≤ sizeLine := by
      have a : ("1" : Str).length = 1 := by decide +kernel
      have b : (Txt.mul "0" (n : Int)).length = n := by rw [str_len, zeros, List.length_replicate]
      have c := sizeLine_eq
      omega
    exact ⟨_, rfl, _, _, rfl, rfl, mulOk0 hn, _, _, rfl, rfl, hl, tenS n, _, rfl, ten_text hn, by rw [tenS_len]; omega, q⟩
end
end K06

/-! k06: figures. -/
namespace Own
theorem ten_pos (n : Nat) : (0 : Int) < (10 : Int) ^ n := Int.pow_pos (by decide)
theorem ten_mono {m n : Nat} (h : m ≤ n) : (10 : Int) ^ m ≤ (10 : Int) ^ n := by
  obtain ⟨k, rfl⟩ := Nat.le.dest h
  rw [Int.pow_add]
  have a := ten_pos m
  have b : (1 : Int) ≤ (10 : Int) ^ k := ten_pos k
  have := Int.mul_le_mul_of_nonneg_left b (Int.le_of_lt a)
  omega
theorem ten_nat (n : Nat) : ((10 : Int) ^ n).natAbs = 10 ^ n := by
  rw [Int.natAbs_pow]
  rfl
theorem ten_lt (n : Nat) : ((10 : Int) ^ n).natAbs < 2 ^ (4 * n + 1) := by
  rw [ten_nat, Nat.pow_succ, Nat.pow_mul]
  have a : 10 ^ n ≤ (2 ^ 4) ^ n := Nat.pow_le_pow_left (by decide) n
  have b : 0 < (2 ^ 4) ^ n := Nat.pow_pos (by decide)
  omega
theorem lt_two {i j : Int} {k : Nat} (h0 : 0 ≤ i) (h1 : i ≤ j) (h : j.natAbs < 2 ^ k) : i.natAbs < 2 ^ k := Nat.lt_of_le_of_lt (by omega) h
end Own
namespace K06
open PySem PySem.Spec PyProof.Rows L2 Own
section
variable {P : Program} {w : World} {K : PySem.W.Frag} {mg : Str → Option Value} {base : Heap} {C aW aM aH : Addr} {eM eH : Array DictEntry} {nM nH : Nat}
theorem scFigs : FnScope ["_law_pen", "_law_most", "_law_many", "_law_manner", "_law_number_here", "_law_k", "_law_tail", "_law_head"] ["_law_pen", "_law_most"] (defScope sFigs) := ⟨rfl, rfl, rfl, by decide +kernel, rfl, by decide +kernel, by decide +kernel⟩
def spFigs : Sp := fun vs H Q _ => ∃ (d : Addr) (M : Nat) (B : Int), vs = [.ref d, .int M] ∧ 1 ≤ M ∧ M ≤ 600 ∧ Pen H d B ∧ B ≤ 900000000 ∧ ∀ (v : Int) (H' : Hp), 0 ≤ v → v ≤ 3 * (10 : Int) ^ M → Keep d H H' → Pen H' d (B + 200) → Q (.int v) H'
theorem ok_figs (A : At K mg "_law_figures" sFigs ["_law_pen", "_law_most"]) (T : Txt P w K mg base C aW aM aH eM nM eH nH) (D : DefOk P w K mg base CX0 "_law_draw" 1 ["_law_pen", "_law_span"] spDraw) (D2 : DefOk P w K mg base CX0 "_law_ten" 1 ["_law_number_here"] spTen) :
    DefOk P w K mg base CX0 "_law_figures" 2 ["_law_pen", "_law_most"] spFigs := by
  refine A.ok fun f fd F => F.ok scFigs (fun vs H Q E h => ?_) (fun cdv A outer s H vs Q E hr h => ?_)
  · obtain ⟨d, M, B, rfl, _⟩ := h
    rfl
  · obtain ⟨d, M, B, rfl, hM1, hM2, hp, hB, q⟩ := h
    have nd := scFigs.nd
    refine ⟨_, pss_cons (ps_par (i := 2) (j := 3) (by rfl) nd rfl rfl (by decide) rfl rfl (pa_cons (pe_op op_add pe_int (pe_def D hr (by decide) (by rfl) pass0 (pa_cons (pv 0) (pa_cons (pv 1) pa_nil)))) (pa_cons (pe_def D hr (by decide) (by rfl) pass0 (pa_cons (pv 0) (pa_cons pe_int pa_nil))) pa_nil)) (by rfl))
      (pss_cons (ps_if (pt_cmpR op_eq (pv 3) pe_int (nomark _)) (pss_one (ps_ret (pe_def D hr (by decide) (by rfl) pass0 (pa_cons (pv 0) (pa_cons pe_int pa_nil))))) pss_nil)
      (pss_cons (ps_if (pt_cmpR op_eq (pv 3) pe_int (nomark _)) (pss_one (ps_ret (pe_op op_sub (pe_def D2 hr (by decide) (by rfl) pass0 (pa_cons (pv 2) pa_nil)) pe_int))) pss_nil)
      (pss_cons (ps_if (pt_cmpR op_eq (pv 3) pe_int (nomark _)) (pss_one (ps_ret (pe_def D2 hr (by decide) (by rfl) pass0 (pa_cons (pe_op op_sub (pv 2) pe_int) pa_nil)))) pss_nil)
      (pss_cons (ps_set (i := 4) nd rfl (.inl rfl) pe_int)
      (pss_cons (ps_for PassesOwn.never rfl (pi_range1 (by rfl) T.range (pa_cons (pe_op op_add (pe_op op_fdiv (pv 2) pe_int) pe_int) pa_nil)) (pg_name (i := 5) nd rfl (.inl rfl))
        (pss_one (ps_set (i := 4) nd rfl (.inl rfl) (pe_op op_add (pe_op op_mul (pe_op op_pow pe_int pe_int) (pv 4)) (pe_def D hr (by decide) (by rfl) pass0 (pa_cons (pv 0) (pa_cons (pe_op op_pow pe_int pe_int) pa_nil)))))))
      (pss_cons (ps_set (i := 4) nd rfl (.inl rfl) (pe_op op_mod (pe_callTy call_int1 (by rfl) T.int (by decide +kernel) (pa_cons (pv 4) pa_nil)) (pe_def D2 hr (by decide) (by rfl) pass0 (pa_cons (pv 2) pa_nil))))
      (pss_cons (ps_set (i := 6) nd rfl (.inl rfl) (pe_op op_add pe_int (pe_def D hr (by decide) (by rfl) pass0 (pa_cons (pv 0) (pa_cons (pv 2) pa_nil)))))
      (pss_cons (ps_set (i := 7) nd rfl (.inl rfl) (pe_op op_mulW (pe_op op_fdivW (pv 4) (pe_def D2 hr (by decide) (by rfl) pass0 (pa_cons (pv 6) pa_nil))) (pe_def D2 hr (by decide) (by rfl) pass0 (pa_cons (pv 6) pa_nil))))
      (pss_cons (ps_if (pt_cmpR op_eq (pv 3) pe_int (nomark _)) (pss_one (ps_ret (pv 7))) pss_nil)
      (pss_cons (ps_if (pt_cmpR op_eq (pv 3) pe_int (nomark _)) (pss_one (ps_ret (pe_op op_sub (pe_op op_add (pe_op op_add (pv 7) (pe_op op_mul pe_int (pe_def D2 hr (by decide) (by rfl) pass0 (pa_cons (pe_op op_sub (pv 6) pe_int) pa_nil))))
          (pe_def D hr (by decide) (by rfl) pass0 (pa_cons (pv 0) (pa_cons pe_int pa_nil)))) pe_int))) pss_nil)
      (pss_one (ps_ret (pv 4))))))))))))), ?_⟩
    -- many, manner
    refine ⟨_, rfl, _, rfl, d, (M : Int), B, rfl, hp, by omega, by omega, by omega, fun m0 H1 a1 a2 k1 p1 => ?_⟩
    obtain ⟨m1, rfl⟩ : ∃ m1 : Nat, m0 = (m1 : Int) := ⟨m0.toNat, (Int.toNat_of_nonneg a1).symm⟩
    refine ⟨_, _, rfl, rfl, _, rfl, d, 7, B + 1, rfl, p1, by omega, by decide, by decide, fun manner H2 b1 b2 k2 p2 => ?_⟩
    have eM : (1 : Int) + (m1 : Int) = ((m1 + 1 : Nat) : Int) := by omega
    refine ⟨_, _, rfl, ?_⟩
    dsimp only
    rw [eM]
    generalize hm : m1 + 1 = m
    have hm1 : 1 ≤ m := by omega
    have hmM : m ≤ M := by omega
    have tm : (10 : Int) ^ m ≤ (10 : Int) ^ M := ten_mono hmM
    have t0 := ten_pos m
    have t1 : (10 : Int) ≤ (10 : Int) ^ M := by
      have := ten_mono hM1
      simpa using this
    have kk := k1.trans k2
    refine ⟨_, rfl, rfl, _, rfl, ite2 (fun e => ?_) (fun e => ?_)⟩
    · refine ⟨_, rfl, d, 10, B + 1 + 1, rfl, p2, by omega, by decide, by decide, fun v H3 c1 c2 k3 p3 => ?_⟩
      exact q v H3 c1 (by omega) (kk.trans k3) (p3.mono (by omega))
    refine ⟨_, rfl, rfl, _, rfl, ite2 (fun e => ?_) (fun e => ?_)⟩
    · refine ⟨_, rfl, m, rfl, by omega, _, _, rfl, rfl, ?_⟩
      exact q _ H2 (by omega) (by omega) kk (p2.mono (by omega))
    refine ⟨_, rfl, rfl, _, rfl, ite2 (fun e => ?_) (fun e => ?_)⟩
    · refine ⟨_, rfl, _, _, rfl, rfl, m - 1, by simp; omega, by omega, ?_⟩
      have := ten_pos (m - 1)
      have z : (10 : Int) ^ (m - 1) ≤ (10 : Int) ^ M := ten_mono (by omega)
      exact q _ H2 (by omega) (by omega) kk (p2.mono (by omega))
    -- the loop
    have hn : ((m : Int) / 6 + 1).toNat ≤ 101 := by omega
    refine ⟨_, rfl, _, _, rfl, rfl, ⟨by decide, by decide⟩, _, _, rfl, rfl, _, rfl, by omega, by omega, for_range (lo := 0) (n := ((m : Int) / 6 + 1).toNat)
      (fun i σ H' => ∃ (v : Int) (y : Option V), σ = [some (.ref d), some (.int M), some (.int m), some (.int manner), some (.int v), y, none, none] ∧ Keep d H H' ∧ Pen H' d (B + 2 + i)) ⟨0, none, rfl, kk, p2.mono (by omega)⟩ ?_ ?_⟩
    · rintro i σ H3 hi ⟨v, y, rfl, k3, p3⟩
      refine ⟨_, _, rfl, rfl, ⟨by decide, by decide, by decide⟩, _, rfl, _, v, rfl, rfl, .inl ⟨by decide, by decide⟩, _, rfl, _, _, rfl, rfl, ⟨by decide, by decide, by decide⟩, d, _, B + 2 + i, rfl, p3, by omega, by decide, by decide, fun x H4 c1 c2 k4 p4 => ?_⟩
      exact ⟨_, _, rfl, rfl, _, _, rfl, k3.trans k4, p4.mono (by omega)⟩
    · rintro σ H3 ⟨v, y, rfl, k3, p3⟩
      have p3 : Pen H3 d (B + 110) := p3.mono (by omega)
      refine ⟨_, rfl, .inl ⟨v, rfl, _, rfl, m, rfl, by omega, _, _, rfl, rfl, t0, ?_⟩⟩
      have n0 := Int.emod_nonneg v (show (10 : Int) ^ m ≠ 0 by omega)
      have n1 := Int.emod_lt_of_pos v t0
      dsimp only [gName, List.set]
      generalize v % (10 : Int) ^ m = n at n0 n1
      refine ⟨_, rfl, _, rfl, d, (m : Int), _, rfl, p3, by omega, by omega, by omega, fun u H4 c1 c2 k4 p4 => ?_⟩
      obtain ⟨u1, rfl⟩ : ∃ u1 : Nat, u = (u1 : Int) := ⟨u.toNat, (Int.toNat_of_nonneg c1).symm⟩
      have eT : (1 : Int) + (u1 : Int) = ((u1 + 1 : Nat) : Int) := by omega
      refine ⟨_, _, rfl, rfl, ?_⟩
      dsimp only [gName, List.set]
      rw [eT]
      generalize ht : u1 + 1 = t
      have ht1 : 1 ≤ t := by omega
      have htm : t ≤ m := by omega
      have tt := ten_pos t
      have tb := ten_lt t
      have hd0 : 0 ≤ n / (10 : Int) ^ t := Int.ediv_nonneg n0 (Int.le_of_lt tt)
      have hd1 : n / (10 : Int) ^ t * (10 : Int) ^ t ≤ n := by
        have := Int.emod_nonneg n (show (10 : Int) ^ t ≠ 0 by omega)
        have z := Int.emod_add_mul_ediv n ((10 : Int) ^ t)
        rw [Int.mul_comm] at z
        omega
      have hdn : n / (10 : Int) ^ t ≤ n := Int.ediv_le_self _ n0
      have hd2 : 0 ≤ n / (10 : Int) ^ t * (10 : Int) ^ t := Int.mul_nonneg hd0 (Int.le_of_lt tt)
      have nb : n.natAbs < 2 ^ (4 * m + 1) := lt_two n0 (Int.le_of_lt n1) (ten_lt m)
      have db : (n / (10 : Int) ^ t).natAbs < 2 ^ (4 * m + 1) := lt_two hd0 hdn nb
      refine ⟨_, rfl, _, rfl, t, rfl, by omega, n, _, rfl, rfl, wide_div tt tb (by omega) (by omega), _, rfl, t, rfl, by omega, _, _, rfl, rfl, wide_mul db tb (by omega) (by omega) (by omega), ?_⟩
      dsimp only [gName, List.set]
      generalize n / (10 : Int) ^ t * (10 : Int) ^ t = hd at hd1 hd2
      have kf := k3.trans k4
      refine ⟨_, rfl, rfl, _, rfl, ite2 (fun e => ?_) (fun e => ?_)⟩
      · exact ⟨_, rfl, q _ _ hd2 (by omega) kf (p4.mono (by omega))⟩
      refine ⟨_, rfl, rfl, _, rfl, ite2 (fun e => ?_) (fun e => ?_)⟩
      · have tu := ten_pos (t - 1)
        have tv : (10 : Int) ^ (t - 1) * 10 = (10 : Int) ^ t := by
          rw [← Int.pow_succ]
          congr 1
          omega
        have tw : (10 : Int) ^ t ≤ (10 : Int) ^ M := ten_mono (by omega)
        refine ⟨_, rfl, _, rfl, _, _, rfl, rfl, t - 1, by simp; omega, by omega, _, _, rfl, rfl, .inl ⟨by decide, by decide⟩, _, _, rfl, rfl, _, rfl, d, 3, _, rfl, p4, by omega, by decide, by decide, fun x H5 e1 e2 k5 p5 => ?_⟩
        refine ⟨_, _, rfl, rfl, _, _, rfl, rfl, ?_⟩
        exact q _ _ (by omega) (by omega) (kf.trans k5) (p5.mono (by omega))
      · exact ⟨_, rfl, q _ _ n0 (by omega) kf (p4.mono (by omega))⟩
end
end K06

/-! own layer: dicts displayed with text keys; odd values. k06: ways, rounds. -/
namespace Own
open PySem PySem.Spec PyProof.Rows L2
theorem merge_app : ∀ (kvs acc : List (Key × V)), ((acc ++ kvs).map (·.1)).Nodup → mergeK acc kvs = acc ++ kvs
  | [], acc, _ => by simp [mergeK]
  | p :: r, acc, h => by
    have hn : valV acc p.1 = none := by
      cases e : valV acc p.1 with
      | none => rfl
      | some v =>
        have m := valV_in e
        rw [List.map_append, List.nodup_append] at h
        exact absurd rfl (h.2.2 p.1 m p.1 (by simp))
    have z := merge_app r (acc ++ [p]) (by
      rw [List.append_assoc]
      exact h)
    show mergeK (putK acc p.1 p.2) r = acc ++ p :: r
    rw [putK_new _ hn, z, List.append_assoc]
    rfl
theorem merge_new {kvs : List (Key × V)} (h : (kvs.map (·.1)).Nodup) : mergeK [] kvs = kvs := merge_app kvs [] h
/-- a dict of texts -/
def txK (l : List (Str × V)) : List (Key × V) := l.map fun p => (Sum.inr p.1, p.2)
theorem txK_val : ∀ (l : List (Str × V)) (z : Str), valV (txK l) (Sum.inr z : Key) = l.lookup z
  | [], z => rfl
  | p :: r, z => by
    obtain ⟨a, v⟩ := p
    by_cases h : a = z
    · subst h
      rw [show txK ((a, v) :: r) = (Sum.inr a, v) :: txK r from rfl, valV_pos rfl]
      simp [List.lookup]
    · rw [show txK ((a, v) :: r) = (Sum.inr a, v) :: txK r from rfl, valV_neg (fun e => h (Sum.inr.inj e)), txK_val r z]
      have hb : (z == a) = false := by simpa using fun e : z = a => h e.symm
      simp [List.lookup, hb]
theorem DGet.tx {H : Hp} {a : Addr} {l : List (Str × V)} (z : Str) (e : H a = some (.dK (txK l))) : DGet H a (.str z) (l.lookup z) := by
  have q := DGet.k (k := (Sum.inr z : Key)) e
  rw [txK_val] at q
  exact q
end Own
namespace K06
open PySem PySem.Spec PyProof.Rows L2 Own
/-! ### the mathematics of rounding -/
def plainL (q nr fr : Int) : List (Str × V) := [("floor", .int q), ("ceiling", .int (q + 1)), ("cut", .int nr), ("away", .int fr)]
def halfL (q nr fr : Int) : List (Str × V) := [("halfup", .int (q + 1)), ("halfdown", .int q), ("halfeven", .int (q + q % 2)), ("halfaway", .int fr), ("halfcut", .int nr)]
theorem way_cases {z : Str} (h : z ∈ waysL) : z = "floor" ∨ z = "ceiling" ∨ z = "cut" ∨ z = "away" ∨ z = "halfup" ∨ z = "halfdown" ∨ z = "halfeven" ∨ z = "halfaway" ∨ z = "halfcut" := by
  simpa [waysL] using h
def baseK (z : Str) : Nat := if z = "even" then 0 else if z = "cut" then 1 else if z = "away" then 2 else if z = "ceiling" then 3 else 4
def kUp : Nat → Int → Bool
  | 0, b => decide (b % 2 = 1)
  | 1, b => decide (b < 0)
  | 2, b => decide (0 ≤ b)
  | 3, _ => true
  | _, _ => false
theorem base_k (z : Str) (b : Int) : baseUp z b = kUp (baseK z) b := by
  unfold baseUp baseK
  by_cases h1 : z = "even"
  · rw [if_pos h1, if_pos h1]
    rfl
  rw [if_neg h1, if_neg h1]
  by_cases h2 : z = "cut"
  · rw [if_pos h2, if_pos h2]
    rfl
  rw [if_neg h2, if_neg h2]
  by_cases h3 : z = "away"
  · rw [if_pos h3, if_pos h3]
    rfl
  rw [if_neg h3, if_neg h3]
  by_cases h4 : z = "ceiling"
  · rw [if_pos h4, decide_eq_true h4]
    rfl
  · rw [if_neg h4, decide_eq_false h4]
    rfl
theorem goes_none {z : Str} {k : Nat} (h : halvL.lookup z = none) (hk : baseK z = k) (b p : Int) : goesUp z b p = kUp k b := by
  unfold goesUp
  rw [h, ← hk]
  exact base_k z b
theorem goes_some {z y : Str} {k : Nat} (h : halvL.lookup z = some y) (hk : baseK y = k) (b p : Int) : goesUp z b p = if p = 0 then kUp k b else decide (0 < p) := by
  unfold goesUp
  rw [h, ← hk, ← base_k]
theorem rnd_ok {n d : Int} (h0 : 0 < d) (hr : n % d ≠ 0) {z : Str} (hz : z ∈ waysL) : (∀ v, (plainL (n / d) (if n > 0 then n / d else n / d + 1) (n / d + n / d + 1 - (if n > 0 then n / d else n / d + 1))).lookup z = some v → v = .int (near n d z)) ∧
    ((plainL (n / d) (if n > 0 then n / d else n / d + 1) (n / d + n / d + 1 - (if n > 0 then n / d else n / d + 1))).lookup z = none → (2 * (n % d) ≠ d → near n d z = n / d + (if decide (d < 2 * (n % d)) = true then 1 else 0)) ∧
      (2 * (n % d) = d → (halfL (n / d) (if n > 0 then n / d else n / d + 1) (n / d + n / d + 1 - (if n > 0 then n / d else n / d + 1))).lookup z = some (.int (near n d z)))) := by
  have sgn : (0 < n ∧ 0 ≤ n / d) ∨ (n < 0 ∧ n / d < 0) := by
    rcases Int.lt_trichotomy n 0 with h | h | h
    · exact .inr ⟨h, Int.ediv_neg_of_neg_of_pos h h0⟩
    · subst h
      simp at hr
    · exact .inl ⟨h, Int.ediv_nonneg (Int.le_of_lt h) (Int.le_of_lt h0)⟩
  have r0 := Int.emod_nonneg n (show d ≠ 0 by omega)
  have r1 := Int.emod_lt_of_pos n h0
  unfold near
  rw [if_neg hr]
  generalize n / d = q at sgn
  generalize n % d = r at hr r0 r1
  rcases way_cases hz with rfl | rfl | rfl | rfl | rfl | rfl | rfl | rfl | rfl
  · rw [goes_none (k := 4) (by decide +kernel) (by decide +kernel)]
    refine ⟨fun v e => ?_, fun e => ?_⟩
    · have e' := Option.some.inj e
      rw [← e']
      rfl
    · cases (show some _ = none from e)
  · rw [goes_none (k := 3) (by decide +kernel) (by decide +kernel)]
    refine ⟨fun v e => ?_, fun e => ?_⟩
    · have e' := Option.some.inj e
      rw [← e']
      rfl
    · cases (show some _ = none from e)
  · rw [goes_none (k := 1) (by decide +kernel) (by decide +kernel)]
    refine ⟨fun v e => ?_, fun e => ?_⟩
    · have e' := Option.some.inj e
      rw [← e']
      congr 1
      simp only [kUp]
      rcases sgn with ⟨a, c⟩ | ⟨a, c⟩
      all_goals (simp <;> (repeat split) <;> omega)
    · cases (show some _ = none from e)
  · rw [goes_none (k := 2) (by decide +kernel) (by decide +kernel)]
    refine ⟨fun v e => ?_, fun e => ?_⟩
    · have e' := Option.some.inj e
      rw [← e']
      congr 1
      simp only [kUp]
      rcases sgn with ⟨a, c⟩ | ⟨a, c⟩
      all_goals (simp <;> (repeat split) <;> omega)
    · cases (show some _ = none from e)
  · rw [goes_some (y := "ceiling") (k := 3) (by decide +kernel) (by decide +kernel)]
    refine ⟨fun v e => ?_, fun _ => ⟨fun hn => ?_, fun he => ?_⟩⟩
    · cases (show none = some v from e)
    · rw [if_neg (show ¬ 2 * r - d = 0 by omega)]
      by_cases g : d < 2 * r
      · rw [decide_eq_true g, decide_eq_true (show 0 < 2 * r - d by omega)]
        simp
      · rw [decide_eq_false g, decide_eq_false (show ¬ 0 < 2 * r - d by omega)]
        simp
    · rw [if_pos (show 2 * r - d = 0 by omega)]
      refine congrArg some (congrArg V.int ?_)
      simp only [kUp]
      rcases sgn with ⟨a, c⟩ | ⟨a, c⟩
      all_goals (simp <;> (repeat split) <;> omega)
  · rw [goes_some (y := "floor") (k := 4) (by decide +kernel) (by decide +kernel)]
    refine ⟨fun v e => ?_, fun _ => ⟨fun hn => ?_, fun he => ?_⟩⟩
    · cases (show none = some v from e)
    · rw [if_neg (show ¬ 2 * r - d = 0 by omega)]
      by_cases g : d < 2 * r
      · rw [decide_eq_true g, decide_eq_true (show 0 < 2 * r - d by omega)]
        simp
      · rw [decide_eq_false g, decide_eq_false (show ¬ 0 < 2 * r - d by omega)]
        simp
    · rw [if_pos (show 2 * r - d = 0 by omega)]
      refine congrArg some (congrArg V.int ?_)
      simp only [kUp]
      rcases sgn with ⟨a, c⟩ | ⟨a, c⟩
      all_goals (simp <;> (repeat split) <;> omega)
  · rw [goes_some (y := "even") (k := 0) (by decide +kernel) (by decide +kernel)]
    refine ⟨fun v e => ?_, fun _ => ⟨fun hn => ?_, fun he => ?_⟩⟩
    · cases (show none = some v from e)
    · rw [if_neg (show ¬ 2 * r - d = 0 by omega)]
      by_cases g : d < 2 * r
      · rw [decide_eq_true g, decide_eq_true (show 0 < 2 * r - d by omega)]
        simp
      · rw [decide_eq_false g, decide_eq_false (show ¬ 0 < 2 * r - d by omega)]
        simp
    · rw [if_pos (show 2 * r - d = 0 by omega)]
      refine congrArg some (congrArg V.int ?_)
      simp only [kUp]
      rcases sgn with ⟨a, c⟩ | ⟨a, c⟩
      all_goals (simp <;> (repeat split) <;> omega)
  · rw [goes_some (y := "away") (k := 2) (by decide +kernel) (by decide +kernel)]
    refine ⟨fun v e => ?_, fun _ => ⟨fun hn => ?_, fun he => ?_⟩⟩
    · cases (show none = some v from e)
    · rw [if_neg (show ¬ 2 * r - d = 0 by omega)]
      by_cases g : d < 2 * r
      · rw [decide_eq_true g, decide_eq_true (show 0 < 2 * r - d by omega)]
        simp
      · rw [decide_eq_false g, decide_eq_false (show ¬ 0 < 2 * r - d by omega)]
        simp
    · rw [if_pos (show 2 * r - d = 0 by omega)]
      refine congrArg some (congrArg V.int ?_)
      simp only [kUp]
      rcases sgn with ⟨a, c⟩ | ⟨a, c⟩
      all_goals (simp <;> (repeat split) <;> omega)
  · rw [goes_some (y := "cut") (k := 1) (by decide +kernel) (by decide +kernel)]
    refine ⟨fun v e => ?_, fun _ => ⟨fun hn => ?_, fun he => ?_⟩⟩
    · cases (show none = some v from e)
    · rw [if_neg (show ¬ 2 * r - d = 0 by omega)]
      by_cases g : d < 2 * r
      · rw [decide_eq_true g, decide_eq_true (show 0 < 2 * r - d by omega)]
        simp
      · rw [decide_eq_false g, decide_eq_false (show ¬ 0 < 2 * r - d by omega)]
        simp
    · rw [if_pos (show 2 * r - d = 0 by omega)]
      refine congrArg some (congrArg V.int ?_)
      simp only [kUp]
      rcases sgn with ⟨a, c⟩ | ⟨a, c⟩
      all_goals (simp <;> (repeat split) <;> omega)
end K06

/-! k06: ways, rounds. -/
namespace K06
open PySem PySem.Spec PyProof.Rows L2 Own
section
variable {P : Program} {w : World} {K : PySem.W.Frag} {mg : Str → Option Value} {base : Heap} {C aW aM aH : Addr} {eM eH : Array DictEntry} {nM nH : Nat}
theorem scWays : FnScope [] [] (defScope sWays) := ⟨rfl, rfl, rfl, by decide +kernel, rfl, by decide +kernel, by decide +kernel⟩
def spWays : Sp := fun vs H Q _ => vs = [] ∧ ∀ p, H p = none → Q (.ref p) (upd H p (.lst (waysL.map V.str)))
theorem ok_ways (A : At K mg "_law_ways" sWays []) : DefOk P w K mg base CX0 "_law_ways" 1 [] spWays := by
  refine A.ok fun f fd F => F.ok scWays (fun vs H Q E h => by rw [h.1] <;> rfl) (fun cdv A outer s H vs Q E hr h => ?_)
  obtain ⟨rfl, q⟩ := h
  refine ⟨_, pss_one (ps_ret (pe_lst (pa_cons pe_str (pa_cons pe_str (pa_cons pe_str (pa_cons pe_str (pa_cons pe_str (pa_cons pe_str (pa_cons pe_str (pa_cons pe_str (pa_cons pe_str pa_nil))))))))))), ?_⟩
  exact ⟨by show 9 ≤ sizeLine; decide, q⟩
theorem scRnds : FnScope ["_law_number_here", "_law_divisor_here", "_law_manner", "_law_low", "_law_left", "_law_near", "_law_far", "_law_plain", "_law_even"] ["_law_number_here", "_law_divisor_here", "_law_manner"] (defScope sRnds) := ⟨rfl, rfl, rfl, by decide +kernel, rfl, by decide +kernel, by decide +kernel⟩
def spRnds : Sp := fun vs H Q _ => ∃ (n d : Int) (z : Str), vs = [.int n, .int d, .str z] ∧ 0 < d ∧ d.natAbs < 2 ^ 1000 ∧ n.natAbs < 2 ^ 9000 ∧ z ∈ waysL ∧ ∀ H', Same H H' → Q (.int (near n d z)) H'
theorem plain_nd (q nr fr : Int) : ((txK (plainL q nr fr)).map (·.1)).Nodup := by
  show ([Sum.inr "floor", Sum.inr "ceiling", Sum.inr "cut", Sum.inr "away"] : List Key).Nodup
  decide +kernel
theorem half_nd (q nr fr : Int) : ((txK (halfL q nr fr)).map (·.1)).Nodup := by
  show ([Sum.inr "halfup", Sum.inr "halfdown", Sum.inr "halfeven", Sum.inr "halfaway", Sum.inr "halfcut"] : List Key).Nodup
  decide +kernel
theorem ok_rnds (A : At K mg "_law_rounds" sRnds ["_law_number_here", "_law_divisor_here", "_law_manner"]) (T : Txt P w K mg base C aW aM aH eM nM eH nH) : DefOk P w K mg base CX0 "_law_rounds" 1 ["_law_number_here", "_law_divisor_here", "_law_manner"] spRnds := by
  refine A.ok fun f fd F => F.ok scRnds (fun vs H Q E h => ?_) (fun cdv A outer s H vs Q E hr h => ?_)
  · obtain ⟨n, d, z, rfl, _⟩ := h
    rfl
  · obtain ⟨n, d, z, rfl, h0, hb, hnb, hz, q⟩ := h
    have nd := scRnds.nd
    have hu := hu_of hr
    refine ⟨_, pss_cons (ps_set (i := 3) nd rfl (.inl rfl) (pe_op op_fdivW (pv 0) (pv 1)))
      (pss_cons (ps_set (i := 4) nd rfl (.inl rfl) (pe_op op_sub (pv 0) (pe_op op_mulW (pv 3) (pv 1))))
      (pss_cons (ps_if (pt_cmpR op_eq (pv 4) pe_int (nomark _)) (pss_one (ps_ret (pv 3))) pss_nil)
      (C8.pss_cut (ps_set (i := 5) nd rfl (.inl rfl) (pe_ifExp (pt_cmpR op_gt (pv 0) pe_int (nomark _)) (pv 3) (pe_op op_add (pv 3) pe_int)))
      (pss_cons (ps_set (i := 6) nd rfl (.inl rfl) (pe_op op_sub (pe_op op_add (pe_op op_add (pv 3) (pv 3)) pe_int) (pv 5)))
      (pss_cons (ps_set (i := 7) nd rfl (.inl rfl) (pe_disp (pps_cons pe_str (pv 3) (pps_cons pe_str (pe_op op_add (pv 3) pe_int) (pps_cons pe_str (pv 5) (pps_cons pe_str (pv 6) pps_nil)))) (by rfl) (by rfl) (fun z => by cases z) (by decide)))
      (pss_cons (ps_if (pt_cmp (pc_din hu (pv 2) (pv 7)) (by rfl)) (pss_one (ps_ret (pe_dget hu (pv 7) (pv 2) (fun _ _ => rfl)))) pss_nil)
      (pss_cons (ps_if (pt_cmpR op_ne (pe_op op_mul pe_int (pv 4)) (pv 1) (nomark _)) (pss_one (ps_ret (pe_op op_add (pv 3) (pe_callTy call_int1 (by rfl) T.int (by decide +kernel) (pa_cons (pe_cmpR op_gt (pe_op op_mul pe_int (pv 4)) (pv 1) (nomark _)) pa_nil))))) pss_nil)
      (pss_cons (ps_set (i := 8) nd rfl (.inl rfl) (pe_op op_add (pv 3) (pe_op op_mod (pe_callTy call_int1 (by rfl) T.int (by decide +kernel) (pa_cons (pv 3) pa_nil)) pe_int)))
      (pss_one (ps_ret (pe_dget hu (pe_disp (pps_cons pe_str (pe_op op_add (pv 3) pe_int) (pps_cons pe_str (pv 3) (pps_cons pe_str (pv 8) (pps_cons pe_str (pv 6) (pps_cons pe_str (pv 5) pps_nil))))) (by rfl) (by rfl) (fun z => by cases z) (by decide)) (pv 2) (fun _ _ => rfl)))))))))))), ?_⟩
    have dq : (n / d).natAbs < 2 ^ 9001 := by
      have := Int.natAbs_ediv_le_natAbs n d
      have z : (2 : Nat) ^ 9000 ≤ 2 ^ 9001 := Nat.pow_le_pow_right (by decide) (by decide)
      omega
    refine ⟨_, rfl, _, rfl, n, d, rfl, rfl, wide_div h0 hb (by decide) (by decide), _, rfl, _, rfl, _, rfl, _, _, rfl, rfl, wide_mul dq hb (by decide) (by decide) (by decide), _, _, rfl, rfl, ?_⟩
    have em : n - n / d * d = n % d := by rw [Int.emod_def, Int.mul_comm]
    dsimp only [gName, List.set]
    rw [em]
    refine ⟨_, rfl, rfl, _, rfl, ite2 (fun e => ?_) (fun e => ?_)⟩
    · have he : n % d = 0 := by simpa using e
      refine ⟨_, rfl, ?_⟩
      have q' := q H (Same.refl H)
      unfold near at q'
      rw [if_pos he] at q'
      exact q'
    have hr0 : n % d ≠ 0 := by simpa using e
    obtain ⟨R1, R2⟩ := rnd_ok h0 hr0 hz
    -- near
    generalize hnr : (if n > 0 then n / d else n / d + 1) = nr at R1 R2
    refine ⟨fun σ H' => σ = [some (.int n), some (.int d), some (.str z), some (.int (n / d)), some (.int (n % d)), some (.int nr), none, none, none] ∧ H' = H, ?_, ?_⟩
    · refine ⟨_, rfl, _, _, rfl, rfl, _, rfl, ite2 (fun e => ?_) (fun e => ?_)⟩
      · have hn : n > 0 := of_decide_eq_true e
        rw [if_pos hn] at hnr
        refine ⟨_, rfl, ?_⟩
        rw [hnr]
        exact ⟨rfl, rfl⟩
      · have hn : ¬ n > 0 := fun z => e (decide_eq_true z)
        rw [if_neg hn] at hnr
        refine ⟨_, rfl, _, _, rfl, rfl, ?_⟩
        dsimp only [gName, List.set]
        rw [hnr]
        exact ⟨rfl, rfl⟩
    · rintro σ H' ⟨rfl, rfl⟩
      refine ⟨_, rfl, _, rfl, _, _, rfl, rfl, _, _, rfl, rfl, _, rfl, _, nr, rfl, rfl, ?_⟩
      dsimp only [gName, List.set]
      generalize n / d + n / d + 1 - nr = fr at R1 R2
      -- plain
      intro p hp
      refine ⟨_, rfl, _, rfl, _, _, rfl, rfl, _, rfl, _, rfl, upd_same, txK (plainL (n / d) nr fr), rfl, by show 4 ≤ 15; decide, ?_⟩
      rw [merge_new (plain_nd _ _ _), upd_upd]
      generalize hH1 : upd H' p (.dK (txK (plainL (n / d) nr fr))) = H1
      have p1 : H1 p = some (.dK (txK (plainL (n / d) nr fr))) := by rw [← hH1]; exact upd_same
      have s1 : Same H' H1 := by rw [← hH1]; exact same_new hp
      refine ⟨_, rfl, _, rfl, p, _, rfl, DGet.tx z p1, _, rfl, ?_⟩
      cases hl : (plainL (n / d) nr fr).lookup z with
      | some v =>
        refine iteT ⟨_, rfl, _, rfl, p, v, rfl, ?_, ?_⟩
        · rw [← hl]
          exact DGet.tx z p1
        · rw [R1 v hl]
          exact q H1 s1
      | none =>
        refine iteF ?_
        obtain ⟨R3, R4⟩ := R2 hl
        refine ⟨_, rfl, _, _, rfl, rfl, .inl ⟨by decide, by decide⟩, _, rfl, rfl, _, rfl, ite2 (fun e => ?_) (fun e => ?_)⟩
        · have hne : 2 * (n % d) ≠ d := by simpa using e
          refine ⟨_, rfl, _, rfl, _, _, rfl, rfl, .inl ⟨by decide, by decide⟩, _, rfl, _, _, rfl, rfl, .inr ⟨_, rfl, _, _, rfl, rfl, ?_⟩⟩
          have q' := q H1 s1
          rw [R3 hne] at q'
          exact q'
        · have heq : 2 * (n % d) = d := by simpa using e
          refine ⟨_, rfl, _, rfl, .inl ⟨_, rfl, _, _, rfl, rfl, (show (0 : Int) < 2 by decide), _, _, rfl, rfl, ?_⟩⟩
          intro p2 hp2
          refine ⟨_, rfl, _, _, rfl, rfl, _, rfl, _, rfl, _, rfl, _, rfl, upd_same, txK (halfL (n / d) nr fr), rfl, by show 5 ≤ 15; decide, ?_⟩
          rw [merge_new (half_nd _ _ _), upd_upd]
          refine ⟨_, rfl, p2, .int (near n d z), rfl, ?_, ?_⟩
          · rw [← R4 heq]
            exact DGet.tx z upd_same
          · exact q _ (s1.trans (same_new hp2))
end
end K06

/-! own layer: odd values, equal to themselves. k06: same, wrong. -/
namespace Own
open PySem PySem.Spec PyProof.Rows L2
/-- a flat value's datum -/
def datV : V → PyData
  | .bl b => .bool b
  | .int i => .int i
  | .str z => .str z
  | _ => .none
def okF : V → Bool
  | .non => true
  | .bl _ => true
  | .int _ => true
  | .str z => PyData.strOk z
  | _ => false
/-- a value handed in that is equal to itself -/
inductive Odd (H : Hp) : V → Prop where
  | flat {x : V} (h : okF x = true) : Odd H x
  | lst {a : Addr} {xs : List V} (e : H a = some (.lst xs)) (f : xs.all okF = true) : Odd H (.ref a)
  | tup {a : Addr} {xs : List V} (e : H a = some (.tup xs)) (f : xs.all okF = true) : Odd H (.ref a)
  | dct {a : Addr} {kvs : List (Key × V)} (e : H a = some (.dK kvs)) (n : (kvs.map (·.1)).Nodup) (f : ∀ p ∈ kvs, flatB p.2 = true) : Odd H (.ref a)
theorem Odd.same {H H' : Hp} {x : V} (h : Odd H x) (s : Same H H') : Odd H' x := by
  cases h with
  | flat h => exact .flat h
  | lst e f => exact .lst (s _ _ e) f
  | tup e f => exact .tup (s _ _ e) f
  | dct e n f => exact .dct (s _ _ e) n f
theorem Odd.thing {H : Hp} {x : V} (h : Odd H x) : Thing H x := by
  cases h with
  | flat h =>
    cases x <;> first | exact .non | exact .bl _ | exact .int _ | exact .str _ | (simp [okF] at h)
  | lst e f => exact .lst e
  | tup e f => exact .tup e
  | dct e n f => exact .dct e
theorem dp_flat {K : PySem.W.Frag} {H : Hp} {x : V} (h : okF x = true) : Dp K H x (datV x) ∧ (datV x).canLay0 = true ∧ (datV x).depth = 0 := by
  cases x <;> first
    | exact ⟨.non, by simp [datV, PyData.canLay0], by simp [datV, PyData.depth]⟩
    | exact ⟨.bl _, by simp [datV, PyData.canLay0], by simp [datV, PyData.depth]⟩
    | exact ⟨.int _, by simp [datV, PyData.canLay0], by simp [datV, PyData.depth]⟩
    | exact ⟨.str _, by simpa [datV, PyData.canLay0, okF] using h, by simp [datV, PyData.depth]⟩
    | (simp [okF] at h)
theorem dp_flats {K : PySem.W.Frag} {H : Hp} : ∀ {xs : List V}, xs.all okF = true → DpAll K H xs (xs.map datV) ∧ PyData.canLayAll0 (xs.map datV) = true ∧ PyData.depthAll (xs.map datV) = 0
  | [], _ => ⟨.nil, by simp [PyData.canLayAll0], by simp [PyData.depthAll]⟩
  | x :: r, h => by
    rw [List.all_cons, Bool.and_eq_true] at h
    obtain ⟨a1, a2, a3⟩ := dp_flat (K := K) (H := H) h.1
    obtain ⟨b1, b2, b3⟩ := dp_flats (K := K) (H := H) h.2
    exact ⟨.cons a1 b1, by simp [PyData.canLayAll0, a2, b2], by simp [PyData.depthAll, a3, b3]⟩
/-- x == x of such a value: the three rules -/
theorem op_eqOdd {X : Cx} (hu : X.A.units + 64 < cLine) : OpR X (compareOp .Eq) (fun x y H Q => (∃ a b : Int, x = .int a ∧ y = .int b ∧ Q (.bl (decide (a = b))) H) ∨ (Odd H x ∧ y = x ∧ Q (.bl true) H)) := by
  intro pins s σ H x y v u Q I rx ry h
  rcases h with ⟨a, b, rfl, rfl, q⟩ | ⟨od, rfl, q⟩
  · refine op_eq pins s σ H _ _ v u Q I rx ry ⟨rfl, ?_⟩
    have e : decide (V.int a = V.int b) = decide (a = b) := by simp
    rw [e]
    exact q
  · cases od with
    | flat h =>
      obtain ⟨a1, a2, a3⟩ := dp_flat (K := X.K) (H := H) h
      have sh : SeqAt.shaped (datV y) = true := by
        unfold SeqAt.shaped
        rw [a2, a3]
        rfl
      refine op_eqD hu pins s σ H _ _ v u Q I rx ry ⟨_, _, a1, a1, sh, sh, ?_⟩
      rw [SeqAt.eqv_refl _ (SeqAt.canLay_of_shaped sh)]
      exact q
    | @lst a xs e f =>
      obtain ⟨a1, a2, a3⟩ := dp_flats (K := X.K) (H := H) f
      have sh : SeqAt.shaped (.list (xs.map datV)) = true := by
        unfold SeqAt.shaped
        simp [PyData.canLay0, PyData.depth, a2, a3]
      have d : Dp X.K H (.ref a) (.list (xs.map datV)) := .lst (SqL.of e) a1
      refine op_eqD hu pins s σ H _ _ v u Q I rx ry ⟨_, _, d, d, sh, sh, ?_⟩
      rw [SeqAt.eqv_refl _ (SeqAt.canLay_of_shaped sh)]
      exact q
    | @tup a xs e f =>
      obtain ⟨a1, a2, a3⟩ := dp_flats (K := X.K) (H := H) f
      have sh : SeqAt.shaped (.tuple (xs.map datV)) = true := by
        unfold SeqAt.shaped
        simp [PyData.canLay0, PyData.depth, a2, a3]
      have d : Dp X.K H (.ref a) (.tuple (xs.map datV)) := .tup (SqT.of e) a1
      refine op_eqD hu pins s σ H _ _ v u Q I rx ry ⟨_, _, d, d, sh, sh, ?_⟩
      rw [SeqAt.eqv_refl _ (SeqAt.canLay_of_shaped sh)]
      exact q
    | @dct a kvs e n f => exact op_eq_dict (by omega) pins s σ H _ _ v u Q I rx ry ⟨a, a, kvs, rfl, rfl, e, e, n, f, q⟩
end Own
namespace K06
open PySem PySem.Spec PyProof.Rows L2 Own
section
variable {P : Program} {w : World} {K : PySem.W.Frag} {mg : Str → Option Value} {base : Heap} {C aW aM aH : Addr} {eM eH : Array DictEntry} {nM nH : Nat}
theorem scSame : FnScope ["_law_one", "_law_other"] ["_law_one", "_law_other"] (defScope sSame) := ⟨rfl, rfl, rfl, by decide +kernel, rfl, by decide +kernel, by decide +kernel⟩
def spSame : Sp := fun vs H Q _ => (∃ a b : Int, vs = [.int a, .int b] ∧ Q (.bl (decide (a = b))) H) ∨ ∃ x : V, vs = [x, x] ∧ Odd H x ∧ Q (.bl true) H
theorem ok_same (A : At K mg "_law_same" sSame ["_law_one", "_law_other"]) (T : Txt P w K mg base C aW aM aH eM nM eH nH) : DefOk P w K mg base CX0 "_law_same" 1 ["_law_one", "_law_other"] spSame := by
  refine A.ok fun f fd F => F.ok scSame (fun vs H Q E h => ?_) (fun cdv A outer s H vs Q E hr h => ?_)
  · rcases h with ⟨a, b, rfl, _⟩ | ⟨x, rfl, _⟩
    · rfl
    · rfl
  · refine ⟨_, pss_one (ps_ret (pe_and (pe_cmpR (op_eqOdd hr.units) (pv 0) (pv 1) (nomark _))
      (pe_one (pe_cmpR op_eq (pe_callB call_isi (by rfl) T.isi (by decide +kernel) (pa_cons (pv 0) (pa_cons (pe_bltn (v := .ty "bool") (by rfl) T.bool (by decide +kernel) rfl) pa_nil)))
        (pe_callB call_isi (by rfl) T.isi (by decide +kernel) (pa_cons (pv 1) (pa_cons (pe_bltn (v := .ty "bool") (by rfl) T.bool (by decide +kernel) rfl) pa_nil))) (nomark _))))), ?_⟩
    rcases h with ⟨a, b, rfl, q⟩ | ⟨x, rfl, od, q⟩
    · refine ⟨_, rfl, _, rfl, .inl ⟨a, b, rfl, rfl, _, rfl, ite2 (fun e => ?_) (fun e => ?_)⟩⟩
      · obtain ⟨t1, h1, _, k1⟩ := (Thing.int (H := H) a).isi (K := K)
        obtain ⟨t2, h2, _, k2⟩ := (Thing.int (H := H) b).isi (K := K)
        refine ⟨_, rfl, _, _, t1, _, _, rfl, .ty _, h1, k1, _, rfl, _, _, t2, _, _, rfl, .ty _, h2, k2, rfl, ?_⟩
        rw [e] at q
        exact q
      · rw [eq_false_of_ne_true e] at q
        exact q
    · refine ⟨_, rfl, _, rfl, .inr ⟨od, rfl, _, rfl, iteT ?_⟩⟩
      obtain ⟨t1, h1, _, k1⟩ := od.thing.isi (K := K)
      refine ⟨_, rfl, _, _, t1, _, _, rfl, .ty _, h1, k1, _, rfl, _, _, t1, _, _, rfl, .ty _, h1, k1, rfl, ?_⟩
      have e : decide (V.bl (isBl x) = V.bl (isBl x)) = true := decide_eq_true rfl
      show Q (.bl (decide (V.bl (isBl x) = V.bl (isBl x)))) H
      rw [e]
      exact q
/-! ### odd values that are drawn -/
/-- no integer, no way -/
structure Wrong (H : Hp) (x : V) : Prop where
  od : Odd H x
  ni : Own.isInt x = false
  nw : isWay x = false
theorem Wrong.same {H H' : Hp} {x : V} (h : Wrong H x) (s : Same H H') : Wrong H' x := ⟨h.od.same s, h.ni, h.nw⟩
theorem scWrong : FnScope ["_law_pen"] ["_law_pen"] (defScope sWrong) := ⟨rfl, rfl, rfl, by decide +kernel, rfl, by decide +kernel, by decide +kernel⟩
def spWrong : Sp := fun vs H Q _ => ∃ (d : Addr) (B : Int), vs = [.ref d] ∧ Pen H d B ∧ B ≤ 1000000000 ∧ ∀ (x : V) (H' : Hp), Wrong H' x → Keep d H H' → Pen H' d (B + 1) → Q x H'
theorem ok_wrong (A : At K mg "_law_wrong" sWrong ["_law_pen"]) (D : DefOk P w K mg base CX0 "_law_pick" 2 ["_law_pen", "_law_some"] spPick) : DefOk P w K mg base CX0 "_law_wrong" 3 ["_law_pen"] spWrong := by
  refine A.ok fun f fd F => F.ok scWrong (fun vs H Q E h => ?_) (fun cdv A outer s H vs Q E hr h => ?_)
  · obtain ⟨d, B, rfl, _⟩ := h
    rfl
  · obtain ⟨d, B, rfl, hp, hB, q⟩ := h
    refine ⟨_, pss_one (ps_ret (pe_def D hr (by decide) (by rfl) pass0 (pa_cons (pv 0) (pa_cons (pe_lst (pa_cons pe_non (pa_cons pe_bl (pa_cons pe_bl (pa_cons pe_str (pa_cons pe_str (pa_cons pe_str
      (pa_cons (pe_tup (pa_cons pe_int (pa_cons pe_int pa_nil))) (pa_cons (pe_tup pa_nil) (pa_cons (pe_lst (pa_cons pe_int pa_nil)) (pa_cons pe_dnewK (pa_cons (pe_disp (pps_cons pe_str pe_int pps_nil) (by rfl) (by rfl) (fun z => by cases z) (by decide)) pa_nil)))))))))))) pa_nil)))), ?_⟩
    refine ⟨_, rfl, by show 2 ≤ sizeLine; decide, fun t1 n1 => ⟨Nat.zero_le _, fun t2 n2 => ⟨by show 1 ≤ sizeLine; decide, fun t3 n3 => ?_⟩⟩⟩
    intro t4 n4 t5 n5
    refine ⟨upd_same, txK [("a", .int 1)], rfl, by show 1 ≤ 15; decide, by show 11 ≤ sizeLine; decide, fun l nl => ?_⟩
    have em : mergeK [] (txK [("a", V.int 1)]) = txK [("a", V.int 1)] := merge_new (by decide +kernel)
    rw [upd_upd, em] at nl ⊢
    generalize hh1 : upd H t1 (HO.tup [.int 1, .int 2]) = H1 at n2 n3 n4 n5 nl ⊢
    have s1 : Same H H1 := hh1 ▸ same_new n1
    have e1 : H1 t1 = some (HO.tup [.int 1, .int 2]) := hh1 ▸ upd_same
    generalize hh2 : upd H1 t2 (HO.tup []) = H2 at n3 n4 n5 nl ⊢
    have s2 : Same H1 H2 := hh2 ▸ same_new n2
    have e2 : H2 t2 = some (HO.tup []) := hh2 ▸ upd_same
    generalize hh3 : upd H2 t3 (HO.lst [.int 1]) = H3 at n4 n5 nl ⊢
    have s3 : Same H2 H3 := hh3 ▸ same_new n3
    have e3 : H3 t3 = some (HO.lst [.int 1]) := hh3 ▸ upd_same
    generalize hh4 : upd H3 t4 (HO.dK []) = H4 at n5 nl ⊢
    have s4 : Same H3 H4 := hh4 ▸ same_new n4
    have e4 : H4 t4 = some (HO.dK []) := hh4 ▸ upd_same
    generalize hh5 : upd H4 t5 (HO.dK (txK [("a", V.int 1)])) = H5 at nl ⊢
    have s5 : Same H4 H5 := hh5 ▸ same_new n5
    have e5 : H5 t5 = some (HO.dK (txK [("a", V.int 1)])) := hh5 ▸ upd_same
    have s6 : Same H5 (upd H5 l (HO.lst [.non, .bl true, .bl false, .str "1", .str "", .str "Cut", .ref t1, .ref t2, .ref t3, .ref t4, .ref t5])) := same_new nl
    have sA : Same H (upd H5 l (HO.lst [.non, .bl true, .bl false, .str "1", .str "", .str "Cut", .ref t1, .ref t2, .ref t3, .ref t4, .ref t5])) := (((((s1.trans s2).trans s3).trans s4).trans s5).trans s6)
    have f1 := s6 _ _ (s5 _ _ (s4 _ _ (s3 _ _ (s2 _ _ e1))))
    have f2 := s6 _ _ (s5 _ _ (s4 _ _ (s3 _ _ e2)))
    have f3 := s6 _ _ (s5 _ _ (s4 _ _ e3))
    have f4 := s6 _ _ (s5 _ _ e4)
    have f5 := s6 _ _ e5
    refine ⟨d, l, _, B, rfl, upd_same, by simp, by show 11 ≤ 1000; decide, hp.same sA, hB, fun x H' hx kp hp' => q x H' ?_ ((Keep.same sA).trans kp) hp'⟩
    obtain ⟨p0, ns0, c0, l0, hd0, _⟩ := (hp.same s1).ex
    have d1 : t1 ≠ d := ne_of e1 hd0 (by intro z; cases z)
    obtain ⟨p0, ns0, c0, l0, hd0, _⟩ := hp.ex
    have d2 : t2 ≠ d := (ne_of_none (s1 _ _ hd0) n2).symm
    have d3 : t3 ≠ d := (ne_of_none (s2 _ _ (s1 _ _ hd0)) n3).symm
    have d4 : t4 ≠ d := (ne_of_none (s3 _ _ (s2 _ _ (s1 _ _ hd0))) n4).symm
    have d5 : t5 ≠ d := (ne_of_none (s4 _ _ (s3 _ _ (s2 _ _ (s1 _ _ hd0)))) n5).symm
    have g1 := kp _ _ d1 f1
    have g2 := kp _ _ d2 f2
    have g3 := kp _ _ d3 f3
    have g4 := kp _ _ d4 f4
    have g5 := kp _ _ d5 f5
    simp only [List.mem_cons, List.not_mem_nil, or_false] at hx
    rcases hx with rfl | rfl | rfl | rfl | rfl | rfl | rfl | rfl | rfl | rfl | rfl
    · exact ⟨.flat rfl, rfl, rfl⟩
    · exact ⟨.flat rfl, rfl, rfl⟩
    · exact ⟨.flat rfl, rfl, rfl⟩
    · exact ⟨.flat (by decide +kernel), rfl, by decide +kernel⟩
    · exact ⟨.flat (by decide +kernel), rfl, by decide +kernel⟩
    · exact ⟨.flat (by decide +kernel), rfl, by decide +kernel⟩
    · exact ⟨.tup g1 rfl, rfl, rfl⟩
    · exact ⟨.tup g2 rfl, rfl, rfl⟩
    · exact ⟨.lst g3 rfl, rfl, rfl⟩
    · exact ⟨.dct g4 (by simp) (by simp), rfl, rfl⟩
    · exact ⟨.dct g5 (by simp [txK]) (by simp [txK, flatB]), rfl, rfl⟩
end
end K06

/-! k06: the divisor and the number that are drawn. -/
namespace K06
open PySem PySem.Spec PyProof.Rows L2 Own
section
variable {P : Program} {w : World} {K : PySem.W.Frag} {mg : Str → Option Value} {base : Heap} {C aW aM aH : Addr} {eM eH : Array DictEntry} {nM nH : Nat}
theorem scDivr : FnScope ["_law_pen", "_law_wide"] ["_law_pen"] (defScope sDivr) := ⟨rfl, rfl, rfl, by decide +kernel, rfl, by decide +kernel, by decide +kernel⟩
def spDivr : Sp := fun vs H Q _ => ∃ (d : Addr) (B : Int), vs = [.ref d] ∧ Pen H d B ∧ B ≤ 800000000 ∧ ∀ (v : Int) (H' : Hp), 0 < v → v.natAbs < 2 ^ 1000 → Keep d H H' → Pen H' d (B + 1000) → Q (.int v) H'
theorem fig_lt {v : Int} {M : Nat} (h0 : 0 ≤ v) (h : v ≤ 3 * (10 : Int) ^ M) (hM : M ≤ 40) : v.natAbs < 2 ^ 170 := by
  have a : (10 : Int) ^ M ≤ (10 : Int) ^ 40 := ten_mono hM
  have b : v ≤ 3 * (10 : Int) ^ 40 := by omega
  have c : (3 * (10 : Int) ^ 40) < 2 ^ 170 := by decide +kernel
  have e : ((2 : Int) ^ 170) = ((2 ^ 170 : Nat) : Int) := by decide +kernel
  omega
theorem up_two {n a b : Nat} (h : n < 2 ^ a) (l : a ≤ b) : n < 2 ^ b := Nat.lt_of_lt_of_le h (Nat.pow_le_pow_right (by decide) l)
theorem add_lt {i j : Int} {a : Nat} (hi : i.natAbs < 2 ^ a) (hj : j.natAbs < 2 ^ a) : (i + j).natAbs < 2 ^ (a + 1) := by
  rw [Nat.pow_succ]
  omega
theorem ok_divr (A : At K mg "_law_divisor" sDivr ["_law_pen"]) (D : DefOk P w K mg base CX0 "_law_draw" 1 ["_law_pen", "_law_span"] spDraw) (D2 : DefOk P w K mg base CX0 "_law_ten" 1 ["_law_number_here"] spTen)
    (D3 : DefOk P w K mg base CX0 "_law_pick" 2 ["_law_pen", "_law_some"] spPick) (D4 : DefOk P w K mg base CX0 "_law_figures" 2 ["_law_pen", "_law_most"] spFigs) : DefOk P w K mg base CX0 "_law_divisor" 3 ["_law_pen"] spDivr := by
  refine A.ok fun f fd F => F.ok scDivr (fun vs H Q E h => ?_) (fun cdv A outer s H vs Q E hr h => ?_)
  · obtain ⟨d, B, rfl, _⟩ := h
    rfl
  · obtain ⟨d, B, rfl, hp, hB, q⟩ := h
    have nd := scDivr.nd
    refine ⟨_, pss_cons (ps_set (i := 1) nd rfl (.inl rfl) (pe_def D2 hr (by decide) (by rfl) pass0 (pa_cons (pe_def D hr (by decide) (by rfl) pass0 (pa_cons (pv 0) (pa_cons pe_int pa_nil))) pa_nil)))
      (pss_one (ps_ret (pe_def D3 hr (by decide) (by rfl) pass0 (pa_cons (pv 0) (pa_cons (pe_lst (pa_cons pe_int (pa_cons pe_int (pa_cons pe_int (pa_cons pe_int (pa_cons (pv 1) (pa_cons (pv 1)
        (pa_cons (pe_op op_add pe_int (pe_def D4 hr (by decide) (by rfl) pass0 (pa_cons (pv 0) (pa_cons pe_int pa_nil)))) (pa_cons (pe_op op_add pe_int (pe_def D4 hr (by decide) (by rfl) pass0 (pa_cons (pv 0) (pa_cons pe_int pa_nil)))) pa_nil))))))))) pa_nil))))), ?_⟩
    refine ⟨_, rfl, d, 30, B, rfl, hp, by omega, by decide, by decide, fun u H1 a1 a2 k1 p1 => ?_⟩
    obtain ⟨m, rfl⟩ : ∃ m : Nat, u = (m : Int) := ⟨u.toNat, (Int.toNat_of_nonneg a1).symm⟩
    refine ⟨m, rfl, by omega, ?_⟩
    have t0 := ten_pos m
    have t1 : ((10 : Int) ^ m).natAbs < 2 ^ 1000 := up_two (ten_lt m) (by omega)
    generalize (10 : Int) ^ m = wd at t0 t1
    refine ⟨_, rfl, _, rfl, _, rfl, _, rfl, d, 9, B + 1, rfl, by decide, by decide, p1, by omega, fun v1 H2 b1 b2 k2 p2 => ?_⟩
    refine ⟨_, _, rfl, rfl, _, rfl, d, 30, _, rfl, by decide, by decide, p2, by omega, fun v2 H3 c1 c2 k3 p3 => ?_⟩
    refine ⟨_, _, rfl, rfl, by show 8 ≤ sizeLine; decide, fun l nl => ?_⟩
    refine ⟨d, l, _, _, rfl, upd_same, by simp, by show 8 ≤ 1000; decide, p3.same (same_new nl), by omega, fun x H' hx kp hp' => ?_⟩
    have g1 : (1 + v1).natAbs < 2 ^ 171 := by
      have a := fig_lt b1 b2 (by decide)
      exact add_lt (i := 1) (up_two (a := 1) (by decide) (by decide)) a
    have g2 : (1 + v2).natAbs < 2 ^ 171 := by
      have a := fig_lt c1 c2 (by decide)
      exact add_lt (i := 1) (up_two (a := 1) (by decide) (by decide)) a
    have kk := ((k1.trans k2).trans k3).trans ((Keep.new nl).trans kp)
    have pp : Pen H' d (B + 1000) := hp'.mono (by omega)
    simp only [List.mem_cons, List.not_mem_nil, or_false] at hx
    rcases hx with rfl | rfl | rfl | rfl | rfl | rfl | rfl | rfl
    · exact q _ _ (by decide) (up_two (a := 4) (by decide) (by decide)) kk pp
    · exact q _ _ (by decide) (up_two (a := 4) (by decide) (by decide)) kk pp
    · exact q _ _ (by decide) (up_two (a := 4) (by decide) (by decide)) kk pp
    · exact q _ _ (by decide) (up_two (a := 4) (by decide) (by decide)) kk pp
    · exact q _ _ t0 t1 kk pp
    · exact q _ _ t0 t1 kk pp
    · exact q _ _ (by omega) (up_two g1 (by decide)) kk pp
    · exact q _ _ (by omega) (up_two g2 (by decide)) kk pp
theorem scNumb : FnScope ["_law_pen", "_law_divisor_here", "_law_number_here", "_law_manner"] ["_law_pen", "_law_divisor_here"] (defScope sNumb) := ⟨rfl, rfl, rfl, by decide +kernel, rfl, by decide +kernel, by decide +kernel⟩
def spNumb : Sp := fun vs H Q _ => ∃ (d : Addr) (dv B : Int), vs = [.ref d, .int dv] ∧ 0 < dv ∧ dv.natAbs < 2 ^ 1000 ∧ Pen H d B ∧ B ≤ 800000000 ∧ ∀ (v : Int) (H' : Hp), v.natAbs < 2 ^ 2000 → Keep d H H' → Pen H' d (B + 1000) → Q (.int v) H'
theorem ok_numb (A : At K mg "_law_number" sNumb ["_law_pen", "_law_divisor_here"]) (D : DefOk P w K mg base CX0 "_law_draw" 1 ["_law_pen", "_law_span"] spDraw)
    (D3 : DefOk P w K mg base CX0 "_law_pick" 2 ["_law_pen", "_law_some"] spPick) (D4 : DefOk P w K mg base CX0 "_law_figures" 2 ["_law_pen", "_law_most"] spFigs) : DefOk P w K mg base CX0 "_law_number" 3 ["_law_pen", "_law_divisor_here"] spNumb := by
  refine A.ok fun f fd F => F.ok scNumb (fun vs H Q E h => ?_) (fun cdv A outer s H vs Q E hr h => ?_)
  · obtain ⟨d, dv, B, rfl, _⟩ := h
    rfl
  · obtain ⟨d, dv, B, rfl, h0, hb, hp, hB, q⟩ := h
    have nd := scNumb.nd
    refine ⟨_, pss_cons (ps_set (i := 2) nd rfl (.inl rfl) (pe_def D4 hr (by decide) (by rfl) pass0 (pa_cons (pv 0) (pa_cons pe_int pa_nil))))
      (pss_cons (ps_set (i := 3) nd rfl (.inl rfl) (pe_def D hr (by decide) (by rfl) pass0 (pa_cons (pv 0) (pa_cons pe_int pa_nil))))
      (C8.pss_cut (ps_if (pt_cmpR op_gt (pv 3) pe_int (nomark _)) (pss_one (ps_set (i := 2) nd rfl (.inl rfl) (pe_op op_add (pe_op op_mulW (pv 1) (pe_def D4 hr (by decide) (by rfl) pass0 (pa_cons (pv 0) (pa_cons (pe_op op_add pe_int (pe_def D hr (by decide) (by rfl) pass0 (pa_cons (pv 0) (pa_cons pe_int pa_nil)))) pa_nil))))
          (pe_def D3 hr (by decide) (by rfl) pass0 (pa_cons (pv 0) (pa_cons (pe_lst (pa_cons pe_int (pa_cons (pe_op op_fdivW (pv 1) pe_int) (pa_cons (pe_op op_fdivW (pv 1) pe_int) pa_nil)))) pa_nil)))))) pss_nil)
      (C8.pss_cut (ps_if (pt_cmpR op_gt (pv 3) pe_int (nomark _)) (pss_one (ps_set (i := 2) nd rfl (.inl rfl) (pe_op op_sub (pe_op op_add (pv 2) (pe_def D hr (by decide) (by rfl) pass0 (pa_cons (pv 0) (pa_cons pe_int pa_nil)))) pe_int))) pss_nil)
      (pss_one (ps_ret (pe_op op_mulW (pe_def D3 hr (by decide) (by rfl) pass0 (pa_cons (pv 0) (pa_cons (pe_lst (pa_cons pe_int (pa_cons (pe_un un_neg pe_int) pa_nil))) pa_nil))) (pv 2))))))), ?_⟩
    refine ⟨_, rfl, d, 40, B, rfl, by decide, by decide, hp, by omega, fun n0 H1 a1 a2 k1 p1 => ?_⟩
    refine ⟨_, rfl, d, 4, _, rfl, p1, by omega, by decide, by decide, fun mn H2 b1 b2 k2 p2 => ?_⟩
    dsimp only [gName, List.set]
    have nb : n0.natAbs < 2 ^ 1500 := up_two (fig_lt a1 a2 (by decide)) (by decide)
    have p2 : Pen H2 d (B + 300) := p2.mono (by omega)
    have k2 := k1.trans k2
    refine ⟨fun σ H' => ∃ n : Int, σ = [some (.ref d), some (.int dv), some (.int n), some (.int mn)] ∧ n.natAbs < 2 ^ 1500 ∧ Keep d H H' ∧ Pen H' d (B + 600), ?_, ?_⟩
    · refine ⟨_, rfl, _, _, rfl, rfl, _, rfl, ite2 (fun e => ?_) (fun e => ?_)⟩
      · refine ⟨_, rfl, _, rfl, _, rfl, d, 20, _, rfl, p2, by omega, by decide, by decide, fun u H3 c1 c2 k3 p3 => ?_⟩
        obtain ⟨m, rfl⟩ : ∃ m : Nat, u = (m : Int) := ⟨u.toNat, (Int.toNat_of_nonneg c1).symm⟩
        have eM : (1 : Int) + (m : Int) = ((m + 1 : Nat) : Int) := by omega
        refine ⟨_, _, rfl, rfl, ?_⟩
        dsimp only
        rw [eM]
        refine ⟨d, m + 1, _, rfl, by omega, by omega, p3, by omega, fun fg H4 e1 e2 k4 p4 => ?_⟩
        have fb : fg.natAbs < 2 ^ 170 := fig_lt e1 e2 (by omega)
        refine ⟨_, _, rfl, rfl, wide_mul hb fb (by decide) (by decide) (by decide), _, rfl, _, rfl, _, _, rfl, rfl, wide_div (by decide) (b := 2) (by decide) (by decide) (by decide), _, rfl, _, _, rfl, rfl, wide_div (by decide) (b := 2) (by decide) (by decide) (by decide), by show 3 ≤ sizeLine; decide, fun l nl => ?_⟩
        refine ⟨d, l, _, _, rfl, upd_same, by simp, by show 3 ≤ 1000; decide, p4.same (same_new nl), by omega, fun x H' hx kp hp' => ?_⟩
        have hx : ∃ y : Int, x = .int y ∧ y.natAbs < 2 ^ 1170 := by
          have z : (dv / 2).natAbs < 2 ^ 1170 := by
            have := Int.natAbs_ediv_le_natAbs dv 2
            exact up_two (Nat.lt_of_le_of_lt this hb) (by decide)
          simp only [List.mem_cons, List.not_mem_nil, or_false] at hx
          rcases hx with rfl | rfl | rfl
          · exact ⟨_, rfl, Nat.pow_pos (by decide)⟩
          · exact ⟨_, rfl, z⟩
          · exact ⟨_, rfl, z⟩
        obtain ⟨y, rfl, hy⟩ := hx
        refine ⟨_, _, rfl, rfl, ?_⟩
        exact ⟨_, rfl, up_two (add_lt (wide_lt hb fb) hy) (by decide), ((k2.trans k3).trans k4).trans ((Keep.new nl).trans kp), hp'.mono (by omega)⟩
      · exact ⟨_, rfl, nb, k2, p2.mono (by omega)⟩
    · rintro σ H3 ⟨n, rfl, hn, k3, p3⟩
      refine ⟨fun σ H' => ∃ n : Int, σ = [some (.ref d), some (.int dv), some (.int n), some (.int mn)] ∧ n.natAbs < 2 ^ 1501 ∧ Keep d H H' ∧ Pen H' d (B + 700), ?_, ?_⟩
      · refine ⟨_, rfl, _, _, rfl, rfl, _, rfl, ite2 (fun e => ?_) (fun e => ?_)⟩
        · refine ⟨_, rfl, _, rfl, d, 3, _, rfl, p3, by omega, by decide, by decide, fun u H4 c1 c2 k4 p4 => ?_⟩
          refine ⟨_, _, rfl, rfl, _, _, rfl, rfl, ?_⟩
          refine ⟨_, rfl, ?_, k3.trans k4, p4.mono (by omega)⟩
          have y : (u + -1).natAbs < 2 ^ 1500 := up_two (a := 2) (by omega) (by decide)
          have z := add_lt hn y
          have e9 : n + u - 1 = n + (u + -1) := by omega
          show (n + u - 1).natAbs < 2 ^ 1501
          rw [e9]
          exact z
        · exact ⟨_, rfl, up_two hn (by decide), k3, p3.mono (by omega)⟩
      · rintro σ H4 ⟨n, rfl, hn, k4, p4⟩
        refine ⟨_, rfl, _, rfl, by show 2 ≤ sizeLine; decide, fun l nl => ?_⟩
        refine ⟨d, l, _, _, rfl, upd_same, by simp, by show 2 ≤ 1000; decide, p4.same (same_new nl), by omega, fun x H' hx kp hp' => ?_⟩
        have hx : ∃ y : Int, x = .int y ∧ y.natAbs < 2 ^ 1 := by
          simp only [List.mem_cons, List.not_mem_nil, or_false] at hx
          rcases hx with rfl | rfl
          · exact ⟨_, rfl, by decide⟩
          · exact ⟨_, rfl, by decide⟩
        obtain ⟨y, rfl, hy⟩ := hx
        refine ⟨_, rfl, _, _, rfl, rfl, wide_mul hy hn (by decide) (by decide) (by decide), ?_⟩
        exact q _ _ (up_two (wide_lt hy hn) (by decide)) (k4.trans ((Keep.new nl).trans kp)) (hp'.mono (by omega))
end
end K06

/-! own layer: a deed called inside try. k06: refused. -/
namespace Own
open PySem PySem.Spec PyProof.Rows L2 LamX NdefX
section
variable {X : Cx} {cl : List (Str × Addr)} {fr : List Str} {ws : List (Option V)}
/-- as pe_deed, what it may let out told by the slots -/
theorem pe_deedS {CX : CXT} {k i : Nat} {f : Addr} {F : NF} {b : Expr} {sp : List (Option V) → Hp → VK → XK → Prop} {E : L2.St → XK} {a : Str} {p1 p2 : Pos} (C : CellsAt F.cl fr ws X.s_0.heap X.H_0) (hex : X.ex = []) (G : LOk X.prog X.w X.K X.mg X.base CX k f F b fr sp) (hr : Room k X.A)
    (hx : ∀ σ, PassesAt CX X σ (E σ)) (hN : X.N[i]? = some a) (hv : Vis X.env.scope a) (hd : (a == ("__debug__" : Str)) = false := by decide) (hcd : (a == ("__classdict__" : Str)) = false := by decide) :
    PE X (.Call (.Name a p1) [] [] p2) (fun σ H Q => σ[i]? = some (some (.ref f)) ∧ LamAt H f F b ∧ H F.c = some (CodeO F.c F.qual) ∧ sp ws H Q (E σ)) := by
  constructor
  intro pins s σ H Q I h
  obtain ⟨hs, hf, hc, q⟩ := h
  refine wpAny_Call_Name_kw (thn ((pe_var (pos := p1) hN hv hd hcd).run pins s σ H (fun v H1 => v = .ref f ∧ H1 = H) I ⟨.ref f, hs, rfl, rfl⟩) ?_)
  rintro u s1 ⟨v, H1, I1, r1, rfl, rfl⟩
  obtain rfl : u = Value.ref f := r1
  obtain ⟨dV, doc, pm, ctv, ho, _⟩ := lamO_at I1.hok hf
  refine PySem.W.callWith_F0 ⟨_, _, _, _, ho⟩ ?_
  have C' := cells_still C (fun _ => .inl (by rw [hex]; simp)) I1
  refine wpAny_call (codeAny_mono (G.run _ _ _ _ _ _ _ hr I1.env0 hf hc C' q) fun r s' z => ?_)
  rcases r with e | fl
  · exact hx σ pins _ _ e s' I1 z
  · cases fl
    case ret u => exact I1.after z
    all_goals exact False.elim z
end
end Own
namespace K06
open PySem PySem.Spec PyProof.Rows L2 Own
section
variable {P : Program} {w : World} {K : PySem.W.Frag} {mg : Str → Option Value} {base : Heap} {C aW aM aH : Addr} {eM eH : Array DictEntry} {nM nH : Nat}
theorem scRefd : FnScope ["_law_deed", "_law_value", "_law_told", "e"] ["_law_deed", "_law_value"] (defScope sRefd) := ⟨rfl, rfl, rfl, by decide +kernel, rfl, by decide +kernel, by decide +kernel⟩
def spRefd (C : Addr) : (Hp → VK → XK → Prop) → List V → Hp → VK → Prop := fun tl rest H Q => ∃ v : V, rest = [v] ∧ Odd H v ∧ (∀ (Q' : VK) (E' : XK), Bad C "value" v H E' → tl H Q' E') ∧ ∀ H', Same H H' → Q (.bl true) H'
theorem ld_refd (A : At K mg "_law_refused" sRefd ["_law_deed", "_law_value"]) (T : Txt P w K mg base C aW aM aH eM nM eH nH) (D : DefOk P w K mg base CX0 "_law_same" 1 ["_law_one", "_law_other"] spSame) : LamDefAt P w K mg base "_law_refused" 6 (spRefd C) := by
  obtain ⟨g, fd, F, gm, b⟩ := A.ex
  refine ⟨g, ⟨fun A outer s H us f vs FF bb fr ws spl kl Q hr hkl e0 r G hf hc CC q => ?_⟩, gm, F.kp⟩
  have KX : K.In s.heap := e0.mod.kin.keeps fun b o e => (e0.bs b o e).1
  obtain ⟨v, rfl, od, q1, q2⟩ := q
  have hb := b s us KX (by rw [List.append_nil, ← r.length]; rfl)
  rw [List.append_nil] at hb
  obtain ⟨oc, od', kV, doc, pm, an, cdv, ct, osl, rfl, lk, hcd⟩ := F.ex
  refine LamX.run_ofS (N := ["_law_deed", "_law_value", "_law_told", "e"]) lk hcd scRefd hr e0 hb r rfl fun hr' => ?_
  have nd := scRefd.nd
  refine ⟨_, pss_cons (ps_set (i := 2) nd rfl (.inl rfl) pe_non)
    (pss_cons (ps_try_as (i := 3) (c := .ref C) rfl rfl nd rfl rfl ⟨rfl, by decide, .inl T.err.g⟩ L2.takes0
        (fun W pn xe tk _ => pss_one (ps_expr (pe_deedS (i := 0) (E := WE W) CC rfl G (hr'.mono (by omega)) (fun σ => passAt tk σ) rfl (.inl rfl))))
        (fun a oe cls d pn hz hf => pss_one (ps_set (i := 2) nd rfl (.inl rfl) (pe_tup (pa_cons (pe_xf T.err.xf T.err.noV hz hf (pv 3)) pa_nil)))))
    (pss_one (ps_ret (pe_and (pe_cmpR op_notN (pv 2) pe_non (nomark _)) (pe_one (pe_def D hr' (by decide) (by rfl) pass0 (pa_cons (pe_ix ix_tup (pv 2) pe_int (fun _ _ => rfl)) (pa_cons (pv 1) pa_nil)))))))), ?_⟩
  refine ⟨rfl, hf, hc, q1 _ _ fun d H1 s1 nd1 e1 => ⟨true, T.err.te, fun _ a na => ?_, fun z => nomatch z⟩⟩
  refine ⟨_, rfl, rfl, rfl, d, _, v, rfl, e1, by simp [List.lookup], by show 1 ≤ sizeLine; decide, fun p np => ?_⟩
  refine ⟨_, rfl, rfl, _, rfl, iteT ?_⟩
  have s2 : Same H1 (upd H1 p (.tup [v])) := same_new np
  refine ⟨_, rfl, p, [v], 0, v, rfl, rfl, SqT.of upd_same, rfl, v, rfl, .inr ⟨v, rfl, (od.same s1).same s2, ?_⟩⟩
  exact q2 _ (s1.trans s2)
end
end K06

/-! k06: the five lambdas. -/
namespace K06
open PySem PySem.Spec PyProof.Rows L2 LamX NdefX Own
def noE : Expr := .Constant .none 0 ⟨0, 0, 0, 0⟩
def asgV : Stmt → Expr
  | .Assign _ v _ => v
  | _ => noE
def eltE (i : Nat) : Expr → Expr
  | .List es _ => es.getD i noE
  | .Tuple es _ _ => es.getD i noE
  | _ => noE
def argE : Stmt → Expr
  | .Expr (.Call _ (a :: _) _ _) _ => a
  | _ => noE
def lamArgs : Expr → Arguments
  | .Lambda a _ _ _ => a
  | _ => ⟨[], [], none, [], [], none, []⟩
def lamBody : Expr → Expr
  | .Lambda _ b _ _ => b
  | _ => noE
def lamScope : Expr → Scope
  | .Lambda _ _ s _ => s
  | _ => ⟨.function, [], false, false, []⟩
abbrev bRefs (i : Nat) : Stmt := (defBody sRefs).getD i (.Pass ⟨0, 0, 0, 0⟩)
abbrev lx1 : Expr := eltE 0 (eltE 0 (asgV (bRefs 2)))
abbrev lx2 : Expr := eltE 0 (eltE 1 (asgV (bRefs 2)))
abbrev lx3 : Expr := eltE 0 (argE (bRefs 3))
abbrev lx4 : Expr := eltE 0 (argE (bRefs 4))
abbrev lx5 : Expr := eltE 0 (argE (bRefs 5))
section
variable {P : Program} {w : World} {K : PySem.W.Frag} {mg : Str → Option Value} {base : Heap} {C : Addr} {X : Cx} {f c' : Addr}
def sp3 (C : Addr) : List (Option V) → Hp → VK → XK → Prop := fun ws H Q E => ∃ x y z : V, ws = [some x, some y, some z] ∧ spDivd C [x, y, z] H Q E
def sp2 (C : Addr) : List (Option V) → Hp → VK → XK → Prop := fun ws H Q E => ∃ y z : V, ws = [some y, some z] ∧ spDivd C [.int 5, y, z] H Q E
def sp1 (C : Addr) : List (Option V) → Hp → VK → XK → Prop := fun ws H Q E => ∃ z : V, ws = [some z] ∧ spMirr C [z] H Q E
theorem nsL1 : NScope ["_law_wrong_here", "_law_below", "_law_odd"] [] ["_law_wrong_here", "_law_below", "_law_odd"] (lamScope lx1) := nscope_by (by decide +kernel)
theorem nsL2 : NScope ["_law_plain", "_law_below", "_law_odd"] ["_law_plain"] ["_law_below", "_law_odd"] (lamScope lx2) := nscope_by (by decide +kernel)
theorem nsL3 : NScope ["_law_number_here", "_law_wrong_here", "_law_odd"] [] ["_law_number_here", "_law_wrong_here", "_law_odd"] (lamScope lx3) := nscope_by (by decide +kernel)
theorem nsL4 : NScope ["_law_number_here", "_law_divisor_here", "_law_odd"] [] ["_law_number_here", "_law_divisor_here", "_law_odd"] (lamScope lx4) := nscope_by (by decide +kernel)
theorem nsL5 : NScope ["_law_odd"] [] ["_law_odd"] (lamScope lx5) := nscope_by (by decide +kernel)
theorem lok1 (D : DefOk P w K mg base (L2.CX P w) "divided" 4 ["number", "divisor", "way"] (spDivd C)) : LOk P w K mg base (L2.CX P w) 5 f (lamF X (lamArgs lx1) (lamScope lx1) c') (lamBody lx1) ["_law_wrong_here", "_law_below", "_law_odd"] (sp3 C) := by
  refine lok_of (N := ["_law_wrong_here", "_law_below", "_law_odd"]) (ps := []) nsL1 rfl (fun dV doc pm ctv s us hl hd => ?_) (fun A outer s H ws Q E hr hl h => ?_)
  · obtain rfl := List.length_eq_zero_iff.mp hl
    rcases hd with ⟨_, rfl⟩ | ⟨n, _⟩
    · exact .of_eq rfl
    · exact (n rfl).elim
  · obtain ⟨x, y, z, rfl, q⟩ := h
    exact ⟨_, pe_def (E := E) D hr (by decide) (by rfl) (passes_call (takes_of rfl rfl rfl rfl) fun _ _ _ _ z => z) (pa_cons (pv 0) (pa_cons (pv 1) (pa_cons (pv 2) pa_nil))), ⟨_, rfl, _, rfl, _, rfl, q⟩⟩
theorem lok2 (D : DefOk P w K mg base (L2.CX P w) "divided" 4 ["number", "divisor", "way"] (spDivd C)) : LOk P w K mg base (L2.CX P w) 5 f (lamF X (lamArgs lx2) (lamScope lx2) c') (lamBody lx2) ["_law_below", "_law_odd"] (sp2 C) := by
  refine lok_of (N := ["_law_plain", "_law_below", "_law_odd"]) (ps := ["_law_plain"]) nsL2 rfl (fun dV doc pm ctv s us hl hd => ?_) (fun A outer s H ws Q E hr hl h => ?_)
  · match us, hl with
    | [u], _ =>
      rcases hd with ⟨n, _⟩ | ⟨_, T, rfl, o, ho, _, n, hs⟩
      · cases n
      · exact BindsTo.of_defaults (T := T) rfl ho hs rfl rfl
  · obtain ⟨y, z, rfl, q⟩ := h
    exact ⟨_, pe_def (E := E) D hr (by decide) (by rfl) (passes_call (takes_of rfl rfl rfl rfl) fun _ _ _ _ z => z) (pa_cons (pv 0) (pa_cons (pv 1) (pa_cons (pv 2) pa_nil))), ⟨_, rfl, _, rfl, _, rfl, q⟩⟩
theorem lok3 (D : DefOk P w K mg base (L2.CX P w) "divided" 4 ["number", "divisor", "way"] (spDivd C)) : LOk P w K mg base (L2.CX P w) 5 f (lamF X (lamArgs lx3) (lamScope lx3) c') (lamBody lx3) ["_law_number_here", "_law_wrong_here", "_law_odd"] (sp3 C) := by
  refine lok_of (N := ["_law_number_here", "_law_wrong_here", "_law_odd"]) (ps := []) nsL3 rfl (fun dV doc pm ctv s us hl hd => ?_) (fun A outer s H ws Q E hr hl h => ?_)
  · obtain rfl := List.length_eq_zero_iff.mp hl
    rcases hd with ⟨_, rfl⟩ | ⟨n, _⟩
    · exact .of_eq rfl
    · exact (n rfl).elim
  · obtain ⟨x, y, z, rfl, q⟩ := h
    exact ⟨_, pe_def (E := E) D hr (by decide) (by rfl) (passes_call (takes_of rfl rfl rfl rfl) fun _ _ _ _ z => z) (pa_cons (pv 0) (pa_cons (pv 1) (pa_cons (pv 2) pa_nil))), ⟨_, rfl, _, rfl, _, rfl, q⟩⟩
theorem lok4 (D : DefOk P w K mg base (L2.CX P w) "divided" 4 ["number", "divisor", "way"] (spDivd C)) : LOk P w K mg base (L2.CX P w) 5 f (lamF X (lamArgs lx4) (lamScope lx4) c') (lamBody lx4) ["_law_number_here", "_law_divisor_here", "_law_odd"] (sp3 C) := by
  refine lok_of (N := ["_law_number_here", "_law_divisor_here", "_law_odd"]) (ps := []) nsL4 rfl (fun dV doc pm ctv s us hl hd => ?_) (fun A outer s H ws Q E hr hl h => ?_)
  · obtain rfl := List.length_eq_zero_iff.mp hl
    rcases hd with ⟨_, rfl⟩ | ⟨n, _⟩
    · exact .of_eq rfl
    · exact (n rfl).elim
  · obtain ⟨x, y, z, rfl, q⟩ := h
    exact ⟨_, pe_def (E := E) D hr (by decide) (by rfl) (passes_call (takes_of rfl rfl rfl rfl) fun _ _ _ _ z => z) (pa_cons (pv 0) (pa_cons (pv 1) (pa_cons (pv 2) pa_nil))), ⟨_, rfl, _, rfl, _, rfl, q⟩⟩
theorem lok5 (D : DefOk P w K mg base (L2.CX P w) "mirrored" 4 ["way"] (spMirr C)) : LOk P w K mg base (L2.CX P w) 5 f (lamF X (lamArgs lx5) (lamScope lx5) c') (lamBody lx5) ["_law_odd"] (sp1 C) := by
  refine lok_of (N := ["_law_odd"]) (ps := []) nsL5 rfl (fun dV doc pm ctv s us hl hd => ?_) (fun A outer s H ws Q E hr hl h => ?_)
  · obtain rfl := List.length_eq_zero_iff.mp hl
    rcases hd with ⟨_, rfl⟩ | ⟨n, _⟩
    · exact .of_eq rfl
    · exact (n rfl).elim
  · obtain ⟨z, rfl, q⟩ := h
    exact ⟨_, pe_def (E := E) D hr (by decide) (by rfl) (passes_call (takes_of rfl rfl rfl rfl) fun _ _ _ _ z => z) (pa_cons (pv 0) pa_nil), ⟨_, rfl, q⟩⟩
/-- the five -/
inductive Five where
  | l1 | l2 | l3 | l4 | l5
def lam5 (X : Cx) (C : Addr) (σ : L2.St) : Five → Lam
  | .l1 => ⟨fun c' => lamF X (lamArgs lx1) (lamScope lx1) c', lamBody lx1, ["_law_wrong_here", "_law_below", "_law_odd"], [3, 4, 5].map (slotAt σ), sp3 C⟩
  | .l2 => ⟨fun c' => lamF X (lamArgs lx2) (lamScope lx2) c', lamBody lx2, ["_law_below", "_law_odd"], [4, 5].map (slotAt σ), sp2 C⟩
  | .l3 => ⟨fun c' => lamF X (lamArgs lx3) (lamScope lx3) c', lamBody lx3, ["_law_number_here", "_law_wrong_here", "_law_odd"], [1, 3, 5].map (slotAt σ), sp3 C⟩
  | .l4 => ⟨fun c' => lamF X (lamArgs lx4) (lamScope lx4) c', lamBody lx4, ["_law_number_here", "_law_divisor_here", "_law_odd"], [1, 2, 5].map (slotAt σ), sp3 C⟩
  | .l5 => ⟨fun c' => lamF X (lamArgs lx5) (lamScope lx5) c', lamBody lx5, ["_law_odd"], [5].map (slotAt σ), sp1 C⟩
theorem lok5s (D : DefOk P w K mg base (L2.CX P w) "divided" 4 ["number", "divisor", "way"] (spDivd C)) (D2 : DefOk P w K mg base (L2.CX P w) "mirrored" 4 ["way"] (spMirr C)) {σ : L2.St} (i : Five) (f c' : Addr) :
    LOk P w K mg base (L2.CX P w) 5 f ((lam5 X C σ i).nf c') (lam5 X C σ i).b (lam5 X C σ i).fr (lam5 X C σ i).sp := by
  cases i
  · exact lok1 D
  · exact lok2 D
  · exact lok3 D
  · exact lok4 D
  · exact lok5 D2
end
end K06

/-! own layer: rows of a lambda and a value. k06: refusals. -/
namespace Own
open PySem PySem.Spec PyProof.Rows L2 LamX NdefX
/-- at q stands the pair of a lambda and v -/
def RowAt (H : Hp) (nf : Addr → NF) (b : Expr) (v : V) (q : Addr) : Prop := ∃ f c' : Addr, H q = some (.tup [.ref f, v]) ∧ LamAt H f (nf c') b ∧ H (nf c').c = some (CodeO (nf c').c (nf c').qual)
section
variable {H H' : Hp} {nf : Addr → NF} {b : Expr} {v x : V} {q r : Addr} {l : List V} {o : HO}
theorem RowAt.ext (h : RowAt H nf b v q) (e : ExtN H H') : RowAt H' nf b v q := by
  obtain ⟨f, c', h1, h2, h3⟩ := h
  exact ⟨f, c', e _ _ h1 (fun ps z => by cases z), h2.ext e, e _ _ h3 codeO_ne⟩
theorem LamAt.put {f : Addr} {F : NF} (h : LamAt H f F b) (hr : H r = some (.lst l)) : LamAt (upd H r o) f F b := by
  obtain ⟨dV, h1, h2⟩ := h
  have a : f ≠ r := ne_of h1 hr (by unfold LamO; intro z; cases z)
  refine ⟨dV, (upd_ne a).trans h1, ?_⟩
  rcases h2 with z | ⟨n, T, z, q⟩
  · exact .inl z
  · have a : T ≠ r := ne_of q hr (by intro z; cases z)
    exact .inr ⟨n, T, z, (upd_ne a).trans q⟩
theorem RowAt.put (h : RowAt H nf b v q) (hr : H r = some (.lst l)) : RowAt (upd H r o) nf b v q := by
  obtain ⟨f, c', h1, h2, h3⟩ := h
  have a : q ≠ r := ne_of h1 hr (by intro z; cases z)
  have c : (nf c').c ≠ r := ne_of h3 hr (by unfold CodeO; intro z; cases z)
  exact ⟨f, c', (upd_ne a).trans h1, h2.put hr, (upd_ne c).trans h3⟩
theorem Odd.ext (h : Odd H x) (e : ExtN H H') : Odd H' x := by
  cases h with
  | flat h => exact .flat h
  | lst e' f => exact .lst (e _ _ e' (fun ps z => by cases z)) f
  | tup e' f => exact .tup (e _ _ e' (fun ps z => by cases z)) f
  | dct e' n f => exact .dct (e _ _ e' (fun ps z => by cases z)) n f
theorem Odd.off (h : Odd H x) (n : H r = none) : x ≠ .ref r := by
  cases h with
  | flat h => intro z; rw [z] at h; cases h
  | lst e f => intro z; rw [V.ref.inj z, n] at e; cases e
  | tup e f => intro z; rw [V.ref.inj z, n] at e; cases e
  | dct e n' f => intro z; rw [V.ref.inj z, n] at e; cases e
theorem Odd.put (h : Odd H x) (n : x ≠ .ref r) : Odd (upd H r o) x := by
  cases h with
  | flat h => exact .flat h
  | lst e f => exact .lst ((upd_ne (fun z => n (by rw [z]))).trans e) f
  | tup e f => exact .tup ((upd_ne (fun z => n (by rw [z]))).trans e) f
  | dct e n' f => exact .dct ((upd_ne (fun z => n (by rw [z]))).trans e) n' f
theorem tabs_put {T : List (Addr × Str)} (h : Tabs T H) (hr : H r = some (.lst l)) : Tabs T (upd H r o) := fun p hp => by
  obtain ⟨ps, h1, h2, h3⟩ := h p hp
  have a : p.1 ≠ r := ne_of h1 hr (by intro z; cases z)
  refine ⟨ps, (upd_ne a).trans h1, h2, fun pos cv hc => ?_⟩
  obtain ⟨c, e1, e2⟩ := h3 pos cv hc
  have b : c ≠ r := ne_of e2 hr (by unfold CodeO; intro z; cases z)
  exact ⟨c, e1, (upd_ne b).trans e2⟩
theorem extN_new (h : H r = none) : ExtN H (upd H r o) := ExtN.of fun b u e => (upd_ne (ne_of_none e h)).trans e
theorem ExtN.same (s : Same H H') : ExtN H H' := ExtN.of s
end
theorem Pen_odd {d : Addr} {B : Int} (h : K06.Pen H d B) (o : Odd H x) : x ≠ .ref d := by
  obtain ⟨p, ns, c, l, e, _⟩ := h.ex
  intro z
  rw [z] at o
  cases o with
  | flat h => cases h
  | lst e' f => rw [e] at e'; cases e'
  | tup e' f => rw [e] at e'; cases e'
  | dct e' n f =>
    rw [e] at e'
    cases e'
    have := f _ (List.mem_cons_self ..)
    cases this
theorem Odd.keep {d : Addr} (h : Odd H x) (n : x ≠ .ref d) (k : K06.Keep d H H') : Odd H' x := by
  cases h with
  | flat h => exact .flat h
  | lst e f => exact .lst (k _ _ (fun z => n (by rw [z])) e) f
  | tup e f => exact .tup (k _ _ (fun z => n (by rw [z])) e) f
  | dct e n' f => exact .dct (k _ _ (fun z => n (by rw [z])) e) n' f
theorem tabs_keep {T : List (Addr × Str)} {d : Addr} {B : Int} (h : Tabs T H) (hp : K06.Pen H d B) (k : K06.Keep d H H') : Tabs T H' := fun p hq => by
  obtain ⟨pp, ns, cc, ll, ed, _⟩ := hp.ex
  obtain ⟨ps, h1, h2, h3⟩ := h p hq
  have a : p.1 ≠ d := ne_of h1 ed (by intro z; cases z)
  refine ⟨ps, k _ _ a h1, h2, fun pos cv hc => ?_⟩
  obtain ⟨c, e1, e2⟩ := h3 pos cv hc
  have b : c ≠ d := ne_of e2 ed (by unfold CodeO; intro z; cases z)
  exact ⟨c, e1, k _ _ b e2⟩
/-- a list at r of pairs of a lambda and a value; x, y: two odd values -/
structure Bag {ι : Type} (nf : ι → Addr → NF) (bf : ι → Expr) (H : Hp) (r : Addr) (R : List (ι × V × Addr)) (x y : V) : Prop where
  l : H r = some (.lst (R.map fun p => .ref p.2.2))
  rows : ∀ p ∈ R, RowAt H (nf p.1) (bf p.1) p.2.1 p.2.2
  ox : Odd H x
  oy : Odd H y
  xr : x ≠ .ref r
  yr : y ≠ .ref r
theorem Bag.ext {ι : Type} {nf : ι → Addr → NF} {bf : ι → Expr} {R : List (ι × V × Addr)} {y : V} (h : Bag nf bf H r R x y) (e : ExtN H H') : Bag nf bf H' r R x y :=
  ⟨e _ _ h.l (fun ps z => by cases z), fun p hp => (h.rows p hp).ext e, h.ox.ext e, h.oy.ext e, h.xr, h.yr⟩
theorem Bag.set {ι : Type} {nf : ι → Addr → NF} {bf : ι → Expr} {R : List (ι × V × Addr)} {y : V} {D : Addr} {zs : List V} (h : Bag nf bf H r R x y) (hD : H D = some (.lst zs)) (n : D ≠ r) (nx : x ≠ .ref D) (ny : y ≠ .ref D) : Bag nf bf (upd H D o) r R x y :=
  ⟨(upd_ne n.symm).trans h.l, fun p hp => (h.rows p hp).put hD, h.ox.put nx, h.oy.put ny, h.xr, h.yr⟩
theorem Bag.add {ι : Type} {nf : ι → Addr → NF} {bf : ι → Expr} {R : List (ι × V × Addr)} {y v : V} {H1 : Hp} {i : ι} {f c' q : Addr} (h : Bag nf bf H r R x y) (e : ExtN H H1) (a : LamAt H1 f (nf i c') (bf i)) (c : H1 (nf i c').c = some (CodeO (nf i c').c (nf i c').qual)) (nq : H1 q = none) :
    upd H1 q (.tup [.ref f, v]) r = some (.lst (R.map fun p => .ref p.2.2)) ∧ Bag nf bf (upd (upd H1 q (.tup [.ref f, v])) r (.lst (R.map (fun p => .ref p.2.2) ++ [.ref q]))) r (R ++ [(i, v, q)]) x y := by
  have g := (h.ext e).ext (extN_new (o := .tup [.ref f, v]) nq)
  have e2 := extN_new (o := HO.tup [.ref f, v]) nq
  refine ⟨g.l, by rw [upd_same, List.map_append]; rfl, fun p hp => ?_, g.ox.put g.xr, g.oy.put g.yr, g.xr, g.yr⟩
  rcases List.mem_append.mp hp with hp | hp
  · exact (g.rows p hp).put g.l
  · rw [List.mem_singleton.mp hp]
    exact RowAt.put ⟨f, c', upd_same, a.ext e2, e2 _ _ c codeO_ne⟩ g.l
/-- a def of the text and its code object -/
structure AtC (K : PySem.W.Frag) (mg : Str → Option Value) (x : Str) (st : Stmt) (ps : List Str) (c : Addr) : Prop where
  ex : ∃ (f : Addr) (oc : Value) (od : Option Addr) (kV doc pm : Value) (an : Option Addr) (ct : Value) (osl : Array (Option Value)), K.lookup f = some ⟨oc, od, .func (PySem.W.fnOf x x (defArgs st) (defBody st) (defScope st) .none kV doc pm an (.ref c) ct), osl⟩ ∧ PySem.W.codeIn K (.ref c) x = true ∧
    mg x = some (.ref f) ∧ PySem.W.keepIn K (.ref f) = true ∧ Binds K (PySem.W.fnOf x x (defArgs st) (defBody st) (defScope st) .none kV doc pm an (.ref c) ct) ps []
end Own
namespace K06
open PySem PySem.Spec PyProof.Rows L2 LamX NdefX Own
def qL : Str := (envOfC "_law_refusals" (defScope sRefs) 0 0 .none).qual ++ "<lambda>"
abbrev nRefs : List Str := ["_law_pen", "_law_number_here", "_law_divisor_here", "_law_wrong_here", "_law_below", "_law_odd", "_law_rows", "_law_row"]
theorem scRefs : FnScope nRefs ["_law_pen", "_law_number_here", "_law_divisor_here"] (defScope sRefs) := ⟨rfl, rfl, rfl, by decide +kernel, rfl, by decide +kernel, by decide +kernel⟩
theorem fr1 : ∀ y ∈ (lamScope lx1).names, y.2 = .free → (defScope sRefs).names.lookup y.1 = some .cell ∨ (defScope sRefs).names.lookup y.1 = some .free := by decide +kernel
theorem fr2 : ∀ y ∈ (lamScope lx2).names, y.2 = .free → (defScope sRefs).names.lookup y.1 = some .cell ∨ (defScope sRefs).names.lookup y.1 = some .free := by decide +kernel
theorem fr3 : ∀ y ∈ (lamScope lx3).names, y.2 = .free → (defScope sRefs).names.lookup y.1 = some .cell ∨ (defScope sRefs).names.lookup y.1 = some .free := by decide +kernel
theorem fr4 : ∀ y ∈ (lamScope lx4).names, y.2 = .free → (defScope sRefs).names.lookup y.1 = some .cell ∨ (defScope sRefs).names.lookup y.1 = some .free := by decide +kernel
theorem fr5 : ∀ y ∈ (lamScope lx5).names, y.2 = .free → (defScope sRefs).names.lookup y.1 = some .cell ∨ (defScope sRefs).names.lookup y.1 = some .free := by decide +kernel
theorem in1 : ∀ y ∈ (["_law_wrong_here", "_law_below", "_law_odd"] : List Str), (y, NameKind.free) ∈ (lamScope lx1).names := by decide +kernel
theorem in2 : ∀ y ∈ (["_law_below", "_law_odd"] : List Str), (y, NameKind.free) ∈ (lamScope lx2).names := by decide +kernel
theorem in3 : ∀ y ∈ (["_law_number_here", "_law_wrong_here", "_law_odd"] : List Str), (y, NameKind.free) ∈ (lamScope lx3).names := by decide +kernel
theorem in4 : ∀ y ∈ (["_law_number_here", "_law_divisor_here", "_law_odd"] : List Str), (y, NameKind.free) ∈ (lamScope lx4).names := by decide +kernel
theorem in5 : ∀ y ∈ (["_law_odd"] : List Str), (y, NameKind.free) ∈ (lamScope lx5).names := by decide +kernel
section
variable {P : Program} {w : World} {K : PySem.W.Frag} {mg : Str → Option Value} {base : Heap} {C aW aM aH : Addr} {eM eH : Array DictEntry} {nM nH : Nat}
def lcScope : Expr → Scope
  | .ListComp _ _ s _ => s
  | _ => ⟨.function, [], false, false, []⟩
def retArg : Stmt → Expr
  | .Return (some (.Call _ (a :: _) _ _)) _ => a
  | _ => noE
theorem blkR : BlkOk nRefs (defScope sRefs) (lcScope (retArg (bRefs 6))) [("_law_row", 7)] := blkOk_by (by decide +kernel)
/-- each row's value is the one that is refused -/
theorem told5 {X : Cx} {H : Hp} {dp rw : V} {n dv bl : Int} {x od : V} (h0 : 0 < dv) (hbl : bl ≤ 0) (ox : Odd H x) (oo : Odd H od) (nx : Own.isInt x = false) (nw : isWay od = false) {q1 q2 q3 q4 q5 : Addr} {y : Option V} :
    ∀ p ∈ [(Five.l1, x, q1), (Five.l2, V.int bl, q2), (Five.l3, x, q3), (Five.l4, od, q4), (Five.l5, od, q5)], Odd H p.2.1 ∧ ∀ (Q' : VK) (E' : XK), Bad C "value" p.2.1 H E' →
      (lam5 X C [some dp, some (.int n), some (.int dv), some x, some (.int bl), some od, some rw, y] p.1).sp (lam5 X C [some dp, some (.int n), some (.int dv), some x, some (.int bl), some od, some rw, y] p.1).ws H Q' E' := by
  have way : ∀ t, od = .str t → t ∈ waysL → False := fun t e ht => by
    rw [e] at nw
    exact of_decide_eq_false nw ht
  have gd : goodDiv x = false := by cases x <;> first | rfl | (simp [Own.isInt] at nx)
  have gb : goodDiv (.int bl) = false := decide_eq_false (by omega)
  intro p hp
  simp only [List.mem_cons, List.not_mem_nil, or_false] at hp
  rcases hp with rfl | rfl | rfl | rfl | rfl
  · exact ⟨ox, fun Q' E' bad => ⟨x, .int bl, od, rfl, x, .int bl, od, rfl, ox.thing, .int _, oo.thing, fun _ => bad, fun z => absurd (z.symm.trans nx) (by decide), fun z => absurd (z.symm.trans nx) (by decide), fun m d t e => by rw [e] at nx; cases nx⟩⟩
  · exact ⟨.flat rfl, fun Q' E' bad => ⟨.int bl, od, rfl, .int 5, .int bl, od, rfl, .int _, .int _, oo.thing, (fun z => by cases z), fun _ _ => bad, fun _ z => absurd (z.symm.trans gb) (by decide), fun m d t _ e _ h1 => by cases e; omega⟩⟩
  · exact ⟨ox, fun Q' E' bad => ⟨.int n, x, od, rfl, .int n, x, od, rfl, .int _, ox.thing, oo.thing, (fun z => by cases z), fun _ _ => bad, fun _ z => absurd (z.symm.trans gd) (by decide), fun m d t _ e => by rw [e] at nx; cases nx⟩⟩
  · exact ⟨oo, fun Q' E' bad => ⟨.int n, .int dv, od, rfl, .int n, .int dv, od, rfl, .int _, .int _, oo.thing, (fun z => by cases z), (fun _ z => absurd h0 (by have := of_decide_eq_false z; omega)), fun _ _ _ => bad, fun m d t _ _ e _ ht => (way t e ht).elim⟩⟩
  · exact ⟨oo, fun Q' E' bad => ⟨od, rfl, od, rfl, oo.thing, fun z hz e => (way z e hz).elim, fun _ => bad⟩⟩
theorem lam5_nf {X : Cx} {σ : L2.St} (i : Five) : (lam5 X C σ i).nf = (lam5 X C [] i).nf ∧ (lam5 X C σ i).b = (lam5 X C [] i).b := by
  cases i <;> exact ⟨rfl, rfl⟩
/-- what the comprehension goes over: five rows; their values are refused -/
def spRefs (Pt : Addr) : Sp := fun vs H Q _ => ∃ (d : Addr) (n dv B : Int), vs = [.ref d, .int n, .int dv] ∧ Pen H d B ∧ B ≤ 100000000 ∧ 0 < dv ∧ dv.natAbs < 2 ^ 1000 ∧ Tabs [(Pt, qL)] H ∧ ∀ H', Q (.bl true) H'
theorem ok_refs {c Pt : Addr} (A : AtC K mg "_law_refusals" sRefs ["_law_pen", "_law_number_here", "_law_divisor_here"] c) (TB : TabB base mg c Pt) (T : Txt P w K mg base C aW aM aH eM nM eH nH) (D1 : DefOk P w K mg base CX0 "_law_draw" 1 ["_law_pen", "_law_span"] spDraw)
    (D2 : DefOk P w K mg base CX0 "_law_pick" 2 ["_law_pen", "_law_some"] spPick) (D3 : DefOk P w K mg base CX0 "_law_wrong" 3 ["_law_pen"] spWrong) (D4 : DefOk P w K mg base (L2.CX P w) "divided" 4 ["number", "divisor", "way"] (spDivd C))
    (D5 : DefOk P w K mg base (L2.CX P w) "mirrored" 4 ["way"] (spMirr C)) (D6 : LamDefAt P w K mg base "_law_refused" 6 (spRefd C)) : DefOk P w K mg base CX0 "_law_refusals" 7 ["_law_pen", "_law_number_here", "_law_divisor_here"] (spRefs Pt) := by
  obtain ⟨g, oc, od, kV, doc, pm, an, ct, osl, lk, hcd, gm, kp, bd⟩ := A.ex
  refine ⟨g, _, fn_of lk hcd scRefs (fun vs H Q E h => ?_) (fun A outer s H vs Q E hr h => ?_), gm, kp, bd⟩
  · obtain ⟨d, n, dv, B, rfl, _⟩ := h
    rfl
  · obtain ⟨d, n, dv, B, rfl, hp, hB, h0, hb, hT, q⟩ := h
    have nd := scRefs.nd
    have hm : (Pt, qL) ∈ [(Pt, qL)] := List.mem_singleton.mpr rfl
    have hu : ∀ p ∈ [(Pt, qL)], p.1 = Pt → p.2 = qL := fun p hp _ => by rw [List.mem_singleton.mp hp]
    refine ⟨_, pss_cons (ps_asg (pe_tup (pa_cons (pe_def D3 hr (by decide) (by rfl) pass0 (pa_cons (pv 0) pa_nil)) (pa_cons (pe_un un_neg (pe_def D1 hr (by decide) (by rfl) pass0 (pa_cons (pv 0) (pa_cons pe_int pa_nil)))) pa_nil)))
        (pg_tup rfl (pgs_cons (pg_name (i := 3) nd rfl (.inr rfl)) (pgs_cons (pg_name (i := 4) nd rfl (.inr rfl)) pgs_nil))))
      (pss_cons (ps_set (i := 5) nd rfl (.inr rfl) (pe_def D2 hr (by decide) (by rfl) pass0 (pa_cons (pv 0) (pa_cons (pe_lst (pa_cons pe_non (pa_cons pe_int (pa_cons pe_str (pa_cons pe_str (pa_cons pe_str (pa_cons pe_str (pa_cons pe_str (pa_cons pe_str
        (pa_cons (pe_tup (pa_cons pe_str pa_nil)) (pa_cons (pe_lst (pa_cons pe_str pa_nil)) (pa_cons pe_dnewK pa_nil)))))))))))) pa_nil))))
      (pss_cons (ps_set (i := 6) nd rfl (.inl rfl) (pe_lst (pa_cons (pe_tup (pa_cons (pe_lamV TB rfl hm hu rfl rfl fr1) (pa_cons (pv 3) pa_nil))) (pa_cons (pe_tup (pa_cons (pe_lamV1 TB rfl hm hu rfl rfl fr2) (pa_cons (pv 4) pa_nil))) pa_nil))))
      (pss_cons (ps_expr (pe_bm PySem.F.plainAttrs_list PySem.F.slot_list_append PySem.F.type_list_append mt_append (pv 6) (pa_cons (pe_tup (pa_cons (pe_lamV TB rfl hm hu rfl rfl fr3) (pa_cons (pv 3) pa_nil))) pa_nil)))
      (pss_cons (ps_expr (pe_bm PySem.F.plainAttrs_list PySem.F.slot_list_append PySem.F.type_list_append mt_append (pv 6) (pa_cons (pe_tup (pa_cons (pe_lamV TB rfl hm hu rfl rfl fr4) (pa_cons (pv 5) pa_nil))) pa_nil)))
      (pss_cons (ps_expr (pe_bm PySem.F.plainAttrs_list PySem.F.slot_list_append PySem.F.type_list_append mt_append (pv 6) (pa_cons (pe_tup (pa_cons (pe_lamV TB rfl hm hu rfl rfl fr5) (pa_cons (pv 5) pa_nil))) pa_nil)))
      (pss_one (ps_ret (pe_callB (cr_all rfl) (by rfl) T.all PyProof.Rows.boot_all (pa_cons (pe_lcD (own := [("_law_row", 7)]) (te := fun σ => tLamCall (lam5 (cxOf CX0 P w K mg base nRefs "_law_refusals" (defScope sRefs) g (.ref c) A outer s H E) C σ) (spRefd C) (tCons (tOp (rIxT K) (tVar 7) (tC (.int 0))) (tCons (tOp (rIxT K) (tVar 7) (tC (.int 1))) tNil))) rfl nd (pi_list (pv 6)) blkR (fun _ _ _ _ _ => pg_name (i := 7) nd rfl (.inl rfl))
        (fun pins σ s' H' Cc cl fp I hfp => pe_lamcall (L := lam5 _ C σ) D6 (show 5 < 6 by decide) hr (by decide) (lok5s D4 D5) (fun i c' => ?_) (fun i c' b => ?_) (by rfl)
          (pa_cons (pe_ix ix_tup (pv 7) pe_int (fun _ _ => rfl)) (pa_cons (pe_ix ix_tup (pv 7) pe_int (fun _ _ => rfl)) pa_nil)))) pa_nil))))))))), ?_⟩
    · cases i
      · exact cells_blk I fr1 in1 rfl
      · exact cells_blk I fr2 in2 rfl
      · exact cells_blk I fr3 in3 rfl
      · exact cells_blk I fr4 in4 rfl
      · exact cells_blk I fr5 in5 rfl
    · cases i
      · exact cells_fp I fr1 hfp b
      · exact cells_fp I fr2 hfp b
      · exact cells_fp I fr3 hfp b
      · exact cells_fp I fr4 hfp b
      · exact cells_fp I fr5 hfp b
    · refine ⟨_, rfl, d, B, rfl, hp, by omega, fun x H1 wx k1 p1 => ?_⟩
      refine ⟨_, rfl, d, 40, B + 1, rfl, p1, by omega, by decide, by decide, fun v H2 b1 b2 k2 p2 => ⟨v, rfl, by show 2 ≤ sizeLine; decide, fun p np => ?_⟩⟩
      refine ⟨p, _, rfl, SqT.of upd_same, rfl, _, _, rfl, _, _, rfl, rfl, ?_⟩
      have ox2 : Odd H2 x := wx.od.keep (Pen_odd p1 wx.od) k2
      have T2 : Tabs [(Pt, qL)] H2 := tabs_keep (tabs_keep hT hp k1) p1 k2
      have s3 : Same H2 (upd H2 p (.tup [x, .int (-v)])) := same_new np
      have ox3 := ox2.same s3
      have T3 := T2.ext s3
      have p3 := p2.same s3
      generalize upd H2 p (.tup [x, .int (-v)]) = H3 at ox3 T3 p3 ⊢
      have hbl : -v ≤ 0 := by omega
      dsimp only [gName, List.set]
      generalize -v = bl at hbl ⊢
      -- the odd one
      refine ⟨_, rfl, by show 1 ≤ sizeLine; decide, fun t1 n1 => ⟨by show 1 ≤ sizeLine; decide, fun t2 n2 => ?_⟩⟩
      intro t3 n3
      refine ⟨by show 11 ≤ sizeLine; decide, fun l nl => ?_⟩
      generalize hh1 : upd H3 t1 (HO.tup [.str "cut"]) = G1 at n2 n3 nl ⊢
      have g1 : Same H3 G1 := hh1 ▸ same_new n1
      have e1 : G1 t1 = some (HO.tup [.str "cut"]) := hh1 ▸ upd_same
      generalize hh2 : upd G1 t2 (HO.lst [.str "cut"]) = G2 at n3 nl ⊢
      have g2 : Same G1 G2 := hh2 ▸ same_new n2
      have e2 : G2 t2 = some (HO.lst [.str "cut"]) := hh2 ▸ upd_same
      generalize hh3 : upd G2 t3 (HO.dK []) = G3 at nl ⊢
      have g3 : Same G2 G3 := hh3 ▸ same_new n3
      have e3 : G3 t3 = some (HO.dK []) := hh3 ▸ upd_same
      generalize hh4 : upd G3 l (HO.lst [.non, .int 0, .str "", .str "up", .str "Floor", .str "floors", .str "half", .str "halfup ", .ref t1, .ref t2, .ref t3]) = G4
      have g4 : Same G3 G4 := hh4 ▸ same_new nl
      have e4 : G4 l = some (HO.lst [.non, .int 0, .str "", .str "up", .str "Floor", .str "floors", .str "half", .str "halfup ", .ref t1, .ref t2, .ref t3]) := hh4 ▸ upd_same
      have f1 := g4 _ _ (g3 _ _ (g2 _ _ e1))
      have f2 := g4 _ _ (g3 _ _ e2)
      have f3 := g4 _ _ e3
      have p4 := (((p3.same g1).same g2).same g3).same g4
      have T4 := (((T3.ext g1).ext g2).ext g3).ext g4
      have ox4 := (((ox3.same g1).same g2).same g3).same g4
      refine ⟨d, l, _, _, rfl, e4, by simp, by show 11 ≤ 1000; decide, p4, by omega, fun od H5 hod k5 p5 => ?_⟩
      have T5 := tabs_keep T4 p4 k5
      have ox5 : Odd H5 x := ox4.keep (Pen_odd p4 ox4) k5
      have o4 : Odd G4 od ∧ isWay od = false := by
        simp only [List.mem_cons, List.not_mem_nil, or_false] at hod
        rcases hod with rfl | rfl | rfl | rfl | rfl | rfl | rfl | rfl | rfl | rfl | rfl
        · exact ⟨.flat rfl, rfl⟩
        · exact ⟨.flat rfl, rfl⟩
        · exact ⟨.flat (by decide +kernel), by decide +kernel⟩
        · exact ⟨.flat (by decide +kernel), by decide +kernel⟩
        · exact ⟨.flat (by decide +kernel), by decide +kernel⟩
        · exact ⟨.flat (by decide +kernel), by decide +kernel⟩
        · exact ⟨.flat (by decide +kernel), by decide +kernel⟩
        · exact ⟨.flat (by decide +kernel), by decide +kernel⟩
        · exact ⟨.tup f1 (by decide +kernel), rfl⟩
        · exact ⟨.lst f2 (by decide +kernel), rfl⟩
        · exact ⟨.dct f3 (by simp) (by simp), rfl⟩
      have oo5 : Odd H5 od := o4.1.keep (Pen_odd p4 o4.1) k5
      have nw := o4.2
      have nx := wx.ni
      -- the rows
      refine ⟨T5, fun a1 c1 H6 x6 T6 _ l1 d1 => ⟨_, rfl, by show 2 ≤ sizeLine; decide, fun q1 m1 => ?_⟩⟩
      have y6 := extN_new (o := HO.tup [.ref a1, x]) m1
      refine ⟨T6.ext (same_new m1), fun a2 c2 H7 x7 T7 _ l2 d2 => ⟨_, rfl, by show 2 ≤ sizeLine; decide, fun q2 m2 => ⟨by show 2 ≤ sizeLine; decide, fun r nr => ?_⟩⟩⟩
      have y7 := extN_new (o := HO.tup [.ref a2, .int bl]) m2
      have ox8 := (((ox5.ext x6).ext y6).ext x7).ext y7
      have oo8 := (((oo5.ext x6).ext y6).ext x7).ext y7
      have y8 := extN_new (o := HO.lst [.ref q1, .ref q2]) nr
      have G : ∀ X : Cx, X = cxOf CX0 P w K mg base nRefs "_law_refusals" (defScope sRefs) g (.ref c) A outer s H E → Bag (fun i => (lam5 X C [] i).nf) (fun i => (lam5 X C [] i).b) (upd (upd H7 q2 (.tup [.ref a2, .int bl])) r (.lst [.ref q1, .ref q2])) r [(Five.l1, x, q1), (Five.l2, .int bl, q2)] x od := fun X hX => by
        subst hX
        refine ⟨upd_same, fun p hp => ?_, ox8.ext y8, oo8.ext y8, ox8.off nr, oo8.off nr⟩
        simp only [List.mem_cons, List.not_mem_nil, or_false] at hp
        rcases hp with rfl | rfl
        · exact (((RowAt.ext ⟨a1, c1, upd_same, l1.ext y6, y6 _ _ d1 codeO_ne⟩ x7).ext y7).ext y8)
        · exact RowAt.ext ⟨a2, c2, upd_same, l2.ext y7, y7 _ _ d2 codeO_ne⟩ y8
      have G8 := G _ rfl
      have T8 : Tabs [(Pt, qL)] (upd (upd H7 q2 (.tup [.ref a2, .int bl])) r (.lst [.ref q1, .ref q2])) := (T7.ext (same_new m2)).ext (same_new nr)
      generalize upd (upd H7 q2 (.tup [.ref a2, .int bl])) r (.lst [.ref q1, .ref q2]) = H8 at G8 T8 ⊢
      refine ⟨_, rfl, .inl ⟨rfl, _, SqL.of G8.l⟩, T8, fun a3 c3 H9 x9 T9 _ l3 d3 => ⟨_, rfl, by show 2 ≤ sizeLine; decide, fun q3 m3 => ?_⟩⟩
      obtain ⟨u9, G9⟩ := G8.add (i := Five.l3) (v := x) x9 l3 d3 m3
      refine ⟨r, _, _, rfl, rfl, u9, by show 2 < sizeLine; decide, ?_⟩
      have T9' := tabs_put (T9.ext (same_new m3)) (o := .lst (([(Five.l1, x, q1), (Five.l2, V.int bl, q2)] : List (Five × V × Addr)).map (fun p => V.ref p.2.2) ++ [.ref q3])) u9
      generalize upd (upd H9 q3 (.tup [.ref a3, x])) r (.lst (([(Five.l1, x, q1), (Five.l2, V.int bl, q2)] : List (Five × V × Addr)).map (fun p => V.ref p.2.2) ++ [.ref q3])) = H10 at G9 T9' ⊢
      refine ⟨_, rfl, .inl ⟨rfl, _, SqL.of G9.l⟩, T9', fun a4 c4 H11 x11 T11 _ l4 d4 => ⟨_, rfl, by show 2 ≤ sizeLine; decide, fun q4 m4 => ?_⟩⟩
      obtain ⟨u11, G11⟩ := G9.add (i := Five.l4) (v := od) x11 l4 d4 m4
      refine ⟨r, _, _, rfl, rfl, u11, by show 3 < sizeLine; decide, ?_⟩
      have T11' := tabs_put (T11.ext (same_new m4)) (o := .lst (([(Five.l1, x, q1), (Five.l2, V.int bl, q2)] ++ [(Five.l3, x, q3)] : List (Five × V × Addr)).map (fun p => V.ref p.2.2) ++ [.ref q4])) u11
      generalize upd (upd H11 q4 (.tup [.ref a4, od])) r (.lst (([(Five.l1, x, q1), (Five.l2, V.int bl, q2)] ++ [(Five.l3, x, q3)] : List (Five × V × Addr)).map (fun p => V.ref p.2.2) ++ [.ref q4])) = H12 at G11 T11' ⊢
      refine ⟨_, rfl, .inl ⟨rfl, _, SqL.of G11.l⟩, T11', fun a5 c5 H13 x13 T13 _ l5 d5 => ⟨_, rfl, by show 2 ≤ sizeLine; decide, fun q5 m5 => ?_⟩⟩
      obtain ⟨u13, G13⟩ := G11.add (i := Five.l5) (v := od) x13 l5 d5 m5
      refine ⟨r, _, _, rfl, rfl, u13, by show 4 < sizeLine; decide, ?_⟩
      generalize upd (upd H13 q5 (.tup [.ref a5, od])) r (.lst (([(Five.l1, x, q1), (Five.l2, V.int bl, q2)] ++ [(Five.l3, x, q3)] ++ [(Five.l4, od, q4)] : List (Five × V × Addr)).map (fun p => V.ref p.2.2) ++ [.ref q5])) = H14 at G13 ⊢
      -- the comprehension
      refine ⟨_, rfl, r, rfl, ⟨_, SqL.of G13.l⟩, fun D nD => lc_list (K := K) (fun i H' => Bag _ _ H' r _ x od ∧ x ≠ .ref D ∧ od ≠ .ref D ∧ D ≠ r ∧ H' D = some (.lst (List.replicate i (.bl true)))) ⟨G13.ext (extN_new nD), G13.ox.off nD, G13.oy.off nD, ?_, upd_same⟩ (fun i H' _ hb => SqL.of hb.1.l) ?_ ?_⟩
      · exact (ne_of_none G13.l nD).symm
      · rintro i a H' ha ⟨G, n1, n2, n3, hD⟩
        obtain ⟨hi, _⟩ := List.getElem?_eq_some_iff.mp ha
        rw [List.getElem?_map] at ha
        obtain ⟨pr, hpr, rfl⟩ := Option.map_eq_some_iff.mp ha
        have hmem := List.mem_of_getElem? hpr
        have h5 : i < 5 := hi
        obtain ⟨f, c', h1, h2, h3⟩ := G.rows pr hmem
        obtain ⟨o1, o2⟩ := told5 (X := cxOf CX0 P w K mg base nRefs "_law_refusals" (defScope sRefs) g (.ref c) A outer s H E) (C := C) (H := H') (dp := .ref d) (rw := .ref r) (y := none) (n := n) h0 hbl G.ox G.oy nx nw pr hmem
        refine ⟨rfl, ?_⟩
        unfold tYes
        dsimp only
        rw [if_pos rfl]
        refine ⟨_, rfl, pr.2.2, _, 0, _, rfl, rfl, SqT.of h1, rfl, _, rfl, pr.2.2, _, 1, _, rfl, rfl, SqT.of h1, rfl, pr.1, f, c', [pr.2.1], rfl, ?_, ?_, pr.2.1, rfl, o1, o2, fun H2 s2 => ⟨_, s2 _ _ hD, ?_, ?_, n1, n2, n3, ?_⟩⟩
        · rw [(lam5_nf pr.1).1, (lam5_nf pr.1).2]
          exact h2
        · rw [(lam5_nf pr.1).1]
          exact h3
        · rw [List.length_replicate]
          exact Nat.lt_of_lt_of_le h5 (by decide)
        · exact (G.ext (ExtN.of s2)).set (s2 _ _ hD) n3 n1 n2
        · rw [upd_same, List.replicate_succ']
      · rintro H' ⟨G, n1, n2, n3, hD⟩
        exact ⟨D, [true, true, true, true, true], rfl, SqL.of hD, q _⟩
end
end K06

/-! k06: the law. -/
namespace K06
open PySem PySem.Spec PyProof.Rows L2 LamX NdefX Own
theorem mirr_of {z y : Str} (h : (mirrL.lookup z).getD z = y) : mirr z = y := h
theorem goes_mirr {z : Str} (hz : z ∈ waysL) (b p : Int) : goesUp (mirr z) (-b - 1) (-p) = !goesUp z b p := by
  rcases way_cases hz with rfl | rfl | rfl | rfl | rfl | rfl | rfl | rfl | rfl
  · rw [mirr_of (y := "ceiling") (by decide +kernel), goes_none (k := 3) (by decide +kernel) (by decide +kernel), goes_none (k := 4) (by decide +kernel) (by decide +kernel)]
    rfl
  · rw [mirr_of (y := "floor") (by decide +kernel), goes_none (k := 4) (by decide +kernel) (by decide +kernel), goes_none (k := 3) (by decide +kernel) (by decide +kernel)]
    rfl
  · rw [mirr_of (y := "cut") (by decide +kernel), goes_none (k := 1) (by decide +kernel) (by decide +kernel), goes_none (k := 1) (by decide +kernel) (by decide +kernel)]
    show decide (-b - 1 < 0) = !decide (b < 0)
    by_cases h : b < 0
    · rw [decide_eq_true h, decide_eq_false (by omega)]; rfl
    · rw [decide_eq_false h, decide_eq_true (by omega)]; rfl
  · rw [mirr_of (y := "away") (by decide +kernel), goes_none (k := 2) (by decide +kernel) (by decide +kernel), goes_none (k := 2) (by decide +kernel) (by decide +kernel)]
    show decide (0 ≤ -b - 1) = !decide (0 ≤ b)
    by_cases h : 0 ≤ b
    · rw [decide_eq_true h, decide_eq_false (by omega)]; rfl
    · rw [decide_eq_false h, decide_eq_true (by omega)]; rfl
  · rw [mirr_of (y := "halfdown") (by decide +kernel), goes_some (k := 4) (y := "floor") (by decide +kernel) (by decide +kernel), goes_some (k := 3) (y := "ceiling") (by decide +kernel) (by decide +kernel)]
    by_cases h : p = 0
    · rw [if_pos h, if_pos (by omega)]; rfl
    · rw [if_neg h, if_neg (by omega)]
      by_cases h : 0 < p
      · rw [decide_eq_true h, decide_eq_false (by omega)]; rfl
      · rw [decide_eq_false h, decide_eq_true (by omega)]; rfl
  · rw [mirr_of (y := "halfup") (by decide +kernel), goes_some (k := 3) (y := "ceiling") (by decide +kernel) (by decide +kernel), goes_some (k := 4) (y := "floor") (by decide +kernel) (by decide +kernel)]
    by_cases h : p = 0
    · rw [if_pos h, if_pos (by omega)]; rfl
    · rw [if_neg h, if_neg (by omega)]
      by_cases h : 0 < p
      · rw [decide_eq_true h, decide_eq_false (by omega)]; rfl
      · rw [decide_eq_false h, decide_eq_true (by omega)]; rfl
  · rw [mirr_of (y := "halfeven") (by decide +kernel), goes_some (k := 0) (y := "even") (by decide +kernel) (by decide +kernel), goes_some (k := 0) (y := "even") (by decide +kernel) (by decide +kernel)]
    by_cases h : p = 0
    · rw [if_pos h, if_pos (by omega)]
      show decide ((-b - 1) % 2 = 1) = !decide (b % 2 = 1)
      by_cases h : b % 2 = 1
      · rw [decide_eq_true h, decide_eq_false (by omega)]; rfl
      · rw [decide_eq_false h, decide_eq_true (by omega)]; rfl
    · rw [if_neg h, if_neg (by omega)]
      by_cases h : 0 < p
      · rw [decide_eq_true h, decide_eq_false (by omega)]; rfl
      · rw [decide_eq_false h, decide_eq_true (by omega)]; rfl
  · rw [mirr_of (y := "halfaway") (by decide +kernel), goes_some (k := 2) (y := "away") (by decide +kernel) (by decide +kernel), goes_some (k := 2) (y := "away") (by decide +kernel) (by decide +kernel)]
    by_cases h : p = 0
    · rw [if_pos h, if_pos (by omega)]
      show decide (0 ≤ -b - 1) = !decide (0 ≤ b)
      by_cases h : 0 ≤ b
      · rw [decide_eq_true h, decide_eq_false (by omega)]; rfl
      · rw [decide_eq_false h, decide_eq_true (by omega)]; rfl
    · rw [if_neg h, if_neg (by omega)]
      by_cases h : 0 < p
      · rw [decide_eq_true h, decide_eq_false (by omega)]; rfl
      · rw [decide_eq_false h, decide_eq_true (by omega)]; rfl
  · rw [mirr_of (y := "halfcut") (by decide +kernel), goes_some (k := 1) (y := "cut") (by decide +kernel) (by decide +kernel), goes_some (k := 1) (y := "cut") (by decide +kernel) (by decide +kernel)]
    by_cases h : p = 0
    · rw [if_pos h, if_pos (by omega)]
      show decide (-b - 1 < 0) = !decide (b < 0)
      by_cases h : b < 0
      · rw [decide_eq_true h, decide_eq_false (by omega)]; rfl
      · rw [decide_eq_false h, decide_eq_true (by omega)]; rfl
    · rw [if_neg h, if_neg (by omega)]
      by_cases h : 0 < p
      · rw [decide_eq_true h, decide_eq_false (by omega)]; rfl
      · rw [decide_eq_false h, decide_eq_true (by omega)]; rfl
theorem mirr_mem {z : Str} (hz : z ∈ waysL) : mirr z ∈ waysL := by
  rcases way_cases hz with rfl | rfl | rfl | rfl | rfl | rfl | rfl | rfl | rfl <;> decide +kernel
theorem near_mirr {n d : Int} {z : Str} (h0 : 0 < d) (hz : z ∈ waysL) : near (-n) d (mirr z) = -near n d z := by
  have r0 := Int.emod_nonneg n (show d ≠ 0 by omega)
  have r1 := Int.emod_lt_of_pos n h0
  have em := Int.emod_add_mul_ediv n d
  unfold near
  by_cases h : n % d = 0
  · have e1 : (-n) % d = 0 := Int.emod_eq_zero_of_dvd ((Int.dvd_neg).mpr (Int.dvd_of_emod_eq_zero h))
    rw [if_pos h, if_pos e1, Int.neg_ediv_of_dvd (Int.dvd_of_emod_eq_zero h)]
  · have e3 : -n = (d - n % d) + d * (-(n / d) - 1) := by
      rw [Int.mul_sub, Int.mul_neg]
      omega
    have e1 : (-n) % d = d - n % d := by
      rw [e3, Int.add_mul_emod_self_left, Int.emod_eq_of_lt (by omega) (by omega)]
    have e2 : (-n) / d = -(n / d) - 1 := by
      rw [e3, Int.add_mul_ediv_left _ _ (by omega), Int.ediv_eq_zero_of_lt (by omega) (by omega)]
      omega
    rw [if_neg h, e1, e2, if_neg (by omega)]
    have e4 : 2 * (d - n % d) - d = -(2 * (n % d) - d) := by omega
    rw [e4, goes_mirr hz]
    cases goesUp z (n / d) (2 * (n % d) - d)
    · show (if true = true then -(n / d) - 1 + 1 else _) = -(if false = true then _ else n / d)
      rw [if_pos rfl, if_neg (by decide)]
      omega
    · show (if false = true then _ else -(n / d) - 1) = -(if true = true then n / d + 1 else _)
      rw [if_pos rfl, if_neg (by decide)]
      omega
end K06

/-! k06: the law. -/
namespace K06
open PySem PySem.Spec PyProof.Rows L2 LamX NdefX Own
section
variable {P : Program} {w : World} {K : PySem.W.Frag} {mg : Str → Option Value} {base : Heap} {C aW aM aH : Addr} {eM eH : Array DictEntry} {nM nH : Nat}
theorem scLaw : FnScope ["_law_script", "_law_pen", "_law_again", "_law_divisor_here", "_law_number_here", "_law_manner"] ["_law_script"] (defScope sLaw) := ⟨rfl, rfl, rfl, by decide +kernel, rfl, by decide +kernel, by decide +kernel⟩
def spLaw (K : PySem.W.Frag) (Pt : Addr) : Sp := fun vs H Q _ => ∃ (a : Addr) (ns : List Int), vs = [.ref a] ∧ SqL K H a (ns.map V.int) ∧ ns.length ≤ 63 ∧ Tabs [(Pt, qL)] H ∧ ∀ H', Q (.bl true) H'
theorem ways_ok : (waysL.map V.str).all okF = true := by decide +kernel
theorem ok_law {f : Addr} {fd : FuncData} {Pt : Addr} (F : Fun K "law" "law" sLaw f fd) (T : Txt P w K mg base C aW aM aH eM nM eH nH) (wT : ∃ o : Obj, K.lookup aW = some o ∧ o.cls = .type "tuple") (D0 : DefOk P w K mg base CX0 "_law_begin" 1 ["_law_script"] (spBegin K))
    (D1 : DefOk P w K mg base CX0 "_law_ways" 1 [] spWays) (D2 : DefOk P w K mg base CX0 "_law_divisor" 3 ["_law_pen"] spDivr) (D3 : DefOk P w K mg base CX0 "_law_number" 3 ["_law_pen", "_law_divisor_here"] spNumb)
    (D4 : DefOk P w K mg base (L2.CX P w) "divided" 4 ["number", "divisor", "way"] (spDivd C)) (D5 : DefOk P w K mg base (L2.CX P w) "mirrored" 4 ["way"] (spMirr C)) (D6 : DefOk P w K mg base CX0 "_law_rounds" 1 ["_law_number_here", "_law_divisor_here", "_law_manner"] spRnds)
    (D7 : DefOk P w K mg base CX0 "_law_same" 1 ["_law_one", "_law_other"] spSame) (D8 : DefOk P w K mg base CX0 "_law_refusals" 7 ["_law_pen", "_law_number_here", "_law_divisor_here"] (spRefs Pt)) : FnOk P w K mg base CX0 8 f fd ["_law_script"] (spLaw K Pt) := by
  refine F.ok scLaw (fun vs H Q E h => ?_) (fun cdv A outer s H vs Q E hr h => ?_)
  · obtain ⟨a, ns, rfl, _⟩ := h
    rfl
  · obtain ⟨a, ns, rfl, hs, hl, hT, q⟩ := h
    have nd := scLaw.nd
    refine ⟨_, pss_cons (ps_set (i := 1) nd rfl (.inl rfl) (pe_def D0 hr (by decide) (by rfl) pass0 (pa_cons (pv 0) pa_nil)))
      (pss_cons (ps_if (PW.pt (pw_or (pt_cmpR (op_neD hr.units) (pe_callTy call_list_of (by rfl) T.list (by decide +kernel) (pa_cons (pe_glob (v := .ref aW) (by rfl) T.gW rfl) pa_nil)) (pe_def0 D1 hr (by decide) (by rfl) pass0) (nomark _)) (pw_or1 (pt_not (pt_val (pe_callB call_isi (by rfl) T.isi (by decide +kernel) (pa_cons (pe_glob (v := .ref aW) (by rfl) T.gW rfl) (pa_cons (pe_bltn (v := .ty "tuple") (by rfl) T.tuple (by decide +kernel) rfl) pa_nil)))))))) (pss_one (ps_ret pe_bl)) pss_nil)
      (pss_cons (ps_for PassesOwn.never rfl (pi_range1 (by rfl) T.range (pa_cons pe_int pa_nil)) (pg_name (i := 2) nd rfl (.inl rfl)) (pss_cons (ps_set (i := 3) nd rfl (.inl rfl) (pe_def D2 hr (by decide) (by rfl) pass0 (pa_cons (pv 1) pa_nil))) (pss_cons (ps_set (i := 4) nd rfl (.inl rfl) (pe_def D3 hr (by decide) (by rfl) pass0 (pa_cons (pv 1) (pa_cons (pv 3) pa_nil)))) (pss_one (ps_for PassesOwn.never rfl (pi_list (pe_def0 D1 hr (by decide) (by rfl) pass0)) (pg_name (i := 5) nd rfl (.inl rfl)) (pss_cons (ps_if (pt_not (pt_val (pe_def D7 hr (by decide) (by rfl) pass0 (pa_cons (pe_def (E := E0) D4 hr (by decide) (by rfl) passL (pa_cons (pv 4) (pa_cons (pv 3) (pa_cons (pv 5) pa_nil)))) (pa_cons (pe_def D6 hr (by decide) (by rfl) pass0 (pa_cons (pv 4) (pa_cons (pv 3) (pa_cons (pv 5) pa_nil)))) pa_nil))))) (pss_one (ps_ret pe_bl)) pss_nil) (pss_one (ps_if (pt_cmpR op_ne (pe_def (E := E0) D4 hr (by decide) (by rfl) passL (pa_cons (pe_un un_neg (pv 4)) (pa_cons (pv 3) (pa_cons (pe_def (E := E0) D5 hr (by decide) (by rfl) passL (pa_cons (pv 5) pa_nil)) pa_nil)))) (pe_un un_neg (pe_def D6 hr (by decide) (by rfl) pass0 (pa_cons (pv 4) (pa_cons (pv 3) (pa_cons (pv 5) pa_nil))))) (nomark _)) (pss_one (ps_ret pe_bl)) pss_nil))))))))
      (pss_one (ps_ret (pe_def D8 hr (by decide) (by rfl) pass0 (pa_cons (pv 1) (pa_cons (pv 4) (pa_cons (pv 3) pa_nil)))))))), ?_⟩
    refine ⟨_, rfl, a, ns, rfl, hs, hl, fun d H1 nd1 s1 p1 => ?_⟩
    have T1 := hT.ext s1
    refine ⟨aW, _, rfl, .inr (T.ways H1), fun l nl => ?_⟩
    have s2 : Same H1 (upd H1 l (.lst (waysL.map V.str))) := same_new nl
    refine ⟨rfl, fun m nm => ?_⟩
    have s3 : Same (upd H1 l (.lst (waysL.map V.str))) (upd (upd H1 l (.lst (waysL.map V.str))) m (.lst (waysL.map V.str))) := same_new nm
    have p3 := (p1.same s2).same s3
    have T3 := (T1.ext s2).ext s3
    have hl3 := s3 _ _ (upd_same (H := H1) (a := l) (o := .lst (waysL.map V.str)))
    have hm3 : upd (upd H1 l (.lst (waysL.map V.str))) m (.lst (waysL.map V.str)) m = some (.lst (waysL.map V.str)) := upd_same
    generalize upd (upd H1 l (.lst (waysL.map V.str))) m (.lst (waysL.map V.str)) = H3 at p3 T3 hl3 hm3 ⊢
    obtain ⟨a1, a2, a3⟩ := dp_flats (K := K) (H := H3) ways_ok
    have sh : SeqAt.shaped (.list ((waysL.map V.str).map datV)) = true := by
      unfold SeqAt.shaped
      simp only [PyData.canLay0, PyData.depth, a2, a3]
      decide
    refine ⟨_, _, .lst (SqL.of hl3) a1, .lst (SqL.of hm3) a1, sh, sh, _, rfl, ?_⟩
    rw [SeqAt.eqv_refl _ (SeqAt.canLay_of_shaped sh)]
    obtain ⟨oW, w1, w2⟩ := wT
    refine iteF ⟨_, _, _, _, _, rfl, .ty _, .kTuple w1 w2, kit_ty (show kitB "tuple" "tuple" = some true by decide +kernel), _, rfl, iteF ?_⟩
    refine ⟨_, rfl, by decide, by decide, for_range (lo := 0) (n := 3) (fun i σ H' => ∃ y2 y3 y4 y5 : Option V, σ = [some (.ref a), some (.ref d), y2, y3, y4, y5] ∧ Pen H' d (3000 * (i : Int)) ∧ Tabs [(Pt, qL)] H' ∧
      (0 < i → ∃ dv n : Int, y3 = some (.int dv) ∧ y4 = some (.int n) ∧ 0 < dv ∧ dv.natAbs < 2 ^ 1000)) ⟨none, none, none, none, rfl, p3.mono (by omega), T3, fun z => absurd z (by decide)⟩ ?_ ?_⟩
    · rintro i σ H4 hi ⟨y2, y3, y4, y5, rfl, p4, T4, _⟩
      refine ⟨_, rfl, d, _, rfl, p4, by omega, fun dv H5 h0 hb k5 p5 => ?_⟩
      refine ⟨_, rfl, _, rfl, d, dv, _, rfl, h0, hb, p5, by omega, fun n H6 hn k6 p6 => ?_⟩
      have T6 := tabs_keep (tabs_keep T4 p4 k5) p5 k6
      have p6 : Pen H6 d (3000 * ((i + 1 : Nat) : Int)) := p6.mono (by omega)
      dsimp only [gName, List.set]
      refine ⟨rfl, fun m2 nm2 => ⟨m2, rfl, ⟨_, SqL.of upd_same⟩, for_list (K := K) (xs := waysL.map V.str) (fun j σ H' => ∃ y : Option V, σ = [some (.ref a), some (.ref d), some (.int (0 + (i : Int))), some (.int dv), some (.int n), y] ∧ H' m2 = some (.lst (waysL.map V.str)) ∧ Pen H' d (3000 * ((i + 1 : Nat) : Int)) ∧ Tabs [(Pt, qL)] H')
        ⟨y5, rfl, upd_same, p6.same (same_new nm2), T6.ext (same_new nm2)⟩ (fun j σ H' _ ⟨y, _, e, _⟩ => SqL.of e) ?_ ?_⟩⟩
      · rintro j v σ H7 hv ⟨y, rfl, e7, p7, T7⟩
        rw [List.getElem?_map] at hv
        obtain ⟨z, hz, rfl⟩ := Option.map_eq_some_iff.mp hv
        have hz := List.mem_of_getElem? hz
        have wz : isWay (.str z) = true := decide_eq_true hz
        have wm : isWay (.str (mirr z)) = true := decide_eq_true (mirr_mem hz)
        have gd : goodDiv (.int dv) = true := decide_eq_true (by omega)
        dsimp only [gName, List.set]
        refine ⟨_, rfl, _, rfl, _, rfl, .int n, .int dv, .str z, rfl, .int _, .int _, .str _, (fun e => by cases e), (fun _ e => absurd (e.symm.trans gd) (by decide)), (fun _ _ e => absurd (e.symm.trans wz) (by decide)), fun n' d' t e1 e2 e3 _ _ => ?_⟩
        cases e1
        cases e2
        cases e3
        refine ⟨hb, fun H8 s8 => ?_⟩
        refine ⟨_, rfl, _, rfl, _, rfl, n, dv, z, rfl, h0, hb, up_two hn (by decide), hz, fun H9 s9 => ?_⟩
        refine .inl ⟨_, _, rfl, ?_⟩
        rw [decide_eq_true rfl]
        refine ⟨true, rfl, iteF ?_⟩
        refine ⟨_, rfl, _, rfl, _, rfl, _, rfl, .str z, rfl, .str _, fun t ht e => ?_, fun e => absurd (e.symm.trans wz) (by decide)⟩
        cases e
        refine ⟨.int (-n), .int dv, .str (mirr z), rfl, .int _, .int _, .str _, (fun e => by cases e), (fun _ e => absurd (e.symm.trans gd) (by decide)), (fun _ _ e => absurd (e.symm.trans wm) (by decide)), fun n' d' t e1 e2 e3 _ _ => ?_⟩
        cases e1
        cases e2
        cases e3
        refine ⟨hb, fun H10 s10 => ?_⟩
        refine ⟨_, rfl, _, rfl, _, rfl, n, dv, z, rfl, h0, hb, up_two hn (by decide), hz, fun H11 s11 => ?_⟩
        have sA := ((s8.trans s9).trans s10).trans s11
        refine ⟨_, rfl, rfl, _, rfl, ?_⟩
        rw [near_mirr h0 hz]
        refine ite2 (fun e => ?_) (fun _ => ⟨_, rfl, sA _ _ e7, p7.same sA, T7.ext sA⟩)
        simp at e
      · rintro σ H7 ⟨y, rfl, e7, p7, T7⟩
        exact ⟨_, _, _, _, rfl, p7, T7, fun _ => ⟨dv, n, rfl, rfl, h0, hb⟩⟩
    · rintro σ H4 ⟨y2, y3, y4, y5, rfl, p4, T4, h4⟩
      obtain ⟨dv, n, rfl, rfl, h0, hb⟩ := h4 (by decide)
      exact ⟨_, rfl, _, rfl, _, rfl, d, n, dv, _, rfl, p4, by omega, h0, hb, T4, q⟩
end
end K06

set_option maxHeartbeats 0
/-! k06: what the top leaves. -/
namespace K06
open PySem PySem.Spec PyProof.Rows L2 LamX NdefX Own
def nmF : Str × Option Str := ("_law_refusals", none)
def dfn (x : Str) (i : Nat) : He.DefD := ⟨(x, none), x, x, defArgs (topS i), defBody (topS i), defScope (topS i), [], []⟩
def dIni : He.DefD := ⟨("BadValue", some "__init__"), "__init__", "BadValue.__init__", defArgs sErrI, defBody sErrI, defScope sErrI, [], []⟩
def fnL : List He.DefD := [dIni, dfn "is_an_integer" 4, dfn "need_integer" 5, dfn "need_way" 10, dfn "mirrored" 11, dfn "divided" 12, dfn "nearest_units" 13, dfn "_goes_up" 14, dfn "_law_begin" 16, dfn "_law_draw" 17, dfn "_law_pick" 18, dfn "_law_ten" 19, dfn "_law_figures" 20,
  dfn "_law_wrong" 21, dfn "_law_same" 22, dfn "_law_refused" 23, dfn "_law_ways" 24, dfn "_law_rounds" 25, dfn "_law_divisor" 26, dfn "_law_number" 27, dfn "_law_refusals" 28, dfn "law" 29]
def gloL : List Str := ["BadValue", "WAYS", "MIRRORS", "HALVES", "is_an_integer", "need_integer", "need_way", "mirrored", "divided", "nearest_units", "_goes_up", "_law_begin", "_law_draw", "_law_pick", "_law_ten", "_law_figures", "_law_wrong", "_law_same", "_law_refused", "_law_ways", "_law_rounds", "_law_divisor", "_law_number", "_law_refusals", "law"]
def freeL : List Str := ["isinstance", "int", "bool", "len", "list", "range", "tuple", "all", "divmod"]
def faL : List He.Fa := gloL.map He.Fa.glo ++ freeL.map He.Fa.free ++ [.exm "BadValue" "BadValue" true, .meth "BadValue" "__init__", .noat "BadValue" "value", .keep "BadValue"]
def tsL : List He.Tab := [(fun K => He.ga K "MIRRORS", ["floor", "ceiling", "halfup", "halfdown"]), (fun K => He.ga K "HALVES", ["halfup", "halfdown", "halfeven", "halfaway", "halfcut"])]
/-- what the law leans on of an error's class -/
def oexB (K : PySem.W.Frag) (C : Addr) : Bool := (match K.lookup C with
  | some ⟨.type t, _, .cls cd, sl⟩ => decide (t = "type") && (cd.hasDict && (!cd.hasDel && ((match cd.mro with
    | .ref D :: bm => decide (D = C) && PySem.HandSPX.refsVE bm
    | _ => false) && (match sl.toList with
    | [_, _, _, _, some (.builtin n), _] => decide (n = "ValueError.__new__")
    | _ => false))))
  | _ => false) && (decide (PySem.W.findIn K (.ref C) "__setattr__" = some (some (.builtin "object.__setattr__"))) && (decide (PySem.W.subIn K (.ref C) (.type "BaseException") = some true) && (decide (PySem.W.typeIn K (.ref C) = some (.type "type")) && PySem.W.keepIn K (.ref C))))
theorem oexB_ok {K : PySem.W.Frag} {C : Addr} (h : oexB K C = true) : OexC K C := by
  obtain ⟨h0, h⟩ := He.ba h
  obtain ⟨h1, h⟩ := He.ba h
  obtain ⟨h2, h⟩ := He.ba h
  obtain ⟨h3, h4⟩ := He.ba h
  refine ⟨?_, of_decide_eq_true h1, of_decide_eq_true h2, of_decide_eq_true h3, h4⟩
  cases q : K.lookup C with
  | none => rw [q] at h0; cases h0
  | some o =>
    rw [q] at h0
    obtain ⟨oc, od, dt, ⟨sl⟩⟩ := o
    cases oc with
    | type t =>
      cases dt with
      | cls cd =>
        obtain ⟨nm, bs, mro, ns, qn, hd, sn, sub, ab, col, del⟩ := cd
        obtain ⟨a1, a⟩ := He.ba h0
        obtain ⟨a2, a⟩ := He.ba a
        obtain ⟨a3, a⟩ := He.ba a
        obtain ⟨a4, a5⟩ := He.ba a
        have e1 : t = "type" := of_decide_eq_true a1
        have e2 : hd = true := a2
        have e3 : del = false := by
          have z : (!del) = true := a3
          simpa using z
        subst e1 e2 e3
        cases mro with
        | nil => cases a4
        | cons m bm =>
          cases m with
          | ref D =>
            obtain ⟨b1, b2⟩ := He.ba (show (decide (D = C) && PySem.HandSPX.refsVE bm) = true from a4)
            have e4 : D = C := of_decide_eq_true b1
            subst e4
            match sl, a5 with
            | [k0, k1, k2, k3, some (.builtin n), k5], z =>
              have e5 : n = "ValueError.__new__" := of_decide_eq_true z
              subst e5
              exact ⟨_, _, _, _, _, _, _, _, _, _, _, _, _, _, _, rfl, b2⟩
          | _ => cases a4
      | _ => cases h0
    | _ => cases dt <;> cases h0
/-- what a dict of the top says at the ways -/
def getB (K : PySem.W.Frag) (a : Addr) (l : List (Str × Str)) : Bool := waysL.all fun z => match PySem.W.nsIn K a z with
  | some none => (l.lookup z).isNone
  | some (some u) => (match l.lookup z with
    | some y => He.relB (.str y) u
    | none => false)
  | none => false
theorem getB_ok {K : PySem.W.Frag} {a : Addr} {l : List (Str × Str)} (h : getB K a l = true) {z : Str} (hz : z ∈ waysL) : KGet K a z ((l.lookup z).map V.str) := by
  have h1 := List.all_eq_true.mp h z hz
  cases q : PySem.W.nsIn K a z with
  | none => rw [q] at h1; cases h1
  | some ro =>
    rw [q] at h1
    refine ⟨ro, q, ?_⟩
    cases ro with
    | none =>
      cases e : l.lookup z with
      | none => exact trivial
      | some y => rw [e] at h1; cases h1
    | some u =>
      cases e : l.lookup z with
      | none => rw [e] at h1; cases h1
      | some y =>
        rw [e] at h1
        exact He.relB_ok h1
def isTup (K : PySem.W.Frag) (a : Addr) : Bool := match K.lookup a with
  | some ⟨.type c, _, _, _⟩ => decide (c = "tuple")
  | _ => false
theorem isTup_ok {K : PySem.W.Frag} {a : Addr} (h : isTup K a = true) : ∃ o : Obj, K.lookup a = some o ∧ o.cls = .type "tuple" := by
  unfold isTup at h
  cases q : K.lookup a with
  | none => rw [q] at h; cases h
  | some o =>
    rw [q] at h
    obtain ⟨oc, od, dt, sl⟩ := o
    cases oc with
    | type c => exact ⟨_, rfl, congrArg Value.type (of_decide_eq_true h)⟩
    | _ => cases h
def exL (K : PySem.W.Frag) : Bool := oexB K (He.ga K "BadValue") && (L2.xfB K (He.ga K "BadValue") && (He.tupB K "WAYS" (waysL.map He.Dv.str) && (isTup K (He.ga K "WAYS") && (getB K (He.ga K "MIRRORS") mirrL && (getB K (He.ga K "HALVES") halvL && decide (PySem.W.typeIn K (.ref (He.ma K (He.ga K "BadValue") "__init__")) = some (.type "function")))))))
abbrev rowK : PySem.W.OpenRow := PySem.W.OpenLaw.row PySem.Challenge.rw_figurestay_k06_divided_by_each_way
abbrev hkL : PySem.W.Hook := He.hookX 6 faL fnL tsL [nmF] exL
def obL (s : PySem.W.SharedT) : He.AlX := He.obsX 6 faL fnL tsL [nmF] exL (HandSHeadRun.getT s)
theorem obL_eq (s : PySem.W.SharedT) : obL s = hkL.obs s.abs := He.obsX_eq (HandSHeadRun.getT_eq s)
def looseL : List Str := ["FigureError", "BadValue", "WAYS", "MIRRORS", "HALVES", "is_an_integer", "need_integer", "need_way", "mirrored", "divided", "nearest_units", "_goes_up", "_law_begin", "_law_draw", "_law_pick", "_law_ten", "_law_figures", "_law_wrong", "_law_same", "_law_refused", "_law_ways", "_law_rounds", "_law_divisor", "_law_number", "_law_refusals"]
end K06

/-! k06: the top is run. -/
namespace K06
open PySem PySem.Spec PyProof.Rows L2 LamX NdefX Own
theorem runF (w : World) : HandSHeadRun.RunEq rowK (PySem.W.view rowK.prog [29]) hkL obL 4000 looseL (w.withFollow "special-get-raises" false) := by
  intro os
  kernel_rfl
theorem runT (w : World) : HandSHeadRun.RunEq rowK (PySem.W.view rowK.prog [29]) hkL obL 4000 looseL (w.withFollow "special-get-raises" true) := by
  intro os
  kernel_rfl
theorem runL (w : World) : HandSHeadRun.RunEq rowK (PySem.W.view rowK.prog [29]) hkL obL 4000 looseL w := PySem.W.byRow2 "special-get-raises" (P := fun w => HandSHeadRun.RunEq rowK (PySem.W.view rowK.prog [29]) hkL obL 4000 looseL w) runF runT w
end K06

/-! k06: the end. -/
namespace K06
open PySem PySem.Spec PyProof.Rows L2 LamX NdefX Own
section
variable {P : Program} {w : World} {K : PySem.W.Frag} {mg : Str → Option Value} {h : Heap}
theorem fun_of {x qual : Str} {st : Stmt} {f : Addr} {fd : FuncData} (F : FunD K x qual (defArgs st) (defBody st) (defScope st) [] [] f fd) : Fun K x qual st f fd := by
  obtain ⟨oc, od, dV, kV, doc, pm, an, cdv, ct, osl, rfl, lk, hcd, hD, _⟩ := F.ex
  rcases hD with ⟨_, rfl⟩ | ⟨n, _⟩
  · exact ⟨⟨oc, od, kV, doc, pm, an, cdv, ct, osl, rfl, lk, hcd⟩, F.kp⟩
  · exact absurd rfl n
theorem at_of {x : Str} {st : Stmt} {ps : List Str} {f : Addr} {fd : FuncData} (F : FunD K x x (defArgs st) (defBody st) (defScope st) [] [] f fd) (g : mg x = some (.ref f))
    (b : ∀ (kV doc pm : Value) (an : Option Addr) (cdv ct : Value) (us : List Value), us.length = ps.length → bindArgs (PySem.W.fnOf x x (defArgs st) (defBody st) (defScope st) .none kV doc pm an cdv ct) ⟨us, []⟩ = pure (ps.zip us)) : At K mg x st ps :=
  ⟨f, fd, fun_of F, g, (fun_of F).binds b⟩
theorem gloF (X : K.In h) (G : h.Ns mainGlobals mg) (d : He.SaysD faL fnL K) {x : Str} (hx : x ∈ gloL) : mg x = some (.ref (He.ga K x)) :=
  He.glo_ok X G (d.facts (List.mem_append_left _ (List.mem_append_left _ (List.mem_map.mpr ⟨x, hx, rfl⟩))))
theorem freeF (X : K.In h) (G : h.Ns mainGlobals mg) (d : He.SaysD faL fnL K) {x : Str} (hx : x ∈ freeL) : mg x = none :=
  He.free_ok X G (d.facts (List.mem_append_left _ (List.mem_append_right _ (List.mem_map.mpr ⟨x, hx, rfl⟩))))
theorem moreF (d : He.SaysD faL fnL K) {f : He.Fa} (hf : f ∈ [He.Fa.exm "BadValue" "BadValue" true, .meth "BadValue" "__init__", .noat "BadValue" "value", .keep "BadValue"]) : f.ok K = true := d.facts (List.mem_append_right _ hf)
theorem law_at {fa : Addr} (X : K.In h) (G : h.Ns mainGlobals mg) (hfa : mg "law" = some (.ref fa)) (c : He.SaysX faL fnL tsL [nmF] exL w h K) : LawAtS PySem.Challenge.rw_figurestay_k06_divided_by_each_way w K CX0 8 63 "_law_script" mg fa h := by
  have d := c.t.d
  obtain ⟨x1, y⟩ := He.ba c.more
  obtain ⟨x2, y⟩ := He.ba y
  obtain ⟨x3, y⟩ := He.ba y
  obtain ⟨x4, y⟩ := He.ba y
  obtain ⟨x5, y⟩ := He.ba y
  obtain ⟨x6, x7⟩ := He.ba y
  have tI := of_decide_eq_true x7
  have noV := He.noat_ok (moreF d (f := .noat "BadValue" "value") (by simp))
  have te := He.exm_ok (moreF d (f := .exm "BadValue" "BadValue" true) (by simp))
  have mt := He.meth_ok (moreF d (f := .meth "BadValue" "__init__") (by simp))
  obtain ⟨esM, nM, dM⟩ := c.t.tab 0
  obtain ⟨esH, nH, dH⟩ := c.t.tab 1
  obtain ⟨fdI, FI⟩ := d.def_ 0 (d := dIni) rfl
  have FI' : Fun K "__init__" "BadValue.__init__" sErrI _ fdI := fun_of FI
  have bI := FI'.binds (ps := ["self", "value"]) fun _ _ _ _ _ _ us hl => match us, hl with | [_, _], _ => rfl
  obtain ⟨fd1, F1⟩ := d.def_ 1 (d := dfn "is_an_integer" 4) rfl
  have A1 : At K mg "is_an_integer" (topS 4) ["value"] := at_of F1 (gloF X G d (by decide +kernel)) fun _ _ _ _ _ _ us hl => match us, hl with | [_], _ => rfl
  obtain ⟨fd2, F2⟩ := d.def_ 2 (d := dfn "need_integer" 5) rfl
  have A2 : At K mg "need_integer" (topS 5) ["value"] := at_of F2 (gloF X G d (by decide +kernel)) fun _ _ _ _ _ _ us hl => match us, hl with | [_], _ => rfl
  obtain ⟨fd3, F3⟩ := d.def_ 3 (d := dfn "need_way" 10) rfl
  have A3 : At K mg "need_way" (topS 10) ["value"] := at_of F3 (gloF X G d (by decide +kernel)) fun _ _ _ _ _ _ us hl => match us, hl with | [_], _ => rfl
  obtain ⟨fd4, F4⟩ := d.def_ 4 (d := dfn "mirrored" 11) rfl
  have A4 : At K mg "mirrored" (topS 11) ["way"] := at_of F4 (gloF X G d (by decide +kernel)) fun _ _ _ _ _ _ us hl => match us, hl with | [_], _ => rfl
  obtain ⟨fd5, F5⟩ := d.def_ 5 (d := dfn "divided" 12) rfl
  have A5 : At K mg "divided" (topS 12) ["number", "divisor", "way"] := at_of F5 (gloF X G d (by decide +kernel)) fun _ _ _ _ _ _ us hl => match us, hl with | [_, _, _], _ => rfl
  obtain ⟨fd6, F6⟩ := d.def_ 6 (d := dfn "nearest_units" 13) rfl
  have A6 : At K mg "nearest_units" (topS 13) ["number", "divisor", "way"] := at_of F6 (gloF X G d (by decide +kernel)) fun _ _ _ _ _ _ us hl => match us, hl with | [_, _, _], _ => rfl
  obtain ⟨fd7, F7⟩ := d.def_ 7 (d := dfn "_goes_up" 14) rfl
  have A7 : At K mg "_goes_up" (topS 14) ["way", "below", "past_half"] := at_of F7 (gloF X G d (by decide +kernel)) fun _ _ _ _ _ _ us hl => match us, hl with | [_, _, _], _ => rfl
  obtain ⟨fd8, F8⟩ := d.def_ 8 (d := dfn "_law_begin" 16) rfl
  have A8 : At K mg "_law_begin" (topS 16) ["_law_script"] := at_of F8 (gloF X G d (by decide +kernel)) fun _ _ _ _ _ _ us hl => match us, hl with | [_], _ => rfl
  obtain ⟨fd9, F9⟩ := d.def_ 9 (d := dfn "_law_draw" 17) rfl
  have A9 : At K mg "_law_draw" (topS 17) ["_law_pen", "_law_span"] := at_of F9 (gloF X G d (by decide +kernel)) fun _ _ _ _ _ _ us hl => match us, hl with | [_, _], _ => rfl
  obtain ⟨fd10, F10⟩ := d.def_ 10 (d := dfn "_law_pick" 18) rfl
  have A10 : At K mg "_law_pick" (topS 18) ["_law_pen", "_law_some"] := at_of F10 (gloF X G d (by decide +kernel)) fun _ _ _ _ _ _ us hl => match us, hl with | [_, _], _ => rfl
  obtain ⟨fd11, F11⟩ := d.def_ 11 (d := dfn "_law_ten" 19) rfl
  have A11 : At K mg "_law_ten" (topS 19) ["_law_number_here"] := at_of F11 (gloF X G d (by decide +kernel)) fun _ _ _ _ _ _ us hl => match us, hl with | [_], _ => rfl
  obtain ⟨fd12, F12⟩ := d.def_ 12 (d := dfn "_law_figures" 20) rfl
  have A12 : At K mg "_law_figures" (topS 20) ["_law_pen", "_law_most"] := at_of F12 (gloF X G d (by decide +kernel)) fun _ _ _ _ _ _ us hl => match us, hl with | [_, _], _ => rfl
  obtain ⟨fd13, F13⟩ := d.def_ 13 (d := dfn "_law_wrong" 21) rfl
  have A13 : At K mg "_law_wrong" (topS 21) ["_law_pen"] := at_of F13 (gloF X G d (by decide +kernel)) fun _ _ _ _ _ _ us hl => match us, hl with | [_], _ => rfl
  obtain ⟨fd14, F14⟩ := d.def_ 14 (d := dfn "_law_same" 22) rfl
  have A14 : At K mg "_law_same" (topS 22) ["_law_one", "_law_other"] := at_of F14 (gloF X G d (by decide +kernel)) fun _ _ _ _ _ _ us hl => match us, hl with | [_, _], _ => rfl
  obtain ⟨fd15, F15⟩ := d.def_ 15 (d := dfn "_law_refused" 23) rfl
  have A15 : At K mg "_law_refused" (topS 23) ["_law_deed", "_law_value"] := at_of F15 (gloF X G d (by decide +kernel)) fun _ _ _ _ _ _ us hl => match us, hl with | [_, _], _ => rfl
  obtain ⟨fd16, F16⟩ := d.def_ 16 (d := dfn "_law_ways" 24) rfl
  have A16 : At K mg "_law_ways" (topS 24) [] := at_of F16 (gloF X G d (by decide +kernel)) fun _ _ _ _ _ _ us hl => match us, hl with | [], _ => rfl
  obtain ⟨fd17, F17⟩ := d.def_ 17 (d := dfn "_law_rounds" 25) rfl
  have A17 : At K mg "_law_rounds" (topS 25) ["_law_number_here", "_law_divisor_here", "_law_manner"] := at_of F17 (gloF X G d (by decide +kernel)) fun _ _ _ _ _ _ us hl => match us, hl with | [_, _, _], _ => rfl
  obtain ⟨fd18, F18⟩ := d.def_ 18 (d := dfn "_law_divisor" 26) rfl
  have A18 : At K mg "_law_divisor" (topS 26) ["_law_pen"] := at_of F18 (gloF X G d (by decide +kernel)) fun _ _ _ _ _ _ us hl => match us, hl with | [_], _ => rfl
  obtain ⟨fd19, F19⟩ := d.def_ 19 (d := dfn "_law_number" 27) rfl
  have A19 : At K mg "_law_number" (topS 27) ["_law_pen", "_law_divisor_here"] := at_of F19 (gloF X G d (by decide +kernel)) fun _ _ _ _ _ _ us hl => match us, hl with | [_, _], _ => rfl
  obtain ⟨fdR, FR⟩ := d.def_ 20 (d := dfn "_law_refusals" 28) rfl
  obtain ⟨fdL, FL⟩ := d.def_ 21 (d := dfn "law" 29) rfl
  have e := hfa.symm.trans (gloF X G d (x := "law") (by decide +kernel))
  cases e
  have FL' : Fun K "law" "law" sLaw _ fdL := fun_of FL
  have FR' : Fun K "_law_refusals" "_law_refusals" sRefs _ fdR := fun_of FR
  have AR : AtC K mg "_law_refusals" sRefs ["_law_pen", "_law_number_here", "_law_divisor_here"] (He.cT K nmF).1 := by
    have bR := FR'.binds (ps := ["_law_pen", "_law_number_here", "_law_divisor_here"]) fun _ _ _ _ _ _ us hl => match us, hl with | [_, _, _], _ => rfl
    have gR := gloF X G d (x := "_law_refusals") (by decide +kernel)
    have kR := FR'.kp
    obtain ⟨oc, od, kV, doc, pm, an, cdv, ct, osl, rfl, lk, hcd⟩ := FR'.ex
    obtain ⟨cc, rfl⟩ := He.codeIn_ref hcd
    have ec : He.codeOf K nmF = cc := He.codeOf_eq lk rfl
    refine ⟨_, oc, od, kV, doc, pm, an, ct, osl, ?_, ?_, gR, kR, ?_⟩
    · show K.lookup _ = some ⟨oc, od, .func (PySem.W.fnOf _ _ _ _ _ .none kV doc pm an (.ref (He.codeOf K nmF)) ct), osl⟩
      rw [ec]
      exact lk
    · show PySem.W.codeIn K (.ref (He.codeOf K nmF)) _ = true
      rw [ec]
      exact hcd
    · show Binds K (PySem.W.fnOf _ _ _ _ _ .none kV doc pm an (.ref (He.codeOf K nmF)) ct) _ []
      rw [ec]
      exact bR
  have hL : ∀ (s : Shared) (u : Value), BindsTo s fdL ⟨[u], []⟩ [("_law_script", u)] := by
    obtain ⟨oc, od, kV, doc, pm, an, cdv, ct, osl, rfl, lk, hcd⟩ := FL'.ex
    exact fun s u => .of_eq rfl
  refine ⟨fdL, [He.cT K nmF], spLaw K (He.cT K nmF).2, fun p hp => ?_, fun p hp => ?_, fun p hp => ?_, hL, fun H a ns hl _ hT hs => ⟨a, ns, rfl, hs, hl, fun p hp => ?_, fun _ => rfl⟩, fun base XB GB TBs => ?_⟩
  · rw [List.mem_singleton.mp hp]
    exact c.empty nmF (List.mem_singleton.mpr rfl)
  · rw [List.mem_singleton.mp hp]
    exact c.out nmF (List.mem_singleton.mpr rfl)
  · rw [List.mem_singleton.mp hp]
    exact PySem.W.codeHd_of_K X (c.hd nmF (List.mem_singleton.mpr rfl))
  · rw [List.mem_singleton.mp hp]
    exact TabS.nil (hT (He.cT K nmF) (List.mem_singleton.mpr rfl))
  · have TB := TBs (He.cT K nmF) (List.mem_singleton.mpr rfl)
    have ox := oexB_ok x1
    have T : Txt PySem.Challenge.rw_figurestay_k06_divided_by_each_way.prog w K mg base (He.ga K "BadValue") (He.ga K "WAYS") (He.ga K "MIRRORS") (He.ga K "HALVES") esM nM esH nH :=
      { isi := freeF X G d (by decide +kernel), int := freeF X G d (by decide +kernel), bool := freeF X G d (by decide +kernel), len := freeF X G d (by decide +kernel), list := freeF X G d (by decide +kernel), range := freeF X G d (by decide +kernel),
        tuple := freeF X G d (by decide +kernel), all := freeF X G d (by decide +kernel), dm := freeF X G d (by decide +kernel),
        err := ⟨gloF X G d (by decide +kernel), ox, ⟨_, fdI, mt.1, tI, ok_errI FI' ox noV, bI⟩, L2.xfB_ok x2, te, noV⟩,
        gW := gloF X G d (by decide +kernel), ways := fun H => He.tupB_ok x3 H, gM := gloF X G d (by decide +kernel), dM := dM, mirr := fun z hz => getB_ok x5 hz, gH := gloF X G d (by decide +kernel), dH := dH, halv := fun z hz => getB_ok x6 hz }
    have D1 := ok_isInt A1 T
    have D2 := ok_nInt A2 T D1
    have D3 := ok_nWay A3 T
    have D4 := ok_mirr A4 T D3
    have D7 := ok_goes A7 T
    have D6 := ok_near A6 T D7
    have D5 := ok_divd A5 T D1 D2 D3 D6
    have D8 := ok_begin A8 T
    have D9 := ok_draw' A9 T
    have D10 := ok_pick A10 T D9
    have D11 := ok_ten A11 T
    have D12 := ok_figs A12 T D9 D11
    have D13 := ok_wrong A13 D10
    have D14 := ok_same A14 T
    have D15 := ld_refd A15 T D14
    have D16 := ok_ways (P := PySem.Challenge.rw_figurestay_k06_divided_by_each_way.prog) (w := w) (base := base) A16
    have D17 := ok_rnds A17 T
    have D18 := ok_divr A18 D9 D11 D10 D12
    have D19 := ok_numb A19 D9 D10 D12
    have D20 := ok_refs AR TB T D9 D10 D13 D5 D4 D15
    exact ok_law FL' T (isTup_ok x4) D8 D16 D18 D19 D5 D4 D17 D14 D20
end
end K06
open PySem PySem.W PySem.Calls PyProof.Rows
theorem PySem.Challenge.cw_figurestay_k06_divided_by_each_way_holds : PySem.Challenge.rw_figurestay_k06_divided_by_each_way.Holds := by
  w_on; o_law
  refine HandSHeadRun.head_any (r := OpenLaw.row PySem.Challenge.rw_figurestay_k06_divided_by_each_way) (q := view (OpenLaw.row PySem.Challenge.rw_figurestay_k06_divided_by_each_way).prog [29]) (H := K06.hkL) (ob := K06.obL) (M := 4000) (loose := K06.looseL)
    (d := HandSHeadRun.topDef (OpenLaw.row PySem.Challenge.rw_figurestay_k06_divided_by_each_way).prog 29) (kwd := []) K06.obL_eq
    (by kernel_rfl) (fun s => by kernel_rfl) K06.runL (by kernel_rfl) (by kernel_rfl) (by kernel_rfl) (by rfl) (by first | assumption | decide +kernel) (by decide +kernel) ⟨rfl, rfl, rfl, rfl, rfl, by decide +kernel⟩ ?hw ?hc
  case hw => w_witness2
  case hc =>
    refine LamX.walk_ofTsE (l := PySem.Challenge.rw_figurestay_k06_divided_by_each_way) (n := 63) (k := 8) (x := "_law_script") (CX := fun _ => L2.CX0) rfl (by decide) (by kernel_rfl) ⟨rfl, by decide, by decide⟩ ?F (fun _ _ _ _ _ z => z)
    intro w mg fa h Y G hmg0
    obtain ⟨K, KX, c⟩ := Y
    have hmg : mg ("law" : PySem.Str) = some (.ref fa) := by
      have e : (HandSHeadRun.topDef (OpenLaw.row PySem.Challenge.rw_figurestay_k06_divided_by_each_way).prog 29).name = ("law" : PySem.Str) := by kernel_rfl
      rw [← e]
      exact hmg0
    exact ⟨K, KX, K06.law_at KX G hmg c⟩
