import PyProof.Rows.All
import Wide.All
import OpenK.AllK
import Wide.FinOn
import HandS.ForMost
import HandS.ForExc
import HandS.Wide
import HandS.WideBits
import HandS.IsInst
import HandS.ExcInit
import HandS.ExcField
import HandS.Nested
import HandS.Deep
import HandS.More
import HandS.Codes
import HandS.Lambda
import KE.KDflt
import KE.IntTextLaws
import HandS.ExcOwn
import HandS.WordsExc
import KE.KStateDown
import HandS.Head0
import HandS.Head1
import HandS.Head2
import HandS.HeadEnd
import HandS.HeadHook1
import HandS.HeadHook2
import HandS.HeadHook3
import HandS.HeadHook4
import HandS.HeadWalk
import PySem.Challenge.RW_figurestay_k05_texts_of_worths
import KE.KOpsOwn
import HandS.OwnEq
import PyProof.Rows.RuleN_abs
import PyProof.InstNe
import HandS.StrMore
import HandS.Text
import HandS.FStr
import HandS.Comp
import HandS.Iter
import HandS.ExcIs
import KE.KExcIs
import PyProof.NeKinds
import KE.KCallOwn
import HandS.SlotsOwn
import HandS.RaiseMore
import HandS.Property
import Wide.Once
set_option Elab.async false
set_option linter.all false
set_option maxRecDepth 100000
set_option maxHeartbeats 4000000
/-! own layer, of no law: OWN -/
namespace Own
open PySem PySem.Spec PyProof.Rows L2
/-! ### heaps -/
/-- all but what stands at d is as it was -/
def Keep (d : Addr) (H H' : Hp) : Prop := ∀ b o, b ≠ d → H b = some o → H' b = some o
theorem Keep.refl {d : Addr} {H : Hp} : Keep d H H := fun _ _ _ e => e
theorem Keep.trans {d : Addr} {H H1 H2 : Hp} (a : Keep d H H1) (b : Keep d H1 H2) : Keep d H H2 := fun c o n e => b c o n (a c o n e)
theorem Keep.new {d p : Addr} {o : HO} {H : Hp} (h : H p = none) : Keep d H (upd H p o) := fun b u _ e => by
  rw [upd_ne (ne_of_none e h)]
  exact e
theorem Keep.at {d : Addr} {o : HO} {H : Hp} : Keep d H (upd H d o) := fun b u n e => by
  rw [upd_ne n]
  exact e
theorem Keep.same {d : Addr} {H H' : Hp} (s : Same H H') : Keep d H H' := fun b u _ e => s b u e
theorem same_new {H : Hp} {p : Addr} {o : HO} (h : H p = none) : Same H (upd H p o) := fun b u e => by
  rw [upd_ne (ne_of_none e h)]
  exact e
theorem ne_txt : ¬ (("cells" : Str) = "count") ∧ ¬ (("cells" : Str) = "left") ∧ ¬ (("count" : Str) = "left") ∧ ¬ (("count" : Str) = "cells") ∧ ¬ (("left" : Str) = "cells") ∧ ¬ (("left" : Str) = "count") := by decide +kernel
/-- what the pen's dict holds -/
def penK (p : Addr) (c l : Int) : List (Key × V) := [(Sum.inr "cells", V.ref p), (Sum.inr "count", V.int c), (Sum.inr "left", V.int l)]
theorem pen_cells (p : Addr) (c l : Int) : valV (penK p c l) (Sum.inr "cells" : Key) = some (.ref p) := valV_pos rfl
theorem pen_count (p : Addr) (c l : Int) : valV (penK p c l) (Sum.inr "count" : Key) = some (.int c) := by
  unfold penK
  rw [valV_neg (fun e => ne_txt.1 (Sum.inr.inj e)), valV_pos rfl]
theorem pen_left (p : Addr) (c l : Int) : valV (penK p c l) (Sum.inr "left" : Key) = some (.int l) := by
  unfold penK
  rw [valV_neg (fun e => ne_txt.2.1 (Sum.inr.inj e)), valV_neg (fun e => ne_txt.2.2.1 (Sum.inr.inj e)), valV_pos rfl]
theorem key_dec {a b : Str} (h : ¬ a = b) : decide ((Sum.inr a : Key) = Sum.inr b) = false := decide_eq_false fun e => h (Sum.inr.inj e)
theorem put_count (p : Addr) (c l c' : Int) : putK (penK p c l) (Sum.inr "count" : Key) (.int c') = penK p c' l := by
  unfold penK putK
  simp [key_dec ne_txt.1, key_dec ne_txt.2.2.1, key_dec ne_txt.2.2.2.2.2, ne_txt]
theorem put_left (p : Addr) (c l l' : Int) : putK (penK p c l) (Sum.inr "left" : Key) (.int l') = penK p c l' := by
  unfold penK putK
  simp [key_dec ne_txt.2.1, key_dec ne_txt.2.2.1, ne_txt]
/-- the pen stands at d: at most B draws were begun -/
structure Pen (H : Hp) (d : Addr) (B : Int) : Prop where
  ex : ∃ (p : Addr) (ns : List Int) (c l : Int), H d = some (.dK (penK p c l)) ∧ H p = some (.lst (ns.map V.int)) ∧ ns.length ≤ 63 ∧ 0 ≤ c ∧ c ≤ B
theorem Pen.mono {H : Hp} {d : Addr} {B B' : Int} (h : Pen H d B) (z : B ≤ B') : Pen H d B' := by
  obtain ⟨p, ns, c, l, a, b, e, f, g⟩ := h.ex
  exact ⟨p, ns, c, l, a, b, e, f, by omega⟩
theorem Pen.same {H H' : Hp} {d : Addr} {B : Int} (h : Pen H d B) (s : Same H H') : Pen H' d B := by
  obtain ⟨p, ns, c, l, a, b, e, f, g⟩ := h.ex
  exact ⟨p, ns, c, l, s _ _ a, s _ _ b, e, f, g⟩
end Own

/-! from L06 -/
namespace Own
open PySem PySem.Spec PyProof.Rows L2 LamX NdefX
/-- the integers that stand as defaults -/
def dInts : List Expr → List Int
  | .Constant (.int i) _ _ :: r => i :: dInts r
  | _ => []
/-- the tuple of defaults -/
def DfV (H : Hp) (dV : Value) (ds : List Int) : Prop := (ds = [] ∧ dV = .none) ∨ (ds ≠ [] ∧ ∃ T : Addr, dV = .ref T ∧ H T = some (.tup (ds.map V.int)))
def DfIn (h : Heap) (dV : Value) (us : List Value) : Prop := (us = [] ∧ dV = .none) ∨ (us ≠ [] ∧ ∃ T : Addr, dV = .ref T ∧ IsTup h T us.toArray)
/-- a lambda's words in F (its body apart), its defaults dV -/
abbrev lamFd (F : NF) (b : Expr) (dV doc pm ctv : Value) : FuncData := PySem.W.kdv_fn F.name F.qual F.params (.expr b) F.scope F.cl dV doc pm (.ref F.c) ctv
def LamO (f : Addr) (F : NF) (b : Expr) (dV : Value) : HO := .ext fun h => ∃ doc pm ctv : Value, h.get? f = some ({ cls := .type "function", data := .func (lamFd F b dV doc pm ctv) } : Obj)
/-- at f stands the lambda F, whose body is b -/
def LamAt (H : Hp) (f : Addr) (F : NF) (b : Expr) : Prop := ∃ dV : Value, H f = some (LamO f F b dV) ∧ DfV H dV (dInts F.params.defaults)
theorem lamO_ne {f : Addr} {F : NF} {b : Expr} {dV : Value} (ps : Array Value) : LamO f F b dV ≠ .tbl ps := fun z => by
  unfold LamO at z
  cases z
theorem LamAt.ext {H H' : Hp} {f : Addr} {F : NF} {b : Expr} (h : LamAt H f F b) (e : ExtN H H') : LamAt H' f F b := by
  obtain ⟨dV, h1, h2⟩ := h
  refine ⟨dV, e _ _ h1 lamO_ne, ?_⟩
  rcases h2 with z | ⟨n, T, z, q⟩
  · exact .inl z
  · exact .inr ⟨n, T, z, e _ _ q fun ps z => by cases z⟩
theorem lamO_at {P : Program} {w : World} {H : Hp} {h : Heap} {f : Addr} {F : NF} {b : Expr} (hok : HOk P w H h) (e : LamAt H f F b) :
    ∃ dV doc pm ctv : Value, h.get? f = some ({ cls := .type "function", data := .func (lamFd F b dV doc pm ctv) } : Obj) ∧ ∃ us : List Value, Vals ((dInts F.params.defaults).map V.int) us ∧ DfIn h dV us := by
  obtain ⟨dV, h1, h2⟩ := e
  obtain ⟨doc, pm, ctv, z⟩ := (hok f _ h1).1
  refine ⟨dV, doc, pm, ctv, z, ?_⟩
  rcases h2 with ⟨n, z⟩ | ⟨n, T, z, q⟩
  · rw [n]
    exact ⟨[], .nil, .inl ⟨rfl, z⟩⟩
  · obtain ⟨_, its, r, p⟩ := hok T _ q
    refine ⟨its, r, .inr ⟨fun z => ?_, T, z, p⟩⟩
    rw [z] at r
    cases hd : dInts F.params.defaults with
    | nil => exact n hd
    | cons a l =>
      rw [hd] at r
      cases r
section
variable {X : Cx} {pins : List (Addr × Obj)} {σ : L2.St} {H : Hp} {s : Shared}
theorem lam_laid {F : NF} {b : Expr} {dV doc pm ctv : Value} {t' : Nat} (I : Inv X pins σ H s) :
    Inv X pins σ (upd H s.heap.objs.size (LamO s.heap.objs.size F b dV)) { s with heap := s.heap.push ({ cls := .type "function", data := .func (lamFd F b dV doc pm ctv) } : Obj), toks := t' } := by
  have e : (s.heap.push ({ cls := .type "function", data := .func (lamFd F b dV doc pm ctv) } : Obj)).get? s.heap.objs.size = some ({ cls := .type "function", data := .func (lamFd F b dV doc pm ctv) } : Obj) := Heap.get?_push_size _ rfl
  exact I.laid (fun _ _ z => Heap.get?_push_of_some _ z) (Nat.le_refl _) ⟨⟨doc, pm, ctv, e⟩, ⟨_, e⟩, fun _ _ ⟨d, p, c, z⟩ k => ⟨d, p, c, k _ z⟩⟩
/-- the words of the lambda that X makes: c' its code object -/
abbrev lamF (X : Cx) (params : Arguments) (scope : Scope) (c' : Addr) : NF := ⟨"<lambda>", X.env.qual ++ "<lambda>", params, [], scope, cloFrom X.env.cells scope.names [], c'⟩
/-- a lambda made, its defaults laid, and known from now on -/
theorem lam_tail {T : List (Addr × Str)} {c P : Addr} {params : Arguments} {body : Expr} {scope : Scope} {pos : Pos} {fl : Nat} {dV : Value} {E Q : Value → Shared → Prop} (I : Inv X pins σ H s) (TB : TabB X.base X.mg c P) (hcode : X.env.code = .ref c)
    (hm : (P, X.env.qual ++ "<lambda>") ∈ T) (hu : ∀ p ∈ T, p.1 = P → p.2 = X.env.qual ++ "<lambda>") (hT : Tabs T H) (hfree : ∀ y ∈ scope.names, y.2 = .free → ∃ c, X.env.cells.lookup y.1 = some c)
    (k : ∀ (f c' : Addr) (H1 : Hp) (s' : Shared), Inv X pins σ H1 s' → ExtN H H1 → Tabs T H1 → H f = none → H1 f = some (LamO f (lamF X params scope c') body dV) → H1 c' = some (CodeO c' (X.env.qual ++ "<lambda>")) → Q (.ref f) s') :
    wpAny (model X.prog X.w) X.A (makeTail "<lambda>" (X.env.qual ++ "<lambda>") params (.expr body) scope X.env dV .none none pos fl) Q E s := by
  have hTP := hT (P, X.env.qual ++ "<lambda>") hm
  obtain ⟨ps, hP, trip, among⟩ := hTP
  have oP : s.heap.get? P = some { cls := .none, data := .fields ps } := I.hok P _ hP
  have bl := TB.bm.keeps I.bk
  have gl := I.mod.glob.keeps I.bk
  have cd := TB.code.keeps I.bk
  rcases hc : codeAmong pos ps.toList with _ | cv
  · refine PySem.W.kdv_makeTail (closure_ok hfree) I.ok.glob gl hcode cd oP trip hc TB.gP bl ?_
    intro c' ctv doc h' tk hx hge hlt hrec htb
    obtain ⟨c0, oc, vs, t, hc0, hoc, hdc, hvc⟩ := hrec
    obtain rfl : c0 = c' := (Value.ref.inj hc0).symm
    have fresh : H c0 = none := I.hok.fresh hge
    have I1 := inv_table (t' := tk) (q := X.env.qual ++ "<lambda>") (h' := h') I hP (fun b o n e => hx b o n e) htb hge ⟨oc, vs, t, hoc, hdc, hvc⟩
    generalize eH1 : upd (upd H P (.tbl (ps ++ #[rawInt pos.line, rawInt pos.col, .ref c0]))) c0 (CodeO c0 (X.env.qual ++ "<lambda>")) = H1 at I1
    have at1 : H1 c0 = some (CodeO c0 (X.env.qual ++ "<lambda>")) := by rw [← eH1]; exact upd_same
    have ext1 : ExtN H H1 := fun b o e n => by
      have b1 : b ≠ c0 := ne_of_none e fresh
      have b2 : b ≠ P := fun z => n ps (Option.some.inj (e.symm.trans (z ▸ hP)))
      rw [← eH1, upd_ne b1, upd_ne b2]
      exact e
    have tabs1 : Tabs T H1 := fun p hp => by
      by_cases hb : p.1 = P
      · have hq := hu p hp hb
        rw [hq, hb]
        refine ⟨ps ++ #[rawInt pos.line, rawInt pos.col, .ref c0], ?_, ?_, fun p' cv hcv => ?_⟩
        · rw [← eH1, upd_ne (ne_of_none hP fresh), upd_same]
        · rw [Array.toList_append]
          exact PySem.TriplesOk_snoc _ _ _ _ trip
        · rw [Array.toList_append] at hcv
          rcases among_app _ trip hcv with z | z
          · obtain ⟨c1, a1, a2⟩ := among p' cv z
            exact ⟨c1, a1, ext1 _ _ a2 codeO_ne⟩
          · exact ⟨c0, z, at1⟩
      · obtain ⟨qs, a1, a2, a3⟩ := hT p hp
        refine ⟨qs, ?_, a2, fun p' cv hcv => ?_⟩
        · rw [← eH1, upd_ne (ne_of_none a1 fresh), upd_ne hb]
          exact a1
        · obtain ⟨c1, b1, b2⟩ := a3 p' cv hcv
          exact ⟨c1, b1, ext1 _ _ b2 codeO_ne⟩
    have nf1 : H1 h'.objs.size = none := I1.hok.fresh (Nat.le_refl _)
    have I2 := lam_laid (F := lamF X params scope c0) (b := body) (dV := dV) (doc := doc) (pm := (X.mg "__name__").getD .none) (ctv := ctv) (t' := tk) I1
    have up : ∀ b o, H1 b = some o → upd H1 h'.objs.size (LamO h'.objs.size (lamF X params scope c0) body dV) b = some o := fun b o e => (upd_ne (ne_of_none e nf1)).trans e
    exact k _ c0 _ _ I2 (ext1.trans (ExtN.of up)) (tabs1.ext up) (I.hok.fresh (Nat.le_trans hge (Nat.le_of_lt hlt))) upd_same (up _ _ at1)
  · obtain ⟨c', rfl, at0⟩ := among pos cv hc
    refine PySem.W.kdv_makeTailHit (closure_ok hfree) I.ok.glob gl hcode cd oP trip hc bl ?_
    intro ctv doc h' tk hx hsz
    have I1 : Inv X pins σ H { s with heap := h', toks := tk } := I.kept hx
    have nf1 : H h'.objs.size = none := I1.hok.fresh (Nat.le_refl _)
    have I2 := lam_laid (F := lamF X params scope c') (b := body) (dV := dV) (doc := doc) (pm := (X.mg "__name__").getD .none) (ctv := ctv) (t' := tk) I1
    have up : ∀ b o, H b = some o → upd H h'.objs.size (LamO h'.objs.size (lamF X params scope c') body dV) b = some o := fun b o e => (upd_ne (ne_of_none e nf1)).trans e
    exact k _ c' _ _ I2 (ExtN.of up) (hT.ext up) nf1 upd_same (up _ _ at0)
/-- the reading of a lambda as a value -/
def tLamV (X : Cx) (T : List (Addr × Str)) (params : Arguments) (body : Expr) (scope : Scope) : TE := fun _ H Q => Tabs T H ∧ ∀ (f c' : Addr) (H1 : Hp), ExtN H H1 → Tabs T H1 → H f = none →
  LamAt H1 f (lamF X params scope c') body → H1 c' = some (CodeO c' (X.env.qual ++ "<lambda>")) → Q (.ref f) H1
theorem pe_lamV {T : List (Addr × Str)} {c P : Addr} {params : Arguments} {body : Expr} {scope : Scope} {pos : Pos} (TB : TabB X.base X.mg c P) (hcode : X.env.code = .ref c) (hm : (P, X.env.qual ++ "<lambda>") ∈ T)
    (hu : ∀ p ∈ T, p.1 = P → p.2 = X.env.qual ++ "<lambda>") (hdef : params.defaults = []) (hkd : params.kw_defaults = []) (hfr : ∀ y ∈ scope.names, y.2 = .free → X.env.scope.names.lookup y.1 = some .cell ∨ X.env.scope.names.lookup y.1 = some .free) :
    PE X (.Lambda params body scope pos) (tLamV X T params body scope) := by
  refine ⟨fun pins s σ H Q I h => PySem.W.kla_eval ?_ ?_⟩
  · rw [defaultsOf_eq, hdef, hkd]
    rfl
  rw [makeFunction_eq]
  simp only [List.zip_nil_right, List.filterMap_nil, List.isEmpty_nil, if_true, pure_bind]
  refine lam_tail I TB hcode hm hu h.1 (fun y hy e => ?_) fun f c' H1 s' I1 e1 t1 n1 a1 b1 => ⟨.ref f, H1, I1, rfl, h.2 f c' H1 e1 t1 n1 ⟨.none, a1, .inl ⟨by show dInts params.defaults = []; rw [hdef] <;> rfl, rfl⟩⟩ b1⟩
  rcases hfr y hy e with z | z
  · exact I.ok.has _ (.inl z)
  · exact I.ok.has _ (.inr z)
/-- .. with one integer as default -/
theorem pe_lamV1 {T : List (Addr × Str)} {c P : Addr} {params : Arguments} {body : Expr} {scope : Scope} {pos p1 : Pos} {i : Int} {j : Nat} (TB : TabB X.base X.mg c P) (hcode : X.env.code = .ref c) (hm : (P, X.env.qual ++ "<lambda>") ∈ T)
    (hu : ∀ p ∈ T, p.1 = P → p.2 = X.env.qual ++ "<lambda>") (hdef : params.defaults = [.Constant (.int i) j p1]) (hkd : params.kw_defaults = []) (hfr : ∀ y ∈ scope.names, y.2 = .free → X.env.scope.names.lookup y.1 = some .cell ∨ X.env.scope.names.lookup y.1 = some .free) :
    PE X (.Lambda params body scope pos) (tLamV X T params body scope) := by
  refine ⟨fun pins s σ H Q I h => PySem.W.kdv_lam (by rw [hdef]; rfl) hkd ?_⟩
  rw [hdef]
  refine PySem.W.kdv_all1 (thn ((pe_int (X := X) (i := i) (j := j) (pos := p1)).run pins s σ H (fun v H1 => v = .int i ∧ H1 = H) I ⟨rfl, rfl⟩) ?_)
  rintro u s1 ⟨v, H1, I1, r1, rfl, rfl⟩
  refine PySem.W.kdv_all0 ?_
  rw [makeFunction_eq]
  simp only [List.zip_nil_right, List.filterMap_nil, List.isEmpty_nil, List.isEmpty_cons, if_true, pure_bind, Bool.false_eq_true, if_false]
  refine wpAny_bind (wpAny_newTextTuple ?_)
  have nT : H1 s1.heap.objs.size = none := I1.hok.fresh (Nat.le_refl _)
  have I2 : Inv X pins σ (upd H1 s1.heap.objs.size (.tup [.int i])) { s1 with heap := s1.heap.push { cls := .type "tuple", data := .seq [u].toArray } } :=
    I1.laid (t' := s1.toks) (fun _ _ z => Heap.get?_push_of_some _ z) (Nat.le_refl _) ⟨by show 1 ≤ sizeLine; decide, [u], .cons r1 .nil, IsTup.new s1.heap _⟩
  have up : ∀ b o, H1 b = some o → upd H1 s1.heap.objs.size (HO.tup [V.int i]) b = some o := fun b o e => (upd_ne (ne_of_none e nT)).trans e
  refine lam_tail I2 TB hcode hm hu (h.1.ext up) (fun y hy e => ?_) fun f c' H2 s' I3 e1 t1 n1 a1 b1 => ⟨.ref f, H2, I3, rfl, h.2 f c' H2 ((ExtN.of up).trans e1) t1 ?_ ⟨_, a1, .inr ⟨?_, _, rfl, ?_⟩⟩ b1⟩
  · rcases hfr y hy e with z | z
    · exact I.ok.has _ (.inl z)
    · exact I.ok.has _ (.inr z)
  · cases q : H1 f with
    | none => rfl
    | some o => exact (Option.some_ne_none _ ((up _ _ q).symm.trans n1)).elim
  · show dInts params.defaults ≠ []
    rw [hdef]
    simp [dInts]
  · show H2 s1.heap.objs.size = some (.tup ((dInts params.defaults).map V.int))
    rw [hdef]
    exact e1 _ _ upd_same fun ps z => by cases z
end
/-! ### what a lambda promises -/
structure LOk (P : Program) (w : World) (K : PySem.W.Frag) (mg : Str → Option Value) (base : Heap) (CX : CXT) (k : Nat) (f : Addr) (F : NF) (b : Expr) (fr : List Str) (sp : List (Option V) → Hp → VK → XK → Prop) : Prop where
  run : ∀ (A : Around) (outer : List Env) (s : Shared) (H : Hp) (ws : List (Option V)) (Q : VK) (E : XK), Room k A → Env0 P w K mg base A outer s H → LamAt H f F b → H F.c = some (CodeO F.c F.qual) →
    CellsAt F.cl fr ws s.heap H → sp ws H Q E → codeAny (model P w) A (.call (.ref f) ⟨[], []⟩) (CR CX outer P w H s Q E) s
section
variable {CX : CXT} {P : Program} {w : World} {K : PySem.W.Frag} {mg : Str → Option Value} {base : Heap} {N ps fr : List Str} {F : NF} {b : Expr} {f : Addr} {k : Nat} {sp : List (Option V) → Hp → VK → XK → Prop}
theorem lok_of (S : NScope N ps fr F.scope) (hl : (dInts F.params.defaults).length = ps.length)
    (hb : ∀ (dV doc pm ctv : Value) (s : Shared) (us : List Value), us.length = ps.length → DfIn s.heap dV us → BindsTo s (lamFd F b dV doc pm ctv) ⟨[], []⟩ (ps.zip us))
    (hbody : ∀ (A : Around) (outer : List Env) (s : Shared) (H : Hp) (ws : List (Option V)) (Q : VK) (E : XK), Room k (A.deeper (envF F f s.heap.objs.size)) → ws.length = fr.length → sp ws H Q E →
      ∃ t, PE (ncx CX P w K mg base N F f A outer s H E) b t ∧ t (startF N ((dInts F.params.defaults).map V.int) ws) H Q) : LOk P w K mg base CX (k + 1) f F b fr sp := by
  refine ⟨fun A outer s H ws Q E hr e0 hf hc C hsp => ?_⟩
  have lim : s.heap.NoLimit := e0.mod.nolimit.keeps fun b o e => (e0.bs b o e).1
  obtain ⟨dV, doc, pm, ctv, ho, us, rus, hd⟩ := lamO_at e0.hok hf
  have hlu : us.length = ps.length := by rw [← rus.length, List.length_map, hl]
  refine PySem.W.kla_callFunE hr.depth ho rfl S.co S.gen rfl (codeO_at e0.hok hc) ?_
  refine hb dV doc pm ctv s us hlu hd _ _ _ _ ?_
  refine wpAny_newFunctionEnv S.nocell (fun ⟨n, v⟩ hy => S.par n (List.of_mem_zip hy).1) (fun h₁ hns hsb => ⟨lim.fresh _ hsb, ?_⟩) S.kind
  show codeAny _ _ (.expr b (envF F f s.heap.objs.size)) _ _
  obtain ⟨t, ht, hq⟩ := hbody A outer s H ws Q E (hr.deeper _) C.len hsp
  have old : ∀ b o, s.heap.get? b = some o → h₁.get? b = some o := fun b o e => hsb.extBut b o (Nat.ne_of_lt (Heap.lt_size e)) (Heap.get?_push_of_some _ e)
  have I := inv_startN (CX := CX) (N := N) (F := F) (f := f) (E := E) (us := us) (vs := (dInts F.params.defaults).map V.int) (tk := s.toks + (ps.zip us).length) S hr.hd e0 (by rw [List.length_map, hl]) rus C hns old
  refine PySem.W.kla_codeExpr (wpAny_mono (ht.run [] _ _ H Q I hq) (fun v s' q => ?_) fun e s' q => q)
  obtain ⟨x, H', J, rx, q⟩ := q
  exact ⟨x, H', J.os, J.bare, J.base, J.hok, rx, q⟩
end
end Own

/-! from M06 -/
namespace Own
open PySem PySem.Spec PyProof.Rows L2 LamX NdefX
section
variable {X : Cx} {pins : List (Addr × Obj)} {σ : L2.St} {H : Hp} {s : Shared} {cl : List (Str × Addr)} {fr : List Str} {ws : List (Option V)}
/-- what captured cells held at the entry they hold still -/
theorem cells_still (C : CellsAt cl fr ws X.s_0.heap X.H_0) (hx : ∀ b, b ∉ X.ex ∨ ∀ y, cl.lookup y ≠ some b) (I : Inv X pins σ H s) : CellsAt cl fr ws s.heap H := by
  have nx : ∀ {y c}, cl.lookup y = some c → c ∉ X.ex := fun {y c} e => (hx c).elim id fun z => absurd e (z y)
  have still : ∀ {y c v}, cl.lookup y = some c → X.s_0.heap.IsCell c v → s.heap.IsCell c v := fun {y c v} e ⟨o, ho, hd⟩ => by
    obtain ⟨sl, z⟩ := I.base.any ho (C.all y c e).1 (nx e)
    exact ⟨_, z, hd⟩
  constructor
  · exact C.len
  · intro y c e
    obtain ⟨n, v, z⟩ := C.all y c e
    obtain ⟨o, ho, _⟩ := id z
    exact ⟨I.base.free c o ho n (nx e), v, still e z⟩
  · exact C.inj
  · intro i y e
    obtain ⟨c, hc, hv⟩ := C.has i y e
    refine ⟨c, hc, fun v ev => ?_⟩
    obtain ⟨u, r, z⟩ := hv v ev
    exact ⟨u, r, still hc z⟩
/-- the call of a made lambda -/
theorem run_lam {CX : CXT} {k : Nat} {f : Addr} {F : NF} {b : Expr} {sp : List (Option V) → Hp → VK → XK → Prop} {Q : VK} {E : XK} (G : LOk X.prog X.w X.K X.mg X.base CX k f F b fr sp) (hr : Room k X.A) (hx : Passes CX X E) (I : Inv X pins σ H s)
    (hf : LamAt H f F b) (hc : H F.c = some (CodeO F.c F.qual)) (C : CellsAt F.cl fr ws s.heap H) (q : sp ws H Q E) : wpAny (model X.prog X.w) X.A (call (.ref f) []) (EP X pins σ Q) X.xe s := by
  refine wpAny_call (codeAny_mono (G.run _ _ _ _ _ _ _ hr I.env0 hf hc C q) fun r s' z => ?_)
  rcases r with e | fl
  · exact hx pins σ H s e s' I z
  · cases fl
    case ret u => exact I.after z
    all_goals exact False.elim z
/-- deed(), deed a name whose slot holds a lambda; what it captured is known at the entry of this very def -/
theorem pe_deed {CX : CXT} {k i : Nat} {f : Addr} {F : NF} {b : Expr} {sp : List (Option V) → Hp → VK → XK → Prop} {E : XK} {a : Str} {p1 p2 : Pos} (C : CellsAt F.cl fr ws X.s_0.heap X.H_0) (hex : X.ex = []) (G : LOk X.prog X.w X.K X.mg X.base CX k f F b fr sp) (hr : Room k X.A)
    (hx : Passes CX X E) (hN : X.N[i]? = some a) (hv : Vis X.env.scope a) (hd : (a == ("__debug__" : Str)) = false := by decide) (hcd : (a == ("__classdict__" : Str)) = false := by decide) :
    PE X (.Call (.Name a p1) [] [] p2) (fun σ H Q => σ[i]? = some (some (.ref f)) ∧ LamAt H f F b ∧ H F.c = some (CodeO F.c F.qual) ∧ sp ws H Q E) := by
  constructor
  intro pins s σ H Q I h
  obtain ⟨hs, hf, hc, q⟩ := h
  refine wpAny_Call_Name_kw (thn ((pe_var (pos := p1) hN hv hd hcd).run pins s σ H (fun v H1 => v = .ref f ∧ H1 = H) I ⟨.ref f, hs, rfl, rfl⟩) ?_)
  rintro u s1 ⟨v, H1, I1, r1, rfl, rfl⟩
  obtain rfl : u = Value.ref f := r1
  obtain ⟨dV, doc, pm, ctv, ho, _⟩ := lamO_at I1.hok hf
  refine PySem.W.callWith_F0 ⟨_, _, _, _, ho⟩ ?_
  exact run_lam G hr hx I1 hf hc (cells_still C (fun _ => .inl (by rw [hex]; simp)) I1) q
end
section
variable {X : Cx}
/-- a list comprehension's reading, the element's depending on the def's slots as the block begins -/
def tLcD (wi : TI) (g : TG) (te : L2.St → TE) (vs : List Nat) : TE := fun σ H Q => tLc wi g tYes (te σ) vs σ H Q
theorem pe_lcD {elt tg iter : Expr} {scope : Scope} {own : List (Str × Nat)} {pos : Pos} {wi : TI} {g : TG} {te : L2.St → TE} (hc : X.calm = true) (hN : X.N.Nodup) (hi : PI X tg iter wi) (ok : BlkOk X.N X.env.scope scope own)
    (hg : ∀ (s : Shared) (H : Hp) (C : Addr) (cl : List (Str × Addr)) (fp : List Addr), PG (X.blk s H scope (compEnvC scope cl C X.env) fp) tg g)
    (he : ∀ (pins : List (Addr × Obj)) (σ : L2.St) (s : Shared) (H : Hp) (C : Addr) (cl : List (Str × Addr)) (fp : List Addr), Inv X pins σ H s → (∀ b ∈ fp, FpOk X pins H b) → PE (X.blk s H scope (compEnvC scope cl C X.env) fp) elt (te σ))
    (hs : ∀ x, foldedSetIterable iter X.env x = pure x := by intro _; rfl) : PE X (.ListComp elt [⟨tg, iter, [], 0⟩] scope pos) (tLcD wi g te (own.map (·.2))) := by
  constructor
  intro pins s σ H Q I h
  have cap : ∀ y ∈ scope.names, y.2 = .free → ∃ c, X.env.cells.lookup y.1 = some c := fun y hy e => (ok.free y hy e).elim (fun z => I.ok.has _ (.inl z)) (fun z => I.ok.has _ (.inr z))
  rw [eval_ListComp]
  refine wpAny_comprehension_free (use := none) rfl hs (closure_ok cap) ok.kind (fun y hy e => (ok.uniq y hy).trans (congrArg some e)) ?_
  refine thn (hi.run pins s σ H _ I h) fun itr sA hA => thn hA fun _ sB hB => ?_
  obtain ⟨it, fp, tn, J, HB, rfl, IB, T, tB, fB, q⟩ := hB
  have nD : HB sB.heap.objs.size = none := IB.hok.fresh (Nat.le_refl _)
  obtain ⟨W, ⟨m0, w0⟩, turn⟩ := q _ nD
  refine wpAny_newObj_type (newEnv_comp ?_) (by show 0 ≤ sizeLine; decide)
  have inSz : ∀ b ∈ fp, b < sB.heap.objs.size := fun b hb => (T.obj _ _ tB b hb).elim fun _ z => Heap.lt_size z.1
  -- the new list stands
  generalize hsC : ({ sB with heap := sB.heap.push { cls := .type "list", data := .seq ([] : List Value).toArray } } : Shared) = sC
  have heapC : sC.heap = sB.heap.push { cls := .type "list", data := .seq ([] : List Value).toArray } := by subst hsC; rfl
  have toC : ∀ b o, sB.heap.get? b = some o → sC.heap.get? b = some o := fun b o z => by rw [heapC]; exact Heap.get?_push_of_some _ z
  generalize hD : sB.heap.objs.size = D at nD w0 turn inSz
  have IC : Inv X pins σ (upd HB D (.lst [])) sC := by
    have z := IB.laid (a := D) (o := .lst []) (t' := sB.toks) (h' := sC.heap) toC (Nat.le_of_eq hD) ⟨Nat.zero_le _, [], 0, .nil, by rw [heapC, ← hD]; exact Heap.get?_push_size _ rfl⟩
    subst hsC
    exact z
  generalize hHC : upd HB D (.lst []) = HC at IC w0
  have fC : ∀ b ∈ fp, FpOk X pins HC b ∧ b < sC.heap.objs.size := fun b hb => by
    have lt := inSz b hb
    refine ⟨⟨?_, (fB b hb).2⟩, ?_⟩
    · rw [← hHC, upd_ne (Nat.ne_of_lt lt)]
      exact (fB b hb).1
    · rw [heapC, Heap.size_push, hD]
      exact Nat.lt_succ_of_lt lt
  have tC : tn 0 sC.heap := T.keep _ _ _ tB fun b _ o z => toC b o z
  have blk := block_start IC ok hN fC
  generalize hcl : cellsFrom (sC.heap.objs.size + 1) scope.names (cloFrom X.env.cells scope.names []) = cells at blk ⊢
  have hgB := hg sC HC sC.heap.objs.size cells fp
  have heB := he pins σ sC HC sC.heap.objs.size cells fp IC (fun b hb => (fC b hb).1)
  have htB : PTs (X.blk sC HC scope (compEnvC scope cells sC.heap.objs.size X.env) fp) [] tYes := pts_nil
  show codeAny _ _ (.compStart (.ListComp elt [⟨tg, iter, [], 0⟩] scope pos) 0 (.ref it) (.ref D) (compEnvC scope cells sC.heap.objs.size X.env)) (compPost (model X.prog X.w) X.A X.xe none (EP X pins σ Q) (.ref D) sC.heap.objs.size) { sC with heap := pushCells (sC.heap.push { cls := .type "dict", data := .dict #[] }) scope.names }
  generalize hce : compEnvC scope cells sC.heap.objs.size X.env = ce at blk hgB heB htB ⊢
  have ceL : ce.locals = sC.heap.objs.size := by rw [← hce]; rfl
  generalize hsE : ({ sC with heap := pushCells (sC.heap.push { cls := .type "dict", data := .dict #[] }) scope.names } : Shared) = sE at blk ⊢
  have tE : tn 0 sE.heap := T.keep _ _ _ tC fun b _ o z => by rw [← hsE]; exact pushCells_keeps _ _ _ _ (Heap.get?_push_of_some _ z)
  -- the iterator's objects as the block sees them
  have seen : ∀ {σ' : L2.St} {H' : Hp} {s' : Shared}, Inv (X.blk sC HC scope ce fp) [] σ' H' s' → (∀ b ∈ fp, H' b = none) → ∀ b ∈ fp, FpOk (X.blk sC HC scope ce fp) [] H' b := fun {σ' H' s'} J' n b hb => by
    have z1 := J'.ok.exf b hb
    exact ⟨n b hb, z1.1, J'.ok.exfs b hb, .inl hb, z1.2, fun p hp => absurd (show p ∈ ([] : List (Addr × Obj)) ++ [] from hp) (by simp)⟩
  have whole : codeAny (model X.prog X.w) X.A (.compLoop (.ListComp elt [⟨tg, iter, [], 0⟩] scope pos) 0 (.ref it) (.ref D) ce) (compPost (model X.prog X.w) X.A X.xe none (EP X pins σ Q) (.ref D) sC.heap.objs.size) sE := by
    refine compLoop_any (fun n s' => ∃ (i : Nat) (H' : Hp), W i n H' ∧ (∀ b ∈ fp, H' b = none) ∧ tn i s'.heap ∧ Inv (X.blk sC HC scope ce fp) [] (wipe σ (own.map (·.2))) H' s') ?_ m0 ⟨0, HC, w0, fun b hb => (fC b hb).1.1, tE, blk⟩
    rintro n sF ⟨i, HF, wF, nF, tF, IF⟩
    rcases turn i n HF wF with ⟨hstop, hq⟩ | ⟨hgo, Nx, hNx, step⟩
    · have fin := T.done (X.blk sC HC scope ce fp) rfl rfl rfl hc i [] sF _ HF (fun _ _ => False) IF (seen IF nF) tF hstop
      refine thnF fin ?_
      rintro _ sG ⟨rfl, IG⟩
      have IX : Inv X pins σ HF sG := IC.call' (ch := fp) IG.os IG.base IG.hok IG.bare fun b hb => by
        obtain ⟨⟨_, a1, a2, a3, a4, a5⟩, _⟩ := fC b hb
        exact ⟨a3, a1, a4, a5⟩
      have free : HF sC.heap.objs.size = none := by
        have z : HF ce.locals = none := IG.free
        rw [← ceL]
        exact z
      obtain ⟨m, hn, _⟩ := IG.loc
      have hn : sG.heap.Ns ce.locals m := hn
      rw [ceL] at hn
      obtain ⟨f0, f1, f2, f3, f4, f5⟩ := IC.fpOk (H' := HF) (Nat.le_refl _) free
      exact ⟨m, hn, fun h2 sb => ⟨.ref D, HF, IX.turned (t' := sG.toks) (fun b o hb e => (sb.2 b hb).trans e) f0 f1 f3 f4 f5, rfl, hq⟩⟩
    · have nxt := T.item (X.blk sC HC scope ce fp) rfl rfl rfl hc i [] sF _ HF (fun _ _ => False) IF (seen IF nF) tF hgo
      refine thnF nxt ?_
      rintro _ sG ⟨u, rfl, hG⟩
      refine thnF hG ?_
      rintro _ sI ⟨x, HI, II, rI, yI, tI, nI⟩
      have pinned := II.pinned (seen II nI) (T.obj _ _ tI)
      refine thnF (hgB.run _ sI _ HI x u _ pinned rI (step x HI yI)) ?_
      rintro _ sJ ⟨σJ, HJ, IJ, hwJ, qJ⟩
      refine thnF (htB.run _ sJ σJ HJ _ IJ qJ) ?_
      rintro b sK ⟨HK, IK, qK⟩
      have again : ∀ {s' : Shared} {H' : Hp}, Inv (X.blk sC HC scope ce fp) ([] ++ pinsAt fp sI.heap) σJ H' s' → Nx H' → ∃ m, m < n ∧ ∃ (i : Nat) (H' : Hp), W i m H' ∧ (∀ b ∈ fp, H' b = none) ∧ tn i s'.heap ∧ Inv (X.blk sC HC scope ce fp) [] (wipe σ (own.map (·.2))) H' s' := fun {s' H'} J' hx => by
        obtain ⟨m', lt, w'⟩ := hNx H' hx
        have pn : ∀ b ∈ fp, ∀ o, sI.heap.get? b = some o → s'.heap.get? b = some o ∧ H' b = none := fun b hb o z => by
          have y := J'.pin (b, o) (List.mem_append_right _ (List.mem_append_right _ (mem_pinsAt hb z)))
          exact ⟨y.1, y.2.1⟩
        refine ⟨m', lt, i + 1, H', w', fun b hb => ?_, T.keep _ _ _ tI fun b hb o z => (pn b hb o z).1, ?_⟩
        · obtain ⟨o, z, _⟩ := T.obj _ _ tI b hb
          exact (pn b hb o z).2
        · refine (J'.unpinned (pins := [])).weak (by rw [← hwJ, wipe_length]) fun j v z => ?_
          rw [← hwJ] at z
          exact (wipe_some z).1
      cases b
      case false =>
        simp only [Bool.false_eq_true, if_false] at qK ⊢
        exact again IK qK
      case true =>
        simp only [if_true] at qK ⊢
        refine thnF (heB.run _ sK σJ HK _ IK qK) ?_
        rintro z sL ⟨y, HL, IL, rL, acc, hacc, hlen, hnx⟩
        exact app_ok (X := X.blk sC HC scope ce fp) IL hacc hlen rL fun sM IM => again IM hnx
  exact codeAny_compStart_list whole (T.self X.A 0 _ _ _ tE whole)
end
end Own

/-! from N06 -/
namespace Own
open PySem PySem.Spec PyProof.Rows L2 LamX NdefX
/-- a def of the text as its callers know it -/
structure DefOk (P : Program) (w : World) (K : PySem.W.Frag) (mg : Str → Option Value) (base : Heap) (CX : CXT) (x : Str) (k : Nat) (ps : List Str) (sp : Sp) : Prop where
  ex : ∃ (f : Addr) (fd : FuncData), FnOk P w K mg base CX k f fd ps sp ∧ mg x = some (.ref f) ∧ PySem.W.keepIn K (.ref f) = true ∧ Binds K fd ps []
/-- .. as the top has left it -/
structure At (K : PySem.W.Frag) (mg : Str → Option Value) (x : Str) (st : Stmt) (ps : List Str) : Prop where
  ex : ∃ (f : Addr) (fd : FuncData), Fun K x x st f fd ∧ mg x = some (.ref f) ∧ Binds K fd ps []
theorem At.ok {P : Program} {w : World} {K : PySem.W.Frag} {mg : Str → Option Value} {base : Heap} {CX : CXT} {x : Str} {st : Stmt} {k : Nat} {ps : List Str} {sp : Sp} (a : At K mg x st ps) (h : ∀ (f : Addr) (fd : FuncData), Fun K x x st f fd → FnOk P w K mg base CX k f fd ps sp) :
    DefOk P w K mg base CX x k ps sp := by
  obtain ⟨f, fd, F, g, b⟩ := a.ex
  exact ⟨f, fd, h f fd F, g, F.kp, b⟩
section
variable {X : Cx} {CX : CXT} {k j : Nat} {ps : List Str} {sp : Sp} {E : XK} {x : Str} {p pos : Pos} {e : Expr} {es : List Expr} {t : TA}
theorem pe_def (D : DefOk X.prog X.w X.K X.mg X.base CX x k ps sp) (hr : Room j X.A) (hj : k ≤ j) (hg : Gl X x) (hx : Passes CX X E) (ha : PA X (e :: es) t) (hdb : (x == ("__debug__" : Str)) = false := by decide)
    (he : starEach (e :: es) X.env = (false, eval e X.env) :: starEach es X.env := by rfl) (hpl : (backTo pos (starEach es X.env)).any (·.1) = false := by rfl) : PE X (.Call (.Name x p) (e :: es) [] pos) (tCall sp [] E t) := by
  obtain ⟨f, fd, F, g, kp, b⟩ := D.ex
  exact pe_call F (hr.mono hj) hg g kp b .nil hx ha hdb he hpl
theorem pe_def0 (D : DefOk X.prog X.w X.K X.mg X.base CX x k ps sp) (hr : Room j X.A) (hj : k ≤ j) (hg : Gl X x) (hx : Passes CX X E) (hdb : (x == ("__debug__" : Str)) = false := by decide) : PE X (.Call (.Name x p) [] [] pos) (tCall sp [] E tNil) := by
  obtain ⟨f, fd, F, g, kp, b⟩ := D.ex
  exact pe_call0 F (hr.mono hj) hg g kp b .nil hx hdb
end
/-- a def whose first argument is a lambda; sp: what it makes of the lambda's promise and of the other arguments -/
structure LamDef (P : Program) (w : World) (K : PySem.W.Frag) (mg : Str → Option Value) (base : Heap) (g : Addr) (k : Nat) (sp : (Hp → VK → XK → Prop) → List V → Hp → VK → Prop) : Prop where
  run : ∀ (A : Around) (outer : List Env) (s : Shared) (H : Hp) (us : List Value) (f : Addr) (vs : List V) (F : NF) (b : Expr) (fr : List Str) (ws : List (Option V)) (spl : List (Option V) → Hp → VK → XK → Prop) (kl : Nat) (Q : VK), Room k A → kl < k → Env0 P w K mg base A outer s H →
    Vals (.ref f :: vs) us → LOk P w K mg base (L2.CX P w) kl f F b fr spl → LamAt H f F b → H F.c = some (CodeO F.c F.qual) → CellsAt F.cl fr ws s.heap H → sp (spl ws) vs H Q →
    codeAny (model P w) A (.call (.ref g) ⟨us, []⟩) (CR CX0 outer P w H s Q E0) s
structure LamDefAt (P : Program) (w : World) (K : PySem.W.Frag) (mg : Str → Option Value) (base : Heap) (x : Str) (k : Nat) (sp : (Hp → VK → XK → Prop) → List V → Hp → VK → Prop) : Prop where
  ex : ∃ g : Addr, LamDef P w K mg base g k sp ∧ mg x = some (.ref g) ∧ PySem.W.keepIn K (.ref g) = true
/-- one of several lambdas: its words by its code object's address, its body, the captured names and their values, its promise -/
structure Lam where
  nf : Addr → NF
  b : Expr
  fr : List Str
  ws : List (Option V)
  sp : List (Option V) → Hp → VK → XK → Prop
def tLamCall {ι : Type} (L : ι → Lam) (sp : (Hp → VK → XK → Prop) → List V → Hp → VK → Prop) (t : TA) : TE := fun σ H Q => t σ H fun vs H1 => ∃ (i : ι) (f c' : Addr) (rest : List V), vs = .ref f :: rest ∧ LamAt H1 f ((L i).nf c') (L i).b ∧
  H1 ((L i).nf c').c = some (CodeO ((L i).nf c').c ((L i).nf c').qual) ∧ sp ((L i).sp (L i).ws) rest H1 Q
theorem pe_lamcall {ι : Type} {X : Cx} {L : ι → Lam} {k kl j : Nat} {sp : (Hp → VK → XK → Prop) → List V → Hp → VK → Prop} {x : Str} {p pos : Pos} {e : Expr} {es : List Expr} {t : TA} (D : LamDefAt X.prog X.w X.K X.mg X.base x k sp) (hkl : kl < k) (hr : Room j X.A) (hj : k ≤ j)
    (G : ∀ (i : ι) (f c' : Addr), LOk X.prog X.w X.K X.mg X.base (L2.CX X.prog X.w) kl f ((L i).nf c') (L i).b (L i).fr (L i).sp) (C : ∀ (i : ι) (c' : Addr), CellsAt ((L i).nf c').cl (L i).fr (L i).ws X.s_0.heap X.H_0) (hxc : ∀ (i : ι) (c' b : Addr), b ∉ X.ex ∨ ∀ y, ((L i).nf c').cl.lookup y ≠ some b)
    (hg : Gl X x) (ha : PA X (e :: es) t) (hdb : (x == ("__debug__" : Str)) = false := by decide) (he : starEach (e :: es) X.env = (false, eval e X.env) :: starEach es X.env := by rfl) (hpl : (backTo pos (starEach es X.env)).any (·.1) = false := by rfl) :
    PE X (.Call (.Name x p) (e :: es) [] pos) (tLamCall L sp t) := by
  obtain ⟨g, R, gm, kp⟩ := D.ex
  constructor
  intro pins s σ H Q I h
  refine wpAny_Call_Name_kw (ld_glob I hg gm ?_ hdb)
  refine PySem.W.callWith_K (h₀ := X.base) I.ok.mod.kin kp (thn (ha.run pos pins s σ H _ I h) ?_) he hpl
  rintro us s1 ⟨vs, H1, I1, r, i, f, c', rest, rfl, hf, hc, q⟩
  refine ⟨I1.kIn, wpAny_call (codeAny_mono (R.run X.A X.stack s1 H1 us f rest _ _ _ _ _ kl Q (hr.mono hj) hkl I1.env0 r (G i f c') hf hc (cells_still (C i c') (hxc i c') I1) q) fun z s' hz => ?_)⟩
  rcases z with er | fl
  · exact (show False from hz).elim
  · cases fl
    case ret u => exact I1.after hz
    all_goals exact False.elim hz
/-- what the def's own cells hold, told to a block that begins -/
theorem cells_blk {X : Cx} {pins : List (Addr × Obj)} {σ : L2.St} {H : Hp} {s : Shared} {scope : Scope} {fr : List Str} {js : List Nat} (I : Inv X pins σ H s) (hfree : ∀ y ∈ scope.names, y.2 = .free → X.env.scope.names.lookup y.1 = some .cell ∨ X.env.scope.names.lookup y.1 = some .free)
    (hfr : ∀ y ∈ fr, (y, NameKind.free) ∈ scope.names) (hjs : js.map (fun j => X.N[j]?) = fr.map some) : CellsAt (cloFrom X.env.cells scope.names []) fr (js.map (slotAt σ)) s.heap H := cells_of I (Caps.made I.ok hfree hfr hjs)
theorem cells_fp {X : Cx} {pins : List (Addr × Obj)} {σ : L2.St} {H : Hp} {s : Shared} {scope : Scope} {fp : List Addr} (I : Inv X pins σ H s) (hfree : ∀ y ∈ scope.names, y.2 = .free → X.env.scope.names.lookup y.1 = some .cell ∨ X.env.scope.names.lookup y.1 = some .free)
    (hfp : ∀ b ∈ fp, FpOk X pins H b) (b : Addr) : b ∉ fp ∨ ∀ y, (cloFrom X.env.cells scope.names []).lookup y ≠ some b := by
  by_cases hb : b ∈ fp
  · refine .inr fun y z => ?_
    have hf : ∀ y ∈ scope.names, y.2 = .free → ∃ c, X.env.cells.lookup y.1 = some c := fun y hy e => (hfree y hy e).elim (fun z => I.ok.has _ (.inl z)) fun z => I.ok.has _ (.inr z)
    exact (hfp b hb).2.2.2.2.1 y b (clo_cm hf z) rfl
  · exact .inl hb
end Own

/-! from S06 -/
namespace PySem.SeqAt
open AutoSeq1 (wpAny_loadPart')
open MeetsSeq
theorem own_str_dict0 (b : Str) (u : Tok) (l : Addr) (es : Array DictEntry) (ep : Nat) :
    Meets (Builtin.«str.__eq__» ⟨[.str b u, .ref l], []⟩) (fun _ R s => s.heap.get? l = some ({ cls := .type "dict", dict := none, data := .dict es ep, slots := #[] } : Obj) ∧ R (.ok (.ret .notImplemented)) s) :=
  .of_wp fun prog w A R s h => by
    obtain ⟨hp, g, d, tk, os⟩ := s
    obtain ⟨hl, h⟩ := h
    wp_walk using wpAny_loadPart' hl, wpAny_load hl
    exact ⟨_, rfl, h⟩
theorem own_dict_str0 (b : Str) (u : Tok) (l : Addr) (es : Array DictEntry) (ep : Nat) :
    Meets (Builtin.«dict.__eq__» ⟨[.ref l, .str b u], []⟩) (fun _ R s => s.heap.get? l = some ({ cls := .type "dict", dict := none, data := .dict es ep, slots := #[] } : Obj) ∧ R (.ok (.ret .notImplemented)) s) :=
  .of_wp fun prog w A R s h => by
    obtain ⟨hp, g, d, tk, os⟩ := s
    obtain ⟨hl, h⟩ := h
    have f1 := F.sub_str_dict
    wp_walk using wpAny_loadPart' hl, wpAny_load hl
    exact ⟨_, rfl, h⟩
theorem own_rc_str_dict {A : Around} {s : Shared} {l : Addr} {es : Array DictEntry} {ep : Nat} (b : Str) (u : Tok) (ho : s.heap.get? l = some ({ cls := .type "dict", dict := none, data := .dict es ep, slots := #[] } : Obj)) (hu : A.units < cLine) : RcAt A s (.str b u) (.ref l) false :=
  fun prog w E Q h => by
    refine rc_eq_decline_or (k := false) (typeIs_str s b u) ⟨_, ho, rfl⟩ (by decide) F.sub_dict_str F.slot_str_eq F.slot_dict_eq_refl ?_ ?_ ?_ (.inr hu) h
    · exact fun _ hq => call_meets F.slot_str_eq (typeIs_str s b u) F.entry_str_eq (F.args_str_eq_2 _ _) (own_str_dict0 b u l es ep) ⟨ho, hq⟩
    · exact fun _ hq => call_meets F.slot_dict_eq_refl ⟨_, ho, rfl⟩ F.entry_dict_eq (F.args_dict_eq_2 _ _) (own_dict_str0 b u l es ep) ⟨ho, hq⟩
    · exact fun _ hq => wpAny_of_eq (rfl : isSame (.str b u) (.ref l) = pure false) hq
theorem own_eq_str_dict {A : Around} {s : Shared} {l : Addr} {es : Array DictEntry} {ep : Nat} (b : Str) (u : Tok) (ho : s.heap.get? l = some ({ cls := .type "dict", dict := none, data := .dict es ep, slots := #[] } : Obj)) (hu : A.units < cLine) : EqAt A s (.str b u) (.ref l) false :=
  fun prog w E Q h => by
    unfold eqBool
    refine wpAny_holding (wpAny_ite_split (fun z => absurd (eq_of_beq z) nofun) fun _ => ?_)
    exact wpAny_bind (own_rc_str_dict b u ho hu prog w E _ (wpAny_truthy_bool h))
end PySem.SeqAt
namespace Own
open PySem PySem.Spec PyProof.Rows L2
/-- a value that is no text, and no number with a text's place -/
inductive NoTxt (H : Hp) : V → Prop where
  | non : NoTxt H .non
  | bl (b : Bool) : NoTxt H (.bl b)
  | int (i : Int) : NoTxt H (.int i)
  | lst {a : Addr} {xs : List V} (e : H a = some (.lst xs)) : NoTxt H (.ref a)
  | tup {a : Addr} {xs : List V} (e : H a = some (.tup xs)) : NoTxt H (.ref a)
  | dct {a : Addr} {kvs : List (Key × V)} (e : H a = some (.dK kvs)) : NoTxt H (.ref a)
theorem NoTxt.ne {X : Cx} {pins : List (Addr × Obj)} {σ : L2.St} {H : Hp} {s : Shared} {x : V} {v : Value} (I : Inv X pins σ H s) (h : NoTxt H x) (r : RelV x v) {A : Around} (hu : A.units < cLine) (z : Str) (t : Tok) : SeqAt.EqAt A s (.str z t) v false := by
  cases h with
  | non => cases r; exact SeqAt.EqAt.str_none z t
  | bl b => cases r; exact SeqAt.EqAt.str_bool z t b
  | int i =>
    obtain ⟨u, rfl⟩ := r
    exact SeqAt.EqAt.str_int z t i u
  | lst e =>
    cases r
    obtain ⟨its, _, pl, _⟩ := I.list (SqL.of e)
    exact SeqAt.EqAt.str_list z t pl.isList hu
  | tup e =>
    cases r
    obtain ⟨its, _, pl, _⟩ := I.tuple (SqT.of e)
    exact SeqAt.EqAt.str_tuple z t pl hu
  | dct e =>
    cases r
    obtain ⟨_, _, vs, _, ⟨⟨c, dd, da, sl⟩, es, ep, ho, hx, hd, _⟩⟩ := (show ObjOk X.prog X.w H s.heap _ (.dK _) from I.hok _ _ e)
    obtain ⟨rfl, rfl, rfl⟩ := hx
    obtain rfl : da = .dict es ep := hd
    exact SeqAt.own_eq_str_dict z t ho hu
def rNotInW (K : PySem.W.Frag) : R2 := fun x y H Q => ∃ (p : Addr) (zs : List Str), y = .ref p ∧ SqT K H p (zs.map V.str) ∧ NoTxt H x ∧ Q (.bl true) H
theorem op_notInW {X : Cx} (hu : X.A.units + 1 < cLine) : OpR X (compareOp .NotIn) (rNotInW X.K) := by
  intro pins s σ H x y v u Q I rx ry h
  obtain ⟨p, zs, rfl, hq, nt, q⟩ := h
  cases ry
  obtain ⟨its, r, pl, hz⟩ := I.tuple hq
  have txts : ∀ w ∈ its, ∃ (z : Str) (t : Tok), w = .str z t := fun w hw => by
    obtain ⟨i, hi⟩ := List.mem_iff_getElem?.mp hw
    have hlt : i < (zs.map V.str).length := by
      rw [Paired.length r]
      exact (List.getElem?_eq_some_iff.mp hi).1
    obtain ⟨u', h1, h2⟩ := r.get (List.getElem?_eq_getElem hlt)
    rw [hi] at h1
    cases h1
    rw [List.getElem_map] at h2
    obtain ⟨t, z⟩ := h2
    exact ⟨_, t, z⟩
  have hu0 : X.A.units < cLine := Nat.lt_of_le_of_lt (Nat.le_succ _) hu
  have hu' : X.A.in1.units < cLine := by first | exact hu0 | exact hu
  refine SeqAt.notIn_tupleAt (fun _ => false) pl (fun w hw => ?_) ⟨.bl _, H, I, rfl, ?_⟩
  · obtain ⟨z, t, rfl⟩ := txts w (by simpa using hw)
    exact nt.ne I rx hu' z t
  · have e : its.toArray.any (fun _ => false) = false := by simp
    rw [e]
    exact q
end Own


/-! from P06 -/
namespace Own
open PySem PySem.Spec PyProof.Rows L2
inductive Thing (H : Hp) : V → Prop where
  | non : Thing H .non
  | bl (b : Bool) : Thing H (.bl b)
  | int (i : Int) : Thing H (.int i)
  | str (z : Str) : Thing H (.str z)
  | lst {a : Addr} {xs : List V} (e : H a = some (.lst xs)) : Thing H (.ref a)
  | tup {a : Addr} {xs : List V} (e : H a = some (.tup xs)) : Thing H (.ref a)
  | dct {a : Addr} {kvs : List (Key × V)} (e : H a = some (.dK kvs)) : Thing H (.ref a)
theorem Thing.same {H H' : Hp} {x : V} (h : Thing H x) (s : Same H H') : Thing H' x := by
  cases h with
  | non => exact .non
  | bl b => exact .bl b
  | int i => exact .int i
  | str z => exact .str z
  | lst e => exact .lst (s _ _ e)
  | tup e => exact .tup (s _ _ e)
  | dct e => exact .dct (s _ _ e)
def isInt : V → Bool
  | .int _ => true
  | _ => false
def isBl : V → Bool
  | .bl _ => true
  | _ => false
/-- isinstance(x, int), isinstance(x, bool) -/
theorem Thing.isi {K : PySem.W.Frag} {H : Hp} {x : V} (h : Thing H x) : ∃ t : Value, TyX K H x t ∧ PySem.W.kitOne K t (.type "int") = some (isInt x || isBl x) ∧ PySem.W.kitOne K t (.type "bool") = some (isBl x) := by
  cases h with
  | non => exact ⟨_, .base .non, kit_ty (show kitB "NoneType" "int" = some false by decide +kernel), kit_ty (show kitB "NoneType" "bool" = some false by decide +kernel)⟩
  | bl b => exact ⟨_, .base (.bl b), kit_ty (show kitB "bool" "int" = some true by decide +kernel), kit_ty (show kitB "bool" "bool" = some true by decide +kernel)⟩
  | int i => exact ⟨_, .base (.int i), kit_ty (show kitB "int" "int" = some true by decide +kernel), kit_ty (show kitB "int" "bool" = some false by decide +kernel)⟩
  | str z => exact ⟨_, .base (.str z), kit_ty (show kitB "str" "int" = some false by decide +kernel), kit_ty (show kitB "str" "bool" = some false by decide +kernel)⟩
  | lst e => exact ⟨_, .base (.lst e), kit_ty (show kitB "list" "int" = some false by decide +kernel), kit_ty (show kitB "list" "bool" = some false by decide +kernel)⟩
  | tup e => exact ⟨_, .base (.tup e), kit_ty (show kitB "tuple" "int" = some false by decide +kernel), kit_ty (show kitB "tuple" "bool" = some false by decide +kernel)⟩
  | dct e => exact ⟨_, .base (.dK e), kit_ty (show kitB "dict" "int" = some false by decide +kernel), kit_ty (show kitB "dict" "bool" = some false by decide +kernel)⟩
theorem Thing.noTxt {H : Hp} {x : V} (h : Thing H x) : NoTxt H x ∨ ∃ z, x = .str z := by
  cases h with
  | non => exact .inl .non
  | bl b => exact .inl (.bl b)
  | int i => exact .inl (.int i)
  | str z => exact .inr ⟨z, rfl⟩
  | lst e => exact .inl (.lst e)
  | tup e => exact .inl (.tup e)
  | dct e => exact .inl (.dct e)
/-- what a written dict says at a text -/
def KGet (K : PySem.W.Frag) (d : Addr) (z : Str) (r : Option V) : Prop := ∃ ro : Option Value, PySem.W.nsIn K d z = some ro ∧ RelO r ro
section
variable {X : Cx} {d : Addr} {es : Array DictEntry} {n : Nat} {o e f : Expr} {apos cpos : Pos} {td ty tx : TE}
theorem pe_kget2 (D : KDict X.K X.w d es n) (ho : PE X o td) (he : PE X e ty) (hf : PE X f tx) (m : M2 X o "get" apos e f cpos) :
    PE X (.Call (.Attribute o "get" apos) [e, f] [] cpos) (fun σ H Q => td σ H fun x H1 => x = .ref d ∧ ty σ H1 fun y H2 => tx σ H2 fun z H3 => ∃ (t : Str) (r : Option V), y = .str t ∧ KGet X.K d t r ∧ Q (r.getD z) H3) := by
  constructor
  intro pins s σ H Q I h
  refine wpAny_Call_method m.base m.few m.line PySem.F.plainAttrs_dict PySem.F.slot_dict_get PySem.F.type_dict_get (thn (ho.run pins s σ H _ I h) ?_)
  rintro u s1 ⟨x, H1, I1, rx, rfl, q1⟩
  obtain rfl : u = Value.ref d := rx
  refine ⟨kd_type D I1, fun b q => ?_, ?_⟩
  · cases q
    exact ⟨_, I1.kIn _ _ D.at_, rfl⟩
  rw [m.trees]
  refine Calls.callWith_builtin rfl (Calls.evalArgs_plain (Calls.spliced_cons (thn (he.run pins s1 σ H1 _ I1 q1) ?_)))
  rintro iv s2 ⟨y, H2, I2, ry, q2⟩
  refine Calls.spliced_cons (thn (hf.run pins s2 σ H2 _ I2 q2) ?_)
  rintro fv s3 ⟨z, H3, I3, rz, t, r, rfl, ⟨ro, hk, rr⟩, q3⟩
  refine Calls.spliced_nil ?_
  obtain ⟨tk, rfl⟩ := ry
  show wpAny _ _ (call (.builtin "dict.get") [.ref d, .str t tk, fv]) _ _ _
  refine call_meetsIn PySem.F.slot_dict_get (kd_type D I3) PySem.F.entry_dict_get (PySem.F.args_dict_get_3 _ _ _) (meets_dict_get_default (strKind X.prog X.w) d (strKind_is X.prog X.w t tk) D.low fv) ⟨_, PySem.W.mapOf_K (prog := X.prog) I3.kIn D.at_ D.lit, ?_⟩
  rw [PySem.W.find_K D.at_ hk]
  refine ⟨r.getD z, H3, I3.tok _, ?_, q3⟩
  cases r with
  | none =>
    cases ro with
    | none => exact rz
    | some u => exact rr.elim
  | some v =>
    cases ro with
    | none => exact rr.elim
    | some u => exact rr
end
/-! ### an error class whose __init__ keeps one field -/
structure ErrC (P : Program) (w : World) (K : PySem.W.Frag) (mg : Str → Option Value) (base : Heap) (x fld : Str) (k : Nat) (C : Addr) (sp : Sp) : Prop where
  g : mg x = some (.ref C)
  oex : OexC K C
  ini : ∃ (fI : Addr) (fd : FuncData), PySem.W.findIn K (.ref C) "__init__" = some (some (.ref fI)) ∧ PySem.W.typeIn K (.ref fI) = some (.type "function") ∧ FnOk P w K mg base CX0 k fI fd ["self", fld] sp ∧ Binds K fd ["self", fld] []
  xf : XfC K C
  te : PySem.W.exmOne K (.ref C) (.ref C) = some true
  noV : PySem.W.findIn K (.ref C) fld = some none
def spErr (C : Addr) (fld : Str) : Sp := fun vs H Q _ => ∃ (a : Addr) (y : V), vs = [.ref a, y] ∧ H a = some (exo a C none) ∧ ∀ dx, H dx = none → dx ≠ a → Q .non (upd (upd H dx (exd dx [(fld, y)])) a (exo a C (some dx)))
/-- such an error leaves: its value x -/
def Bad (C : Addr) (fld : Str) (x : V) (H : Hp) (E : XK) : Prop := ∀ (d : Addr) (H' : Hp), Same H H' → H d = none → H' d = some (.xd [(fld, x)]) → E (.ref C) (some d) H'
theorem Bad.same {C : Addr} {fld : Str} {x : V} {H H1 : Hp} {E : XK} (h : Bad C fld x H E) (s : Same H H1) : Bad C fld x H1 E := fun d H' s' n e => h d H' (s.trans s') (s.free n) e
section
variable {X : Cx} {x fld : Str} {k j : Nat} {C : Addr} {e : Expr} {te : TE} {p pos : Pos}
theorem pmk_err (D : ErrC X.prog X.w X.K X.mg X.base x fld k C (spErr C fld)) (hr : Room j X.A) (hj : k + 1 ≤ j) (hg : Gl X x) (he : PE X e te) (hdb : (x == ("__debug__" : Str)) = false := by decide)
    (hst : starEach (e :: []) X.env = (false, eval e X.env) :: starEach [] X.env := by rfl) (hpl : (backTo pos (starEach [] X.env)).any (·.1) = false := by rfl) :
    PMk X (.Call (.Name x p) [e] [] pos) (tMkO C (spErr C fld) [] (tCons te tNil)) := by
  obtain ⟨fI, fd, iC, tI, F1, b⟩ := D.ini
  exact pmk_oex D.oex iC tI F1 (hr.mono hj) b .nil (fun _ _ _ _ _ _ _ z => z.elim) hg D.g (pa_cons he pa_nil hst) hdb hst hpl
end
/-- the end of such a making -/
theorem bad_mk {C : Addr} {fld : Str} {y : V} {H : Hp} {Q : XK} (h : Bad C fld y H Q) : [y].length ≤ 1000 ∧ ∀ a, H a = none → spErr C fld (.ref a :: ([y] ++ [])) (upd H a (exo a C none))
    (fun v H2 => v = .non ∧ ∃ (d : Addr) (fs : List (Str × V)), H2 a = some (exo a C (some d)) ∧ H2 d = some (exd d fs) ∧ H d = none ∧ Q (.ref C) (some d) (upd (del H2 a) d (.xd fs))) (fun _ _ _ => False) := by
  refine ⟨by show 1 ≤ 1000; decide, fun a na => ⟨a, y, rfl, upd_same, fun dx ndx ne => ⟨rfl, dx, [(fld, y)], upd_same, ?_, ?_, ?_⟩⟩⟩
  · rw [upd_ne ne, upd_same]
  · rw [upd_ne ne] at ndx
    exact ndx
  · have nd : H dx = none := by
      rw [upd_ne ne] at ndx
      exact ndx
    refine h dx _ (fun b o e => ?_) nd upd_same
    have b1 : b ≠ a := ne_of_none e na
    have b2 : b ≠ dx := ne_of_none e nd
    rw [upd_ne b2, del_ne b1, upd_ne b1, upd_ne b2, upd_ne b1]
    exact e
end Own

/-! from U06 -/
namespace Own
open PySem PySem.Spec PyProof.Rows L2
theorem op_mulS {X : Cx} : OpR X (binaryOp .Mult) (fun x y H Q => ∃ (z : Str) (n : Int), x = .str z ∧ y = .int n ∧ MulOk z n ∧ Q (.str (Txt.mul z n)) H) := by
  intro pins s σ H x y v u Q I rx ry h
  obtain ⟨z, n, rfl, rfl, ok, q⟩ := h
  obtain ⟨t, rfl⟩ := rx
  obtain ⟨t', rfl⟩ := ry
  exact SB.mul ok fun t2 k => ⟨.str _, H, I.tok _, ⟨_, rfl⟩, q⟩
theorem zeros_fold : ∀ (n : Nat) (acc : Array Nat), ((List.replicate n #[48]).foldl (· ++ ·) acc).toList = acc.toList ++ List.replicate n 48
  | 0, acc => by simp
  | n + 1, acc => by
    rw [List.replicate_succ, List.foldl_cons, zeros_fold n, Array.toList_append, List.replicate_succ, List.append_assoc]
    rfl
theorem zero_cps : ("0" : Str).cps = #[48] := by decide +kernel
theorem one_cps : ("1" : Str).cps = #[49] := by decide +kernel
theorem zeros (n : Nat) : (Txt.mul "0" (n : Int)).cps.toList = List.replicate n 48 := by
  unfold Txt.mul
  by_cases h0 : n = 0
  · subst h0
    rw [if_pos (by omega)]
    rfl
  · rw [if_neg (by omega)]
    by_cases h1 : n = 1
    · subst h1
      rw [if_pos (by simp), zero_cps]
      rfl
    · have e : ¬ (((n : Int) == 1 || ("0" : Str).length == 0) = true) := by
        have l : ("0" : Str).length = 1 := by decide +kernel
        rw [l]
        simp
        omega
      rw [if_neg e]
      show ((List.replicate (n : Int).toNat ("0" : Str).cps).foldl (· ++ ·) #[]).toList = _
      rw [zero_cps, Int.toNat_natCast, zeros_fold]
      rfl
/-- '1' + '0' * n -/
def tenS (n : Nat) : Str := ("1" : Str) ++ Txt.mul "0" (n : Int)
theorem tenS_list (n : Nat) : (tenS n).cps.toList = 49 :: List.replicate n 48 := by
  have e : (tenS n).cps = ("1" : Str).cps ++ (Txt.mul "0" (n : Int)).cps := rfl
  rw [e, Array.toList_append, zeros, one_cps]
  rfl
theorem tens_val : ∀ (n a : Nat), (List.replicate n 48).foldl (fun acc c => acc * 10 + (c - 48)) a = a * 10 ^ n
  | 0, a => by simp
  | n + 1, a => by
    rw [List.replicate_succ, List.foldl_cons, tens_val n]
    show (a * 10 + 0) * 10 ^ n = a * 10 ^ (n + 1)
    rw [Nat.add_zero, Nat.pow_succ, Nat.mul_assoc, Nat.mul_comm 10]
theorem str_len (x : Str) : x.length = x.cps.toList.length := by
  cases x
  rfl
theorem tenS_len (n : Nat) : (tenS n).length = n + 1 := by
  rw [str_len, tenS_list, List.length_cons, List.length_replicate]
theorem ten_text {n : Nat} (h : n ≤ 600) : PySem.intText? (tenS n) = some ((10 : Int) ^ n) := by
  have e := PySem.intText_digits (x := tenS n) (fun c hc => by
      rw [tenS_list] at hc
      rcases List.mem_cons.mp hc with rfl | hc
      · exact ⟨by decide, by decide⟩
      · have := (List.mem_replicate.mp hc).2
        omega) (by rw [tenS_list]; simp) (by rw [tenS_len]; omega)
  rw [e]
  have z : NumText.digitsVal (tenS n).cps.toList = 10 ^ n := by
    rw [tenS_list]
    unfold NumText.digitsVal
    rw [List.foldl_cons, tens_val]
    simp
  rw [z]
  simp
theorem mulOk0 {n : Nat} (h : n ≤ 600) : MulOk "0" (n : Int) := by
  have l : ("0" : Str).length = 1 := by decide +kernel
  refine ⟨?_, fun h1 h2 => ?_, fun h1 h2 => ?_⟩
  · rw [Bool.or_eq_false_iff]
    exact ⟨decide_eq_false (by omega), decide_eq_false (by omega)⟩
  · rw [l]
    have z := Int.le_ediv_of_mul_le (c := (n : Int)) (a := 1) (b := 2 ^ 63 - 1) (by omega) (by omega)
    omega
  · rw [l, Nat.one_mul, Int.toNat_natCast]
    exact decide_eq_false (by have := sizeLine_eq; omega)
end Own

/-! from V06 -/
namespace Own
theorem ten_pos (n : Nat) : (0 : Int) < (10 : Int) ^ n := Int.pow_pos (by decide)
theorem ten_mono {m n : Nat} (h : m ≤ n) : (10 : Int) ^ m ≤ (10 : Int) ^ n := by
  obtain ⟨k, rfl⟩ := Nat.le.dest h
  rw [Int.pow_add]
  have a := ten_pos m
  have b : (1 : Int) ≤ (10 : Int) ^ k := ten_pos k
  have := Int.mul_le_mul_of_nonneg_left b (Int.le_of_lt a)
  omega
theorem ten_nat (n : Nat) : ((10 : Int) ^ n).natAbs = 10 ^ n := by
  rw [Int.natAbs_pow]
  rfl
theorem ten_lt (n : Nat) : ((10 : Int) ^ n).natAbs < 2 ^ (4 * n + 1) := by
  rw [ten_nat, Nat.pow_succ, Nat.pow_mul]
  have a : 10 ^ n ≤ (2 ^ 4) ^ n := Nat.pow_le_pow_left (by decide) n
  have b : 0 < (2 ^ 4) ^ n := Nat.pow_pos (by decide)
  omega
theorem lt_two {i j : Int} {k : Nat} (h0 : 0 ≤ i) (h1 : i ≤ j) (h : j.natAbs < 2 ^ k) : i.natAbs < 2 ^ k := Nat.lt_of_le_of_lt (by omega) h
end Own

/-! from W06 -/
namespace Own
open PySem PySem.Spec PyProof.Rows L2
theorem merge_app : ∀ (kvs acc : List (Key × V)), ((acc ++ kvs).map (·.1)).Nodup → mergeK acc kvs = acc ++ kvs
  | [], acc, _ => by simp [mergeK]
  | p :: r, acc, h => by
    have hn : valV acc p.1 = none := by
      cases e : valV acc p.1 with
      | none => rfl
      | some v =>
        have m := valV_in e
        rw [List.map_append, List.nodup_append] at h
        exact absurd rfl (h.2.2 p.1 m p.1 (by simp))
    have z := merge_app r (acc ++ [p]) (by
      rw [List.append_assoc]
      exact h)
    show mergeK (putK acc p.1 p.2) r = acc ++ p :: r
    rw [putK_new _ hn, z, List.append_assoc]
    rfl
theorem merge_new {kvs : List (Key × V)} (h : (kvs.map (·.1)).Nodup) : mergeK [] kvs = kvs := merge_app kvs [] h
/-- a dict of texts -/
def txK (l : List (Str × V)) : List (Key × V) := l.map fun p => (Sum.inr p.1, p.2)
theorem txK_val : ∀ (l : List (Str × V)) (z : Str), valV (txK l) (Sum.inr z : Key) = l.lookup z
  | [], z => rfl
  | p :: r, z => by
    obtain ⟨a, v⟩ := p
    by_cases h : a = z
    · subst h
      rw [show txK ((a, v) :: r) = (Sum.inr a, v) :: txK r from rfl, valV_pos rfl]
      simp [List.lookup]
    · rw [show txK ((a, v) :: r) = (Sum.inr a, v) :: txK r from rfl, valV_neg (fun e => h (Sum.inr.inj e)), txK_val r z]
      have hb : (z == a) = false := by simpa using fun e : z = a => h e.symm
      simp [List.lookup, hb]
theorem DGet.tx {H : Hp} {a : Addr} {l : List (Str × V)} (z : Str) (e : H a = some (.dK (txK l))) : DGet H a (.str z) (l.lookup z) := by
  have q := DGet.k (k := (Sum.inr z : Key)) e
  rw [txK_val] at q
  exact q
end Own

/-! from Y06 -/
namespace Own
open PySem PySem.Spec PyProof.Rows L2
/-- a flat value's datum -/
def datV : V → PyData
  | .bl b => .bool b
  | .int i => .int i
  | .str z => .str z
  | _ => .none
def okF : V → Bool
  | .non => true
  | .bl _ => true
  | .int _ => true
  | .str z => PyData.strOk z
  | _ => false
/-- a value handed in that is equal to itself -/
inductive Odd (H : Hp) : V → Prop where
  | flat {x : V} (h : okF x = true) : Odd H x
  | lst {a : Addr} {xs : List V} (e : H a = some (.lst xs)) (f : xs.all okF = true) : Odd H (.ref a)
  | tup {a : Addr} {xs : List V} (e : H a = some (.tup xs)) (f : xs.all okF = true) : Odd H (.ref a)
  | dct {a : Addr} {kvs : List (Key × V)} (e : H a = some (.dK kvs)) (n : (kvs.map (·.1)).Nodup) (f : ∀ p ∈ kvs, flatB p.2 = true) : Odd H (.ref a)
theorem Odd.same {H H' : Hp} {x : V} (h : Odd H x) (s : Same H H') : Odd H' x := by
  cases h with
  | flat h => exact .flat h
  | lst e f => exact .lst (s _ _ e) f
  | tup e f => exact .tup (s _ _ e) f
  | dct e n f => exact .dct (s _ _ e) n f
theorem Odd.thing {H : Hp} {x : V} (h : Odd H x) : Thing H x := by
  cases h with
  | flat h =>
    cases x <;> first | exact .non | exact .bl _ | exact .int _ | exact .str _ | (simp [okF] at h)
  | lst e f => exact .lst e
  | tup e f => exact .tup e
  | dct e n f => exact .dct e
theorem dp_flat {K : PySem.W.Frag} {H : Hp} {x : V} (h : okF x = true) : Dp K H x (datV x) ∧ (datV x).canLay0 = true ∧ (datV x).depth = 0 := by
  cases x <;> first
    | exact ⟨.non, by simp [datV, PyData.canLay0], by simp [datV, PyData.depth]⟩
    | exact ⟨.bl _, by simp [datV, PyData.canLay0], by simp [datV, PyData.depth]⟩
    | exact ⟨.int _, by simp [datV, PyData.canLay0], by simp [datV, PyData.depth]⟩
    | exact ⟨.str _, by simpa [datV, PyData.canLay0, okF] using h, by simp [datV, PyData.depth]⟩
    | (simp [okF] at h)
theorem dp_flats {K : PySem.W.Frag} {H : Hp} : ∀ {xs : List V}, xs.all okF = true → DpAll K H xs (xs.map datV) ∧ PyData.canLayAll0 (xs.map datV) = true ∧ PyData.depthAll (xs.map datV) = 0
  | [], _ => ⟨.nil, by simp [PyData.canLayAll0], by simp [PyData.depthAll]⟩
  | x :: r, h => by
    rw [List.all_cons, Bool.and_eq_true] at h
    obtain ⟨a1, a2, a3⟩ := dp_flat (K := K) (H := H) h.1
    obtain ⟨b1, b2, b3⟩ := dp_flats (K := K) (H := H) h.2
    exact ⟨.cons a1 b1, by simp [PyData.canLayAll0, a2, b2], by simp [PyData.depthAll, a3, b3]⟩
/-- x == x of such a value: the three rules -/
theorem op_eqOdd {X : Cx} (hu : X.A.units + 64 < cLine) : OpR X (compareOp .Eq) (fun x y H Q => (∃ a b : Int, x = .int a ∧ y = .int b ∧ Q (.bl (decide (a = b))) H) ∨ (Odd H x ∧ y = x ∧ Q (.bl true) H)) := by
  intro pins s σ H x y v u Q I rx ry h
  rcases h with ⟨a, b, rfl, rfl, q⟩ | ⟨od, rfl, q⟩
  · refine op_eq pins s σ H _ _ v u Q I rx ry ⟨rfl, ?_⟩
    have e : decide (V.int a = V.int b) = decide (a = b) := by simp
    rw [e]
    exact q
  · cases od with
    | flat h =>
      obtain ⟨a1, a2, a3⟩ := dp_flat (K := X.K) (H := H) h
      have sh : SeqAt.shaped (datV y) = true := by
        unfold SeqAt.shaped
        rw [a2, a3]
        rfl
      refine op_eqD hu pins s σ H _ _ v u Q I rx ry ⟨_, _, a1, a1, sh, sh, ?_⟩
      rw [SeqAt.eqv_refl _ (SeqAt.canLay_of_shaped sh)]
      exact q
    | @lst a xs e f =>
      obtain ⟨a1, a2, a3⟩ := dp_flats (K := X.K) (H := H) f
      have sh : SeqAt.shaped (.list (xs.map datV)) = true := by
        unfold SeqAt.shaped
        simp [PyData.canLay0, PyData.depth, a2, a3]
      have d : Dp X.K H (.ref a) (.list (xs.map datV)) := .lst (SqL.of e) a1
      refine op_eqD hu pins s σ H _ _ v u Q I rx ry ⟨_, _, d, d, sh, sh, ?_⟩
      rw [SeqAt.eqv_refl _ (SeqAt.canLay_of_shaped sh)]
      exact q
    | @tup a xs e f =>
      obtain ⟨a1, a2, a3⟩ := dp_flats (K := X.K) (H := H) f
      have sh : SeqAt.shaped (.tuple (xs.map datV)) = true := by
        unfold SeqAt.shaped
        simp [PyData.canLay0, PyData.depth, a2, a3]
      have d : Dp X.K H (.ref a) (.tuple (xs.map datV)) := .tup (SqT.of e) a1
      refine op_eqD hu pins s σ H _ _ v u Q I rx ry ⟨_, _, d, d, sh, sh, ?_⟩
      rw [SeqAt.eqv_refl _ (SeqAt.canLay_of_shaped sh)]
      exact q
    | @dct a kvs e n f => exact op_eq_dict (by omega) pins s σ H _ _ v u Q I rx ry ⟨a, a, kvs, rfl, rfl, e, e, n, f, q⟩
end Own

/-! from AA06 -/
namespace Own
open PySem PySem.Spec PyProof.Rows L2 LamX NdefX
section
variable {X : Cx} {cl : List (Str × Addr)} {fr : List Str} {ws : List (Option V)}
/-- as pe_deed, what it may let out told by the slots -/
theorem pe_deedS {CX : CXT} {k i : Nat} {f : Addr} {F : NF} {b : Expr} {sp : List (Option V) → Hp → VK → XK → Prop} {E : L2.St → XK} {a : Str} {p1 p2 : Pos} (C : CellsAt F.cl fr ws X.s_0.heap X.H_0) (hex : X.ex = []) (G : LOk X.prog X.w X.K X.mg X.base CX k f F b fr sp) (hr : Room k X.A)
    (hx : ∀ σ, PassesAt CX X σ (E σ)) (hN : X.N[i]? = some a) (hv : Vis X.env.scope a) (hd : (a == ("__debug__" : Str)) = false := by decide) (hcd : (a == ("__classdict__" : Str)) = false := by decide) :
    PE X (.Call (.Name a p1) [] [] p2) (fun σ H Q => σ[i]? = some (some (.ref f)) ∧ LamAt H f F b ∧ H F.c = some (CodeO F.c F.qual) ∧ sp ws H Q (E σ)) := by
  constructor
  intro pins s σ H Q I h
  obtain ⟨hs, hf, hc, q⟩ := h
  refine wpAny_Call_Name_kw (thn ((pe_var (pos := p1) hN hv hd hcd).run pins s σ H (fun v H1 => v = .ref f ∧ H1 = H) I ⟨.ref f, hs, rfl, rfl⟩) ?_)
  rintro u s1 ⟨v, H1, I1, r1, rfl, rfl⟩
  obtain rfl : u = Value.ref f := r1
  obtain ⟨dV, doc, pm, ctv, ho, _⟩ := lamO_at I1.hok hf
  refine PySem.W.callWith_F0 ⟨_, _, _, _, ho⟩ ?_
  have C' := cells_still C (fun _ => .inl (by rw [hex]; simp)) I1
  refine wpAny_call (codeAny_mono (G.run _ _ _ _ _ _ _ hr I1.env0 hf hc C' q) fun r s' z => ?_)
  rcases r with e | fl
  · exact hx σ pins _ _ e s' I1 z
  · cases fl
    case ret u => exact I1.after z
    all_goals exact False.elim z
end
end Own

/-! from CC06 -/
namespace Own
open PySem PySem.Spec PyProof.Rows L2 LamX NdefX
/-- at q stands the pair of a lambda and v -/
def RowAt (H : Hp) (nf : Addr → NF) (b : Expr) (v : V) (q : Addr) : Prop := ∃ f c' : Addr, H q = some (.tup [.ref f, v]) ∧ LamAt H f (nf c') b ∧ H (nf c').c = some (CodeO (nf c').c (nf c').qual)
section
variable {H H' : Hp} {nf : Addr → NF} {b : Expr} {v x : V} {q r : Addr} {l : List V} {o : HO}
theorem RowAt.ext (h : RowAt H nf b v q) (e : ExtN H H') : RowAt H' nf b v q := by
  obtain ⟨f, c', h1, h2, h3⟩ := h
  exact ⟨f, c', e _ _ h1 (fun ps z => by cases z), h2.ext e, e _ _ h3 codeO_ne⟩
theorem LamAt.put {f : Addr} {F : NF} (h : LamAt H f F b) (hr : H r = some (.lst l)) : LamAt (upd H r o) f F b := by
  obtain ⟨dV, h1, h2⟩ := h
  have a : f ≠ r := ne_of h1 hr (by unfold LamO; intro z; cases z)
  refine ⟨dV, (upd_ne a).trans h1, ?_⟩
  rcases h2 with z | ⟨n, T, z, q⟩
  · exact .inl z
  · have a : T ≠ r := ne_of q hr (by intro z; cases z)
    exact .inr ⟨n, T, z, (upd_ne a).trans q⟩
theorem RowAt.put (h : RowAt H nf b v q) (hr : H r = some (.lst l)) : RowAt (upd H r o) nf b v q := by
  obtain ⟨f, c', h1, h2, h3⟩ := h
  have a : q ≠ r := ne_of h1 hr (by intro z; cases z)
  have c : (nf c').c ≠ r := ne_of h3 hr (by unfold CodeO; intro z; cases z)
  exact ⟨f, c', (upd_ne a).trans h1, h2.put hr, (upd_ne c).trans h3⟩
theorem Odd.ext (h : Odd H x) (e : ExtN H H') : Odd H' x := by
  cases h with
  | flat h => exact .flat h
  | lst e' f => exact .lst (e _ _ e' (fun ps z => by cases z)) f
  | tup e' f => exact .tup (e _ _ e' (fun ps z => by cases z)) f
  | dct e' n f => exact .dct (e _ _ e' (fun ps z => by cases z)) n f
theorem Odd.off (h : Odd H x) (n : H r = none) : x ≠ .ref r := by
  cases h with
  | flat h => intro z; rw [z] at h; cases h
  | lst e f => intro z; rw [V.ref.inj z, n] at e; cases e
  | tup e f => intro z; rw [V.ref.inj z, n] at e; cases e
  | dct e n' f => intro z; rw [V.ref.inj z, n] at e; cases e
theorem Odd.put (h : Odd H x) (n : x ≠ .ref r) : Odd (upd H r o) x := by
  cases h with
  | flat h => exact .flat h
  | lst e f => exact .lst ((upd_ne (fun z => n (by rw [z]))).trans e) f
  | tup e f => exact .tup ((upd_ne (fun z => n (by rw [z]))).trans e) f
  | dct e n' f => exact .dct ((upd_ne (fun z => n (by rw [z]))).trans e) n' f
theorem tabs_put {T : List (Addr × Str)} (h : Tabs T H) (hr : H r = some (.lst l)) : Tabs T (upd H r o) := fun p hp => by
  obtain ⟨ps, h1, h2, h3⟩ := h p hp
  have a : p.1 ≠ r := ne_of h1 hr (by intro z; cases z)
  refine ⟨ps, (upd_ne a).trans h1, h2, fun pos cv hc => ?_⟩
  obtain ⟨c, e1, e2⟩ := h3 pos cv hc
  have b : c ≠ r := ne_of e2 hr (by unfold CodeO; intro z; cases z)
  exact ⟨c, e1, (upd_ne b).trans e2⟩
theorem extN_new (h : H r = none) : ExtN H (upd H r o) := ExtN.of fun b u e => (upd_ne (ne_of_none e h)).trans e
theorem ExtN.same (s : Same H H') : ExtN H H' := ExtN.of s
end
theorem Pen_odd {d : Addr} {B : Int} (h : Pen H d B) (o : Odd H x) : x ≠ .ref d := by
  obtain ⟨p, ns, c, l, e, _⟩ := h.ex
  intro z
  rw [z] at o
  cases o with
  | flat h => cases h
  | lst e' f => rw [e] at e'; cases e'
  | tup e' f => rw [e] at e'; cases e'
  | dct e' n f =>
    rw [e] at e'
    cases e'
    have := f _ (List.mem_cons_self ..)
    cases this
theorem Odd.keep {d : Addr} (h : Odd H x) (n : x ≠ .ref d) (k : Keep d H H') : Odd H' x := by
  cases h with
  | flat h => exact .flat h
  | lst e f => exact .lst (k _ _ (fun z => n (by rw [z])) e) f
  | tup e f => exact .tup (k _ _ (fun z => n (by rw [z])) e) f
  | dct e n' f => exact .dct (k _ _ (fun z => n (by rw [z])) e) n' f
theorem tabs_keep {T : List (Addr × Str)} {d : Addr} {B : Int} (h : Tabs T H) (hp : Pen H d B) (k : Keep d H H') : Tabs T H' := fun p hq => by
  obtain ⟨pp, ns, cc, ll, ed, _⟩ := hp.ex
  obtain ⟨ps, h1, h2, h3⟩ := h p hq
  have a : p.1 ≠ d := ne_of h1 ed (by intro z; cases z)
  refine ⟨ps, k _ _ a h1, h2, fun pos cv hc => ?_⟩
  obtain ⟨c, e1, e2⟩ := h3 pos cv hc
  have b : c ≠ d := ne_of e2 ed (by unfold CodeO; intro z; cases z)
  exact ⟨c, e1, k _ _ b e2⟩
/-- a list at r of pairs of a lambda and a value; x, y: two odd values -/
structure Bag {ι : Type} (nf : ι → Addr → NF) (bf : ι → Expr) (H : Hp) (r : Addr) (R : List (ι × V × Addr)) (x y : V) : Prop where
  l : H r = some (.lst (R.map fun p => .ref p.2.2))
  rows : ∀ p ∈ R, RowAt H (nf p.1) (bf p.1) p.2.1 p.2.2
  ox : Odd H x
  oy : Odd H y
  xr : x ≠ .ref r
  yr : y ≠ .ref r
theorem Bag.ext {ι : Type} {nf : ι → Addr → NF} {bf : ι → Expr} {R : List (ι × V × Addr)} {y : V} (h : Bag nf bf H r R x y) (e : ExtN H H') : Bag nf bf H' r R x y :=
  ⟨e _ _ h.l (fun ps z => by cases z), fun p hp => (h.rows p hp).ext e, h.ox.ext e, h.oy.ext e, h.xr, h.yr⟩
theorem Bag.set {ι : Type} {nf : ι → Addr → NF} {bf : ι → Expr} {R : List (ι × V × Addr)} {y : V} {D : Addr} {zs : List V} (h : Bag nf bf H r R x y) (hD : H D = some (.lst zs)) (n : D ≠ r) (nx : x ≠ .ref D) (ny : y ≠ .ref D) : Bag nf bf (upd H D o) r R x y :=
  ⟨(upd_ne n.symm).trans h.l, fun p hp => (h.rows p hp).put hD, h.ox.put nx, h.oy.put ny, h.xr, h.yr⟩
theorem Bag.add {ι : Type} {nf : ι → Addr → NF} {bf : ι → Expr} {R : List (ι × V × Addr)} {y v : V} {H1 : Hp} {i : ι} {f c' q : Addr} (h : Bag nf bf H r R x y) (e : ExtN H H1) (a : LamAt H1 f (nf i c') (bf i)) (c : H1 (nf i c').c = some (CodeO (nf i c').c (nf i c').qual)) (nq : H1 q = none) :
    upd H1 q (.tup [.ref f, v]) r = some (.lst (R.map fun p => .ref p.2.2)) ∧ Bag nf bf (upd (upd H1 q (.tup [.ref f, v])) r (.lst (R.map (fun p => .ref p.2.2) ++ [.ref q]))) r (R ++ [(i, v, q)]) x y := by
  have g := (h.ext e).ext (extN_new (o := .tup [.ref f, v]) nq)
  have e2 := extN_new (o := HO.tup [.ref f, v]) nq
  refine ⟨g.l, by rw [upd_same, List.map_append]; rfl, fun p hp => ?_, g.ox.put g.xr, g.oy.put g.yr, g.xr, g.yr⟩
  rcases List.mem_append.mp hp with hp | hp
  · exact (g.rows p hp).put g.l
  · rw [List.mem_singleton.mp hp]
    exact RowAt.put ⟨f, c', upd_same, a.ext e2, e2 _ _ c codeO_ne⟩ g.l
/-- a def of the text and its code object -/
structure AtC (K : PySem.W.Frag) (mg : Str → Option Value) (x : Str) (st : Stmt) (ps : List Str) (c : Addr) : Prop where
  ex : ∃ (f : Addr) (oc : Value) (od : Option Addr) (kV doc pm : Value) (an : Option Addr) (ct : Value) (osl : Array (Option Value)), K.lookup f = some ⟨oc, od, .func (PySem.W.fnOf x x (defArgs st) (defBody st) (defScope st) .none kV doc pm an (.ref c) ct), osl⟩ ∧ PySem.W.codeIn K (.ref c) x = true ∧
    mg x = some (.ref f) ∧ PySem.W.keepIn K (.ref f) = true ∧ Binds K (PySem.W.fnOf x x (defArgs st) (defBody st) (defScope st) .none kV doc pm an (.ref c) ct) ps []
end Own

namespace Own
open PySem PySem.Spec PyProof.Rows L2 LamX NdefX
theorem log2_lt {n k : Nat} (h : n < 2 ^ k) (hk : 0 < k) : n.log2 < k := by
  by_cases h0 : n = 0
  · subst h0
    simpa using hk
  · exact (Nat.log2_lt h0).mpr h
theorem dm_ok {n d : Int} (h0 : 0 < d) (h : d.natAbs < 2 ^ 1000) : CDivP n d := by
  refine ⟨h0, ?_⟩
  have a := log2_lt h (by decide)
  unfold Builtin.divisionGoesByPylong
  have e : ¬ (d == 0) = true := by simp; omega
  have z : ¬ (d.natAbs.log2 / 30 + 1 > 300) := by omega
  simp only [e, Bool.false_eq_true, if_false]
  rw [decide_eq_false z]
  rfl
theorem up_two {n a b : Nat} (h : n < 2 ^ a) (l : a ≤ b) : n < 2 ^ b := Nat.lt_of_lt_of_le h (Nat.pow_le_pow_right (by decide) l)
theorem add_lt {i j : Int} {a : Nat} (hi : i.natAbs < 2 ^ a) (hj : j.natAbs < 2 ^ a) : (i + j).natAbs < 2 ^ (a + 1) := by
  rw [Nat.pow_succ]
  omega
end Own

namespace Own
open PySem PySem.Spec PyProof.Rows L2 LamX NdefX
/-- what the law leans on of an error's class -/
def oexB (K : PySem.W.Frag) (C : Addr) : Bool := (match K.lookup C with
  | some ⟨.type t, _, .cls cd, sl⟩ => decide (t = "type") && (cd.hasDict && (!cd.hasDel && ((match cd.mro with
    | .ref D :: bm => decide (D = C) && PySem.HandSPX.refsVE bm
    | _ => false) && (match sl.toList with
    | [_, _, _, _, some (.builtin n), _] => decide (n = "ValueError.__new__")
    | _ => false))))
  | _ => false) && (decide (PySem.W.findIn K (.ref C) "__setattr__" = some (some (.builtin "object.__setattr__"))) && (decide (PySem.W.subIn K (.ref C) (.type "BaseException") = some true) && (decide (PySem.W.typeIn K (.ref C) = some (.type "type")) && PySem.W.keepIn K (.ref C))))
theorem oexB_ok {K : PySem.W.Frag} {C : Addr} (h : oexB K C = true) : OexC K C := by
  obtain ⟨h0, h⟩ := He.ba h
  obtain ⟨h1, h⟩ := He.ba h
  obtain ⟨h2, h⟩ := He.ba h
  obtain ⟨h3, h4⟩ := He.ba h
  refine ⟨?_, of_decide_eq_true h1, of_decide_eq_true h2, of_decide_eq_true h3, h4⟩
  cases q : K.lookup C with
  | none => rw [q] at h0; cases h0
  | some o =>
    rw [q] at h0
    obtain ⟨oc, od, dt, ⟨sl⟩⟩ := o
    cases oc with
    | type t =>
      cases dt with
      | cls cd =>
        obtain ⟨nm, bs, mro, ns, qn, hd, sn, sub, ab, col, del⟩ := cd
        obtain ⟨a1, a⟩ := He.ba h0
        obtain ⟨a2, a⟩ := He.ba a
        obtain ⟨a3, a⟩ := He.ba a
        obtain ⟨a4, a5⟩ := He.ba a
        have e1 : t = "type" := of_decide_eq_true a1
        have e2 : hd = true := a2
        have e3 : del = false := by
          have z : (!del) = true := a3
          simpa using z
        subst e1 e2 e3
        cases mro with
        | nil => cases a4
        | cons m bm =>
          cases m with
          | ref D =>
            obtain ⟨b1, b2⟩ := He.ba (show (decide (D = C) && PySem.HandSPX.refsVE bm) = true from a4)
            have e4 : D = C := of_decide_eq_true b1
            subst e4
            match sl, a5 with
            | [k0, k1, k2, k3, some (.builtin n), k5], z =>
              have e5 : n = "ValueError.__new__" := of_decide_eq_true z
              subst e5
              exact ⟨_, _, _, _, _, _, _, _, _, _, _, _, _, _, _, rfl, b2⟩
          | _ => cases a4
      | _ => cases h0
    | _ => cases dt <;> cases h0
def isTup (K : PySem.W.Frag) (a : Addr) : Bool := match K.lookup a with
  | some ⟨.type c, _, _, _⟩ => decide (c = "tuple")
  | _ => false
theorem isTup_ok {K : PySem.W.Frag} {a : Addr} (h : isTup K a = true) : ∃ o : Obj, K.lookup a = some o ∧ o.cls = .type "tuple" := by
  unfold isTup at h
  cases q : K.lookup a with
  | none => rw [q] at h; cases h
  | some o =>
    rw [q] at h
    obtain ⟨oc, od, dt, sl⟩ := o
    cases oc with
    | type c => exact ⟨_, rfl, congrArg Value.type (of_decide_eq_true h)⟩
    | _ => cases h
section
variable {P : Program} {w : World} {K : PySem.W.Frag} {mg : Str → Option Value} {h : Heap}
theorem fun_of {x qual : Str} {st : Stmt} {f : Addr} {fd : FuncData} (F : FunD K x qual (defArgs st) (defBody st) (defScope st) [] [] f fd) : Fun K x qual st f fd := by
  obtain ⟨oc, od, dV, kV, doc, pm, an, cdv, ct, osl, rfl, lk, hcd, hD, _⟩ := F.ex
  rcases hD with ⟨_, rfl⟩ | ⟨n, _⟩
  · exact ⟨⟨oc, od, kV, doc, pm, an, cdv, ct, osl, rfl, lk, hcd⟩, F.kp⟩
  · exact absurd rfl n
theorem at_of {x : Str} {st : Stmt} {ps : List Str} {f : Addr} {fd : FuncData} (F : FunD K x x (defArgs st) (defBody st) (defScope st) [] [] f fd) (g : mg x = some (.ref f))
    (b : ∀ (kV doc pm : Value) (an : Option Addr) (cdv ct : Value) (us : List Value), us.length = ps.length → bindArgs (PySem.W.fnOf x x (defArgs st) (defBody st) (defScope st) .none kV doc pm an cdv ct) ⟨us, []⟩ = pure (ps.zip us)) : At K mg x st ps :=
  ⟨f, fd, fun_of F, g, (fun_of F).binds b⟩
end
end Own
namespace Own
/-- built-in names that no module takes -/
structure Blt (mg : PySem.Str → Option PySem.Value) : Prop where
  isi : mg "isinstance" = none
  int : mg "int" = none
  bool : mg "bool" = none
  len : mg "len" = none
  list : mg "list" = none
  range : mg "range" = none
  tuple : mg "tuple" = none
  all : mg "all" = none
  dm : mg "divmod" = none
  min : mg "min" = none
  max : mg "max" = none
  str : mg "str" = none
  abs : mg "abs" = none
  dict : mg "dict" = none
  any : mg "any" = none
end Own

/-! own layer, of no law: OWNB: OWNY for the pen of OWN (cells, count, left). -/
namespace Own
open PySem PySem.Spec PyProof.Rows L2 LamX NdefX
/-- all but the pen's dict is as it was; its list is the same one -/
structure KeepP (d : Addr) (H H' : Hp) : Prop where
  k : ∀ x o, x ≠ d → H x = some o → H' x = some o
  c : ∀ p m l, H d = some (.dK (penK p m l)) → ∃ m' l', H' d = some (.dK (penK p m' l'))
instance {d : Addr} {H H' : Hp} : CoeFun (KeepP d H H') (fun _ => ∀ x o, x ≠ d → H x = some o → H' x = some o) := ⟨KeepP.k⟩
section
variable {d p x : Addr} {o : HO} {H H' H1 H2 : Hp} {m l m' l' : Int}
theorem penK_inj {p p' : Addr} {m m' l l' : Int} (h : penK p m l = penK p' m' l') : p = p' := by
  unfold penK at h
  have z := (List.cons.inj h).1
  exact V.ref.inj (Prod.mk.inj z).2
theorem KeepP.refl : KeepP d H H := ⟨fun _ _ _ e => e, fun _ m l e => ⟨m, l, e⟩⟩
theorem KeepP.trans (h : KeepP d H H1) (k : KeepP d H1 H2) : KeepP d H H2 :=
  ⟨fun x o n e => k.k x o n (h.k x o n e), fun p m l e => by
    obtain ⟨m1, l1, e1⟩ := h.c p m l e
    exact k.c p m1 l1 e1⟩
theorem KeepP.same (s : Same H H') : KeepP d H H' := ⟨fun x o _ e => s x o e, fun p m l e => ⟨m, l, s _ _ e⟩⟩
theorem KeepP.new (h : H p = none) : KeepP d H (upd H p o) := KeepP.same (same_new h)
theorem KeepP.put (hd : H d = some (.dK (penK p m l))) : KeepP d H (upd H d (.dK (penK p m' l'))) :=
  ⟨fun x o n e => (upd_ne n).trans e, fun p' m1 l1 e => by
    have z := e.symm.trans hd
    have y := penK_inj (HO.dK.inj (Option.some.inj z))
    rw [y]
    exact ⟨m', l', upd_same⟩⟩
/-- x is not the pen's list -/
def OffP (H : Hp) (d x : Addr) : Prop := ∀ p m l, H d = some (.dK (penK p m l)) → p ≠ x
theorem OffP.of {B : Int} (hp : Pen H d B) (h : H x = none) : OffP H d x := fun p m l e => by
  obtain ⟨p0, ns, m0, l0, e0, e1, _⟩ := hp.ex
  have y := penK_inj (HO.dK.inj (Option.some.inj (e.symm.trans e0)))
  rw [y]
  exact ne_of_none e1 h
theorem OffP.keep {B : Int} (h : OffP H d x) (hp : Pen H d B) (k : KeepP d H H') : OffP H' d x := fun p m l e => by
  obtain ⟨p0, ns, m0, l0, e0, _⟩ := hp.ex
  obtain ⟨m1, l1, e1⟩ := k.c p0 m0 l0 e0
  have y := penK_inj (HO.dK.inj (Option.some.inj (e.symm.trans e1)))
  rw [y]
  exact h p0 m0 l0 e0
theorem OffP.at_ {y : Addr} (h : OffP H d x) (n : d ≠ y) : OffP (upd H y o) d x := fun p m l e => h p m l ((upd_ne n).symm.trans e)
/-- a list that is not the pen's is stored anew -/
theorem Pen.put {B : Int} {xs : List V} (hp : Pen H d B) (hx : H x = some (.lst xs)) (f : OffP H d x) : Pen (upd H x o) d B := by
  obtain ⟨p, ns, m, l, e1, e2, e3, e4, e5⟩ := hp.ex
  have n1 : d ≠ x := ne_of e1 hx (by intro z; cases z)
  exact ⟨p, ns, m, l, (upd_ne n1).trans e1, (upd_ne (f p m l e1)).trans e2, e3, e4, e5⟩
theorem Pen.ne_lst {B : Int} {xs : List V} (hp : Pen H d B) (hx : H x = some (.lst xs)) : d ≠ x := by
  obtain ⟨p, ns, m, l, e1, _⟩ := hp.ex
  exact ne_of e1 hx (by intro z; cases z)
/-- .. and over what was not there at first -/
theorem KeepP.over (k : KeepP d H H') (n : H x = none) : KeepP d H (upd H' x o) :=
  ⟨fun y u m e => (upd_ne (ne_of_none e n)).trans (k.k y u m e), fun p m l e => by
    obtain ⟨m1, l1, e1⟩ := k.c p m l e
    exact ⟨m1, l1, (upd_ne (ne_of_none e n)).trans e1⟩⟩
theorem KeepP.lst {B : Int} {xs : List V} (k : KeepP d H H') (hp : Pen H d B) (h : H x = some (.lst xs)) : H' x = some (.lst xs) := k.k _ _ (hp.ne_lst h).symm h
end
end Own

/-! k05: the pen's defs (made from k06's by genpen.py). -/
namespace K05
open PySem PySem.Spec PyProof.Rows L2 LamX NdefX Own
def topS (i : Nat) : Stmt := PySem.Challenge.pw_figurestay_k05_texts_of_worths.main.body.getD i (.Pass ⟨0, 0, 0, 0⟩)
abbrev sBegin : Stmt := topS 22
abbrev sDraw : Stmt := topS 23
abbrev sPick : Stmt := topS 24
abbrev sTen : Stmt := topS 25
abbrev sFigs : Stmt := topS 26
abbrev sSame : Stmt := topS 30
abbrev sRefd : Stmt := topS 31
section
variable {P : Program} {w : World} {K : PySem.W.Frag} {mg : Str → Option Value} {base : Heap} {C : Addr}
theorem scBegin : FnScope ["_law_script"] ["_law_script"] (defScope sBegin) := ⟨rfl, rfl, rfl, by decide +kernel, rfl, by decide +kernel, by decide +kernel⟩
theorem scDraw : FnScope ["_law_pen", "_law_span", "_law_digit", "_law_count", "_law_cell", "_law_first", "_law_blend"] ["_law_pen", "_law_span"] (defScope sDraw) := ⟨rfl, rfl, rfl, by decide +kernel, rfl, by decide +kernel, by decide +kernel⟩
/-- draw(pen, n): an int from 0 to n - 1; the pen has begun one draw more -/
def spDraw : Sp := fun vs H Q _ => ∃ (d : Addr) (n B : Int), vs = [.ref d, .int n] ∧ Pen H d B ∧ B ≤ 1000000000 ∧ 0 < n ∧ n ≤ 1000000 ∧
  ∀ (v : Int) (H' : Hp), 0 ≤ v → v < n → KeepP d H H' → Pen H' d (B + 1) → Q (.int v) H'
end
theorem neD_nil {xs : List Int} : PyData.eqv (.list (xs.map PyData.int)) (.list []) = decide (xs = []) := by
  cases xs with
  | nil => rfl
  | cons a r => rfl
theorem dp_ints {K : PySem.W.Frag} {H : Hp} : ∀ ns : List Int, DpAll K H (ns.map V.int) (ns.map PyData.int)
  | [] => .nil
  | a :: r => .cons (.int a) (dp_ints r)
theorem lay_ints : ∀ ns : List Int, PyData.canLayAll0 (ns.map PyData.int) = true
  | [] => by simp only [List.map_nil, PyData.canLayAll0]
  | a :: r => by simp only [List.map_cons, PyData.canLayAll0, PyData.canLay0, lay_ints r, Bool.and_self]
theorem dep_ints : ∀ ns : List Int, PyData.depthAll (ns.map PyData.int) ≤ 1
  | [] => by simp [PyData.depthAll]
  | a :: r => by
    have z := dep_ints r
    simp only [List.map_cons, PyData.depthAll, PyData.depth]
    omega
theorem sh_ints (ns : List Int) : SeqAt.shaped (.list (ns.map PyData.int)) = true := by
  have a := lay_ints ns
  have b := dep_ints ns
  have z : (PyData.list (ns.map PyData.int)).depth ≤ 64 := by
    simp only [PyData.depth]
    omega
  unfold SeqAt.shaped
  rw [Bool.and_eq_true]
  exact ⟨by simpa [PyData.canLay0] using a, decide_eq_true z⟩
theorem get_left {H : Hp} {d p : Addr} {c l : Int} (h : H d = some (.dK (penK p c l))) : DGet H d (V.str "left") (some (.int l)) := by
  have z := DGet.k (k := (Sum.inr "left" : Key)) h
  rw [pen_left] at z
  exact z
theorem get_count {H : Hp} {d p : Addr} {c l : Int} (h : H d = some (.dK (penK p c l))) : DGet H d (V.str "count") (some (.int c)) := by
  have z := DGet.k (k := (Sum.inr "count" : Key)) h
  rw [pen_count] at z
  exact z
theorem get_cells {H : Hp} {d p : Addr} {c l : Int} (h : H d = some (.dK (penK p c l))) : DGet H d (V.str "cells") (some (.ref p)) := by
  have z := DGet.k (k := (Sum.inr "cells" : Key)) h
  rw [pen_cells] at z
  exact z
theorem put_at_left {H : Hp} {d p : Addr} {c l l' : Int} (h : H d = some (.dK (penK p c l))) : DPut H d (V.str "left") (.int l') (upd H d (.dK (penK p c l'))) := by
  have z := DPut.k (k := (Sum.inr "left" : Key)) (v := .int l') h (by show 3 < sizeLine; decide)
  rw [put_left] at z
  exact z
theorem put_at_count {H : Hp} {d p : Addr} {c l c' : Int} (h : H d = some (.dK (penK p c l))) : DPut H d (V.str "count") (.int c') (upd H d (.dK (penK p c' l))) := by
  have z := DPut.k (k := (Sum.inr "count" : Key)) (v := .int c') h (by show 3 < sizeLine; decide)
  rw [put_count] at z
  exact z
section
variable {P : Program} {w : World} {K : PySem.W.Frag} {mg : Str → Option Value} {base : Heap}
theorem ok_draw {f : Addr} {fd : FuncData} (F : Fun K "_law_draw" "_law_draw" sDraw f fd) (mi : mg "int" = none) (ml : mg "len" = none) : FnOk P w K mg base CX0 1 f fd ["_law_pen", "_law_span"] spDraw := by
  refine F.ok scDraw (fun vs H Q E h => ?_) (fun cdv A outer s H vs Q E hr h => ?_)
  · obtain ⟨d, n, B, rfl, _⟩ := h
    rfl
  · obtain ⟨d, n, B, rfl, hp, hB, h0, h1, q⟩ := h
    have hu := hu_of hr
    have nd := scDraw.nd
    refine ⟨_, pss_cons (ps_if (pt_cmpR op_ge (pe_dget hu (pv 0) pe_str (fun _ _ => rfl)) (pv 1) (nomark _))
        (pss_cons (ps_set (i := 2) nd rfl (.inl rfl) (pe_op op_mod (pe_callTy call_int1 (by rfl) mi (by decide +kernel) (pa_cons (pe_dget hu (pv 0) pe_str (fun _ _ => rfl)) pa_nil)) (pv 1)))
        (pss_cons (ps_dput hu (pv 0) pe_str (pe_op op_fdiv (pe_dget hu (pv 0) pe_str (fun _ _ => rfl)) (pv 1)) rfl)
        (pss_one (ps_ret (pv 2))))) pss_nil)
      (pss_cons (ps_set (i := 3) nd rfl (.inl rfl) (pe_dget hu (pv 0) pe_str (fun _ _ => rfl)))
      (pss_cons (ps_dput hu (pv 0) pe_str (pe_op op_add (pv 3) pe_int) rfl)
      (pss_cons (ps_set (i := 4) nd rfl (.inl rfl) (pe_op op_add (pe_op op_mul pe_int (pv 3)) pe_int))
      (C8.pss_cut (ps_if (pt_cmpR (op_neD hr.units) (pe_dget hu (pv 0) pe_str (fun _ _ => rfl)) (pe_lst pa_nil) (nomark _))
        (pss_one (ps_set (i := 4) nd rfl (.inl rfl) (pe_ix ix_list (pe_dget hu (pv 0) pe_str (fun _ _ => rfl)) (pe_op op_mod (pe_callTy call_int1 (by rfl) mi (by decide +kernel) (pa_cons (pv 3) pa_nil)) (pe_callB call_len_seq (by rfl) ml PySem.boot_len (pa_cons (pe_dget hu (pv 0) pe_str (fun _ _ => rfl)) pa_nil))) (fun _ _ => rfl)))) pss_nil)
      (C8.pss_cut (ps_if (PW.pt (pw_and (pt_cmpR op_lt (pv 3) (pe_callB call_len_seq (by rfl) ml PySem.boot_len (pa_cons (pe_dget hu (pv 0) pe_str (fun _ _ => rfl)) pa_nil)) (nomark _)) (pw_and1 (pt_cmpR op_ge (pv 4) (pe_op op_pow pe_int pe_int) (nomark _)))))
        (pss_cons (ps_dput hu (pv 0) pe_str (pe_op op_fdiv (pe_op op_sub (pv 4) (pe_op op_pow pe_int pe_int)) (pv 1)) rfl)
        (pss_one (ps_ret (pe_op op_mod (pe_callTy call_int1 (by rfl) mi (by decide +kernel) (pa_cons (pe_op op_sub (pv 4) (pe_op op_pow pe_int pe_int)) pa_nil)) (pv 1))))) pss_nil)
      (pss_cons (ps_set (i := 5) nd rfl (.inl rfl) (pe_op op_add (pe_op op_mul (pe_op op_mod (pe_callTy call_int1 (by rfl) mi (by decide +kernel) (pa_cons (pv 4) pa_nil)) pe_int) pe_int) (pe_op op_mul (pe_op op_mul pe_int (pv 3)) (pv 3))))
      (pss_cons (ps_set (i := 6) nd rfl (.inl rfl) (pe_op op_mod (pe_callTy call_int1 (by rfl) mi (by decide +kernel) (pa_cons (pe_op op_add (pe_op op_add (pv 5) (pe_op op_mul pe_int (pv 3))) pe_int) pa_nil)) pe_int))
      (pss_cons (ps_set (i := 6) nd rfl (.inl rfl) (pe_op op_mod (pe_callTy call_int1 (by rfl) mi (by decide +kernel) (pa_cons (pe_op op_mul (pv 6) (pe_op op_add (pv 6) pe_int)) pa_nil)) pe_int))
      (pss_one (ps_ret (pe_op op_mod (pe_callTy call_int1 (by rfl) mi (by decide +kernel) (pa_cons (pe_op op_fdiv (pe_op op_mod (pe_callTy call_int1 (by rfl) mi (by decide +kernel) (pa_cons (pe_op op_add (pe_op op_mul (pv 6) (pv 6)) (pe_op op_mul pe_int (pv 6))) pa_nil)) pe_int) pe_int) pa_nil)) (pv 1)))))))))))), ?_⟩
    obtain ⟨p, ns, c, l, hd, hps, hns, hc0, hcB⟩ := hp.ex
    have npd : p ≠ d := ne_of hps hd (by intro z; cases z)
    have n0 : n ≠ 0 := by omega
    have nB : n < 1073741824 := by omega
    have pn : ∀ {H' : Hp} {c' l' : Int}, H' p = some (.lst (ns.map V.int)) → H' d = some (.dK (penK p c' l')) → 0 ≤ c' → c' ≤ B + 1 → Pen H' d (B + 1) := fun {H' c' l'} a b e g => ⟨p, ns, c', l', b, a, hns, e, g⟩
    -- pen['left'] >= span
    refine ⟨_, rfl, d, .int l, rfl, get_left hd, _, rfl, l, n, rfl, rfl, _, rfl, ite2 (fun hln => ?_) (fun hln => ?_)⟩
    · refine ⟨_, rfl, d, .int l, rfl, get_left hd, .inl ⟨l, rfl, _, rfl, l, n, rfl, rfl, h0, ?_⟩⟩
      refine ⟨_, rfl, d, .int l, rfl, get_left hd, _, rfl, l, n, rfl, rfl, ⟨h0, nB⟩, _, rfl, d, _, rfl, put_at_left hd, ?_⟩
      refine ⟨_, rfl, ?_⟩
      exact q _ _ (Int.emod_nonneg _ n0) (Int.emod_lt_of_pos _ h0) (KeepP.put hd) (pn (by rw [upd_ne npd]; exact hps) upd_same hc0 (by omega))
    · refine ⟨_, rfl, d, .int c, rfl, get_count hd, ?_⟩
      refine ⟨_, rfl, _, _, rfl, rfl, _, rfl, d, _, rfl, put_at_count hd, ?_⟩
      refine ⟨_, rfl, _, c, rfl, rfl, .inl ⟨by decide, by decide⟩, _, _, rfl, rfl, ?_⟩
      generalize eH1 : upd H d (.dK (penK p (c + 1) l)) = H1
      have hd1 : H1 d = some (.dK (penK p (c + 1) l)) := by rw [← eH1]; exact upd_same
      have hp1 : H1 p = some (.lst (ns.map V.int)) := by rw [← eH1, upd_ne npd]; exact hps
      have k1 : KeepP d H H1 := by rw [← eH1]; exact KeepP.put hd
      -- if pen['cells'] != []
      have hcl : ∀ {H2 : Hp}, H2 d = some (.dK (penK p (c + 1) l)) → H2 p = some (.lst (ns.map V.int)) → DGet H2 d (V.str "cells") (some (.ref p)) ∧ (SqL K H2 p (ns.map V.int) ∨ SqT K H2 p (ns.map V.int)) := fun {H2} a b => ⟨get_cells a, .inl (SqL.of b)⟩
      refine ⟨fun σ H2 => (∃ x : Int, σ = [some (.ref d), some (.int n), none, some (.int c), some (.int x), none, none]) ∧ H2 d = some (.dK (penK p (c + 1) l)) ∧ H2 p = some (.lst (ns.map V.int)) ∧ KeepP d H H2, ?_, ?_⟩
      · refine ⟨_, rfl, d, .ref p, rfl, get_cells hd1, Nat.zero_le _, fun e ne => ?_⟩
        have he1 : ∀ {b o}, H1 b = some o → (upd H1 e (.lst [])) b = some o := fun {b o} z => by rw [upd_ne (ne_of_none z ne)]; exact z
        refine ⟨.list (ns.map PyData.int), .list [], .lst (SqL.of (he1 hp1)) (dp_ints _), .lst (SqL.of upd_same) .nil, sh_ints _, sh_ints [], _, rfl, ?_⟩
        rw [neD_nil]
        generalize eH2 : upd H1 e (.lst []) = H2
        have hd2 : H2 d = some (.dK (penK p (c + 1) l)) := by rw [← eH2]; exact he1 hd1
        have hp2 : H2 p = some (.lst (ns.map V.int)) := by rw [← eH2]; exact he1 hp1
        have k2 : KeepP d H H2 := by rw [← eH2]; exact k1.trans (KeepP.new ne)
        refine ite2 (fun hne => ?_) (fun hne => ?_)
        · have hn0 : 0 < ns.length := by
            cases ns with
            | nil => simp at hne
            | cons a r => exact Nat.zero_lt_succ _
          have hpos : (0 : Int) < ((ns.map V.int).length : Int) := by rw [List.length_map]; omega
          obtain ⟨j, hj⟩ : ∃ j : Nat, c % ((ns.map V.int).length : Int) = (j : Int) := ⟨(c % ((ns.map V.int).length : Int)).toNat, (Int.toNat_of_nonneg (Int.emod_nonneg _ (by omega))).symm⟩
          have hjl : j < ns.length := by
            have z := Int.emod_lt_of_pos c hpos
            rw [hj, List.length_map] at z
            omega
          refine ⟨_, rfl, d, .ref p, rfl, get_cells hd2, _, rfl, .inl ⟨c, rfl, _, rfl, d, .ref p, rfl, get_cells hd2, p, _, rfl, .inl (SqL.of hp2), _, _, rfl, rfl, hpos, p, _, _, .int (ns[j]'hjl), rfl, rfl, SqL.of hp2, at_of hj (by rw [List.getElem?_map, List.getElem?_eq_getElem hjl]; rfl), ?_⟩⟩
          exact ⟨⟨_, rfl⟩, hd2, hp2, k2⟩
        · exact ⟨⟨_, rfl⟩, hd2, hp2, k2⟩
      · rintro σ2 H2 ⟨⟨x, rfl⟩, hd2, hp2, k2⟩
        refine ⟨fun σ H3 => σ = [some (.ref d), some (.int n), none, some (.int c), some (.int x), none, none] ∧ H3 = H2, ?_, ?_⟩
        · refine ⟨_, rfl, _, rfl, d, .ref p, rfl, get_cells hd2, p, _, rfl, .inl (SqL.of hp2), _, _, rfl, rfl, _, rfl, ite2 (fun _ => ?_) (fun _ => ⟨rfl, rfl⟩)⟩
          refine ⟨_, rfl, _, _, rfl, rfl, ⟨by decide, by decide, by decide⟩, _, _, rfl, rfl, _, rfl, ite2 (fun _ => ?_) (fun _ => ⟨rfl, rfl⟩)⟩
          refine ⟨_, rfl, _, _, rfl, rfl, ⟨by decide, by decide, by decide⟩, _, _, rfl, rfl, _, rfl, _, _, rfl, rfl, ⟨h0, nB⟩, _, rfl, d, _, rfl, put_at_left hd2, ?_⟩
          refine ⟨_, rfl, _, _, rfl, rfl, ⟨by decide, by decide, by decide⟩, _, _, rfl, rfl, .inl ⟨_, rfl, _, rfl, _, _, rfl, rfl, h0, ?_⟩⟩
          exact q _ _ (Int.emod_nonneg _ n0) (Int.emod_lt_of_pos _ h0) (k2.trans (KeepP.put hd2)) (pn (by rw [upd_ne npd]; exact hp2) upd_same (by omega) (by omega))
        · rintro σ3 H3 ⟨rfl, rfl⟩
          have hc64 : -(2 ^ 64) < c ∧ c < 2 ^ 64 := ⟨by omega, by omega⟩
          refine ⟨_, rfl, .inl ⟨x, rfl, _, _, rfl, rfl, (show (0 : Int) < 2147482811 by decide), _, _, rfl, rfl, .inr ⟨by decide, by decide⟩, ?_⟩⟩
          refine ⟨_, rfl, _, c, rfl, rfl, .inl ⟨by decide, by decide⟩, _, rfl, _, c, rfl, rfl, .inr hc64, _, _, rfl, rfl, ?_⟩
          refine ⟨_, rfl, _, rfl, _, c, rfl, rfl, .inl ⟨by decide, by decide⟩, _, _, rfl, rfl, _, _, rfl, rfl, .inl ⟨_, rfl, _, _, rfl, rfl, (show (0 : Int) < 2147482873 by decide), ?_⟩⟩
          skip
          dsimp only
          generalize x % 2147482811 * 60013 + 35023 * c * c = y1
          have hy2 := Int.emod_lt_of_pos (y1 + 151 * c + 23) (show (0 : Int) < 2147482873 by decide)
          have hy20 := Int.emod_nonneg (y1 + 151 * c + 23) (show (2147482873 : Int) ≠ 0 by decide)
          generalize (y1 + 151 * c + 23) % 2147482873 = y2 at hy2 hy20
          refine ⟨_, rfl, _, rfl, y2, _, rfl, rfl, y2, _, rfl, rfl, .inl ⟨by omega, by omega⟩, .inl ⟨_, rfl, _, _, rfl, rfl, (show (0 : Int) < 2147482951 by decide), ?_⟩⟩
          skip
          dsimp only
          have hy3 := Int.emod_lt_of_pos (y2 * (y2 + 90007)) (show (0 : Int) < 2147482951 by decide)
          have hy30 := Int.emod_nonneg (y2 * (y2 + 90007)) (show (2147482951 : Int) ≠ 0 by decide)
          generalize (y2 * (y2 + 90007)) % 2147482951 = y3 at hy3 hy30
          refine ⟨_, rfl, _, rfl, y3, y3, rfl, rfl, .inl ⟨by omega, by omega⟩, _, rfl, _, y3, rfl, rfl, .inl ⟨by decide, by decide⟩, _, _, rfl, rfl, .inl ⟨_, rfl, _, _, rfl, rfl, (show (0 : Int) < 2147483033 by decide), _, _, rfl, rfl, ⟨(show (0 : Int) < 64 by decide), (show (64 : Int) < 1073741824 by decide)⟩, .inl ⟨_, rfl, _, rfl, _, n, rfl, rfl, h0, ?_⟩⟩⟩
          exact q _ _ (Int.emod_nonneg _ n0) (Int.emod_lt_of_pos _ h0) k2 (pn hp2 hd2 (by omega) (by omega))
end
section
variable {P : Program} {w : World} {K : PySem.W.Frag} {mg : Str → Option Value} {base : Heap} {C : Addr}
theorem ok_draw' (A : At K mg "_law_draw" sDraw ["_law_pen", "_law_span"]) (T : Blt mg) : DefOk P w K mg base CX0 "_law_draw" 1 ["_law_pen", "_law_span"] spDraw := A.ok fun f fd F => ok_draw F T.int T.len
def spBegin (K : PySem.W.Frag) : Sp := fun vs H Q _ => ∃ (a : Addr) (ns : List Int), vs = [.ref a] ∧ SqL K H a (ns.map V.int) ∧ ns.length ≤ 63 ∧ ∀ (d : Addr) (H' : Hp), H d = none → Same H H' → Pen H' d 0 → Q (.ref d) H'
theorem take63 (xs : List V) (h : xs.length ≤ 63) : cutV xs none (some 63) = xs := by
  unfold cutV
  rw [HT.sIx_none, show HT.sIx xs.length xs.length (some 63) = min 63 xs.length from HT.sIx_nat xs.length xs.length 63, List.drop_zero, Nat.min_eq_right h, Nat.sub_zero, List.take_length]
theorem ok_begin (A : At K mg "_law_begin" sBegin ["_law_script"]) (T : Blt mg) : DefOk P w K mg base CX0 "_law_begin" 1 ["_law_script"] (spBegin K) := by
  refine A.ok fun f fd F => F.ok scBegin (fun vs H Q E h => ?_) (fun cdv A outer s H vs Q E hr h => ?_)
  · obtain ⟨a, ns, rfl, _⟩ := h
    rfl
  · obtain ⟨a, ns, rfl, hS, hl, q⟩ := h
    refine ⟨_, pss_one (ps_ret (pe_disp (pps_cons pe_str (pe_callTy call_list_of (by rfl) T.list (by decide +kernel) (pa_cons (pe_slice sl_list (pv 0) po_none (po_some pe_int)) pa_nil))
      (pps_cons pe_str pe_int (pps_cons pe_str pe_int pps_nil))) (by rfl) (by rfl) (fun z => by cases z) (by decide))), ?_⟩
    intro d hd
    have s0 : Same H (upd H d (.dK [])) := same_new hd
    refine ⟨_, rfl, 63, rfl, a, _, rfl, s0.seq hS, fun c hc => ?_⟩
    rw [take63 _ (by rw [List.length_map]; exact hl)]
    have s1 : Same H (upd (upd H d (.dK [])) c (.lst (ns.map V.int))) := s0.trans (same_new hc)
    refine ⟨c, _, rfl, .inl (SqL.of upd_same), fun p hp => ?_⟩
    have s2 : Same (upd (upd H d (.dK [])) c (.lst (ns.map V.int))) (upd (upd (upd H d (.dK [])) c (.lst (ns.map V.int))) p (.lst (ns.map V.int))) := same_new hp
    have hdd : upd (upd (upd H d (.dK [])) c (.lst (ns.map V.int))) p (.lst (ns.map V.int)) d = some (.dK []) := s2 _ _ (same_new hc _ _ upd_same)
    have npd : p ≠ d := fun z => by
      rw [z] at hp
      have := same_new (o := .lst (ns.map V.int)) hc _ _ (upd_same (H := H) (a := d) (o := .dK []))
      rw [hp] at this
      cases this
    refine ⟨hdd, [(Sum.inr "cells", .ref p), (Sum.inr "count", .int 0), (Sum.inr "left", .int 0)], rfl, by show 3 ≤ 15; decide, ?_⟩
    have em : mergeK [] [(Sum.inr "cells", V.ref p), (Sum.inr "count", V.int 0), (Sum.inr "left", V.int 0)] = penK p 0 0 := by
      unfold mergeK
      rw [List.foldl_cons, putK_new _ valV_nil, List.foldl_cons, putK_new _ (by
        rw [List.nil_append, valV_neg (fun e => ne_txt.1 (Sum.inr.inj e)), valV_nil]), List.foldl_cons, putK_new _ (by
        show valV [_, _] _ = none
        rw [valV_neg (fun e => ne_txt.2.1 (Sum.inr.inj e)), valV_neg (fun e => ne_txt.2.2.1 (Sum.inr.inj e)), valV_nil])]
      rfl
    rw [em]
    refine q d _ hd (fun b o e => ?_) ⟨p, ns, 0, 0, upd_same, ?_, hl, by omega, by omega⟩
    · rw [upd_ne (ne_of_none e hd)]
      exact s2 _ _ (s1 _ _ e)
    · rw [upd_ne npd]
      exact upd_same
theorem scPick : FnScope ["_law_pen", "_law_some"] ["_law_pen", "_law_some"] (defScope sPick) := ⟨rfl, rfl, rfl, by decide +kernel, rfl, by decide +kernel, by decide +kernel⟩
def spPick : Sp := fun vs H Q _ => ∃ (d a : Addr) (xs : List V) (B : Int), vs = [.ref d, .ref a] ∧ H a = some (.lst xs) ∧ xs ≠ [] ∧ xs.length ≤ 1000 ∧ Pen H d B ∧ B ≤ 1000000000 ∧ ∀ (x : V) (H' : Hp), x ∈ xs → KeepP d H H' → Pen H' d (B + 1) → Q x H'
theorem ok_pick (A : At K mg "_law_pick" sPick ["_law_pen", "_law_some"]) (T : Blt mg) (D : DefOk P w K mg base CX0 "_law_draw" 1 ["_law_pen", "_law_span"] spDraw) : DefOk P w K mg base CX0 "_law_pick" 2 ["_law_pen", "_law_some"] spPick := by
  refine A.ok fun f fd F => F.ok scPick (fun vs H Q E h => ?_) (fun cdv A outer s H vs Q E hr h => ?_)
  · obtain ⟨d, a, xs, B, rfl, _⟩ := h
    rfl
  · obtain ⟨d, a, xs, B, rfl, ha, hne, hl, hp, hB, q⟩ := h
    refine ⟨_, pss_one (ps_ret (pe_ix ix_list (pv 1) (pe_def D hr (by decide) (by rfl) pass0 (pa_cons (pv 0) (pa_cons (pe_callB call_len_seq (by rfl) T.len PySem.boot_len (pa_cons (pv 1) pa_nil)) pa_nil))) (fun _ _ => rfl))), ?_⟩
    have h0 : 0 < xs.length := List.length_pos_iff.mpr hne
    refine ⟨_, rfl, _, rfl, _, rfl, a, xs, rfl, .inl (SqL.of ha), d, (xs.length : Int), B, rfl, hp, hB, by omega, by omega, fun v H' h1 h2 kp hp' => ?_⟩
    have nad : a ≠ d := by
      obtain ⟨p, ns, c, l, e, _⟩ := hp.ex
      exact ne_of ha e (by intro z; cases z)
    obtain ⟨j, rfl⟩ : ∃ j : Nat, v = (j : Int) := ⟨v.toNat, (Int.toNat_of_nonneg h1).symm⟩
    have hj : j < xs.length := by omega
    exact ⟨a, xs, _, xs[j], rfl, rfl, SqL.of (kp _ _ nad ha), atI_nat (List.getElem?_eq_getElem hj), q _ _ (List.getElem_mem hj) kp hp'⟩
theorem scTen : FnScope ["_law_number"] ["_law_number"] (defScope sTen) := ⟨rfl, rfl, rfl, by decide +kernel, rfl, by decide +kernel, by decide +kernel⟩
def spTen : Sp := fun vs H Q _ => ∃ n : Nat, vs = [.int n] ∧ n ≤ 600 ∧ Q (.int ((10 : Int) ^ n)) H
theorem ok_ten (A : At K mg "_law_ten" sTen ["_law_number"]) (T : Blt mg) : DefOk P w K mg base CX0 "_law_ten" 1 ["_law_number"] spTen := by
  refine A.ok fun f fd F => F.ok scTen (fun vs H Q E h => ?_) (fun cdv A outer s H vs Q E hr h => ?_)
  · obtain ⟨n, rfl, _⟩ := h
    rfl
  · obtain ⟨n, rfl, hn, q⟩ := h
    refine ⟨_, pss_one (ps_ret (pe_callTy call_int_str (by rfl) T.int (by decide +kernel) (pa_cons (pe_op op_add_str pe_str (pe_op op_mulS pe_str (pv 0))) pa_nil))), ?_⟩
    have hl : ("1" : Str).length + (Txt.mul "0" (n : Int)).length ≤ sizeLine := by
      have a : ("1" : Str).length = 1 := by decide +kernel
      have b : (Txt.mul "0" (n : Int)).length = n := by rw [str_len, zeros, List.length_replicate]
      have c := sizeLine_eq
      omega
    exact ⟨_, rfl, _, _, rfl, rfl, mulOk0 hn, _, _, rfl, rfl, hl, tenS n, _, rfl, ten_text hn, by rw [tenS_len]; omega, q⟩
end
section
variable {P : Program} {w : World} {K : PySem.W.Frag} {mg : Str → Option Value} {base : Heap} {C : Addr}
theorem scFigs : FnScope ["_law_pen", "_law_most", "_law_many", "_law_manner", "_law_number", "_law_k", "_law_tail", "_law_head"] ["_law_pen", "_law_most"] (defScope sFigs) := ⟨rfl, rfl, rfl, by decide +kernel, rfl, by decide +kernel, by decide +kernel⟩
def spFigs : Sp := fun vs H Q _ => ∃ (d : Addr) (M : Nat) (B : Int), vs = [.ref d, .int M] ∧ 1 ≤ M ∧ M ≤ 600 ∧ Pen H d B ∧ B ≤ 900000000 ∧ ∀ (v : Int) (H' : Hp), 0 ≤ v → v ≤ 3 * (10 : Int) ^ M → KeepP d H H' → Pen H' d (B + 200) → Q (.int v) H'
theorem ok_figs (A : At K mg "_law_figures" sFigs ["_law_pen", "_law_most"]) (T : Blt mg) (D : DefOk P w K mg base CX0 "_law_draw" 1 ["_law_pen", "_law_span"] spDraw) (D2 : DefOk P w K mg base CX0 "_law_ten" 1 ["_law_number"] spTen) :
    DefOk P w K mg base CX0 "_law_figures" 2 ["_law_pen", "_law_most"] spFigs := by
  refine A.ok fun f fd F => F.ok scFigs (fun vs H Q E h => ?_) (fun cdv A outer s H vs Q E hr h => ?_)
  · obtain ⟨d, M, B, rfl, _⟩ := h
    rfl
  · obtain ⟨d, M, B, rfl, hM1, hM2, hp, hB, q⟩ := h
    have nd := scFigs.nd
    refine ⟨_, pss_cons (ps_par (i := 2) (j := 3) (by rfl) nd rfl rfl (by decide) rfl rfl (pa_cons (pe_op op_add pe_int (pe_def D hr (by decide) (by rfl) pass0 (pa_cons (pv 0) (pa_cons (pv 1) pa_nil)))) (pa_cons (pe_def D hr (by decide) (by rfl) pass0 (pa_cons (pv 0) (pa_cons pe_int pa_nil))) pa_nil)) (by rfl))
      (pss_cons (ps_if (pt_cmpR op_eq (pv 3) pe_int (nomark _)) (pss_one (ps_ret (pe_def D hr (by decide) (by rfl) pass0 (pa_cons (pv 0) (pa_cons pe_int pa_nil))))) pss_nil)
      (pss_cons (ps_if (pt_cmpR op_eq (pv 3) pe_int (nomark _)) (pss_one (ps_ret (pe_op op_sub (pe_def D2 hr (by decide) (by rfl) pass0 (pa_cons (pv 2) pa_nil)) pe_int))) pss_nil)
      (pss_cons (ps_if (pt_cmpR op_eq (pv 3) pe_int (nomark _)) (pss_one (ps_ret (pe_def D2 hr (by decide) (by rfl) pass0 (pa_cons (pe_op op_sub (pv 2) pe_int) pa_nil)))) pss_nil)
      (pss_cons (ps_set (i := 4) nd rfl (.inl rfl) pe_int)
      (pss_cons (ps_for PassesOwn.never rfl (pi_range1 (by rfl) T.range (pa_cons (pe_op op_add (pe_op op_fdiv (pv 2) pe_int) pe_int) pa_nil)) (pg_name (i := 5) nd rfl (.inl rfl))
        (pss_one (ps_set (i := 4) nd rfl (.inl rfl) (pe_op op_add (pe_op op_mul (pe_op op_pow pe_int pe_int) (pv 4)) (pe_def D hr (by decide) (by rfl) pass0 (pa_cons (pv 0) (pa_cons (pe_op op_pow pe_int pe_int) pa_nil)))))))
      (pss_cons (ps_set (i := 4) nd rfl (.inl rfl) (pe_op op_mod (pe_callTy call_int1 (by rfl) T.int (by decide +kernel) (pa_cons (pv 4) pa_nil)) (pe_def D2 hr (by decide) (by rfl) pass0 (pa_cons (pv 2) pa_nil))))
      (pss_cons (ps_set (i := 6) nd rfl (.inl rfl) (pe_op op_add pe_int (pe_def D hr (by decide) (by rfl) pass0 (pa_cons (pv 0) (pa_cons (pv 2) pa_nil)))))
      (pss_cons (ps_set (i := 7) nd rfl (.inl rfl) (pe_op op_mulW (pe_op op_fdivW (pv 4) (pe_def D2 hr (by decide) (by rfl) pass0 (pa_cons (pv 6) pa_nil))) (pe_def D2 hr (by decide) (by rfl) pass0 (pa_cons (pv 6) pa_nil))))
      (pss_cons (ps_if (pt_cmpR op_eq (pv 3) pe_int (nomark _)) (pss_one (ps_ret (pv 7))) pss_nil)
      (pss_cons (ps_if (pt_cmpR op_eq (pv 3) pe_int (nomark _)) (pss_one (ps_ret (pe_op op_sub (pe_op op_add (pe_op op_add (pv 7) (pe_op op_mul pe_int (pe_def D2 hr (by decide) (by rfl) pass0 (pa_cons (pe_op op_sub (pv 6) pe_int) pa_nil))))
          (pe_def D hr (by decide) (by rfl) pass0 (pa_cons (pv 0) (pa_cons pe_int pa_nil)))) pe_int))) pss_nil)
      (pss_one (ps_ret (pv 4))))))))))))), ?_⟩
    -- many, manner
    refine ⟨_, rfl, _, rfl, d, (M : Int), B, rfl, hp, by omega, by omega, by omega, fun m0 H1 a1 a2 k1 p1 => ?_⟩
    obtain ⟨m1, rfl⟩ : ∃ m1 : Nat, m0 = (m1 : Int) := ⟨m0.toNat, (Int.toNat_of_nonneg a1).symm⟩
    refine ⟨_, _, rfl, rfl, _, rfl, d, 7, B + 1, rfl, p1, by omega, by decide, by decide, fun manner H2 b1 b2 k2 p2 => ?_⟩
    have eM : (1 : Int) + (m1 : Int) = ((m1 + 1 : Nat) : Int) := by omega
    refine ⟨_, _, rfl, ?_⟩
    dsimp only
    rw [eM]
    generalize hm : m1 + 1 = m
    have hm1 : 1 ≤ m := by omega
    have hmM : m ≤ M := by omega
    have tm : (10 : Int) ^ m ≤ (10 : Int) ^ M := ten_mono hmM
    have t0 := ten_pos m
    have t1 : (10 : Int) ≤ (10 : Int) ^ M := by
      have := ten_mono hM1
      simpa using this
    have kk := k1.trans k2
    refine ⟨_, rfl, rfl, _, rfl, ite2 (fun e => ?_) (fun e => ?_)⟩
    · refine ⟨_, rfl, d, 10, B + 1 + 1, rfl, p2, by omega, by decide, by decide, fun v H3 c1 c2 k3 p3 => ?_⟩
      exact q v H3 c1 (by omega) (kk.trans k3) (p3.mono (by omega))
    refine ⟨_, rfl, rfl, _, rfl, ite2 (fun e => ?_) (fun e => ?_)⟩
    · refine ⟨_, rfl, m, rfl, by omega, _, _, rfl, rfl, ?_⟩
      exact q _ H2 (by omega) (by omega) kk (p2.mono (by omega))
    refine ⟨_, rfl, rfl, _, rfl, ite2 (fun e => ?_) (fun e => ?_)⟩
    · refine ⟨_, rfl, _, _, rfl, rfl, m - 1, by simp; omega, by omega, ?_⟩
      have := ten_pos (m - 1)
      have z : (10 : Int) ^ (m - 1) ≤ (10 : Int) ^ M := ten_mono (by omega)
      exact q _ H2 (by omega) (by omega) kk (p2.mono (by omega))
    -- the loop
    have hn : ((m : Int) / 6 + 1).toNat ≤ 101 := by omega
    refine ⟨_, rfl, _, _, rfl, rfl, ⟨by decide, by decide⟩, _, _, rfl, rfl, _, rfl, by omega, by omega, for_range (lo := 0) (n := ((m : Int) / 6 + 1).toNat)
      (fun i σ H' => ∃ (v : Int) (y : Option V), σ = [some (.ref d), some (.int M), some (.int m), some (.int manner), some (.int v), y, none, none] ∧ KeepP d H H' ∧ Pen H' d (B + 2 + i)) ⟨0, none, rfl, kk, p2.mono (by omega)⟩ ?_ ?_⟩
    · rintro i σ H3 hi ⟨v, y, rfl, k3, p3⟩
      refine ⟨_, _, rfl, rfl, ⟨by decide, by decide, by decide⟩, _, rfl, _, v, rfl, rfl, .inl ⟨by decide, by decide⟩, _, rfl, _, _, rfl, rfl, ⟨by decide, by decide, by decide⟩, d, _, B + 2 + i, rfl, p3, by omega, by decide, by decide, fun x H4 c1 c2 k4 p4 => ?_⟩
      exact ⟨_, _, rfl, rfl, _, _, rfl, k3.trans k4, p4.mono (by omega)⟩
    · rintro σ H3 ⟨v, y, rfl, k3, p3⟩
      have p3 : Pen H3 d (B + 110) := p3.mono (by omega)
      refine ⟨_, rfl, .inl ⟨v, rfl, _, rfl, m, rfl, by omega, _, _, rfl, rfl, t0, ?_⟩⟩
      have n0 := Int.emod_nonneg v (show (10 : Int) ^ m ≠ 0 by omega)
      have n1 := Int.emod_lt_of_pos v t0
      dsimp only [gName, List.set]
      generalize v % (10 : Int) ^ m = n at n0 n1
      refine ⟨_, rfl, _, rfl, d, (m : Int), _, rfl, p3, by omega, by omega, by omega, fun u H4 c1 c2 k4 p4 => ?_⟩
      obtain ⟨u1, rfl⟩ : ∃ u1 : Nat, u = (u1 : Int) := ⟨u.toNat, (Int.toNat_of_nonneg c1).symm⟩
      have eT : (1 : Int) + (u1 : Int) = ((u1 + 1 : Nat) : Int) := by omega
      refine ⟨_, _, rfl, rfl, ?_⟩
      dsimp only [gName, List.set]
      rw [eT]
      generalize ht : u1 + 1 = t
      have ht1 : 1 ≤ t := by omega
      have htm : t ≤ m := by omega
      have tt := ten_pos t
      have tb := ten_lt t
      have hd0 : 0 ≤ n / (10 : Int) ^ t := Int.ediv_nonneg n0 (Int.le_of_lt tt)
      have hd1 : n / (10 : Int) ^ t * (10 : Int) ^ t ≤ n := by
        have := Int.emod_nonneg n (show (10 : Int) ^ t ≠ 0 by omega)
        have z := Int.emod_add_mul_ediv n ((10 : Int) ^ t)
        rw [Int.mul_comm] at z
        omega
      have hdn : n / (10 : Int) ^ t ≤ n := Int.ediv_le_self _ n0
      have hd2 : 0 ≤ n / (10 : Int) ^ t * (10 : Int) ^ t := Int.mul_nonneg hd0 (Int.le_of_lt tt)
      have nb : n.natAbs < 2 ^ (4 * m + 1) := lt_two n0 (Int.le_of_lt n1) (ten_lt m)
      have db : (n / (10 : Int) ^ t).natAbs < 2 ^ (4 * m + 1) := lt_two hd0 hdn nb
      refine ⟨_, rfl, _, rfl, t, rfl, by omega, n, _, rfl, rfl, wide_div tt tb (by omega) (by omega), _, rfl, t, rfl, by omega, _, _, rfl, rfl, wide_mul db tb (by omega) (by omega) (by omega), ?_⟩
      dsimp only [gName, List.set]
      generalize n / (10 : Int) ^ t * (10 : Int) ^ t = hd at hd1 hd2
      have kf := k3.trans k4
      refine ⟨_, rfl, rfl, _, rfl, ite2 (fun e => ?_) (fun e => ?_)⟩
      · exact ⟨_, rfl, q _ _ hd2 (by omega) kf (p4.mono (by omega))⟩
      refine ⟨_, rfl, rfl, _, rfl, ite2 (fun e => ?_) (fun e => ?_)⟩
      · have tu := ten_pos (t - 1)
        have tv : (10 : Int) ^ (t - 1) * 10 = (10 : Int) ^ t := by
          rw [← Int.pow_succ]
          congr 1
          omega
        have tw : (10 : Int) ^ t ≤ (10 : Int) ^ M := ten_mono (by omega)
        refine ⟨_, rfl, _, rfl, _, _, rfl, rfl, t - 1, by simp; omega, by omega, _, _, rfl, rfl, .inl ⟨by decide, by decide⟩, _, _, rfl, rfl, _, rfl, d, 3, _, rfl, p4, by omega, by decide, by decide, fun x H5 e1 e2 k5 p5 => ?_⟩
        refine ⟨_, _, rfl, rfl, _, _, rfl, rfl, ?_⟩
        exact q _ _ (by omega) (by omega) (kf.trans k5) (p5.mono (by omega))
      · exact ⟨_, rfl, q _ _ n0 (by omega) kf (p4.mono (by omega))⟩
end
section
variable {P : Program} {w : World} {K : PySem.W.Frag} {mg : Str → Option Value} {base : Heap} {C : Addr}
theorem scSame : FnScope ["_law_one", "_law_other"] ["_law_one", "_law_other"] (defScope sSame) := ⟨rfl, rfl, rfl, by decide +kernel, rfl, by decide +kernel, by decide +kernel⟩
def spSame : Sp := fun vs H Q _ => (∃ a b : Int, vs = [.int a, .int b] ∧ Q (.bl (decide (a = b))) H) ∨ ∃ x : V, vs = [x, x] ∧ Odd H x ∧ Q (.bl true) H
theorem ok_same (A : At K mg "_law_same" sSame ["_law_one", "_law_other"]) (T : Blt mg) : DefOk P w K mg base CX0 "_law_same" 1 ["_law_one", "_law_other"] spSame := by
  refine A.ok fun f fd F => F.ok scSame (fun vs H Q E h => ?_) (fun cdv A outer s H vs Q E hr h => ?_)
  · rcases h with ⟨a, b, rfl, _⟩ | ⟨x, rfl, _⟩
    · rfl
    · rfl
  · refine ⟨_, pss_one (ps_ret (pe_and (pe_cmpR (op_eqOdd hr.units) (pv 0) (pv 1) (nomark _))
      (pe_one (pe_cmpR op_eq (pe_callB call_isi (by rfl) T.isi (by decide +kernel) (pa_cons (pv 0) (pa_cons (pe_bltn (v := .ty "bool") (by rfl) T.bool (by decide +kernel) rfl) pa_nil)))
        (pe_callB call_isi (by rfl) T.isi (by decide +kernel) (pa_cons (pv 1) (pa_cons (pe_bltn (v := .ty "bool") (by rfl) T.bool (by decide +kernel) rfl) pa_nil))) (nomark _))))), ?_⟩
    rcases h with ⟨a, b, rfl, q⟩ | ⟨x, rfl, od, q⟩
    · refine ⟨_, rfl, _, rfl, .inl ⟨a, b, rfl, rfl, _, rfl, ite2 (fun e => ?_) (fun e => ?_)⟩⟩
      · obtain ⟨t1, h1, _, k1⟩ := (Thing.int (H := H) a).isi (K := K)
        obtain ⟨t2, h2, _, k2⟩ := (Thing.int (H := H) b).isi (K := K)
        refine ⟨_, rfl, _, _, t1, _, _, rfl, .ty _, h1, k1, _, rfl, _, _, t2, _, _, rfl, .ty _, h2, k2, rfl, ?_⟩
        rw [e] at q
        exact q
      · rw [eq_false_of_ne_true e] at q
        exact q
    · refine ⟨_, rfl, _, rfl, .inr ⟨od, rfl, _, rfl, iteT ?_⟩⟩
      obtain ⟨t1, h1, _, k1⟩ := od.thing.isi (K := K)
      refine ⟨_, rfl, _, _, t1, _, _, rfl, .ty _, h1, k1, _, rfl, _, _, t1, _, _, rfl, .ty _, h1, k1, rfl, ?_⟩
      have e : decide (V.bl (isBl x) = V.bl (isBl x)) = true := decide_eq_true rfl
      show Q (.bl (decide (V.bl (isBl x) = V.bl (isBl x)))) H
      rw [e]
      exact q
/-! ### odd values that are drawn -/
/-- no integer; which texts -/
structure Wrong (H : Hp) (x : V) : Prop where
  od : Odd H x
  ni : Own.isInt x = false
  nt : ∀ z : Str, x = .str z → z = "1" ∨ z = "" ∨ z = "Cut"
theorem Wrong.same {H H' : Hp} {x : V} (h : Wrong H x) (s : Same H H') : Wrong H' x := ⟨h.od.same s, h.ni, h.nt⟩
end
section
variable {P : Program} {w : World} {K : PySem.W.Frag} {mg : Str → Option Value} {base : Heap} {C : Addr}
theorem scRefd : FnScope ["_law_deed", "_law_value", "_law_told_here", "e"] ["_law_deed", "_law_value"] (defScope sRefd) := ⟨rfl, rfl, rfl, by decide +kernel, rfl, by decide +kernel, by decide +kernel⟩
def spRefd (C : Addr) : (Hp → VK → XK → Prop) → List V → Hp → VK → Prop := fun tl rest H Q => ∃ v : V, rest = [v] ∧ Odd H v ∧ (∀ (Q' : VK) (E' : XK), Bad C "value" v H E' → tl H Q' E') ∧ ∀ H', Same H H' → Q (.bl true) H'
theorem ld_refd (A : At K mg "_law_refused" sRefd ["_law_deed", "_law_value"]) (T : ErrC P w K mg base "BadValue" "value" 1 C (spErr C "value")) (D : DefOk P w K mg base CX0 "_law_same" 1 ["_law_one", "_law_other"] spSame) : LamDefAt P w K mg base "_law_refused" 6 (spRefd C) := by
  obtain ⟨g, fd, F, gm, b⟩ := A.ex
  refine ⟨g, ⟨fun A outer s H us f vs FF bb fr ws spl kl Q hr hkl e0 r G hf hc CC q => ?_⟩, gm, F.kp⟩
  have KX : K.In s.heap := e0.mod.kin.keeps fun b o e => (e0.bs b o e).1
  obtain ⟨v, rfl, od, q1, q2⟩ := q
  have hb := b s us KX (by rw [List.append_nil, ← r.length]; rfl)
  rw [List.append_nil] at hb
  obtain ⟨oc, od', kV, doc, pm, an, cdv, ct, osl, rfl, lk, hcd⟩ := F.ex
  refine LamX.run_ofS (N := ["_law_deed", "_law_value", "_law_told_here", "e"]) lk hcd scRefd hr e0 hb r rfl fun hr' => ?_
  have nd := scRefd.nd
  refine ⟨_, pss_cons (ps_set (i := 2) nd rfl (.inl rfl) pe_non)
    (pss_cons (ps_try_as (i := 3) (c := .ref C) rfl rfl nd rfl rfl ⟨rfl, by decide, .inl T.g⟩ L2.takes0
        (fun W pn xe tk _ => pss_one (ps_expr (pe_deedS (i := 0) (E := WE W) CC rfl G (hr'.mono (by omega)) (fun σ => passAt tk σ) rfl (.inl rfl))))
        (fun a oe cls d pn hz hf => pss_one (ps_set (i := 2) nd rfl (.inl rfl) (pe_tup (pa_cons (pe_xf T.xf T.noV hz hf (pv 3)) pa_nil)))))
    (pss_one (ps_ret (pe_and (pe_cmpR op_notN (pv 2) pe_non (nomark _)) (pe_one (pe_def D hr' (by decide) (by rfl) pass0 (pa_cons (pe_ix ix_tup (pv 2) pe_int (fun _ _ => rfl)) (pa_cons (pv 1) pa_nil)))))))), ?_⟩
  refine ⟨rfl, hf, hc, q1 _ _ fun d H1 s1 nd1 e1 => ⟨true, T.te, fun _ a na => ?_, fun z => nomatch z⟩⟩
  refine ⟨_, rfl, rfl, rfl, d, _, v, rfl, e1, by simp [List.lookup], by show 1 ≤ sizeLine; decide, fun p np => ?_⟩
  refine ⟨_, rfl, rfl, _, rfl, iteT ?_⟩
  have s2 : Same H1 (upd H1 p (.tup [v])) := same_new np
  refine ⟨_, rfl, p, [v], 0, v, rfl, rfl, SqT.of upd_same, rfl, v, rfl, .inr ⟨v, rfl, (od.same s1).same s2, ?_⟩⟩
  exact q2 _ (s1.trans s2)
end
end K05

/-! own layer, of no law: OWN2: operators by an own class. -/
namespace Own
open PySem PySem.Spec PyProof.Rows L2 LamX NdefX
section
variable {X : Cx} {pins : List (Addr × Obj)} {σ : L2.St} {H : Hp} {s : Shared}
theorem back_of {Q : VK} {A : Around} {c : Sem Value} (h : wpAny (model X.prog X.w) A c (EP X pins σ Q) X.xe s) : wpAny (model X.prog X.w) A c (PySem.W.CmpBack (EP X pins σ Q)) X.xe s := by
  refine wpAny_mono h (fun v s' q => ?_) fun _ _ e => e
  obtain ⟨y, H', I', r, q'⟩ := q
  cases v with
  | notImplemented => cases y <;> first | exact (nomatch r) | (obtain ⟨_, z⟩ := r; cases z)
  | _ => exact ⟨y, H', I', r, q'⟩
variable {CX : CXT} {n : Nat} {C f : Addr} {fd : FuncData} {ps : List Str} {sp : Sp} {E : XK} {op : Operator}
/-- x op y, both of the class at C, whose own method takes them -/
theorem op_own (F : FnOk X.prog X.w X.K X.mg X.base CX n f fd ps sp) (hr : Room n X.A) (hc : PySem.W.selfFirst X.K C = true) (hs : PySem.W.findIn X.K (.ref C) (PySem.dunder op.info.2) = some (some (.ref f))) (hf : PySem.W.isFn X.K (.ref f) = true) (hb : Binds X.K fd ps []) (hx : Passes CX X E) :
    OpR X (binaryOp op) (fun x y H Q => ∃ a b dx dy fs gs, x = V.ref a ∧ y = V.ref b ∧ H a = some (.ins C dx fs) ∧ H b = some (.ins C dy gs) ∧ sp [.ref a, .ref b] H Q E) := by
  intro pins s σ H x y v u Q I rx ry h
  obtain ⟨a, b, dx, dy, fs, gs, rfl, rfl, ha, hb', q⟩ := h
  cases rx
  cases ry
  obtain ⟨mA, J, _⟩ := ins_get I.hok ha
  obtain ⟨mB, J', _⟩ := ins_get I.hok hb'
  obtain ⟨od, J, _⟩ := J.look
  obtain ⟨od', J', _⟩ := J'.look
  obtain ⟨m, hF⟩ := I.fr
  exact PySem.W.binop_K hF I.ok.mod.kin J J'.type hc hs hf (back_of (run_fn F hr hb .nil hx I (.cons (show L2.RelV (V.ref a) (Value.ref a) from rfl) (.cons (show L2.RelV (V.ref b) (Value.ref b) from rfl) .nil)) q))
/-- -x of the class at C -/
theorem un_own (F : FnOk X.prog X.w X.K X.mg X.base CX n f fd ps sp) (hr : Room n X.A) (hs : PySem.W.findIn X.K (.ref C) "__neg__" = some (some (.ref f))) (hf : PySem.W.isFn X.K (.ref f) = true) (hb : Binds X.K fd ps []) (hx : Passes CX X E) :
    UnR X (unaryOp .USub) (fun x H Q => ∃ a dx fs, x = V.ref a ∧ H a = some (.ins C dx fs) ∧ sp [.ref a] H Q E) := by
  intro pins s σ H x v Q I rx h
  obtain ⟨a, dx, fs, rfl, ha, q⟩ := h
  cases rx
  obtain ⟨mA, J, _⟩ := ins_get I.hok ha
  obtain ⟨od, J, _⟩ := J.look
  obtain ⟨m, hF⟩ := I.fr
  exact PySem.W.ksp_neg hF I.ok.mod.kin J hs hf (run_fn F hr hb .nil hx I (.cons (show L2.RelV (V.ref a) (Value.ref a) from rfl) .nil) q)
end
end Own

/-! own layer, of no law: OWN3: an own class and a built-in value, on either side. -/
namespace Own
open PySem PySem.Spec PySem.Calls PyProof.Rows
section
variable {prog : Program} {w : World} {A : Around} {E : Value → Shared → Prop} {s : Shared} {K : PySem.W.Frag} {x C f : Addr} {ox : Obj} {od : Option Obj} {T : String}
open PySem.W in
/-- own op built-in -/
theorem own_left {op : Operator} {b : Value} {r : Bool} {back ours : Option Value} {Q : Value → Shared → Prop} (KX : K.In s.heap) (J : InstAt s.heap x ox C od) (tb : Looks (model prog w) s.heap (typeOf b) (.type T)) (one : selfFirst K C = true)
    (me : findIn K (.ref C) (PySem.dunder op.info.2) = some (some (.ref f))) (fn : isFn K (.ref f) = true) (mr : findIn K (.ref C) (dunderR op.info.2) = some ours) (mp : ours = none ∨ ∃ g : Addr, ours = some (.ref g))
    (slot : fillsNumberSlot (.type T) op.info.2 = pure r) (their : typeLookup (.type T) (dunderR op.info.2) = pure back) (nosub : subIn K (.type T) (.ref C) = some false)
    (go : wpAny (model prog w) A (call (.ref f) [.ref x, b]) (PySem.W.CmpBack Q) E s) : wpAny (model prog w) A (binaryOp op (.ref x) b) Q E s := by
  obtain ⟨cd, tl, c1, c2⟩ := ksp_first one
  obtain ⟨sy, nm, e⟩ : ∃ sy nm, op.info = (sy, nm) := ⟨_, _, rfl⟩
  rw [e] at me mr slot their
  have did := ksp_try KX J me fn go
  obtain ⟨hp, gs, dr, tk, os⟩ := s
  have q1 : Looks (model prog w) hp (typeOf (.ref x)) (.ref C) := J.type
  have q3 : Looks (model prog w) hp (fillsNumberSlot (.ref C) nm) true := fills_K KX c1 c2 me
  have q4 : Looks (model prog w) hp (fillsNumberSlot (.type T) nm) r := Looks.of_pure slot
  have q5 : Looks (model prog w) hp (isSubtype (.type T) (.ref C)) false := looks_subIn KX nosub
  have q6 : Looks (model prog w) hp (numberSlotInPython (.ref C) nm) true := ksp_inPy KX me mr mp
  have q7 : Looks (model prog w) hp (numberSlotInPython (.type T) nm) false := Looks.of_pure rfl
  have q8 : Looks (model prog w) hp (typeLookup (.type T) (dunderR nm)) back := Looks.of_pure their
  have ne : (Value.ref C == Value.type T) = false := by rw [beq_eq_false_iff_ne]; intro z; cases z
  unfold binaryOp
  rw [e]
  dsimp only
  refine wpAny_holding (wpAny_bind ?_)
  unfold binaryOp1
  refine wpAny_bind (q1.at (wpAny_bind (tb.at (wpAny_bind (q3.at ?_)))))
  rw [ne]
  simp only [Bool.false_eq_true, if_false]
  cases r
  · ksp_lk
    refine wpAny_mono did (fun u s' z => ?_) fun _ _ z => z
    obtain ⟨v, rfl, hv⟩ := z
    ksp_lk
    exact hv
  · ksp_lk
    refine wpAny_mono did (fun u s' z => ?_) fun _ _ z => z
    obtain ⟨v, rfl, hv⟩ := z
    ksp_lk
    exact hv
open PySem.W in
/-- built-in op own: the built-in's own slot stands off, the class's reflected method takes them -/
theorem own_right {op : Operator} {a : Value} {l : Bool} {Q : Value → Shared → Prop} (KX : K.In s.heap) (J : InstAt s.heap x ox C od) (ta : ∀ s' : Shared, (∀ b o, s.heap.get? b = some o → s'.heap.get? b = some o) → Looks (model prog w) s'.heap (typeOf a) (.type T)) (one : selfFirst K C = true)
    (mr : findIn K (.ref C) (dunderR op.info.2) = some (some (.ref f))) (fn : isFn K (.ref f) = true) (fills : ∀ h : Heap, K.In h → Looks (model prog w) h (fillsNumberSlot (.ref C) op.info.2) true)
    (slot : fillsNumberSlot (.type T) op.info.2 = pure l) (nosub : subIn K (.ref C) (.type T) = some false)
    (off : l = true → ∀ {R : Option Value → Shared → Prop} {s' : Shared}, (∀ b o, s.heap.get? b = some o → s'.heap.get? b = some o) → (∀ t : Tok, R none { s' with toks := t }) → wpAny (model prog w) A (tryMethod a (PySem.dunder op.info.2) (.ref x)) R E s')
    (go : ∀ t : Tok, wpAny (model prog w) A (call (.ref f) [.ref x, a]) (PySem.W.CmpBack Q) E { s with toks := t }) : wpAny (model prog w) A (binaryOp op a (.ref x)) Q E s := by
  obtain ⟨sy, nm, e⟩ : ∃ sy nm, op.info = (sy, nm) := ⟨_, _, rfl⟩
  rw [e] at mr slot fills off
  have did : ∀ t : Tok, wpAny (model prog w) A (tryMethod (.ref x) (dunderR nm) a) (fun u s' => ∃ v, u = some v ∧ Q v s') E { s with toks := t } := fun t => ksp_try (s := { s with toks := t }) KX J mr fn (go t)
  have here := ta s fun _ _ z => z
  have q3 := fills s.heap KX
  obtain ⟨hp, gs, dr, tk, os⟩ := s
  have q1 : Looks (model prog w) hp (typeOf (.ref x)) (.ref C) := J.type
  have q2 : Looks (model prog w) hp (typeOf a) (.type T) := here
  have q4 : Looks (model prog w) hp (fillsNumberSlot (.type T) nm) l := Looks.of_pure slot
  have q5 : Looks (model prog w) hp (isSubtype (.ref C) (.type T)) false := looks_subIn KX nosub
  have q6 : Looks (model prog w) hp (fillsNumberSlot (.ref C) nm) true := q3
  have q7 : Looks (model prog w) hp (numberSlotInPython (.type T) nm) false := Looks.of_pure rfl
  have ne : (Value.type T == Value.ref C) = false := by rw [beq_eq_false_iff_ne]; intro z; cases z
  unfold binaryOp
  rw [e]
  dsimp only
  refine wpAny_holding (wpAny_bind ?_)
  unfold binaryOp1
  refine wpAny_bind (q2.at (wpAny_bind (q1.at (wpAny_bind (q4.at ?_)))))
  rw [ne]
  simp only [Bool.false_eq_true, if_false]
  refine wpAny_bind (q6.at ?_)
  cases l
  · ksp_lk
    refine wpAny_mono (did tk) (fun u s' z => ?_) fun _ _ z => z
    obtain ⟨v, rfl, hv⟩ := z
    ksp_lk
    exact hv
  · ksp_lk
    refine off rfl (fun _ _ z => z) fun t => ?_
    ksp_lk
    refine wpAny_mono (did t) (fun u s' z => ?_) fun _ _ z => z
    obtain ⟨v, rfl, hv⟩ := z
    ksp_lk
    exact hv
end
end Own

/-! own layer, of no law: OWN4. -/
namespace Own
open PySem PySem.Spec PySem.Calls PyProof.Rows AutoSeq1
def tys : List String := ["NoneType", "bool", "int", "str", "list", "tuple", "dict"]
theorem fill_add : ∀ T ∈ tys, fillsNumberSlot (.type T) "add" = pure (T == "int" || T == "bool") := by
  intro T hT
  simp only [tys, List.mem_cons, List.not_mem_nil, or_false] at hT
  rcases hT with rfl | rfl | rfl | rfl | rfl | rfl | rfl <;> kernel_rfl
theorem fill_sub : ∀ T ∈ tys, fillsNumberSlot (.type T) "sub" = pure (T == "int" || T == "bool") := by
  intro T hT
  simp only [tys, List.mem_cons, List.not_mem_nil, or_false] at hT
  rcases hT with rfl | rfl | rfl | rfl | rfl | rfl | rfl <;> kernel_rfl
theorem fill_mul : ∀ T ∈ tys, fillsNumberSlot (.type T) "mul" = pure (T == "int" || T == "bool") := by
  intro T hT
  simp only [tys, List.mem_cons, List.not_mem_nil, or_false] at hT
  rcases hT with rfl | rfl | rfl | rfl | rfl | rfl | rfl <;> kernel_rfl
theorem refl_add : ∀ T ∈ tys, typeLookup (.type T) (dunderR "add") = pure (if (T == "int" || T == "bool") = true then some (.builtin "int.__radd__") else none) := by
  intro T hT
  simp only [tys, List.mem_cons, List.not_mem_nil, or_false] at hT
  rcases hT with rfl | rfl | rfl | rfl | rfl | rfl | rfl <;> (rw [typeLookup_type, builtinLookup_eq_fast]; kernel_rfl)
theorem refl_sub : ∀ T ∈ tys, typeLookup (.type T) (dunderR "sub") = pure (if (T == "int" || T == "bool") = true then some (.builtin "int.__rsub__") else none) := by
  intro T hT
  simp only [tys, List.mem_cons, List.not_mem_nil, or_false] at hT
  rcases hT with rfl | rfl | rfl | rfl | rfl | rfl | rfl <;> (rw [typeLookup_type, builtinLookup_eq_fast]; kernel_rfl)
theorem refl_mul : ∀ T ∈ tys, typeLookup (.type T) (dunderR "mul") = pure (if (T == "int" || T == "bool") = true then some (.builtin "int.__rmul__") else if T == "str" then some (.builtin "str.__rmul__") else if T == "list" then some (.builtin "list.__rmul__") else if T == "tuple" then some (.builtin "tuple.__rmul__") else none) := by
  intro T hT
  simp only [tys, List.mem_cons, List.not_mem_nil, or_false] at hT
  rcases hT with rfl | rfl | rfl | rfl | rfl | rfl | rfl <;> (rw [typeLookup_type, builtinLookup_eq_fast]; kernel_rfl)
/-- an int's own slot stands off an object that is no int -/
theorem off_meets {nm : String} {x : Addr} {v : Value} {i : Int} {g : Int → Int → Sem Fin} (hv : (∃ t, v = .int i t) ∨ ∃ b, v = .bool b) : Meets (Builtin.Int.intBinary nm g false ⟨[v, .ref x], []⟩) (fun _ R s => ∃ o, s.heap.get? x = some o ∧ o.data = .plain ∧ R (.ok (.ret .notImplemented)) s) := by
  intro prog w A R s h
  obtain ⟨o, e, d, q⟩ := h
  obtain ⟨hp, gs, dr, tk, os⟩ := s
  rcases hv with ⟨t, rfl⟩ | ⟨b, rfl⟩
  · unfold Builtin.Int.intBinary
    wp_walk using wpAny_loadPart' e
    rw [d]
    exact wpAny_pure (wpAny_bind (wpAny_rule (wpAny_pure q)))
  · unfold Builtin.Int.intBinary
    wp_walk using wpAny_loadPart' e
    rw [d]
    exact wpAny_pure (wpAny_bind (wpAny_rule (wpAny_pure q)))
section
variable {prog : Program} {w : World} {A : Around} {E : Value → Shared → Prop} {s : Shared} {x : Addr} {o : Obj} {v : Value} {i : Int}
/-- .. so its method gives none -/
theorem off_try {T id : String} {nm : String} {nb : String} {g : Int → Int → Sem PySem.Fin} {R : Option Value → Shared → Prop} (hv : (∃ t, v = .int i t) ∨ ∃ b, v = .bool b) (ho : s.heap.get? x = some o) (hd : o.data = .plain) (hT : s.TypeIs v T) (slot : Slot T (dunder nm) id)
    (entry : entryFor table id = some (Builtin.Int.intBinary nb g false)) (args : argsOk id ⟨[v, .ref x], []⟩) (h : R none s) : wpAny (model prog w) A (tryMethod v (dunder nm) (.ref x)) R E s := by
  unfold tryMethod
  exact wpAny_bind (wpAny_callSpecial?_slot hT slot (call_meets slot hT entry args (off_meets hv) ⟨o, ho, hd, wpAny_pure h⟩))
theorem off_add {R : Option Value → Shared → Prop} (ho : s.heap.get? x = some o) (hd : o.data = .plain) (h : R none s) : (∀ t, v = .int i t → wpAny (model prog w) A (tryMethod v (dunder "add") (.ref x)) R E s) ∧ (∀ b, v = .bool b → wpAny (model prog w) A (tryMethod v (dunder "add") (.ref x)) R E s) := by
  refine ⟨fun t e => ?_, fun b e => ?_⟩
  · exact off_try (T := "int") (i := i) (.inl ⟨t, e⟩) ho hd (by rw [e]; exact rfl) F.slot_int_add F.entry_int_add (F.args_int_add_2 _ _) h
  · exact off_try (T := "bool") (i := i) (.inr ⟨b, e⟩) ho hd (by rw [e]; exact rfl) F.slot_bool_add F.entry_int_add (F.args_int_add_2 _ _) h
end
end Own

/-! own layer, of no law: OWN5: rules for an own class's operators with what is handed in. -/
namespace Own
open PySem PySem.Spec PyProof.Rows L2 LamX NdefX
/-- what an operator's built-in slots say -/
structure OpB (op : Operator) : Prop where
  fill : ∀ T ∈ tys, fillsNumberSlot (.type T) op.info.2 = pure (T == "int" || T == "bool")
  back : ∀ T ∈ tys, ∃ r, typeLookup (.type T) (dunderR op.info.2) = pure r
  off : ∀ {prog : Program} {w : World} {A : Around} {E : Value → Shared → Prop} {s : Shared} {x : Addr} {o : Obj} {v : Value} {i : Int} {R : Option Value → Shared → Prop}, s.heap.get? x = some o → o.data = .plain → ((∃ t, v = .int i t) ∨ ∃ b, v = .bool b) → R none s →
    wpAny (model prog w) A (tryMethod v (PySem.dunder op.info.2) (.ref x)) R E s
theorem opb_add : OpB .Add := ⟨fill_add, fun T h => ⟨_, refl_add T h⟩, fun {prog w A E s x o v i R} ho hd hv h => by
  rcases hv with ⟨t, e⟩ | ⟨b, e⟩
  · exact off_try (T := "int") (i := i) (.inl ⟨t, e⟩) ho hd (by rw [e]; exact rfl) F.slot_int_add F.entry_int_add (F.args_int_add_2 _ _) h
  · exact off_try (T := "bool") (i := i) (.inr ⟨b, e⟩) ho hd (by rw [e]; exact rfl) F.slot_bool_add F.entry_int_add (F.args_int_add_2 _ _) h⟩
theorem opb_sub : OpB .Sub := ⟨fill_sub, fun T h => ⟨_, refl_sub T h⟩, fun {prog w A E s x o v i R} ho hd hv h => by
  rcases hv with ⟨t, e⟩ | ⟨b, e⟩
  · exact off_try (T := "int") (i := i) (.inl ⟨t, e⟩) ho hd (by rw [e]; exact rfl) F.slot_int_sub F.entry_int_sub (F.args_int_sub_2 _ _) h
  · exact off_try (T := "bool") (i := i) (.inr ⟨b, e⟩) ho hd (by rw [e]; exact rfl) F.slot_bool_sub F.entry_int_sub (F.args_int_sub_2 _ _) h⟩
theorem opb_mul : OpB .Mult := ⟨fill_mul, fun T h => ⟨_, refl_mul T h⟩, fun {prog w A E s x o v i R} ho hd hv h => by
  rcases hv with ⟨t, e⟩ | ⟨b, e⟩
  · exact off_try (T := "int") (i := i) (.inl ⟨t, e⟩) ho hd (by rw [e]; exact rfl) F.slot_int_mul F.entry_int_mul (F.args_int_mul_2 _ _) h
  · exact off_try (T := "bool") (i := i) (.inr ⟨b, e⟩) ho hd (by rw [e]; exact rfl) F.slot_bool_mul F.entry_int_mul (F.args_int_mul_2 _ _) h⟩
section
variable {X : Cx} {pins : List (Addr × Obj)} {σ : L2.St} {H : Hp} {s : Shared}
/-- of which built-in type a thing is -/
theorem thing_ty {x : V} {v : Value} (I : Inv X pins σ H s) (t : Thing H x) (r : RelV x v) : ∃ T ∈ tys, PySem.W.Looks (model X.prog X.w) s.heap (typeOf v) (.type T) ∧ ((T == "int" || T == "bool") = true → ∃ i : Int, (∃ t, v = .int i t) ∨ ∃ b, v = .bool b) := by
  cases t with
  | non =>
    obtain rfl : v = .none := r
    exact ⟨"NoneType", by simp [tys], .of_pure rfl, fun z => absurd z (by decide)⟩
  | bl b =>
    obtain rfl : v = .bool b := r
    exact ⟨"bool", by simp [tys], .of_pure rfl, fun _ => ⟨0, .inr ⟨b, rfl⟩⟩⟩
  | int i =>
    obtain ⟨t, rfl⟩ := r
    exact ⟨"int", by simp [tys], .of_pure rfl, fun _ => ⟨i, .inl ⟨t, rfl⟩⟩⟩
  | str z =>
    obtain ⟨t, rfl⟩ := r
    exact ⟨"str", by simp [tys], .of_pure rfl, fun z => absurd z (by decide)⟩
  | @lst a xs e =>
    obtain rfl : v = .ref a := r
    obtain ⟨_, its, n, _, ho⟩ := I.hok a _ e
    exact ⟨"list", by simp [tys], fun A Q E s' k q => wpAny_typeOf_ref (k _ _ ho) q, fun z => absurd z (by decide)⟩
  | @tup a xs e =>
    obtain rfl : v = .ref a := r
    obtain ⟨_, its, _, o, ho, hc, _⟩ := I.hok a _ e
    exact ⟨"tuple", by simp [tys], fun A Q E s' k q => wpAny_typeOf_ref (k _ _ ho) (by rw [hc]; exact q), fun z => absurd z (by decide)⟩
  | @dct a kvs e =>
    obtain rfl : v = .ref a := r
    obtain ⟨_, _, vs, _, o, es, ep, ho, hc, _⟩ := I.hok a _ e
    exact ⟨"dict", by simp [tys], fun A Q E s' k q => wpAny_typeOf_ref (k _ _ ho) (by rw [hc.1]; exact q), fun z => absurd z (by decide)⟩
variable {CX : CXT} {n : Nat} {C f g : Addr} {fd : FuncData} {ps : List Str} {sp : Sp} {E : XK} {op : Operator}
/-- own op thing -/
theorem op_ownL (B : OpB op) (F : FnOk X.prog X.w X.K X.mg X.base CX n f fd ps sp) (hr : Room n X.A) (hc : PySem.W.selfFirst X.K C = true) (hs : PySem.W.findIn X.K (.ref C) (PySem.dunder op.info.2) = some (some (.ref f))) (hf : PySem.W.isFn X.K (.ref f) = true)
    (hm : PySem.W.findIn X.K (.ref C) (dunderR op.info.2) = some (some (.ref g))) (hsub : ∀ T ∈ tys, PySem.W.subIn X.K (.type T) (.ref C) = some false) (hb : Binds X.K fd ps []) (hx : Passes CX X E) :
    OpR X (binaryOp op) (fun x y H Q => ∃ a dx fs, x = V.ref a ∧ H a = some (.ins C dx fs) ∧ Thing H y ∧ sp [.ref a, y] H Q E) := by
  intro pins s σ H x y v u Q I rx ry h
  obtain ⟨a, dx, fs, rfl, ha, ty, q⟩ := h
  cases rx
  obtain ⟨mA, J, _⟩ := ins_get I.hok ha
  obtain ⟨od, J, _⟩ := J.look
  obtain ⟨T, hT, lk, _⟩ := thing_ty I ty ry
  obtain ⟨r, hbk⟩ := B.back T hT
  exact own_left I.kIn J lk hc hs hf hm (.inr ⟨g, rfl⟩) (B.fill T hT) hbk (hsub T hT) (back_of (run_fn F hr hb .nil hx I (.cons (show L2.RelV (V.ref a) (Value.ref a) from rfl) (.cons ry .nil)) q))
/-- thing op own -/
theorem op_ownR (B : OpB op) (F : FnOk X.prog X.w X.K X.mg X.base CX n f fd ps sp) (hr : Room n X.A) (hc : PySem.W.selfFirst X.K C = true) (hs : PySem.W.findIn X.K (.ref C) (PySem.dunder op.info.2) = some (some (.ref g))) (hf : PySem.W.isFn X.K (.ref f) = true)
    (hm : PySem.W.findIn X.K (.ref C) (dunderR op.info.2) = some (some (.ref f))) (hsub : ∀ T ∈ tys, PySem.W.subIn X.K (.ref C) (.type T) = some false) (hb : Binds X.K fd ps []) (hx : Passes CX X E) :
    OpR X (binaryOp op) (fun x y H Q => ∃ b dy fs, y = V.ref b ∧ H b = some (.ins C dy fs) ∧ Thing H x ∧ sp [.ref b, x] H Q E) := by
  intro pins s σ H x y v u Q I rx ry h
  obtain ⟨b, dy, fs, rfl, hb', tx, q⟩ := h
  cases ry
  obtain ⟨mB, J, _⟩ := ins_get I.hok hb'
  obtain ⟨od, J, _⟩ := J.look
  obtain ⟨T, hT, lk, num⟩ := thing_ty I tx rx
  obtain ⟨cd, tl, c1, c2⟩ := PySem.W.ksp_first hc
  refine own_right I.kIn J (fun s' k => lk.keeps k) hc hm hf (fun h K' => PySem.W.fills_K K' c1 c2 hs) (B.fill T hT) (hsub T hT) (fun z R s' k hR => ?_) fun t => ?_
  · obtain ⟨i, hi⟩ := num z
    obtain ⟨_, _, _, ho, _⟩ := I.hok b _ hb'
    exact B.off (k _ _ ho) rfl hi (hR s'.toks)
  · exact back_of (run_fn F hr hb .nil hx (I.tok t) (.cons (show L2.RelV (V.ref b) (Value.ref b) from rfl) (.cons rx .nil)) q)
end
end Own

/-! own layer, of no law: OWN6: == and abs of an own class. -/
namespace Own
open PySem PySem.Spec PyProof.Rows L2 LamX NdefX
section
variable {X : Cx} {pins : List (Addr × Obj)} {σ : L2.St} {H : Hp} {s : Shared}
variable {CX : CXT} {n : Nat} {C f : Addr} {fd : FuncData} {ps : List Str} {sp : Sp} {E : XK}
/-- own == anything -/
theorem op_ownEq (F : FnOk X.prog X.w X.K X.mg X.base CX n f fd ps sp) (hr : Room n X.A) (hs : PySem.W.findIn X.K (.ref C) "__eq__" = some (some (.ref f))) (hf : PySem.W.isFn X.K (.ref f) = true) (hsub : ∀ T ∈ tys, PySem.W.subIn X.K (.type T) (.ref C) = some false) (hb : Binds X.K fd ps []) (hx : Passes CX X E) :
    OpR X (compareOp .Eq) (fun x y H Q => ∃ a dx fs, x = V.ref a ∧ H a = some (.ins C dx fs) ∧ ((∃ b dy gs, y = V.ref b ∧ H b = some (.ins C dy gs)) ∨ Thing H y) ∧ sp [.ref a, y] H Q E) := by
  intro pins s σ H x y v u Q I rx ry h
  obtain ⟨a, dx, fs, rfl, ha, ty, q⟩ := h
  cases rx
  obtain ⟨mA, J, _⟩ := ins_get I.hok ha
  obtain ⟨od, J, _⟩ := J.look
  obtain ⟨m, hF⟩ := I.fr
  have un : X.A.units < cLine := by
    have := hr.units
    omega
  show wpAny (model X.prog X.w) X.A (richCompare .Eq (.ref a) u) (EP X pins σ Q) X.xe s
  have call := back_of (run_fn F hr hb .nil hx I (.cons (show L2.RelV (V.ref a) (Value.ref a) from rfl) (.cons ry .nil)) q)
  rcases ty with ⟨b, dy, gs, rfl, hb'⟩ | ty
  · cases ry
    obtain ⟨mB, J', _⟩ := ins_get I.hok hb'
    obtain ⟨od', J', _⟩ := J'.look
    exact PySem.W.cmp_K (op := .Eq) (tb := .ref C) un hF I.ok.mod.kin J J'.type (by simp [PySem.W.notFirst]) hs hf call
  · obtain ⟨T, hT, lk, _⟩ := thing_ty I ty ry
    exact PySem.W.cmp_K (op := .Eq) (tb := .type T) un hF I.ok.mod.kin J lk (by unfold PySem.W.notFirst; rw [hsub T hT]; simp) hs hf call
/-- abs(own) -/
theorem call_absOwn (F : FnOk X.prog X.w X.K X.mg X.base CX n f fd ps sp) (hr : Room (n + 1) X.A) (hs : PySem.W.findIn X.K (.ref C) "__abs__" = some (some (.ref f))) (hf : PySem.W.isFn X.K (.ref f) = true) (hb : Binds X.K fd ps []) (hx : Passes CX X E) :
    CallR X (.builtin "abs") (fun xs H Q => ∃ a dx fs, xs = [V.ref a] ∧ H a = some (.ins C dx fs) ∧ sp [.ref a] H Q E) := by
  intro pins s σ H xs us Q I rs h
  obtain ⟨a, dx, fs, rfl, ha, q⟩ := h
  obtain ⟨u, rfl, rx⟩ := vals1 rs
  cases rx
  obtain ⟨mA, J, _⟩ := ins_get I.hok ha
  obtain ⟨od, J, _⟩ := J.look
  have A1 : Room n X.A.in1 := hr.in1
  refine PySem.Calls.call_function_entry kind_abs plain_abs entry_abs (args_abs _) ?_
  unfold Builtin.«abs»
  refine wpAny_bind (m := oneArg "abs" _) (wpAny_pure ?_)
  refine wpAny_bind (m := callSpecial? (.ref a) (Str.ofString "__abs__")) (PySem.W.special_fn I.kIn J hs (beq_iff_eq.mp hf) ?_)
  have e0 : Env0 X.prog X.w X.K X.mg X.base X.A.in1 X.stack s H := by
    have e := I.env0
    exact ⟨e.frames, e.mod, e.bs, e.bsz, e.funs, e.frf, e.hok, e.bare⟩
  have r1 : Vals [V.ref a] [Value.ref a] := .cons (show L2.RelV (V.ref a) (Value.ref a) from rfl) .nil
  have hl := F.len _ _ _ _ q
  refine wpAny_call (codeAny_mono (F.run X.A.in1 X.stack s H ⟨[.ref a], []⟩ [.ref a] [.ref a] Q E A1 e0 (by
    have z := hb s [.ref a] I.kIn (by simpa using hl)
    simpa using z) r1 q) fun r s' hq => ?_)
  cases r with
  | error e => exact hx pins σ H s e s' I hq
  | ok fl =>
    cases fl with
    | ret w => exact wpAny_pure ⟨_, rfl, I.after hq⟩
    | next => exact False.elim hq
    | brk => exact False.elim hq
    | cont => exact False.elim hq
end
end Own

/-! own layer, of no law: OWN7: != of an own class that has == alone. -/
namespace Own
open PySem PySem.Spec PySem.Calls PyProof.Rows
section
variable {prog : Program} {w : World} {A : Around} {E : Value → Shared → Prop} {s : Shared} {K : PySem.W.Frag} {x C f : Addr} {ox : Obj} {od : Option Obj}
open PySem.W in
theorem ne_body {b : Value} {Q : Fin → Shared → Prop} (un : A.units < cLine) (KX : K.In s.heap) (J : InstAt s.heap x ox C od) (eq : findIn K (.ref C) "__eq__" = some (some (.ref f))) (fn : isFn K (.ref f) = true)
    (go : wpAny (model prog w) A (call (.ref f) [.ref x, b]) (fun v s' => ∃ c, v = .bool c ∧ Q (.done (.ret (.bool (!c)))) s') E s) : wpAny (model prog w) A (Builtin.«object.__ne__» ⟨[.ref x, b], []⟩) Q E s := by
  unfold Builtin.«object.__ne__»
  refine wpAny_bind (m := slotArgs "__ne__" 1 _) (wpAny_pure ?_)
  dsimp only
  refine wpAny_bind (wpAny_cRoomFor un ?_)
  refine wpAny_bind (m := callSpecialIfBound? (.ref x) (Str.ofString "__eq__") [b]) (ifBound_K KX J eq fn (wpAny_mono go (fun v s' z => ?_) fun _ _ e => e))
  obtain ⟨c, rfl, q⟩ := z
  exact wpAny_bind (wpAny_truthy_bool (wpAny_pure q))
theorem ne_args (a b : Value) : argsOk "object.__ne__" ⟨[a, b], []⟩ := F.cmpArgs_ne a b
theorem ne_bind (self : Value) : bindSpecial (.builtin "object.__ne__") self = pure (.builtin "object.__ne__", [self]) :=
  (Slot.of (T := "object") (name := "__ne__") (owner := "object") (n := "__ne__") (by rw [typeLookup_type, builtinLookup_eq_fast]; kernel_rfl) (by decide +kernel) (by decide +kernel) (by decide +kernel) (.inl (by decide +kernel)) (by rw [isSubtype_type]; kernel_rfl)).bind self
open PySem.W in
theorem ne_try {b : Value} {Q : Option Value → Shared → Prop} (un : A.units + 1 < cLine) (KX : K.In s.heap) (J : InstAt s.heap x ox C od) (ne : findIn K (.ref C) "__ne__" = some (some (.builtin "object.__ne__"))) (obj : subIn K (.ref C) (.type "object") = some true) (eq : findIn K (.ref C) "__eq__" = some (some (.ref f))) (fn : isFn K (.ref f) = true)
    (go : wpAny (model prog w) A.in1 (call (.ref f) [.ref x, b]) (fun v s' => ∃ c, v = .bool c ∧ Q (some (.bool (!c))) s') E s) : wpAny (model prog w) A (tryCompare (.ref x) "__ne__" b) Q E s := by
  have isO : Looks (model prog w) s.heap (isInstance (.ref x) (.type "object")) true := J.type.andThen (looks_subIn KX obj)
  have run : wpAny (model prog w) A (call (.builtin "object.__ne__") [.ref x, b]) (fun v s' => ∃ c : Bool, v = .bool c ∧ Q (some (.bool c)) s') E s := by
    refine wpAny_call (codeAny_call_builtin (by decide +kernel) F.cmpEntry_ne (check_slot F.cmpKind_ne F.cmpSplit_ne isO (ne_args _ _) (ne_body (A := A.in1) (by exact un) KX J eq fn (wpAny_mono go (fun v s' z => ?_) fun _ _ e => e))))
    obtain ⟨c, rfl, q⟩ := z
    exact ⟨c, rfl, ⟨!c, rfl, q⟩⟩
  have fin : wpAny (model prog w) A (call (.builtin "object.__ne__") ([.ref x] ++ [b]) >>= fun v => pure (some v)) (fun r s' => ∃ c : Bool, r = some (.bool c) ∧ Q (some (.bool c)) s') E s := wpAny_bind (wpAny_mono run (fun v s' z => by
    obtain ⟨c, rfl, q⟩ := z
    exact wpAny_pure ⟨c, rfl, q⟩) fun _ _ e => e)
  have whole : wpAny (model prog w) A (callSpecialIfBound? (.ref x) "__ne__" [b]) (fun r s' => ∃ c : Bool, r = some (.bool c) ∧ Q (some (.bool c)) s') E s := by
    simp only [callSpecialIfBound?, bindSpecialIfBound?]
    refine wpAny_holding (wpAny_bind (wpAny_bind (wpAny_bind (J.type.here ((looks_findIn KX ne).here ?_)))))
    refine wpAny_bind (wpAny_askSetting (wpAny_ite ?_))
    split
    · rw [ne_bind]
      exact wpAny_bind (wpAny_pure (wpAny_pure fin))
    · rw [ne_bind]
      exact wpAny_tryCatch (wpAny_bind (wpAny_pure (wpAny_pure fin)))
  unfold tryCompare
  refine wpAny_bind (wpAny_mono whole (fun r s' z => ?_) fun _ _ e => e)
  obtain ⟨c, rfl, q⟩ := z
  exact wpAny_pure q
open PySem.W in
/-- own != b -/
theorem own_ne {b tb : Value} {Q : Value → Shared → Prop} (un : A.units + 1 < cLine) (KX : K.In s.heap) (J : InstAt s.heap x ox C od) (lk : Looks (model prog w) s.heap (typeOf b) tb) (nf : notFirst K C tb = true) (ne : findIn K (.ref C) "__ne__" = some (some (.builtin "object.__ne__"))) (obj : subIn K (.ref C) (.type "object") = some true)
    (eq : findIn K (.ref C) "__eq__" = some (some (.ref f))) (fn : isFn K (.ref f) = true) (go : wpAny (model prog w) A.in1 (call (.ref f) [.ref x, b]) (fun v s' => ∃ c, v = .bool c ∧ Q (.bool (!c)) s') E s) : wpAny (model prog w) A (richCompare .NotEq (.ref x) b) Q E s := by
  have one : wpAny (model prog w) A (tryCompare (.ref x) "__ne__" b) (fun r s' => ∃ v, r = some v ∧ Q v s') E s := ne_try un KX J ne obj eq fn (wpAny_mono go (fun v s' z => by
    obtain ⟨c, rfl, q⟩ := z
    exact ⟨c, rfl, _, rfl, q⟩) fun _ _ e => e)
  unfold richCompare
  simp only [oneThing_ref]
  refine wpAny_holding (wpAny_bind (wpAny_cRoomFor (Nat.lt_of_succ_lt un) ?_))
  refine wpAny_bind (J.type.here (wpAny_bind (lk.here ?_)))
  split
  · rename_i hd
    have sb : subIn K tb (.ref C) = some false := by
      unfold notFirst at nf
      rcases Bool.or_eq_true_iff.mp nf with z | z
      · rw [beq_iff_eq.mp z] at hd
        simp at hd
      · exact beq_iff_eq.mp z
    refine wpAny_bind ((looks_subIn KX sb).here ?_)
    rw [if_neg Bool.false_ne_true]
    refine wpAny_bind (wpAny_mono one (fun r s' z => ?_) fun _ _ z => z)
    obtain ⟨v, rfl, hv⟩ := z
    exact wpAny_pure hv
  · refine wpAny_bind (wpAny_pure ?_)
    rw [if_neg Bool.false_ne_true]
    refine wpAny_bind (wpAny_mono one (fun r s' z => ?_) fun _ _ z => z)
    obtain ⟨v, rfl, hv⟩ := z
    exact wpAny_pure hv
end
end Own

/-! own layer, of no law: OWN8: the rule of !=. -/
namespace Own
open PySem PySem.Spec PyProof.Rows L2 LamX NdefX
section
variable {X : Cx} {pins : List (Addr × Obj)} {σ : L2.St} {H : Hp} {s : Shared}
variable {CX : CXT} {n : Nat} {C f : Addr} {fd : FuncData} {ps : List Str} {sp : Sp} {E : XK}
/-- a def's run one call deeper -/
theorem run_in1 {us : List Value} {vs : List V} {Q : VK} {R : Value → Shared → Prop} (F : FnOk X.prog X.w X.K X.mg X.base CX n f fd ps sp) (hr : Room (n + 1) X.A) (hb : Binds X.K fd ps []) (hx : Passes CX X E) (I : Inv X pins σ H s) (r : Vals vs us) (q : sp vs H Q E)
    (k : ∀ v s', EP X pins σ Q v s' → R v s') : wpAny (model X.prog X.w) X.A.in1 (call (.ref f) us) R X.xe s := by
  have e0 : Env0 X.prog X.w X.K X.mg X.base X.A.in1 X.stack s H := by
    have e := I.env0
    exact ⟨e.frames, e.mod, e.bs, e.bsz, e.funs, e.frf, e.hok, e.bare⟩
  have hl := F.len _ _ _ _ q
  have bt : BindsTo s fd ⟨us, []⟩ (ps.zip us) := by
    have z := hb s us I.kIn (by rw [List.append_nil, ← r.length]; exact hl)
    rw [List.append_nil] at z
    exact z
  refine wpAny_call (codeAny_mono (F.run X.A.in1 X.stack s H ⟨us, []⟩ us vs Q E hr.in1 e0 bt r q) fun r s' hq => ?_)
  cases r with
  | error e => exact hx pins σ H s e s' I hq
  | ok fl =>
    cases fl with
    | ret w => exact k _ _ (I.after hq)
    | next => exact False.elim hq
    | brk => exact False.elim hq
    | cont => exact False.elim hq
/-- own != anything -/
theorem op_ownNe (F : FnOk X.prog X.w X.K X.mg X.base CX n f fd ps sp) (hr : Room (n + 1) X.A) (ne : PySem.W.findIn X.K (.ref C) "__ne__" = some (some (.builtin "object.__ne__"))) (obj : PySem.W.subIn X.K (.ref C) (.type "object") = some true) (hs : PySem.W.findIn X.K (.ref C) "__eq__" = some (some (.ref f))) (hf : PySem.W.isFn X.K (.ref f) = true)
    (hsub : ∀ T ∈ tys, PySem.W.subIn X.K (.type T) (.ref C) = some false) (hb : Binds X.K fd ps []) (hx : Passes CX X E) :
    OpR X (compareOp .NotEq) (fun x y H Q => ∃ a dx fs, x = V.ref a ∧ H a = some (.ins C dx fs) ∧ ((∃ b dy gs, y = V.ref b ∧ H b = some (.ins C dy gs)) ∨ Thing H y) ∧ sp [.ref a, y] H (fun v H' => ∃ c, v = .bl c ∧ Q (.bl (!c)) H') E) := by
  intro pins s σ H x y v u Q I rx ry h
  obtain ⟨a, dx, fs, rfl, ha, ty, q⟩ := h
  cases rx
  obtain ⟨mA, J, _⟩ := ins_get I.hok ha
  obtain ⟨od, J, _⟩ := J.look
  have un : X.A.units + 1 < cLine := by
    have := hr.un
    omega
  show wpAny (model X.prog X.w) X.A (richCompare .NotEq (.ref a) u) (EP X pins σ Q) X.xe s
  have go : wpAny (model X.prog X.w) X.A.in1 (call (.ref f) [.ref a, u]) (fun v s' => ∃ c, v = .bool c ∧ EP X pins σ Q (.bool (!c)) s') X.xe s := run_in1 F hr hb hx I (.cons (show L2.RelV (V.ref a) (Value.ref a) from rfl) (.cons ry .nil)) q fun v s' z => by
    obtain ⟨z, H', I', rz, c, rfl, q'⟩ := z
    obtain rfl : v = .bool c := rz
    exact ⟨c, rfl, .bl (!c), H', I', rfl, q'⟩
  rcases ty with ⟨b, dy, gs, rfl, hb'⟩ | ty
  · cases ry
    obtain ⟨mB, J', _⟩ := ins_get I.hok hb'
    obtain ⟨od', J', _⟩ := J'.look
    exact own_ne un I.kIn J J'.type (by simp [PySem.W.notFirst]) ne obj hs hf go
  · obtain ⟨T, hT, lk, _⟩ := thing_ty I ty ry
    exact own_ne un I.kIn J lk (by unfold PySem.W.notFirst; rw [hsub T hT]; simp) ne obj hs hf go
end
end Own

/-! k05: the program's checks, powers of ten. -/
namespace K05
open PySem PySem.Spec PyProof.Rows L2 LamX NdefX Own
abbrev pInt : Stmt := topS 7
abbrev pWhole : Stmt := topS 8
abbrev pNInt : Stmt := topS 9
abbrev pNWhole : Stmt := topS 10
abbrev pTenTo : Stmt := topS 11
section
variable {P : Program} {w : World} {K : PySem.W.Frag} {mg : Str → Option Value} {base : Heap} {C aT : Addr}
theorem scpInt : FnScope ["value"] ["value"] (defScope pInt) := ⟨rfl, rfl, rfl, by decide +kernel, rfl, by decide +kernel, by decide +kernel⟩
def spIsInt : Sp := fun vs H Q _ => ∃ x : V, vs = [x] ∧ Thing H x ∧ Q (.bl (Own.isInt x)) H
theorem ok_isInt (A : At K mg "is_an_integer" pInt ["value"]) (T : Blt mg) : DefOk P w K mg base CX0 "is_an_integer" 1 ["value"] spIsInt := by
  refine A.ok fun f fd F => F.ok scpInt (fun vs H Q E h => ?_) (fun cdv A outer s H vs Q E hr h => ?_)
  · obtain ⟨x, rfl, _⟩ := h
    rfl
  · obtain ⟨x, rfl, th, q⟩ := h
    refine ⟨_, pss_one (ps_ret (pe_and (pe_callB call_isi (by rfl) T.isi (by decide +kernel) (pa_cons (pv 0) (pa_cons (pe_bltn (v := .ty "int") (by rfl) T.int (by decide +kernel) rfl) pa_nil)))
      (pe_one (pe_not (pe_callB call_isi (by rfl) T.isi (by decide +kernel) (pa_cons (pv 0) (pa_cons (pe_bltn (v := .ty "bool") (by rfl) T.bool (by decide +kernel) rfl) pa_nil))))))), ?_⟩
    obtain ⟨t, ht, h1, h2⟩ := th.isi (K := K)
    have hb : isBl x = true → Own.isInt x = false := by cases x <;> simp [Own.isInt, isBl]
    refine ⟨_, rfl, x, .ty "int", t, _, _, rfl, .ty _, ht, h1, _, rfl, ite2 (fun e => ?_) (fun e => ?_)⟩
    · refine ⟨_, rfl, x, .ty "bool", t, _, _, rfl, .ty _, ht, h2, _, rfl, ?_⟩
      have z : (!isBl x) = Own.isInt x := by cases e1 : Own.isInt x <;> cases e2 : isBl x <;> simp_all
      rw [z]
      exact q
    · have z : false = Own.isInt x := by cases e1 : Own.isInt x <;> cases e2 : isBl x <;> simp_all
      rw [z]
      exact q
/-- an integer from 0 on -/
def isWh : V → Bool
  | .int i => decide (0 ≤ i)
  | _ => false
theorem scpWhole : FnScope ["value"] ["value"] (defScope pWhole) := ⟨rfl, rfl, rfl, by decide +kernel, rfl, by decide +kernel, by decide +kernel⟩
def spIsWh : Sp := fun vs H Q _ => ∃ x : V, vs = [x] ∧ Thing H x ∧ Q (.bl (isWh x)) H
theorem ok_isWh (A : At K mg "is_whole_number" pWhole ["value"]) (D : DefOk P w K mg base CX0 "is_an_integer" 1 ["value"] spIsInt) : DefOk P w K mg base CX0 "is_whole_number" 2 ["value"] spIsWh := by
  refine A.ok fun f fd F => F.ok scpWhole (fun vs H Q E h => ?_) (fun cdv A outer s H vs Q E hr h => ?_)
  · obtain ⟨x, rfl, _⟩ := h
    rfl
  · obtain ⟨x, rfl, th, q⟩ := h
    refine ⟨_, pss_one (ps_ret (pe_and (pe_def D hr (by decide) (by rfl) pass0 (pa_cons (pv 0) pa_nil)) (pe_one (pe_cmpR op_ge (pv 0) pe_int (nomark _))))), ?_⟩
    refine ⟨_, rfl, x, rfl, th, _, rfl, ite2 (fun e => ?_) (fun e => ?_)⟩
    · cases x <;> first | (exact ⟨_, rfl, _, _, rfl, rfl, q⟩) | (simp [Own.isInt] at e)
    · have z : isWh x = false := by cases x <;> first | rfl | (simp [Own.isInt] at e)
      rw [z] at q
      exact q
theorem scpNInt : FnScope ["value"] ["value"] (defScope pNInt) := ⟨rfl, rfl, rfl, by decide +kernel, rfl, by decide +kernel, by decide +kernel⟩
def spNInt (C : Addr) : Sp := fun vs H Q E => ∃ x : V, vs = [x] ∧ Thing H x ∧ (Own.isInt x = true → Q .non H) ∧ (Own.isInt x = false → Bad C "value" x H E)
theorem ok_nInt (A : At K mg "need_integer" pNInt ["value"]) (T : ErrC P w K mg base "BadValue" "value" 1 C (spErr C "value")) (D : DefOk P w K mg base CX0 "is_an_integer" 1 ["value"] spIsInt) : DefOk P w K mg base (L2.CX P w) "need_integer" 3 ["value"] (spNInt C) := by
  refine A.ok fun f fd F => F.okX scpNInt (fun vs H Q E h => ?_) (fun cdv A outer s H vs Q E hr h => ?_)
  · obtain ⟨x, rfl, _⟩ := h
    rfl
  · obtain ⟨x, rfl, th, q1, q2⟩ := h
    refine ⟨_, pss_one (ps_if (pt_not (pt_val (pe_def D hr (by decide) (by rfl) pass0 (pa_cons (pv 0) pa_nil)))) (pss_one (ps_raise rfl (takes_of rfl rfl rfl rfl) (pmk_err T hr (by decide) (by rfl) (pv 0)))) pss_nil), ?_⟩
    refine ⟨_, rfl, x, rfl, th, _, rfl, ite2 (fun e => ?_) (fun e => ?_)⟩
    · exact ⟨_, rfl, bad_mk (q2 (by simpa using e))⟩
    · exact q1 (by simpa using e)
theorem scpNWh : FnScope ["value"] ["value"] (defScope pNWhole) := ⟨rfl, rfl, rfl, by decide +kernel, rfl, by decide +kernel, by decide +kernel⟩
def spNWh (C : Addr) : Sp := fun vs H Q E => ∃ x : V, vs = [x] ∧ Thing H x ∧ (isWh x = true → Q .non H) ∧ (isWh x = false → Bad C "value" x H E)
theorem ok_nWh (A : At K mg "need_whole_number" pNWhole ["value"]) (T : ErrC P w K mg base "BadValue" "value" 1 C (spErr C "value")) (D : DefOk P w K mg base CX0 "is_whole_number" 2 ["value"] spIsWh) : DefOk P w K mg base (L2.CX P w) "need_whole_number" 3 ["value"] (spNWh C) := by
  refine A.ok fun f fd F => F.okX scpNWh (fun vs H Q E h => ?_) (fun cdv A outer s H vs Q E hr h => ?_)
  · obtain ⟨x, rfl, _⟩ := h
    rfl
  · obtain ⟨x, rfl, th, q1, q2⟩ := h
    refine ⟨_, pss_one (ps_if (pt_not (pt_val (pe_def D hr (by decide) (by rfl) pass0 (pa_cons (pv 0) pa_nil)))) (pss_one (ps_raise rfl (takes_of rfl rfl rfl rfl) (pmk_err T hr (by decide) (by rfl) (pv 0)))) pss_nil), ?_⟩
    refine ⟨_, rfl, x, rfl, th, _, rfl, ite2 (fun e => ?_) (fun e => ?_)⟩
    · exact ⟨_, rfl, bad_mk (q2 (by simpa using e))⟩
    · exact q1 (by simpa using e)
/-! ### ten_to: a table below sixteen, then halves -/
def tensL : List Int := (List.range 16).map fun i => (10 : Int) ^ i
theorem scTenTo : FnScope ["places", "half"] ["places"] (defScope pTenTo) := ⟨rfl, rfl, rfl, by decide +kernel, rfl, by decide +kernel, by decide +kernel⟩
def spTenTo (k : Nat) : Sp := fun vs H Q _ => ∃ n : Nat, vs = [.int n] ∧ n < 16 * 2 ^ k ∧ Q (.int ((10 : Int) ^ n)) H
theorem bot_of {x : Str} {st : Stmt} {ps : List Str} (A : At K mg x st ps) : DefOk P w K mg base CX0 x 0 ps (fun _ _ _ _ => False) :=
  A.ok fun f fd F => ⟨fun _ _ _ _ h => h.elim, fun _ _ _ _ _ _ _ _ _ _ _ _ _ h => h.elim⟩
theorem tens_at {n : Nat} (h : n < 16) : atI (tensL.map V.int) (n : Int) = some (.int ((10 : Int) ^ n)) := by
  refine atI_nat ?_
  rw [List.getElem?_map]
  unfold tensL
  rw [List.getElem?_map, List.getElem?_range h]
  rfl
theorem tens_len : ((tensL.map V.int).length : Int) = 16 := by decide +kernel
theorem tenTo_step {k N : Nat} {spD : Sp} (A : At K mg "ten_to" pTenTo ["places"]) (T : Blt mg) (gT : mg "TENS" = some (.ref aT)) (tens : ∀ H : Hp, SqT K H aT (tensL.map V.int)) (hN : N ≤ 4096) (D : DefOk P w K mg base CX0 "ten_to" k ["places"] spD)
    (h : ∀ (n : Nat) (H : Hp) (Q : VK) (E : XK), 16 ≤ n → n < N → Q (.int ((10 : Int) ^ (n / 2))) H → spD [.int ((n / 2 : Nat) : Int)] H Q E) : DefOk P w K mg base CX0 "ten_to" (k + 1) ["places"] (fun vs H Q _ => ∃ n : Nat, vs = [.int n] ∧ n < N ∧ Q (.int ((10 : Int) ^ n)) H) := by
  refine A.ok fun f fd F => F.ok scTenTo (fun vs H Q E h => ?_) (fun cdv A outer s H vs Q E hr hq => ?_)
  · obtain ⟨n, rfl, _⟩ := h
    rfl
  · obtain ⟨n, rfl, hn, q⟩ := hq
    have nd := scTenTo.nd
    refine ⟨_, pss_cons (ps_if (pt_cmpR op_lt (pv 0) (pe_callB call_len_seq (by rfl) T.len PySem.boot_len (pa_cons (pe_glob (v := .ref aT) (by rfl) gT rfl) pa_nil)) (nomark _)) (pss_one (ps_ret (pe_ix ix_tup (pe_glob (v := .ref aT) (by rfl) gT rfl) (pv 0) (fun _ _ => rfl)))) pss_nil)
      (pss_cons (ps_set (i := 1) nd rfl (.inl rfl) (pe_def (E := E0) D hr (Nat.le_refl _) (by rfl) pass0 (pa_cons (pe_op op_fdiv (pv 0) pe_int) pa_nil)))
      (pss_cons (ps_if (pt_cmpR op_eq (pe_op op_mod (pv 0) pe_int) pe_int (nomark _)) (pss_one (ps_ret (pe_op op_mulW (pe_op op_mulW (pv 1) (pv 1)) pe_int))) pss_nil)
      (pss_one (ps_ret (pe_op op_mulW (pv 1) (pv 1)))))), ?_⟩
    refine ⟨_, rfl, aT, _, rfl, .inr (tens H), _, _, rfl, rfl, _, rfl, ite2 (fun e => ?_) (fun e => ?_)⟩
    · have hl : n < 16 := by
        have z := of_decide_eq_true e
        rw [tens_len] at z
        omega
      exact ⟨_, rfl, aT, _, _, _, rfl, rfl, tens H, tens_at hl, q⟩
    · have hg : 16 ≤ n := by
        have z : ¬ ((n : Int) < ((tensL.map V.int).length : Int)) := fun z => e (decide_eq_true z)
        rw [tens_len] at z
        omega
      refine ⟨_, rfl, _, _, rfl, rfl, ⟨by decide, by decide⟩, ?_⟩
      have e2 : (n : Int) / 2 = ((n / 2 : Nat) : Int) := by omega
      dsimp only
      rw [e2]
      refine h n H _ _ hg hn ?_
      have b := ten_lt (n / 2)
      have b2 : ((10 : Int) ^ (n / 2) * (10 : Int) ^ (n / 2)).natAbs < 2 ^ (4 * (n / 2) + 1 + (4 * (n / 2) + 1)) := wide_lt b b
      refine ⟨_, rfl, _, _, rfl, rfl, (show (0 : Int) < 2 by decide), rfl, _, rfl, ite2 (fun e => ?_) (fun e => ?_)⟩
      · have ho : (n : Int) % 2 = 1 := by simpa using e
        refine ⟨_, rfl, _, rfl, _, _, rfl, rfl, wide_mul b b (by omega) (by omega) (by omega), _, _, rfl, rfl, wide_mul b2 (show ((10 : Int)).natAbs < 2 ^ 4 by decide) (by omega) (by decide) (by omega), ?_⟩
        have ex : (10 : Int) ^ (n / 2) * (10 : Int) ^ (n / 2) * 10 = (10 : Int) ^ n := by
          rw [← Int.pow_add, ← Int.pow_succ]
          congr 1
          omega
        show Q (.int ((10 : Int) ^ (n / 2) * (10 : Int) ^ (n / 2) * 10)) H
        rw [ex]
        exact q
      · have ho : (n : Int) % 2 ≠ 1 := by simpa using e
        refine ⟨_, rfl, _, rfl, _, _, rfl, rfl, wide_mul b b (by omega) (by omega) (by omega), ?_⟩
        have ex : (10 : Int) ^ (n / 2) * (10 : Int) ^ (n / 2) = (10 : Int) ^ n := by
          rw [← Int.pow_add]
          congr 1
          omega
        show Q (.int ((10 : Int) ^ (n / 2) * (10 : Int) ^ (n / 2))) H
        rw [ex]
        exact q
theorem ok_tenTo (A : At K mg "ten_to" pTenTo ["places"]) (T : Blt mg) (gT : mg "TENS" = some (.ref aT)) (tens : ∀ H : Hp, SqT K H aT (tensL.map V.int)) : ∀ k : Nat, k ≤ 8 → DefOk P w K mg base CX0 "ten_to" (k + 1) ["places"] (spTenTo k)
  | 0, _ => tenTo_step A T gT tens (by decide) (bot_of A) fun n H Q E h1 h2 _ => absurd h1 (by omega)
  | k + 1, hk => by
    have le : 16 * 2 ^ (k + 1) ≤ 4096 := by
      have := Nat.pow_le_pow_right (show 0 < 2 by decide) hk
      omega
    refine tenTo_step A T gT tens le (ok_tenTo A T gT tens k (by omega)) fun n H Q E h1 h2 q => ⟨n / 2, rfl, ?_, q⟩
    rw [Nat.pow_succ] at h2
    omega
end
end K05

/-! k05: without_zeros. -/
namespace K05
open PySem PySem.Spec PyProof.Rows L2 LamX NdefX Own
abbrev pWz : Stmt := topS 16
/-- u' at the scale s' is u at s, at its own scale -/
structure IsLow (u : Int) (s : Nat) (u' : Int) (s' : Nat) : Prop where
  le : s' ≤ s
  eq : u = u' * (10 : Int) ^ (s - s')
  own : s' = 0 ∨ u' % 10 ≠ 0
theorem low_step {u u' : Int} {s s' st : Nat} (h1 : s' ≤ s) (h2 : st ≤ s') (e : u = u' * (10 : Int) ^ (s - s')) (d : (10 : Int) ^ st ∣ u') : u = u' / (10 : Int) ^ st * (10 : Int) ^ (s - (s' - st)) := by
  obtain ⟨c, rfl⟩ := d
  have p : (10 : Int) ^ st ≠ 0 := Int.ne_of_gt (ten_pos st)
  rw [Int.mul_ediv_cancel_left _ p, e]
  have z : s - (s' - st) = st + (s - s') := by omega
  rw [z, Int.pow_add, Int.mul_comm ((10 : Int) ^ st) c, Int.mul_assoc]
theorem dvd_step {u' : Int} {st : Nat} (d : (10 : Int) ^ st ∣ u') (n : ¬ (10 : Int) ^ (2 * st) ∣ u') : ¬ (10 : Int) ^ st ∣ u' / (10 : Int) ^ st := by
  obtain ⟨c, rfl⟩ := d
  have p : (10 : Int) ^ st ≠ 0 := Int.ne_of_gt (ten_pos st)
  rw [Int.mul_ediv_cancel_left _ p]
  rintro ⟨k, rfl⟩
  refine n ⟨k, ?_⟩
  have z : 2 * st = st + st := by omega
  rw [z, Int.pow_add, Int.mul_assoc]
/-- what the halving steps leave -/
def Half (u' : Int) (s' st : Nat) : Prop := (st = 0 ∧ (s' = 0 ∨ u' % 10 ≠ 0)) ∨ ((∃ j, st = 2 ^ j) ∧ ¬ (2 * st ≤ s' ∧ (10 : Int) ^ (2 * st) ∣ u'))
theorem half_next {u' : Int} {s' st : Nat} (hp : ∃ j, st = 2 ^ j) (n : ¬ (st ≤ s' ∧ (10 : Int) ^ st ∣ u')) : Half u' s' (st / 2) := by
  obtain ⟨j, rfl⟩ := hp
  cases j with
  | zero =>
    refine .inl ⟨rfl, ?_⟩
    by_cases h : s' = 0
    · exact .inl h
    · refine .inr fun z => n ⟨by simp; omega, ?_⟩
      simpa using Int.dvd_of_emod_eq_zero z
  | succ j =>
    have e : 2 ^ (j + 1) / 2 = 2 ^ j := by rw [Nat.pow_succ]; omega
    refine .inr ⟨⟨j, e⟩, ?_⟩
    rw [e]
    have e2 : 2 * 2 ^ j = 2 ^ (j + 1) := by rw [Nat.pow_succ]; omega
    rw [e2]
    exact n
section
variable {P : Program} {w : World} {K : PySem.W.Frag} {mg : Str → Option Value} {base : Heap}
theorem scWz : FnScope ["units", "scale", "step", "block"] ["units", "scale"] (defScope pWz) := ⟨rfl, rfl, rfl, by decide +kernel, rfl, by decide +kernel, by decide +kernel⟩
def spWz : Sp := fun vs H Q _ => ∃ (u : Int) (s : Nat), vs = [.int u, .int s] ∧ s < 2000 ∧ ∀ (u' : Int) (s' : Nat) (p : Addr), IsLow u s u' s' → H p = none → Q (.ref p) (upd H p (.tup [.int u', .int s']))
theorem ok_wz (A : At K mg "without_zeros" pWz ["units", "scale"]) (D : DefOk P w K mg base CX0 "ten_to" 9 ["places"] (spTenTo 8)) : DefOk P w K mg base CX0 "without_zeros" 10 ["units", "scale"] spWz := by
  refine A.ok fun f fd F => F.ok scWz (fun vs H Q E h => ?_) (fun cdv A outer s0 H vs Q E hr h => ?_)
  · obtain ⟨u, s, rfl, _⟩ := h
    rfl
  · obtain ⟨u, s, rfl, hs, q⟩ := h
    have nd := scWz.nd
    refine ⟨_, pss_cons (ps_if (PW.pt (pw_or (pt_cmpR op_eq (pv 1) pe_int (nomark _)) (pw_or1 (pt_cmpR op_ne (pe_op op_mod (pv 0) pe_int) pe_int (nomark _))))) (pss_one (ps_ret (pe_tup (pa_cons (pv 0) (pa_cons (pv 1) pa_nil))))) pss_nil)
      (pss_cons (ps_if (pt_cmpR op_eq (pv 0) pe_int (nomark _)) (pss_one (ps_ret (pe_tup (pa_cons pe_int (pa_cons pe_int pa_nil))))) pss_nil)
      (pss_cons (ps_set (i := 2) nd rfl (.inl rfl) pe_int)
      (pss_cons (ps_while PassesOwn.never (pt_cmpR op_le (pe_op op_mul (pv 2) pe_int) (pv 1) (nomark _)) (pss_one (ps_set (i := 2) nd rfl (.inl rfl) (pe_op op_mul (pv 2) pe_int))))
      (pss_cons (ps_while PassesOwn.never (pt_cmpR op_gt (pv 2) pe_int (nomark _)) (pss_cons (ps_set (i := 3) nd rfl (.inl rfl) (pe_def D hr (by decide) (by rfl) pass0 (pa_cons (pv 2) pa_nil)))
        (pss_cons (ps_if (PW.pt (pw_and (pt_cmpR op_le (pv 2) (pv 1) (nomark _)) (pw_and1 (pt_cmpR op_eq (pe_op op_mod (pv 0) (pv 3)) pe_int (nomark _)))))
          (pss_one (ps_par (i := 0) (j := 1) (by rfl) nd rfl rfl (by decide) rfl rfl (pa_cons (pe_op op_fdivW (pv 0) (pv 3)) (pa_cons (pe_op op_sub (pv 1) (pv 2)) pa_nil)) (by rfl))) pss_nil)
        (pss_one (ps_set (i := 2) nd rfl (.inl rfl) (pe_op op_fdiv (pv 2) pe_int))))))
      (pss_one (ps_ret (pe_tup (pa_cons (pv 0) (pa_cons (pv 1) pa_nil))))))))), ?_⟩
    refine ⟨_, rfl, rfl, _, rfl, ite2 (fun e => iteT ?_) (fun e => ?_)⟩
    · have h0 : s = 0 := by simpa using e
      subst h0
      exact ⟨_, rfl, _, rfl, by show 2 ≤ sizeLine; decide, fun p np => q u 0 p ⟨Nat.le_refl _, by simp, .inl rfl⟩ np⟩
    have hs0 : s ≠ 0 := by simpa using e
    refine ⟨_, rfl, _, _, rfl, rfl, (show (0 : Int) < 10 by decide), rfl, _, rfl, ite2 (fun e => ?_) (fun e => ?_)⟩
    · have h0 : u % 10 ≠ 0 := by simpa using e
      exact ⟨_, rfl, _, rfl, by show 2 ≤ sizeLine; decide, fun p np => q u s p ⟨Nat.le_refl _, by simp, .inr h0⟩ np⟩
    refine ⟨_, rfl, rfl, _, rfl, ite2 (fun e => ?_) (fun e => ?_)⟩
    · have h0 : u = 0 := by simpa using e
      exact ⟨by show 2 ≤ sizeLine; decide, fun p np => q 0 0 p ⟨Nat.zero_le _, by rw [h0]; simp, .inl rfl⟩ np⟩
    dsimp only [gName, List.set]
    refine ⟨fun m σ H' => H' = H ∧ ∃ j : Nat, σ = [some (.int u), some (.int s), some (.int ((2 ^ j : Nat) : Int)), none] ∧ 2 ^ j ≤ s ∧ m = s - 2 ^ j, ⟨_, rfl, 0, rfl, by simp; omega, rfl⟩, ?_⟩
    rintro m σ H1 ⟨rfl, j, rfl, hj, rfl⟩
    have jp : 0 < 2 ^ j := Nat.pow_pos (by decide)
    refine ⟨_, rfl, _, _, rfl, rfl, .inr ⟨by decide, by decide⟩, _, rfl, _, _, rfl, rfl, _, rfl, ite2 (fun e => ?_) (fun e => ?_)⟩
    · have hle : ((2 ^ j : Nat) : Int) * 2 ≤ (s : Int) := of_decide_eq_true e
      refine ⟨fun σ' H' => H' = H1 ∧ σ' = [some (.int u), some (.int s), some (.int ((2 ^ (j + 1) : Nat) : Int)), none], fun σ' H' z => ⟨s - 2 ^ (j + 1), ?_, z.1, j + 1, z.2, ?_, rfl⟩, ?_⟩
      · rw [Nat.pow_succ]
        omega
      · rw [Nat.pow_succ]
        omega
      · refine ⟨_, rfl, _, _, rfl, rfl, .inr ⟨by decide, by decide⟩, rfl, ?_⟩
        have e2 : ((2 ^ j : Nat) : Int) * 2 = ((2 ^ (j + 1) : Nat) : Int) := by
          rw [Nat.pow_succ]
          omega
        dsimp only [gName, List.set]
        rw [e2]
    have hgt : ¬ ((2 ^ j : Nat) : Int) * 2 ≤ (s : Int) := fun z => e (decide_eq_true z)
    refine ⟨fun m σ H' => H' = H1 ∧ ∃ (u' : Int) (s' st : Nat) (bl : Option V), σ = [some (.int u'), some (.int s'), some (.int st), bl] ∧ m = st ∧ st < 2000 ∧ s' ≤ s ∧ u = u' * (10 : Int) ^ (s - s') ∧ Half u' s' st, ⟨_, rfl, u, s, 2 ^ j, none, rfl, rfl, by omega, Nat.le_refl _, by simp, .inr ⟨⟨j, rfl⟩, fun z => by omega⟩⟩, ?_⟩
    rintro m σ H2 ⟨rfl, u', s', st, bl, rfl, hm, hst, hle, eu, hf⟩
    have hm := hm.symm
    subst hm
    refine ⟨_, rfl, _, _, rfl, rfl, _, rfl, ite2 (fun e => ?_) (fun e => ?_)⟩
    · have h0 : 0 < st := by
        have z : (0 : Int) < (st : Int) := of_decide_eq_true e
        omega
      obtain ⟨hp, hn⟩ : (∃ j, st = 2 ^ j) ∧ ¬ (2 * st ≤ s' ∧ (10 : Int) ^ (2 * st) ∣ u') := by
        rcases hf with ⟨z, _⟩ | z
        · omega
        · exact z
      refine ⟨fun σ' H' => H' = H2 ∧ ∃ (u2 : Int) (s2 : Nat) (bl : Option V), σ' = [some (.int u2), some (.int s2), some (.int ((st / 2 : Nat) : Int)), bl] ∧ s2 ≤ s ∧ u = u2 * (10 : Int) ^ (s - s2) ∧ Half u2 s2 (st / 2), fun σ' H' ⟨z1, u2, s2, bl, z2, z3, z4, z5⟩ => ⟨st / 2, by omega, z1, u2, s2, st / 2, bl, z2, rfl, by omega, z3, z4, z5⟩, ?_⟩
      have e2 : (st : Int) / 2 = ((st / 2 : Nat) : Int) := by omega
      have tp := ten_pos st
      refine ⟨_, rfl, st, rfl, by show st < 16 * 2 ^ 8; omega, ?_⟩
      refine ⟨_, rfl, _, rfl, _, _, rfl, rfl, _, rfl, ite2 (fun e => ?_) (fun e => ?_)⟩
      · have l1 : st ≤ s' := by
          have z : (st : Int) ≤ (s' : Int) := of_decide_eq_true e
          omega
        refine ⟨_, rfl, _, rfl, _, _, rfl, rfl, tp, rfl, _, rfl, ite2 (fun e => ?_) (fun e => ?_)⟩
        · have d1 : (10 : Int) ^ st ∣ u' := Int.dvd_of_emod_eq_zero (by simpa using e)
          refine ⟨_, rfl, _, rfl, _, _, rfl, rfl, wide_div tp (ten_lt st) (by omega) (by omega), _, rfl, _, rfl, _, _, rfl, rfl, _, _, rfl, ?_⟩
          refine ⟨_, rfl, _, _, rfl, rfl, ⟨by decide, by decide⟩, ?_⟩
          dsimp only [gName, List.set]
          rw [e2]
          have e3 : (s' : Int) - (st : Int) = ((s' - st : Nat) : Int) := by omega
          rw [e3]
          refine ⟨rfl, u' / (10 : Int) ^ st, s' - st, some (.int ((10 : Int) ^ st)), rfl, by omega, low_step hle l1 eu d1, half_next hp fun z => ?_⟩
          by_cases l2 : 2 * st ≤ s'
          · exact dvd_step d1 (fun d2 => hn ⟨l2, d2⟩) z.2
          · omega
        · refine ⟨_, rfl, _, _, rfl, rfl, ⟨by decide, by decide⟩, ?_⟩
          dsimp only [gName, List.set]
          rw [e2]
          have nd1 : ¬ (10 : Int) ^ st ∣ u' := fun z => e (decide_eq_true (by show V.int (u' % (10 : Int) ^ st) = V.int 0; rw [Int.emod_eq_zero_of_dvd z]))
          exact ⟨rfl, u', s', some (.int ((10 : Int) ^ st)), rfl, hle, eu, half_next hp fun z => nd1 z.2⟩
      · have l1 : ¬ st ≤ s' := fun z => e (decide_eq_true (by omega))
        refine ⟨_, rfl, _, _, rfl, rfl, ⟨by decide, by decide⟩, ?_⟩
        dsimp only [gName, List.set]
        rw [e2]
        exact ⟨rfl, u', s', some (.int ((10 : Int) ^ st)), rfl, hle, eu, half_next hp fun z => l1 z.1⟩
    · have h0 : st = 0 := by
        have z : ¬ (0 : Int) < (st : Int) := fun z => e (decide_eq_true z)
        omega
      have own : s' = 0 ∨ u' % 10 ≠ 0 := by
        rcases hf with ⟨_, z⟩ | ⟨⟨j, z⟩, _⟩
        · exact z
        · have := Nat.pow_pos (n := j) (show 0 < 2 by decide)
          omega
      exact ⟨_, rfl, _, rfl, by show 2 ≤ sizeLine; decide, fun p np => q u' s' p ⟨hle, eu, own⟩ np⟩
end
end K05

/-! own layer, of no law: OWN9: an attribute as one of several targets. -/
namespace Own
open PySem PySem.Spec PyProof.Rows L2 LamX NdefX
section
variable {X : Cx} {o : Expr} {ta : TE} {f : Str} {pos : Pos}
def gFld (K : PySem.W.Frag) (ta : TE) (f : Str) : TG := fun y σ H Q => ta σ H fun x H2 => ∃ a C dx fs, x = V.ref a ∧ H2 a = some (.ins C dx fs) ∧ Cls K C ∧ NoAttr K C f ∧ fs.length < 1000 ∧ Q σ (upd H2 a (.ins C dx (putF f y fs)))
theorem pg_fld (ha : PE X o ta) : PG X (.Attribute o f pos) (gFld X.K ta f) := by
  refine ⟨fun pins s σ H v u Q I r h => ?_⟩
  have e : assign (.Attribute o f pos) X.env u = (do
      let ov ← holding [u] (eval o X.env)
      standAt pos.atName
      holding [u, ov] (setAttr ov f u)
      PySem.release [u, ov] []) := rfl
  rw [e]
  refine wpAny_bind (wpAny_holding (thn (ha.run pins s σ H _ I h) fun ov s1 z => ?_))
  obtain ⟨x, H1, I1, rx, a, C, dx, fs, rfl, ea, c, n, l, q⟩ := z
  obtain rfl : ov = Value.ref a := rx
  refine wpAny_bind (wpAny_standAt (wpAny_bind (wpAny_holding (setattr_ok I1 ea c n l r fun s3 I3 => ?_))))
  exact wpAny_release ⟨σ, _, I3, q⟩
end
end Own

/-! own layer, of no law: a number told as what is ahead of the point and the digits behind it -/
namespace Own
open PySem PySem.Spec PyProof.Rows L2 LamX NdefX
/-- ahead of the point -/
def wFl (u : Int) (s : Nat) : Int := if s = 0 then u else u / (10 : Int) ^ s
/-- the digits behind it -/
def wMo (u : Int) (s : Nat) : Str := if s = 0 then "" else Txt.zfill (Str.ofString (toString (u % (10 : Int) ^ s))) (s : Int)
def wRow (u : Int) (s : Nat) : List (Str × V) := [("units", .int u), ("scale", .int s), ("floor", .int (wFl u s)), ("more", .str (wMo u s))]
theorem wNe : (("scale" : Str) == "units") = false ∧ (("floor" : Str) == "units") = false ∧ (("floor" : Str) == "scale") = false ∧ (("more" : Str) == "units") = false ∧ (("more" : Str) == "scale") = false ∧ (("more" : Str) == "floor") = false := by decide +kernel
theorem wLk_u (u : Int) (s : Nat) : (wRow u s).lookup ("units" : Str) = some (.int u) := by simp [wRow, List.lookup]
theorem wLk_s (u : Int) (s : Nat) : (wRow u s).lookup ("scale" : Str) = some (.int s) := by simp [wRow, List.lookup, wNe]
theorem wLk_f (u : Int) (s : Nat) : (wRow u s).lookup ("floor" : Str) = some (.int (wFl u s)) := by simp [wRow, List.lookup, wNe]
theorem wLk_m (u : Int) (s : Nat) : (wRow u s).lookup ("more" : Str) = some (.str (wMo u s)) := by simp [wRow, List.lookup, wNe]
theorem wLk_no {m : Str} (u : Int) (s : Nat) (h1 : (m == "units") = false) (h2 : (m == "scale") = false) (h3 : (m == "floor") = false := by decide +kernel) (h4 : (m == "more") = false := by decide +kernel) : (wRow u s).lookup m = none := by simp [wRow, List.lookup, h1, h2, h3, h4]
theorem put4 (a b c d : V) : putF "more" d (putF "floor" c (putF "scale" b (putF "units" a []))) = ([("units", a), ("scale", b), ("floor", c), ("more", d)] : List (Str × V)) := by
  have e1 : ¬ (("units" : Str) = "scale") := by decide +kernel
  have e2 : ¬ (("units" : Str) = "floor") := by decide +kernel
  have e3 : ¬ (("units" : Str) = "more") := by decide +kernel
  have e4 : ¬ (("scale" : Str) = "floor") := by decide +kernel
  have e5 : ¬ (("scale" : Str) = "more") := by decide +kernel
  have e6 : ¬ (("floor" : Str) = "more") := by decide +kernel
  simp [putF, e1, e2, e3, e4, e5, e6]
/-! ### the digits -/
theorem numL_cons (n : Nat) : ∃ c l, TL.numL n = c :: l ∧ 48 ≤ c ∧ c ≤ 57 := by
  cases h : TL.numL n with
  | nil => exact absurd h (TL.numL_ne n)
  | cons c l =>
    have z := TL.numL_digits n c (by rw [h]; exact List.mem_cons_self ..)
    exact ⟨c, l, rfl, z.1, z.2⟩
theorem zf_list (n s : Nat) : (Txt.zfill (Str.ofString (toString (n : Int))) (s : Int)).cps.toList = List.replicate (s - (TL.numL n).length) 48 ++ TL.numL n := by
  have e : (Str.ofString (toString (n : Int))).cps.toList = TL.numL n := TL.tl_num n
  have l : (Str.ofString (toString (n : Int))).length = (TL.numL n).length := by rw [TL.len_tl]; exact congrArg List.length e
  generalize Str.ofString (toString (n : Int)) = x at e l
  unfold Txt.zfill
  by_cases h : (s : Int) ≤ (x.length : Int)
  · rw [if_pos h, e, show s - (TL.numL n).length = 0 by omega]
    rfl
  · rw [if_neg h]
    obtain ⟨c, r, ec, h1, h2⟩ := numL_cons n
    have hd : x.cps[0]? = some c := by
      rw [← Array.getElem?_toList, e, ec]
      rfl
    unfold zfilled
    rw [hd]
    split
    · rename_i z
      have := Option.some.inj z
      omega
    · rename_i z
      have := Option.some.inj z
      omega
    · rw [PyProof.Rows.padded_list, e, l]
      simp
theorem val_zeros : ∀ (k : Nat) (l : List Nat), NumText.digitsVal (List.replicate k 48 ++ l) = NumText.digitsVal l
  | 0, l => rfl
  | k + 1, l => by
    show NumText.digitsVal (48 :: (List.replicate k 48 ++ l)) = _
    exact val_zeros k l
theorem ten_nc (s : Nat) : ((10 : Int) ^ s) = ((10 ^ s : Nat) : Int) := by simp
theorem wMod (u : Int) (s : Nat) : ∃ n : Nat, u % (10 : Int) ^ s = (n : Int) ∧ n < 10 ^ s := by
  have p : 0 < 10 ^ s := Nat.pow_pos (by decide)
  rw [ten_nc]
  have a := Int.emod_nonneg u (show ((10 ^ s : Nat) : Int) ≠ 0 by omega)
  have b := Int.emod_lt_of_pos u (show (0 : Int) < ((10 ^ s : Nat) : Int) by omega)
  exact ⟨(u % ((10 ^ s : Nat) : Int)).toNat, by omega, by omega⟩
theorem wMo_list {u : Int} {s n : Nat} (h : s ≠ 0) (e : u % (10 : Int) ^ s = (n : Int)) : (wMo u s).cps.toList = List.replicate (s - (TL.numL n).length) 48 ++ TL.numL n := by
  unfold wMo
  rw [if_neg h, e]
  exact zf_list n s
theorem wMo_zero (u : Int) : (wMo u 0).cps.toList = [] := by
  have e : wMo u 0 = "" := by
    unfold wMo
    rw [if_pos rfl]
  rw [e]
  rfl
theorem wMo_len (u : Int) (s : Nat) : (wMo u s).cps.toList.length = s := by
  by_cases h : s = 0
  · subst h
    rw [wMo_zero]
    rfl
  · obtain ⟨n, e, l⟩ := wMod u s
    rw [wMo_list h e, List.length_append, List.length_replicate]
    have := TL.numL_len (Nat.pos_of_ne_zero h) l
    omega
theorem w_inj {u u2 : Int} {s s2 : Nat} (h1 : wFl u s = wFl u2 s2) (h2 : wMo u s = wMo u2 s2) : u = u2 ∧ s = s2 := by
  have e : s = s2 := by
    have a := wMo_len u s
    have b := wMo_len u2 s2
    rw [h2] at a
    omega
  subst e
  refine ⟨?_, rfl⟩
  by_cases h : s = 0
  · subst h
    exact h1
  · obtain ⟨n, e, l⟩ := wMod u s
    obtain ⟨n2, e2, l2⟩ := wMod u2 s
    have a := wMo_list h e
    have b := wMo_list h e2
    rw [h2, b] at a
    have v := congrArg NumText.digitsVal a
    rw [val_zeros, val_zeros, TL.numL_val, TL.numL_val] at v
    unfold wFl at h1
    rw [if_neg h, if_neg h] at h1
    have d1 := Int.mul_ediv_add_emod u ((10 : Int) ^ s)
    have d2 := Int.mul_ediv_add_emod u2 ((10 : Int) ^ s)
    rw [← d1, ← d2, h1, e, e2, v]
theorem w_ok (u : Int) (s : Nat) : PyData.strOk (wMo u s) = true := by
  have all : ∀ c ∈ (wMo u s).cps.toList, c < 0x110000 := fun c hc => by
    by_cases h : s = 0
    · subst h
      rw [wMo_zero] at hc
      cases hc
    · obtain ⟨n, e, l⟩ := wMod u s
      rw [wMo_list h e] at hc
      rcases List.mem_append.mp hc with z | z
      · rw [(List.mem_replicate.mp z).2]
        decide
      · have := TL.numL_digits n c z
        omega
  unfold PyData.strOk
  rw [Array.all_eq_true_iff_forall_mem]
  intro c hc
  exact decide_eq_true (all c (Array.mem_toList_iff.mpr hc))
/-- the two halves as data -/
theorem w_dp {K : PySem.W.Frag} {H : Hp} {a : Addr} {i : Int} {t : Str} (e : H a = some (.tup [.int i, .str t])) : Dp K H (.ref a) (.tuple [.int i, .str t]) := .tup (SqT.of e) (.cons (.int i) (.cons (.str t) .nil))
theorem w_sh (u : Int) (s : Nat) : SeqAt.shaped (.tuple [.int (wFl u s), .str (wMo u s)]) = true := by
  unfold SeqAt.shaped
  simp [PyData.canLay0, PyData.canLayAll0, PyData.depth, PyData.depthAll, w_ok]
theorem w_eqv (u u2 : Int) (s s2 : Nat) : PyData.eqv (.tuple [.int (wFl u s), .str (wMo u s)]) (.tuple [.int (wFl u2 s2), .str (wMo u2 s2)]) = (decide (u = u2) && decide (s = s2)) := by
  simp only [PyData.eqv, PyData.eqvAll, Bool.and_true]
  by_cases h : u = u2 ∧ s = s2
  · obtain ⟨rfl, rfl⟩ := h
    simp
  · have r : (decide (u = u2) && decide (s = s2)) = false := by
      rw [← Bool.decide_and]
      exact decide_eq_false h
    rw [r]
    have n : ¬ (wFl u s = wFl u2 s2 ∧ wMo u s = wMo u2 s2) := fun z => h (w_inj z.1 z.2)
    by_cases h1 : wFl u s = wFl u2 s2
    · have h2 : wMo u s ≠ wMo u2 s2 := fun z => n ⟨h1, z⟩
      rw [beq_false_of_ne h2, Bool.and_false]
    · rw [beq_false_of_ne h1, Bool.false_and]
/-- a list of statements that is never come to -/
theorem pss_dead {X : Cx} {ss : List Stmt} : PSs X ss (fun _ _ _ => False) := ⟨fun _ _ _ _ _ _ h => h.elim⟩
theorem dm_wide {n d : Int} (h0 : 0 < d) (h : d.natAbs < 2 ^ 9000) : CDivP n d := by
  refine ⟨h0, ?_⟩
  have a := log2_lt h (by decide)
  unfold Builtin.divisionGoesByPylong
  have e : ¬ (d == 0) = true := by simp; omega
  have z : ¬ (d.natAbs.log2 / 30 + 1 > 300) := by omega
  simp only [e, Bool.false_eq_true, if_false]
  rw [decide_eq_false z]
  rfl
end Own

/-! k05: digits_of, parted. -/
namespace K05
open PySem PySem.Spec PyProof.Rows L2 LamX NdefX Own
abbrev pDig : Stmt := topS 12
abbrev pPart : Stmt := topS 17
section
variable {P : Program} {w : World} {K : PySem.W.Frag} {mg : Str → Option Value} {base : Heap}
theorem scDig : FnScope ["number", "places", "ahead", "behind"] ["number"] (defScope pDig) := ⟨rfl, rfl, rfl, by decide +kernel, rfl, by decide +kernel, by decide +kernel⟩
/-- a number of few digits -/
def spDig : Sp := fun vs H Q _ => ∃ n : Nat, vs = [.int n] ∧ n < 10 ^ 500 ∧ Q (.str (Str.ofString (toString (n : Int)))) H
theorem small_log {n : Nat} (h : n < 10 ^ 500) : n.log2 < 1700 := log2_lt (Nat.lt_of_lt_of_le h (by decide +kernel)) (by decide)
theorem ok_dig (A : At K mg "digits_of" pDig ["number"]) (B : Blt mg) : DefOk P w K mg base CX0 "digits_of" 1 ["number"] spDig := by
  refine A.ok fun f fd F => F.ok scDig (fun vs H Q E h => ?_) (fun cdv A outer s0 H vs Q E hr h => ?_)
  · obtain ⟨n, rfl, _⟩ := h
    rfl
  · obtain ⟨n, rfl, hn, q⟩ := h
    have nd := scDig.nd
    refine ⟨_, pss_cons (ps_if (pt_cmpR op_lt (pe_bits (pv 0)) pe_int (nomark _)) (pss_one (ps_ret (pe_callTy call_str_int (by rfl) B.str (by decide +kernel) (pa_cons (pv 0) pa_nil)))) pss_nil) pss_dead, ?_⟩
    have lg := small_log hn
    have bits : Builtin.Int.intBits (n : Int) ≤ 1700 := by
      unfold Builtin.Int.intBits
      split
      · omega
      · have e : (n : Int).natAbs = n := by omega
        rw [e]
        omega
    refine ⟨_, rfl, n, rfl, _, _, rfl, rfl, _, rfl, ite2 (fun _ => ?_) (fun e => ?_)⟩
    · refine ⟨_, rfl, n, rfl, ?_, q⟩
      have e : (n : Int).natAbs = n := by omega
      rw [e]
      omega
    · exact absurd (decide_eq_true (by omega)) e
theorem scPart : FnScope ["units", "scale", "floor", "more"] ["units", "scale"] (defScope pPart) := ⟨rfl, rfl, rfl, by decide +kernel, rfl, by decide +kernel, by decide +kernel⟩
def spPart : Sp := fun vs H Q _ => ∃ (u : Int) (s : Nat), vs = [.int u, .int s] ∧ s < 500 ∧ ∀ (p : Addr) (H' : Hp), Same H H' → H' p = some (.tup [.int (wFl u s), .str (wMo u s)]) → Q (.ref p) H'
theorem ok_part (A : At K mg "parted" pPart ["units", "scale"]) (B : Blt mg) (D1 : DefOk P w K mg base CX0 "ten_to" 9 ["places"] (spTenTo 8)) (D2 : DefOk P w K mg base CX0 "digits_of" 1 ["number"] spDig) : DefOk P w K mg base CX0 "parted" 10 ["units", "scale"] spPart := by
  refine A.ok fun f fd F => F.ok scPart (fun vs H Q E h => ?_) (fun cdv A outer s0 H vs Q E hr h => ?_)
  · obtain ⟨u, s, rfl, _⟩ := h
    rfl
  · obtain ⟨u, s, rfl, hs, q⟩ := h
    have nd := scPart.nd
    refine ⟨_, pss_cons (ps_if (pt_cmpR op_eq (pv 1) pe_int (nomark _)) (pss_one (ps_ret (pe_tup (pa_cons (pv 0) (pa_cons pe_str pa_nil))))) pss_nil)
      (pss_cons (ps_asg (pe_callB call_divmodW (by rfl) B.dm (by decide +kernel) (pa_cons (pv 0) (pa_cons (pe_def D1 hr (by decide) (by rfl) pass0 (pa_cons (pv 1) pa_nil)) pa_nil))) (pg_tup rfl (pgs_cons (pg_name (i := 2) nd rfl (.inl rfl)) (pgs_cons (pg_name (i := 3) nd rfl (.inl rfl)) pgs_nil))))
      (pss_one (ps_ret (pe_tup (pa_cons (pv 2) (pa_cons (pe_bm PySem.F.plainAttrs_str PySem.F.slot_str_zfill PySem.F.type_str_zfill mt_zfill (pe_def D2 hr (by decide) (by rfl) pass0 (pa_cons (pv 3) pa_nil)) (pa_cons (pv 1) pa_nil)) pa_nil)))))), ?_⟩
    refine ⟨_, rfl, rfl, _, rfl, ite2 (fun e => ?_) (fun e => ?_)⟩
    · have h0 : s = 0 := by simpa using e
      subst h0
      refine ⟨_, rfl, by show 2 ≤ sizeLine; decide, fun p np => q p _ (same_new np) ?_⟩
      rw [upd_same]
      unfold wFl wMo
      rw [if_pos rfl, if_pos rfl]
    · have h0 : s ≠ 0 := by simpa using e
      refine ⟨_, rfl, _, rfl, s, rfl, by show s < 16 * 2 ^ 8; omega, _, _, rfl, dm_wide (ten_pos s) (up_two (ten_lt s) (by omega)), fun p hp => ?_⟩
      obtain ⟨n, en, hn⟩ := wMod u s
      have s1 : Same H (upd H p (.tup [.int (u / (10 : Int) ^ s), .int (u % (10 : Int) ^ s)])) := same_new hp
      refine ⟨p, _, rfl, SqT.of upd_same, rfl, _, _, rfl, _, _, rfl, rfl, ?_⟩
      have e1 : wFl u s = u / (10 : Int) ^ s := by
        unfold wFl
        rw [if_neg h0]
      have e2 : wMo u s = Txt.zfill (Str.ofString (toString (n : Int))) (s : Int) := by
        unfold wMo
        rw [if_neg h0, en]
      rw [en] at s1 ⊢
      dsimp only [gName, List.set]
      refine ⟨_, rfl, _, rfl, n, rfl, Nat.lt_of_lt_of_le hn (Nat.pow_le_pow_right (by decide) (by omega)), rfl, _, rfl, _, _, rfl, rfl, padOk_of (by omega) (by omega), by show 2 ≤ sizeLine; decide, fun p2 np2 => ?_⟩
      refine q p2 _ (s1.trans (same_new np2)) ?_
      rw [upd_same, e1, e2]
end
end K05

/-! k05: the class Worth. -/
namespace K05
open PySem PySem.Spec PyProof.Rows L2 LamX NdefX Own
abbrev wI (i : Nat) : Stmt := inClass (topS 15) i
section
variable {P : Program} {w : World} {K : PySem.W.Frag} {mg : Str → Option Value} {base : Heap} {C W : Addr}
/-- what the class is -/
structure WorthC (K : PySem.W.Frag) (mg : Str → Option Value) (W : Addr) : Prop where
  g : mg "Worth" = some (.ref W)
  cls : Cls K W
  nu : NoAttr K W "units"
  ns : NoAttr K W "scale"
  nf : NoAttr K W "floor"
  nm : NoAttr K W "more"
/-- a Worth stands at a: u units at the scale s -/
def WAt (W : Addr) (H : Hp) (a : Addr) (u : Int) (s : Nat) : Prop := ∃ dx, H a = some (.ins W dx (wRow u s))
theorem scWI : FnScope ["self", "units", "scale"] ["self", "units", "scale"] (defScope (wI 0)) := ⟨rfl, rfl, rfl, by decide +kernel, rfl, by decide +kernel, by decide +kernel⟩
/-- __init__ -/
def spWI (C W : Addr) : Sp := fun vs H Q E => ∃ (a dx : Addr) (x y : V), vs = [.ref a, x, y] ∧ H a = some (.ins W dx []) ∧ Thing H x ∧ Thing H y ∧ (Own.isInt x = false → Bad C "value" x H E) ∧ (Own.isInt x = true → isWh y = false → Bad C "value" y H E) ∧
  ∀ (u : Int) (s : Nat), x = .int u → y = .int s → s < 500 ∧ ∀ (u' : Int) (s' : Nat) (H' : Hp), IsLow u s u' s' → Keep a H H' → H' a = some (.ins W dx (wRow u' s')) → Q .non H'
theorem isWh_nat {y : V} (h : isWh y = true) : ∃ s : Nat, y = .int s := by
  cases y with
  | int i =>
    have z : 0 ≤ i := of_decide_eq_true h
    exact ⟨i.toNat, by rw [Int.toNat_of_nonneg z]⟩
  | _ => cases h
theorem ok_wI {f : Addr} {fd : FuncData} {dvs : List V} (F : FunD K "__init__" "Worth.__init__" (defArgs (wI 0)) (defBody (wI 0)) (defScope (wI 0)) dvs [] f fd) (T : WorthC K mg W) (D1 : DefOk P w K mg base (L2.CX P w) "need_integer" 3 ["value"] (spNInt C)) (D2 : DefOk P w K mg base (L2.CX P w) "need_whole_number" 3 ["value"] (spNWh C))
    (D3 : DefOk P w K mg base CX0 "without_zeros" 10 ["units", "scale"] spWz) (D4 : DefOk P w K mg base CX0 "parted" 10 ["units", "scale"] spPart) : FnOk P w K mg base (L2.CX P w) 11 f fd ["self", "units", "scale"] (spWI C W) := by
  refine F.ok scWI (fun vs H Q E h => ?_) (fun cdv A outer s0 H vs Q E hr h => ?_)
  · obtain ⟨a, dx, x, y, rfl, _⟩ := h
    rfl
  · obtain ⟨a, dx, x, y, rfl, ha, tx, ty, q1, q2, q3⟩ := h
    refine ⟨_, pss_cons (ps_expr (pe_def (E := E) D1 hr (by decide) (by rfl) (passes_call (takes_of rfl rfl rfl rfl) fun _ _ _ _ z => z) (pa_cons (pv 1) pa_nil)))
      (pss_cons (ps_expr (pe_def (E := E) D2 hr (by decide) (by rfl) (passes_call (takes_of rfl rfl rfl rfl) fun _ _ _ _ z => z) (pa_cons (pv 2) pa_nil)))
      (pss_cons (ps_asg (pe_def D3 hr (by decide) (by rfl) pass0 (pa_cons (pv 1) (pa_cons (pv 2) pa_nil))) (pg_tup rfl (pgs_cons (pg_fld (pv 0)) (pgs_cons (pg_fld (pv 0)) pgs_nil))))
      (pss_one (ps_asg (pe_def D4 hr (by decide) (by rfl) pass0 (pa_cons (pe_fld (pv 0) (by rfl)) (pa_cons (pe_fld (pv 0) (by rfl)) pa_nil))) (pg_tup rfl (pgs_cons (pg_fld (pv 0)) (pgs_cons (pg_fld (pv 0)) pgs_nil))))))), ?_⟩
    refine ⟨_, rfl, x, rfl, tx, fun hx => ?_, q1⟩
    refine ⟨_, rfl, y, rfl, ty, fun hy => ?_, q2 hx⟩
    obtain ⟨s, rfl⟩ := isWh_nat hy
    obtain ⟨u, rfl⟩ : ∃ u, x = .int u := by
      cases x <;> first | exact ⟨_, rfl⟩ | (simp [Own.isInt] at hx)
    obtain ⟨hs, q⟩ := q3 u s rfl rfl
    refine ⟨_, rfl, _, rfl, u, s, rfl, by omega, fun u' s' p lw np => ?_⟩
    have na : a ≠ p := ne_of_none ha np
    have ha1 : upd H p (.tup [.int u', .int s']) a = some (.ins W dx []) := (upd_ne na).trans ha
    refine ⟨p, _, rfl, SqT.of upd_same, rfl, _, _, rfl, ⟨_, rfl, a, W, dx, [], rfl, ha1, T.cls, T.nu, by decide, ?_⟩⟩
    refine ⟨_, _, rfl, ⟨_, rfl, a, W, dx, _, rfl, upd_same, T.cls, T.ns, by show 1 < 1000; decide, ?_⟩⟩
    refine ⟨rfl, ?_⟩
    rw [upd_upd]
    have k1 : Keep a H (upd (upd H p (.tup [.int u', .int s'])) a (.ins W dx (putF "scale" (.int s') (putF "units" (.int u') [])))) := (Keep.new np).trans Keep.at
    have ha2 : upd (upd H p (.tup [.int u', .int s'])) a (.ins W dx (putF "scale" (.int s') (putF "units" (.int u') []))) a = some (.ins W dx (putF "scale" (.int s') (putF "units" (.int u') []))) := upd_same
    generalize upd (upd H p (.tup [.int u', .int s'])) a (.ins W dx (putF "scale" (.int s') (putF "units" (.int u') []))) = H1 at k1 ha2 ⊢
    have e0 : ¬ (("units" : Str) = "scale") := by decide +kernel
    have e1 : (putF "scale" (.int s') (putF "units" (.int u') []) : List (Str × V)).lookup ("units" : Str) = some (V.int u') := by simp [putF, e0, List.lookup]
    have e2 : (putF "scale" (.int s') (putF "units" (.int u') []) : List (Str × V)).lookup ("scale" : Str) = some (V.int s') := by simp [putF, e0, List.lookup, wNe]
    have le := lw.le
    refine ⟨_, rfl, a, W, dx, _, .int u', rfl, ha2, T.cls, T.nu, e1, _, rfl, a, W, dx, _, .int s', rfl, ha2, T.cls, T.ns, e2, u', s', rfl, by omega, fun p2 H2 s2 h2 => ?_⟩
    have ha3 := s2 _ _ ha2
    have n2 : a ≠ p2 := ne_of ha3 h2 (by intro z; cases z)
    refine ⟨p2, _, rfl, SqT.of h2, rfl, _, _, rfl, ⟨_, rfl, a, W, dx, _, rfl, ha3, T.cls, T.nf, by show 2 < 1000; decide, ?_⟩⟩
    refine ⟨_, _, rfl, ⟨_, rfl, a, W, dx, _, rfl, upd_same, T.cls, T.nm, by show 3 < 1000; decide, ?_⟩⟩
    refine ⟨rfl, ?_⟩
    rw [upd_upd, put4]
    exact q u' s' _ lw ((k1.trans (Keep.same s2)).trans Keep.at) upd_same
end
end K05

/-! k05: Worths made; as_worth, units_at, sign. -/
namespace Own
open PySem PySem.Spec PyProof.Rows L2 LamX NdefX
theorem Thing.tyx {K : PySem.W.Frag} {H : Hp} {x : V} (h : Thing H x) : ∃ T ∈ tys, TyX K H x (.type T) := by
  cases h with
  | non => exact ⟨"NoneType", by simp [tys], .base .non⟩
  | bl b => exact ⟨"bool", by simp [tys], .base (.bl b)⟩
  | int i => exact ⟨"int", by simp [tys], .base (.int i)⟩
  | str z => exact ⟨"str", by simp [tys], .base (.str z)⟩
  | lst e => exact ⟨"list", by simp [tys], .base (.lst e)⟩
  | tup e => exact ⟨"tuple", by simp [tys], .base (.tup e)⟩
  | dct e => exact ⟨"dict", by simp [tys], .base (.dK e)⟩
end Own
namespace K05
open PySem PySem.Spec PyProof.Rows L2 LamX NdefX Own
abbrev pAsW : Stmt := topS 18
section
variable {P : Program} {w : World} {K : PySem.W.Frag} {mg : Str → Option Value} {base : Heap} {C W : Addr}
/-- isinstance by the class -/
structure WIs (K : PySem.W.Frag) (W : Addr) : Prop where
  ha : PySem.W.findIn K (.ref W) "__class__" = some (some (.builtin "object.__class__"))
  hn : PySem.W.specialIn K (.builtin "object.__class__") "__get__" = some (some (.builtin "getset_descriptor.__get__"))
  ht : PySem.W.takesIn K (.builtin "object.__class__") = some true
  hm : PySem.W.mroIn K W (.type "object") = some true
  no : ∀ T ∈ tys, PySem.W.kitOne K (.type T) (.ref W) = some false
/-- how the class is called -/
structure WMk (P : Program) (w : World) (K : PySem.W.Frag) (mg : Str → Option Value) (base : Heap) (C W : Addr) : Prop where
  ex : ∃ (fI : Addr) (fd : FuncData), Mk K W fI ∧ FnOk P w K mg base (L2.CX P w) 11 fI fd ["self", "units", "scale"] (spWI C W) ∧ Binds K fd ["self", "units", "scale"] [] ∧ ∃ ds, Vals [V.int 0] ds ∧ Binds K fd ["self", "units", "scale"] ds
theorem WAt.same {H H' : Hp} {a : Addr} {u : Int} {s : Nat} (h : WAt W H a u s) (z : Same H H') : WAt W H' a u s := by
  obtain ⟨dx, e⟩ := h
  exact ⟨dx, z _ _ e⟩
/-- what the call Worth(x, y) gives -/
def spWorth (C W : Addr) : Sp := fun vs H Q E => ∃ x y : V, vs = [x, y] ∧ Thing H x ∧ Thing H y ∧ (Own.isInt x = false → Bad C "value" x H E) ∧ (Own.isInt x = true → isWh y = false → Bad C "value" y H E) ∧
  ∀ (u : Int) (s : Nat), x = .int u → y = .int s → s < 500 ∧ ∀ (u' : Int) (s' : Nat) (a : Addr) (H' : Hp), IsLow u s u' s' → Same H H' → H a = none → WAt W H' a u' s' → Q (.ref a) H'
theorem worth_make {vs : List V} {H : Hp} {Q : VK} {E : XK} (h : spWorth C W vs H Q E) (a dx : Addr) (na : H a = none) (nd : H dx = none) (ne : dx ≠ a) : spWI C W (.ref a :: vs) (upd (upd H dx (.own a)) a (.ins W dx [])) (fun v H2 => v = .non ∧ Q (.ref a) H2) E := by
  obtain ⟨x, y, rfl, tx, ty, q1, q2, q3⟩ := h
  have na1 : upd H dx (.own a) a = none := (upd_ne ne.symm).trans na
  have s1 : Same H (upd (upd H dx (.own a)) a (.ins W dx [])) := (same_new nd).trans (same_new na1)
  refine ⟨a, dx, x, y, rfl, upd_same, tx.same s1, ty.same s1, fun z => (q1 z).same s1, fun z1 z2 => (q2 z1 z2).same s1, fun u s e1 e2 => ?_⟩
  obtain ⟨hs, q⟩ := q3 u s e1 e2
  refine ⟨hs, fun u' s' H' lw kp ha => ⟨rfl, q u' s' a H' lw (fun b o e => ?_) na ⟨dx, ha⟩⟩⟩
  have ba : b ≠ a := ne_of_none e na
  exact kp _ _ ba (s1 _ _ e)
section
variable {X : Cx} {k : Nat} {E : XK} {x : Str} {p pos : Pos} {e1 e2 : Expr} {t : TA}
/-- Worth(e1, e2) -/
theorem pe_worth (M : WMk X.prog X.w X.K X.mg X.base C W) (T : WorthC X.K X.mg W) (hr : Room k X.A) (hk : 12 ≤ k) (hg : Gl X "Worth") (hx : Passes (L2.CX X.prog X.w) X E) (ha : PA X [e1, e2] t)
    (he : starEach [e1, e2] X.env = (false, eval e1 X.env) :: starEach [e2] X.env := by rfl) (hpl : (backTo pos (starEach [e2] X.env)).any (·.1) = false := by rfl) : PE X (.Call (.Name "Worth" p) [e1, e2] [] pos) (tCall (spWorth C W) [] E t) := by
  obtain ⟨fI, fd, mk, F, b2, _⟩ := M.ex
  constructor
  intro pins s σ H Q I h
  refine wpAny_Call_Name_kw (ld_glob I hg T.g ?_ (by decide))
  refine PySem.W.callWith_K (h₀ := X.base) I.ok.mod.kin mk.kp (thn (ha.run pos pins s σ H _ I h) ?_) he hpl
  rintro us s1 ⟨vs, H1, I1, r, q⟩
  refine ⟨I1.kIn, run_make mk F (hr.mono hk) b2 .nil hx I1 r fun a dx na nd ne => ?_⟩
  rw [List.append_nil] at q ⊢
  exact worth_make q a dx na nd ne
/-- Worth(e1) -/
theorem pe_worth1 (M : WMk X.prog X.w X.K X.mg X.base C W) (T : WorthC X.K X.mg W) (hr : Room k X.A) (hk : 12 ≤ k) (hg : Gl X "Worth") (hx : Passes (L2.CX X.prog X.w) X E) {te : TE} (ha : PE X e1 te)
    (he : starEach [e1] X.env = (false, eval e1 X.env) :: starEach [] X.env := by rfl) (hpl : (backTo pos (starEach [] X.env)).any (·.1) = false := by rfl) : PE X (.Call (.Name "Worth" p) [e1] [] pos) (fun σ H Q => tCons te tNil σ H fun vs H1 => ∃ v, vs = [v] ∧ spWorth C W [v, .int 0] H1 Q E) := by
  obtain ⟨fI, fd, mk, F, _, ds, rd, b1⟩ := M.ex
  constructor
  intro pins s σ H Q I h
  refine wpAny_Call_Name_kw (ld_glob I hg T.g ?_ (by decide))
  refine PySem.W.callWith_K (h₀ := X.base) I.ok.mod.kin mk.kp (thn ((pa_cons ha pa_nil he).run pos pins s σ H (fun vs H1 => ∃ v, vs = [v] ∧ spWorth C W [v, .int 0] H1 Q E) I h) ?_) he hpl
  rintro us s1 ⟨vs, H1, I1, r, v, rfl, q⟩
  exact ⟨I1.kIn, run_make mk F (hr.mono hk) b1 rd hx I1 r fun a dx na nd ne => worth_make q a dx na nd ne⟩
end
/-! ### as_worth -/
theorem scAsW : FnScope ["value"] ["value"] (defScope pAsW) := ⟨rfl, rfl, rfl, by decide +kernel, rfl, by decide +kernel, by decide +kernel⟩
/-- a Worth as it is; an integer at the scale 0; anything else refused -/
def spAsW (C W : Addr) : Sp := fun vs H Q E => ∃ x : V, vs = [x] ∧ ((∃ (a : Addr) (u : Int) (s : Nat), x = .ref a ∧ WAt W H a u s ∧ Q (.ref a) H) ∨
  (Thing H x ∧ (Own.isInt x = false → Bad C "value" x H E) ∧ ∀ (u : Int) (a : Addr) (H' : Hp), x = .int u → Same H H' → H a = none → WAt W H' a u 0 → Q (.ref a) H'))
theorem low0 {u u' : Int} {s' : Nat} (h : IsLow u 0 u' s') : u' = u ∧ s' = 0 := by
  have a := h.le
  have z : s' = 0 := by omega
  subst z
  have e := h.eq
  simp at e
  exact ⟨e.symm, rfl⟩
theorem ok_asW (A : At K mg "as_worth" pAsW ["value"]) (B : Blt mg) (T : WorthC K mg W) (I : WIs K W) (M : WMk P w K mg base C W) : DefOk P w K mg base (L2.CX P w) "as_worth" 13 ["value"] (spAsW C W) := by
  refine A.ok fun f fd F => F.okX scAsW (fun vs H Q E h => ?_) (fun cdv A outer s H vs Q E hr h => ?_)
  · obtain ⟨x, rfl, _⟩ := h
    rfl
  · obtain ⟨x, rfl, h⟩ := h
    refine ⟨_, pss_one (ps_ret (pe_ifExp (pt_val (pe_callB call_isi (by rfl) B.isi (by decide +kernel) (pa_cons (pv 0) (pa_cons (pe_glob (v := .ref W) (by rfl) T.g rfl) pa_nil)))) (pv 0)
      (pe_worth1 (E := E) M T hr (by decide) (by rfl) (passes_call (takes_of rfl rfl rfl rfl) fun _ _ _ _ z => z) (pv 0)))), ?_⟩
    rcases h with ⟨a, u, s', rfl, wa, q⟩ | ⟨th, q1, q2⟩
    · obtain ⟨dx, ea⟩ := id wa
      refine ⟨_, rfl, _, _, _, _, true, rfl, .own W, .base (.ins ea T.cls I.ha I.hn I.ht I.hm), by unfold PySem.W.kitOne; rw [if_pos (by simp)], _, rfl, iteT ⟨_, rfl, q⟩⟩
    · obtain ⟨ty, hty, tx⟩ := th.tyx (K := K)
      refine ⟨_, rfl, _, _, _, _, false, rfl, .own W, tx, I.no ty hty, _, rfl, iteF ⟨_, rfl, _, rfl, _, _, rfl, th, .int 0, q1, (fun _ z => absurd z (by decide)), fun u s e1 e2 => ?_⟩⟩
      have e3 : (0 : Int) = (s : Int) := V.int.inj e2
      obtain rfl : s = 0 := by omega
      refine ⟨by decide, fun u' s' a H' lw sm na wa => ?_⟩
      obtain ⟨rfl, rfl⟩ := low0 lw
      exact q2 _ a H' e1 sm na wa
end
end K05

/-! k05: units_at, sign, +. -/
namespace K05
open PySem PySem.Spec PyProof.Rows L2 LamX NdefX Own
section
variable {P : Program} {w : World} {K : PySem.W.Frag} {mg : Str → Option Value} {base : Heap} {C C2 W : Addr}
theorem scUat : FnScope ["self", "scale"] ["self", "scale"] (defScope (wI 14)) := ⟨rfl, rfl, rfl, by decide +kernel, rfl, by decide +kernel, by decide +kernel⟩
/-- units_at, at a scale that the worth has -/
def spUat (W : Addr) : Sp := fun vs H Q _ => ∃ (a : Addr) (u : Int) (s n : Nat), vs = [.ref a, .int n] ∧ WAt W H a u s ∧ s ≤ n ∧ n < 500 ∧ u.natAbs < 2 ^ 90000 ∧ Q (.int (u * (10 : Int) ^ (n - s))) H
theorem lk_u (u : Int) (s : Nat) : (wRow u s).lookup ("units" : Str) = some (.int u) := wLk_u u s
theorem lk_s (u : Int) (s : Nat) : (wRow u s).lookup ("scale" : Str) = some (.int s) := wLk_s u s
theorem ok_uat {f : Addr} {fd : FuncData} (F : Fun K "units_at" "Worth.units_at" (wI 14) f fd) (T : WorthC K mg W) (T2 : ErrC P w K mg base "TooFine" "scale" 1 C2 (spErr C2 "scale")) (D1 : DefOk P w K mg base (L2.CX P w) "need_whole_number" 3 ["value"] (spNWh C)) (D2 : DefOk P w K mg base CX0 "ten_to" 9 ["places"] (spTenTo 8)) :
    FnOk P w K mg base (L2.CX P w) 10 f fd ["self", "scale"] (spUat W) := by
  refine F.okX scUat (fun vs H Q E h => ?_) (fun cdv A outer s0 H vs Q E hr h => ?_)
  · obtain ⟨a, u, s, n, rfl, _⟩ := h
    rfl
  · obtain ⟨a, u, s, n, rfl, ⟨dx, ea⟩, hle, hn, hu, q⟩ := h
    refine ⟨_, pss_cons (ps_expr (pe_def (E := E) D1 hr (by decide) (by rfl) (passes_call (takes_of rfl rfl rfl rfl) fun _ _ _ _ z => z) (pa_cons (pv 1) pa_nil)))
      (pss_cons (ps_if (pt_cmpR op_lt (pv 1) (pe_fld (pv 0) (by rfl)) (nomark _)) (pss_one (ps_raise rfl (takes_of rfl rfl rfl rfl) (pmk_err T2 hr (by decide) (by rfl) (pe_fld (pv 0) (by rfl))))) pss_nil)
      (pss_one (ps_ret (pe_op op_mulW (pe_fld (pv 0) (by rfl)) (pe_def (E := E) D2 hr (by decide) (by rfl) pass0 (pa_cons (pe_op op_sub (pv 1) (pe_fld (pv 0) (by rfl))) pa_nil)))))), ?_⟩
    refine ⟨_, rfl, .int n, rfl, .int _, fun _ => ?_, fun z => ?_⟩
    · refine ⟨_, rfl, _, rfl, a, W, dx, _, .int s, rfl, ea, T.cls, T.ns, lk_s _ _, _, _, rfl, rfl, _, rfl, ite2 (fun e => ?_) (fun e => ?_)⟩
      · have z : (n : Int) < (s : Int) := of_decide_eq_true e
        omega
      · refine ⟨_, rfl, a, W, dx, _, .int u, rfl, ea, T.cls, T.nu, lk_u _ _, _, rfl, _, rfl, a, W, dx, _, .int s, rfl, ea, T.cls, T.ns, lk_s _ _, _, _, rfl, rfl, ?_⟩
        have e2 : (n : Int) - (s : Int) = ((n - s : Nat) : Int) := by omega
        dsimp only
        rw [e2]
        exact ⟨n - s, rfl, by omega, _, _, rfl, rfl, wide_mul hu (ten_lt (n - s)) (by decide) (by omega) (by omega), q⟩
    · have z' : isWh (.int (n : Int)) = true := by
        show decide (0 ≤ (n : Int)) = true
        exact decide_eq_true (by omega)
      rw [z'] at z
      cases z
end
end K05

/-! k05: sums and differences of Worths. -/
namespace K05
open PySem PySem.Spec PyProof.Rows L2 LamX NdefX Own
section
variable {P : Program} {w : World} {K : PySem.W.Frag} {mg : Str → Option Value} {base : Heap} {C C2 W : Addr}
/-- a method by its name -/
structure WMeth (P : Program) (w : World) (K : PySem.W.Frag) (mg : Str → Option Value) (base : Heap) (W : Addr) (m : Str) (k : Nat) (ps : List Str) (sp : Sp) : Prop where
  ex : ∃ (f : Addr) (fd : FuncData), Meth K W m f ∧ FnOk P w K mg base (L2.CX P w) k f fd ps sp ∧ Binds K fd ps []
/-- u units at the scale s, told at the scale n -/
def at_ (u : Int) (s n : Nat) : Int := u * (10 : Int) ^ (n - s)
/-- what a new worth of v units at n is told as -/
def Gives (W : Addr) (H : Hp) (v : Int) (n : Nat) (Q : VK) : Prop := ∀ (u' : Int) (s' : Nat) (p : Addr) (H' : Hp), IsLow v n u' s' → Same H H' → H p = none → WAt W H' p u' s' → Q (.ref p) H'
def Small (u : Int) (s : Nat) : Prop := s < 250 ∧ u.natAbs < 2 ^ 40000
/-- self op other, other a worth, an integer or refused -/
def spBin (C W : Addr) (f : Int → Int → Int) : Sp := fun vs H Q E => ∃ (a : Addr) (u : Int) (s : Nat) (y : V), vs = [.ref a, y] ∧ WAt W H a u s ∧ Small u s ∧
  ((∃ (b : Addr) (u2 : Int) (s2 : Nat), y = .ref b ∧ WAt W H b u2 s2 ∧ Small u2 s2 ∧ Gives W H (f (at_ u s (max s s2)) (at_ u2 s2 (max s s2))) (max s s2) Q) ∨
    (Thing H y ∧ (Own.isInt y = false → Bad C "value" y H E) ∧ ∀ n : Int, y = .int n → Small n 0 ∧ Gives W H (f (at_ u s s) (at_ n 0 s)) s Q))
theorem Gives.same {H H' : Hp} {v : Int} {n : Nat} {Q : VK} (h : Gives W H v n Q) (s : Same H H') : Gives W H' v n Q := fun u' s' p H2 lw s2 np wp => h u' s' p H2 lw (s.trans s2) (s.free np) wp
theorem lk_m {m : Str} (u : Int) (s : Nat) (h1 : (m == "units") = false) (h2 : (m == "scale") = false) (h3 : (m == "floor") = false := by decide +kernel) (h4 : (m == "more") = false := by decide +kernel) : (wRow u s).lookup m = none := wLk_no u s h1 h2 h3 h4
theorem at_lt {u : Int} {s n : Nat} (h : u.natAbs < 2 ^ 40000) (hn : n < 500) : (at_ u s n).natAbs < 2 ^ 50000 := up_two (wide_lt h (ten_lt (n - s))) (by omega)
theorem scAdd : FnScope ["self", "other", "scale"] ["self", "other"] (defScope (wI 4)) := ⟨rfl, rfl, rfl, by decide +kernel, rfl, by decide +kernel, by decide +kernel⟩
theorem max_if (s s2 : Nat) : (if ((s2 : Nat) : Int) > ((s : Nat) : Int) then ((s2 : Nat) : Int) else ((s : Nat) : Int)) = ((max s s2 : Nat) : Int) := by
  by_cases h : s < s2
  · rw [if_pos (by omega)]
    omega
  · rw [if_neg (by omega)]
    omega
theorem ok_add {g : Addr} {fd : FuncData} (F : Fun K "__add__" "Worth.__add__" (wI 4) g fd) (B : Blt mg) (T : WorthC K mg W) (M : WMk P w K mg base C W) (D1 : DefOk P w K mg base (L2.CX P w) "as_worth" 13 ["value"] (spAsW C W)) (D2 : WMeth P w K mg base W "units_at" 10 ["self", "scale"] (spUat W)) :
    FnOk P w K mg base (L2.CX P w) 14 g fd ["self", "other"] (spBin C W (· + ·)) := by
  refine F.okX scAdd (fun vs H Q E h => ?_) (fun cdv A outer s0 H vs Q E hr h => ?_)
  · obtain ⟨a, u, s, y, rfl, _⟩ := h
    rfl
  · obtain ⟨a, u, s, y, rfl, wa, sm, h⟩ := h
    obtain ⟨fU, fdU, mU, FU, bU⟩ := D2.ex
    have nd := scAdd.nd
    refine ⟨_, C8.pss_cut (ps_set (i := 1) nd rfl (.inl rfl) (pe_def (E := E) D1 hr (by decide) (by rfl) (passes_call (takes_of rfl rfl rfl rfl) fun _ _ _ _ z => z) (pa_cons (pv 1) pa_nil)))
      (pss_cons (ps_set (i := 2) nd rfl (.inl rfl) (pe_callB (call_max2 rfl) (by rfl) B.max (by decide +kernel) (pa_cons (pe_fld (pv 0) (by rfl)) (pa_cons (pe_fld (pv 1) (by rfl)) pa_nil))))
      (pss_one (ps_ret (pe_worth (E := E) M T hr (by decide) (by rfl) (passes_call (takes_of rfl rfl rfl rfl) fun _ _ _ _ z => z)
        (pa_cons (pe_op op_add (pe_meth (E := E) (pv 0) T.cls mU FU (hr.mono (by decide)) bU .nil (passes_call (takes_of rfl rfl rfl rfl) fun _ _ _ _ z => z) (pa_cons (pv 2) pa_nil))
          (pe_meth (E := E) (pv 1) T.cls mU FU (hr.mono (by decide)) bU .nil (passes_call (takes_of rfl rfl rfl rfl) fun _ _ _ _ z => z) (pa_cons (pv 2) pa_nil))) (pa_cons (pv 2) pa_nil)))))), ?_⟩
    refine ⟨fun σ H1 => ∃ (b : Addr) (u2 : Int) (s2 : Nat), σ = [some (.ref a), some (.ref b), none] ∧ WAt W H1 a u s ∧ WAt W H1 b u2 s2 ∧ Small u2 s2 ∧ Gives W H1 (at_ u s (max s s2) + at_ u2 s2 (max s s2)) (max s s2) Q, ?_, ?_⟩
    · refine ⟨_, rfl, y, rfl, ?_⟩
      rcases h with ⟨b, u2, s2, rfl, wb, sm2, gv⟩ | ⟨th, bad, hn⟩
      · exact .inl ⟨b, u2, s2, rfl, wb, b, u2, s2, rfl, wa, wb, sm2, gv⟩
      · refine .inr ⟨th, bad, fun n p H' e sm' np wp => ⟨p, n, 0, rfl, wa.same sm', wp, (hn n e).1, ?_⟩⟩
        rw [show max s 0 = s by omega]
        exact (hn n e).2.same sm'
    · rintro σ H1 ⟨b, u2, s2, rfl, ⟨dx, ea⟩, ⟨dy, eb⟩, sm2, gv⟩
      refine ⟨_, rfl, a, W, dx, _, .int s, rfl, ea, T.cls, T.ns, lk_s _ _, _, rfl, b, W, dy, _, .int s2, rfl, eb, T.cls, T.ns, lk_s _ _, _, _, rfl, ?_⟩
      dsimp only [gName, List.set]
      rw [max_if]
      have m1 : max s s2 < 500 := by
        have := sm.1
        have := sm2.1
        omega
      refine ⟨_, rfl, a, dx, _, rfl, ea, lk_m _ _ (by decide +kernel) (by decide +kernel), _, rfl, a, u, s, max s s2, rfl, ⟨dx, ea⟩, by omega, m1, up_two sm.2 (by decide), ?_⟩
      refine ⟨_, rfl, b, dy, _, rfl, eb, lk_m _ _ (by decide +kernel) (by decide +kernel), _, rfl, b, u2, s2, max s s2, rfl, ⟨dy, eb⟩, by omega, m1, up_two sm2.2 (by decide), ?_⟩
      refine ⟨_, _, rfl, rfl, _, rfl, .int _, .int _, rfl, .int _, .int _, (fun z => by cases z), (fun _ z => ?_), fun U S e1 e2 => ?_⟩
      · have z' : isWh (.int ((max s s2 : Nat) : Int)) = true := by
          show decide (0 ≤ ((max s s2 : Nat) : Int)) = true
          exact decide_eq_true (by omega)
        rw [z'] at z
        cases z
      · have e3 : ((max s s2 : Nat) : Int) = (S : Int) := V.int.inj e2
        obtain rfl : S = max s s2 := by omega
        have e4 := V.int.inj e1
        rw [← e4]
        exact ⟨m1, fun u' s' p H' lw sm' np wp => gv u' s' p H' lw sm' np wp⟩
end
end K05

/-! k05: the other operators of Worths. -/
namespace K05
open PySem PySem.Spec PyProof.Rows L2 LamX NdefX Own
section
variable {P : Program} {w : World} {K : PySem.W.Frag} {mg : Str → Option Value} {base : Heap} {C C2 W : Addr}
theorem scSub : FnScope ["self", "other", "scale"] ["self", "other"] (defScope (wI 6)) := ⟨rfl, rfl, rfl, by decide +kernel, rfl, by decide +kernel, by decide +kernel⟩
theorem ok_sub {g : Addr} {fd : FuncData} (F : Fun K "__sub__" "Worth.__sub__" (wI 6) g fd) (B : Blt mg) (T : WorthC K mg W) (M : WMk P w K mg base C W) (D1 : DefOk P w K mg base (L2.CX P w) "as_worth" 13 ["value"] (spAsW C W)) (D2 : WMeth P w K mg base W "units_at" 10 ["self", "scale"] (spUat W)) :
    FnOk P w K mg base (L2.CX P w) 14 g fd ["self", "other"] (spBin C W (· - ·)) := by
  refine F.okX scSub (fun vs H Q E h => ?_) (fun cdv A outer s0 H vs Q E hr h => ?_)
  · obtain ⟨a, u, s, y, rfl, _⟩ := h
    rfl
  · obtain ⟨a, u, s, y, rfl, wa, sm, h⟩ := h
    obtain ⟨fU, fdU, mU, FU, bU⟩ := D2.ex
    have nd := scSub.nd
    refine ⟨_, C8.pss_cut (ps_set (i := 1) nd rfl (.inl rfl) (pe_def (E := E) D1 hr (by decide) (by rfl) (passes_call (takes_of rfl rfl rfl rfl) fun _ _ _ _ z => z) (pa_cons (pv 1) pa_nil)))
      (pss_cons (ps_set (i := 2) nd rfl (.inl rfl) (pe_callB (call_max2 rfl) (by rfl) B.max (by decide +kernel) (pa_cons (pe_fld (pv 0) (by rfl)) (pa_cons (pe_fld (pv 1) (by rfl)) pa_nil))))
      (pss_one (ps_ret (pe_worth (E := E) M T hr (by decide) (by rfl) (passes_call (takes_of rfl rfl rfl rfl) fun _ _ _ _ z => z)
        (pa_cons (pe_op op_sub (pe_meth (E := E) (pv 0) T.cls mU FU (hr.mono (by decide)) bU .nil (passes_call (takes_of rfl rfl rfl rfl) fun _ _ _ _ z => z) (pa_cons (pv 2) pa_nil))
          (pe_meth (E := E) (pv 1) T.cls mU FU (hr.mono (by decide)) bU .nil (passes_call (takes_of rfl rfl rfl rfl) fun _ _ _ _ z => z) (pa_cons (pv 2) pa_nil))) (pa_cons (pv 2) pa_nil)))))), ?_⟩
    refine ⟨fun σ H1 => ∃ (b : Addr) (u2 : Int) (s2 : Nat), σ = [some (.ref a), some (.ref b), none] ∧ WAt W H1 a u s ∧ WAt W H1 b u2 s2 ∧ Small u2 s2 ∧ Gives W H1 (at_ u s (max s s2) - at_ u2 s2 (max s s2)) (max s s2) Q, ?_, ?_⟩
    · refine ⟨_, rfl, y, rfl, ?_⟩
      rcases h with ⟨b, u2, s2, rfl, wb, sm2, gv⟩ | ⟨th, bad, hn⟩
      · exact .inl ⟨b, u2, s2, rfl, wb, b, u2, s2, rfl, wa, wb, sm2, gv⟩
      · refine .inr ⟨th, bad, fun n p H' e sm' np wp => ⟨p, n, 0, rfl, wa.same sm', wp, (hn n e).1, ?_⟩⟩
        rw [show max s 0 = s by omega]
        exact (hn n e).2.same sm'
    · rintro σ H1 ⟨b, u2, s2, rfl, ⟨dx, ea⟩, ⟨dy, eb⟩, sm2, gv⟩
      refine ⟨_, rfl, a, W, dx, _, .int s, rfl, ea, T.cls, T.ns, lk_s _ _, _, rfl, b, W, dy, _, .int s2, rfl, eb, T.cls, T.ns, lk_s _ _, _, _, rfl, ?_⟩
      dsimp only [gName, List.set]
      rw [max_if]
      have m1 : max s s2 < 500 := by
        have := sm.1
        have := sm2.1
        omega
      refine ⟨_, rfl, a, dx, _, rfl, ea, lk_m _ _ (by decide +kernel) (by decide +kernel), _, rfl, a, u, s, max s s2, rfl, ⟨dx, ea⟩, by omega, m1, up_two sm.2 (by decide), ?_⟩
      refine ⟨_, rfl, b, dy, _, rfl, eb, lk_m _ _ (by decide +kernel) (by decide +kernel), _, rfl, b, u2, s2, max s s2, rfl, ⟨dy, eb⟩, by omega, m1, up_two sm2.2 (by decide), ?_⟩
      refine ⟨_, _, rfl, rfl, _, rfl, .int _, .int _, rfl, .int _, .int _, (fun z => by cases z), (fun _ z => ?_), fun U S e1 e2 => ?_⟩
      · have z' : isWh (.int ((max s s2 : Nat) : Int)) = true := by
          show decide (0 ≤ ((max s s2 : Nat) : Int)) = true
          exact decide_eq_true (by omega)
        rw [z'] at z
        cases z
      · have e3 : ((max s s2 : Nat) : Int) = (S : Int) := V.int.inj e2
        obtain rfl : S = max s s2 := by omega
        have e4 := V.int.inj e1
        rw [← e4]
        exact ⟨m1, fun u' s' p H' lw sm' np wp => gv u' s' p H' lw sm' np wp⟩
/-- other op self, other no worth -/
def spRef (C W : Addr) (f : Int → Int → Int) : Sp := fun vs H Q E => ∃ (a : Addr) (u : Int) (s : Nat) (y : V), vs = [.ref a, y] ∧ WAt W H a u s ∧ Small u s ∧ Thing H y ∧ (Own.isInt y = false → Bad C "value" y H E) ∧ ∀ n : Int, y = .int n → Small n 0 ∧ Gives W H (f (at_ n 0 s) (at_ u s s)) s Q
theorem scRadd : FnScope ["self", "other"] ["self", "other"] (defScope (wI 5)) := ⟨rfl, rfl, rfl, by decide +kernel, rfl, by decide +kernel, by decide +kernel⟩
/-- the class's own operator -/
structure WOp (P : Program) (w : World) (K : PySem.W.Frag) (mg : Str → Option Value) (base : Heap) (W : Addr) (op : Operator) (k : Nat) (sp : Sp) : Prop where
  ex : ∃ (f : Addr) (fd : FuncData), PySem.W.selfFirst K W = true ∧ PySem.W.findIn K (.ref W) (PySem.dunder op.info.2) = some (some (.ref f)) ∧ PySem.W.isFn K (.ref f) = true ∧ FnOk P w K mg base (L2.CX P w) k f fd ["self", "other"] sp ∧ Binds K fd ["self", "other"] []
theorem ok_radd {g : Addr} {fd : FuncData} (F : Fun K "__radd__" "Worth.__radd__" (wI 5) g fd) (D1 : DefOk P w K mg base (L2.CX P w) "as_worth" 13 ["value"] (spAsW C W)) (D2 : WOp P w K mg base W .Add 14 (spBin C W (· + ·))) :
    FnOk P w K mg base (L2.CX P w) 15 g fd ["self", "other"] (spRef C W (· + ·)) := by
  refine F.okX scRadd (fun vs H Q E h => ?_) (fun cdv A outer s0 H vs Q E hr h => ?_)
  · obtain ⟨a, u, s, y, rfl, _⟩ := h
    rfl
  · obtain ⟨a, u, s, y, rfl, wa, sm, th, bad, hn⟩ := h
    obtain ⟨fA, fdA, c1, c2, c3, FA, bA⟩ := D2.ex
    refine ⟨_, pss_one (ps_ret (pe_op (op_own (op := .Add) (E := E) FA hr c1 c2 c3 bA (passes_call (takes_of rfl rfl rfl rfl) fun _ _ _ _ z => z)) (pe_def (E := E) D1 hr (by decide) (by rfl) (passes_call (takes_of rfl rfl rfl rfl) fun _ _ _ _ z => z) (pa_cons (pv 1) pa_nil)) (pv 0))), ?_⟩
    refine ⟨_, rfl, y, rfl, .inr ⟨th, bad, fun n p H' e sm' np wp => ?_⟩⟩
    obtain ⟨sn, gv⟩ := hn n e
    obtain ⟨dx, ea⟩ := wa.same sm'
    obtain ⟨dp, ep⟩ := id wp
    refine ⟨_, rfl, p, a, dp, dx, _, _, rfl, rfl, ep, ea, p, n, 0, .ref a, rfl, wp, sn, .inl ⟨a, u, s, rfl, ⟨dx, ea⟩, sm, ?_⟩⟩
    rw [show max 0 s = s by omega]
    exact gv.same sm'
theorem scRsub : FnScope ["self", "other"] ["self", "other"] (defScope (wI 7)) := ⟨rfl, rfl, rfl, by decide +kernel, rfl, by decide +kernel, by decide +kernel⟩
theorem ok_rsub {g : Addr} {fd : FuncData} (F : Fun K "__rsub__" "Worth.__rsub__" (wI 7) g fd) (D1 : DefOk P w K mg base (L2.CX P w) "as_worth" 13 ["value"] (spAsW C W)) (D2 : WOp P w K mg base W .Sub 14 (spBin C W (· - ·))) :
    FnOk P w K mg base (L2.CX P w) 15 g fd ["self", "other"] (spRef C W (· - ·)) := by
  refine F.okX scRsub (fun vs H Q E h => ?_) (fun cdv A outer s0 H vs Q E hr h => ?_)
  · obtain ⟨a, u, s, y, rfl, _⟩ := h
    rfl
  · obtain ⟨a, u, s, y, rfl, wa, sm, th, bad, hn⟩ := h
    obtain ⟨fA, fdA, c1, c2, c3, FA, bA⟩ := D2.ex
    refine ⟨_, pss_one (ps_ret (pe_op (op_own (op := .Sub) (E := E) FA hr c1 c2 c3 bA (passes_call (takes_of rfl rfl rfl rfl) fun _ _ _ _ z => z)) (pe_def (E := E) D1 hr (by decide) (by rfl) (passes_call (takes_of rfl rfl rfl rfl) fun _ _ _ _ z => z) (pa_cons (pv 1) pa_nil)) (pv 0))), ?_⟩
    refine ⟨_, rfl, y, rfl, .inr ⟨th, bad, fun n p H' e sm' np wp => ?_⟩⟩
    obtain ⟨sn, gv⟩ := hn n e
    obtain ⟨dx, ea⟩ := wa.same sm'
    obtain ⟨dp, ep⟩ := id wp
    refine ⟨_, rfl, p, a, dp, dx, _, _, rfl, rfl, ep, ea, p, n, 0, .ref a, rfl, wp, sn, .inl ⟨a, u, s, rfl, ⟨dx, ea⟩, sm, ?_⟩⟩
    rw [show max 0 s = s by omega]
    exact gv.same sm'
end
end K05

/-! k05: products, negatives, sizes, signs, equality of Worths. -/
namespace K05
open PySem PySem.Spec PyProof.Rows L2 LamX NdefX Own
section
variable {P : Program} {w : World} {K : PySem.W.Frag} {mg : Str → Option Value} {base : Heap} {C C2 W : Addr}
theorem isWh_cast (n : Nat) : isWh (.int (n : Int)) = true := by
  show decide (0 ≤ (n : Int)) = true
  exact decide_eq_true (by omega)
/-- a new worth of v units at n -/
theorem worth_of {H : Hp} {v : Int} {n : Nat} {Q : VK} {E : XK} (hn : n < 500) (gv : Gives W H v n Q) : spWorth C W [.int v, .int n] H Q E := by
  refine ⟨.int v, .int n, rfl, .int _, .int _, (fun z => by cases z), (fun _ z => ?_), fun U S e1 e2 => ?_⟩
  · rw [isWh_cast] at z
    cases z
  · have e3 : (n : Int) = (S : Int) := V.int.inj e2
    obtain rfl : S = n := by omega
    rw [← V.int.inj e1]
    exact ⟨hn, gv⟩
theorem scMul : FnScope ["self", "other"] ["self", "other"] (defScope (wI 8)) := ⟨rfl, rfl, rfl, by decide +kernel, rfl, by decide +kernel, by decide +kernel⟩
def spMulW (C W : Addr) : Sp := fun vs H Q E => ∃ (a : Addr) (u : Int) (s : Nat) (y : V), vs = [.ref a, y] ∧ WAt W H a u s ∧ Small u s ∧
  ((∃ (b : Addr) (u2 : Int) (s2 : Nat), y = .ref b ∧ WAt W H b u2 s2 ∧ Small u2 s2 ∧ Gives W H (u * u2) (s + s2) Q) ∨ (Thing H y ∧ (Own.isInt y = false → Bad C "value" y H E) ∧ ∀ n : Int, y = .int n → Small n 0 ∧ Gives W H (u * n) s Q))
theorem ok_mul {g : Addr} {fd : FuncData} (F : Fun K "__mul__" "Worth.__mul__" (wI 8) g fd) (T : WorthC K mg W) (M : WMk P w K mg base C W) (D1 : DefOk P w K mg base (L2.CX P w) "as_worth" 13 ["value"] (spAsW C W)) :
    FnOk P w K mg base (L2.CX P w) 14 g fd ["self", "other"] (spMulW C W) := by
  refine F.okX scMul (fun vs H Q E h => ?_) (fun cdv A outer s0 H vs Q E hr h => ?_)
  · obtain ⟨a, u, s, y, rfl, _⟩ := h
    rfl
  · obtain ⟨a, u, s, y, rfl, wa, sm, h⟩ := h
    have nd := scMul.nd
    refine ⟨_, C8.pss_cut (ps_set (i := 1) nd rfl (.inl rfl) (pe_def (E := E) D1 hr (by decide) (by rfl) (passes_call (takes_of rfl rfl rfl rfl) fun _ _ _ _ z => z) (pa_cons (pv 1) pa_nil)))
      (pss_one (ps_ret (pe_worth (E := E) M T hr (by decide) (by rfl) (passes_call (takes_of rfl rfl rfl rfl) fun _ _ _ _ z => z)
        (pa_cons (pe_op op_mulW (pe_fld (pv 0) (by rfl)) (pe_fld (pv 1) (by rfl))) (pa_cons (pe_op op_add (pe_fld (pv 0) (by rfl)) (pe_fld (pv 1) (by rfl))) pa_nil))))), ?_⟩
    refine ⟨fun σ H1 => ∃ (b : Addr) (u2 : Int) (s2 : Nat), σ = [some (.ref a), some (.ref b)] ∧ WAt W H1 a u s ∧ WAt W H1 b u2 s2 ∧ Small u2 s2 ∧ Gives W H1 (u * u2) (s + s2) Q, ?_, ?_⟩
    · refine ⟨_, rfl, y, rfl, ?_⟩
      rcases h with ⟨b, u2, s2, rfl, wb, sm2, gv⟩ | ⟨th, bad, hn⟩
      · exact .inl ⟨b, u2, s2, rfl, wb, b, u2, s2, rfl, wa, wb, sm2, gv⟩
      · exact .inr ⟨th, bad, fun n p H' e sm' np wp => ⟨p, n, 0, rfl, wa.same sm', wp, (hn n e).1, (hn n e).2.same sm'⟩⟩
    · rintro σ H1 ⟨b, u2, s2, rfl, ⟨dx, ea⟩, ⟨dy, eb⟩, sm2, gv⟩
      refine ⟨_, rfl, a, W, dx, _, .int u, rfl, ea, T.cls, T.nu, lk_u _ _, _, rfl, b, W, dy, _, .int u2, rfl, eb, T.cls, T.nu, lk_u _ _, _, _, rfl, rfl, wide_mul sm.2 sm2.2 (by decide) (by decide) (by decide), ?_⟩
      refine ⟨_, rfl, a, W, dx, _, .int s, rfl, ea, T.cls, T.ns, lk_s _ _, _, rfl, b, W, dy, _, .int s2, rfl, eb, T.cls, T.ns, lk_s _ _, _, _, rfl, rfl, ?_⟩
      have e2 : (s : Int) + (s2 : Int) = ((s + s2 : Nat) : Int) := by omega
      dsimp only
      rw [e2]
      have l1 := sm.1
      have l2 := sm2.1
      exact worth_of (by omega) gv
theorem scRmul : FnScope ["self", "other"] ["self", "other"] (defScope (wI 9)) := ⟨rfl, rfl, rfl, by decide +kernel, rfl, by decide +kernel, by decide +kernel⟩
def spRmul (C W : Addr) : Sp := fun vs H Q E => ∃ (a : Addr) (u : Int) (s : Nat) (y : V), vs = [.ref a, y] ∧ WAt W H a u s ∧ Small u s ∧ Thing H y ∧ (Own.isInt y = false → Bad C "value" y H E) ∧ ∀ n : Int, y = .int n → Small n 0 ∧ Gives W H (n * u) s Q
theorem ok_rmul {g : Addr} {fd : FuncData} (F : Fun K "__rmul__" "Worth.__rmul__" (wI 9) g fd) (D1 : DefOk P w K mg base (L2.CX P w) "as_worth" 13 ["value"] (spAsW C W)) (D2 : WOp P w K mg base W .Mult 14 (spMulW C W)) :
    FnOk P w K mg base (L2.CX P w) 15 g fd ["self", "other"] (spRmul C W) := by
  refine F.okX scRmul (fun vs H Q E h => ?_) (fun cdv A outer s0 H vs Q E hr h => ?_)
  · obtain ⟨a, u, s, y, rfl, _⟩ := h
    rfl
  · obtain ⟨a, u, s, y, rfl, wa, sm, th, bad, hn⟩ := h
    obtain ⟨fA, fdA, c1, c2, c3, FA, bA⟩ := D2.ex
    refine ⟨_, pss_one (ps_ret (pe_op (op_own (op := .Mult) (E := E) FA hr c1 c2 c3 bA (passes_call (takes_of rfl rfl rfl rfl) fun _ _ _ _ z => z)) (pe_def (E := E) D1 hr (by decide) (by rfl) (passes_call (takes_of rfl rfl rfl rfl) fun _ _ _ _ z => z) (pa_cons (pv 1) pa_nil)) (pv 0))), ?_⟩
    refine ⟨_, rfl, y, rfl, .inr ⟨th, bad, fun n p H' e sm' np wp => ?_⟩⟩
    obtain ⟨sn, gv⟩ := hn n e
    obtain ⟨dx, ea⟩ := wa.same sm'
    obtain ⟨dp, ep⟩ := id wp
    refine ⟨_, rfl, p, a, dp, dx, _, _, rfl, rfl, ep, ea, p, n, 0, .ref a, rfl, wp, sn, .inl ⟨a, u, s, rfl, ⟨dx, ea⟩, sm, ?_⟩⟩
    rw [show 0 + s = s by omega]
    exact gv.same sm'
theorem scNeg : FnScope ["self"] ["self"] (defScope (wI 10)) := ⟨rfl, rfl, rfl, by decide +kernel, rfl, by decide +kernel, by decide +kernel⟩
def spUn (W : Addr) (f : Int → Int) : Sp := fun vs H Q _ => ∃ (a : Addr) (u : Int) (s : Nat), vs = [.ref a] ∧ WAt W H a u s ∧ Small u s ∧ Gives W H (f u) s Q
theorem ok_neg {g : Addr} {fd : FuncData} (F : Fun K "__neg__" "Worth.__neg__" (wI 10) g fd) (T : WorthC K mg W) (M : WMk P w K mg base C W) : FnOk P w K mg base (L2.CX P w) 13 g fd ["self"] (spUn W fun u => -u) := by
  refine F.okX scNeg (fun vs H Q E h => ?_) (fun cdv A outer s0 H vs Q E hr h => ?_)
  · obtain ⟨a, u, s, rfl, _⟩ := h
    rfl
  · obtain ⟨a, u, s, rfl, ⟨dx, ea⟩, sm, gv⟩ := h
    refine ⟨_, pss_one (ps_ret (pe_worth (E := E) M T hr (by decide) (by rfl) (passes_call (takes_of rfl rfl rfl rfl) fun _ _ _ _ z => z) (pa_cons (pe_un un_neg (pe_fld (pv 0) (by rfl))) (pa_cons (pe_fld (pv 0) (by rfl)) pa_nil)))), ?_⟩
    refine ⟨_, rfl, a, W, dx, _, .int u, rfl, ea, T.cls, T.nu, lk_u _ _, u, rfl, _, rfl, a, W, dx, _, .int s, rfl, ea, T.cls, T.ns, lk_s _ _, ?_⟩
    have l1 := sm.1
    exact worth_of (by omega) gv
theorem scAbs : FnScope ["self"] ["self"] (defScope (wI 11)) := ⟨rfl, rfl, rfl, by decide +kernel, rfl, by decide +kernel, by decide +kernel⟩
theorem ok_abs {g : Addr} {fd : FuncData} (F : Fun K "__abs__" "Worth.__abs__" (wI 11) g fd) (B : Blt mg) (T : WorthC K mg W) (M : WMk P w K mg base C W) : FnOk P w K mg base (L2.CX P w) 13 g fd ["self"] (spUn W fun u => if u < 0 then -u else u) := by
  refine F.okX scAbs (fun vs H Q E h => ?_) (fun cdv A outer s0 H vs Q E hr h => ?_)
  · obtain ⟨a, u, s, rfl, _⟩ := h
    rfl
  · obtain ⟨a, u, s, rfl, ⟨dx, ea⟩, sm, gv⟩ := h
    refine ⟨_, pss_one (ps_ret (pe_worth (E := E) M T hr (by decide) (by rfl) (passes_call (takes_of rfl rfl rfl rfl) fun _ _ _ _ z => z) (pa_cons (pe_callB call_abs (by rfl) B.abs (by decide +kernel) (pa_cons (pe_fld (pv 0) (by rfl)) pa_nil)) (pa_cons (pe_fld (pv 0) (by rfl)) pa_nil)))), ?_⟩
    refine ⟨_, rfl, a, W, dx, _, .int u, rfl, ea, T.cls, T.nu, lk_u _ _, u, rfl, _, rfl, a, W, dx, _, .int s, rfl, ea, T.cls, T.ns, lk_s _ _, ?_⟩
    have l1 := sm.1
    exact worth_of (by omega) gv
def sgn (u : Int) : Int := if u = 0 then 0 else if 0 < u then 1 else -1
end
end K05

/-! k05: == of Worths, compare. -/
namespace K05
open PySem PySem.Spec PyProof.Rows L2 LamX NdefX Own
section
variable {P : Program} {w : World} {K : PySem.W.Frag} {mg : Str → Option Value} {base : Heap} {C C2 W : Addr}
theorem scEq : FnScope ["self", "other"] ["self", "other"] (defScope (wI 1)) := ⟨rfl, rfl, rfl, by decide +kernel, rfl, by decide +kernel, by decide +kernel⟩
def spEqW (W : Addr) : Sp := fun vs H Q _ => ∃ (a : Addr) (u : Int) (s : Nat) (y : V), vs = [.ref a, y] ∧ WAt W H a u s ∧ ((∃ (b : Addr) (u2 : Int) (s2 : Nat), y = .ref b ∧ WAt W H b u2 s2 ∧ ∀ H', Same H H' → Q (.bl (decide (u = u2) && decide (s = s2))) H') ∨ (Thing H y ∧ Q (.bl false) H))
theorem ok_eq {g : Addr} {fd : FuncData} (F : Fun K "__eq__" "Worth.__eq__" (wI 1) g fd) (B : Blt mg) (T : WorthC K mg W) (I : WIs K W) : FnOk P w K mg base (L2.CX P w) 1 g fd ["self", "other"] (spEqW W) := by
  refine F.okX scEq (fun vs H Q E h => ?_) (fun cdv A outer s0 H vs Q E hr h => ?_)
  · obtain ⟨a, u, s, y, rfl, _⟩ := h
    rfl
  · obtain ⟨a, u, s, y, rfl, ⟨dx, ea⟩, h⟩ := h
    refine ⟨_, pss_cons (ps_if (pt_not (pt_val (pe_callB call_isi (by rfl) B.isi (by decide +kernel) (pa_cons (pv 1) (pa_cons (pe_glob (v := .ref W) (by rfl) T.g rfl) pa_nil))))) (pss_one (ps_ret pe_bl)) pss_nil)
      (pss_one (ps_ret (pe_cmpR (op_eqD hr.units) (pe_tup (pa_cons (pe_fld (pv 0) (by rfl)) (pa_cons (pe_fld (pv 0) (by rfl)) pa_nil))) (pe_tup (pa_cons (pe_fld (pv 1) (by rfl)) (pa_cons (pe_fld (pv 1) (by rfl)) pa_nil))) (nomark _)))), ?_⟩
    rcases h with ⟨b, u2, s2, rfl, ⟨dy, eb⟩, q⟩ | ⟨th, q⟩
    · refine ⟨_, rfl, _, _, _, _, true, rfl, .own W, .base (.ins eb T.cls I.ha I.hn I.ht I.hm), by unfold PySem.W.kitOne; rw [if_pos (by simp)], _, rfl, iteF ?_⟩
      refine ⟨_, rfl, a, W, dx, _, .int (wFl u s), rfl, ea, T.cls, T.nf, wLk_f u s, _, rfl, a, W, dx, _, .str (wMo u s), rfl, ea, T.cls, T.nm, wLk_m u s, by show 2 ≤ sizeLine; decide, fun p np => ?_⟩
      have s1 := same_new (o := HO.tup [.int (wFl u s), .str (wMo u s)]) np
      have e1 : upd H p (.tup [.int (wFl u s), .str (wMo u s)]) p = some (.tup [.int (wFl u s), .str (wMo u s)]) := upd_same
      generalize upd H p (.tup [.int (wFl u s), .str (wMo u s)]) = H1 at s1 e1 ⊢
      have eb1 := s1 _ _ eb
      refine ⟨_, rfl, b, W, dy, _, .int (wFl u2 s2), rfl, eb1, T.cls, T.nf, wLk_f u2 s2, _, rfl, b, W, dy, _, .str (wMo u2 s2), rfl, eb1, T.cls, T.nm, wLk_m u2 s2, by show 2 ≤ sizeLine; decide, fun p2 np2 => ?_⟩
      have s2' := same_new (o := HO.tup [.int (wFl u2 s2), .str (wMo u2 s2)]) np2
      refine ⟨_, _, w_dp (s2' _ _ e1), w_dp upd_same, w_sh u s, w_sh u2 s2, ?_⟩
      rw [w_eqv]
      exact q _ (s1.trans s2')
    · obtain ⟨ty, hty, tx⟩ := th.tyx (K := K)
      exact ⟨_, rfl, _, _, _, _, false, rfl, .own W, tx, I.no ty hty, _, rfl, iteT q⟩
theorem sgn_mul {u : Int} {n : Nat} : sgn (u * (10 : Int) ^ n) = sgn u := by
  have p := ten_pos n
  unfold sgn
  by_cases h : u = 0
  · subst h
    simp
  · have h1 : u * (10 : Int) ^ n ≠ 0 := Int.mul_ne_zero h (by omega)
    rw [if_neg h, if_neg h1]
    by_cases h2 : 0 < u
    · rw [if_pos h2, if_pos (Int.mul_pos h2 p)]
    · have h3 : u * (10 : Int) ^ n < 0 := Int.mul_neg_of_neg_of_pos (by omega) p
      rw [if_neg h2, if_neg (by omega)]
end
end K05

/-! k05: the law's small defs. -/
namespace K05
open PySem PySem.Spec PyProof.Rows L2 LamX NdefX Own
abbrev sDrawn : Stmt := topS 27
abbrev sTold : Stmt := topS 29
section
variable {P : Program} {w : World} {K : PySem.W.Frag} {mg : Str → Option Value} {base : Heap} {C C2 W : Addr}
theorem scDrawn : FnScope ["_law_pen", "_law_units", "_law_scale"] ["_law_pen"] (defScope sDrawn) := ⟨rfl, rfl, rfl, by decide +kernel, rfl, by decide +kernel, by decide +kernel⟩
/-- a worth as a pair -/
def spDrawn : Sp := fun vs H Q _ => ∃ (d : Addr) (B : Int), vs = [.ref d] ∧ Pen H d B ∧ B ≤ 800000000 ∧ ∀ (u : Int) (s : Nat) (r : Addr) (H' : Hp), u.natAbs < 2 ^ 202 → s ≤ 40 → KeepP d H H' → Pen H' d (B + 1000) → H' r = some (.tup [.int u, .int s]) → r ≠ d → Q (.ref r) H'
theorem fig60 {v : Int} (h0 : 0 ≤ v) (h : v ≤ 3 * (10 : Int) ^ 60) : v.natAbs < 2 ^ 201 := by
  have c : (3 * (10 : Int) ^ 60) < 2 ^ 201 := by decide +kernel
  have e : ((2 : Int) ^ 201) = ((2 ^ 201 : Nat) : Int) := by decide +kernel
  omega
theorem ok_drawn (A : At K mg "_law_drawn" sDrawn ["_law_pen"]) (D1 : DefOk P w K mg base CX0 "_law_draw" 1 ["_law_pen", "_law_span"] spDraw) (D2 : DefOk P w K mg base CX0 "_law_pick" 2 ["_law_pen", "_law_some"] spPick) (D3 : DefOk P w K mg base CX0 "_law_figures" 2 ["_law_pen", "_law_most"] spFigs) :
    DefOk P w K mg base CX0 "_law_drawn" 3 ["_law_pen"] spDrawn := by
  refine A.ok fun f fd F => F.ok scDrawn (fun vs H Q E h => ?_) (fun cdv A outer s0 H vs Q E hr h => ?_)
  · obtain ⟨d, B, rfl, _⟩ := h
    rfl
  · obtain ⟨d, B, rfl, hp, hB, q⟩ := h
    have nd := scDrawn.nd
    refine ⟨_, pss_cons (ps_par (i := 1) (j := 2) (by rfl) nd rfl rfl (by decide) rfl rfl (pa_cons (pe_def D3 hr (by decide) (by rfl) pass0 (pa_cons (pv 0) (pa_cons pe_int pa_nil)))
        (pa_cons (pe_def D2 hr (by decide) (by rfl) pass0 (pa_cons (pv 0) (pa_cons (pe_lst (pa_cons pe_int (pa_cons pe_int (pa_cons pe_int (pa_cons (pe_def D1 hr (by decide) (by rfl) pass0 (pa_cons (pv 0) (pa_cons pe_int pa_nil))) pa_nil))))) pa_nil))) pa_nil)) (by rfl))
      (pss_one (ps_ret (pe_tup (pa_cons (pe_op op_mulW (pe_def D2 hr (by decide) (by rfl) pass0 (pa_cons (pv 0) (pa_cons (pe_lst (pa_cons pe_int (pa_cons (pe_un un_neg pe_int) pa_nil))) pa_nil))) (pv 1)) (pa_cons (pv 2) pa_nil))))), ?_⟩
    refine ⟨_, rfl, d, 60, B, rfl, by decide, by decide, hp, by omega, fun v H1 a1 a2 k1 p1 => ?_⟩
    refine ⟨_, rfl, _, rfl, d, 41, _, rfl, p1, by omega, by decide, by decide, fun z H2 b1 b2 k2 p2 => ?_⟩
    refine ⟨by show 4 ≤ sizeLine; decide, fun l nl => ?_⟩
    refine ⟨d, l, _, _, rfl, upd_same, by simp, by show 4 ≤ 1000; decide, p2.same (same_new nl), by omega, fun x H3 hx k3 p3 => ?_⟩
    have hx : ∃ s : Nat, x = .int s ∧ s ≤ 40 := by
      simp only [List.mem_cons, List.not_mem_nil, or_false] at hx
      rcases hx with rfl | rfl | rfl | rfl
      · exact ⟨0, rfl, by decide⟩
      · exact ⟨1, rfl, by decide⟩
      · exact ⟨2, rfl, by decide⟩
      · exact ⟨z.toNat, by rw [Int.toNat_of_nonneg b1], by omega⟩
    obtain ⟨s, rfl, hs⟩ := hx
    refine ⟨_, _, rfl, ?_⟩
    refine ⟨_, rfl, _, rfl, by show 2 ≤ sizeLine; decide, fun l2 nl2 => ?_⟩
    refine ⟨d, l2, _, _, rfl, upd_same, by simp, by show 2 ≤ 1000; decide, p3.same (same_new nl2), by omega, fun x H4 hx k4 p4 => ?_⟩
    have hx : ∃ y : Int, x = .int y ∧ y.natAbs < 2 ^ 1 := by
      simp only [List.mem_cons, List.not_mem_nil, or_false] at hx
      rcases hx with rfl | rfl
      · exact ⟨_, rfl, by decide⟩
      · exact ⟨_, rfl, by decide⟩
    obtain ⟨y, rfl, hy⟩ := hx
    have f1 := fig60 a1 a2
    refine ⟨_, rfl, _, _, rfl, rfl, wide_mul hy f1 (by decide) (by decide) (by decide), _, rfl, by show 2 ≤ sizeLine; decide, fun r nr => ?_⟩
    obtain ⟨pp, ns, cc, ll, ed, _⟩ := id p4.ex
    refine q _ s r _ (up_two (wide_lt hy f1) (by decide)) hs (((k1.trans k2).trans ((KeepP.new nl).trans k3)).trans (((KeepP.new nl2).trans k4).trans (KeepP.new nr))) ((p4.same (same_new nr)).mono (by omega)) upd_same (ne_of_none ed nr).symm
end
end K05

/-! k05: told. -/
namespace K05
open PySem PySem.Spec PyProof.Rows L2 LamX NdefX Own
section
variable {P : Program} {w : World} {K : PySem.W.Frag} {mg : Str → Option Value} {base : Heap} {C C2 W : Addr}
theorem scTold : FnScope ["_law_worth", "_law_part"] ["_law_worth"] (defScope sTold) := ⟨rfl, rfl, rfl, by decide +kernel, rfl, by decide +kernel, by decide +kernel⟩
def spTold (W : Addr) : Sp := fun vs H Q _ => ∃ (a : Addr) (u : Int) (s : Nat), vs = [.ref a] ∧ WAt W H a u s ∧ ∀ (r : Addr) (H' : Hp), Same H H' → H r = none → H' r = some (.tup [.int u, .int s]) → Q (.ref r) H'
theorem ok_told (A : At K mg "_law_told" sTold ["_law_worth"]) (B : Blt mg) (T : WorthC K mg W) (I : WIs K W) : DefOk P w K mg base CX0 "_law_told" 1 ["_law_worth"] (spTold W) := by
  refine A.ok fun f fd F => F.ok scTold (fun vs H Q E h => ?_) (fun cdv A outer s0 H vs Q E hr h => ?_)
  · obtain ⟨a, u, s, rfl, _⟩ := h
    rfl
  · obtain ⟨a, u, s, rfl, ⟨dx, ea⟩, q⟩ := h
    have nd := scTold.nd
    refine ⟨_, pss_cons (ps_if (pt_not (pt_val (pe_callB call_isi (by rfl) B.isi (by decide +kernel) (pa_cons (pv 0) (pa_cons (pe_glob (v := .ref W) (by rfl) T.g rfl) pa_nil))))) (pss_one (ps_ret pe_non)) pss_nil)
      (pss_cons (ps_for PassesOwn.never rfl (pi_tup (pe_tup (pa_cons (pe_fld (pv 0) (by rfl)) (pa_cons (pe_fld (pv 0) (by rfl)) pa_nil)))) (pg_name (i := 1) nd rfl (.inl rfl))
        (pss_one (ps_if (PW.pt (pw_or (pt_not (pt_val (pe_callB call_isi (by rfl) B.isi (by decide +kernel) (pa_cons (pv 1) (pa_cons (pe_bltn (v := .ty "int") (by rfl) B.int (by decide +kernel) rfl) pa_nil)))))
          (pw_or1 (pt_val (pe_callB call_isi (by rfl) B.isi (by decide +kernel) (pa_cons (pv 1) (pa_cons (pe_bltn (v := .ty "bool") (by rfl) B.bool (by decide +kernel) rfl) pa_nil))))))) (pss_one (ps_ret pe_non)) pss_nil)))
      (pss_one (ps_ret (pe_tup (pa_cons (pe_fld (pv 0) (by rfl)) (pa_cons (pe_fld (pv 0) (by rfl)) pa_nil)))))), ?_⟩
    refine ⟨_, rfl, _, _, _, _, true, rfl, .own W, .base (.ins ea T.cls I.ha I.hn I.ht I.hm), by unfold PySem.W.kitOne; rw [if_pos (by simp)], _, rfl, iteF ?_⟩
    refine ⟨_, rfl, a, W, dx, _, .int u, rfl, ea, T.cls, T.nu, lk_u _ _, _, rfl, a, W, dx, _, .int s, rfl, ea, T.cls, T.ns, lk_s _ _, by show 2 ≤ sizeLine; decide, fun p np => ?_⟩
    have s1 := same_new (o := HO.tup [.int u, .int s]) np
    refine ⟨p, rfl, ⟨_, SqT.of upd_same⟩, for_tup (K := K) (xs := [.int u, .int s]) (fun i σ H' => (∃ y : Option V, σ = [some (.ref a), y]) ∧ H' = upd H p (.tup [.int u, .int s])) ⟨⟨none, rfl⟩, rfl⟩ (fun i σ H' _ z => by rw [z.2]; exact SqT.of upd_same) ?_ ?_⟩
    · rintro i x σ H' hx ⟨⟨y, rfl⟩, rfl⟩
      have hi : ∃ n : Int, x = .int n := by
        have m := List.mem_of_getElem? hx
        simp only [List.mem_cons, List.not_mem_nil, or_false] at m
        rcases m with rfl | rfl
        · exact ⟨_, rfl⟩
        · exact ⟨_, rfl⟩
      obtain ⟨n, rfl⟩ := hi
      obtain ⟨t, h1, h2, h3⟩ := (Thing.int (H := upd H p (.tup [.int u, .int s])) n).isi (K := K)
      refine ⟨_, rfl, _, _, t, _, _, rfl, .ty _, h1, h2, _, rfl, iteF ⟨_, rfl, _, _, t, _, _, rfl, .ty _, h1, h3, _, rfl, iteF ?_⟩⟩
      exact ⟨⟨_, rfl⟩, rfl⟩
    · rintro σ H' ⟨⟨y, rfl⟩, rfl⟩
      have ea1 := s1 _ _ ea
      refine ⟨_, rfl, a, W, dx, _, .int u, rfl, ea1, T.cls, T.nu, lk_u _ _, _, rfl, a, W, dx, _, .int s, rfl, ea1, T.cls, T.ns, lk_s _ _, by show 2 ≤ sizeLine; decide, fun r nr => ?_⟩
      exact q r _ (s1.trans (same_new nr)) (s1.free nr) upd_same
end
end K05

/-! k05: the zeros behind a number, as its text tells them. -/
namespace Own
open PySem PySem.Spec PyProof.Rows L2
def isZ (c : Nat) : Bool := (#[48] : Array Nat).contains c
theorem isZ_iff (c : Nat) : isZ c = true ↔ c = 48 := by
  unfold isZ
  simp
/-- zeros at the end -/
def zz (l : List Nat) : Nat := (l.reverse.takeWhile isZ).length
theorem zz_snoc (l : List Nat) (c : Nat) : zz (l ++ [c]) = if isZ c = true then zz l + 1 else 0 := by
  unfold zz
  rw [List.reverse_append, List.reverse_singleton, List.singleton_append, List.takeWhile_cons]
  by_cases h : isZ c = true
  · rw [if_pos h, if_pos h, List.length_cons]
  · rw [if_neg h, if_neg h]
    rfl
theorem zz_cons {c : Nat} (h : isZ c = false) : ∀ l : List Nat, zz (c :: l) = zz l := by
  intro l
  unfold zz
  rw [List.reverse_cons, List.takeWhile_append]
  split
  · rename_i e
    rw [List.takeWhile_cons, h]
    simp [e]
  · rfl
theorem zz_num : ∀ n : Nat, 0 < n → 10 ^ zz (TL.numL n) ∣ n ∧ ¬ 10 ^ (zz (TL.numL n) + 1) ∣ n := by
  intro n
  induction n using Nat.strongRecOn with
  | _ n ih =>
    intro h0
    by_cases h : n < 10
    · rw [TL.numL_lt h]
      have e : zz ([48 + n] : List Nat) = 0 := by
        have z := zz_snoc [] (48 + n)
        rw [List.nil_append] at z
        rw [z, if_neg]
        rw [isZ_iff]
        omega
      rw [e]
      exact ⟨by simp, by simp; omega⟩
    · rw [TL.numL_step (by omega), zz_snoc]
      by_cases hz : n % 10 = 0
      · rw [if_pos (by rw [isZ_iff]; omega)]
        obtain ⟨i1, i2⟩ := ih (n / 10) (by omega) (by omega)
        have en : n = 10 * (n / 10) := by omega
        refine ⟨?_, fun d => i2 ?_⟩
        · rw [en, Nat.pow_succ, Nat.mul_comm]
          have : 10 * (n / 10) / 10 = n / 10 := by omega
          rw [this]
          exact Nat.mul_dvd_mul_left 10 i1
        · rw [en, Nat.pow_succ, Nat.mul_comm] at d
          have : 10 * (n / 10) / 10 = n / 10 := by omega
          rw [this] at d
          exact Nat.dvd_of_mul_dvd_mul_left (by decide) d
      · rw [if_neg (by rw [isZ_iff]; omega)]
        exact ⟨by simp, by simp; omega⟩
open PySem.Builtin PySem.Builtin.Str in
/-- len(x) - len(x.rstrip('0')) -/
theorem strip_len (x : PySem.Str) : (Txt.rstripChars x "0").length = x.length - zz x.cps.toList := by
  have e0 : ("0" : PySem.Str).cps = #[48] := zero_cps
  unfold Txt.rstripChars
  rw [stripBy_eq, e0]
  have e1 : stripLo (#[48] : Array Nat).contains false x = 0 := rfl
  have e2 : stripHi (#[48] : Array Nat).contains true x 0 = x.length - zz x.cps.toList := rfl
  rw [e1, e2]
  have l : x.length = x.cps.size := rfl
  show (x.cps.extract 0 (x.length - zz x.cps.toList)).size = _
  rw [Array.size_extract, l]
  omega
theorem zz_le (l : List Nat) : zz l ≤ l.length := by
  unfold zz
  have := takeWhile_len_le isZ l.reverse
  rw [List.length_reverse] at this
  exact this
/-- an integer's text: as many zeros at its end as it has -/
theorem zz_int {u : Int} (h : u ≠ 0) : (10 : Int) ^ zz (PySem.Str.ofString (toString u)).cps.toList ∣ u ∧ ¬ (10 : Int) ^ (zz (PySem.Str.ofString (toString u)).cps.toList + 1) ∣ u := by
  have nat : ∀ n : Nat, 0 < n → (10 : Int) ^ zz (TL.numL n) ∣ (n : Int) ∧ ¬ (10 : Int) ^ (zz (TL.numL n) + 1) ∣ (n : Int) := fun n hn => by
    obtain ⟨a, b⟩ := zz_num n hn
    have c : ∀ k : Nat, ((10 : Int) ^ k) = ((10 ^ k : Nat) : Int) := fun k => by simp
    rw [c, c]
    exact ⟨Int.natCast_dvd_natCast.mpr a, fun z => b (Int.natCast_dvd_natCast.mp z)⟩
  by_cases h0 : 0 < u
  · obtain ⟨n, rfl⟩ : ∃ n : Nat, u = (n : Int) := ⟨u.toNat, (Int.toNat_of_nonneg (by omega)).symm⟩
    have e : (PySem.Str.ofString (toString (n : Int))).cps.toList = TL.numL n := TL.tl_num n
    rw [e]
    exact nat n (by omega)
  · have hu : u < 0 := by omega
    obtain ⟨n, hn⟩ : ∃ n : Nat, 0 - u = (n : Int) := ⟨(0 - u).toNat, (Int.toNat_of_nonneg (by omega)).symm⟩
    have e : (PySem.Str.ofString (toString u)).cps.toList = 45 :: TL.numL n := by
      rw [toString_neg hu, hn, PyProof.Rows.signs_ofString, String.toList_append, List.map_append, ← PyProof.Rows.signs_ofString (toString (n : Int))]
      have e : (PySem.Str.ofString (toString (n : Int))).cps.toList = TL.numL n := TL.tl_num n
      rw [e]
      rfl
    rw [e, zz_cons (by decide +kernel)]
    obtain ⟨a, b⟩ := nat n (by omega)
    have eu : u = -(n : Int) := by omega
    rw [eu]
    exact ⟨(Int.dvd_neg).mpr a, fun z => b ((Int.dvd_neg).mp z)⟩
end Own

/-! k05: low. -/
namespace K05
open PySem PySem.Spec PyProof.Rows L2 LamX NdefX Own
abbrev sLow : Stmt := topS 28
theorem low_uniq {u : Int} {s : Nat} {u1 u2 : Int} {s1 s2 : Nat} (a : IsLow u s u1 s1) (b : IsLow u s u2 s2) (h : s1 ≤ s2) : u1 = u2 ∧ s1 = s2 := by
  have p := ten_pos (s - s2)
  have e : u1 * (10 : Int) ^ (s2 - s1) = u2 := by
    have z := a.eq.symm.trans b.eq
    have le := b.le
    have e2 : s - s1 = (s2 - s1) + (s - s2) := by omega
    rw [e2, Int.pow_add, ← Int.mul_assoc] at z
    exact Int.eq_of_mul_eq_mul_right (by omega) z
  by_cases hs : s1 = s2
  · subst hs
    simp at e
    exact ⟨e, rfl⟩
  · exfalso
    rcases b.own with z | z
    · omega
    · refine z ?_
      rw [← e]
      have e3 : s2 - s1 = (s2 - s1 - 1) + 1 := by omega
      rw [e3, Int.pow_succ, ← Int.mul_assoc]
      exact Int.mul_emod_left _ _
theorem low_eq {u : Int} {s : Nat} {u1 u2 : Int} {s1 s2 : Nat} (a : IsLow u s u1 s1) (b : IsLow u s u2 s2) : u1 = u2 ∧ s1 = s2 := by
  rcases Nat.le_total s1 s2 with h | h
  · exact low_uniq a b h
  · obtain ⟨x, y⟩ := low_uniq b a h
    exact ⟨x.symm, y.symm⟩
theorem low_of {u : Int} {s z : Nat} (d : (10 : Int) ^ z ∣ u) (n : ¬ (10 : Int) ^ (z + 1) ∣ u) : IsLow u s (u / (10 : Int) ^ min s z) (s - min s z) := by
  obtain ⟨c, rfl⟩ := d
  have p := ten_pos (min s z)
  have e : (10 : Int) ^ z = (10 : Int) ^ min s z * (10 : Int) ^ (z - min s z) := by
    rw [← Int.pow_add]
    congr 1
    omega
  have q : (10 : Int) ^ z * c / (10 : Int) ^ min s z = (10 : Int) ^ (z - min s z) * c := by
    rw [e, Int.mul_assoc, Int.mul_ediv_cancel_left _ (by omega)]
  refine ⟨by omega, ?_, ?_⟩
  · rw [q, show s - (s - min s z) = min s z by omega, e]
    rw [Int.mul_assoc, Int.mul_comm]
  · by_cases h : s ≤ z
    · exact .inl (by omega)
    · refine .inr fun m => n ?_
      rw [q, show z - min s z = 0 by omega] at m
      simp at m
      obtain ⟨k, rfl⟩ := Int.dvd_of_emod_eq_zero (by simpa using m : c % 10 = 0)
      exact ⟨k, by rw [Int.pow_succ, Int.mul_assoc]⟩
section
variable {P : Program} {w : World} {K : PySem.W.Frag} {mg : Str → Option Value} {base : Heap} {C C2 W : Addr}
theorem scLow : FnScope ["_law_units", "_law_scale", "_law_text", "_law_tail"] ["_law_units", "_law_scale"] (defScope sLow) := ⟨rfl, rfl, rfl, by decide +kernel, rfl, by decide +kernel, by decide +kernel⟩
def spLow : Sp := fun vs H Q _ => ∃ (u : Int) (s : Nat), vs = [.int u, .int s] ∧ u.natAbs < 2 ^ 1900 ∧ s ≤ 600 ∧ ∀ (u' : Int) (s' : Nat) (r : Addr), IsLow u s u' s' → H r = none → Q (.ref r) (upd H r (.tup [.int u', .int s']))
theorem min_if (s z : Nat) : (if ((z : Nat) : Int) < ((s : Nat) : Int) then ((z : Nat) : Int) else ((s : Nat) : Int)) = ((min s z : Nat) : Int) := by
  by_cases h : z < s
  · rw [if_pos (by omega)]
    omega
  · rw [if_neg (by omega)]
    omega
theorem text_len {u : Int} (h : u.natAbs < 2 ^ 1900) : (Str.ofString (toString u)).length ≤ 601 := by
  have b : ∀ n : Nat, n < 2 ^ 1900 → (TL.numL n).length ≤ 600 := fun n hn => TL.numL_len (by decide) (Nat.lt_of_lt_of_le hn (by decide +kernel))
  have l : ∀ n : Nat, (Str.ofString (toString (n : Int))).length = (TL.numL n).length := fun n => by
    rw [str_len]
    have e : (PySem.Str.ofString (toString (n : Int))).cps.toList = TL.numL n := TL.tl_num n
    rw [e]
  by_cases h0 : 0 ≤ u
  · obtain ⟨n, rfl⟩ : ∃ n : Nat, u = (n : Int) := ⟨u.toNat, (Int.toNat_of_nonneg h0).symm⟩
    rw [l n]
    have := b n (by simpa using h)
    omega
  · obtain ⟨n, hn⟩ : ∃ n : Nat, 0 - u = (n : Int) := ⟨(0 - u).toNat, (Int.toNat_of_nonneg (by omega)).symm⟩
    rw [len_text_neg (by omega), hn, l n]
    have := b n (by have e : n = u.natAbs := by omega
                    rw [e]; exact h)
    omega
theorem ok_low (A : At K mg "_law_low" sLow ["_law_units", "_law_scale"]) (B : Blt mg) (D : DefOk P w K mg base CX0 "_law_ten" 1 ["_law_number"] spTen) : DefOk P w K mg base CX0 "_law_low" 2 ["_law_units", "_law_scale"] spLow := by
  refine A.ok fun f fd F => F.ok scLow (fun vs H Q E h => ?_) (fun cdv A outer s0 H vs Q E hr h => ?_)
  · obtain ⟨u, s, rfl, _⟩ := h
    rfl
  · obtain ⟨u, s, rfl, hu, hs, q⟩ := h
    have nd := scLow.nd
    refine ⟨_, pss_cons (ps_if (pt_cmpR op_eq (pv 0) pe_int (nomark _)) (pss_one (ps_ret (pe_tup (pa_cons pe_int (pa_cons pe_int pa_nil))))) pss_nil)
      (pss_cons (ps_set (i := 2) nd rfl (.inl rfl) (pe_callTy call_str_int (by rfl) B.str (by decide +kernel) (pa_cons (pv 0) pa_nil)))
      (pss_cons (ps_set (i := 3) nd rfl (.inl rfl) (pe_callB (call_min2 rfl) (by rfl) B.min (by decide +kernel) (pa_cons (pv 1) (pa_cons (pe_op op_sub (pe_callB call_len_str (by rfl) B.len PySem.boot_len (pa_cons (pv 2) pa_nil))
        (pe_callB call_len_str (by rfl) B.len PySem.boot_len (pa_cons (pe_bm PySem.F.plainAttrs_str PySem.F.slot_str_rstrip PySem.F.type_str_rstrip mt_rstripChars (pv 2) (pa_cons pe_str pa_nil)) pa_nil))) pa_nil))))
      (pss_one (ps_ret (pe_tup (pa_cons (pe_op op_fdivW (pv 0) (pe_def D hr (by decide) (by rfl) pass0 (pa_cons (pv 3) pa_nil))) (pa_cons (pe_op op_sub (pv 1) (pv 3)) pa_nil))))))), ?_⟩
    refine ⟨_, rfl, rfl, _, rfl, ite2 (fun e => ?_) (fun e => ?_)⟩
    · have h0 : u = 0 := by simpa using e
      exact ⟨by show 2 ≤ sizeLine; decide, fun r nr => q 0 0 r ⟨Nat.zero_le _, by rw [h0]; simp, .inl rfl⟩ nr⟩
    · have h0 : u ≠ 0 := by simpa using e
      have tl := text_len hu
      have big : (601 : Nat) ≤ sizeLine := by have := sizeLine_eq; omega
      refine ⟨_, rfl, u, rfl, log2_lt (up_two hu (by decide)) (by decide), ?_⟩
      have sl := len_rstripChars (Str.ofString (toString u)) "0"
      refine ⟨_, rfl, _, rfl, Str.ofString (toString u), rfl, by omega, _, rfl, rfl, Str.ofString (toString u), "0", rfl, rfl, by omega, _, rfl, by omega, _, _, rfl, rfl, _, _, rfl, ?_⟩
      have zl := zz_le (Str.ofString (toString u)).cps.toList
      rw [← str_len] at zl
      have e1 : ((Str.ofString (toString u)).length : Int) - ((Txt.rstripChars (Str.ofString (toString u)) "0").length : Int) = ((zz (Str.ofString (toString u)).cps.toList : Nat) : Int) := by
        rw [strip_len]
        omega
      obtain ⟨d1, d2⟩ := zz_int h0
      dsimp only [gName, List.set]
      rw [e1, min_if]
      generalize zz (Str.ofString (toString u)).cps.toList = z at d1 d2 zl
      have lw := low_of (s := s) d1 d2
      have e2 : (s : Int) - ((min s z : Nat) : Int) = ((s - min s z : Nat) : Int) := by omega
      have tp := ten_pos (min s z)
      refine ⟨_, rfl, _, rfl, min s z, rfl, ?_, u, _, rfl, rfl, wide_div tp (ten_lt (min s z)) (by omega) (by omega), _, rfl, _, rfl, _, _, rfl, rfl, by show 2 ≤ sizeLine; decide, fun r nr => ?_⟩
      · omega
      · dsimp only
        rw [e2]
        exact q _ _ r lw nr
end
end K05

/-! own layer, of no law: OWNO: numbers written in figures, and read back. -/
namespace Own
open PySem PySem.Spec PyProof.Rows L2
abbrev valD (l : List Nat) : Nat := NumText.digitsVal l
def isD (c : Nat) : Bool := decide (48 ≤ c) && decide (c ≤ 57)
def allD (l : List Nat) : Bool := l.all isD
theorem isD_iff {c : Nat} : isD c = true ↔ 48 ≤ c ∧ c ≤ 57 := by simp [isD]
theorem val_snoc (l : List Nat) (c : Nat) : valD (l ++ [c]) = valD l * 10 + (c - 48) := by
  unfold valD NumText.digitsVal
  rw [List.foldl_append]
  rfl
theorem val_nil : valD [] = 0 := rfl
theorem allD_snoc {l : List Nat} {c : Nat} : allD (l ++ [c]) = true ↔ allD l = true ∧ isD c = true := by
  unfold allD
  rw [List.all_append]
  simp
theorem allD_app {l m : List Nat} : allD (l ++ m) = true ↔ allD l = true ∧ allD m = true := by
  unfold allD
  rw [List.all_append]
  simp
theorem snoc_of : ∀ l : List Nat, l ≠ [] → ∃ m c, l = m ++ [c] := fun l h => ⟨l.dropLast, l.getLast h, (List.dropLast_concat_getLast h).symm⟩
theorem val_lt : ∀ (k : Nat) (l : List Nat), l.length = k → allD l = true → valD l < 10 ^ k
  | 0, l, h, _ => by
    rw [List.length_eq_zero_iff.mp h]
    decide
  | k + 1, l, h, a => by
    obtain ⟨m, c, rfl⟩ := snoc_of l (fun z => by rw [z] at h; cases h)
    rw [List.length_append, List.length_singleton] at h
    obtain ⟨a1, a2⟩ := allD_snoc.mp a
    have ih := val_lt k m (by omega) a1
    have := isD_iff.mp a2
    rw [val_snoc, Nat.pow_succ]
    omega
theorem val_pos : ∀ (k : Nat) (l : List Nat), l.length = k + 1 → allD l = true → l.head? ≠ some 48 → 1 ≤ valD l
  | 0, l, h, a, n => by
    obtain ⟨c, rfl⟩ := List.length_eq_one_iff.mp h
    have := isD_iff.mp (allD_snoc (l := []).mp a).2
    have n' : c ≠ 48 := fun z => n (by rw [z]; rfl)
    have e := val_snoc [] c
    rw [List.nil_append] at e
    rw [e, val_nil]
    omega
  | k + 1, l, h, a, n => by
    obtain ⟨m, c, rfl⟩ := snoc_of l (fun z => by rw [z] at h; cases h)
    rw [List.length_append, List.length_singleton] at h
    obtain ⟨a1, a2⟩ := allD_snoc.mp a
    have hd : (m ++ [c]).head? = m.head? := by
      cases m with
      | nil => simp at h
      | cons x xs => rfl
    have := val_pos k m (by omega) a1 (by rw [← hd]; exact n)
    rw [val_snoc]
    omega
theorem numL_own : ∀ (k : Nat) (l : List Nat), l.length = k + 1 → allD l = true → (k = 0 ∨ l.head? ≠ some 48) → TL.numL (valD l) = l
  | 0, l, h, a, _ => by
    obtain ⟨c, rfl⟩ := List.length_eq_one_iff.mp h
    have := isD_iff.mp (allD_snoc (l := []).mp a).2
    have e := val_snoc [] c
    rw [List.nil_append] at e
    rw [e, val_nil, TL.numL_lt (by omega)]
    congr 1
    omega
  | k + 1, l, h, a, n => by
    obtain ⟨m, c, rfl⟩ := snoc_of l (fun z => by rw [z] at h; cases h)
    rw [List.length_append, List.length_singleton] at h
    obtain ⟨a1, a2⟩ := allD_snoc.mp a
    have hd : (m ++ [c]).head? = m.head? := by
      cases m with
      | nil => simp at h
      | cons x xs => rfl
    have n : m.head? ≠ some 48 := by
      rw [← hd]
      exact n.resolve_left (by omega)
    have p := val_pos k m (by omega) a1 n
    have ih := numL_own k m (by omega) a1 (.inr n)
    have := isD_iff.mp a2
    rw [val_snoc, TL.numL_step (by omega), show (valD m * 10 + (c - 48)) / 10 = valD m by omega, show 48 + (valD m * 10 + (c - 48)) % 10 = c by omega, ih]
theorem numL_head (n : Nat) : 2 ≤ (TL.numL n).length → (TL.numL n).head? ≠ some 48 := by
  induction n using Nat.strongRecOn with
  | _ n ih =>
    intro h
    by_cases h10 : n < 10
    · rw [TL.numL_lt h10] at h
      simp at h
    · rw [TL.numL_step (by omega)] at h ⊢
      have hd : (TL.numL (n / 10) ++ [48 + n % 10]).head? = (TL.numL (n / 10)).head? := by
        cases e : TL.numL (n / 10) with
        | nil => exact absurd e (TL.numL_ne _)
        | cons x xs => rfl
      rw [hd]
      by_cases h100 : n / 10 < 10
      · rw [TL.numL_lt h100]
        intro z
        have := Option.some.inj z
        omega
      · refine ih (n / 10) (by omega) ?_
        rw [TL.numL_step (by omega), List.length_append, List.length_singleton]
        have : 0 < (TL.numL (n / 10 / 10)).length := List.length_pos_iff.mpr (TL.numL_ne _)
        omega
theorem numL_allD (n : Nat) : allD (TL.numL n) = true := by
  unfold allD
  rw [List.all_eq_true]
  intro c hc
  have := TL.numL_digits n c hc
  exact isD_iff.mpr (by omega)
/-- with zeros ahead, m at least -/
def padL (m : Nat) (l : List Nat) : List Nat := List.replicate (m - l.length) 48 ++ l
theorem pad_len (m : Nat) (l : List Nat) : (padL m l).length = max m l.length := by
  unfold padL
  rw [List.length_append, List.length_replicate]
  omega
theorem pad_allD (m n : Nat) : allD (padL m (TL.numL n)) = true := by
  unfold padL
  rw [allD_app]
  refine ⟨?_, numL_allD n⟩
  unfold allD
  rw [List.all_eq_true]
  intro c hc
  rw [(List.mem_replicate.mp hc).2]
  decide
theorem pad_own : ∀ (k : Nat) (l : List Nat), l.length = k + 1 → allD l = true → padL (k + 1) (TL.numL (valD l)) = l
  | 0, l, h, a => by
    rw [numL_own 0 l h a (.inl rfl)]
    unfold padL
    rw [h]
    rfl
  | k + 1, l, h, a => by
    by_cases z : l.head? = some 48
    · cases l with
      | nil => cases z
      | cons x m =>
        obtain rfl : x = 48 := Option.some.inj z
        have hm : m.length = k + 1 := by simpa using h
        have am : allD m = true := by
          have := allD_app (l := [48]) (m := m)
          exact (this.mp a).2
        have ev : valD (48 :: m) = valD m := by
          unfold valD NumText.digitsVal
          rfl
        have ih := pad_own k m hm am
        have len : (TL.numL (valD m)).length ≤ k + 1 := TL.numL_len (by omega) (val_lt _ m hm am)
        rw [ev]
        unfold padL at ih ⊢
        rw [show k + 1 + 1 - (TL.numL (valD m)).length = (k + 1 - (TL.numL (valD m)).length) + 1 by omega, List.replicate_succ, List.cons_append, ih]
    · rw [numL_own (k + 1) l h a (.inr z)]
      unfold padL
      rw [h, Nat.sub_self]
      rfl
/-- a row of figures is its number written with at least m of them -/
theorem pad_iff {m : Nat} (hm : 1 ≤ m) {l : List Nat} (a : allD l = true) : padL m (TL.numL (valD l)) = l ↔ m ≤ l.length ∧ (l.length = m ∨ l.head? ≠ some 48) := by
  constructor
  · intro e
    have len := pad_len m (TL.numL (valD l))
    rw [e] at len
    refine ⟨by omega, ?_⟩
    by_cases h : l.length = m
    · exact .inl h
    · right
      have h2 : (TL.numL (valD l)).length = l.length := by omega
      have e2 : TL.numL (valD l) = l := by
        unfold padL at e
        rw [show m - (TL.numL (valD l)).length = 0 by omega] at e
        exact e
      have := numL_head (valD l) (by omega)
      rw [e2] at this
      exact this
  · rintro ⟨h1, h2⟩
    obtain ⟨k, hk⟩ : ∃ k, l.length = k + 1 := ⟨l.length - 1, by omega⟩
    rcases h2 with h2 | h2
    · have := pad_own k l hk a
      rw [← hk, h2] at this
      exact this
    · rw [numL_own k l hk a (.inr h2)]
      unfold padL
      rw [show m - l.length = 0 by omega]
      rfl
/-- a number of so many places written -/
def wrL (v : Int) (s : Nat) : List Nat := (if v < 0 then [45] else []) ++ (if s = 0 then padL 1 (TL.numL v.natAbs) else (padL (s + 1) (TL.numL v.natAbs)).take ((padL (s + 1) (TL.numL v.natAbs)).length - s) ++ 46 :: (padL (s + 1) (TL.numL v.natAbs)).drop ((padL (s + 1) (TL.numL v.natAbs)).length - s))
/-- a text's parts: what follows the sign, ahead of the point, behind it -/
def bodyL (t : List Nat) : List Nat := if t.head? = some 45 then t.tail else t
def aheadL (b : List Nat) : List Nat := b.takeWhile (· != 46)
def restL (b : List Nat) : List Nat := b.dropWhile (· != 46)
theorem ahead_rest (b : List Nat) : aheadL b ++ restL b = b := List.takeWhile_append_dropWhile
theorem ahead_no : ∀ b : List Nat, 46 ∉ aheadL b
  | [] => by simp [aheadL]
  | x :: xs => by
    have ih := ahead_no xs
    unfold aheadL at ih ⊢
    rw [List.takeWhile_cons]
    by_cases h : x = 46
    · rw [if_neg (by simp [h])]
      simp
    · rw [if_pos (by simp [h])]
      intro m
      rcases List.mem_cons.mp m with z | z
      · exact h z.symm
      · exact ih z
theorem rest_head (b : List Nat) : restL b = [] ∨ ∃ f, restL b = 46 :: f := by
  cases e : restL b with
  | nil => exact .inl rfl
  | cons x f =>
    right
    have := List.head?_dropWhile_not (p := (· != 46)) (l := b)
    unfold restL at e
    rw [e] at this
    have z : x = 46 := by simpa using this
    exact ⟨f, by rw [z]⟩
/-- read as the law reads -/
def rdL (t : List Nat) : Option (Int × Nat) :=
  if aheadL (bodyL t) = [] ∨ (restL (bodyL t) ≠ [] ∧ (restL (bodyL t)).tail = []) ∨ 400 < t.length then none
  else if (aheadL (bodyL t)).head? = some 48 ∧ 1 < (aheadL (bodyL t)).length then none
  else if allD (aheadL (bodyL t) ++ (restL (bodyL t)).tail) = false then none
  else if t.head? = some 45 ∧ valD (aheadL (bodyL t) ++ (restL (bodyL t)).tail) = 0 then none
  else some (if t.head? = some 45 then -(valD (aheadL (bodyL t) ++ (restL (bodyL t)).tail) : Int) else (valD (aheadL (bodyL t) ++ (restL (bodyL t)).tail) : Int), (restL (bodyL t)).tail.length)
/-- the number that the program finds in it -/
def fndL (t : List Nat) : Int := if t.head? = some 45 then -(valD (aheadL (bodyL t) ++ (restL (bodyL t)).tail) : Int) else (valD (aheadL (bodyL t) ++ (restL (bodyL t)).tail) : Int)
/-- read as the program reads -/
def rpL (t : List Nat) : Option (Int × Nat) :=
  if 400 < t.length then none
  else if aheadL (bodyL t) ++ (restL (bodyL t)).tail = [] ∨ allD (aheadL (bodyL t) ++ (restL (bodyL t)).tail) = false then none
  else if wrL (fndL t) (restL (bodyL t)).tail.length ≠ t then none
  else some (fndL t, (restL (bodyL t)).tail.length)
theorem body_split (t : List Nat) : t = (if t.head? = some 45 then [45] else []) ++ bodyL t := by
  unfold bodyL
  by_cases h : t.head? = some 45
  · rw [if_pos h, if_pos h]
    cases t with
    | nil => cases h
    | cons x xs =>
      obtain rfl : x = 45 := Option.some.inj h
      rfl
  · rw [if_neg h, if_neg h]
    rfl
/-- what is written behind the sign is the body, or not -/
theorem wr_body {a r : List Nat} (hno : 46 ∉ a) (hr : r = [] ∨ ∃ f, r = 46 :: f) (hD : allD (a ++ r.tail) = true) (hne : a ++ r.tail ≠ []) : ((if r.tail.length = 0 then padL 1 (TL.numL (valD (a ++ r.tail))) else (padL (r.tail.length + 1) (TL.numL (valD (a ++ r.tail)))).take ((padL (r.tail.length + 1) (TL.numL (valD (a ++ r.tail)))).length - r.tail.length) ++ 46 :: (padL (r.tail.length + 1) (TL.numL (valD (a ++ r.tail)))).drop ((padL (r.tail.length + 1) (TL.numL (valD (a ++ r.tail)))).length - r.tail.length)) = a ++ r) ↔
    (a ≠ [] ∧ ¬ (r ≠ [] ∧ r.tail = []) ∧ ¬ (a.head? = some 48 ∧ 1 < a.length)) := by
  have no46 : ∀ {m n : Nat}, 46 ∉ padL m (TL.numL n) := fun {m n} h => by
    have := List.all_eq_true.mp (pad_allD m n) 46 h
    exact absurd this (by decide)
  rcases hr with rfl | ⟨f, rfl⟩
  · rw [List.tail_nil, List.append_nil, List.length_nil, if_pos rfl] at *
    rw [pad_iff (Nat.le_refl 1) hD]
    have l1 : 0 < a.length := List.length_pos_iff.mpr hne
    constructor
    · rintro ⟨_, h⟩
      refine ⟨hne, fun z => z.1 rfl, fun z => ?_⟩
      rcases h with h | h
      · omega
      · exact h z.1
    · rintro ⟨_, _, h⟩
      refine ⟨l1, ?_⟩
      by_cases z : a.length = 1
      · exact .inl z
      · exact .inr fun y => h ⟨y, by omega⟩
  · rw [List.tail_cons] at *
    by_cases hf : f = []
    · subst hf
      rw [List.append_nil, List.length_nil, if_pos rfl] at *
      constructor
      · intro e
        have : 46 ∈ padL 1 (TL.numL (valD a)) := by rw [e]; simp
        exact absurd this no46
      · rintro ⟨_, h, _⟩
        exact absurd ⟨by simp, rfl⟩ h
    · have lf : 0 < f.length := List.length_pos_iff.mpr hf
      rw [if_neg (by omega)]
      have key := pad_iff (m := f.length + 1) (by omega) hD
      have ld := pad_len (f.length + 1) (TL.numL (valD (a ++ f)))
      generalize padL (f.length + 1) (TL.numL (valD (a ++ f))) = d at key ld ⊢
      have split : d.take (d.length - f.length) ++ 46 :: d.drop (d.length - f.length) = a ++ 46 :: f ↔ d = a ++ f := by
        constructor
        · intro e
          have h := List.append_inj' e (by rw [List.length_cons, List.length_cons, List.length_drop]; omega)
          have h2 : d.drop (d.length - f.length) = f := (List.cons.inj h.2).2
          rw [← List.take_append_drop (d.length - f.length) d, h.1, h2]
        · intro e
          rw [e, List.length_append, Nat.add_sub_cancel, List.take_left' rfl, List.drop_left' rfl]
      rw [split, key, List.length_append]
      constructor
      · rintro ⟨h1, h2⟩
        have ha : a ≠ [] := fun z => by rw [z, List.length_nil] at h1; omega
        refine ⟨ha, fun z => hf z.2, fun z => ?_⟩
        rcases h2 with h2 | h2
        · omega
        · refine h2 ?_
          rw [List.head?_append, z.1]
          rfl
      · rintro ⟨ha, _, h⟩
        have la : 0 < a.length := List.length_pos_iff.mpr ha
        refine ⟨by omega, ?_⟩
        by_cases z : a.length = 1
        · exact .inl (by omega)
        · right
          intro y
          rw [List.head?_append] at y
          cases a with
          | nil => exact ha rfl
          | cons x xs => exact h ⟨y, by omega⟩
/-- both read alike -/
theorem rp_rd (t : List Nat) : rpL t = rdL t := by
  unfold rpL rdL
  by_cases h4 : 400 < t.length
  · rw [if_pos h4, if_pos (.inr (.inr h4))]
  rw [if_neg h4]
  have ht := body_split t
  have hb := ahead_rest (bodyL t)
  have hno := ahead_no (bodyL t)
  have hr := rest_head (bodyL t)
  unfold fndL
  generalize aheadL (bodyL t) = a at hb hno ⊢
  generalize restL (bodyL t) = r at hb hr ⊢
  by_cases hD : a ++ r.tail = [] ∨ allD (a ++ r.tail) = false
  · rw [if_pos hD]
    rcases hD with hD | hD
    · rw [if_pos (.inl (List.append_eq_nil_iff.mp hD).1)]
    · by_cases c1 : a = [] ∨ (r ≠ [] ∧ r.tail = []) ∨ 400 < t.length
      · rw [if_pos c1]
      · rw [if_neg c1]
        by_cases c2 : a.head? = some 48 ∧ 1 < a.length
        · rw [if_pos c2]
        · rw [if_neg c2, if_pos hD]
  rw [if_neg hD]
  have hne : a ++ r.tail ≠ [] := fun z => hD (.inl z)
  have hal : allD (a ++ r.tail) = true := by
    cases e : allD (a ++ r.tail) with
    | true => rfl
    | false => exact absurd (.inr e) hD
  have key := wr_body hno hr hal hne
  rw [hb] at key
  -- the writing of what was found
  have wr : ∀ v : Int, v.natAbs = valD (a ++ r.tail) → wrL v r.tail.length = (if v < 0 then [45] else []) ++ (if r.tail.length = 0 then padL 1 (TL.numL (valD (a ++ r.tail))) else (padL (r.tail.length + 1) (TL.numL (valD (a ++ r.tail)))).take ((padL (r.tail.length + 1) (TL.numL (valD (a ++ r.tail)))).length - r.tail.length) ++ 46 :: (padL (r.tail.length + 1) (TL.numL (valD (a ++ r.tail)))).drop ((padL (r.tail.length + 1) (TL.numL (valD (a ++ r.tail)))).length - r.tail.length)) := fun v e => by
    unfold wrL
    rw [e]
  have hd45 : ∀ w : List Nat, w = (if r.tail.length = 0 then padL 1 (TL.numL (valD (a ++ r.tail))) else (padL (r.tail.length + 1) (TL.numL (valD (a ++ r.tail)))).take ((padL (r.tail.length + 1) (TL.numL (valD (a ++ r.tail)))).length - r.tail.length) ++ 46 :: (padL (r.tail.length + 1) (TL.numL (valD (a ++ r.tail)))).drop ((padL (r.tail.length + 1) (TL.numL (valD (a ++ r.tail)))).length - r.tail.length)) → w.head? ≠ some 45 := fun w e z => by
    have m45 : 45 ∈ w := List.mem_of_mem_head? z
    have no45 : ∀ {m n : Nat}, 45 ∉ padL m (TL.numL n) := fun {m n} h => by
      have := List.all_eq_true.mp (pad_allD m n) 45 h
      exact absurd this (by decide)
    rw [e] at m45
    split at m45
    · exact no45 m45
    · rcases List.mem_append.mp m45 with y | y
      · exact no45 (List.mem_of_mem_take y)
      · rcases List.mem_cons.mp y with y | y
        · cases y
        · exact no45 (List.mem_of_mem_drop y)
  generalize (if r.tail.length = 0 then padL 1 (TL.numL (valD (a ++ r.tail))) else (padL (r.tail.length + 1) (TL.numL (valD (a ++ r.tail)))).take ((padL (r.tail.length + 1) (TL.numL (valD (a ++ r.tail)))).length - r.tail.length) ++ 46 :: (padL (r.tail.length + 1) (TL.numL (valD (a ++ r.tail)))).drop ((padL (r.tail.length + 1) (TL.numL (valD (a ++ r.tail)))).length - r.tail.length)) = w at key wr hd45
  have hw45 := hd45 w rfl
  generalize hn : valD (a ++ r.tail) = n at wr ⊢
  generalize bodyL t = b at ht key
  have rn : ¬ w = b → (if a = [] ∨ (r ≠ [] ∧ r.tail = []) ∨ 400 < t.length then (none : Option (Int × Nat)) else if a.head? = some 48 ∧ 1 < a.length then none else some (0, 0)) = none := fun c => by
    by_cases c1 : a = [] ∨ (r ≠ [] ∧ r.tail = []) ∨ 400 < t.length
    · rw [if_pos c1]
    · rw [if_neg c1]
      by_cases c2 : a.head? = some 48 ∧ 1 < a.length
      · rw [if_pos c2]
      · exact absurd (key.mpr ⟨fun z => c1 (.inl z), fun z => c1 (.inr (.inl z)), c2⟩) c
  have off : ¬ w = b → ∀ X : Option (Int × Nat), (if a = [] ∨ (r ≠ [] ∧ r.tail = []) ∨ 400 < t.length then none else if a.head? = some 48 ∧ 1 < a.length then none else X) = none := fun c X => by
    have h := rn c
    by_cases c1 : a = [] ∨ (r ≠ [] ∧ r.tail = []) ∨ 400 < t.length
    · rw [if_pos c1]
    · rw [if_neg c1] at h ⊢
      by_cases c2 : a.head? = some 48 ∧ 1 < a.length
      · rw [if_pos c2]
      · rw [if_neg c2] at h
        cases h
  have on : w = b → ∀ X : Option (Int × Nat), (if a = [] ∨ (r ≠ [] ∧ r.tail = []) ∨ 400 < t.length then none else if a.head? = some 48 ∧ 1 < a.length then none else X) = X := fun c X => by
    obtain ⟨k1, k2, k3⟩ := key.mp c
    have k4 : ¬ (a = [] ∨ (r ≠ [] ∧ r.tail = []) ∨ 400 < t.length) := fun z => z.elim k1 (fun z => z.elim k2 h4)
    rw [if_neg k4, if_neg k3]
  have nf : ¬ allD (a ++ r.tail) = false := by rw [hal]; decide
  by_cases neg : t.head? = some 45
  · simp only [if_pos neg] at ht ⊢
    have wv := wr (-(n : Int)) (by omega)
    by_cases c : w = b
    · by_cases z : n = 0
      · have q : wrL (-(n : Int)) r.tail.length ≠ t := fun e => by
          rw [wv, if_neg (by omega), List.nil_append] at e
          rw [e] at hw45
          exact hw45 neg
        rw [if_pos q, on c, if_neg nf, if_pos ⟨neg, z⟩]
      · have q : ¬ wrL (-(n : Int)) r.tail.length ≠ t := fun e => e (by
          rw [wv, if_pos (by omega), c]
          exact ht.symm)
        rw [if_neg q, on c, if_neg nf, if_neg (fun y => z y.2)]
    · have q : wrL (-(n : Int)) r.tail.length ≠ t := fun e => by
        rw [wv] at e
        by_cases z : -(n : Int) < 0
        · rw [if_pos z, ht] at e
          exact c (List.append_cancel_left e)
        · rw [if_neg z, List.nil_append] at e
          rw [e] at hw45
          exact hw45 neg
      rw [if_pos q, off c]
  · simp only [if_neg neg] at ht ⊢
    have wv := wr (n : Int) (by omega)
    rw [if_neg (show ¬ (n : Int) < 0 by omega), List.nil_append] at wv
    by_cases c : w = b
    · have q : ¬ wrL (n : Int) r.tail.length ≠ t := fun e => e (by
        rw [wv, c]
        exact ht.symm)
      rw [if_neg q, on c, if_neg nf, if_neg (fun y => neg y.1)]
    · have q : wrL (n : Int) r.tail.length ≠ t := fun e => by
        rw [wv] at e
        exact c (e.trans ht)
      rw [if_pos q, off c]
end Own

/-! k05: the program: units_at, text. -/
namespace K05
open PySem PySem.Spec PyProof.Rows L2 LamX NdefX Own
/-- a worth written with so many places -/
abbrev wrS (v : Int) (n : Nat) : Str := SX.S (wrL v n)
theorem minus_S : ("-" : Str) = SX.S [45] := by decide +kernel
theorem empty_S : ("" : Str) = SX.S [] := by decide +kernel
theorem point_S : ("." : Str) = SX.S [46] := by decide +kernel
theorem emp_S : Str.empty = SX.S [] := by decide +kernel
theorem zf_S (n s : Nat) : Txt.zfill (Str.ofString (toString (n : Int))) (s : Int) = SX.S (padL s (TL.numL n)) := by
  refine TL.ext_tl ?_
  show (Txt.zfill (Str.ofString (toString (n : Int))) (s : Int)).cps.toList = _
  rw [zf_list]
  rfl
theorem slice_to_neg {a : List Nat} {k : Nat} (h0 : 0 < k) (h : k ≤ a.length) : Txt.slice (SX.S a) none (some (-(k : Int))) = SX.S (a.take (a.length - k)) := by
  have hl : ((SX.S a).length : Int) = (a.length : Int) := by rw [SX.S_len]
  have e := beq_iff_eq.mp (PyProof.Rows.slice_closes_to_neg (x := SX.S a) (j := -(k : Int)) (k := (a.length : Int) - k) (by omega) (by omega) (by omega))
  refine e.trans (TL.ext_tl ?_)
  show (a.drop (0 : Int).toNat).take ((a.length : Int) - k - 0).toNat = a.take (a.length - k)
  rw [show (0 : Int).toNat = 0 from rfl, List.drop_zero, show ((a.length : Int) - k - 0).toNat = a.length - k by omega]
theorem slice_from_neg {a : List Nat} {k : Nat} (h0 : 0 < k) (h : k ≤ a.length) : Txt.slice (SX.S a) (some (-(k : Int))) none = SX.S (a.drop (a.length - k)) := by
  have e := PyProof.Rows.slice_from_neg (x := SX.S a) (i := -(k : Int)) (by omega)
  rw [e, SX.S_len, show max 0 ((a.length : Int) + -(k : Int)) = ((a.length - k : Nat) : Int) by omega, SX.slice_from (by omega)]
  congr 2
theorem numL_len500 {n : Nat} (h : n < 10 ^ 500) : (TL.numL n).length ≤ 500 := TL.numL_len (by decide) h
section
variable {P : Program} {w : World} {K : PySem.W.Frag} {mg : Str → Option Value} {base : Heap} {C C2 W : Addr}
theorem scU3 : FnScope ["self", "scale"] ["self", "scale"] (defScope (wI 14)) := ⟨rfl, rfl, rfl, by decide +kernel, rfl, by decide +kernel, by decide +kernel⟩
/-- units_at, with what it refuses -/
def spU3 (C C2 W : Addr) : Sp := fun vs H Q E => ∃ (a : Addr) (u : Int) (s : Nat) (x : V), vs = [.ref a, x] ∧ WAt W H a u s ∧ Thing H x ∧ (isWh x = false → Bad C "value" x H E) ∧ ∀ n : Nat, x = .int n → (n < s → Bad C2 "scale" (.int s) H E) ∧ (s ≤ n → n < 500 ∧ u.natAbs < 2 ^ 90000 ∧ Q (.int (u * (10 : Int) ^ (n - s))) H)
theorem ok_u3 {f : Addr} {fd : FuncData} (F : Fun K "units_at" "Worth.units_at" (wI 14) f fd) (T : WorthC K mg W) (T2 : ErrC P w K mg base "TooFine" "scale" 1 C2 (spErr C2 "scale")) (DN : DefOk P w K mg base (L2.CX P w) "need_whole_number" 3 ["value"] (spNWh C)) (DT : DefOk P w K mg base CX0 "ten_to" 9 ["places"] (spTenTo 8)) :
    FnOk P w K mg base (L2.CX P w) 10 f fd ["self", "scale"] (spU3 C C2 W) := by
  refine F.okX scU3 (fun vs H Q E h => ?_) (fun cdv A outer s0 H vs Q E hr h => ?_)
  · obtain ⟨a, u, s, x, rfl, _⟩ := h
    rfl
  · obtain ⟨a, u, s, x, rfl, ⟨dx, ea⟩, tx, bad, q⟩ := h
    refine ⟨_, pss_cons (ps_expr (pe_def (E := E) DN hr (by decide) (by rfl) (passes_call (takes_of rfl rfl rfl rfl) fun _ _ _ _ z => z) (pa_cons (pv 1) pa_nil)))
      (pss_cons (ps_if (pt_cmpR op_lt (pv 1) (pe_fld (pv 0) (by rfl)) (nomark _)) (pss_one (ps_raise rfl (takes_of rfl rfl rfl rfl) (pmk_err T2 hr (by decide) (by rfl) (pe_fld (pv 0) (by rfl))))) pss_nil)
      (pss_one (ps_ret (pe_op op_mulW (pe_fld (pv 0) (by rfl)) (pe_def DT hr (by decide) (by rfl) pass0 (pa_cons (pe_op op_sub (pv 1) (pe_fld (pv 0) (by rfl))) pa_nil)))))), ?_⟩
    refine ⟨_, rfl, x, rfl, tx, fun z => ?_, bad⟩
    obtain ⟨n, rfl⟩ := isWh_nat z
    obtain ⟨q1, q2⟩ := q n rfl
    refine ⟨_, rfl, _, rfl, a, W, dx, _, .int s, rfl, ea, T.cls, T.ns, lk_s _ _, _, _, rfl, rfl, _, rfl, ite2 (fun e => ?_) (fun e => ?_)⟩
    · have z : (n : Int) < (s : Int) := of_decide_eq_true e
      exact ⟨_, rfl, a, W, dx, _, .int s, rfl, ea, T.cls, T.ns, lk_s _ _, bad_mk (q1 (by omega))⟩
    · have z : ¬ (n : Int) < (s : Int) := fun y => e (decide_eq_true y)
      obtain ⟨hn, hu, q2⟩ := q2 (by omega)
      refine ⟨_, rfl, a, W, dx, _, .int u, rfl, ea, T.cls, T.nu, lk_u _ _, _, rfl, _, rfl, a, W, dx, _, .int s, rfl, ea, T.cls, T.ns, lk_s _ _, _, _, rfl, rfl, ?_⟩
      have e2 : (n : Int) - (s : Int) = ((n - s : Nat) : Int) := by omega
      dsimp only
      rw [e2]
      exact ⟨n - s, rfl, by omega, _, _, rfl, rfl, wide_mul hu (ten_lt (n - s)) (by decide) (by omega) (by omega), q2⟩
theorem scTx : FnScope ["self", "scale", "units", "minus", "digits", "ahead", "behind"] ["self", "scale"] (defScope (wI 15)) := ⟨rfl, rfl, rfl, by decide +kernel, rfl, by decide +kernel, by decide +kernel⟩
def spTx (C C2 W : Addr) : Sp := fun vs H Q E => ∃ (a : Addr) (u : Int) (s : Nat) (x : V), vs = [.ref a, x] ∧ WAt W H a u s ∧ Thing H x ∧ (isWh x = false → Bad C "value" x H E) ∧ ∀ n : Nat, x = .int n → (n < s → Bad C2 "scale" (.int s) H E) ∧ (s ≤ n → n < 500 ∧ u.natAbs < 2 ^ 90000 ∧ (u * (10 : Int) ^ (n - s)).natAbs < 10 ^ 500 ∧ Q (.str (wrS (u * (10 : Int) ^ (n - s)) n)) H)
theorem ok_tx {f : Addr} {fd : FuncData} (F : Fun K "text" "Worth.text" (wI 15) f fd) (B : Blt mg) (T : WorthC K mg W) (DU : WMeth P w K mg base W "units_at" 10 ["self", "scale"] (spU3 C C2 W)) (DG : DefOk P w K mg base CX0 "digits_of" 1 ["number"] spDig) :
    FnOk P w K mg base (L2.CX P w) 11 f fd ["self", "scale"] (spTx C C2 W) := by
  refine F.okX scTx (fun vs H Q E h => ?_) (fun cdv A outer s0 H vs Q E hr h => ?_)
  · obtain ⟨a, u, s, x, rfl, _⟩ := h
    rfl
  · obtain ⟨a, u, s, x, rfl, hw, tx, bad, q⟩ := h
    have nd := scTx.nd
    obtain ⟨fU, fdU, mU, FU, bU⟩ := DU.ex
    obtain ⟨dx, ea⟩ := id hw
    refine ⟨_, pss_cons (ps_set (i := 2) nd rfl (.inl rfl) (pe_meth (E := E) (pv 0) T.cls mU FU (hr.mono (by decide)) bU .nil (passes_call (takes_of rfl rfl rfl rfl) fun _ _ _ _ z => z) (pa_cons (pv 1) pa_nil)))
      (C8.pss_cut (ps_set (i := 3) nd rfl (.inl rfl) (pe_ifExp (pt_cmpR op_lt (pv 2) pe_int (nomark _)) pe_str pe_str))
      (pss_cons (ps_set (i := 4) nd rfl (.inl rfl) (pe_bm PySem.F.plainAttrs_str PySem.F.slot_str_zfill PySem.F.type_str_zfill mt_zfill (pe_def DG hr (by decide) (by rfl) pass0 (pa_cons (pe_callB call_abs (by rfl) B.abs (by decide +kernel) (pa_cons (pv 2) pa_nil)) pa_nil)) (pa_cons (pe_op op_add (pv 1) pe_int) pa_nil)))
      (pss_cons (ps_if (pt_cmpR op_eq (pv 1) pe_int (nomark _)) (pss_one (ps_ret (pe_joined (.cons (pe_fmt (pv 3)) (.cons (pe_fmt (pv 4)) .nil))))) pss_nil)
      (pss_cons (ps_par (i := 5) (j := 6) (by rfl) nd rfl rfl (by decide) rfl rfl (pa_cons (pe_slice C8.sl_txt (pv 4) po_none (po_some (pe_un un_neg (pv 1)))) (pa_cons (pe_slice C8.sl_txt (pv 4) (po_some (pe_un un_neg (pv 1))) po_none) pa_nil)) (by rfl))
      (pss_one (ps_ret (pe_joined (.cons (pe_fmt (pv 3)) (.cons (pe_fmt (pv 5)) (.cons pe_str (.cons (pe_fmt (pv 6)) .nil))))))))))), ?_⟩
    refine ⟨_, rfl, a, dx, _, rfl, ea, lk_m _ _ (by decide +kernel) (by decide +kernel), _, rfl, a, u, s, x, rfl, hw, tx, bad, fun n ex => ?_⟩
    subst ex
    obtain ⟨q1, q2⟩ := q n rfl
    refine ⟨q1, fun hle => ?_⟩
    obtain ⟨hn, hu, hv, q⟩ := q2 hle
    refine ⟨hn, hu, ?_⟩
    generalize u * (10 : Int) ^ (n - s) = v at hv q ⊢
    dsimp only [gName, List.set]
    refine ⟨fun σ H' => σ = [some (.ref a), some (.int (n : Nat)), some (.int v), some (.str (SX.S (if v < 0 then [45] else []))), none, none, none] ∧ H' = H, ?_, ?_⟩
    · refine ⟨_, rfl, _, _, rfl, rfl, _, rfl, ite2 (fun e => ?_) (fun e => ?_)⟩
      · have z : v < 0 := of_decide_eq_true e
        rw [if_pos z, ← minus_S]
        exact ⟨rfl, rfl⟩
      · have z : ¬ v < 0 := fun y => e (decide_eq_true y)
        rw [if_neg z, ← empty_S]
        exact ⟨rfl, rfl⟩
    rintro σ H' ⟨rfl, rfl⟩
    have ab : (if v < 0 then -v else v) = ((v.natAbs : Nat) : Int) := by split <;> omega
    refine ⟨_, rfl, v, rfl, v.natAbs, by rw [← ab]; rfl, hv, rfl, _, rfl, _, _, rfl, rfl, _, _, rfl, rfl, padOk_of (by clear hv hu; omega) (by clear hv hu; omega), ?_⟩
    rw [show (n : Int) + 1 = ((n + 1 : Nat) : Int) by omega, zf_S]
    dsimp only [gName, List.set]
    have ld := pad_len (n + 1) (TL.numL v.natAbs)
    have l5 := numL_len500 hv
    have hsz := sizeLine_eq
    have lm : (if v < 0 then [45] else ([] : List Nat)).length ≤ 1 := by split <;> simp
    unfold wrS wrL at q
    by_cases z : n = 0
    · subst z
      rw [if_pos rfl] at q
      refine ⟨_, rfl, rfl, _, rfl, iteT ?_⟩
      refine ⟨_, rfl, .inl ⟨_, rfl, by rw [SX.S_len]; omega, _, rfl, by rw [emp_S, SX.S_cat, SX.S_len]; simp only [List.nil_append]; omega, _, rfl, .inl ⟨_, rfl, by rw [SX.S_len]; omega, _, rfl, by rw [emp_S, SX.S_cat, SX.S_cat, SX.S_len]; simp only [List.nil_append, List.length_append]; omega, ?_⟩⟩⟩
      rw [emp_S, SX.S_cat, SX.S_cat, List.nil_append]
      exact q
    · rw [if_neg z] at q
      refine ⟨_, rfl, rfl, _, rfl, ?_⟩
      rw [decide_eq_false (show ¬ V.int (n : Int) = V.int 0 from fun y => z (by have := V.int.inj y; omega))]
      refine iteF ?_
      generalize padL (n + 1) (TL.numL v.natAbs) = dg at ld q ⊢
      refine ⟨_, rfl, _, rfl, _, rfl, _, rfl, _, rfl, by rw [SX.S_len]; omega, ?_⟩
      refine ⟨_, rfl, _, rfl, _, rfl, _, rfl, _, rfl, by rw [SX.S_len]; omega, _, _, rfl, ?_⟩
      dsimp only [gName, List.set]
      rw [slice_to_neg (by omega) (by omega), slice_from_neg (by omega) (by omega)]
      have k1 : (dg.take (dg.length - n)).length ≤ dg.length := by rw [List.length_take]; omega
      have k2 : (dg.drop (dg.length - n)).length ≤ dg.length := by rw [List.length_drop]; omega
      refine ⟨_, rfl, .inl ⟨_, rfl, by rw [SX.S_len]; omega, _, rfl, by rw [emp_S, SX.S_cat, SX.S_len]; simp only [List.nil_append]; omega, _, rfl, .inl ⟨_, rfl, by rw [SX.S_len]; omega, _, rfl, by rw [emp_S, SX.S_cat, SX.S_cat, SX.S_len]; simp only [List.nil_append, List.length_append]; omega, _, rfl, by rw [emp_S, point_S, SX.S_cat, SX.S_cat, SX.S_cat, SX.S_len]; simp only [List.nil_append, List.length_append, List.length_singleton]; omega, _, rfl, .inl ⟨_, rfl, by rw [SX.S_len]; omega, _, rfl, by rw [emp_S, point_S, SX.S_cat, SX.S_cat, SX.S_cat, SX.S_cat, SX.S_len]; simp only [List.nil_append, List.length_append, List.length_singleton]; omega, ?_⟩⟩⟩⟩
      rw [emp_S, point_S, SX.S_cat, SX.S_cat, SX.S_cat, SX.S_cat, List.nil_append, List.append_assoc, List.append_assoc, List.singleton_append]
      exact q
end
end K05

/-! own layer, of no law: OWNA: a text's methods, over its code points. -/
namespace Own
open PySem PySem.Spec PyProof.Rows L2
open PySem.Builtin.Str in
theorem starts_S (a : List Nat) (c : Nat) : Txt.startswith (SX.S a) (SX.S [c]) = decide (a.head? = some c) := by
  unfold Txt.startswith
  rw [StrLaws.subAt_eq]
  show (decide (0 + (SX.S [c]).length ≤ (SX.S a).length) && ((a.drop 0).take (SX.S [c]).length == [c])) = _
  rw [SX.S_len, SX.S_len, List.drop_zero]
  cases a with
  | nil => rfl
  | cons x xs =>
    show (decide (0 + 1 ≤ xs.length + 1) && ((x :: xs).take 1 == [c])) = decide (some x = some c)
    rw [decide_eq_true (by omega), Bool.true_and]
    by_cases h : x = c
    · subst h
      simp
    · have h2 : ¬ some x = some c := fun z => h (Option.some.inj z)
      rw [decide_eq_false h2]
      simp [h]
open PySem.Builtin.Str in
theorem rem_S (a : List Nat) (c : Nat) : Txt.removeprefix (SX.S a) (SX.S [c]) = SX.S (if a.head? = some c then a.tail else a) := by
  rw [PySem.StrLaws.removeprefix_eq]
  have e : (decide (0 + (SX.S [c]).length ≤ (SX.S a).length) && subAt (SX.S a) (SX.S [c]) 0) = decide (a.head? = some c) := starts_S a c
  rw [e]
  by_cases h : a.head? = some c
  · rw [decide_eq_true h, if_pos rfl, if_pos h, SX.S_len, SX.S_len]
    cases a with
    | nil => cases h
    | cons x xs =>
      refine TL.ext_tl ?_
      show ((x :: xs).drop 1).take (xs.length + 1 - 1) = xs
      rw [List.drop_one, List.tail_cons, Nat.add_sub_cancel, List.take_length]
  · rw [decide_eq_false h, if_neg (by decide), if_neg h]
theorem ascii_S (a : List Nat) : Txt.isascii (SX.S a) = a.all (fun c => decide (c < 128)) := by
  unfold Txt.isascii
  rw [← Array.all_toList]
theorem digit_small : ∀ n : Fin 128, Unicode.isDigit n.val = isD n.val := by decide +kernel
theorem digit_S (a : List Nat) : (Txt.isascii (SX.S a) = true ∧ Txt.isdigit (SX.S a) = true) ↔ (a ≠ [] ∧ allD a = true) := by
  rw [ascii_S]
  unfold Txt.isdigit
  rw [← Array.all_toList, SX.S_len]
  show (a.all (fun c => decide (c < 128)) = true ∧ (decide (a.length > 0) && a.all Unicode.isDigit) = true) ↔ _
  rw [Bool.and_eq_true, decide_eq_true_eq]
  unfold allD
  rw [List.all_eq_true, List.all_eq_true, List.all_eq_true]
  constructor
  · rintro ⟨h1, h2, h3⟩
    refine ⟨List.length_pos_iff.mp h2, fun c hc => ?_⟩
    have := of_decide_eq_true (h1 c hc)
    rw [← digit_small ⟨c, this⟩]
    exact h3 c hc
  · rintro ⟨h1, h2⟩
    have sm : ∀ c ∈ a, c < 128 := fun c hc => by
      have := isD_iff.mp (h2 c hc)
      omega
    refine ⟨fun c hc => decide_eq_true (sm c hc), List.length_pos_iff.mpr h1, fun c hc => ?_⟩
    rw [digit_small ⟨c, sm c hc⟩]
    exact h2 c hc
theorem part_S (t : List Nat) : Txt.partition (SX.S t) (SX.S [46]) = (SX.S (aheadL t), SX.S (if restL t = [] then [] else [46]), SX.S (restL t).tail) := by
  have hr := ahead_rest t
  have hn := ahead_no t
  rcases rest_head t with h | ⟨f, h⟩
  · rw [if_pos h, h]
    rw [h, List.append_nil] at hr
    rw [hr] at hn ⊢
    exact SX.partition_none (by simp) (SX.par_head_none (sep := []) hn)
  · rw [h, if_neg (by simp), List.tail_cons]
    rw [h] at hr
    have := SX.par_head (sep := []) (c := 46) f hn
    rw [show aheadL t ++ ([46] ++ f) = t from hr] at this
    exact SX.partition_some (by simp) this
/-- the parts of the text and those of its body -/
theorem text_parts (t : List Nat) : (if (aheadL t).head? = some 45 then (aheadL t).tail else aheadL t) = aheadL (bodyL t) ∧ restL t = restL (bodyL t) ∧ ((aheadL t).head? = some 45 ↔ t.head? = some 45) := by
  cases t with
  | nil => simp [aheadL, restL, bodyL]
  | cons x xs =>
    by_cases h : x = 45
    · subst h
      have e1 : aheadL (45 :: xs) = 45 :: aheadL xs := by
        unfold aheadL
        rw [List.takeWhile_cons, if_pos (by decide)]
      have e2 : restL (45 :: xs) = restL xs := by
        unfold restL
        rw [List.dropWhile_cons, if_pos (by decide)]
      have e3 : bodyL (45 :: xs) = xs := by
        unfold bodyL
        exact if_pos rfl
      rw [e1, e2, e3]
      exact ⟨if_pos rfl, rfl, by simp⟩
    · have hx : ¬ (x :: xs).head? = some 45 := fun z => h (Option.some.inj z)
      have e3 : bodyL (x :: xs) = x :: xs := by
        unfold bodyL
        rw [if_neg hx]
      have ha : ¬ (aheadL (x :: xs)).head? = some 45 := fun z => by
        unfold aheadL at z
        rw [List.takeWhile_cons] at z
        split at z
        · exact hx z
        · cases z
      rw [e3]
      exact ⟨by rw [if_neg ha], rfl, ⟨fun z => absurd z ha, fun z => absurd z hx⟩⟩
end Own

/-! k05: the program: a text read. -/
namespace K05
open PySem PySem.Spec PyProof.Rows L2 LamX NdefX Own
abbrev pRf : Stmt := topS 19
abbrev pRw : Stmt := topS 20
section
variable {P : Program} {w : World} {K : PySem.W.Frag} {mg : Str → Option Value} {base : Heap} {C C2 W : Addr}
/-- a value that is no text -/
def NoText (W : Addr) (H : Hp) (x : V) : Prop := (Thing H x ∧ ∀ z, x ≠ .str z) ∨ ∃ (p : Addr) (u : Int) (s : Nat), x = .ref p ∧ WAt W H p u s
theorem NoText.isi {H : Hp} {x : V} (h : NoText W H x) (T : WorthC K mg W) (I : WIs K W) (kS : PySem.W.kitOne K (.ref W) (.type "str") = some false) : ∃ t : Value, TyX K H x t ∧ PySem.W.kitOne K t (.type "str") = some false := by
  rcases h with ⟨h, n⟩ | ⟨p, u, s, rfl, dx, ea⟩
  · cases h with
    | non => exact ⟨_, .base .non, kit_ty (show kitB "NoneType" "str" = some false by decide +kernel)⟩
    | bl b => exact ⟨_, .base (.bl b), kit_ty (show kitB "bool" "str" = some false by decide +kernel)⟩
    | int i => exact ⟨_, .base (.int i), kit_ty (show kitB "int" "str" = some false by decide +kernel)⟩
    | str z => exact absurd rfl (n z)
    | lst e => exact ⟨_, .base (.lst e), kit_ty (show kitB "list" "str" = some false by decide +kernel)⟩
    | tup e => exact ⟨_, .base (.tup e), kit_ty (show kitB "tuple" "str" = some false by decide +kernel)⟩
    | dct e => exact ⟨_, .base (.dK e), kit_ty (show kitB "dict" "str" = some false by decide +kernel)⟩
  · exact ⟨_, .base (.ins ea T.cls I.ha I.hn I.ht I.hm), kS⟩
theorem scRf : FnScope ["text", "ahead", "_", "behind", "digits", "units", "scale"] ["text"] (defScope pRf) := ⟨rfl, rfl, rfl, by decide +kernel, rfl, by decide +kernel, by decide +kernel⟩
def spRf (C W : Addr) : Sp := fun vs H Q E => ∃ x : V, vs = [x] ∧ ((NoText W H x ∧ Bad C "value" x H E) ∨ ∃ t : List Nat, x = .str (SX.S t) ∧ t.length ≤ 4000 ∧ (rpL t = none → Bad C "value" x H E) ∧ ∀ (v : Int) (n : Nat), rpL t = some (v, n) → ∀ (r : Addr) (H' : Hp), Same H H' → H' r = some (.tup [.int v, .int n]) → Q (.ref r) H')
theorem ok_rf (A : At K mg "read_figures" pRf ["text"]) (B : Blt mg) (T : WorthC K mg W) (I : WIs K W) (kS : PySem.W.kitOne K (.ref W) (.type "str") = some false) (gL : ∃ u, mg "LONGEST_TEXT" = some u ∧ RelV (.int 400) u) (MW : WMk P w K mg base C W) (TE : ErrC P w K mg base "BadValue" "value" 1 C (spErr C "value"))
    (DX : WMeth P w K mg base W "text" 11 ["self", "scale"] (spTx C C2 W)) : DefOk P w K mg base (L2.CX P w) "read_figures" 13 ["text"] (spRf C W) := by
  refine A.ok fun f fd F => F.okX scRf (fun vs H Q E h => ?_) (fun cdv A outer s0 H vs Q E hr h => ?_)
  · obtain ⟨x, rfl, _⟩ := h
    rfl
  · obtain ⟨x, rfl, h⟩ := h
    have nd := scRf.nd
    obtain ⟨fX, fdX, mX, FX, bX⟩ := DX.ex
    refine ⟨_, pss_cons (ps_if (PW.pt (pw_or (pt_not (pt_val (pe_callB call_isi (by rfl) B.isi (by decide +kernel) (pa_cons (pv 0) (pa_cons (pe_bltn (v := .ty "str") (by rfl) B.str (by decide +kernel) rfl) pa_nil))))) (pw_or1 (pt_cmpR op_gt (pe_callB call_len (by rfl) B.len PySem.boot_len (pa_cons (pv 0) pa_nil)) (C8.pe_gc (v := .int 400) (by rfl) gL) (nomark _))))) (pss_one (ps_raise rfl (takes_of rfl rfl rfl rfl) (pmk_err TE hr (by decide) (by rfl) (pv 0)))) pss_nil)
      (pss_cons (ps_asg (pe_bm PySem.F.plainAttrs_str PySem.F.slot_str_partition PySem.F.type_str_partition mt_partition (pv 0) (pa_cons pe_str pa_nil)) (pg_tup rfl (pgs_cons (pg_name (i := 1) nd rfl (.inl rfl)) (pgs_cons (pg_name (i := 2) nd rfl (.inl rfl)) (pgs_cons (pg_name (i := 3) nd rfl (.inl rfl)) pgs_nil)))))
      (pss_cons (ps_set (i := 4) nd rfl (.inl rfl) (pe_op op_add_str (pe_bm PySem.F.plainAttrs_str PySem.F.slot_str_removeprefix PySem.F.type_str_removeprefix mt_removeprefix (pv 1) (pa_cons pe_str pa_nil)) (pv 3)))
      (C8.pss_cut (ps_if (PW.pt (pw_or (pt_not (pt_val (pe_bm0 PySem.F.plainAttrs_str PySem.F.slot_str_isascii PySem.F.type_str_isascii mt_isascii (pv 4)))) (pw_or1 (pt_not (pt_val (pe_bm0 PySem.F.plainAttrs_str PySem.F.slot_str_isdigit PySem.F.type_str_isdigit mt_isdigit (pv 4))))))) (pss_one (ps_raise rfl (takes_of rfl rfl rfl rfl) (pmk_err TE hr (by decide) (by rfl) (pv 0)))) pss_nil)
      (pss_cons (ps_par (i := 5) (j := 6) (by rfl) nd rfl rfl (by decide) rfl rfl (pa_cons (pe_callTy call_int_str (by rfl) B.int (by decide +kernel) (pa_cons (pv 4) pa_nil)) (pa_cons (pe_callB call_len (by rfl) B.len PySem.boot_len (pa_cons (pv 3) pa_nil)) pa_nil)) (by rfl))
      (C8.pss_cut (ps_if (pt_val (pe_bm PySem.F.plainAttrs_str PySem.F.slot_str_startswith PySem.F.type_str_startswith mt_startswith (pv 1) (pa_cons pe_str pa_nil))) (pss_one (ps_set (i := 5) nd rfl (.inl rfl) (pe_un un_neg (pv 5)))) pss_nil)
      (pss_cons (ps_if (pt_cmpR op_ne (pe_meth (E := E) (pe_worth (C := C) (E := E) MW T hr (by decide) (by rfl) (passes_call (takes_of rfl rfl rfl rfl) fun _ _ _ _ z => z) (pa_cons (pv 5) (pa_cons (pv 6) pa_nil))) T.cls mX FX (hr.mono (by decide)) bX .nil (passes_call (takes_of rfl rfl rfl rfl) fun _ _ _ _ z => z) (pa_cons (pv 6) pa_nil)) (pv 0) (nomark _)) (pss_one (ps_raise rfl (takes_of rfl rfl rfl rfl) (pmk_err TE hr (by decide) (by rfl) (pv 0)))) pss_nil)
      (pss_one (ps_ret (pe_tup (pa_cons (pv 5) (pa_cons (pv 6) pa_nil))))))))))), ?_⟩
    rcases h with ⟨nt, bad⟩ | ⟨t, rfl, ht, q1, q2⟩
    · obtain ⟨ty, h1, k1⟩ := nt.isi T I kS
      exact ⟨_, rfl, _, _, _, _, false, rfl, .ty _, h1, k1, _, rfl, iteT ⟨_, rfl, bad_mk bad⟩⟩
    have hsz := sizeLine_eq
    have lS : ∀ l : List Nat, l.length ≤ 4000 → (SX.S l).length ≤ sizeLine := fun l h => by rw [SX.S_len]; omega
    refine ⟨_, rfl, _, _, _, _, true, rfl, .ty _, .base (.str _), kit_ty (show kitB "str" "str" = some true by decide +kernel), _, rfl, iteF ?_⟩
    refine ⟨_, rfl, _, t.length, rfl, ⟨lS t ht, by rw [SX.S_len]⟩, _, _, rfl, rfl, _, rfl, ite2 (fun e => ?_) (fun e => ?_)⟩
    · have z : (t.length : Int) > 400 := of_decide_eq_true e
      refine ⟨_, rfl, bad_mk (q1 ?_)⟩
      unfold rpL
      rw [if_pos (by omega)]
    have z4 : ¬ 400 < t.length := fun y => e (decide_eq_true (by omega))
    have z4 : ¬ 400 < t.length := z4
    obtain ⟨tp1, tp2, tp3⟩ := text_parts t
    have hs := ahead_rest t
    have hl : (aheadL t).length + (restL t).length = t.length := by rw [← List.length_append, hs]
    have hl2 : (restL t).tail.length ≤ (restL t).length := by rw [List.length_tail]; omega
    have hl3 : (aheadL (bodyL t)).length ≤ (aheadL t).length := by
      rw [← tp1]
      split
      · rw [List.length_tail]; omega
      · exact Nat.le_refl _
    have ep : Txt.partition (SX.S t) "." = (SX.S (aheadL t), SX.S (if restL t = [] then [] else [46]), SX.S (restL t).tail) := by
      rw [point_S]
      exact part_S t
    refine ⟨_, rfl, rfl, _, _, rfl, rfl, by decide +kernel, lS t ht, ?_⟩
    rw [ep]
    intro p np
    have s1 := same_new (o := HO.tup [.str (SX.S (aheadL t)), .str (SX.S (if restL t = [] then [] else [46])), .str (SX.S (restL t).tail)]) np
    have e1 : upd H p (HO.tup [.str (SX.S (aheadL t)), .str (SX.S (if restL t = [] then [] else [46])), .str (SX.S (restL t).tail)]) p = some (.tup [.str (SX.S (aheadL t)), .str (SX.S (if restL t = [] then [] else [46])), .str (SX.S (restL t).tail)]) := upd_same
    generalize upd H p (HO.tup [.str (SX.S (aheadL t)), .str (SX.S (if restL t = [] then [] else [46])), .str (SX.S (restL t).tail)]) = H1 at s1 e1 ⊢
    refine ⟨p, _, rfl, SqT.of e1, rfl, _, _, rfl, _, _, rfl, _, _, rfl, rfl, ?_⟩
    dsimp only [gName, List.set]
    have er : Txt.removeprefix (SX.S (aheadL t)) "-" = SX.S (aheadL (bodyL t)) := by rw [minus_S, rem_S, tp1]
    have lA : (aheadL t).length ≤ 4000 := by omega
    refine ⟨_, rfl, rfl, _, _, rfl, rfl, lS _ lA, _, rfl, _, _, rfl, rfl, ?_, ?_⟩
    · rw [er, SX.S_len, SX.S_len]
      omega
    rw [er, tp2, SX.S_cat]
    rw [tp2] at hl hl2
    dsimp only [gName, List.set]
    have lD : (aheadL (bodyL t) ++ (restL (bodyL t)).tail).length ≤ 400 := by rw [List.length_append]; omega
    have dg := digit_S (aheadL (bodyL t) ++ (restL (bodyL t)).tail)
    -- no figures alone
    refine ⟨fun σ H' => σ = [some (.str (SX.S t)), some (.str (SX.S (aheadL t))), some (.str (SX.S (if restL (bodyL t) = [] then [] else [46]))), some (.str (SX.S (restL (bodyL t)).tail)), some (.str (SX.S (aheadL (bodyL t) ++ (restL (bodyL t)).tail))), none, none] ∧ H' = H1 ∧ (aheadL (bodyL t) ++ (restL (bodyL t)).tail ≠ [] ∧ allD (aheadL (bodyL t) ++ (restL (bodyL t)).tail) = true), ?_, ?_⟩
    · have no : ¬ (Txt.isascii (SX.S (aheadL (bodyL t) ++ (restL (bodyL t)).tail)) = true ∧ Txt.isdigit (SX.S (aheadL (bodyL t) ++ (restL (bodyL t)).tail)) = true) → Bad C "value" (.str (SX.S t)) H1 E := fun z => Bad.same (q1 (by
        unfold rpL
        rw [if_neg z4]
        refine if_pos ?_
        by_cases y : aheadL (bodyL t) ++ (restL (bodyL t)).tail = []
        · exact .inl y
        · right
          cases e : allD (aheadL (bodyL t) ++ (restL (bodyL t)).tail) with
          | true => exact absurd (dg.mpr ⟨y, e⟩) z
          | false => rfl)) s1
      refine ⟨_, rfl, rfl, _, rfl, rfl, trivial, _, rfl, ?_⟩
      cases ha : Txt.isascii (SX.S (aheadL (bodyL t) ++ (restL (bodyL t)).tail)) with
      | false => exact iteT ⟨_, rfl, bad_mk (no (by rw [ha]; simp))⟩
      | true =>
        refine iteF ⟨_, rfl, rfl, _, rfl, rfl, trivial, _, rfl, ?_⟩
        cases hd : Txt.isdigit (SX.S (aheadL (bodyL t) ++ (restL (bodyL t)).tail)) with
        | false => exact iteT ⟨_, rfl, bad_mk (no (by rw [hd]; simp))⟩
        | true => exact iteF ⟨rfl, rfl, dg.mp ⟨ha, hd⟩⟩
    rintro σ H' ⟨rfl, rfl, hne, hal⟩
    have key : rpL t = if wrL (fndL t) (restL (bodyL t)).tail.length ≠ t then none else some (fndL t, (restL (bodyL t)).tail.length) := by
      unfold rpL
      rw [if_neg z4, if_neg (fun z => z.elim hne fun y => by rw [hal] at y; cases y)]
    have vb : valD (aheadL (bodyL t) ++ (restL (bodyL t)).tail) < 10 ^ 400 := Nat.lt_of_lt_of_le (val_lt _ _ rfl hal) (Nat.pow_le_pow_right (by decide) lD)
    have ft : fndL t = if t.head? = some 45 then -(valD (aheadL (bodyL t) ++ (restL (bodyL t)).tail) : Int) else (valD (aheadL (bodyL t) ++ (restL (bodyL t)).tail) : Int) := rfl
    have ei := SX.int_S hal hne (by omega)
    have lb : (restL (bodyL t)).tail.length ≤ 400 := by omega
    clear dg hl hl2 hl3 ep er
    generalize aheadL (bodyL t) ++ (restL (bodyL t)).tail = D at *
    generalize hf : (restL (bodyL t)).tail = f at *
    refine ⟨_, rfl, _, _, rfl, ei, by rw [SX.S_len]; omega, _, rfl, _, f.length, rfl, ⟨lS f (by omega), by rw [SX.S_len]⟩, _, _, rfl, ?_⟩
    dsimp only [gName, List.set]
    refine ⟨fun σ H2 => ∃ y2 y4 : Option V, σ = [some (.str (SX.S t)), some (.str (SX.S (aheadL t))), y2, some (.str (SX.S f)), y4, some (.int (fndL t)), some (.int (f.length : Nat))] ∧ H2 = H', ?_, ?_⟩
    · have es : Txt.startswith (SX.S (aheadL t)) "-" = decide (t.head? = some 45) := by
        rw [minus_S, starts_S]
        exact decide_eq_decide.mpr tp3
      refine ⟨_, rfl, rfl, _, _, rfl, rfl, _, rfl, ?_⟩
      rw [es, ft]
      refine ite2 (fun e => ?_) (fun e => ?_)
      · rw [if_pos (of_decide_eq_true e)]
        exact ⟨_, rfl, _, rfl, _, _, rfl, rfl⟩
      · rw [if_neg (fun z => e (decide_eq_true z))]
        exact ⟨_, _, rfl, rfl⟩
    rintro σ H1 ⟨y2, y4, rfl, rfl⟩
    have vn : (fndL t).natAbs < 10 ^ 400 := by
      rw [ft]
      split <;> omega
    refine ⟨_, rfl, _, rfl, ?_⟩
    dsimp only [tNil]
    try rw [List.append_nil]
    refine worth_of (C := C) (n := f.length) (by omega) fun u' s' p' H2 lw s2 _ w2 => ?_
    obtain ⟨d2, e2⟩ := id w2
    have le2 := lw.le
    have lu : u'.natAbs ≤ (fndL t).natAbs := by
      rw [lw.eq, Int.natAbs_mul]
      have := ten_pos (f.length - s')
      exact Nat.le_mul_of_pos_right _ (by omega)
    have b4 : (10 : Nat) ^ 400 < 10 ^ 500 := by decide +kernel
    have b9 : (10 : Nat) ^ 400 < 2 ^ 90000 := by
      have : (10 : Nat) ^ 400 < 2 ^ 1400 := by decide +kernel
      exact up_two this (by decide)
    refine ⟨p', d2, _, rfl, e2, lk_m _ _ (by decide +kernel) (by decide +kernel), _, rfl, p', u', s', .int (f.length : Nat), rfl, w2, .int _, (fun z => by rw [isWh_cast] at z; cases z), fun n' en => ?_⟩
    obtain rfl : n' = f.length := by have := V.int.inj en; omega
    refine ⟨fun z => absurd z (by omega), fun _ => ⟨by omega, Nat.lt_of_le_of_lt lu (Nat.lt_trans vn b9), by rw [← lw.eq]; exact Nat.lt_trans vn b4, ?_⟩⟩
    rw [← lw.eq]
    refine ⟨_, rfl, rfl, _, rfl, ite2 (fun e => ?_) (fun e => ?_)⟩
    · have ne : wrL (fndL t) f.length ≠ t := fun y => by
        have z : V.str (wrS (fndL t) f.length) = V.str (SX.S t) := congrArg (fun l => V.str (SX.S l)) y
        rw [decide_eq_true z] at e
        cases e
      refine ⟨_, rfl, bad_mk (Bad.same (q1 ?_) (s1.trans s2))⟩
      rw [key, if_pos ne]
    · have eq : wrL (fndL t) f.length = t := by
        by_cases y : wrL (fndL t) f.length = t
        · exact y
        · exfalso
          refine e ?_
          rw [decide_eq_false (fun z => y (SX.S_inj (V.str.inj z)))]
          rfl
      have ne : ¬ wrL (fndL t) f.length ≠ t := fun y => y eq
      refine ⟨_, rfl, _, rfl, by show 2 ≤ sizeLine; decide, fun r nr => ?_⟩
      exact q2 (fndL t) f.length (by rw [key, if_neg ne]) r _ ((s1.trans s2).trans (same_new nr)) upd_same
theorem scRw : FnScope ["text", "units", "scale"] ["text"] (defScope pRw) := ⟨rfl, rfl, rfl, by decide +kernel, rfl, by decide +kernel, by decide +kernel⟩
def spRw (C W : Addr) : Sp := fun vs H Q E => ∃ x : V, vs = [x] ∧ ((NoText W H x ∧ Bad C "value" x H E) ∨ ∃ t : List Nat, x = .str (SX.S t) ∧ t.length ≤ 4000 ∧ (rpL t = none → Bad C "value" x H E) ∧ ∀ (v : Int) (n : Nat), rpL t = some (v, n) → n < 500 ∧ ∀ (u : Int) (s : Nat) (p : Addr) (H' : Hp), Same H H' → WAt W H' p u s → IsLow v n u s → Q (.ref p) H')
theorem ok_rw (A : At K mg "read_worth" pRw ["text"]) (T : WorthC K mg W) (MW : WMk P w K mg base C W) (DF : DefOk P w K mg base (L2.CX P w) "read_figures" 13 ["text"] (spRf C W)) : DefOk P w K mg base (L2.CX P w) "read_worth" 14 ["text"] (spRw C W) := by
  refine A.ok fun f fd F => F.okX scRw (fun vs H Q E h => ?_) (fun cdv A outer s0 H vs Q E hr h => ?_)
  · obtain ⟨x, rfl, _⟩ := h
    rfl
  · obtain ⟨x, rfl, h⟩ := h
    have nd := scRw.nd
    refine ⟨_, pss_cons (ps_asg (pe_def (E := E) DF hr (by decide) (by rfl) (passes_call (takes_of rfl rfl rfl rfl) fun _ _ _ _ z => z) (pa_cons (pv 0) pa_nil)) (pg_tup rfl (pgs_cons (pg_name (i := 1) nd rfl (.inl rfl)) (pgs_cons (pg_name (i := 2) nd rfl (.inl rfl)) pgs_nil))))
      (pss_one (ps_ret (pe_worth (C := C) (E := E) MW T hr (by decide) (by rfl) (passes_call (takes_of rfl rfl rfl rfl) fun _ _ _ _ z => z) (pa_cons (pv 1) (pa_cons (pv 2) pa_nil))))), ?_⟩
    refine ⟨_, rfl, x, rfl, ?_⟩
    rcases h with h | ⟨t, rfl, ht, q1, q2⟩
    · exact .inl h
    refine .inr ⟨t, rfl, ht, q1, fun v n e r H1 s1 er => ?_⟩
    obtain ⟨hn, q⟩ := q2 v n e
    refine ⟨r, _, rfl, SqT.of er, rfl, _, _, rfl, _, _, rfl, rfl, ?_⟩
    dsimp only [gName, List.set]
    refine ⟨_, rfl, _, rfl, ?_⟩
    dsimp only [tNil]
    try rw [List.append_nil]
    exact worth_of (C := C) hn fun u s p H2 lw s2 _ wp => q u s p H2 (s1.trans s2) wp lw
end
end K05

/-! own layer, of no law: OWNL: [e for c in text]. -/
namespace Own
open PySem PySem.Spec PyProof.Rows L2 LamX NdefX
theorem lc_strW {l : List Nat} {g : TG} {tt : TT} {te : TE} {vs : List Nat} {σ : L2.St} {H1 : Hp} {D : Addr} {Qd : Hp → Prop} (Pv : Nat → Hp → Prop) (h0 : Pv 0 (upd H1 D (.lst [])))
    (hs : ∀ i c H, l[i]? = some c → Pv i H → g (.str (SX.S [c])) (wipe σ vs) H fun σ2 H2 => wipe σ2 vs = wipe σ vs ∧ tt σ2 H2 fun b H3 =>
      if b = true then te σ2 H3 fun y H4 => ∃ acc, H4 D = some (.lst acc) ∧ acc.length < sizeLine ∧ Pv (i + 1) (upd H4 D (.lst (acc ++ [y]))) else Pv (i + 1) H3) (hd : ∀ H, Pv l.length H → Qd H) :
    ∃ W : Nat → Nat → Hp → Prop, (∃ m, W 0 m (upd H1 D (.lst []))) ∧ ∀ i m H, W i m H →
      ((Its (SX.S l)).stop i H ∧ Qd H) ∨ ((Its (SX.S l)).go i H ∧ ∃ Nx : Hp → Prop, (∀ H', Nx H' → ∃ m', m' < m ∧ W (i + 1) m' H') ∧ ∀ x H', (Its (SX.S l)).yld i H x H' → g x (wipe σ vs) H' fun σ2 H2 => wipe σ2 vs = wipe σ vs ∧ tt σ2 H2 fun b H3 =>
        if b = true then te σ2 H3 fun y H4 => ∃ acc, H4 D = some (.lst acc) ∧ acc.length < sizeLine ∧ Nx (upd H4 D (.lst (acc ++ [y]))) else Nx H3) := by
  have sz : (SX.S l).cps.size = l.length := by simp
  refine ⟨fun i m H => m = l.length - i ∧ i ≤ l.length ∧ Pv i H, ⟨l.length, by simp, Nat.zero_le _, h0⟩, ?_⟩
  rintro i m H ⟨rfl, hi, p⟩
  by_cases hlt : i < l.length
  · refine .inr ⟨by show i < (SX.S l).cps.size; rw [sz]; exact hlt, Pv (i + 1), fun H' p' => ⟨l.length - (i + 1), by omega, rfl, hlt, p'⟩, fun x H' y => ?_⟩
    obtain ⟨e, c, ec, ex⟩ := y
    subst e
    subst ex
    have hc : l[i]? = some c := by
      rw [← Array.getElem?_toList] at ec
      exact ec
    exact hs i c _ hc p
  · have e : i = l.length := by omega
    subst e
    exact .inl ⟨by show (SX.S l).cps.size ≤ l.length; rw [sz]; exact Nat.le_refl _, hd H p⟩
theorem mul_zeros (n : Nat) : Txt.mul "0" (n : Int) = SX.S (List.replicate n 48) := TL.ext_tl (zeros n)
theorem in_digits (c : Nat) : (!(Builtin.Str.occurrences "0123456789" (SX.S [c]) 0 ("0123456789" : Str).length 1).isEmpty) = isD c := by
  have e : ("0123456789" : Str) = SX.S [48, 49, 50, 51, 52, 53, 54, 55, 56, 57] := by decide +kernel
  rw [e, SX.in_one]
  unfold isD
  by_cases h : 48 ≤ c ∧ c ≤ 57
  · obtain ⟨h1, h2⟩ := h
    rw [decide_eq_true h1, decide_eq_true h2, decide_eq_true]
    · rfl
    · simp only [List.mem_cons, List.not_mem_nil, or_false]
      omega
  · have n : ¬ c ∈ [48, 49, 50, 51, 52, 53, 54, 55, 56, 57] := fun z => h (by
      simp only [List.mem_cons, List.not_mem_nil, or_false] at z
      omega)
    rw [decide_eq_false n]
    by_cases h1 : 48 ≤ c
    · rw [decide_eq_true h1, decide_eq_false (fun h2 => h ⟨h1, h2⟩)]
      rfl
    · rw [decide_eq_false h1]
      rfl
end Own

/-! k05: the law: a number written, a text read. -/
namespace K05
open PySem PySem.Spec PyProof.Rows L2 LamX NdefX Own
abbrev sWn : Stmt := topS 32
abbrev sRd : Stmt := topS 33
def junkE : Expr := .Constant .none 0 ⟨0, 0, 0, 0⟩
def argN (i : Nat) : Expr → Expr
  | .Call _ l _ _ => l.getD i junkE
  | _ => junkE
def notE : Expr → Expr
  | .UnaryOp _ e _ => e
  | _ => junkE
def ifE : Stmt → Expr
  | .If e _ _ _ => e
  | .Return (some e) _ => e
  | _ => junkE
def lcSc : Expr → Scope
  | .ListComp _ _ s _ => s
  | _ => ⟨.function, [], false, false, []⟩
abbrev inD (s : Stmt) (i : Nat) : Stmt := (defBody s).getD i (.Pass ⟨0, 0, 0, 0⟩)
theorem blkRd : BlkOk ["_law_text", "_law_body", "_law_ahead", "_law_point", "_law_after", "_law_number", "_law_letter"] (defScope sRd) (lcSc (argN 0 (notE (ifE (inD sRd 4))))) [("_law_letter", 6)] := blkOk_by (by decide +kernel)
section
variable {P : Program} {w : World} {K : PySem.W.Frag} {mg : Str → Option Value} {base : Heap} {C C2 W : Addr}
theorem scWn : FnScope ["_law_units", "_law_scale", "_law_figures_here", "_law_point"] ["_law_units", "_law_scale"] (defScope sWn) := ⟨rfl, rfl, rfl, by decide +kernel, rfl, by decide +kernel, by decide +kernel⟩
def spWn : Sp := fun vs H Q _ => ∃ (u : Int) (s : Nat), vs = [.int u, .int s] ∧ u.natAbs < 10 ^ 500 ∧ s < 500 ∧ Q (.str (wrS u s)) H
theorem ok_wn (A : At K mg "_law_written" sWn ["_law_units", "_law_scale"]) (B : Blt mg) : DefOk P w K mg base CX0 "_law_written" 1 ["_law_units", "_law_scale"] spWn := by
  refine A.ok fun f fd F => F.ok scWn (fun vs H Q E h => ?_) (fun cdv A outer s0 H vs Q E hr h => ?_)
  · obtain ⟨u, s, rfl, _⟩ := h
    rfl
  · obtain ⟨u, s, rfl, hu, hs, q⟩ := h
    have nd := scWn.nd
    refine ⟨_, pss_cons (ps_set (i := 2) nd rfl (.inl rfl) (pe_callTy call_str_int (by rfl) B.str (by decide +kernel) (pa_cons (pe_callB call_abs (by rfl) B.abs (by decide +kernel) (pa_cons (pv 0) pa_nil)) pa_nil)))
      (C8.pss_cut (ps_if (pt_cmpR op_le (pe_callB call_len (by rfl) B.len PySem.boot_len (pa_cons (pv 2) pa_nil)) (pv 1) (nomark _)) (pss_one (ps_set (i := 2) nd rfl (.inl rfl) (pe_op op_add_str (pe_op op_mulS pe_str (pe_op op_sub (pe_op op_add (pv 1) pe_int) (pe_callB call_len (by rfl) B.len PySem.boot_len (pa_cons (pv 2) pa_nil)))) (pv 2)))) pss_nil)
      (C8.pss_cut (ps_if (pt_cmpR op_gt (pv 1) pe_int (nomark _)) (pss_cons (ps_set (i := 3) nd rfl (.inl rfl) (pe_op op_sub (pe_callB call_len (by rfl) B.len PySem.boot_len (pa_cons (pv 2) pa_nil)) (pv 1))) (pss_one (ps_set (i := 2) nd rfl (.inl rfl) (pe_op op_add_str (pe_op op_add_str (pe_slice C8.sl_txt (pv 2) po_none (po_some (pv 3))) pe_str) (pe_slice C8.sl_txt (pv 2) (po_some (pv 3)) po_none))))) pss_nil)
      (pss_cons (ps_if (pt_cmpR op_lt (pv 0) pe_int (nomark _)) (pss_one (ps_ret (pe_op op_add_str pe_str (pv 2)))) pss_nil)
      (pss_one (ps_ret (pv 2)))))), ?_⟩
    have hsz := sizeLine_eq
    have l5 := numL_len500 hu
    have lg := small_log hu
    have ab : (if u < 0 then -u else u) = ((u.natAbs : Nat) : Int) := by split <;> omega
    refine ⟨_, rfl, u, rfl, _, rfl, by rw [ab]; show ((u.natAbs : Nat) : Int).natAbs.log2 < 1920; rw [Int.natAbs_natCast]; omega, ?_⟩
    have et : Str.ofString (toString (if u < 0 then -u else u)) = SX.S (TL.numL u.natAbs) := by
      rw [ab]
      exact SX.num_S _
    rw [et]
    dsimp only [gName, List.set]
    have ld := pad_len (s + 1) (TL.numL u.natAbs)
    refine ⟨fun σ H' => (∃ y3 : Option V, σ = [some (.int u), some (.int (s : Nat)), some (.str (SX.S (padL (s + 1) (TL.numL u.natAbs)))), y3]) ∧ H' = H, ?_, ?_⟩
    · refine ⟨_, rfl, _, (TL.numL u.natAbs).length, rfl, ⟨by rw [SX.S_len]; omega, by rw [SX.S_len]⟩, _, rfl, _, _, rfl, rfl, _, rfl, ite2 (fun e => ?_) (fun e => ?_)⟩
      · have z : ((TL.numL u.natAbs).length : Int) ≤ (s : Int) := of_decide_eq_true e
        have en : (s : Int) + 1 - ((TL.numL u.natAbs).length : Int) = ((s + 1 - (TL.numL u.natAbs).length : Nat) : Int) := by omega
        refine ⟨_, rfl, _, _, rfl, rfl, _, rfl, _, (TL.numL u.natAbs).length, rfl, ⟨by rw [SX.S_len]; omega, by rw [SX.S_len]⟩, _, _, rfl, rfl, "0", _, rfl, rfl, ?_, ?_⟩
        · show MulOk "0" ((s : Int) + 1 - ((TL.numL u.natAbs).length : Int))
          rw [en]
          exact mulOk0 (by omega)
        have em : Txt.mul "0" ((s : Int) + 1 - ((TL.numL u.natAbs).length : Int)) = SX.S (List.replicate (s + 1 - (TL.numL u.natAbs).length) 48) := by rw [en, mul_zeros]
        rw [em]
        refine ⟨_, rfl, _, _, rfl, rfl, by rw [SX.S_len, SX.S_len, List.length_replicate]; omega, ?_⟩
        rw [SX.S_cat]
        exact ⟨⟨_, rfl⟩, rfl⟩
      · have z : ¬ ((TL.numL u.natAbs).length : Int) ≤ (s : Int) := fun y => e (decide_eq_true y)
        have ep : padL (s + 1) (TL.numL u.natAbs) = TL.numL u.natAbs := by
          unfold padL
          rw [show s + 1 - (TL.numL u.natAbs).length = 0 by omega]
          rfl
        rw [ep]
        exact ⟨⟨_, rfl⟩, rfl⟩
    rintro σ H' ⟨⟨y3, rfl⟩, rfl⟩
    unfold wrS wrL at q
    have p1 : padL 1 (TL.numL u.natAbs) = TL.numL u.natAbs := by
      unfold padL
      rw [show 1 - (TL.numL u.natAbs).length = 0 by have := List.length_pos_iff.mpr (TL.numL_ne u.natAbs); omega]
      rfl
    generalize hw : (if s = 0 then padL 1 (TL.numL u.natAbs) else (padL (s + 1) (TL.numL u.natAbs)).take ((padL (s + 1) (TL.numL u.natAbs)).length - s) ++ 46 :: (padL (s + 1) (TL.numL u.natAbs)).drop ((padL (s + 1) (TL.numL u.natAbs)).length - s)) = bd at q
    have lbd : bd.length ≤ 1100 := by
      rw [← hw]
      split
      · rw [p1]; omega
      · rw [List.length_append, List.length_cons, List.length_take, List.length_drop]; omega
    refine ⟨fun σ H2 => (∃ y3 : Option V, σ = [some (.int u), some (.int (s : Nat)), some (.str (SX.S bd)), y3]) ∧ H2 = H', ?_, ?_⟩
    · refine ⟨_, rfl, _, _, rfl, rfl, _, rfl, ite2 (fun e => ?_) (fun e => ?_)⟩
      · have z : (s : Int) > 0 := of_decide_eq_true e
        rw [if_neg (by omega)] at hw
        generalize padL (s + 1) (TL.numL u.natAbs) = dg at ld hw ⊢
        refine ⟨_, rfl, _, dg.length, rfl, ⟨by rw [SX.S_len]; omega, by rw [SX.S_len]⟩, _, rfl, _, _, rfl, rfl, ?_⟩
        dsimp only [gName, List.set]
        have en : ((dg.length : Nat) : Int) - (s : Int) = ((dg.length - s : Nat) : Int) := by omega
        refine ⟨_, rfl, _, rfl, _, rfl, _, rfl, by rw [SX.S_len]; omega, _, _, rfl, rfl, ?_, _, rfl, _, rfl, _, rfl, _, rfl, by rw [SX.S_len]; omega, _, _, rfl, rfl, ?_, ?_⟩
        · rw [en, SX.slice_to (by omega), SX.S_len, point_S, SX.S_len, List.length_take]
          simp only [List.length_singleton]
          omega
        · rw [en, SX.slice_to (by omega), SX.slice_from (by omega), point_S, SX.S_cat, SX.S_len, SX.S_len, List.length_append, List.length_take, List.length_drop]
          simp only [List.length_singleton]
          omega
        rw [en, SX.slice_to (by omega), SX.slice_from (by omega), point_S, SX.S_cat, SX.S_cat, Int.toNat_natCast, List.append_assoc, List.singleton_append, hw]
        exact ⟨⟨_, rfl⟩, rfl⟩
      · have z : ¬ (s : Int) > 0 := fun y => e (decide_eq_true y)
        obtain rfl : s = 0 := by omega
        rw [if_pos rfl] at hw
        rw [show padL (0 + 1) (TL.numL u.natAbs) = bd from hw]
        exact ⟨⟨_, rfl⟩, rfl⟩
    rintro σ H2 ⟨⟨y3', rfl⟩, rfl⟩
    refine ⟨_, rfl, _, _, rfl, rfl, _, rfl, ite2 (fun e => ?_) (fun e => ?_)⟩
    · have z : u < 0 := of_decide_eq_true e
      rw [if_pos z] at q
      refine ⟨_, rfl, _, _, rfl, rfl, by rw [minus_S, SX.S_len, SX.S_len]; simp only [List.length_singleton]; omega, ?_⟩
      rw [minus_S, SX.S_cat]
      exact q
    · have z : ¬ u < 0 := fun y => e (decide_eq_true y)
      rw [if_neg z, List.nil_append] at q
      exact ⟨_, rfl, q⟩
theorem scRd : FnScope ["_law_text", "_law_body", "_law_ahead", "_law_point", "_law_after", "_law_number", "_law_letter"] ["_law_text"] (defScope sRd) := ⟨rfl, rfl, rfl, by decide +kernel, rfl, by decide +kernel, by decide +kernel⟩
abbrev nRd : List Str := ["_law_text", "_law_body", "_law_ahead", "_law_point", "_law_after", "_law_number", "_law_letter"]
theorem head_cmp (t : List Nat) (c : Nat) : decide (V.str (Txt.slice (SX.S t) none (some 1)) = V.str (SX.S [c])) = decide (t.head? = some c) := by
  rw [SX.slice_to (by decide)]
  refine decide_eq_decide.mpr ⟨fun z => ?_, fun z => ?_⟩
  · have := SX.S_inj (V.str.inj z)
    cases t with
    | nil => cases this
    | cons x xs =>
      have h : x :: List.take 0 xs = [c] := this
      rw [List.take_zero] at h
      exact congrArg some (List.cons.inj h).1
  · cases t with
    | nil => cases z
    | cons x xs =>
      obtain rfl : x = c := Option.some.inj z
      show V.str (SX.S (x :: List.take 0 xs)) = _
      rw [List.take_zero]
def spRead : Sp := fun vs H Q _ => ∃ t : List Nat, vs = [.str (SX.S t)] ∧ t.length ≤ 4000 ∧ (rdL t = none → ∀ H', Same H H' → Q .non H') ∧ ∀ (v : Int) (n : Nat), rdL t = some (v, n) → ∀ (r : Addr) (H' : Hp), Same H H' → H' r = some (.tup [.int v, .int n]) → Q (.ref r) H'
theorem ok_read (A : At K mg "_law_read" sRd ["_law_text"]) (B : Blt mg) : DefOk P w K mg base CX0 "_law_read" 1 ["_law_text"] spRead := by
  refine A.ok fun f fd F => F.ok scRd (fun vs H Q E h => ?_) (fun cdv A outer s0 H vs Q E hr h => ?_)
  · obtain ⟨t, rfl, _⟩ := h
    rfl
  · obtain ⟨t, rfl, ht, q1, q2⟩ := h
    have nd := scRd.nd
    refine ⟨_, C8.pss_cut (ps_set (i := 1) nd rfl (.inl rfl) (pe_ifExp (pt_cmpR op_eq (pe_slice C8.sl_txt (pv 0) po_none (po_some pe_int)) pe_str (nomark _)) (pe_slice C8.sl_txt (pv 0) (po_some pe_int) po_none) (pv 0)))
      (pss_cons (ps_asg (pe_bm PySem.F.plainAttrs_str PySem.F.slot_str_partition PySem.F.type_str_partition mt_partition (pv 1) (pa_cons pe_str pa_nil)) (pg_tup rfl (pgs_cons (pg_name (i := 2) nd rfl (.inl rfl)) (pgs_cons (pg_name (i := 3) nd rfl (.inl rfl)) (pgs_cons (pg_name (i := 4) nd rfl (.inl rfl)) pgs_nil)))))
      (C8.pss_cut (ps_if (PW.pt (pw_or (pt_cmpR op_eq (pv 2) pe_str (nomark _)) (pw_or (PW.pt (pw_and (pt_cmpR op_eq (pv 3) pe_str (nomark _)) (pw_and1 (pt_cmpR op_eq (pv 4) pe_str (nomark _))))) (pw_or1 (pt_cmpR op_gt (pe_callB call_len (by rfl) B.len PySem.boot_len (pa_cons (pv 0) pa_nil)) pe_int (nomark _)))))) (pss_one (ps_ret pe_non)) pss_nil)
      (C8.pss_cut (ps_if (PW.pt (pw_and (pt_cmpR op_eq (pe_slice C8.sl_txt (pv 2) po_none (po_some pe_int)) pe_str (nomark _)) (pw_and1 (pt_cmpR op_gt (pe_callB call_len (by rfl) B.len PySem.boot_len (pa_cons (pv 2) pa_nil)) pe_int (nomark _))))) (pss_one (ps_ret pe_non)) pss_nil)
      (pss_cons (ps_if (pt_not (pt_val (pe_callB (cr_all rfl) (by rfl) B.all PyProof.Rows.boot_all (pa_cons (pe_lc (own := [("_law_letter", 6)]) (te := tOp (fun x y H Q => ∃ i j, x = .str i ∧ y = .str j ∧ Q (.bl (!(Builtin.Str.occurrences j i 0 j.length 1).isEmpty)) H) (tVar 6) (tC (.str "0123456789"))) rfl nd (pi_str (pe_op op_add_str (pv 2) (pv 4))) blkRd (fun _ _ _ _ _ => (pg_name (i := 6) nd rfl (.inl rfl))) (fun _ _ _ _ _ => pts_nil) (fun _ _ _ _ _ => (pe_cmpR op_in_str (pv 6) pe_str (by rfl)))) pa_nil)))) (pss_one (ps_ret pe_non)) pss_nil)
      (pss_cons (ps_set (i := 5) nd rfl (.inl rfl) (pe_callTy call_int_str (by rfl) B.int (by decide +kernel) (pa_cons (pe_op op_add_str (pv 2) (pv 4)) pa_nil)))
      (C8.pss_cut (ps_if (PW.pt (pw_and (pt_cmpR op_ne (pv 1) (pv 0) (nomark _)) (pw_and1 (pt_cmpR op_eq (pv 5) pe_int (nomark _))))) (pss_one (ps_ret pe_non)) pss_nil)
      (pss_one (ps_ret (pe_tup (pa_cons (pe_ifExp (pt_cmpR op_eq (pv 1) (pv 0) (nomark _)) (pv 5) (pe_un un_neg (pv 5))) (pa_cons (pe_callB call_len (by rfl) B.len PySem.boot_len (pa_cons (pv 4) pa_nil)) pa_nil))))))))))), ?_⟩
    have hsz := sizeLine_eq
    have lS : ∀ l : List Nat, l.length ≤ 4000 → (SX.S l).length ≤ sizeLine := fun l h => by rw [SX.S_len]; omega
    have lb : (bodyL t).length ≤ t.length := by
      unfold bodyL
      split
      · rw [List.length_tail]; omega
      · exact Nat.le_refl _
    -- the body
    refine ⟨fun σ H' => σ = [some (.str (SX.S t)), some (.str (SX.S (bodyL t))), none, none, none, none, none] ∧ H' = H, ?_, ?_⟩
    · refine ⟨_, rfl, 1, rfl, _, rfl, lS t ht, rfl, _, rfl, ?_⟩
      have et : decide (V.str (Txt.slice (SX.S t) none (some 1)) = V.str "-") = decide (t.head? = some 45) := by
        rw [SX.slice_to (by decide), minus_S]
        refine decide_eq_decide.mpr ⟨fun z => ?_, fun z => ?_⟩
        · have := SX.S_inj (V.str.inj z)
          cases t with
          | nil => cases this
          | cons x xs =>
            have h : x :: List.take 0 xs = [45] := this
            rw [List.take_zero] at h
            exact congrArg some (List.cons.inj h).1
        · cases t with
          | nil => cases z
          | cons x xs =>
            obtain rfl : x = 45 := Option.some.inj z
            show V.str (SX.S (45 :: List.take 0 xs)) = _
            rw [List.take_zero]
      rw [et]
      refine ite2 (fun e => ?_) (fun e => ?_)
      · have z := of_decide_eq_true e
        refine ⟨_, rfl, 1, rfl, _, rfl, lS t ht, ?_⟩
        rw [SX.slice_from (by decide)]
        have eb : bodyL t = t.drop (1 : Int).toNat := by
          unfold bodyL
          rw [if_pos z, show (1 : Int).toNat = 1 from rfl, List.drop_one]
        rw [eb]
        exact ⟨rfl, rfl⟩
      · have z : ¬ t.head? = some 45 := fun y => e (decide_eq_true y)
        have eb : bodyL t = t := by
          unfold bodyL
          rw [if_neg z]
        rw [eb]
        exact ⟨_, rfl, rfl, rfl⟩
    rintro σ H' ⟨rfl, rfl⟩
    have ep : Txt.partition (SX.S (bodyL t)) "." = (SX.S (aheadL (bodyL t)), SX.S (if restL (bodyL t) = [] then [] else [46]), SX.S (restL (bodyL t)).tail) := by
      rw [point_S]
      exact part_S _
    refine ⟨_, rfl, rfl, _, _, rfl, rfl, by decide +kernel, lS _ (by omega), ?_⟩
    rw [ep]
    intro p np
    have s1 := same_new (o := HO.tup [.str (SX.S (aheadL (bodyL t))), .str (SX.S (if restL (bodyL t) = [] then [] else [46])), .str (SX.S (restL (bodyL t)).tail)]) np
    have e1 : upd H' p (HO.tup [.str (SX.S (aheadL (bodyL t))), .str (SX.S (if restL (bodyL t) = [] then [] else [46])), .str (SX.S (restL (bodyL t)).tail)]) p = some (.tup [.str (SX.S (aheadL (bodyL t))), .str (SX.S (if restL (bodyL t) = [] then [] else [46])), .str (SX.S (restL (bodyL t)).tail)]) := upd_same
    generalize upd H' p (HO.tup [.str (SX.S (aheadL (bodyL t))), .str (SX.S (if restL (bodyL t) = [] then [] else [46])), .str (SX.S (restL (bodyL t)).tail)]) = H1 at s1 e1 ⊢
    refine ⟨p, _, rfl, SqT.of e1, rfl, _, _, rfl, _, _, rfl, _, _, rfl, rfl, ?_⟩
    dsimp only [gName, List.set]
    have hb := ahead_rest (bodyL t)
    have hbs := body_split t
    have hl : (aheadL (bodyL t)).length + (restL (bodyL t)).length = (bodyL t).length := by rw [← List.length_append, hb]
    have rd : rdL t = if aheadL (bodyL t) = [] ∨ (restL (bodyL t) ≠ [] ∧ (restL (bodyL t)).tail = []) ∨ 400 < t.length then none
      else if (aheadL (bodyL t)).head? = some 48 ∧ 1 < (aheadL (bodyL t)).length then none
      else if allD (aheadL (bodyL t) ++ (restL (bodyL t)).tail) = false then none
      else if t.head? = some 45 ∧ valD (aheadL (bodyL t) ++ (restL (bodyL t)).tail) = 0 then none
      else some (if t.head? = some 45 then -(valD (aheadL (bodyL t) ++ (restL (bodyL t)).tail) : Int) else (valD (aheadL (bodyL t) ++ (restL (bodyL t)).tail) : Int), (restL (bodyL t)).tail.length) := rfl
    have lt2 : (restL (bodyL t)).tail.length ≤ (restL (bodyL t)).length := by rw [List.length_tail]; omega
    clear ep e1 hb np
    have nb : (bodyL t = t) ↔ ¬ t.head? = some 45 := by
      constructor
      · intro z y
        rw [z, if_pos y] at hbs
        have := congrArg List.length hbs
        rw [List.length_append, List.length_singleton] at this
        omega
      · intro y
        rw [if_neg y, List.nil_append] at hbs
        exact hbs.symm
    clear hbs
    generalize aheadL (bodyL t) = a at *
    generalize restL (bodyL t) = r at *
    generalize bodyL t = b at *
    have eS : ∀ l m : List Nat, decide (V.str (SX.S l) = V.str (SX.S m)) = decide (l = m) := fun l m => decide_eq_decide.mpr ⟨fun z => SX.S_inj (V.str.inj z), fun z => by rw [z]⟩
    have q1' : rdL t = none → Q .non H1 := fun z => q1 z H1 s1
    -- what is no number at once
    refine ⟨fun σ H' => σ = [some (.str (SX.S t)), some (.str (SX.S b)), some (.str (SX.S a)), some (.str (SX.S (if r = [] then [] else [46]))), some (.str (SX.S r.tail)), none, none] ∧ H' = H1 ∧ ¬ (a = [] ∨ (r ≠ [] ∧ r.tail = []) ∨ 400 < t.length), ?_, ?_⟩
    · refine ⟨_, rfl, rfl, _, rfl, ?_⟩
      rw [empty_S, eS]
      refine ite2 (fun e => ?_) (fun e => ?_)
      · exact q1' (by rw [rd, if_pos (.inl (of_decide_eq_true e))])
      have n1 : a ≠ [] := fun z => e (decide_eq_true z)
      refine ⟨_, rfl, rfl, _, rfl, ?_⟩
      rw [point_S, eS]
      refine ite2 (fun e => ?_) (fun e => ?_)
      · have hr0 : r ≠ [] := fun z => by
          have := of_decide_eq_true e
          rw [if_pos z] at this
          cases this
        refine ⟨_, rfl, rfl, _, rfl, ?_⟩
        rw [eS]
        refine ite2 (fun e => ?_) (fun e => ?_)
        · exact q1' (by rw [rd, if_pos (.inr (.inl ⟨hr0, of_decide_eq_true e⟩))])
        have n2 : r.tail ≠ [] := fun z => e (decide_eq_true z)
        refine ⟨_, rfl, _, t.length, rfl, ⟨lS t ht, by rw [SX.S_len]⟩, _, _, rfl, rfl, _, rfl, ite2 (fun e => ?_) (fun e => ?_)⟩
        · have z : (t.length : Int) > 400 := of_decide_eq_true e
          exact q1' (by rw [rd, if_pos (.inr (.inr (by omega)))])
        · exact ⟨rfl, rfl, fun z => z.elim n1 fun z => z.elim (fun z => n2 z.2) fun z => e (decide_eq_true (by omega))⟩
      · have hr0 : r = [] := by
          by_cases z : r = []
          · exact z
          · exact absurd (decide_eq_true (if_neg z)) e
        refine ⟨_, rfl, _, t.length, rfl, ⟨lS t ht, by rw [SX.S_len]⟩, _, _, rfl, rfl, _, rfl, ite2 (fun e => ?_) (fun e => ?_)⟩
        · have z : (t.length : Int) > 400 := of_decide_eq_true e
          exact q1' (by rw [rd, if_pos (.inr (.inr (by omega)))])
        · exact ⟨rfl, rfl, fun z => z.elim n1 fun z => z.elim (fun z => z.1 hr0) fun z => e (decide_eq_true (by omega))⟩
    rintro σ H2 ⟨rfl, rfl, c1⟩
    rw [if_neg c1] at rd
    have ha : a ≠ [] := fun z => c1 (.inl z)
    have h400 : t.length ≤ 400 := by
      by_cases z : 400 < t.length
      · exact absurd (.inr (.inr z)) c1
      · omega
    have lD : (a ++ r.tail).length ≤ 400 := by rw [List.length_append]; omega
    -- a zero ahead
    refine ⟨fun σ H' => σ = [some (.str (SX.S t)), some (.str (SX.S b)), some (.str (SX.S a)), some (.str (SX.S (if r = [] then [] else [46]))), some (.str (SX.S r.tail)), none, none] ∧ H' = H2 ∧ ¬ (a.head? = some 48 ∧ 1 < a.length), ?_, ?_⟩
    · refine ⟨_, rfl, 1, rfl, _, rfl, lS _ (by omega), rfl, _, rfl, ?_⟩
      have e0 : ("0" : Str) = SX.S [48] := by decide +kernel
      rw [e0, head_cmp]
      refine ite2 (fun e => ?_) (fun e => ?_)
      · refine ⟨_, rfl, _, a.length, rfl, ⟨lS a (by omega), by rw [SX.S_len]⟩, _, _, rfl, rfl, _, rfl, ite2 (fun e2 => ?_) (fun e2 => ?_)⟩
        · have z : (a.length : Int) > 1 := of_decide_eq_true e2
          exact q1' (by rw [rd, if_pos ⟨of_decide_eq_true e, by omega⟩])
        · exact ⟨rfl, rfl, fun z => e2 (decide_eq_true (by omega))⟩
      · exact ⟨rfl, rfl, fun z => e (decide_eq_true z.1)⟩
    rintro σ H1 ⟨rfl, rfl, c2⟩
    rw [if_neg c2] at rd
    -- figures alone
    refine ⟨_, rfl, _, rfl, _, _, rfl, rfl, by rw [SX.S_len, SX.S_len]; omega, SX.S (a ++ r.tail), by rw [SX.S_cat], fun D nD => lc_strW (l := a ++ r.tail) (fun i H' => Same H1 H' ∧ H1 D = none ∧ H' D = some (.lst (((a ++ r.tail).take i).map fun c => V.bl (isD c)))) ⟨same_new nD, nD, by rw [List.take_zero]; exact upd_same⟩ ?_ ?_⟩
    · rintro i c H3 hc ⟨s3, nD, hD⟩
      have hi : i < (a ++ r.tail).length := (List.getElem?_eq_some_iff.mp hc).1
      dsimp only [gName, List.set]
      refine ⟨rfl, ?_⟩
      unfold tYes
      dsimp only
      rw [if_pos rfl]
      refine ⟨_, rfl, _, _, rfl, rfl, _, hD, ?_, ?_⟩
      · rw [List.length_map, List.length_take]
        omega
      rw [in_digits]
      refine ⟨fun bb o eb => by rw [upd_ne (ne_of_none eb nD)]; exact s3 _ _ eb, nD, ?_⟩
      rw [List.take_succ, hc]
      rw [upd_same]
      simp
    rintro H3 ⟨s3, nD, hD⟩
    rw [List.take_length] at hD
    have hD' : H3 D = some (.lst (((a ++ r.tail).map isD).map V.bl)) := by
      rw [hD, List.map_map]
      rfl
    refine ⟨D, _, rfl, SqL.of hD', _, rfl, ?_⟩
    have eA : ((a ++ r.tail).map isD).all id = allD (a ++ r.tail) := by
      rw [List.all_map]
      rfl
    rw [eA]
    have q1'' : rdL t = none → Q .non H3 := fun z => q1 z H3 (s1.trans s3)
    have hne : a ++ r.tail ≠ [] := fun z => ha (List.append_eq_nil_iff.mp z).1
    cases hal : allD (a ++ r.tail) with
    | false => exact iteT (q1'' (by rw [rd, if_pos hal]))
    | true =>
      rw [if_neg (by rw [hal]; decide)] at rd
      refine iteF ?_
      refine ⟨_, rfl, _, rfl, _, _, rfl, rfl, by rw [SX.S_len, SX.S_len]; omega, _, _, rfl, by rw [SX.S_cat]; exact SX.int_S hal hne (by omega), by rw [SX.S_cat, SX.S_len]; omega, ?_⟩
      dsimp only [gName, List.set]
      have bt : decide (V.str (SX.S b) = V.str (SX.S t)) = !decide (t.head? = some 45) := by
        rw [eS]
        by_cases z : t.head? = some 45
        · rw [decide_eq_true z, decide_eq_false (fun y => nb.mp y z)]
          rfl
        · rw [decide_eq_false z, decide_eq_true (nb.mpr z)]
          rfl
      -- no minus ahead of zero
      refine ⟨fun σ H' => σ = [some (.str (SX.S t)), some (.str (SX.S b)), some (.str (SX.S a)), some (.str (SX.S (if r = [] then [] else [46]))), some (.str (SX.S r.tail)), some (.int (valD (a ++ r.tail) : Nat)), none] ∧ H' = H3 ∧ ¬ (t.head? = some 45 ∧ valD (a ++ r.tail) = 0), ?_, ?_⟩
      · refine ⟨_, rfl, _, rfl, rfl, _, rfl, ?_⟩
        rw [bt]
        by_cases z : t.head? = some 45
        · rw [decide_eq_true z]
          refine iteT ⟨_, rfl, rfl, _, rfl, ite2 (fun e => ?_) (fun e => ?_)⟩
          · have y : V.int (valD (a ++ r.tail) : Nat) = V.int 0 := of_decide_eq_true e
            have y := V.int.inj y
            exact q1'' (by rw [rd, if_pos ⟨z, by omega⟩])
          · refine ⟨rfl, rfl, fun y => e (decide_eq_true ?_)⟩
            show V.int ((valD (a ++ r.tail) : Nat) : Int) = V.int 0
            rw [y.2]
            rfl
        · rw [decide_eq_false z]
          exact iteF ⟨rfl, rfl, fun y => z y.1⟩
      rintro σ H4 ⟨rfl, rfl, c3⟩
      rw [if_neg c3] at rd
      refine ⟨_, rfl, _, rfl, rfl, _, rfl, ?_⟩
      rw [bt]
      by_cases z : t.head? = some 45
      · rw [decide_eq_true z]
        rw [if_pos z] at rd
        refine iteF ⟨_, rfl, _, rfl, _, rfl, _, r.tail.length, rfl, ⟨lS _ (by omega), by rw [SX.S_len]⟩, by show 2 ≤ sizeLine; decide, fun rr nr => ?_⟩
        exact q2 _ _ rd rr _ ((s1.trans s3).trans (same_new nr)) upd_same
      · rw [decide_eq_false z]
        rw [if_neg z] at rd
        refine iteT ⟨_, rfl, _, rfl, _, r.tail.length, rfl, ⟨lS _ (by omega), by rw [SX.S_len]⟩, by show 2 ≤ sizeLine; decide, fun rr nr => ?_⟩
        exact q2 _ _ rd rr _ ((s1.trans s3).trans (same_new nr)) upd_same
end
end K05

/-! k05: the law: texts that are drawn. -/
namespace K05
open PySem PySem.Spec PyProof.Rows L2 LamX NdefX Own
abbrev sSp : Stmt := topS 34
abbrev sLg : Stmt := topS 35
def chk (x : Str) : Bool := x.cps.toList.all (fun c => decide (c < 128)) && (decide (1 ≤ x.cps.toList.length) && decide (x.cps.toList.length ≤ 200))
/-- plain signs alone -/
def okT (t : List Nat) : Prop := ∀ c ∈ t, c < 128
theorem okT.app {a b : List Nat} (h : okT a) (k : okT b) : okT (a ++ b) := fun c m => (List.mem_append.mp m).elim (h c) (k c)
theorem okT.take {a : List Nat} (h : okT a) (n : Nat) : okT (a.take n) := fun c m => h c (List.mem_of_mem_take m)
theorem okT.drop {a : List Nat} (h : okT a) (n : Nat) : okT (a.drop n) := fun c m => h c (List.mem_of_mem_drop m)
theorem okT.str {a : List Nat} (h : okT a) : PyData.strOk (SX.S a) = true := by
  unfold PyData.strOk
  rw [← Array.all_toList, List.all_eq_true]
  intro c hc
  exact decide_eq_true (by have := h c hc; omega)
theorem okD {a : List Nat} (h : allD a = true) : okT a := fun c hc => by
  have := isD_iff.mp (List.all_eq_true.mp h c hc)
  omega
theorem okT.wr (v : Int) (s : Nat) : okT (wrL v s) := by
  unfold wrL
  refine okT.app ?_ ?_
  · split
    · intro c hc
      rw [List.mem_singleton.mp hc]
      decide
    · intro c hc
      cases hc
  · split
    · exact okD (pad_allD _ _)
    · refine okT.app ((okD (pad_allD _ _)).take _) ?_
      intro c hc
      rcases List.mem_cons.mp hc with rfl | hc
      · decide
      · exact ((okD (pad_allD _ _)).drop _) c hc
theorem one_sign (z : Str) (h : z.cps.toList.all (fun c => decide (c < 128)) = true) : okT z.cps.toList := fun c hc => of_decide_eq_true (List.all_eq_true.mp h c hc)
section
variable {P : Program} {w : World} {K : PySem.W.Frag} {mg : Str → Option Value} {base : Heap} {C C2 W : Addr}
theorem scSp : FnScope ["_law_pen", "_law_text", "_law_signs", "_law_letter", "_law_at", "_law_manner"] ["_law_pen", "_law_text"] (defScope sSp) := ⟨rfl, rfl, rfl, by decide +kernel, rfl, by decide +kernel, by decide +kernel⟩
def spSp : Sp := fun vs H Q _ => ∃ (d : Addr) (t : List Nat) (B : Int), vs = [.ref d, .str (SX.S t)] ∧ t.length ≤ 1000 ∧ okT t ∧ Pen H d B ∧ B ≤ 900000000 ∧ ∀ (t' : List Nat) (H' : Hp), t'.length ≤ t.length + 1 → okT t' → KeepP d H H' → Pen H' d (B + 10) → Q (.str (SX.S t')) H'
theorem ok_sp (A : At K mg "_law_spoilt" sSp ["_law_pen", "_law_text"]) (B : Blt mg) (D1 : DefOk P w K mg base CX0 "_law_draw" 1 ["_law_pen", "_law_span"] spDraw) (D2 : DefOk P w K mg base CX0 "_law_pick" 2 ["_law_pen", "_law_some"] spPick) : DefOk P w K mg base CX0 "_law_spoilt" 3 ["_law_pen", "_law_text"] spSp := by
  refine A.ok fun f fd F => F.ok scSp (fun vs H Q E h => ?_) (fun cdv A outer s0 H vs Q E hr h => ?_)
  · obtain ⟨d, t, B, rfl, _⟩ := h
    rfl
  · obtain ⟨d, t, B0, rfl, ht, ok, hp, hB, q⟩ := h
    have nd := scSp.nd
    refine ⟨_, pss_cons (ps_set (i := 2) nd rfl (.inl rfl) pe_str)
      (C8.pss_cut (ps_set (i := 2) nd rfl (.inl rfl) (pe_op op_add_str (pv 2) pe_str))
      (pss_cons (ps_set (i := 3) nd rfl (.inl rfl) (pe_def D2 hr (by decide) (by rfl) pass0 (pa_cons (pv 0) (pa_cons (pe_lst (pa_cons (pe_ix ix_str (pv 2) (pe_def D1 hr (by decide) (by rfl) pass0 (pa_cons (pv 0) (pa_cons (pe_callB call_len (by rfl) B.len PySem.boot_len (pa_cons (pv 2) pa_nil)) pa_nil))) (fun _ _ => rfl)) (pa_cons pe_str (pa_cons pe_str (pa_cons pe_str (pa_cons pe_str pa_nil)))))) pa_nil))))
      (pss_cons (ps_set (i := 4) nd rfl (.inl rfl) (pe_def D1 hr (by decide) (by rfl) pass0 (pa_cons (pv 0) (pa_cons (pe_op op_add (pe_callB call_len (by rfl) B.len PySem.boot_len (pa_cons (pv 1) pa_nil)) pe_int) pa_nil))))
      (pss_cons (ps_par (i := 4) (j := 5) (by rfl) nd rfl rfl (by decide) rfl rfl (pa_cons (pe_def D2 hr (by decide) (by rfl) pass0 (pa_cons (pv 0) (pa_cons (pe_lst (pa_cons (pv 4) (pa_cons (pv 4) (pa_cons pe_int (pa_cons pe_int (pa_cons (pe_callB call_len (by rfl) B.len PySem.boot_len (pa_cons (pv 1) pa_nil)) pa_nil)))))) pa_nil))) (pa_cons (pe_def D1 hr (by decide) (by rfl) pass0 (pa_cons (pv 0) (pa_cons pe_int pa_nil))) pa_nil)) (by rfl))
      (pss_cons (ps_if (pt_cmpR op_eq (pv 5) pe_int (nomark _)) (pss_one (ps_ret (pe_op op_add_str (pe_op op_add_str (pe_slice C8.sl_txt (pv 1) po_none (po_some (pv 4))) (pv 3)) (pe_slice C8.sl_txt (pv 1) (po_some (pv 4)) po_none)))) pss_nil)
      (pss_cons (ps_if (pt_cmpR op_eq (pv 5) pe_int (nomark _)) (pss_one (ps_ret (pe_op op_add_str (pe_slice C8.sl_txt (pv 1) po_none (po_some (pv 4))) (pe_slice C8.sl_txt (pv 1) (po_some (pe_op op_add (pv 4) pe_int)) po_none)))) pss_nil)
      (pss_one (ps_ret (pe_op op_add_str (pe_op op_add_str (pe_slice C8.sl_txt (pv 1) po_none (po_some (pv 4))) (pv 3)) (pe_slice C8.sl_txt (pv 1) (po_some (pe_op op_add (pv 4) pe_int)) po_none)))))))))), ?_⟩
    have hsz := sizeLine_eq
    have lS : ∀ l : List Nat, l.length ≤ 4000 → (SX.S l).length ≤ sizeLine := fun l h => by rw [SX.S_len]; omega
    dsimp only [gName, List.set]
    refine ⟨fun σ H' => ∃ x : Str, σ = [some (.ref d), some (.str (SX.S t)), some (.str x), none, none, none] ∧ chk x = true ∧ H' = H, ?_, ?_⟩
    · exact ⟨_, rfl, _, _, rfl, rfl, by decide +kernel, _, rfl, by decide +kernel, rfl⟩
    rintro σ H' ⟨x, rfl, hx, rfl⟩
    obtain ⟨f3, f12⟩ := Bool.and_eq_true_iff.mp hx
    obtain ⟨f1, f2⟩ := Bool.and_eq_true_iff.mp f12
    have f1 := of_decide_eq_true f1
    have f2 := of_decide_eq_true f2
    have f3 : okT x.cps.toList := one_sign x f3
    have lx := str_len x
    -- a sign
    refine ⟨_, rfl, _, rfl, _, rfl, _, rfl, _, x.cps.toList.length, rfl, ⟨by omega, lx.symm⟩, d, _, _, rfl, hp, by omega, by omega, by omega, fun v H1 a1 b1 k1 p1 => ?_⟩
    obtain ⟨c, hc⟩ : ∃ c, x.cps.toList[v.toNat]? = some c := ⟨_, List.getElem?_eq_getElem (by omega)⟩
    have hv : v = (v.toNat : Int) := by omega
    refine ⟨x, v, c, rfl, rfl, by omega, by rw [hv]; exact atI_nat hc, by show 5 ≤ sizeLine; decide, fun l nl => ?_⟩
    have s2 := same_new (o := HO.lst [.str (SX.S [c]), .str "0", .str ".", .str "-", .str "7"]) nl
    refine ⟨d, l, _, _, rfl, upd_same, by simp, by show 5 ≤ 1000; decide, p1.same s2, by omega, fun y H2 hy k2 p2 => ?_⟩
    obtain ⟨c', rfl, hc'⟩ : ∃ c' : Nat, y = .str (SX.S [c']) ∧ c' < 128 := by
      simp only [List.mem_cons, List.not_mem_nil, or_false] at hy
      rcases hy with rfl | rfl | rfl | rfl | rfl
      · exact ⟨c, rfl, f3 c (List.mem_of_getElem? hc)⟩
      · exact ⟨48, congrArg V.str (by decide +kernel), by decide⟩
      · exact ⟨46, congrArg V.str (by decide +kernel), by decide⟩
      · exact ⟨45, congrArg V.str (by decide +kernel), by decide⟩
      · exact ⟨55, congrArg V.str (by decide +kernel), by decide⟩
    have kk := k1.trans ((KeepP.same s2).trans k2)
    clear hy hc k1 k2 p1 s2 nl hx f12
    dsimp only [gName, List.set]
    -- where, how
    refine ⟨_, rfl, _, rfl, _, t.length, rfl, ⟨lS t (by omega), by rw [SX.S_len]⟩, _, _, rfl, rfl, d, _, _, rfl, p2, by omega, by omega, by omega, fun v2 H3 a2 b2 k3 p3 => ?_⟩
    dsimp only [gName, List.set]
    refine ⟨_, rfl, _, rfl, _, rfl, _, rfl, _, t.length, rfl, ⟨lS t (by omega), by rw [SX.S_len]⟩, by show 5 ≤ sizeLine; decide, fun l nl => ?_⟩
    have s4 := same_new (o := HO.lst [.int v2, .int v2, .int 0, .int 1, .int (t.length : Nat)]) nl
    refine ⟨d, l, _, _, rfl, upd_same, by simp, by show 5 ≤ 1000; decide, p3.same s4, by omega, fun y H4 hy k4 p4 => ?_⟩
    obtain ⟨n, rfl⟩ : ∃ n : Nat, y = .int n := by
      simp only [List.mem_cons, List.not_mem_nil, or_false] at hy
      rcases hy with rfl | rfl | rfl | rfl | rfl
      · exact ⟨v2.toNat, by rw [Int.toNat_of_nonneg a2]⟩
      · exact ⟨v2.toNat, by rw [Int.toNat_of_nonneg a2]⟩
      · exact ⟨0, rfl⟩
      · exact ⟨1, rfl⟩
      · exact ⟨_, rfl⟩
    refine ⟨_, rfl, d, 3, _, rfl, p4, by omega, by decide, by decide, fun v3 H5 a3 b3 k5 p5 => ⟨_, _, rfl, ?_⟩⟩
    have kA := kk.trans (k3.trans ((KeepP.same s4).trans (k4.trans k5)))
    have q : ∀ t' : List Nat, t'.length ≤ t.length + 1 → okT t' → Q (.str (SX.S t')) H5 := fun t' h1 h2 => q t' H5 h1 h2 kA (p5.mono (by omega))
    clear kk kA k3 k4 k5 hy s4 nl p2 p3 p4
    dsimp only [gName, List.set]
    have o1 : okT [c'] := fun c m => by rw [List.mem_singleton.mp m]; exact hc'
    have l1 : (t.take n).length ≤ t.length := by rw [List.length_take]; omega
    have l2 : (t.take n).length + (t.drop n).length = t.length := by rw [← List.length_append, List.take_append_drop]
    have l3 : (t.drop (n + 1)).length ≤ (t.drop n).length := by rw [List.length_drop, List.length_drop]; omega
    have n1 : (n : Int) + 1 = ((n + 1 : Nat) : Int) := by omega
    refine ⟨_, rfl, rfl, _, rfl, ite2 (fun e => ?_) (fun e => ?_)⟩
    · refine ⟨_, rfl, _, rfl, _, rfl, _, rfl, lS t (by omega), _, rfl, _, _, rfl, rfl, ?_, _, rfl, _, rfl, _, rfl, _, rfl, lS t (by omega), _, _, rfl, rfl, ?_, ?_⟩
      · rw [SX.slice_to (by omega), SX.S_len, SX.S_len, Int.toNat_natCast]
        simp only [List.length_singleton]
        omega
      · rw [SX.slice_to (by omega), SX.slice_from (by omega), SX.S_cat, SX.S_len, SX.S_len, Int.toNat_natCast, List.length_append]
        simp only [List.length_singleton]
        omega
      rw [SX.slice_to (by omega), SX.slice_from (by omega), SX.S_cat, SX.S_cat, Int.toNat_natCast]
      refine q _ ?_ (((ok.take n).app o1).app (ok.drop n))
      rw [List.length_append, List.length_append, List.length_singleton]
      omega
    refine ⟨_, rfl, rfl, _, rfl, ite2 (fun e => ?_) (fun e => ?_)⟩
    · refine ⟨_, rfl, _, rfl, _, rfl, _, rfl, lS t (by omega), _, rfl, _, rfl, _, _, rfl, rfl, _, rfl, _, rfl, lS t (by omega), _, _, rfl, rfl, ?_, ?_⟩
      · rw [n1, SX.slice_to (by omega), SX.slice_from (by omega), SX.S_len, SX.S_len, Int.toNat_natCast, Int.toNat_natCast]
        omega
      rw [n1, SX.slice_to (by omega), SX.slice_from (by omega), SX.S_cat, Int.toNat_natCast, Int.toNat_natCast]
      refine q _ ?_ ((ok.take n).app (ok.drop _))
      rw [List.length_append]
      omega
    · refine ⟨_, rfl, _, rfl, _, rfl, _, rfl, lS t (by omega), _, rfl, _, _, rfl, rfl, ?_, _, rfl, _, rfl, _, _, rfl, rfl, _, rfl, _, rfl, lS t (by omega), _, _, rfl, rfl, ?_, ?_⟩
      · rw [SX.slice_to (by omega), SX.S_len, SX.S_len, Int.toNat_natCast]
        simp only [List.length_singleton]
        omega
      · rw [n1, SX.slice_to (by omega), SX.slice_from (by omega), SX.S_cat, SX.S_len, SX.S_len, Int.toNat_natCast, Int.toNat_natCast, List.length_append]
        simp only [List.length_singleton]
        omega
      rw [n1, SX.slice_to (by omega), SX.slice_from (by omega), SX.S_cat, SX.S_cat, Int.toNat_natCast, Int.toNat_natCast]
      refine q _ ?_ (((ok.take n).app o1).app (ok.drop _))
      rw [List.length_append, List.length_append, List.length_singleton]
      omega
end
end K05

/-! k05: the law: long texts, equal values, what is refused. -/
namespace K05
open PySem PySem.Spec PyProof.Rows L2 LamX NdefX Own
abbrev sSm : Stmt := topS 30
abbrev sTf : Stmt := topS 37
/-- a Worth's own == -/
structure WEq5 (P : Program) (w : World) (K : PySem.W.Frag) (mg : Str → Option Value) (base : Heap) (W f : Addr) (fd : FuncData) : Prop where
  at_ : PySem.W.findIn K (.ref W) "__eq__" = some (some (.ref f))
  isf : PySem.W.isFn K (.ref f) = true
  fn : FnOk P w K mg base (L2.CX P w) 1 f fd ["self", "other"] (spEqW W)
  bd : Binds K fd ["self", "other"] []
  sub : ∀ T ∈ tys, PySem.W.subIn K (.type T) (.ref W) = some false
theorem mulOkN {z : Str} {n : Nat} (hz : z.length ≤ 2) (hn : n ≤ 600) : MulOk z (n : Int) := by
  refine ⟨?_, fun h1 h2 => ?_, fun h1 h2 => ?_⟩
  · rw [Bool.or_eq_false_iff]
    exact ⟨decide_eq_false (by omega), decide_eq_false (by omega)⟩
  · have z := Int.le_ediv_of_mul_le (c := (n : Int)) (a := 2) (b := 2 ^ 63 - 1) (by omega) (by omega)
    omega
  · rw [Int.toNat_natCast]
    have := Nat.mul_le_mul hz hn
    exact decide_eq_false (by have := sizeLine_eq; omega)
def chkL (x : Str) : Bool := x.cps.toList.all (fun c => decide (c < 128)) && decide (x.cps.toList.length ≤ 900)
section
variable {X : Cx} {r : V → V → Hp → VK → Prop}
theorem eq_any (hu : X.A.units + 64 < cLine) (h : OpR X (compareOp .Eq) r) : OpR X (compareOp .Eq) (fun x y H Q => ((∃ a b : Int, x = .int a ∧ y = .int b ∧ Q (.bl (decide (a = b))) H) ∨ (Odd H x ∧ y = x ∧ Q (.bl true) H)) ∨ r x y H Q) := by
  intro pins s σ H x y v u Q I rx ry q
  rcases q with q | q
  · exact op_eqOdd hu pins s σ H x y v u Q I rx ry q
  · exact h pins s σ H x y v u Q I rx ry q
end
section
variable {P : Program} {w : World} {K : PySem.W.Frag} {mg : Str → Option Value} {base : Heap} {C C2 W fq : Addr} {fdq : FuncData}
theorem scLg : FnScope ["_law_pen", "_law_many", "_law_point", "_law_body", "_law_sign"] ["_law_pen"] (defScope sLg) := ⟨rfl, rfl, rfl, by decide +kernel, rfl, by decide +kernel, by decide +kernel⟩
def spLg : Sp := fun vs H Q _ => ∃ (d : Addr) (B : Int), vs = [.ref d] ∧ Pen H d B ∧ B ≤ 900000000 ∧ ∀ (t' : List Nat) (H' : Hp), t'.length ≤ 401 → okT t' → KeepP d H H' → Pen H' d (B + 10) → Q (.str (SX.S t')) H'
theorem ok_lg (A : At K mg "_law_long" sLg ["_law_pen"]) (B : Blt mg) (D1 : DefOk P w K mg base CX0 "_law_draw" 1 ["_law_pen", "_law_span"] spDraw) (D2 : DefOk P w K mg base CX0 "_law_pick" 2 ["_law_pen", "_law_some"] spPick) : DefOk P w K mg base CX0 "_law_long" 3 ["_law_pen"] spLg := by
  refine A.ok fun f fd F => F.ok scLg (fun vs H Q E h => ?_) (fun cdv A outer s0 H vs Q E hr h => ?_)
  · obtain ⟨d, B, rfl, _⟩ := h
    rfl
  · obtain ⟨d, B0, rfl, hp, hB, q⟩ := h
    have nd := scLg.nd
    refine ⟨_, pss_cons (ps_par (i := 1) (j := 2) (by rfl) nd rfl rfl (by decide) rfl rfl (pa_cons (pe_def D2 hr (by decide) (by rfl) pass0 (pa_cons (pv 0) (pa_cons (pe_lst (pa_cons pe_int (pa_cons pe_int (pa_cons pe_int pa_nil)))) pa_nil))) (pa_cons (pe_def D1 hr (by decide) (by rfl) pass0 (pa_cons (pv 0) (pa_cons pe_int pa_nil))) pa_nil)) (by rfl))
      (C8.pss_cut (ps_set (i := 3) nd rfl (.inl rfl) (pe_op op_mulS (pe_def D2 hr (by decide) (by rfl) pass0 (pa_cons (pv 0) (pa_cons (pe_lst (pa_cons pe_str (pa_cons pe_str (pa_cons pe_str pa_nil)))) pa_nil))) pe_int))
      (pss_cons (ps_set (i := 4) nd rfl (.inl rfl) (pe_def D2 hr (by decide) (by rfl) pass0 (pa_cons (pv 0) (pa_cons (pe_lst (pa_cons pe_str (pa_cons pe_str pa_nil))) pa_nil))))
      (pss_cons (ps_if (pt_cmpR op_eq (pv 2) pe_int (nomark _)) (pss_one (ps_ret (pe_slice C8.sl_txt (pe_op op_add_str (pv 4) (pv 3)) po_none (po_some (pv 1))))) pss_nil)
      (pss_one (ps_ret (pe_slice C8.sl_txt (pe_op op_add_str (pe_op op_add_str (pe_op op_add_str (pv 4) (pe_slice C8.sl_txt (pv 3) po_none (po_some (pv 2)))) pe_str) (pv 3)) po_none (po_some (pv 1)))))))), ?_⟩
    have hsz := sizeLine_eq
    have lS : ∀ l : List Nat, l.length ≤ 4000 → (SX.S l).length ≤ sizeLine := fun l h => by rw [SX.S_len]; omega
    refine ⟨_, rfl, by show 3 ≤ sizeLine; decide, fun l nl => ?_⟩
    have s1 := same_new (o := HO.lst [.int 399, .int 400, .int 401]) nl
    refine ⟨d, l, _, _, rfl, upd_same, by simp, by show 3 ≤ 1000; decide, hp.same s1, by omega, fun y H2 hy k2 p2 => ?_⟩
    obtain ⟨n, rfl, hn⟩ : ∃ n : Nat, y = .int n ∧ n ≤ 401 := by
      simp only [List.mem_cons, List.not_mem_nil, or_false] at hy
      rcases hy with rfl | rfl | rfl
      · exact ⟨399, rfl, by decide⟩
      · exact ⟨400, rfl, by decide⟩
      · exact ⟨401, rfl, by decide⟩
    refine ⟨_, rfl, d, 399, _, rfl, p2, by omega, by decide, by decide, fun v H3 a3 b3 k3 p3 => ⟨_, _, rfl, ?_⟩⟩
    have kk := ((KeepP.same s1).trans k2).trans k3
    clear hy k2 k3 p2 s1 nl
    dsimp only [gName, List.set]
    -- the figures
    refine ⟨fun σ H' => ∃ x : Str, σ = [some (.ref d), some (.int (n : Nat)), some (.int v), some (.str x), none] ∧ chkL x = true ∧ KeepP d H H' ∧ Pen H' d (B0 + 3), ?_, ?_⟩
    · refine ⟨_, rfl, by show 3 ≤ sizeLine; decide, fun l nl => ?_⟩
      have s4 := same_new (o := HO.lst [.str "8", .str "1", .str "90"]) nl
      refine ⟨d, l, _, _, rfl, upd_same, by simp, by show 3 ≤ 1000; decide, p3.same s4, by omega, fun y H4 hy k4 p4 => ?_⟩
      obtain ⟨z, rfl, hz, ck⟩ : ∃ z : Str, y = .str z ∧ z.length ≤ 2 ∧ chkL (Txt.mul z 401) = true := by
        simp only [List.mem_cons, List.not_mem_nil, or_false] at hy
        rcases hy with rfl | rfl | rfl
        · exact ⟨_, rfl, by decide +kernel, by decide +kernel⟩
        · exact ⟨_, rfl, by decide +kernel, by decide +kernel⟩
        · exact ⟨_, rfl, by decide +kernel, by decide +kernel⟩
      exact ⟨z, 401, rfl, rfl, mulOkN (n := 401) hz (by decide), _, rfl, ck, kk.trans ((KeepP.same s4).trans k4), p4.mono (by omega)⟩
    rintro σ H4 ⟨x, rfl, ck, k4, p4⟩
    obtain ⟨l, rfl⟩ : ∃ l, x = SX.S l := ⟨x.cps.toList, (SX.S_tl x).symm⟩
    obtain ⟨c1, c2⟩ := Bool.and_eq_true_iff.mp ck
    have ol : okT l := one_sign (SX.S l) c1
    have ll : l.length ≤ 900 := of_decide_eq_true c2
    clear ck c1 c2 kk p3
    -- the sign
    refine ⟨_, rfl, by show 2 ≤ sizeLine; decide, fun l0 nl => ?_⟩
    have s5 := same_new (o := HO.lst [.str "", .str "-"]) nl
    refine ⟨d, l0, _, _, rfl, upd_same, by simp, by show 2 ≤ 1000; decide, p4.same s5, by omega, fun y H5 hy k5 p5 => ?_⟩
    obtain ⟨sg, rfl, hs, os⟩ : ∃ sg : List Nat, y = .str (SX.S sg) ∧ sg.length ≤ 1 ∧ okT sg := by
      simp only [List.mem_cons, List.not_mem_nil, or_false] at hy
      rcases hy with rfl | rfl
      · exact ⟨[], congrArg V.str empty_S, by decide, fun c m => by cases m⟩
      · exact ⟨[45], congrArg V.str minus_S, by decide, fun c m => by rw [List.mem_singleton.mp m]; decide⟩
    have q : ∀ t' : List Nat, t'.length ≤ 401 → okT t' → Q (.str (SX.S t')) H5 := fun t' h1 h2 => q t' H5 h1 h2 (k4.trans ((KeepP.same s5).trans k5)) (p5.mono (by omega))
    clear hy k4 k5 p4 p5 s5 nl
    dsimp only [gName, List.set]
    have hv : v = (v.toNat : Int) := by omega
    refine ⟨_, rfl, rfl, _, rfl, ite2 (fun e => ?_) (fun e => ?_)⟩
    · refine ⟨_, rfl, _, rfl, _, _, rfl, rfl, by rw [SX.S_len, SX.S_len]; omega, _, rfl, _, rfl, _, rfl, by rw [SX.S_cat]; exact lS _ (by rw [List.length_append]; omega), ?_⟩
      rw [SX.S_cat, SX.slice_to (by omega), Int.toNat_natCast]
      exact q _ (by rw [List.length_take]; omega) ((os.app ol).take _)
    · have l2 : (l.take v.toNat).length ≤ l.length := by rw [List.length_take]; omega
      refine ⟨_, rfl, _, rfl, _, rfl, _, rfl, _, rfl, lS l (by omega), _, _, rfl, rfl, ?_, _, _, rfl, rfl, ?_, _, rfl, _, _, rfl, rfl, ?_, _, rfl, _, rfl, _, rfl, ?_, ?_⟩
      · rw [hv, SX.slice_to (by omega), SX.S_len, SX.S_len, Int.toNat_natCast]
        omega
      · rw [hv, SX.slice_to (by omega), point_S, SX.S_cat, SX.S_len, SX.S_len, Int.toNat_natCast, List.length_append]
        simp only [List.length_singleton]
        omega
      · rw [hv, SX.slice_to (by omega), point_S, SX.S_cat, SX.S_cat, SX.S_len, SX.S_len, Int.toNat_natCast, List.length_append, List.length_append]
        simp only [List.length_singleton]
        omega
      · rw [hv, SX.slice_to (by omega), point_S, SX.S_cat, SX.S_cat, SX.S_cat, Int.toNat_natCast]
        refine lS _ ?_
        rw [List.length_append, List.length_append, List.length_append, List.length_singleton]
        omega
      rw [hv, SX.slice_to (by omega), point_S, SX.S_cat, SX.S_cat, SX.S_cat, Int.toNat_natCast, SX.slice_to (by omega), Int.toNat_natCast]
      refine q _ (by rw [List.length_take]; omega) (okT.take ?_ _)
      exact ((os.app (ol.take _)).app (fun c m => by rw [List.mem_singleton.mp m]; decide)).app ol
theorem scSm : FnScope ["_law_one", "_law_other"] ["_law_one", "_law_other"] (defScope sSm) := ⟨rfl, rfl, rfl, by decide +kernel, rfl, by decide +kernel, by decide +kernel⟩
def spSame5 (W : Addr) : Sp := fun vs H Q _ => (∃ a b : Int, vs = [.int a, .int b] ∧ Q (.bl (decide (a = b))) H) ∨ (∃ x : V, vs = [x, x] ∧ Odd H x ∧ Q (.bl true) H) ∨ ∃ (p : Addr) (u : Int) (s : Nat), vs = [.ref p, .ref p] ∧ WAt W H p u s ∧ ∀ H', Same H H' → Q (.bl true) H'
theorem ok_same5 (A : At K mg "_law_same" sSm ["_law_one", "_law_other"]) (B : Blt mg) (T : WorthC K mg W) (I : WIs K W) (kB : PySem.W.kitOne K (.ref W) (.type "bool") = some false) (WE : WEq5 P w K mg base W fq fdq) : DefOk P w K mg base CX0 "_law_same" 2 ["_law_one", "_law_other"] (spSame5 W) := by
  refine A.ok fun f fd F => F.ok scSm (fun vs H Q E h => ?_) (fun cdv A outer s H vs Q E hr h => ?_)
  · rcases h with ⟨a, b, rfl, _⟩ | ⟨x, rfl, _⟩ | ⟨p, u, s, rfl, _⟩
    · rfl
    · rfl
    · rfl
  · have nd := scSm.nd
    refine ⟨_, pss_one (ps_ret (pe_and (pe_cmpR (eq_any hr.units (op_ownEq (E := E0) WE.fn (hr.mono (by decide)) WE.at_ WE.isf WE.sub WE.bd passL)) (pv 0) (pv 1) (nomark _)) (pe_one (pe_cmpR op_eq (pe_callB call_isi (by rfl) B.isi (by decide +kernel) (pa_cons (pv 0) (pa_cons (pe_bltn (v := .ty "bool") (by rfl) B.bool (by decide +kernel) rfl) pa_nil))) (pe_callB call_isi (by rfl) B.isi (by decide +kernel) (pa_cons (pv 1) (pa_cons (pe_bltn (v := .ty "bool") (by rfl) B.bool (by decide +kernel) rfl) pa_nil))) (nomark _))))), ?_⟩
    rcases h with ⟨a, b, rfl, q⟩ | ⟨x, rfl, od, q⟩ | ⟨p, u, sc, rfl, hw, q⟩
    · refine ⟨_, rfl, _, rfl, .inl (.inl ⟨a, b, rfl, rfl, _, rfl, ite2 (fun e => ?_) (fun e => ?_)⟩)⟩
      · obtain ⟨t1, h1, _, k1⟩ := (Thing.int (H := H) a).isi (K := K)
        obtain ⟨t2, h2, _, k2⟩ := (Thing.int (H := H) b).isi (K := K)
        refine ⟨_, rfl, _, _, t1, _, _, rfl, .ty _, h1, k1, _, rfl, _, _, t2, _, _, rfl, .ty _, h2, k2, rfl, ?_⟩
        rw [e] at q
        exact q
      · rw [eq_false_of_ne_true e] at q
        exact q
    · refine ⟨_, rfl, _, rfl, .inl (.inr ⟨od, rfl, _, rfl, iteT ?_⟩)⟩
      obtain ⟨t1, h1, _, k1⟩ := od.thing.isi (K := K)
      refine ⟨_, rfl, _, _, t1, _, _, rfl, .ty _, h1, k1, _, rfl, _, _, t1, _, _, rfl, .ty _, h1, k1, rfl, ?_⟩
      have e : decide (V.bl (isBl x) = V.bl (isBl x)) = true := decide_eq_true rfl
      show Q (.bl (decide (V.bl (isBl x) = V.bl (isBl x)))) H
      rw [e]
      exact q
    · obtain ⟨dx, ea⟩ := id hw
      refine ⟨_, rfl, _, rfl, .inr ⟨p, dx, _, rfl, ea, .inl ⟨p, dx, _, rfl, ea⟩, p, u, sc, .ref p, rfl, hw, .inl ⟨p, u, sc, rfl, hw, fun H1 s1 => ?_⟩⟩⟩
      rw [decide_eq_true rfl, decide_eq_true rfl]
      refine ⟨_, rfl, iteT ?_⟩
      have ea1 := s1 _ _ ea
      have h1 : TyX K H1 (.ref p) (.ref W) := .base (.ins ea1 T.cls I.ha I.hn I.ht I.hm)
      refine ⟨_, rfl, _, _, _, _, false, rfl, .ty _, h1, kB, _, rfl, _, _, _, _, false, rfl, .ty _, h1, kB, rfl, ?_⟩
      exact q _ s1
theorem scTf : FnScope ["_law_deed", "_law_told_here", "e"] ["_law_deed"] (defScope sTf) := ⟨rfl, rfl, rfl, by decide +kernel, rfl, by decide +kernel, by decide +kernel⟩
def spRefd5 (C W : Addr) : (Hp → VK → XK → Prop) → List V → Hp → VK → Prop := fun tl rest H Q => ∃ v : V, rest = [v] ∧ (Odd H v ∨ ∃ (p : Addr) (u : Int) (s : Nat), v = .ref p ∧ WAt W H p u s) ∧ (∀ (Q' : VK) (E' : XK), Bad C "value" v H E' → tl H Q' E') ∧ ∀ H', Same H H' → Q (.bl true) H'
theorem ld_refd5 (A : At K mg "_law_refused" sRefd ["_law_deed", "_law_value"]) (T : ErrC P w K mg base "BadValue" "value" 1 C (spErr C "value")) (D : DefOk P w K mg base CX0 "_law_same" 2 ["_law_one", "_law_other"] (spSame5 W)) : LamDefAt P w K mg base "_law_refused" 16 (spRefd5 C W) := by
  obtain ⟨g, fd, F, gm, b⟩ := A.ex
  refine ⟨g, ⟨fun A outer s H us f vs FF bb fr ws spl kl Q hr hkl e0 r G hf hc CC q => ?_⟩, gm, F.kp⟩
  have KX : K.In s.heap := e0.mod.kin.keeps fun b o e => (e0.bs b o e).1
  obtain ⟨v, rfl, od, q1, q2⟩ := q
  have hb := b s us KX (by rw [List.append_nil, ← r.length]; rfl)
  rw [List.append_nil] at hb
  obtain ⟨oc, od', kV, doc, pm, an, cdv, ct, osl, rfl, lk, hcd⟩ := F.ex
  refine LamX.run_ofS (N := ["_law_deed", "_law_value", "_law_told_here", "e"]) lk hcd scRefd hr e0 hb r rfl fun hr' => ?_
  have nd := scRefd.nd
  refine ⟨_, pss_cons (ps_set (i := 2) nd rfl (.inl rfl) pe_non)
    (pss_cons (ps_try_as (i := 3) (c := .ref C) rfl rfl nd rfl rfl ⟨rfl, by decide, .inl T.g⟩ L2.takes0
        (fun W pn xe tk _ => pss_one (ps_expr (pe_deedS (i := 0) (E := WE W) CC rfl G (hr'.mono (by omega)) (fun σ => passAt tk σ) rfl (.inl rfl))))
        (fun a oe cls d pn hz hf => pss_one (ps_set (i := 2) nd rfl (.inl rfl) (pe_tup (pa_cons (pe_xf T.xf T.noV hz hf (pv 3)) pa_nil)))))
    (pss_one (ps_ret (pe_and (pe_cmpR op_notN (pv 2) pe_non (nomark _)) (pe_one (pe_def D hr' (by decide) (by rfl) pass0 (pa_cons (pe_ix ix_tup (pv 2) pe_int (fun _ _ => rfl)) (pa_cons (pv 1) pa_nil)))))))), ?_⟩
  refine ⟨rfl, hf, hc, q1 _ _ fun d H1 s1 nd1 e1 => ⟨true, T.te, fun _ a na => ?_, fun z => nomatch z⟩⟩
  refine ⟨_, rfl, rfl, rfl, d, _, v, rfl, e1, by simp [List.lookup], by show 1 ≤ sizeLine; decide, fun p np => ?_⟩
  refine ⟨_, rfl, rfl, _, rfl, iteT ?_⟩
  have s2 : Same H1 (upd H1 p (.tup [v])) := same_new np
  rcases od with od | ⟨p1, u1, v1, rfl, w1⟩
  · refine ⟨_, rfl, p, [v], 0, v, rfl, rfl, SqT.of upd_same, rfl, v, rfl, .inr (.inl ⟨v, rfl, (od.same s1).same s2, ?_⟩)⟩
    exact q2 _ (s1.trans s2)
  · refine ⟨_, rfl, p, [.ref p1], 0, .ref p1, rfl, rfl, SqT.of upd_same, rfl, .ref p1, rfl, .inr (.inr ⟨p1, u1, v1, rfl, (w1.same s1).same s2, fun H3 s3 => ?_⟩)⟩
    exact q2 _ ((s1.trans s2).trans s3)
def spTf (C2 : Addr) : (Hp → VK → XK → Prop) → List V → Hp → VK → Prop := fun tl rest H Q => rest = [] ∧ ∃ v : V, (∀ (Q' : VK) (E' : XK), Bad C2 "scale" v H E' → tl H Q' E') ∧ ∀ H', Same H H' → Q v H'
theorem ld_tf (A : At K mg "_law_too_fine" sTf ["_law_deed"]) (T : ErrC P w K mg base "TooFine" "scale" 1 C2 (spErr C2 "scale")) : LamDefAt P w K mg base "_law_too_fine" 16 (spTf C2) := by
  obtain ⟨g, fd, F, gm, b⟩ := A.ex
  refine ⟨g, ⟨fun A outer s H us f vs FF bb fr ws spl kl Q hr hkl e0 r G hf hc CC q => ?_⟩, gm, F.kp⟩
  have KX : K.In s.heap := e0.mod.kin.keeps fun b o e => (e0.bs b o e).1
  obtain ⟨rfl, v, q1, q2⟩ := q
  have hb := b s us KX (by rw [List.append_nil, ← r.length]; rfl)
  rw [List.append_nil] at hb
  obtain ⟨oc, od', kV, doc, pm, an, cdv, ct, osl, rfl, lk, hcd⟩ := F.ex
  refine LamX.run_ofS (N := ["_law_deed", "_law_told_here", "e"]) lk hcd scTf hr e0 hb r rfl fun hr' => ?_
  have nd := scTf.nd
  refine ⟨_, pss_cons (ps_set (i := 1) nd rfl (.inl rfl) pe_non)
    (pss_cons (ps_try_as (i := 2) (c := .ref C2) rfl rfl nd rfl rfl ⟨rfl, by decide, .inl T.g⟩ L2.takes0
        (fun W pn xe tk _ => pss_one (ps_expr (pe_deedS (i := 0) (E := WE W) CC rfl G (hr'.mono (by omega)) (fun σ => passAt tk σ) rfl (.inl rfl))))
        (fun a oe cls d pn hz hf => pss_one (ps_set (i := 1) nd rfl (.inl rfl) (pe_xf T.xf T.noV hz hf (pv 2)))))
    (pss_one (ps_ret (pv 1)))), ?_⟩
  refine ⟨rfl, hf, hc, q1 _ _ fun d H1 s1 nd1 e1 => ⟨true, T.te, fun _ a na => ?_, fun z => nomatch z⟩⟩
  exact ⟨_, rfl, rfl, rfl, d, _, v, rfl, e1, by simp [List.lookup], _, rfl, q2 _ s1⟩
end
end K05

/-! own layer, of no law: OWNX: isinstance of a caught error with a field; a def called with a lambda written there. -/
namespace Own
open PySem PySem.Spec PyProof.Rows L2 LamX NdefX
/-- isinstance(e, c), e the exception with a dict that the suite holds -/
theorem call_isED {X : Cx} {a D : Addr} {oe : Obj} {cls : Value} {d : Option Addr} {pn : List (Addr × Obj)} (C : ExcC X.K D) (hz : Zc cls d oe) (hf : ∃ vs, oe.data = .fields vs) : CallR (X.suite a ((a, oe) :: pn)) (.builtin "isinstance")
    (fun xs H Q => ∃ (c : V) (cv : Value) (b : Bool) (dd : Addr) (fs : List (Str × V)), xs = [.ref a, c] ∧ cls = .ref D ∧ d = some dd ∧ H dd = some (.xd fs) ∧ ClsV c cv ∧ PySem.W.kitOne X.K (.ref D) cv = some b ∧ Q (.bl b) H) := by
  intro pins s σ H xs us Q I r h
  obtain ⟨c, cv, b, dd, fs, rfl, rfl, rfl, ea, hcv, e, q⟩ := h
  obtain ⟨u1, u2, rfl, r1, r2⟩ := vals2 r
  have ec := hcv.eq r2
  subst ec
  cases (show u1 = Value.ref a from r1)
  obtain ⟨hget, _⟩ := I.pin (a, oe) (List.mem_append.mpr (.inl List.mem_cons_self))
  obtain ⟨vs, hv⟩ := hf
  have hx : ObjOk X.prog X.w H s.heap dd (.xd fs) := I.hok dd _ ea
  obtain ⟨mA, hns, hr⟩ := hx
  obtain ⟨od, ho, hl⟩ := lookIn_ns hns
  have J : PySem.W.InstAt s.heap a oe D (some od) := ⟨hget, hz.1, by unfold PySem.W.notCls; rw [hv] <;> rfl, by rw [hz.2]; exact ho⟩
  obtain ⟨cd, hc, _⟩ := PySem.W.any_some C.hd
  exact PySem.W.kia_one (PySem.W.kitx_exc (by rw [hc]; rfl) C.hg C.hk C.hs C.ha C.hn C.ht C.hm) I.kIn J e (fun z => nomatch z) fun tk => ⟨.bl b, H, I.kept (t' := tk) fun _ _ z => z, rfl, q⟩
/-- x(lambda: ..), the lambda without parameters -/
def tLamDir (X : Cx) (T : List (Addr × Str)) (params : Arguments) (body : Expr) (scope : Scope) (js : List Nat) (sp : (Hp → VK → XK → Prop) → List V → Hp → VK → Prop) (spl : List (Option V) → Hp → VK → XK → Prop) : TE :=
  fun σ H Q => tCons (tLamV X T params body scope) tNil σ H fun vs H1 => ∃ f c' : Addr, vs = [.ref f] ∧ LamAt H1 f (lamF X params scope c') body ∧ H1 c' = some (CodeO c' (X.env.qual ++ "<lambda>")) ∧ sp (spl (js.map (slotAt σ))) [] H1 Q
theorem pe_lamdir {X : Cx} {T : List (Addr × Str)} {params : Arguments} {body : Expr} {scope : Scope} {js : List Nat} {fr : List Str} {k kl j : Nat} {sp : (Hp → VK → XK → Prop) → List V → Hp → VK → Prop} {spl : List (Option V) → Hp → VK → XK → Prop} {x : Str} {p pos lpos : Pos}
    (D : LamDefAt X.prog X.w X.K X.mg X.base x k sp) (hkl : kl < k) (hr : Room j X.A) (hj : k ≤ j) (G : ∀ (f c' : Addr), LOk X.prog X.w X.K X.mg X.base (L2.CX X.prog X.w) kl f (lamF X params scope c') body fr spl)
    (hl : PE X (.Lambda params body scope lpos) (tLamV X T params body scope))
    (hfree : ∀ y ∈ scope.names, y.2 = .free → X.env.scope.names.lookup y.1 = some .cell ∨ X.env.scope.names.lookup y.1 = some .free) (hfr : ∀ y ∈ fr, (y, NameKind.free) ∈ scope.names) (hjs : js.map (fun j => X.N[j]?) = fr.map some)
    (hg : Gl X x) (hdb : (x == ("__debug__" : Str)) = false := by decide) (he : starEach [.Lambda params body scope lpos] X.env = (false, eval (.Lambda params body scope lpos) X.env) :: starEach [] X.env := by rfl) (hpl : (backTo pos (starEach [] X.env)).any (·.1) = false := by rfl) :
    PE X (.Call (.Name x p) [.Lambda params body scope lpos] [] pos) (tLamDir X T params body scope js sp spl) := by
  obtain ⟨g, R, gm, kp⟩ := D.ex
  have ha := pa_cons hl pa_nil
  constructor
  intro pins s σ H Q I h
  refine wpAny_Call_Name_kw (ld_glob I hg gm ?_ hdb)
  refine PySem.W.callWith_K (h₀ := X.base) I.ok.mod.kin kp (thn (ha.run pos pins s σ H _ I h) ?_) he hpl
  rintro us s1 ⟨vs, H1, I1, r, f, c', rfl, hf, hc, q⟩
  refine ⟨I1.kIn, wpAny_call (codeAny_mono (R.run X.A X.stack s1 H1 us f [] _ _ _ _ _ kl Q (hr.mono hj) hkl I1.env0 r (G f c') hf hc (cells_blk I1 hfree hfr hjs) q) fun z s' hz => ?_)⟩
  rcases z with er | fl
  · exact (show False from hz).elim
  · cases fl
    case ret u => exact I1.after hz
    all_goals exact False.elim hz
/-- x is flat, or an object -/
def Selfy (x : V) : Prop := flatV x = true ∨ ∃ a, x = .ref a
theorem Odd.selfy {H : Hp} {x : V} (h : Odd H x) : Selfy x := by
  cases h with
  | flat h => exact .inl (by cases x <;> first | rfl | (simp [okF] at h))
  | lst e f => exact .inr ⟨_, rfl⟩
  | tup e f => exact .inr ⟨_, rfl⟩
  | dct e n f => exact .inr ⟨_, rfl⟩
theorem eqV_self {x : V} (h : flatV x = true) : eqV x x = true := by
  cases x <;> first | (cases h; done) | rfl | (simp [eqV]; done)
theorem selfy_at {A : Around} {s : Shared} {x : V} {u v : Value} (h : Selfy x) (ru : RelV x u) (rv : RelV x v) : SeqAt.EqAt A s u v true := by
  rcases h with h | ⟨a, rfl⟩
  · have z := eqAt_V (A := A) (s := s) ru rv h h
    rw [eqV_self h] at z
    exact z
  · cases (show u = Value.ref a from ru)
    cases (show v = Value.ref a from rv)
    exact SeqAt.EqAt.same _
/-- [x] == [x], [x] != [x] -/
def rOne (K : PySem.W.Frag) (b : Bool) : R2 := fun x y H Q => ∃ (l m : Addr) (z : V), x = .ref l ∧ y = .ref m ∧ SqL K H l [z] ∧ SqL K H m [z] ∧ Selfy z ∧ Q (.bl b) H
section
variable {X : Cx}
theorem one_at {pins : List (Addr × Obj)} {σ : L2.St} {H : Hp} {s : Shared} {l m : Addr} {z : V} (I : Inv X pins σ H s) (h1 : SqL X.K H l [z]) (h2 : SqL X.K H m [z]) (hz : Selfy z) : ∃ i1 i2 : Value, s.heap.IsList l #[i1] ∧ s.heap.IsList m #[i2] ∧ ∀ A : Around, SeqAt.EqAt A s i1 i2 true := by
  obtain ⟨its1, r1, l1, _⟩ := I.list h1
  obtain ⟨its2, r2, l2, _⟩ := I.list h2
  obtain ⟨v1, rfl, q1⟩ := r1.one
  obtain ⟨v2, rfl, q2⟩ := r2.one
  exact ⟨v1, v2, l1.isList, l2.isList, fun A => selfy_at hz q1 q2⟩
theorem op_eqOne (hu : X.A.units + 64 < cLine) : OpR X (compareOp .Eq) (rOne X.K true) := by
  intro pins s σ H x y v u Q I rx ry h
  obtain ⟨l, m, z, rfl, rfl, h1, h2, hz, q⟩ := h
  cases (show v = Value.ref l from rx)
  cases (show u = Value.ref m from ry)
  obtain ⟨i1, i2, e1, e2, at_⟩ := one_at I h1 h2 hz
  have := SeqAt.RcAt.lists (A := X.A) (e := fun _ => true) e1 e2 rfl (by omega) (fun j j1 j2 => by
    have a : j = 0 := by have : j < 1 := j1; omega
    subst a
    exact at_ _)
  exact this X.prog X.w _ _ ⟨.bl true, H, I, rfl, q⟩
theorem op_neOne (hu : X.A.units + 64 < cLine) : OpR X (compareOp .NotEq) (rOne X.K false) := by
  intro pins s σ H x y v u Q I rx ry h
  obtain ⟨l, m, z, rfl, rfl, h1, h2, hz, q⟩ := h
  cases (show v = Value.ref l from rx)
  cases (show u = Value.ref m from ry)
  obtain ⟨i1, i2, e1, e2, at_⟩ := one_at I h1 h2 hz
  have := SeqAt.RcNeAt.lists (A := X.A) (e := fun _ => true) e1 e2 rfl (by omega) (fun j j1 j2 => by
    have a : j = 0 := by have : j < 1 := j1; omega
    subst a
    exact at_ _)
  exact this X.prog X.w _ _ ⟨.bl false, H, I, rfl, q⟩
end
end Own

/-! k05: the law: what is asked of a text. -/
namespace Own
open PySem PySem.Spec PyProof.Rows L2 LamX NdefX
/-- x(lambda: .., e ..), the lambda without parameters -/
def tLamDirA (X : Cx) (T : List (Addr × Str)) (params : Arguments) (body : Expr) (scope : Scope) (js : List Nat) (sp : (Hp → VK → XK → Prop) → List V → Hp → VK → Prop) (spl : List (Option V) → Hp → VK → XK → Prop) (tr : TA) : TE :=
  fun σ H Q => tCons (tLamV X T params body scope) tr σ H fun vs H1 => ∃ (f c' : Addr) (rest : List V), vs = .ref f :: rest ∧ LamAt H1 f (lamF X params scope c') body ∧ H1 c' = some (CodeO c' (X.env.qual ++ "<lambda>")) ∧ sp (spl (js.map (slotAt σ))) rest H1 Q
theorem pe_lamdirA {X : Cx} {T : List (Addr × Str)} {params : Arguments} {body : Expr} {scope : Scope} {js : List Nat} {fr : List Str} {k kl j : Nat} {sp : (Hp → VK → XK → Prop) → List V → Hp → VK → Prop} {spl : List (Option V) → Hp → VK → XK → Prop} {x : Str} {p pos lpos : Pos} {es : List Expr} {tr : TA}
    (D : LamDefAt X.prog X.w X.K X.mg X.base x k sp) (hkl : kl < k) (hr : Room j X.A) (hj : k ≤ j) (G : ∀ (f c' : Addr), LOk X.prog X.w X.K X.mg X.base (L2.CX X.prog X.w) kl f (lamF X params scope c') body fr spl)
    (hl : PE X (.Lambda params body scope lpos) (tLamV X T params body scope)) (hes : PA X es tr)
    (hfree : ∀ y ∈ scope.names, y.2 = .free → X.env.scope.names.lookup y.1 = some .cell ∨ X.env.scope.names.lookup y.1 = some .free) (hfr : ∀ y ∈ fr, (y, NameKind.free) ∈ scope.names) (hjs : js.map (fun j => X.N[j]?) = fr.map some)
    (hg : Gl X x) (hdb : (x == ("__debug__" : Str)) = false := by decide) (he : starEach (.Lambda params body scope lpos :: es) X.env = (false, eval (.Lambda params body scope lpos) X.env) :: starEach es X.env := by rfl) (hpl : (backTo pos (starEach es X.env)).any (·.1) = false := by rfl) :
    PE X (.Call (.Name x p) (.Lambda params body scope lpos :: es) [] pos) (tLamDirA X T params body scope js sp spl tr) := by
  obtain ⟨g, R, gm, kp⟩ := D.ex
  have ha := pa_cons hl hes
  constructor
  intro pins s σ H Q I h
  refine wpAny_Call_Name_kw (ld_glob I hg gm ?_ hdb)
  refine PySem.W.callWith_K (h₀ := X.base) I.ok.mod.kin kp (thn (ha.run pos pins s σ H _ I h) ?_) he hpl
  rintro us s1 ⟨vs, H1, I1, r, f, c', rest, rfl, hf, hc, q⟩
  refine ⟨I1.kIn, wpAny_call (codeAny_mono (R.run X.A X.stack s1 H1 us f rest _ _ _ _ _ kl Q (hr.mono hj) hkl I1.env0 r (G f c') hf hc (cells_blk I1 hfree hfr hjs) q) fun z s' hz => ?_)⟩
  rcases z with er | fl
  · exact (show False from hz).elim
  · cases fl
    case ret u => exact I1.after hz
    all_goals exact False.elim hz
end Own
namespace K05
open PySem PySem.Spec PyProof.Rows L2 LamX NdefX Own
abbrev sAs : Stmt := topS 36
abbrev sSc : Stmt := topS 38
def bodyS : Stmt → Nat → Stmt
  | .If _ b _ _, i => b.getD i (.Pass ⟨0, 0, 0, 0⟩)
  | s, _ => s
def lamArgs : Expr → Arguments
  | .Lambda a _ _ _ => a
  | _ => ⟨[], [], none, [], [], none, []⟩
def lamBody : Expr → Expr
  | .Lambda _ b _ _ => b
  | _ => junkE
def lamScope : Expr → Scope
  | .Lambda _ _ s _ => s
  | _ => ⟨.function, [], false, false, []⟩
abbrev lx1 : Expr := argN 0 (notE (ifE (bodyS (inD sAs 1) 0)))
abbrev lx2 : Expr := argN 0 (ifE (bodyS (inD sAs 1) 1))
def qA : Str := (envOfC "_law_asked" (defScope sAs) 0 0 .none).qual ++ "<lambda>"
theorem dp_two {K : PySem.W.Frag} {H : Hp} {a : Addr} {u v : Int} (e : H a = some (.tup [.int u, .int v])) : Dp K H (.ref a) (.tuple [.int u, .int v]) := .tup (SqT.of e) (.cons (.int u) (.cons (.int v) .nil))
theorem sh_two (u v : Int) : SeqAt.shaped (.tuple [.int u, .int v]) = true := by
  unfold SeqAt.shaped
  simp [PyData.canLay0, PyData.canLayAll0, PyData.depth, PyData.depthAll]
theorem rd_bound {t : List Nat} {v : Int} {n : Nat} (h : rdL t = some (v, n)) : v.natAbs < 10 ^ 400 ∧ n ≤ 400 ∧ t.length ≤ 400 := by
  have hs := ahead_rest (bodyL t)
  have hl : (aheadL (bodyL t)).length + (restL (bodyL t)).length = (bodyL t).length := by rw [← List.length_append, hs]
  have lb : (bodyL t).length ≤ t.length := by
    unfold bodyL
    split
    · rw [List.length_tail]; omega
    · exact Nat.le_refl _
  have lt2 : (restL (bodyL t)).tail.length ≤ (restL (bodyL t)).length := by rw [List.length_tail]; omega
  unfold rdL at h
  split at h
  · cases h
  rename_i c1
  split at h
  · cases h
  split at h
  · cases h
  rename_i c3
  split at h
  · cases h
  have e := Prod.mk.inj (Option.some.inj h)
  have h4 : ¬ 400 < t.length := fun z => c1 (.inr (.inr z))
  have al : allD (aheadL (bodyL t) ++ (restL (bodyL t)).tail) = true := by
    cases z : allD (aheadL (bodyL t) ++ (restL (bodyL t)).tail) with
    | true => rfl
    | false => exact absurd z c3
  have vb : valD (aheadL (bodyL t) ++ (restL (bodyL t)).tail) < 10 ^ 400 := Nat.lt_of_lt_of_le (val_lt _ _ rfl al) (Nat.pow_le_pow_right (by decide) (by rw [List.length_append]; omega))
  refine ⟨?_, by rw [← e.2]; omega, by omega⟩
  rw [← e.1]
  generalize (10 : Nat) ^ 400 = bb at vb ⊢
  split <;> omega
section
variable {P : Program} {w : World} {K : PySem.W.Frag} {mg : Str → Option Value} {base : Heap} {C C2 W Pa Pl : Addr} {X : Cx} {f c' : Addr} {qL : Str}
def sq1 (C W : Addr) : List (Option V) → Hp → VK → XK → Prop := fun ws H Q E => ∃ x : V, ws = [some x] ∧ spRf C W [x] H Q E
theorem nsL1 : NScope ["_law_text"] [] ["_law_text"] (lamScope lx1) := nscope_by (by decide +kernel)
theorem fr1 : ∀ y ∈ (lamScope lx1).names, y.2 = .free → (defScope sAs).names.lookup y.1 = some .cell ∨ (defScope sAs).names.lookup y.1 = some .free := by decide +kernel
theorem in1 : ∀ y ∈ (["_law_text"] : List Str), (y, NameKind.free) ∈ (lamScope lx1).names := by decide +kernel
theorem lok1 (DF : DefOk P w K mg base (L2.CX P w) "read_figures" 13 ["text"] (spRf C W)) : LOk P w K mg base (L2.CX P w) 15 f (lamF X (lamArgs lx1) (lamScope lx1) c') (lamBody lx1) ["_law_text"] (sq1 C W) := by
  refine lok_of (N := ["_law_text"]) (ps := []) nsL1 rfl (fun dV doc pm ctv s us hl hd => ?_) (fun A outer s H ws Q E hr hl h => ?_)
  · obtain rfl := List.length_eq_zero_iff.mp hl
    rcases hd with ⟨_, rfl⟩ | ⟨n, _⟩
    · exact .of_eq rfl
    · exact (n rfl).elim
  · obtain ⟨x, rfl, h⟩ := h
    exact ⟨_, (pe_def (E := E) DF hr (by decide) (by rfl) (passes_call (takes_of rfl rfl rfl rfl) fun _ _ _ _ z => z) (pa_cons (pv 0) pa_nil)), _, rfl, h⟩
def sq2 (C W : Addr) : List (Option V) → Hp → VK → XK → Prop := fun ws H Q E => ∃ x : V, ws = [some x] ∧ spRw C W [x] H Q E
theorem nsL2 : NScope ["_law_text"] [] ["_law_text"] (lamScope lx2) := nscope_by (by decide +kernel)
theorem fr2 : ∀ y ∈ (lamScope lx2).names, y.2 = .free → (defScope sAs).names.lookup y.1 = some .cell ∨ (defScope sAs).names.lookup y.1 = some .free := by decide +kernel
theorem in2 : ∀ y ∈ (["_law_text"] : List Str), (y, NameKind.free) ∈ (lamScope lx2).names := by decide +kernel
theorem lok2 (DW : DefOk P w K mg base (L2.CX P w) "read_worth" 14 ["text"] (spRw C W)) : LOk P w K mg base (L2.CX P w) 15 f (lamF X (lamArgs lx2) (lamScope lx2) c') (lamBody lx2) ["_law_text"] (sq2 C W) := by
  refine lok_of (N := ["_law_text"]) (ps := []) nsL2 rfl (fun dV doc pm ctv s us hl hd => ?_) (fun A outer s H ws Q E hr hl h => ?_)
  · obtain rfl := List.length_eq_zero_iff.mp hl
    rcases hd with ⟨_, rfl⟩ | ⟨n, _⟩
    · exact .of_eq rfl
    · exact (n rfl).elim
  · obtain ⟨x, rfl, h⟩ := h
    exact ⟨_, (pe_def (E := E) DW hr (by decide) (by rfl) (passes_call (takes_of rfl rfl rfl rfl) fun _ _ _ _ z => z) (pa_cons (pv 0) pa_nil)), _, rfl, h⟩
theorem scAs : FnScope ["_law_text", "_law_due", "_law_units", "_law_scale", "_law_back"] ["_law_text"] (defScope sAs) := ⟨rfl, rfl, rfl, by decide +kernel, rfl, by decide +kernel, by decide +kernel⟩
def spAs (Pa Pl : Addr) (qL : Str) : Sp := fun vs H Q _ => ∃ t : List Nat, vs = [.str (SX.S t)] ∧ t.length ≤ 4000 ∧ okT t ∧ Tabs [(Pa, qA), (Pl, qL)] H ∧ ∀ H', ExtN H H' → Tabs [(Pa, qA), (Pl, qL)] H' → Q (.bl true) H'
theorem ok_as {c0 : Addr} (A : AtC K mg "_law_asked" sAs ["_law_text"] c0) (TB : TabB base mg c0 Pa) (nP : Pa ≠ Pl) (B : Blt mg) (DF : DefOk P w K mg base (L2.CX P w) "read_figures" 13 ["text"] (spRf C W)) (DW : DefOk P w K mg base (L2.CX P w) "read_worth" 14 ["text"] (spRw C W)) (DR : LamDefAt P w K mg base "_law_refused" 16 (spRefd5 C W))
    (DRd : DefOk P w K mg base CX0 "_law_read" 1 ["_law_text"] spRead) (DSm : DefOk P w K mg base CX0 "_law_same" 2 ["_law_one", "_law_other"] (spSame5 W)) (DTo : DefOk P w K mg base CX0 "_law_told" 1 ["_law_worth"] (spTold W)) (DLo : DefOk P w K mg base CX0 "_law_low" 2 ["_law_units", "_law_scale"] spLow) :
    DefOk P w K mg base CX0 "_law_asked" 17 ["_law_text"] (spAs Pa Pl qL) := by
  obtain ⟨g, oc, od0, kV, doc, pm, an, ct, osl, lk, hcd, gm, kp, bd⟩ := A.ex
  refine ⟨g, _, fn_of lk hcd scAs (fun vs H Q E h => ?_) (fun A outer s H vs Q E hr h => ?_), gm, kp, bd⟩
  · obtain ⟨t, rfl, _⟩ := h
    rfl
  · obtain ⟨t, rfl, ht, ok, hT, q⟩ := h
    have nd := scAs.nd
    have hm : (Pa, qA) ∈ [(Pa, qA), (Pl, qL)] := List.mem_cons_self ..
    have hu : ∀ p ∈ [(Pa, qA), (Pl, qL)], p.1 = Pa → p.2 = qA := fun p hp e => by
      simp only [List.mem_cons, List.not_mem_nil, or_false] at hp
      rcases hp with rfl | rfl
      · rfl
      · exact absurd e.symm nP
    refine ⟨_, pss_cons (ps_set (i := 1) nd rfl (.inl rfl) (pe_def DRd hr (by decide) (by rfl) pass0 (pa_cons (pv 0) pa_nil)))
      (pss_cons (ps_if (pt_cmpR op_isN (pv 1) pe_non (nomark _)) (pss_cons (ps_if (pt_not (pt_val (pe_lamdirA DR (show 15 < 16 by decide) hr (by decide) (fun f c' => lok1 DF) (pe_lamV TB rfl hm hu rfl rfl fr1) (pa_cons (pv 0) pa_nil) (js := [0]) fr1 in1 rfl (by rfl)))) (pss_one (ps_ret pe_bl)) pss_nil) (pss_one (ps_ret (pe_lamdirA DR (show 15 < 16 by decide) hr (by decide) (fun f c' => lok2 DW) (pe_lamV TB rfl hm hu rfl rfl fr2) (pa_cons (pv 0) pa_nil) (js := [0]) fr2 in2 rfl (by rfl))))) pss_nil)
      (pss_cons (ps_asg (pv 1) (pg_tup rfl (pgs_cons (pg_name (i := 2) nd rfl (.inl rfl)) (pgs_cons (pg_name (i := 3) nd rfl (.inl rfl)) pgs_nil))))
      (pss_cons (ps_set (i := 4) nd rfl (.inl rfl) (pe_def (E := E0) DF hr (by decide) (by rfl) passL (pa_cons (pv 0) pa_nil)))
      (pss_cons (ps_if (PW.pt (pw_or (pt_not (pt_val (pe_callB call_isi (by rfl) B.isi (by decide +kernel) (pa_cons (pv 4) (pa_cons (pe_bltn (v := .ty "tuple") (by rfl) B.tuple (by decide +kernel) rfl) pa_nil))))) (pw_or1 (pt_cmpR op_ne (pe_callB call_len_seq (by rfl) B.len PySem.boot_len (pa_cons (pv 4) pa_nil)) pe_int (nomark _))))) (pss_one (ps_ret pe_bl)) pss_nil)
      (pss_cons (ps_if (PW.pt (pw_or (pt_not (pt_val (pe_def DSm hr (by decide) (by rfl) pass0 (pa_cons (pe_ix ix_tup (pv 4) pe_int (fun _ _ => rfl)) (pa_cons (pv 2) pa_nil))))) (pw_or1 (pt_not (pt_val (pe_def DSm hr (by decide) (by rfl) pass0 (pa_cons (pe_ix ix_tup (pv 4) pe_int (fun _ _ => rfl)) (pa_cons (pv 3) pa_nil)))))))) (pss_one (ps_ret pe_bl)) pss_nil)
      (pss_one (ps_ret (pe_cmpR (op_eqD hr.units) (pe_def DTo hr (by decide) (by rfl) pass0 (pa_cons (pe_def (E := E0) DW hr (by decide) (by rfl) passL (pa_cons (pv 0) pa_nil)) pa_nil)) (pe_def DLo hr (by decide) (by rfl) pass0 (pa_cons (pv 2) (pa_cons (pv 3) pa_nil))) (nomark _))))))))), ?_⟩
    have od : ∀ H, Odd H (.str (SX.S t)) := fun H => .flat (h := ok.str)
    refine ⟨_, rfl, t, rfl, ht, fun e H1 s1 => ?_, fun v n e r H1 s1 er => ?_⟩
    · dsimp only [gName, List.set]
      have T1 := hT.ext s1
      have x1 := ExtN.same s1
      refine ⟨_, rfl, rfl, _, rfl, iteT ?_⟩
      refine ⟨T1, fun f1 c1 H2 x2 T2 _ l2 d2 => ⟨_, rfl, f1, c1, _, rfl, l2, d2, .str (SX.S t), rfl, .inl (od _), fun Q' E' bad => ⟨.str (SX.S t), rfl, .str (SX.S t), rfl, .inr ⟨t, rfl, ht, fun _ => bad, fun v n e' => by rw [rp_rd, e] at e'; cases e'⟩⟩, fun H3 s3 => ⟨_, rfl, iteF ?_⟩⟩⟩
      have T3 := T2.ext s3
      have x3 := (x1.trans x2).trans (ExtN.same s3)
      refine ⟨T3, fun f4 c4 H4 x4 T4 _ l4 d4 => ⟨_, rfl, f4, c4, _, rfl, l4, d4, .str (SX.S t), rfl, .inl (od _), fun Q' E' bad => ⟨.str (SX.S t), rfl, .str (SX.S t), rfl, .inr ⟨t, rfl, ht, fun _ => bad, fun v n e' => by rw [rp_rd, e] at e'; cases e'⟩⟩, fun H5 s5 => ?_⟩⟩
      exact q _ ((x3.trans x4).trans (ExtN.same s5)) (T4.ext s5)
    · have ne : rpL t = some (v, n) := by rw [rp_rd]; exact e
      obtain ⟨vb, nb, tb⟩ := rd_bound e
      dsimp only [gName, List.set]
      refine ⟨_, rfl, rfl, _, rfl, iteF ?_⟩
      refine ⟨_, rfl, r, _, rfl, SqT.of er, rfl, _, _, rfl, _, _, rfl, rfl, ?_⟩
      dsimp only [gName, List.set]
      refine ⟨_, rfl, .str (SX.S t), rfl, .inr ⟨t, rfl, ht, (fun z => by rw [ne] at z; cases z), fun v' n' e' r2 H2 s2 er2 => ?_⟩⟩
      obtain ⟨rfl, rfl⟩ := Prod.mk.inj (Option.some.inj (ne.symm.trans e'))
      dsimp only [gName, List.set]
      refine ⟨_, rfl, _, _, _, _, true, rfl, .ty _, .base (.tup er2), kit_ty (show kitB "tuple" "tuple" = some true by decide +kernel), _, rfl, iteF ?_⟩
      refine ⟨_, rfl, r2, _, rfl, .inr (SqT.of er2), rfl, _, rfl, iteF ?_⟩
      refine ⟨_, rfl, r2, _, 0, _, rfl, rfl, SqT.of er2, rfl, _, rfl, .inl ⟨v, v, rfl, ?_⟩⟩
      rw [decide_eq_true rfl]
      refine ⟨_, rfl, iteF ?_⟩
      refine ⟨_, rfl, r2, _, 1, _, rfl, rfl, SqT.of er2, rfl, _, rfl, .inl ⟨n, n, rfl, ?_⟩⟩
      rw [decide_eq_true rfl]
      refine ⟨_, rfl, iteF ?_⟩
      have b9 : (10 : Nat) ^ 400 < 2 ^ 1900 := by
        have : (10 : Nat) ^ 400 < 2 ^ 1400 := by decide +kernel
        exact up_two this (by decide)
      refine ⟨_, rfl, .str (SX.S t), rfl, .inr ⟨t, rfl, ht, (fun z => by rw [ne] at z; cases z), fun v' n' e' => ?_⟩⟩
      obtain ⟨rfl, rfl⟩ := Prod.mk.inj (Option.some.inj (ne.symm.trans e'))
      refine ⟨by omega, fun u1 v1 p1 H3 s3 w1 l1 => ?_⟩
      refine ⟨p1, u1, v1, rfl, w1, fun r4 H4 s4 n4 e4 => ?_⟩
      refine ⟨_, rfl, _, rfl, v, n, rfl, Nat.lt_trans vb b9, by omega, fun u5 v5 r5 l5 n5 => ?_⟩
      obtain ⟨rfl, rfl⟩ := low_eq l1 l5
      have s5 := same_new (o := HO.tup [.int u1, .int v1]) n5
      refine ⟨_, _, dp_two (s5 _ _ e4), dp_two upd_same, sh_two _ _, sh_two _ _, ?_⟩
      rw [SeqAt.eqv_refl _ (SeqAt.canLay_of_shaped (sh_two _ _))]
      have sA := (((s1.trans s2).trans s3).trans s4).trans s5
      exact q _ (ExtN.same sA) (hT.ext sA)
theorem scSc : FnScope ["_law_worth", "_law_units", "_law_scale"] ["_law_worth", "_law_units", "_law_scale"] (defScope sSc) := ⟨rfl, rfl, rfl, by decide +kernel, rfl, by decide +kernel, by decide +kernel⟩
theorem wr_len {v : Int} {n : Nat} (h : v.natAbs < 10 ^ 500) (hn : n ≤ 500) : (wrL v n).length ≤ 600 + 500 := by
  have l5 := numL_len500 h
  have ld := pad_len (n + 1) (TL.numL v.natAbs)
  have l1 := pad_len 1 (TL.numL v.natAbs)
  unfold wrL
  rw [List.length_append]
  have lm : (if v < 0 then [45] else ([] : List Nat)).length ≤ 1 := by split <;> simp
  generalize (if v < 0 then [45] else ([] : List Nat)) = sg at lm ⊢
  clear h
  by_cases z : n = 0
  · rw [if_pos z]
    omega
  · rw [if_neg z, List.length_append, List.length_cons, List.length_take, List.length_drop]
    omega
def spSc (W Pa Pl : Addr) (qL : Str) : Sp := fun vs H Q _ => ∃ (p : Addr) (u v : Int) (s n : Nat), vs = [.ref p, .int v, .int n] ∧ WAt W H p u s ∧ IsLow v n u s ∧ n < 500 ∧ v.natAbs < 10 ^ 500 ∧ Tabs [(Pa, qA), (Pl, qL)] H ∧ ∀ H', ExtN H H' → Tabs [(Pa, qA), (Pl, qL)] H' → Q (.bl true) H'
theorem ok_sc (A : At K mg "_law_scales" sSc ["_law_worth", "_law_units", "_law_scale"]) (B : Blt mg) (T : WorthC K mg W) (DU : WMeth P w K mg base W "units_at" 10 ["self", "scale"] (spU3 C C2 W)) (DX : WMeth P w K mg base W "text" 11 ["self", "scale"] (spTx C C2 W)) (DWn : DefOk P w K mg base CX0 "_law_written" 1 ["_law_units", "_law_scale"] spWn) (DAs : DefOk P w K mg base CX0 "_law_asked" 17 ["_law_text"] (spAs Pa Pl qL)) :
    DefOk P w K mg base CX0 "_law_scales" 18 ["_law_worth", "_law_units", "_law_scale"] (spSc W Pa Pl qL) := by
  refine A.ok fun f fd F => F.ok scSc (fun vs H Q E h => ?_) (fun cdv A outer s0 H vs Q E hr h => ?_)
  · obtain ⟨p, u, v, s, n, rfl, _⟩ := h
    rfl
  · obtain ⟨p, u, v, s, n, rfl, hw, lw, hn, hv, hT, q⟩ := h
    obtain ⟨fU, fdU, mU, FU, bU⟩ := DU.ex
    obtain ⟨fX, fdX, mX, FX, bX⟩ := DX.ex
    refine ⟨_, pss_cons (ps_if (PW.pt (pw_or (pt_cmpR op_ne (pe_meth (E := E0) (pv 0) T.cls mU FU (hr.mono (by decide)) bU .nil passL (pa_cons (pv 2) pa_nil)) (pv 1) (nomark _)) (pw_or1 (pt_cmpR op_ne (pe_meth (E := E0) (pv 0) T.cls mX FX (hr.mono (by decide)) bX .nil passL (pa_cons (pv 2) pa_nil)) (pe_def DWn hr (by decide) (by rfl) pass0 (pa_cons (pv 1) (pa_cons (pv 2) pa_nil))) (nomark _))))) (pss_one (ps_ret pe_bl)) pss_nil)
      (pss_one (ps_ret (pe_and (pe_callB call_isi (by rfl) B.isi (by decide +kernel) (pa_cons (pe_meth (E := E0) (pv 0) T.cls mX FX (hr.mono (by decide)) bX .nil passL (pa_cons (pv 2) pa_nil)) (pa_cons (pe_bltn (v := .ty "str") (by rfl) B.str (by decide +kernel) rfl) pa_nil))) (pe_one (pe_def DAs hr (by decide) (by rfl) pass0 (pa_cons (pe_meth (E := E0) (pv 0) T.cls mX FX (hr.mono (by decide)) bX .nil passL (pa_cons (pv 2) pa_nil)) pa_nil)))))), ?_⟩
    obtain ⟨dx, ea⟩ := id hw
    have lu : u.natAbs < 2 ^ 90000 := by
      have h1 : u.natAbs ≤ v.natAbs := by
        have := ten_pos (n - s)
        rw [lw.eq, Int.natAbs_mul]
        exact Nat.le_mul_of_pos_right _ (by omega)
      have b9 : (10 : Nat) ^ 500 < 2 ^ 90000 := by
        have : (10 : Nat) ^ 500 < 2 ^ 1700 := by decide +kernel
        exact up_two this (by decide)
      exact Nat.lt_of_le_of_lt h1 (Nat.lt_trans hv b9)
    have nw : ∀ {q : Prop}, isWh (.int (n : Int)) = false → q := fun z => by rw [isWh_cast] at z; cases z
    have tell : ∀ (Q' : VK), Q' (.str (wrS v n)) H → spTx C C2 W [.ref p, .int (n : Nat)] H Q' E0 := fun Q' q' => ⟨p, u, s, .int (n : Nat), rfl, hw, .int _, nw, fun n' en => by
      obtain rfl : n' = n := by have := V.int.inj en; omega
      exact ⟨fun z => absurd lw.le (by omega), fun _ => ⟨hn, lu, by rw [← lw.eq]; exact hv, by rw [← lw.eq]; exact q'⟩⟩⟩
    refine ⟨_, rfl, p, dx, _, rfl, ea, lk_m _ _ (by decide +kernel) (by decide +kernel), _, rfl, p, u, s, .int (n : Nat), rfl, hw, .int _, nw, fun n' en => ?_⟩
    obtain rfl : n' = n := by have := V.int.inj en; omega
    refine ⟨fun z => absurd lw.le (by omega), fun _ => ⟨hn, lu, ?_⟩⟩
    rw [← lw.eq]
    refine ⟨_, rfl, rfl, _, rfl, ?_⟩
    rw [decide_eq_true rfl]
    refine iteF ?_
    refine ⟨_, rfl, p, dx, _, rfl, ea, lk_m _ _ (by decide +kernel) (by decide +kernel), _, rfl, ?_⟩
    dsimp only [tNil]
    try rw [List.append_nil]
    refine tell _ ?_
    refine ⟨_, rfl, _, rfl, v, n', rfl, hv, hn, rfl, _, rfl, ?_⟩
    rw [decide_eq_true rfl]
    refine iteF ?_
    refine ⟨_, rfl, p, dx, _, rfl, ea, lk_m _ _ (by decide +kernel) (by decide +kernel), _, rfl, ?_⟩
    dsimp only [tNil]
    try rw [List.append_nil]
    refine tell _ ?_
    refine ⟨_, _, _, _, true, rfl, .ty _, .base (.str _), kit_ty (show kitB "str" "str" = some true by decide +kernel), _, rfl, iteT ?_⟩
    refine ⟨_, rfl, p, dx, _, rfl, ea, lk_m _ _ (by decide +kernel) (by decide +kernel), _, rfl, ?_⟩
    dsimp only [tNil]
    try rw [List.append_nil]
    refine tell _ ?_
    exact ⟨wrL v n', rfl, by have := wr_len hv (show n' ≤ 500 by omega); omega, okT.wr v n', hT, q⟩
end
end K05

/-! own layer, of no law: OWNR: rows of a lambda and the value that it is refused with. -/
namespace Own
open PySem PySem.Spec PyProof.Rows L2 LamX NdefX
/-- what stands stands still, the tables of code and the pen at d apart -/
def KeepT (d : Addr) (H H' : Hp) : Prop := ∀ b o, b ≠ d → H b = some o → (∀ ps, o ≠ .tbl ps) → H' b = some o
/-- objects that neither lists nor tables of code are -/
def Firm (H : Hp) (is : List (Addr × HO)) : Prop := ∀ p ∈ is, H p.1 = some p.2 ∧ (∀ l, p.2 ≠ .lst l) ∧ ∀ ps, p.2 ≠ .tbl ps
theorem Firm.ext {H H' : Hp} {is : List (Addr × HO)} (h : Firm H is) (e : ExtN H H') : Firm H' is := fun p hp => ⟨e _ _ (h p hp).1 (h p hp).2.2, (h p hp).2⟩
theorem Firm.put {H : Hp} {is : List (Addr × HO)} {r : Addr} {l : List V} {o : HO} (h : Firm H is) (hr : H r = some (.lst l)) : Firm (upd H r o) is := fun p hp => ⟨(upd_ne (ne_of (h p hp).1 hr ((h p hp).2.1 l))).trans (h p hp).1, (h p hp).2⟩
def Odds (H : Hp) (vs : List V) : Prop := ∀ x ∈ vs, Odd H x
theorem Odds.ext {H H' : Hp} {vs : List V} (h : Odds H vs) (e : ExtN H H') : Odds H' vs := fun x hx => (h x hx).ext e
theorem Odds.same {H H' : Hp} {vs : List V} (h : Odds H vs) (e : Same H H') : Odds H' vs := fun x hx => (h x hx).same e
theorem Odds.keep {H H' : Hp} {vs : List V} {d : Addr} {B : Int} (h : Odds H vs) (p : Pen H d B) (k : Keep d H H') : Odds H' vs := fun x hx => (h x hx).keep (Pen_odd p (h x hx)) k
theorem Odds.put {H : Hp} {vs : List V} {r : Addr} {o : HO} (h : Odds H vs) (n : ∀ x ∈ vs, x ≠ .ref r) : Odds (upd H r o) vs := fun x hx => (h x hx).put (n x hx)
theorem Odds.cons {H : Hp} {x : V} {vs : List V} (a : Odd H x) (b : Odds H vs) : Odds H (x :: vs) := fun y hy => by
  rcases List.mem_cons.mp hy with rfl | hy
  · exact a
  · exact b y hy
theorem Odds.nil {H : Hp} : Odds H [] := fun y hy => by cases hy
/-- the list of the rows so far, and what else stands: odd values, firm objects -/
structure Rb {ι : Type} (nf : ι → Addr → NF) (bf : ι → Expr) (due : ι → V) (H0 H : Hp) (r : Addr) (k : Nat) (vs : List V) (is : List (Addr × HO)) : Prop where
  ex : ∃ R : List (ι × V × Addr), H r = some (.lst (R.map fun p => .ref p.2.2)) ∧ R.length = k ∧ ∀ p ∈ R, RowAt H (nf p.1) (bf p.1) p.2.1 p.2.2 ∧ p.2.1 = due p.1
  od : Odds H vs
  nr : ∀ x ∈ vs, x ≠ .ref r
  st : Firm H is
  kp : ∀ b o, b ≠ r → H0 b = some o → (∀ ps, o ≠ .tbl ps) → H b = some o
section
variable {ι : Type} {nf : ι → Addr → NF} {bf : ι → Expr} {due : ι → V} {H0 H H1 H' : Hp} {r q : Addr} {k : Nat} {vs : List V} {is : List (Addr × HO)} {v : V} {o : HO}
theorem Rb.ext (h : Rb nf bf due H0 H r k vs is) (e : ExtN H H') : Rb nf bf due H0 H' r k vs is := by
  obtain ⟨R, h1, h2, h3⟩ := h.ex
  exact ⟨⟨R, e _ _ h1 (fun ps z => by cases z), h2, fun p hp => ⟨(h3 p hp).1.ext e, (h3 p hp).2⟩⟩, h.od.ext e, h.nr, h.st.ext e, fun b o n z y => e _ _ (h.kp b o n z y) y⟩
theorem Rb.set {D : Addr} {zs : List V} (h : Rb nf bf due H0 H r k vs is) (hD : H D = some (.lst zs)) (n : D ≠ r) (nx : ∀ x ∈ vs, x ≠ .ref D) (n0 : H0 D = none) : Rb nf bf due H0 (upd H D o) r k vs is := by
  obtain ⟨R, h1, h2, h3⟩ := h.ex
  exact ⟨⟨R, (upd_ne n.symm).trans h1, h2, fun p hp => ⟨(h3 p hp).1.put hD, (h3 p hp).2⟩⟩, h.od.put nx, h.nr, h.st.put hD, fun b o m z y => (upd_ne (ne_of_none z n0)).trans (h.kp b o m z y)⟩
theorem Rb.now (h : Rb nf bf due H0 H r k vs is) : Rb nf bf due H H r k vs is := ⟨h.ex, h.od, h.nr, h.st, fun b o _ e _ => e⟩
theorem Rb.lst (h : Rb nf bf due H0 H r k vs is) : ∃ ys, H r = some (.lst ys) ∧ ys.length = k := by
  obtain ⟨R, h1, h2, h3⟩ := h.ex
  exact ⟨_, h1, by rw [List.length_map]; exact h2⟩
theorem Rb.add {i : ι} {f c' : Addr} (h : Rb nf bf due H0 H r k vs is) (hv : v = due i) (e : ExtN H H1) (a : LamAt H1 f (nf i c') (bf i)) (c : H1 (nf i c').c = some (CodeO (nf i c').c (nf i c').qual)) (nq : H1 q = none) :
    ∃ xs, upd H1 q (.tup [.ref f, v]) r = some (.lst xs) ∧ xs.length = k ∧ Rb nf bf due H0 (upd (upd H1 q (.tup [.ref f, v])) r (.lst (xs ++ [.ref q]))) r (k + 1) vs is := by
  have g := (h.ext e).ext (extN_new (o := .tup [.ref f, v]) nq)
  have e2 := extN_new (o := HO.tup [.ref f, v]) nq
  obtain ⟨R, h1, h2, h3⟩ := g.ex
  refine ⟨_, h1, by rw [List.length_map]; exact h2, ⟨R ++ [(i, v, q)], by rw [upd_same, List.map_append]; rfl, by rw [List.length_append, h2]; rfl, fun p hp => ?_⟩, g.od.put g.nr, g.nr, g.st.put h1, fun b o m z y => (upd_ne m).trans (g.kp b o m z y)⟩
  rcases List.mem_append.mp hp with hp | hp
  · exact ⟨(h3 p hp).1.put h1, (h3 p hp).2⟩
  · rw [List.mem_singleton.mp hp]
    exact ⟨RowAt.put ⟨f, c', upd_same, a.ext e2, e2 _ _ c codeO_ne⟩ h1, hv⟩
/-- the list begins with one row -/
theorem Rb.one {i : ι} {f c' : Addr} (od : Odds H vs) (st : Firm H is) (hv : v = due i) (e : ExtN H H1) (a : LamAt H1 f (nf i c') (bf i)) (c : H1 (nf i c').c = some (CodeO (nf i c').c (nf i c').qual)) (nq : H1 q = none) (nr : upd H1 q (.tup [.ref f, v]) r = none) :
    Rb nf bf due (upd (upd H1 q (.tup [.ref f, v])) r (.lst [.ref q])) (upd (upd H1 q (.tup [.ref f, v])) r (.lst [.ref q])) r 1 vs is ∧ ∀ b o, H b = some o → (∀ ps, o ≠ .tbl ps) → b ≠ r ∧ upd (upd H1 q (.tup [.ref f, v])) r (.lst [.ref q]) b = some o := by
  have y6 := extN_new (o := HO.tup [.ref f, v]) nq
  have eA : ExtN H (upd H1 q (.tup [.ref f, v])) := e.trans y6
  have y8 := extN_new (o := HO.lst [.ref q]) nr
  refine ⟨⟨⟨[(i, v, q)], upd_same, rfl, fun p hp => ?_⟩, (od.ext eA).ext y8, fun x hx => (od.ext eA x hx).off nr, (st.ext eA).ext y8, fun b o _ e _ => e⟩, fun b o z nt => ⟨ne_of_none (eA _ _ z nt) nr, y8 _ _ (eA _ _ z nt) nt⟩⟩
  rw [List.mem_singleton.mp hp]
  exact ⟨RowAt.ext ⟨f, c', upd_same, a.ext y6, y6 _ _ c codeO_ne⟩ y8, hv⟩
end
/-- all([refused(row[0], row[1]) for row in rows]): D the new list -/
theorem rb_all {ι : Type} {K : PySem.W.Frag} {L : ι → Lam} {due : ι → V} {sp : (Hp → VK → XK → Prop) → List V → Hp → VK → Prop} {C : Addr} {fld : Str} {j : Nat} {σ : L2.St} {r D : Addr} {ys : List V} {H0 HA : Hp} {vs : List V} {is : List (Addr × HO)} {k : Nat} {Qd : Hp → Prop}
    (hsp : ∀ (x : V) (H : Hp) (tl : Hp → VK → XK → Prop) (Q : VK), Odd H x → (∀ (Q' : VK) (E' : XK), Bad C fld x H E' → tl H Q' E') → (∀ H', Same H H' → Q (.bl true) H') → sp tl [x] H Q)
    (told : ∀ (H : Hp) (i : ι), Odds H vs → Firm H is → Odd H (due i) ∧ ∀ (Q' : VK) (E' : XK), Bad C fld (due i) H E' → (L i).sp (L i).ws H Q' E')
    (hw : ∀ x : V, wipe ((wipe σ [j]).set j (some x)) [j] = wipe σ [j]) (hv : ∀ x : V, ((wipe σ [j]).set j (some x))[j]? = some (some x))
    (G : Rb (fun i => (L i).nf) (fun i => (L i).b) due H0 HA r k vs is) (hy : HA r = some (.lst ys)) (hk : k ≤ 1000) (nD : HA D = none)
    (q : ∀ H', (∀ b o, b ≠ r → HA b = some o → (∀ ps, o ≠ .tbl ps) → H' b = some o) → (∃ bs : List Bool, H' D = some (.lst (bs.map V.bl)) ∧ bs.all id = true) → Qd H') :
    ∃ Wv : Nat → Nat → Hp → Prop, (∃ m, Wv 0 m (upd HA D (.lst []))) ∧ ∀ i m H, Wv i m H → ((Itl K r).stop i H ∧ Qd H) ∨ ((Itl K r).go i H ∧ ∃ Nx : Hp → Prop, (∀ H', Nx H' → ∃ m', m' < m ∧ Wv (i + 1) m' H') ∧ ∀ x H', (Itl K r).yld i H x H' →
      (gName j) x (wipe σ [j]) H' fun σ2 H2 => wipe σ2 [j] = wipe σ [j] ∧ tYes σ2 H2 fun b H3 => if b = true then (tLamCall L sp (tCons (tOp (rIxT K) (tVar j) (tC (.int 0))) (tCons (tOp (rIxT K) (tVar j) (tC (.int 1))) tNil))) σ2 H3 fun y H4 => ∃ acc, H4 D = some (.lst acc) ∧ acc.length < sizeLine ∧ Nx (upd H4 D (.lst (acc ++ [y]))) else Nx H3) := by
  have hDr : D ≠ r := (ne_of_none hy nD).symm
  have nDx : ∀ x ∈ vs, x ≠ .ref D := fun x hx => (G.od x hx).off nD
  have G0 := G.now
  obtain ⟨R0, hR0, hR1, hR2⟩ := G0.ex
  have hys : ys = R0.map fun p => .ref p.2.2 := by
    have z := hy.symm.trans hR0
    cases z
    rfl
  refine lc_list (K := K) (xs := ys) (fun i H' => Rb (fun i => (L i).nf) (fun i => (L i).b) due HA H' r k vs is ∧ H' r = some (.lst ys) ∧ (∀ p ∈ R0, RowAt H' ((L p.1).nf) ((L p.1).b) p.2.1 p.2.2) ∧ H' D = some (.lst (List.replicate i (.bl true)))) ⟨G0.ext (extN_new nD), (extN_new nD) _ _ hy (fun ps z => by cases z), fun p hp => (hR2 p hp).1.ext (extN_new nD), upd_same⟩ (fun i H' _ hb => SqL.of hb.2.1) ?_ ?_
  · rintro i a H' ha ⟨G1, hr1, hrows, hD⟩
    obtain ⟨hi, _⟩ := List.getElem?_eq_some_iff.mp ha
    rw [hys, List.getElem?_map] at ha
    obtain ⟨pr, hpr, rfl⟩ := Option.map_eq_some_iff.mp ha
    have hmem := List.mem_of_getElem? hpr
    have hve := (hR2 pr hmem).2
    obtain ⟨f, c', h1, h2, h3⟩ := hrows pr hmem
    obtain ⟨o1, o2⟩ := told H' pr.1 G1.od G1.st
    rw [← hve] at o1 o2
    refine ⟨hw _, ?_⟩
    unfold tYes
    dsimp only
    rw [if_pos rfl]
    refine ⟨_, hv _, pr.2.2, _, 0, _, rfl, rfl, SqT.of h1, rfl, _, hv _, pr.2.2, _, 1, _, rfl, rfl, SqT.of h1, rfl, pr.1, f, c', [pr.2.1], rfl, h2, h3, hsp _ _ _ _ o1 o2 fun H2 s2 => ⟨_, s2 _ _ hD, ?_, ?_, ?_, ?_, ?_⟩⟩
    · rw [List.length_replicate]
      have hl : ys.length = k := by rw [hys, List.length_map]; exact hR1
      have := sizeLine_eq
      omega
    · exact (G1.ext (ExtN.of s2)).set (s2 _ _ hD) hDr nDx nD
    · exact (upd_ne hDr.symm).trans (s2 _ _ hr1)
    · exact fun p hp => ((hrows p hp).ext (ExtN.of s2)).put (s2 _ _ hD)
    · rw [upd_same, List.replicate_succ']
  · rintro H' ⟨G1, hr1, hrows, hD⟩
    refine q H' (fun b o n e nt => G1.kp b o n e nt) ⟨List.replicate ys.length true, by rw [List.map_replicate]; exact hD, ?_⟩
    rw [List.all_eq_true]
    intro b hb
    rw [List.eq_of_mem_replicate hb]
    rfl
end Own

/-! own layer, of no law: OWN10: str(x) of an instance of an own class with its own __str__. -/
namespace Own
open PySem PySem.Spec PyProof.Rows L2 LamX NdefX
section
variable {X : Cx} {CX : CXT} {n : Nat} {C f : Addr} {fd : FuncData} {ps : List Str} {sp : Sp} {E : XK}
theorem run_inner {A : Around} {pins : List (Addr × Obj)} {σ : L2.St} {H : Hp} {s : Shared} {Q : VK} {us : List Value} {ws : List V} (F : FnR X.prog X.w X.K X.mg X.base CX n f sp) (hr : Room n A) (e0 : Env0 X.prog X.w X.K X.mg X.base A X.stack s H) (hx : Passes CX X E) (I : Inv X pins σ H s) (r : Vals ws us) (h : sp ws H Q E) :
    codeAny (model X.prog X.w) A (.call (.ref f) ⟨us, []⟩) (fun r s' => match r with | .ok (.ret v) => EP X pins σ Q v s' | .ok _ => False | .error e => X.xe e s') s := by
  refine codeAny_mono (F A X.stack s H us ws Q E hr e0 r h) fun r s' hq => ?_
  cases r with
  | error e => exact hx pins σ H s e s' I hq
  | ok fl =>
    cases fl with
    | ret u => exact I.after hq
    | next => exact False.elim hq
    | brk => exact False.elim hq
    | cont => exact False.elim hq
/-- str(x), x an instance of the class at C whose __str__ is at f -/
def rStrOwn (C : Addr) (sp : Sp) (E : XK) : List V → Hp → VK → Prop := fun xs H Q => ∃ a dx fs, xs = [V.ref a] ∧ H a = some (.ins C dx fs) ∧ sp [.ref a] H (fun z H' => ∃ y : Str, z = .str y ∧ Q z H') E
theorem call_strOwn (hs : PySem.W.findIn X.K (.ref C) "__str__" = some (some (.ref f))) (hf : PySem.W.isFn X.K (.ref f) = true) (F : FnOk X.prog X.w X.K X.mg X.base CX n f fd ps sp) (hb : Binds X.K fd ps []) (hr : Room (n + 2) X.A) (hx : Passes CX X E) : CallR X (.type "str") (rStrOwn C sp E) := by
  intro pins s σ H xs us Q I r h
  obtain ⟨a, dx, fs, rfl, ha, q⟩ := h
  obtain ⟨u, rfl, ru⟩ := r.one
  cases (show u = Value.ref a from ru)
  obtain ⟨mA, J, _⟩ := ins_get I.hok ha
  obtain ⟨od, J, _⟩ := J.look
  have hr2 : Room n X.A.in1.in1 := (show Room (n + 1) X.A.in1 from Room.in1 hr).in1
  have FR : FnR X.prog X.w X.K X.mg X.base CX n f sp := (F.raw hb .nil).imp fun vs H Q E h => by rw [List.append_nil]; exact h
  refine PySem.W.kso_call (show X.A.in1.in1.units < cLine from by have := hr2.units; omega) I.kIn J hs hf (wpAny_mono (wpAny_call (run_inner (us := [.ref a]) (ws := [.ref a]) FR hr2 I.env0.in1.in1 hx I (.cons (show L2.RelV (V.ref a) (Value.ref a) from rfl) .nil) q)) (fun w s' z => ?_) fun _ _ x => x)
  obtain ⟨z', H', I', rz, y, ey, qz⟩ := z
  subst ey
  obtain ⟨t, e⟩ := (show ∃ t, w = Value.str y t from rz)
  cases e
  exact ⟨.str y, H', I', ⟨t, rfl⟩, qz⟩
end
end Own

/-! k05: the law: str of a worth; the lambdas. -/
namespace Own
open PySem PySem.Spec PyProof.Rows L2 LamX NdefX
/-- all([refused(row[0], row[1]) for row in rows]): D the new list -/
theorem rb_allP {ι : Type} {K : PySem.W.Frag} {L : ι → Lam} {due : ι → V} {sp : (Hp → VK → XK → Prop) → List V → Hp → VK → Prop} {C : Addr} {fld : Str} {j : Nat} {σ : L2.St} {r D : Addr} {ys : List V} {H0 HA : Hp} {vs : List V} {is : List (Addr × HO)} {k : Nat} {Qd : Hp → Prop} {Pd : Hp → V → Prop} {ts : List (Addr × Str)}
    (hsp : ∀ (x : V) (H : Hp) (tl : Hp → VK → XK → Prop) (Q : VK), Pd H x → (∀ (Q' : VK) (E' : XK), Bad C fld x H E' → tl H Q' E') → (∀ H', Same H H' → Q (.bl true) H') → sp tl [x] H Q)
    (told : ∀ (H : Hp) (i : ι), Odds H vs → Firm H is → Pd H (due i) ∧ ∀ (Q' : VK) (E' : XK), Bad C fld (due i) H E' → (L i).sp (L i).ws H Q' E')
    (hw : ∀ x : V, wipe ((wipe σ [j]).set j (some x)) [j] = wipe σ [j]) (hv : ∀ x : V, ((wipe σ [j]).set j (some x))[j]? = some (some x))
    (G : Rb (fun i => (L i).nf) (fun i => (L i).b) due H0 HA r k vs is) (hy : HA r = some (.lst ys)) (hk : k ≤ 1000) (nD : HA D = none) (tT : Tabs ts HA)
    (q : ∀ H', Tabs ts H' → (∀ b o, b ≠ r → HA b = some o → (∀ ps, o ≠ .tbl ps) → H' b = some o) → (∃ bs : List Bool, H' D = some (.lst (bs.map V.bl)) ∧ bs.all id = true) → Qd H') :
    ∃ Wv : Nat → Nat → Hp → Prop, (∃ m, Wv 0 m (upd HA D (.lst []))) ∧ ∀ i m H, Wv i m H → ((Itl K r).stop i H ∧ Qd H) ∨ ((Itl K r).go i H ∧ ∃ Nx : Hp → Prop, (∀ H', Nx H' → ∃ m', m' < m ∧ Wv (i + 1) m' H') ∧ ∀ x H', (Itl K r).yld i H x H' →
      (gName j) x (wipe σ [j]) H' fun σ2 H2 => wipe σ2 [j] = wipe σ [j] ∧ tYes σ2 H2 fun b H3 => if b = true then (tLamCall L sp (tCons (tOp (rIxT K) (tVar j) (tC (.int 0))) (tCons (tOp (rIxT K) (tVar j) (tC (.int 1))) tNil))) σ2 H3 fun y H4 => ∃ acc, H4 D = some (.lst acc) ∧ acc.length < sizeLine ∧ Nx (upd H4 D (.lst (acc ++ [y]))) else Nx H3) := by
  have hDr : D ≠ r := (ne_of_none hy nD).symm
  have nDx : ∀ x ∈ vs, x ≠ .ref D := fun x hx => (G.od x hx).off nD
  have G0 := G.now
  obtain ⟨R0, hR0, hR1, hR2⟩ := G0.ex
  have hys : ys = R0.map fun p => .ref p.2.2 := by
    have z := hy.symm.trans hR0
    cases z
    rfl
  refine lc_list (K := K) (xs := ys) (fun i H' => Rb (fun i => (L i).nf) (fun i => (L i).b) due HA H' r k vs is ∧ H' r = some (.lst ys) ∧ (∀ p ∈ R0, RowAt H' ((L p.1).nf) ((L p.1).b) p.2.1 p.2.2) ∧ H' D = some (.lst (List.replicate i (.bl true))) ∧ Tabs ts H') ⟨G0.ext (extN_new nD), (extN_new nD) _ _ hy (fun ps z => by cases z), fun p hp => (hR2 p hp).1.ext (extN_new nD), upd_same, tT.ext (same_new nD)⟩ (fun i H' _ hb => SqL.of hb.2.1) ?_ ?_
  · rintro i a H' ha ⟨G1, hr1, hrows, hD, tD⟩
    obtain ⟨hi, _⟩ := List.getElem?_eq_some_iff.mp ha
    rw [hys, List.getElem?_map] at ha
    obtain ⟨pr, hpr, rfl⟩ := Option.map_eq_some_iff.mp ha
    have hmem := List.mem_of_getElem? hpr
    have hve := (hR2 pr hmem).2
    obtain ⟨f, c', h1, h2, h3⟩ := hrows pr hmem
    obtain ⟨o1, o2⟩ := told H' pr.1 G1.od G1.st
    rw [← hve] at o1 o2
    refine ⟨hw _, ?_⟩
    unfold tYes
    dsimp only
    rw [if_pos rfl]
    refine ⟨_, hv _, pr.2.2, _, 0, _, rfl, rfl, SqT.of h1, rfl, _, hv _, pr.2.2, _, 1, _, rfl, rfl, SqT.of h1, rfl, pr.1, f, c', [pr.2.1], rfl, h2, h3, hsp _ _ _ _ o1 o2 fun H2 s2 => ⟨_, s2 _ _ hD, ?_, ?_, ?_, ?_, ?_, ?_⟩⟩
    · rw [List.length_replicate]
      have hl : ys.length = k := by rw [hys, List.length_map]; exact hR1
      have := sizeLine_eq
      omega
    · exact (G1.ext (ExtN.of s2)).set (s2 _ _ hD) hDr nDx nD
    · exact (upd_ne hDr.symm).trans (s2 _ _ hr1)
    · exact fun p hp => ((hrows p hp).ext (ExtN.of s2)).put (s2 _ _ hD)
    · rw [upd_same, List.replicate_succ']
    · exact tabs_put (tD.ext s2) (s2 _ _ hD)
  · rintro H' ⟨G1, hr1, hrows, hD, tD⟩
    refine q H' tD (fun b o n e nt => G1.kp b o n e nt) ⟨List.replicate ys.length true, by rw [List.map_replicate]; exact hD, ?_⟩
    rw [List.all_eq_true]
    intro b hb
    rw [List.eq_of_mem_replicate hb]
    rfl
end Own
namespace K05
open PySem PySem.Spec PyProof.Rows L2 LamX NdefX Own
section
variable {P : Program} {w : World} {K : PySem.W.Frag} {mg : Str → Option Value} {base : Heap} {C C2 W : Addr}
theorem scSt : FnScope ["self"] ["self"] (defScope (wI 12)) := ⟨rfl, rfl, rfl, by decide +kernel, rfl, by decide +kernel, by decide +kernel⟩
def spSt (W : Addr) : Sp := fun vs H Q _ => ∃ (a : Addr) (u : Int) (s : Nat), vs = [.ref a] ∧ WAt W H a u s ∧ s < 500 ∧ u.natAbs < 2 ^ 90000 ∧ u.natAbs < 10 ^ 500 ∧ Q (.str (wrS u s)) H
theorem ok_st {f : Addr} {fd : FuncData} (F : Fun K "__str__" "Worth.__str__" (wI 12) f fd) (B : Blt mg) (T : WorthC K mg W) (DX : WMeth P w K mg base W "text" 11 ["self", "scale"] (spTx C C2 W)) :
    FnOk P w K mg base (L2.CX P w) 12 f fd ["self"] (spSt W) := by
  refine F.okX scSt (fun vs H Q E h => ?_) (fun cdv A outer s0 H vs Q E hr h => ?_)
  · obtain ⟨a, u, s, rfl, _⟩ := h
    rfl
  · obtain ⟨a, u, s, rfl, hw, hs, hu, hv, q⟩ := h
    have nd := scSt.nd
    obtain ⟨fX, fdX, mX, FX, bX⟩ := DX.ex
    obtain ⟨dx, ea⟩ := id hw
    refine ⟨_, pss_one (ps_ret (pe_callTy SkE.call_str_str (by rfl) B.str (by decide +kernel) (pa_cons (pe_meth (E := E) (pv 0) T.cls mX FX (hr.mono (by decide)) bX .nil (passes_call (takes_of rfl rfl rfl rfl) fun _ _ _ _ z => z) (pa_cons (pe_fld (pv 0) (by rfl)) pa_nil)) pa_nil))), ?_⟩
    refine ⟨_, rfl, a, dx, _, rfl, ea, lk_m _ _ (by decide +kernel) (by decide +kernel), ⟨_, rfl, a, W, dx, _, .int s, rfl, ea, T.cls, T.ns, lk_s _ _, a, u, s, .int s, rfl, hw, .int _, fun e => ?_, fun n e => ⟨fun z => ?_, fun z => ?_⟩⟩⟩
    · rw [isWh_cast] at e
      cases e
    · have := V.int.inj e
      omega
    · obtain rfl : n = s := by have := V.int.inj e; omega
      rw [show n - n = 0 by omega, Int.pow_zero, Int.mul_one]
      exact ⟨hs, hu, hv, _, rfl, q⟩
end
abbrev sLaw : Stmt := topS 39
abbrev bLaw (i : Nat) : Stmt := (defBody sLaw).getD i (.Pass ⟨0, 0, 0, 0⟩)
namespace R
def noE : Expr := .Constant .none 0 ⟨0, 0, 0, 0⟩
def asgV : Stmt → Expr
  | .Assign _ v _ => v
  | _ => noE
def eltE (i : Nat) : Expr → Expr
  | .List es _ => es.getD i noE
  | .Tuple es _ _ => es.getD i noE
  | _ => noE
def argE : Stmt → Expr
  | .Expr (.Call _ (a :: _) _ _) _ => a
  | _ => noE
def cmpL : Expr → Expr
  | .Compare a _ _ _ => a
  | _ => noE
abbrev lx1 : Expr := eltE 0 (eltE 0 (asgV (bLaw 9)))
abbrev lx2 : Expr := eltE 0 (argE (bLaw 10))
abbrev lx3 : Expr := eltE 0 (argE (bLaw 11))
abbrev lx4 : Expr := eltE 0 (argE (bLaw 12))
abbrev lg1 : Expr := argN 0 (cmpL (ifE (bodyS (bLaw 5) 1)))
abbrev lg2 : Expr := argN 0 (cmpL (ifE (bodyS (bLaw 5) 2)))
def qL : Str := (envOfC "law" (defScope sLaw) 0 0 .none).qual ++ "<lambda>"
abbrev nLaw : List Str := ["_law_script", "_law_pen", "_law_units", "_law_scale", "_law_worth", "_law_low_here", "_law_own", "_law_more", "_law_rows", "_law_less", "_law_text", "_law_again", "_law_wrong", "_law_below", "_law_bare", "_law_row"]
theorem fr1 : ∀ y ∈ (lamScope lx1).names, y.2 = .free → (defScope sLaw).names.lookup y.1 = some .cell ∨ (defScope sLaw).names.lookup y.1 = some .free := by decide +kernel
theorem in1 : ∀ y ∈ (["_law_wrong"] : List Str), (y, NameKind.free) ∈ (lamScope lx1).names := by decide +kernel
theorem fr2 : ∀ y ∈ (lamScope lx2).names, y.2 = .free → (defScope sLaw).names.lookup y.1 = some .cell ∨ (defScope sLaw).names.lookup y.1 = some .free := by decide +kernel
theorem in2 : ∀ y ∈ (["_law_wrong"] : List Str), (y, NameKind.free) ∈ (lamScope lx2).names := by decide +kernel
theorem fr3 : ∀ y ∈ (lamScope lx3).names, y.2 = .free → (defScope sLaw).names.lookup y.1 = some .cell ∨ (defScope sLaw).names.lookup y.1 = some .free := by decide +kernel
theorem in3 : ∀ y ∈ (["_law_worth", "_law_below"] : List Str), (y, NameKind.free) ∈ (lamScope lx3).names := by decide +kernel
theorem fr4 : ∀ y ∈ (lamScope lx4).names, y.2 = .free → (defScope sLaw).names.lookup y.1 = some .cell ∨ (defScope sLaw).names.lookup y.1 = some .free := by decide +kernel
theorem in4 : ∀ y ∈ (["_law_worth", "_law_below"] : List Str), (y, NameKind.free) ∈ (lamScope lx4).names := by decide +kernel
theorem frg1 : ∀ y ∈ (lamScope lg1).names, y.2 = .free → (defScope sLaw).names.lookup y.1 = some .cell ∨ (defScope sLaw).names.lookup y.1 = some .free := by decide +kernel
theorem ing1 : ∀ y ∈ (["_law_worth", "_law_less"] : List Str), (y, NameKind.free) ∈ (lamScope lg1).names := by decide +kernel
theorem frg2 : ∀ y ∈ (lamScope lg2).names, y.2 = .free → (defScope sLaw).names.lookup y.1 = some .cell ∨ (defScope sLaw).names.lookup y.1 = some .free := by decide +kernel
theorem ing2 : ∀ y ∈ (["_law_worth", "_law_less"] : List Str), (y, NameKind.free) ∈ (lamScope lg2).names := by decide +kernel
section
variable {P : Program} {w : World} {K : PySem.W.Frag} {mg : Str → Option Value} {base : Heap} {C C2 W : Addr} {X : Cx} {f c' : Addr}
def sq1 (C W : Addr) : List (Option V) → Hp → VK → XK → Prop := fun ws H Q E => ∃ x : V, ws = [some x] ∧ spRf C W [x] H Q E
def sq2 (C W : Addr) : List (Option V) → Hp → VK → XK → Prop := fun ws H Q E => ∃ x : V, ws = [some x] ∧ spRw C W [x] H Q E
def sq3 (C W : Addr) : List (Option V) → Hp → VK → XK → Prop := fun ws H Q E => ∃ (p : Addr) (u : Int) (s : Nat) (i : Int), ws = [some (.ref p), some (.int i)] ∧ WAt W H p u s ∧ i < 0 ∧ Bad C "value" (.int i) H E
def sq4 (C W : Addr) : List (Option V) → Hp → VK → XK → Prop := fun ws H Q E => ∃ (p : Addr) (u : Int) (s : Nat) (i : Int), ws = [some (.ref p), some (.int i)] ∧ WAt W H p u s ∧ i < 0 ∧ Bad C "value" (.int i) H E
def sqg (C2 W : Addr) : List (Option V) → Hp → VK → XK → Prop := fun ws H Q E => ∃ (p : Addr) (u : Int) (s n : Nat), ws = [some (.ref p), some (.int (n : Nat))] ∧ WAt W H p u s ∧ n < s ∧ Bad C2 "scale" (.int s) H E
theorem nsL1 : NScope ["_law_wrong"] [] ["_law_wrong"] (lamScope lx1) := nscope_by (by decide +kernel)
theorem nsL2 : NScope ["_law_wrong"] [] ["_law_wrong"] (lamScope lx2) := nscope_by (by decide +kernel)
theorem nsL3 : NScope ["_law_worth", "_law_below"] [] ["_law_worth", "_law_below"] (lamScope lx3) := nscope_by (by decide +kernel)
theorem nsL4 : NScope ["_law_worth", "_law_below"] [] ["_law_worth", "_law_below"] (lamScope lx4) := nscope_by (by decide +kernel)
theorem nsg1 : NScope ["_law_worth", "_law_less"] [] ["_law_worth", "_law_less"] (lamScope lg1) := nscope_by (by decide +kernel)
theorem nsg2 : NScope ["_law_worth", "_law_less"] [] ["_law_worth", "_law_less"] (lamScope lg2) := nscope_by (by decide +kernel)
theorem lok1 (T : WorthC K mg W) (DU : WMeth P w K mg base W "units_at" 10 ["self", "scale"] (spU3 C C2 W)) (DX : WMeth P w K mg base W "text" 11 ["self", "scale"] (spTx C C2 W)) (DF : DefOk P w K mg base (L2.CX P w) "read_figures" 13 ["text"] (spRf C W)) (DW : DefOk P w K mg base (L2.CX P w) "read_worth" 14 ["text"] (spRw C W)) : LOk P w K mg base (L2.CX P w) 15 f (lamF X (lamArgs lx1) (lamScope lx1) c') (lamBody lx1) ["_law_wrong"] (sq1 C W) := by
  refine lok_of (N := ["_law_wrong"]) (ps := []) nsL1 rfl (fun dV doc pm ctv s us hl hd => ?_) (fun A outer s H ws Q E hr hl h => ?_)
  · obtain rfl := List.length_eq_zero_iff.mp hl
    rcases hd with ⟨_, rfl⟩ | ⟨n, _⟩
    · exact .of_eq rfl
    · exact (n rfl).elim
  · obtain ⟨x, rfl, h⟩ := h
    exact ⟨_, (pe_def (E := E) DF hr (by decide) (by rfl) (passes_call (takes_of rfl rfl rfl rfl) fun _ _ _ _ z => z) (pa_cons (pv 0) pa_nil)), _, rfl, h⟩
theorem lok2 (T : WorthC K mg W) (DU : WMeth P w K mg base W "units_at" 10 ["self", "scale"] (spU3 C C2 W)) (DX : WMeth P w K mg base W "text" 11 ["self", "scale"] (spTx C C2 W)) (DF : DefOk P w K mg base (L2.CX P w) "read_figures" 13 ["text"] (spRf C W)) (DW : DefOk P w K mg base (L2.CX P w) "read_worth" 14 ["text"] (spRw C W)) : LOk P w K mg base (L2.CX P w) 15 f (lamF X (lamArgs lx2) (lamScope lx2) c') (lamBody lx2) ["_law_wrong"] (sq2 C W) := by
  refine lok_of (N := ["_law_wrong"]) (ps := []) nsL2 rfl (fun dV doc pm ctv s us hl hd => ?_) (fun A outer s H ws Q E hr hl h => ?_)
  · obtain rfl := List.length_eq_zero_iff.mp hl
    rcases hd with ⟨_, rfl⟩ | ⟨n, _⟩
    · exact .of_eq rfl
    · exact (n rfl).elim
  · obtain ⟨x, rfl, h⟩ := h
    exact ⟨_, (pe_def (E := E) DW hr (by decide) (by rfl) (passes_call (takes_of rfl rfl rfl rfl) fun _ _ _ _ z => z) (pa_cons (pv 0) pa_nil)), _, rfl, h⟩
theorem lok3 (T : WorthC K mg W) (DU : WMeth P w K mg base W "units_at" 10 ["self", "scale"] (spU3 C C2 W)) (DX : WMeth P w K mg base W "text" 11 ["self", "scale"] (spTx C C2 W)) (DF : DefOk P w K mg base (L2.CX P w) "read_figures" 13 ["text"] (spRf C W)) (DW : DefOk P w K mg base (L2.CX P w) "read_worth" 14 ["text"] (spRw C W)) : LOk P w K mg base (L2.CX P w) 15 f (lamF X (lamArgs lx3) (lamScope lx3) c') (lamBody lx3) ["_law_worth", "_law_below"] (sq3 C W) := by
  refine lok_of (N := ["_law_worth", "_law_below"]) (ps := []) nsL3 rfl (fun dV doc pm ctv s us hl hd => ?_) (fun A outer s H ws Q E hr hl h => ?_)
  · obtain rfl := List.length_eq_zero_iff.mp hl
    rcases hd with ⟨_, rfl⟩ | ⟨n, _⟩
    · exact .of_eq rfl
    · exact (n rfl).elim
  · obtain ⟨p, u, s, i, rfl, hw, hi, bad⟩ := h
    obtain ⟨fX, fdX, mX, FX, bX⟩ := DX.ex
    obtain ⟨dx, ea⟩ := id hw
    exact ⟨_, (pe_meth (E := E) (pv 0) T.cls mX FX (hr.mono (by decide)) bX .nil (passes_call (takes_of rfl rfl rfl rfl) fun _ _ _ _ z => z) (pa_cons (pv 1) pa_nil)), _, rfl, p, dx, _, rfl, ea, lk_m _ _ (by decide +kernel) (by decide +kernel), _, rfl, p, u, s, .int i, rfl, hw, .int _, fun _ => bad, fun n e => absurd (V.int.inj e) (by omega)⟩
theorem lok4 (T : WorthC K mg W) (DU : WMeth P w K mg base W "units_at" 10 ["self", "scale"] (spU3 C C2 W)) (DX : WMeth P w K mg base W "text" 11 ["self", "scale"] (spTx C C2 W)) (DF : DefOk P w K mg base (L2.CX P w) "read_figures" 13 ["text"] (spRf C W)) (DW : DefOk P w K mg base (L2.CX P w) "read_worth" 14 ["text"] (spRw C W)) : LOk P w K mg base (L2.CX P w) 15 f (lamF X (lamArgs lx4) (lamScope lx4) c') (lamBody lx4) ["_law_worth", "_law_below"] (sq4 C W) := by
  refine lok_of (N := ["_law_worth", "_law_below"]) (ps := []) nsL4 rfl (fun dV doc pm ctv s us hl hd => ?_) (fun A outer s H ws Q E hr hl h => ?_)
  · obtain rfl := List.length_eq_zero_iff.mp hl
    rcases hd with ⟨_, rfl⟩ | ⟨n, _⟩
    · exact .of_eq rfl
    · exact (n rfl).elim
  · obtain ⟨p, u, s, i, rfl, hw, hi, bad⟩ := h
    obtain ⟨fU, fdU, mU, FU, bU⟩ := DU.ex
    obtain ⟨dx, ea⟩ := id hw
    exact ⟨_, (pe_meth (E := E) (pv 0) T.cls mU FU (hr.mono (by decide)) bU .nil (passes_call (takes_of rfl rfl rfl rfl) fun _ _ _ _ z => z) (pa_cons (pv 1) pa_nil)), _, rfl, p, dx, _, rfl, ea, lk_m _ _ (by decide +kernel) (by decide +kernel), _, rfl, p, u, s, .int i, rfl, hw, .int _, fun _ => bad, fun n e => absurd (V.int.inj e) (by omega)⟩
theorem lokg1 (T : WorthC K mg W) (DU : WMeth P w K mg base W "units_at" 10 ["self", "scale"] (spU3 C C2 W)) (DX : WMeth P w K mg base W "text" 11 ["self", "scale"] (spTx C C2 W)) (DF : DefOk P w K mg base (L2.CX P w) "read_figures" 13 ["text"] (spRf C W)) (DW : DefOk P w K mg base (L2.CX P w) "read_worth" 14 ["text"] (spRw C W)) : LOk P w K mg base (L2.CX P w) 15 f (lamF X (lamArgs lg1) (lamScope lg1) c') (lamBody lg1) ["_law_worth", "_law_less"] (sqg C2 W) := by
  refine lok_of (N := ["_law_worth", "_law_less"]) (ps := []) nsg1 rfl (fun dV doc pm ctv s us hl hd => ?_) (fun A outer s H ws Q E hr hl h => ?_)
  · obtain rfl := List.length_eq_zero_iff.mp hl
    rcases hd with ⟨_, rfl⟩ | ⟨n, _⟩
    · exact .of_eq rfl
    · exact (n rfl).elim
  · obtain ⟨p, u, s, n, rfl, hw, hn, bad⟩ := h
    obtain ⟨fX, fdX, mX, FX, bX⟩ := DX.ex
    obtain ⟨dx, ea⟩ := id hw
    refine ⟨_, (pe_meth (E := E) (pv 0) T.cls mX FX (hr.mono (by decide)) bX .nil (passes_call (takes_of rfl rfl rfl rfl) fun _ _ _ _ z => z) (pa_cons (pv 1) pa_nil)), _, rfl, p, dx, _, rfl, ea, lk_m _ _ (by decide +kernel) (by decide +kernel), _, rfl, p, u, s, .int (n : Nat), rfl, hw, .int _, fun e => ?_, fun n' e => ?_⟩
    · rw [isWh_cast] at e
      cases e
    · obtain rfl : n' = n := by have := V.int.inj e; omega
      exact ⟨fun _ => bad, fun z => absurd z (by omega)⟩
theorem lokg2 (T : WorthC K mg W) (DU : WMeth P w K mg base W "units_at" 10 ["self", "scale"] (spU3 C C2 W)) (DX : WMeth P w K mg base W "text" 11 ["self", "scale"] (spTx C C2 W)) (DF : DefOk P w K mg base (L2.CX P w) "read_figures" 13 ["text"] (spRf C W)) (DW : DefOk P w K mg base (L2.CX P w) "read_worth" 14 ["text"] (spRw C W)) : LOk P w K mg base (L2.CX P w) 15 f (lamF X (lamArgs lg2) (lamScope lg2) c') (lamBody lg2) ["_law_worth", "_law_less"] (sqg C2 W) := by
  refine lok_of (N := ["_law_worth", "_law_less"]) (ps := []) nsg2 rfl (fun dV doc pm ctv s us hl hd => ?_) (fun A outer s H ws Q E hr hl h => ?_)
  · obtain rfl := List.length_eq_zero_iff.mp hl
    rcases hd with ⟨_, rfl⟩ | ⟨n, _⟩
    · exact .of_eq rfl
    · exact (n rfl).elim
  · obtain ⟨p, u, s, n, rfl, hw, hn, bad⟩ := h
    obtain ⟨fU, fdU, mU, FU, bU⟩ := DU.ex
    obtain ⟨dx, ea⟩ := id hw
    refine ⟨_, (pe_meth (E := E) (pv 0) T.cls mU FU (hr.mono (by decide)) bU .nil (passes_call (takes_of rfl rfl rfl rfl) fun _ _ _ _ z => z) (pa_cons (pv 1) pa_nil)), _, rfl, p, dx, _, rfl, ea, lk_m _ _ (by decide +kernel) (by decide +kernel), _, rfl, p, u, s, .int (n : Nat), rfl, hw, .int _, fun e => ?_, fun n' e => ?_⟩
    · rw [isWh_cast] at e
      cases e
    · obtain rfl : n' = n := by have := V.int.inj e; omega
      exact ⟨fun _ => bad, fun z => absurd z (by omega)⟩
inductive Elv where
  | l1 | l2 | l3 | l4
def nfN (X : Cx) : Elv → Addr → NF
  | .l1 => fun c' => lamF X (lamArgs lx1) (lamScope lx1) c'
  | .l2 => fun c' => lamF X (lamArgs lx2) (lamScope lx2) c'
  | .l3 => fun c' => lamF X (lamArgs lx3) (lamScope lx3) c'
  | .l4 => fun c' => lamF X (lamArgs lx4) (lamScope lx4) c'
def bN : Elv → Expr
  | .l1 => lamBody lx1
  | .l2 => lamBody lx2
  | .l3 => lamBody lx3
  | .l4 => lamBody lx4
def frN : Elv → List Str
  | .l1 => ["_law_wrong"]
  | .l2 => ["_law_wrong"]
  | .l3 => ["_law_worth", "_law_below"]
  | .l4 => ["_law_worth", "_law_below"]
def slN : Elv → List Nat
  | .l1 => [12]
  | .l2 => [12]
  | .l3 => [4, 13]
  | .l4 => [4, 13]
def sqN (C W : Addr) : Elv → List (Option V) → Hp → VK → XK → Prop
  | .l1 => sq1 C W
  | .l2 => sq2 C W
  | .l3 => sq3 C W
  | .l4 => sq4 C W
def lamN (X : Cx) (C W : Addr) (σ : L2.St) (i : Elv) : Lam := ⟨nfN X i, bN i, frN i, (slN i).map (slotAt σ), sqN C W i⟩
theorem lokNs (T : WorthC K mg W) (DU : WMeth P w K mg base W "units_at" 10 ["self", "scale"] (spU3 C C2 W)) (DX : WMeth P w K mg base W "text" 11 ["self", "scale"] (spTx C C2 W)) (DF : DefOk P w K mg base (L2.CX P w) "read_figures" 13 ["text"] (spRf C W)) (DW : DefOk P w K mg base (L2.CX P w) "read_worth" 14 ["text"] (spRw C W)) {σ : L2.St} (i : Elv) (f c' : Addr) :
    LOk P w K mg base (L2.CX P w) 15 f ((lamN X C W σ i).nf c') (lamN X C W σ i).b (lamN X C W σ i).fr (lamN X C W σ i).sp := by
  cases i
  · exact lok1 T DU DX DF DW
  · exact lok2 T DU DX DF DW
  · exact lok3 T DU DX DF DW
  · exact lok4 T DU DX DF DW
/-- which value is refused -/
def due (wr : V) (lo : Int) : Elv → V
  | .l1 => wr
  | .l2 => wr
  | .l3 => .int lo
  | .l4 => .int lo
abbrev OkW (W : Addr) (H : Hp) (x : V) : Prop := Odd H x ∨ ∃ (p : Addr) (u : Int) (s : Nat), x = .ref p ∧ WAt W H p u s
theorem toldN {y0 y1 y2 y3 y5 y6 y7 y8 y9 y10 y11 y14 y15 : Option V} {wr : V} {lo u : Int} {s : Nat} {p dx : Addr} {os : List V} (hlo : lo < 0) (hwr : wr ∈ os ∨ wr = .ref p) (nt : ∀ z, wr ≠ .str z)
    (H : Hp) (i : Elv) (od : Odds H os) (fs : Firm H [(p, .ins W dx (wRow u s))]) : OkW W H (due wr lo i) ∧ ∀ (Q' : VK) (E' : XK), Bad C "value" (due wr lo i) H E' →
    (lamN X C W [y0, y1, y2, y3, some (.ref p), y5, y6, y7, y8, y9, y10, y11, some wr, some (.int lo), y14, y15] i).sp (lamN X C W [y0, y1, y2, y3, some (.ref p), y5, y6, y7, y8, y9, y10, y11, some wr, some (.int lo), y14, y15] i).ws H Q' E' := by
  have hw : WAt W H p u s := ⟨dx, (fs _ (List.mem_singleton.mpr rfl)).1⟩
  have ok : OkW W H wr := hwr.elim (fun m => .inl (od _ m)) fun e => .inr ⟨p, u, s, e, hw⟩
  have nx : NoText W H wr := hwr.elim (fun m => .inl ⟨(od _ m).thing, nt⟩) fun e => .inr ⟨p, u, s, e, hw⟩
  cases i
  · exact ⟨ok, fun Q' E' bad => ⟨wr, rfl, wr, rfl, .inl ⟨nx, bad⟩⟩⟩
  · exact ⟨ok, fun Q' E' bad => ⟨wr, rfl, wr, rfl, .inl ⟨nx, bad⟩⟩⟩
  · exact ⟨.inl (.flat rfl), fun Q' E' bad => ⟨p, u, s, lo, rfl, hw, hlo, bad⟩⟩
  · exact ⟨.inl (.flat rfl), fun Q' E' bad => ⟨p, u, s, lo, rfl, hw, hlo, bad⟩⟩
end
end R
end K05

/-! k05: the law. -/
namespace K05
namespace R
open PySem PySem.Spec PyProof.Rows L2 LamX NdefX Own
def orL : Expr → Expr
  | .BoolOp _ (e :: _) _ => e
  | _ => noE
theorem blkA : BlkOk nLaw (defScope sLaw) (lcSc (argN 0 (notE (orL (ifE (bLaw 4)))))) [("_law_row", 15)] := blkOk_by (by decide +kernel)
theorem blkB : BlkOk nLaw (defScope sLaw) (lcSc (argN 0 (notE (ifE (bLaw 13))))) [("_law_row", 15)] := blkOk_by (by decide +kernel)
theorem wr_len2 {v : Int} {n : Nat} (h : v.natAbs < 10 ^ 500) (hn : n ≤ 100) : (wrL v n).length ≤ 900 := by
  have l5 := numL_len500 h
  have ld := pad_len (n + 1) (TL.numL v.natAbs)
  have l1 := pad_len 1 (TL.numL v.natAbs)
  unfold wrL
  rw [List.length_append]
  have lm : (if v < 0 then [45] else ([] : List Nat)).length ≤ 1 := by split <;> simp
  generalize (if v < 0 then [45] else ([] : List Nat)) = sg at lm ⊢
  clear h
  by_cases z : n = 0
  · rw [if_pos z]
    omega
  · rw [if_neg z, List.length_append, List.length_cons, List.length_take, List.length_drop]
    omega
theorem Pen_extN {H H' : Hp} {d : Addr} {B : Int} (h : Pen H d B) (e : ExtN H H') : Pen H' d B := by
  obtain ⟨p, ns, c, l, e1, e2, r⟩ := h.ex
  exact ⟨p, ns, c, l, e _ _ e1 (fun ps z => by cases z), e _ _ e2 (fun ps z => by cases z), r⟩
theorem small_v {u : Int} {n : Nat} (hu : u.natAbs < 2 ^ 202) (hn : n ≤ 100) : (u * (10 : Int) ^ n).natAbs < 10 ^ 500 := by
  rw [Int.natAbs_mul]
  have h1 := ten_lt n
  have h2 : ((10 : Int) ^ n).natAbs < 2 ^ 401 := Nat.lt_of_lt_of_le h1 (Nat.pow_le_pow_right (by decide) (by omega))
  have h3 : u.natAbs * ((10 : Int) ^ n).natAbs ≤ 2 ^ 202 * 2 ^ 401 := Nat.mul_le_mul (Nat.le_of_lt hu) (Nat.le_of_lt h2)
  exact Nat.lt_of_le_of_lt h3 (by decide +kernel)
theorem low_le {u u' : Int} {s s' : Nat} (lw : IsLow u s u' s') : u'.natAbs ≤ u.natAbs := by
  have := ten_pos (s - s')
  rw [lw.eq, Int.natAbs_mul]
  exact Nat.le_mul_of_pos_right _ (by omega)
/-- a row of the first list -/
def RowS (H : Hp) (uw : Int) (sw : Nat) (x : V) : Prop := ∃ (q : Addr) (v : Int) (n : Nat), x = .ref q ∧ H q = some (.tup [.int v, .int n]) ∧ IsLow v n uw sw ∧ n < 500 ∧ v.natAbs < 10 ^ 500
section
variable {P : Program} {w : World} {K : PySem.W.Frag} {mg : Str → Option Value} {base : Heap} {C C2 W : Addr}
theorem scLaw : FnScope ["_law_script", "_law_pen", "_law_units", "_law_scale", "_law_worth", "_law_low_here", "_law_own", "_law_more", "_law_rows", "_law_less", "_law_text", "_law_again", "_law_wrong", "_law_below", "_law_bare", "_law_row"] ["_law_script"] (defScope sLaw) := ⟨rfl, rfl, rfl, by decide +kernel, rfl, by decide +kernel, by decide +kernel⟩
def spLaw (K : PySem.W.Frag) (Pa Pl : Addr) : Sp := fun vs H Q _ => ∃ (a : Addr) (ns : List Int), vs = [.ref a] ∧ SqL K H a (ns.map V.int) ∧ ns.length ≤ 63 ∧ Tabs [(Pa, qA), (Pl, qL)] H ∧ ∀ H', Q (.bl true) H'
theorem ok_law {g cg Pa Pl : Addr} {oc : Value} {od : Option Addr} {kV doc pm : Value} {an : Option Addr} {ct : Value} {osl : Array (Option Value)} (lk : K.lookup g = some ⟨oc, od, .func (PySem.W.fnOf "law" "law" (defArgs sLaw) (defBody sLaw) (defScope sLaw) .none kV doc pm an (.ref cg) ct), osl⟩) (hcd : PySem.W.codeIn K (.ref cg) "law" = true) (TB : TabB base mg cg Pl) (nP : Pa ≠ Pl) (B : Blt mg)
    (T : WorthC K mg W) (DU : WMeth P w K mg base W "units_at" 10 ["self", "scale"] (spU3 C C2 W)) (DX : WMeth P w K mg base W "text" 11 ["self", "scale"] (spTx C C2 W)) (DF : DefOk P w K mg base (L2.CX P w) "read_figures" 13 ["text"] (spRf C W)) (DW : DefOk P w K mg base (L2.CX P w) "read_worth" 14 ["text"] (spRw C W)) (DS : WMeth P w K mg base W "__str__" 12 ["self"] (spSt W)) (MW : WMk P w K mg base C W)
    (D0 : DefOk P w K mg base CX0 "_law_begin" 1 ["_law_script"] (spBegin K)) (D1 : DefOk P w K mg base CX0 "_law_draw" 1 ["_law_pen", "_law_span"] spDraw) (D2 : DefOk P w K mg base CX0 "_law_pick" 2 ["_law_pen", "_law_some"] spPick) (D4 : DefOk P w K mg base CX0 "_law_ten" 1 ["_law_number"] spTen) (D5 : DefOk P w K mg base CX0 "_law_drawn" 3 ["_law_pen"] spDrawn) (DLo : DefOk P w K mg base CX0 "_law_low" 2 ["_law_units", "_law_scale"] spLow)
    (DWn : DefOk P w K mg base CX0 "_law_written" 1 ["_law_units", "_law_scale"] spWn) (DSp : DefOk P w K mg base CX0 "_law_spoilt" 3 ["_law_pen", "_law_text"] spSp) (DLg : DefOk P w K mg base CX0 "_law_long" 3 ["_law_pen"] spLg) (DAs : DefOk P w K mg base CX0 "_law_asked" 17 ["_law_text"] (spAs Pa Pl qL)) (DSc : DefOk P w K mg base CX0 "_law_scales" 18 ["_law_worth", "_law_units", "_law_scale"] (spSc W Pa Pl qL))
    (DR : LamDefAt P w K mg base "_law_refused" 16 (spRefd5 C W)) (DTf : LamDefAt P w K mg base "_law_too_fine" 16 (spTf C2)) :
    FnOk P w K mg base CX0 19 g (PySem.W.fnOf "law" "law" (defArgs sLaw) (defBody sLaw) (defScope sLaw) .none kV doc pm an (.ref cg) ct) ["_law_script"] (spLaw K Pa Pl) := by
  refine fn_of lk hcd scLaw (fun vs H Q E h => ?_) (fun A outer s0 H vs Q E hr h => ?_)
  · obtain ⟨a, ns, rfl, _⟩ := h
    rfl
  · obtain ⟨a, ns, rfl, hs, hl, hT, q⟩ := h
    have nd := scLaw.nd
    obtain ⟨fX, fdX, mX, FX, bX⟩ := DX.ex
    obtain ⟨fS, fdS, mS, FS, bS⟩ := DS.ex
    have hm : (Pl, qL) ∈ [(Pa, qA), (Pl, qL)] := by simp
    have hu : ∀ p ∈ [(Pa, qA), (Pl, qL)], p.1 = Pl → p.2 = qL := fun p hp e => by
      simp only [List.mem_cons, List.not_mem_nil, or_false] at hp
      rcases hp with rfl | rfl
      · exact absurd e nP
      · rfl
    refine ⟨_, pss_cons (ps_set (i := 1) nd rfl (.inl rfl) (pe_def D0 hr (by decide) (by rfl) pass0 (pa_cons (pv 0) pa_nil)))
      (pss_cons (ps_asg (pe_def D5 hr (by decide) (by rfl) pass0 (pa_cons (pv 1) pa_nil)) (pg_tup rfl (pgs_cons (pg_name (i := 2) nd rfl (.inl rfl)) (pgs_cons (pg_name (i := 3) nd rfl (.inl rfl)) pgs_nil))))
      (pss_cons (ps_asg (pe_tup (pa_cons (pe_worth (C := C) (E := E0) MW T hr (by decide) (by rfl) passL (pa_cons (pv 2) (pa_cons (pv 3) pa_nil))) (pa_cons (pe_def DLo hr (by decide) (by rfl) pass0 (pa_cons (pv 2) (pa_cons (pv 3) pa_nil))) (pa_cons (pe_def D1 hr (by decide) (by rfl) pass0 (pa_cons (pv 1) (pa_cons pe_int pa_nil))) pa_nil)))) (pg_tup rfl (pgs_cons (pg_name (i := 4) nd rfl (.inr rfl)) (pgs_cons (pg_tup rfl (pgs_cons (pg_name (i := 5) nd rfl (.inl rfl)) (pgs_cons (pg_name (i := 6) nd rfl (.inl rfl)) pgs_nil))) (pgs_cons (pg_name (i := 7) nd rfl (.inl rfl)) pgs_nil)))))
      (pss_cons (ps_set (i := 8) nd rfl (.inl rfl) (pe_lst (pa_cons (pe_tup (pa_cons (pv 2) (pa_cons (pv 3) pa_nil))) (pa_cons (pe_tup (pa_cons (pv 5) (pa_cons (pv 6) pa_nil))) (pa_cons (pe_tup (pa_cons (pe_op op_mulW (pv 5) (pe_def D4 hr (by decide) (by rfl) pass0 (pa_cons (pv 7) pa_nil))) (pa_cons (pe_op op_add (pv 6) (pv 7)) pa_nil))) pa_nil)))))
      (pss_cons (ps_if (PW.pt (pw_or (pt_not (pt_val (pe_callB (cr_all rfl) (by rfl) B.all PyProof.Rows.boot_all (pa_cons (pe_lc (own := [("_law_row", 15)]) (te := tCall (spSc W Pa Pl qL) [] E0 (tCons (tVar 4) (tCons (tOp (rIxT K) (tVar 15) (tC (.int 0))) (tCons (tOp (rIxT K) (tVar 15) (tC (.int 1))) tNil)))) rfl nd (pi_list (pv 8)) blkA (fun _ _ _ _ _ => (pg_name (i := 15) nd rfl (.inl rfl))) (fun _ _ _ _ _ => pts_nil) (fun _ _ _ _ _ => (pe_def DSc hr (by decide) (by rfl) pass0 (pa_cons (pv 4) (pa_cons (pe_ix ix_tup (pv 15) pe_int (fun _ _ => rfl)) (pa_cons (pe_ix ix_tup (pv 15) pe_int (fun _ _ => rfl)) pa_nil)))))) pa_nil)))) (pw_or1 (pt_cmpR op_ne (pe_callTy (call_strOwn (E := E0) mS.1 mS.fn FS bS (hr.mono (by decide)) passL) (by rfl) B.str (by decide +kernel) (pa_cons (pv 4) pa_nil)) (pe_def DWn hr (by decide) (by rfl) pass0 (pa_cons (pv 5) (pa_cons (pv 6) pa_nil))) (nomark _))))) (pss_one (ps_ret pe_bl)) pss_nil)
      (C8.pss_cut (ps_if (pt_cmpR op_gt (pv 6) pe_int (nomark _)) (pss_cons (ps_set (i := 9) nd rfl (.inr rfl) (pe_def D1 hr (by decide) (by rfl) pass0 (pa_cons (pv 1) (pa_cons (pv 6) pa_nil)))) (pss_cons (ps_if (pt_cmpR op_ne (pe_lamdir DTf (show 15 < 16 by decide) hr (by decide) (fun f c' => lokg1 T DU DX DF DW) (pe_lamV TB rfl hm hu rfl rfl frg1) (js := [4, 9]) frg1 ing1 rfl (by rfl)) (pv 6) (nomark _)) (pss_one (ps_ret pe_bl)) pss_nil) (pss_one (ps_if (pt_cmpR op_ne (pe_lamdir DTf (show 15 < 16 by decide) hr (by decide) (fun f c' => lokg2 T DU DX DF DW) (pe_lamV TB rfl hm hu rfl rfl frg2) (js := [4, 9]) frg2 ing2 rfl (by rfl)) (pv 6) (nomark _)) (pss_one (ps_ret pe_bl)) pss_nil)))) pss_nil)
      (pss_cons (ps_set (i := 10) nd rfl (.inl rfl) (pe_def DSp hr (by decide) (by rfl) pass0 (pa_cons (pv 1) (pa_cons (pe_meth (E := E0) (pv 4) T.cls mX FX (hr.mono (by decide)) bX .nil passL (pa_cons (pe_op op_add (pv 6) (pv 7)) pa_nil)) pa_nil))))
      (pss_cons (ps_set (i := 11) nd rfl (.inl rfl) (pe_def DSp hr (by decide) (by rfl) pass0 (pa_cons (pv 1) (pa_cons (pv 10) pa_nil))))
      (pss_cons (ps_asg (pe_tup (pa_cons (pe_def D2 hr (by decide) (by rfl) pass0 (pa_cons (pv 1) (pa_cons (pe_lst (pa_cons pe_non (pa_cons pe_bl (pa_cons pe_int (pa_cons (pe_tup (pa_cons pe_str pa_nil)) (pa_cons (pe_lst (pa_cons pe_str pa_nil)) (pa_cons (pe_lst pa_nil) (pa_cons pe_dnewK (pa_cons (pv 4) pa_nil))))))))) pa_nil))) (pa_cons (pe_op op_sub (pe_un un_neg pe_int) (pe_def D1 hr (by decide) (by rfl) pass0 (pa_cons (pv 1) (pa_cons pe_int pa_nil)))) pa_nil))) (pg_tup rfl (pgs_cons (pg_name (i := 12) nd rfl (.inr rfl)) (pgs_cons (pg_name (i := 13) nd rfl (.inr rfl)) pgs_nil))))
      (pss_cons (ps_set (i := 8) nd rfl (.inl rfl) (pe_lst (pa_cons (pe_tup (pa_cons (pe_lamV TB rfl hm hu rfl rfl fr1) (pa_cons (pv 12) pa_nil))) pa_nil)))
      (pss_cons (ps_expr (pe_bm PySem.F.plainAttrs_list PySem.F.slot_list_append PySem.F.type_list_append mt_append (pv 8) (pa_cons (pe_tup (pa_cons (pe_lamV TB rfl hm hu rfl rfl fr2) (pa_cons (pv 12) pa_nil))) pa_nil)))
      (pss_cons (ps_expr (pe_bm PySem.F.plainAttrs_list PySem.F.slot_list_append PySem.F.type_list_append mt_append (pv 8) (pa_cons (pe_tup (pa_cons (pe_lamV TB rfl hm hu rfl rfl fr3) (pa_cons (pv 13) pa_nil))) pa_nil)))
      (pss_cons (ps_expr (pe_bm PySem.F.plainAttrs_list PySem.F.slot_list_append PySem.F.type_list_append mt_append (pv 8) (pa_cons (pe_tup (pa_cons (pe_lamV TB rfl hm hu rfl rfl fr4) (pa_cons (pv 13) pa_nil))) pa_nil)))
      (pss_cons (ps_if (pt_not (pt_val (pe_callB (cr_all rfl) (by rfl) B.all PyProof.Rows.boot_all (pa_cons (pe_lcD (own := [("_law_row", 15)]) (te := fun σ => tLamCall (lamN (cxOf CX0 P w K mg base nLaw "law" (defScope sLaw) g (.ref cg) A outer s0 H E) C W σ) (spRefd5 C W) (tCons (tOp (rIxT K) (tVar 15) (tC (.int 0))) (tCons (tOp (rIxT K) (tVar 15) (tC (.int 1))) tNil))) rfl nd (pi_list (pv 8)) blkB (fun _ _ _ _ _ => pg_name (i := 15) nd rfl (.inl rfl))
        (fun pins σ s' H' Cc cl fp I hfp => pe_lamcall (L := lamN _ C W σ) DR (show 15 < 16 by decide) hr (by decide) (lokNs T DU DX DF DW) (fun i c' => ?_) (fun i c' b => ?_) (by rfl)
          (pa_cons (pe_ix ix_tup (pv 15) pe_int (fun _ _ => rfl)) (pa_cons (pe_ix ix_tup (pv 15) pe_int (fun _ _ => rfl)) pa_nil)))) pa_nil)))) (pss_one (ps_ret pe_bl)) pss_nil)
      (pss_cons (ps_par (i := 10) (j := 11) (by rfl) nd rfl rfl (by decide) rfl rfl (pa_cons (pe_def DAs hr (by decide) (by rfl) pass0 (pa_cons (pv 10) pa_nil)) (pa_cons (pe_def DAs hr (by decide) (by rfl) pass0 (pa_cons (pv 11) pa_nil)) pa_nil)) (by rfl))
      (pss_cons (ps_set (i := 14) nd rfl (.inl rfl) (pe_def DWn hr (by decide) (by rfl) pass0 (pa_cons pe_int (pa_cons (pv 7) pa_nil))))
      (pss_one (ps_ret (pe_and (pv 10) (pe_and (pv 11) (pe_and (pe_def DAs hr (by decide) (by rfl) pass0 (pa_cons (pe_def DLg hr (by decide) (by rfl) pass0 (pa_cons (pv 1) pa_nil)) pa_nil)) (pe_and (pe_def DAs hr (by decide) (by rfl) pass0 (pa_cons (pv 14) pa_nil)) (pe_one (pe_def DAs hr (by decide) (by rfl) pass0 (pa_cons (pe_op op_add_str pe_str (pv 14)) pa_nil)))))))))))))))))))))))), ?_⟩
    · cases i
      · exact cells_blk I fr1 in1 rfl
      · exact cells_blk I fr2 in2 rfl
      · exact cells_blk I fr3 in3 rfl
      · exact cells_blk I fr4 in4 rfl
    · cases i
      · exact cells_fp I fr1 hfp b
      · exact cells_fp I fr2 hfp b
      · exact cells_fp I fr3 hfp b
      · exact cells_fp I fr4 hfp b
    have dbl : ∀ {o : HO}, (∀ l, o ≠ .tbl l) → ∀ l, o ≠ .tbl l := fun h => h
    refine ⟨_, rfl, a, ns, rfl, hs, hl, fun d H1 nd1 s1 p1 => ?_⟩
    have T1 := hT.ext s1
    try dsimp only [gName, List.set]
    refine ⟨_, rfl, d, _, rfl, p1, by decide, fun u s r H2 hu2 hs2 k2 p2 er nrd => ⟨r, _, rfl, SqT.of er, rfl, _, _, rfl, _, _, rfl, rfl, ?_⟩⟩
    have T2 := tabs_keep T1 p1 k2.k
    try dsimp only [gName, List.set]
    -- the worth
    refine ⟨_, rfl, _, rfl, ?_⟩
    dsimp only [tNil]
    try rw [List.append_nil]
    refine worth_of (C := C) (by omega) fun uw sw pw H3 lw s3 npw ww => ?_
    have T3 := T2.ext s3
    have p3 := p2.same s3
    refine ⟨_, rfl, _, rfl, u, s, rfl, up_two hu2 (by decide), by omega, fun u2 s2 q0 lw2 nq0 => ?_⟩
    obtain ⟨rfl, rfl⟩ : uw = u2 ∧ sw = s2 := by
      rcases Nat.le_total sw s2 with z | z
      · exact low_uniq lw lw2 z
      · obtain ⟨y1, y2⟩ := low_uniq lw2 lw z
        exact ⟨y1.symm, y2.symm⟩
    have sq := same_new (o := HO.tup [.int uw, .int sw]) nq0
    refine ⟨_, rfl, d, 13, _, rfl, p3.same sq, by omega, by decide, by decide, fun v1 H4 b1 b2 k4 p4 => ?_⟩
    obtain ⟨more, rfl⟩ : ∃ n : Nat, v1 = (n : Int) := ⟨v1.toNat, by omega⟩
    obtain ⟨dw, ew⟩ := id ww
    obtain ⟨pp, nn, cc, ll, ed, _⟩ := id (p3.same sq).ex
    have T4 := tabs_keep (T3.ext sq) (p3.same sq) k4.k
    have ew4 := k4 _ _ (ne_of (sq _ _ ew) ed (by intro y; cases y)) (sq _ _ ew)
    have er3 := upd_same (H := H3) (a := q0) (o := HO.tup [.int uw, .int (sw : Nat)])
    have er4 := k4 _ _ (ne_of er3 ed (by intro y; cases y)) er3
    refine ⟨by show 3 ≤ sizeLine; decide, fun pt np => ?_⟩
    have s5 := same_new (o := HO.tup [.ref pw, .ref q0, .int (more : Nat)]) np
    have T5 := T4.ext s5
    have p5 : Pen _ d 2000 := (p4.same s5).mono (by omega)
    have ew5 := s5 _ _ ew4
    have er5 := s5 _ _ er4
    refine ⟨pt, _, rfl, SqT.of upd_same, rfl, _, _, rfl, _, _, rfl, q0, _, rfl, SqT.of er5, rfl, _, _, rfl, _, _, rfl, rfl, ?_⟩
    refine ⟨_, _, rfl, rfl, ?_⟩
    generalize upd H4 pt _ = H5 at T5 p5 ew5 ⊢
    have hu3 : uw.natAbs < 2 ^ 202 := Nat.lt_of_le_of_lt (low_le lw) hu2
    have hs3 : sw ≤ 40 := Nat.le_trans lw.le hs2
    have hm3 : more ≤ 12 := by omega
    clear hT T1 T2 T3 T4 p1 p2 p3 p4 k2 k4 er er3 er4 er5 ew ew4 s1 s3 s5 sq np ww ed b1 b2 nq0 npw nrd lw2 nd1
    try dsimp only [gName, List.set]
    -- the rows
    refine ⟨_, rfl, _, rfl, by show 2 ≤ sizeLine; decide, fun q1 m1 => ⟨_, rfl, _, rfl, by show 2 ≤ sizeLine; decide, fun q2 m2 => ?_⟩⟩
    refine ⟨_, rfl, _, rfl, more, rfl, by omega, _, _, rfl, rfl, wide_mul hu3 (ten_lt more) (by decide) (by omega) (by omega), _, rfl, _, rfl, _, _, rfl, rfl, ?_⟩
    dsimp only [tNil]
    rw [show (sw : Int) + (more : Int) = ((sw + more : Nat) : Int) by omega]
    refine ⟨by show 2 ≤ sizeLine; decide, fun q3 m3 => ⟨by show 3 ≤ sizeLine; decide, fun l nl => ?_⟩⟩
    have s6 := same_new (o := HO.tup [.int u, .int (s : Nat)]) m1
    have s7 := same_new (o := HO.tup [.int uw, .int (sw : Nat)]) m2
    have s8 := same_new (o := HO.tup [.int (uw * (10 : Int) ^ more), .int ((sw + more : Nat) : Int)]) m3
    have s9 := same_new (o := HO.lst [.ref q1, .ref q2, .ref q3]) nl
    have sA := ((s6.trans s7).trans s8).trans s9
    have e1 := s9 _ _ (s8 _ _ (s7 _ _ (upd_same (H := H5) (a := q1) (o := HO.tup [.int u, .int (s : Nat)]))))
    have e2 := s9 _ _ (s8 _ _ (upd_same (a := q2) (o := HO.tup [.int uw, .int (sw : Nat)])))
    have e3 := s9 _ _ (upd_same (a := q3) (o := HO.tup [.int (uw * (10 : Int) ^ more), .int ((sw + more : Nat) : Int)]))
    have T9 := T5.ext sA
    have p9 := p5.same sA
    have ew9 := sA _ _ ew5
    have el : upd (upd (upd (upd H5 q1 (.tup [.int u, .int (s : Nat)])) q2 (.tup [.int uw, .int (sw : Nat)])) q3 (.tup [.int (uw * (10 : Int) ^ more), .int ((sw + more : Nat) : Int)])) l (.lst [.ref q1, .ref q2, .ref q3]) l = some (.lst [.ref q1, .ref q2, .ref q3]) := upd_same
    generalize upd (upd (upd (upd H5 q1 (.tup [.int u, .int (s : Nat)])) q2 (.tup [.int uw, .int (sw : Nat)])) q3 (.tup [.int (uw * (10 : Int) ^ more), .int ((sw + more : Nat) : Int)])) l (.lst [.ref q1, .ref q2, .ref q3]) = H9 at e1 e2 e3 T9 p9 ew9 el ⊢
    have hvw : uw.natAbs < 10 ^ 500 := by
      have := small_v (n := 0) hu3 (by decide)
      rwa [Int.pow_zero, Int.mul_one] at this
    have lu : uw.natAbs < 2 ^ 90000 := up_two hu3 (by decide)
    have rows : ∀ x ∈ [V.ref q1, .ref q2, .ref q3], RowS H9 uw sw x := fun x hx => by
      simp only [List.mem_cons, List.not_mem_nil, or_false] at hx
      rcases hx with rfl | rfl | rfl
      · refine ⟨q1, u, s, rfl, e1, lw, by omega, ?_⟩
        have := small_v (n := 0) hu2 (by decide)
        rwa [Int.pow_zero, Int.mul_one] at this
      · refine ⟨q2, uw, sw, rfl, e2, ⟨Nat.le_refl _, ?_, lw.own⟩, by omega, hvw⟩
        rw [Nat.sub_self, Int.pow_zero, Int.mul_one]
      · refine ⟨q3, _, _, rfl, e3, ⟨Nat.le_add_right .., ?_, lw.own⟩, by omega, small_v hu3 (by omega)⟩
        rw [Nat.add_sub_cancel_left]
    clear sA s6 s7 s8 s9 m1 m2 m3 nl T5 p5 ew5 e1 e2 e3
    try dsimp only [gName, List.set]
    refine ⟨_, rfl, l, rfl, ⟨_, SqL.of el⟩, fun D nD => lc_list (xs := [.ref q1, .ref q2, .ref q3]) (fun i H' => ExtN H9 H' ∧ Tabs [(Pa, qA), (Pl, qL)] H' ∧ H' D = some (.lst (List.replicate i (.bl true)))) ⟨extN_new nD, T9.ext (same_new nD), upd_same⟩ (fun i H' _ hb => SqL.of (hb.1 _ _ el (fun ps z => by cases z))) ?_ ?_⟩
    · rintro i x H' hx ⟨x1, t1, hD⟩
      have hi : i < 3 := (List.getElem?_eq_some_iff.mp hx).1
      obtain ⟨q', v, n, rfl, e, lo, hn, hv⟩ := rows x (List.mem_of_getElem? hx)
      dsimp only [gName, List.set]
      refine ⟨rfl, ?_⟩
      unfold tYes
      dsimp only
      rw [if_pos rfl]
      have e' := x1 _ _ e (fun ps z => by cases z)
      refine ⟨_, rfl, _, rfl, q', _, 0, _, rfl, rfl, SqT.of e', rfl, _, rfl, q', _, 1, _, rfl, rfl, SqT.of e', rfl, ?_⟩
      refine ⟨pw, uw, v, sw, n, rfl, ⟨dw, x1 _ _ ew9 (fun ps z => by cases z)⟩, lo, hn, hv, t1, fun H2 x2 t2 => ?_⟩
      have hD2 := x2 _ _ hD (fun ps z => by cases z)
      refine ⟨_, hD2, ?_, ?_, ?_, ?_⟩
      · rw [List.length_replicate]
        have := sizeLine_eq
        omega
      · exact fun b o z nt => (upd_ne (ne_of_none z nD)).trans ((x1.trans x2) b o z nt)
      · exact tabs_put t2 hD2
      · rw [upd_same, List.replicate_succ']
    rintro HB ⟨x1, TB1, hD⟩
    refine ⟨D, [true, true, true], rfl, SqL.of hD, _, rfl, iteF ?_⟩
    have ewB := x1 _ _ ew9 (fun ps z => by cases z)
    have pB := Pen_extN p9 x1
    refine ⟨_, rfl, pw, dw, _, rfl, ewB, ?_⟩
    refine ⟨pw, uw, sw, rfl, ⟨dw, ewB⟩, by omega, lu, hvw, _, rfl, ?_⟩
    refine ⟨_, rfl, _, rfl, uw, sw, rfl, hvw, by omega, rfl, _, rfl, ?_⟩
    rw [decide_eq_true rfl]
    refine iteF ?_
    clear x1 hD rows el T9 p9 ew9 nD
    refine ⟨fun σ H' => (∃ y9 y15 : Option V, σ = [some (.ref a), some (.ref d), some (.int u), some (.int (s : Nat)), some (.ref pw), some (.int uw), some (.int (sw : Nat)), some (.int (more : Nat)), some (.ref l), y9, none, none, none, none, none, y15]) ∧ Tabs [(Pa, qA), (Pl, qL)] H' ∧ Pen H' d 3000 ∧ H' pw = some (.ins W dw (wRow uw sw)), ?_, ?_⟩
    · refine ⟨_, rfl, _, _, rfl, rfl, _, rfl, ite2 (fun e => ?_) (fun e => ?_)⟩
      · have h0 : 0 < sw := by
          have : (sw : Int) > 0 := of_decide_eq_true e
          omega
        refine ⟨_, rfl, _, rfl, d, (sw : Int), _, rfl, pB, by omega, by omega, by omega, fun v2 H6 b1 b2 k6 p6 => ?_⟩
        obtain ⟨less, rfl⟩ : ∃ n : Nat, v2 = (n : Int) := ⟨v2.toNat, by omega⟩
        obtain ⟨pp, nn, cc, ll, ed, _⟩ := id pB.ex
        have T6 := tabs_keep TB1 pB k6.k
        have ew6 := k6 _ _ (ne_of ewB ed (by intro y; cases y)) ewB
        try dsimp only [gName, List.set]
        refine ⟨T6, fun f1 c1 H7 x7 T7 _ l1 d1 => ⟨f1, c1, rfl, l1, d1, rfl, .int (sw : Nat), fun Q' E' h => ⟨pw, uw, sw, less, rfl, ⟨dw, x7 _ _ ew6 (fun ps z => by cases z)⟩, by omega, h⟩, fun H8 s8 => ⟨_, rfl, rfl, _, rfl, ?_⟩⟩⟩
        rw [decide_eq_true rfl]
        refine iteF ?_
        have T8 := T7.ext s8
        have ew8 := s8 _ _ (x7 _ _ ew6 (fun ps z => by cases z))
        have p8 := (Pen_extN p6 x7).same s8
        refine ⟨T8, fun f2 c2 H9 x9 T9 _ l2 d2 => ⟨f2, c2, rfl, l2, d2, rfl, .int (sw : Nat), fun Q' E' h => ⟨pw, uw, sw, less, rfl, ⟨dw, x9 _ _ ew8 (fun ps z => by cases z)⟩, by omega, h⟩, fun H10 s10 => ⟨_, rfl, rfl, _, rfl, ?_⟩⟩⟩
        rw [decide_eq_true rfl]
        refine iteF ?_
        exact ⟨⟨_, _, rfl⟩, T9.ext s10, ((Pen_extN p8 x9).same s10).mono (by omega), s10 _ _ (x9 _ _ ew8 (fun ps z => by cases z))⟩
      · exact ⟨⟨_, _, rfl⟩, TB1, pB.mono (by omega), ewB⟩
    clear TB1 pB ewB
    rintro σ HC ⟨⟨y9, y15, rfl⟩, TC, pC, ewC⟩
    -- spoilt twice
    have nw : ∀ {n : Nat} {q : Prop}, isWh (.int (n : Int)) = false → q := fun z => by rw [isWh_cast] at z; cases z
    refine ⟨_, rfl, _, rfl, pw, dw, _, rfl, ewC, lk_m _ _ (by decide +kernel) (by decide +kernel), _, rfl, _, rfl, _, _, rfl, rfl, ?_⟩
    dsimp only [tNil]
    rw [show (sw : Int) + (more : Int) = ((sw + more : Nat) : Int) by omega]
    try rw [List.append_nil]
    refine ⟨pw, uw, sw, .int ((sw + more : Nat) : Int), rfl, ⟨dw, ewC⟩, .int _, nw, fun n' en => ?_⟩
    obtain rfl : n' = sw + more := by have := V.int.inj en; omega
    have hv2 := small_v (n := sw + more - sw) hu3 (by omega)
    refine ⟨fun z => absurd z (by omega), fun _ => ⟨by omega, lu, hv2, ?_⟩⟩
    have hl2 := wr_len2 (n := sw + more) hv2 (by omega)
    refine ⟨d, _, _, rfl, by omega, okT.wr _ _, pC, by omega, fun t1 HD l1 ok1 k1 p1 => ?_⟩
    obtain ⟨pp, nn, cc, ll, ed, _⟩ := id pC.ex
    have TD := tabs_keep TC pC k1.k
    have ewD := k1 _ _ (ne_of ewC ed (by intro y; cases y)) ewC
    try dsimp only [gName, List.set]
    refine ⟨_, rfl, _, rfl, d, t1, _, rfl, by omega, ok1, p1, by omega, fun t2 HE l2 ok2 k2 p2 => ?_⟩
    obtain ⟨pp1, nn1, cc1, ll1, ed1, _⟩ := id p1.ex
    have TE := tabs_keep TD p1 k2.k
    have ewE := k2 _ _ (ne_of ewD ed1 (by intro y; cases y)) ewD
    have pE : Pen HE d 4000 := p2.mono (by omega)
    have hl3 : t1.length ≤ 901 ∧ t2.length ≤ 902 := ⟨by omega, by omega⟩
    clear k1 k2 p1 p2 TD ewD ewC TC pC ed ed1 l1 l2 hl2 hv2
    try dsimp only [gName, List.set]
    -- what is wrong
    refine ⟨_, rfl, by show 1 ≤ sizeLine; decide, fun r1 m1 => ⟨by show 1 ≤ sizeLine; decide, fun r2 m2 => ⟨by show 0 ≤ sizeLine; decide, fun r3 m3 r4 m4 => ⟨_, rfl, by show 8 ≤ sizeLine; decide, fun g1 ng1 => ?_⟩⟩⟩⟩
    have s1 := same_new (o := HO.tup [.str "1"]) m1
    have s2 := same_new (o := HO.lst [.str "1"]) m2
    have s3 := same_new (o := HO.lst []) m3
    have s4 := same_new (o := HO.dK []) m4
    have s5 := same_new (o := HO.lst [.non, .bl true, .int 15, .ref r1, .ref r2, .ref r3, .ref r4, .ref pw]) ng1
    have e1 := s5 _ _ (s4 _ _ (s3 _ _ (s2 _ _ (upd_same (H := HE) (a := r1) (o := .tup [.str "1"])))))
    have e2 := s5 _ _ (s4 _ _ (s3 _ _ (upd_same (a := r2) (o := HO.lst [.str "1"]))))
    have e3 := s5 _ _ (s4 _ _ (upd_same (a := r3) (o := HO.lst [])))
    have e4 := s5 _ _ (upd_same (a := r4) (o := HO.dK []))
    have sA := (((s1.trans s2).trans s3).trans s4).trans s5
    have sB := ((s1.trans s2).trans s3)
    refine ⟨d, g1, _, _, rfl, upd_same, by simp, by show 8 ≤ 1000; decide, pE.same sA, by omega, fun wr HF hwd k16 p16 => ?_⟩
    obtain ⟨pp, nn, cc, ll, ed, ep, _⟩ := id (pE.same sA).ex
    obtain ⟨pp0, nn0, cc0, ll0, ed0, _⟩ := id (pE.same sB).ex
    have nd4 : r4 ≠ d := (ne_of_none ed0 m4).symm
    have hw : ∃ os : List V, Odds HF os ∧ (wr ∈ os ∨ wr = .ref pw) ∧ ∀ z, wr ≠ .str z := by
      have z1 := k16 _ _ (ne_of e1 ed (by intro y; cases y)) e1
      have z2 := k16 _ _ (ne_of e2 ed (by intro y; cases y)) e2
      have z3 := k16 _ _ (ne_of e3 ed (by intro y; cases y)) e3
      have z4 := k16 _ _ nd4 e4
      simp only [List.mem_cons, List.not_mem_nil, or_false] at hwd
      rcases hwd with rfl | rfl | rfl | rfl | rfl | rfl | rfl | rfl
      · exact ⟨[.non], Odds.nil.cons (.flat rfl), .inl (by simp), fun z y => by cases y⟩
      · exact ⟨[.bl true], Odds.nil.cons (.flat rfl), .inl (by simp), fun z y => by cases y⟩
      · exact ⟨[.int 15], Odds.nil.cons (.flat rfl), .inl (by simp), fun z y => by cases y⟩
      · exact ⟨[.ref r1], Odds.nil.cons (.tup z1 (by decide +kernel)), .inl (by simp), fun z y => by cases y⟩
      · exact ⟨[.ref r2], Odds.nil.cons (.lst z2 (by decide +kernel)), .inl (by simp), fun z y => by cases y⟩
      · exact ⟨[.ref r3], Odds.nil.cons (.lst z3 rfl), .inl (by simp), fun z y => by cases y⟩
      · exact ⟨[.ref r4], Odds.nil.cons (.dct z4 (by simp) (by simp)), .inl (by simp), fun z y => by cases y⟩
      · exact ⟨[], Odds.nil, .inr rfl, fun z y => by cases y⟩
    obtain ⟨os, oF, hwr, nt⟩ := hw
    have ewA := sA _ _ ewE
    have ewF := k16 _ _ (ne_of ewA ed (by intro y; cases y)) ewA
    have TF := tabs_keep (TE.ext sA) (pE.same sA) k16.k
    clear s1 s2 s3 s4 s5 e1 e2 e3 e4 sA sB hwd k16 ed ed0 nd4 ewA ewE TE pE m1 m2 m3 m4 ng1 ep
    refine ⟨_, rfl, _, rfl, d, 9, _, rfl, p16, by omega, by decide, by decide, fun v1 HG b1 b2 k3 p3 => ⟨_, _, rfl, rfl, ?_⟩⟩
    obtain ⟨pp, nn, cc, ll, ed, _⟩ := id p16.ex
    have oG := oF.keep p16 k3.k
    have ewG := k3 _ _ (ne_of ewF ed (by intro y; cases y)) ewF
    have TG := tabs_keep TF p16 k3.k
    have hlo : -1 - v1 < 0 := by omega
    refine ⟨by show 2 ≤ sizeLine; decide, fun pt np => ?_⟩
    have s5 := same_new (o := HO.tup [wr, .int (-1 - v1)]) np
    refine ⟨pt, _, rfl, SqT.of upd_same, rfl, _, _, rfl, _, _, rfl, rfl, ?_⟩
    generalize upd HG pt (.tup [wr, .int (-1 - v1)]) = HI at s5 ⊢
    try dsimp only [gName, List.set]
    generalize -1 - v1 = lo at hlo ⊢
    have oI := oG.same s5
    have TI := TG.ext s5
    have ewI := s5 _ _ ewG
    have pI : Pen HI d 5000 := (p3.same s5).mono (by omega)
    have fs : Firm HI [(pw, .ins W dw (wRow uw sw))] := fun p hp => by
      rw [List.mem_singleton.mp hp]
      exact ⟨ewI, fun _ z => (by cases z), fun _ z => (by cases z)⟩
    clear s5 oF oG TF TG ewF ewG p16 p3 k3 ed np b1 b2 ewI
    try dsimp only [gName, List.set]
    -- the rows
    refine ⟨TI, fun a1 c1 H6 x6 T6 _ l1 d1 => ⟨_, rfl, by show 2 ≤ sizeLine; decide, fun q1 m1 => ⟨by show 1 ≤ sizeLine; decide, fun r nr => ?_⟩⟩⟩
    have TJ := (T6.ext (same_new (o := HO.tup [.ref a1, wr]) m1)).ext (same_new (o := HO.lst [.ref q1]) nr)
    have G : ∀ X : Cx, X = (cxOf CX0 P w K mg base nLaw "law" (defScope sLaw) g (.ref cg) A outer s0 H E) → Rb (nfN X) bN (due wr lo) (upd (upd H6 q1 (.tup [.ref a1, wr])) r (.lst [.ref q1])) (upd (upd H6 q1 (.tup [.ref a1, wr])) r (.lst [.ref q1])) r 1 os [(pw, .ins W dw (wRow uw sw))] ∧ ∀ b o, HI b = some o → (∀ ps, o ≠ .tbl ps) → b ≠ r ∧ upd (upd H6 q1 (.tup [.ref a1, wr])) r (.lst [.ref q1]) b = some o := fun X hX => by
      subst hX
      exact Rb.one (i := Elv.l1) oI fs rfl x6 l1 d1 m1 nr
    obtain ⟨G, KA⟩ := G _ rfl
    generalize upd (upd H6 q1 (.tup [.ref a1, wr])) r (.lst [.ref q1]) = H9 at G KA TJ ⊢
    clear x6 T6 l1 d1 m1 nr TI
    obtain ⟨ys, hy, _⟩ := G.lst
    refine ⟨_, rfl, .inl ⟨rfl, _, SqL.of hy⟩, TJ, fun a c2 H1 x1 T1 _ ll dd => ⟨_, rfl, by show 2 ≤ sizeLine; decide, fun q2 m => ?_⟩⟩
    obtain ⟨xs, u', hl, G⟩ := G.add (i := Elv.l2) (v := wr) rfl x1 ll dd m
    refine ⟨r, xs, _, rfl, rfl, u', by rw [hl]; show 1 < sizeLine; decide, ?_⟩
    have TJ := tabs_put (T1.ext (same_new m)) (o := .lst (xs ++ [.ref q2])) u'
    generalize upd (upd H1 q2 (.tup [.ref a, wr])) r (.lst (xs ++ [.ref q2])) = H9 at G TJ ⊢
    clear x1 T1 ll dd m u' hl hy
    obtain ⟨ys, hy, _⟩ := G.lst
    refine ⟨_, rfl, .inl ⟨rfl, _, SqL.of hy⟩, TJ, fun a c2 H1 x1 T1 _ ll dd => ⟨_, rfl, by show 2 ≤ sizeLine; decide, fun q3 m => ?_⟩⟩
    obtain ⟨xs, u', hl, G⟩ := G.add (i := Elv.l3) (v := .int lo) rfl x1 ll dd m
    refine ⟨r, xs, _, rfl, rfl, u', by rw [hl]; show 2 < sizeLine; decide, ?_⟩
    have TJ := tabs_put (T1.ext (same_new m)) (o := .lst (xs ++ [.ref q3])) u'
    generalize upd (upd H1 q3 (.tup [.ref a, .int lo])) r (.lst (xs ++ [.ref q3])) = H9 at G TJ ⊢
    clear x1 T1 ll dd m u' hl hy
    obtain ⟨ys, hy, _⟩ := G.lst
    refine ⟨_, rfl, .inl ⟨rfl, _, SqL.of hy⟩, TJ, fun a c2 H1 x1 T1 _ ll dd => ⟨_, rfl, by show 2 ≤ sizeLine; decide, fun q4 m => ?_⟩⟩
    obtain ⟨xs, u', hl, G⟩ := G.add (i := Elv.l4) (v := .int lo) rfl x1 ll dd m
    refine ⟨r, xs, _, rfl, rfl, u', by rw [hl]; show 3 < sizeLine; decide, ?_⟩
    have TJ := tabs_put (T1.ext (same_new m)) (o := .lst (xs ++ [.ref q4])) u'
    generalize upd (upd H1 q4 (.tup [.ref a, .int lo])) r (.lst (xs ++ [.ref q4])) = H9 at G TJ ⊢
    clear x1 T1 ll dd m u' hl hy
    -- the comprehension
    obtain ⟨ys, hy, _⟩ := G.lst
    have Gk := G.kp
    refine ⟨_, rfl, r, rfl, ⟨_, SqL.of hy⟩, fun L nL => ?_⟩
    refine rb_allP (Pd := OkW W) (L := lamN _ C W _) (due := due wr lo) (C := C) (fld := "value") (ts := [(Pa, qA), (Pl, qL)]) (fun x H tl Q o1 o2 o3 => ⟨x, rfl, o1, o2, o3⟩) (toldN hlo hwr nt) (fun _ => rfl) (fun _ => rfl) G hy (show 4 ≤ 1000 by decide) nL TJ fun HK TK kq hb => ?_
    obtain ⟨bs, b1, b2⟩ := hb
    refine ⟨L, bs, rfl, SqL.of b1, _, rfl, ?_⟩
    rw [b2]
    refine iteF ?_
    have xK : ExtN HI HK := fun b o z nt => by
      obtain ⟨y1, y2⟩ := KA b o z nt
      exact kq _ _ y1 (Gk _ _ y1 y2 nt) nt
    have pK := Pen_extN pI xK
    have lb : (wrL 0 more).length ≤ 900 := wr_len2 (by show 0 < 10 ^ 500; exact Nat.pow_pos (by decide)) (by omega)
    clear xK G hy KA kq Gk nL b1 b2 TJ pI oI fs
    -- the texts
    refine ⟨_, rfl, t1, rfl, by omega, ok1, TK, fun HL x1 T1 => ⟨_, rfl, t2, rfl, by omega, ok2, T1, fun HM x2 T2 => ?_⟩⟩
    have pM := Pen_extN (Pen_extN pK x1) x2
    refine ⟨_, _, rfl, ?_⟩
    try dsimp only [gName, List.set]
    refine ⟨_, rfl, 0, more, rfl, by show 0 < 10 ^ 500; exact Nat.pow_pos (by decide), by omega, ?_⟩
    try dsimp only [gName, List.set]
    refine ⟨_, rfl, _, rfl, iteT ⟨_, rfl, _, rfl, iteT ?_⟩⟩
    refine ⟨_, rfl, d, _, rfl, pM, by omega, fun t3 HN l3 ok3 k3 p3 => ?_⟩
    have T3 := tabs_keep T2 pM k3.k
    refine ⟨t3, rfl, by omega, ok3, T3, fun HO x4 T4 => ⟨_, rfl, iteT ?_⟩⟩
    refine ⟨_, rfl, wrL 0 more, rfl, by omega, okT.wr _ _, T4, fun HP x5 T5 => ⟨_, rfl, iteT ?_⟩⟩
    refine ⟨_, rfl, _, _, rfl, rfl, by rw [minus_S, SX.S_len, SX.S_len]; have := sizeLine_eq; simp only [List.length_cons, List.length_nil]; omega, ?_⟩
    rw [minus_S, SX.S_cat]
    refine ⟨[45] ++ wrL 0 more, rfl, by rw [List.length_append]; simp only [List.length_cons, List.length_nil]; omega, okT.app (fun c hc => ?_) (okT.wr _ _), T5, fun HQ _ _ => q HQ⟩
    obtain rfl := List.mem_singleton.mp hc
    decide
end
end R
abbrev spLaw := R.spLaw
end K05

/-! own layer, of no law: OWNP: properties of the program's classes, told by the top. -/
namespace Own
open PySem PySem.Spec PyProof.Rows L2 LamX NdefX
/-- the getter of a property: (class, its name) -/
def pgA (K : PySem.W.Frag) (p : Str × Option Str) : Addr := match PySem.W.findIn K (.ref (He.ga K p.1)) (p.2.getD "") with
  | some (some (.ref q)) => (match PySem.W.recIn K q "property" with
    | some (.ref g :: _) => g
    | _ => 0)
  | _ => 0
def fnWA (K : PySem.W.Frag) (a : Addr) : He.FnW := match K.lookup a with
  | some ⟨_, _, .func fd, _⟩ => some (fd.name, fd.qualname, fd.params, fd.body, fd.scope, fd.globals, fd.closure, fd.builtins)
  | _ => none
def okA (K : PySem.W.Frag) (a : Addr) (q : Str) : Bool := PySem.W.keepIn K (.ref a) && (match K.lookup a with
  | some ⟨_, _, .func fd, _⟩ => PySem.W.codeIn K fd.code q && (He.dflB K fd.defaults [] && He.kwdB K fd.kwdefaults [])
  | _ => false)
def propB (K : PySem.W.Frag) (p : Str × Option Str) (q : Str) : Bool := (match PySem.W.findIn K (.ref (He.ga K p.1)) (p.2.getD "") with
  | some (some (.ref r)) => decide (PySem.W.specialIn K (.ref r) "__get__" = some (some (.builtin "property.__get__"))) && (decide (PySem.W.takesIn K (.ref r) = some true) && (match PySem.W.recIn K r "property" with
    | some (.ref _ :: _) => true
    | _ => false))
  | _ => false) && okA K (pgA K p) q
theorem funD_at {K : PySem.W.Frag} {a : Addr} {d : He.DefD} (e : fnWA K a = d.val) (c : okA K a d.qual = true) : ∃ fd, FunD K d.name d.qual d.params d.body d.scope [] [] a fd := by
  obtain ⟨kp, c2⟩ := He.ba c
  unfold fnWA at e
  cases q : K.lookup a with
  | none =>
    rw [q] at c2
    cases c2
  | some o =>
    obtain ⟨oc, od, dt, osl⟩ := o
    rw [q] at c2 e
    cases dt with
    | func fd =>
      obtain ⟨n1, n2, n3, n4, n5, n6, n7, n8, n9, n10, n11, n12, n13, n14, n15⟩ := fd
      have e2 : (some (n1, n2, n3, n4, n5, n6, n7, n15) : He.FnW) = some (d.name, d.qual, d.params, .stmts d.body, d.scope, mainGlobals, [], builtinsNs) := e
      simp only [Option.some.injEq, Prod.mk.injEq] at e2
      obtain ⟨h1, h2, h3, h4, h5, h6, h7, h8⟩ := e2
      subst h1 h2 h3 h4 h5 h6 h7 h8
      have c3 : (PySem.W.codeIn K n13 d.qual && (He.dflB K n8 [] && He.kwdB K n9 [])) = true := c2
      obtain ⟨k1, k2⟩ := He.ba c3
      obtain ⟨k3, k4⟩ := He.ba k2
      exact ⟨_, ⟨oc, od, n8, n9, n10, n11, n12, n13, n14, osl, rfl, q, k1, He.dflB_ok k3, He.kwdB_ok k4⟩, kp⟩
    | _ => cases c2
theorem prop_ok {K : PySem.W.Frag} {C f : Str} {q : Str} (h : propB K (C, some f) q = true) : (∃ p, PropOf K (He.ga K C) f p (pgA K (C, some f))) ∧ okA K (pgA K (C, some f)) q = true := by
  obtain ⟨h1, h2⟩ := He.ba h
  refine ⟨?_, h2⟩
  have h1 : (match PySem.W.findIn K (.ref (He.ga K C)) f with
    | some (some (.ref r)) => decide (PySem.W.specialIn K (.ref r) "__get__" = some (some (.builtin "property.__get__"))) && (decide (PySem.W.takesIn K (.ref r) = some true) && (match PySem.W.recIn K r "property" with
      | some (.ref _ :: _) => true
      | _ => false))
    | _ => false) = true := h1
  have e : pgA K (C, some f) = (match PySem.W.findIn K (.ref (He.ga K C)) f with
    | some (some (.ref q)) => (match PySem.W.recIn K q "property" with
      | some (.ref g :: _) => g
      | _ => 0)
    | _ => 0) := rfl
  cases a : PySem.W.findIn K (.ref (He.ga K C)) f with
  | none => rw [a] at h1; cases h1
  | some a1 =>
    cases a1 with
    | none => rw [a] at h1; cases h1
    | some v =>
      cases v with
      | ref r =>
        rw [a] at h1 e
        obtain ⟨b1, b2⟩ := He.ba h1
        obtain ⟨b2, b3⟩ := He.ba b2
        have b3 : (match PySem.W.recIn K r "property" with
          | some (.ref _ :: _) => true
          | _ => false) = true := b3
        have e : pgA K (C, some f) = (match PySem.W.recIn K r "property" with
          | some (.ref g :: _) => g
          | _ => 0) := e
        refine ⟨r, a, of_decide_eq_true b1, of_decide_eq_true b2, ?_⟩
        cases c : PySem.W.recIn K r "property" with
        | none => rw [c] at b3; cases b3
        | some l =>
          cases l with
          | nil => rw [c] at b3; cases b3
          | cons x rest =>
            cases x with
            | ref g =>
              rw [c] at e
              have e : pgA K (C, some f) = g := e
              rw [e]
              exact ⟨rest, rfl⟩
            | _ => rw [c] at b3; cases b3
      | _ => rw [a] at h1; cases h1
/-- what is told: the getters' texts besides -/
structure SaysP (ps : List He.DefD) (K : PySem.W.Frag) : Prop where
  g : ps.map (fun d => fnWA K (pgA K d.at_)) = ps.map He.DefD.val
theorem SaysP.at_ {ps : List He.DefD} {K : PySem.W.Frag} (c : SaysP ps K) (i : Nat) {d : He.DefD} (h : ps[i]? = some d) : fnWA K (pgA K d.at_) = d.val := by
  have e : (ps.map fun d => fnWA K (pgA K d.at_))[i]? = (ps.map He.DefD.val)[i]? := by rw [c.g]
  rw [List.getElem?_map, List.getElem?_map, h] at e
  exact Option.some.inj e
abbrev AlP : Type := He.AlX × List He.FnW
def obsP (n : Nat) (fa : List He.Fa) (fn : List He.DefD) (ts : List He.Tab) (tf : List He.Defn) (ex : PySem.W.Frag → Bool) (ps : List He.DefD) (g : Addr → Option Obj) : AlP :=
  (He.obsX n fa fn ts tf ex g, ps.map fun d => fnWA (He.frT g (He.asD g n)) (pgA (He.frT g (He.asD g n)) d.at_))
def valP (fn : List He.DefD) (ts : List He.Tab) (ps : List He.DefD) (w : World) : AlP := (He.valX fn ts w, ps.map He.DefD.val)
def hookP (n : Nat) (fa : List He.Fa) (fn : List He.DefD) (ts : List He.Tab) (tf : List He.Defn) (ex : PySem.W.Frag → Bool) (ps : List He.DefD) : PySem.W.Hook where
  α := AlP
  obs := fun s => obsP n fa fn ts tf ex ps s.heap.get?
  val := fun w => valP fn ts ps w
  says := fun w h => ∃ K : PySem.W.Frag, K.In h ∧ He.SaysX fa fn ts tf ex w h K ∧ SaysP ps K
  of := fun _ _ e => ⟨_, He.frT_in, He.saysX_of (congrArg (fun z : AlP => z.1) e), ⟨congrArg (fun z : AlP => z.2) e⟩⟩
  keeps := fun _ _ _ ⟨K, hK, c, d⟩ k => ⟨K, PySem.W.Frag.In.keeps hK k, ⟨c.t, c.more, c.hd, c.out, fun p hp => k _ _ (c.empty p hp)⟩, d⟩
theorem obsP_eq {n : Nat} {fa : List He.Fa} {fn : List He.DefD} {ts : List He.Tab} {tf : List He.Defn} {ex : PySem.W.Frag → Bool} {ps : List He.DefD} {g : Addr → Option Obj} {s : Shared} (h : ∀ a, g a = s.heap.get? a) : obsP n fa fn ts tf ex ps g = (hookP n fa fn ts tf ex ps).obs s := by
  have e : g = s.heap.get? := funext h
  rw [e] <;> rfl
end Own

set_option maxHeartbeats 0
/-! k05: what the top leaves; the end. -/
namespace K05
open PySem PySem.Spec PyProof.Rows L2 LamX NdefX Own
def nmF : Str × Option Str := ("_law_asked", none)
def nmG : Str × Option Str := ("law", none)
def dfn (x : Str) (i : Nat) : He.DefD := ⟨(x, none), x, x, defArgs (topS i), defBody (topS i), defScope (topS i), [], []⟩
def dMk (x m : Str) (i j : Nat) (pd : List He.Dv) (kd : List (Str × He.Dv)) : He.DefD := ⟨(x, some m), m, x ++ "." ++ m, defArgs (inClass (topS i) j), defBody (inClass (topS i) j), defScope (inClass (topS i) j), pd, kd⟩
def fnL : List He.DefD := [dMk "BadValue" "__init__" 3 0 [] [], dMk "TooFine" "__init__" 4 0 [] [], dMk "Worth" "__init__" 15 0 [.int 0] [], dMk "Worth" "__eq__" 15 1 [] [], dMk "Worth" "units_at" 15 14 [] [], dMk "Worth" "text" 15 15 [] [], dMk "Worth" "__str__" 15 12 [] [], dfn "is_an_integer" 7, dfn "is_whole_number" 8, dfn "need_integer" 9, dfn "need_whole_number" 10, dfn "ten_to" 11, dfn "digits_of" 12, dfn "without_zeros" 16, dfn "parted" 17, dfn "as_worth" 18, dfn "read_figures" 19, dfn "read_worth" 20, dfn "_law_begin" 22, dfn "_law_draw" 23, dfn "_law_pick" 24, dfn "_law_ten" 25, dfn "_law_figures" 26, dfn "_law_drawn" 27, dfn "_law_low" 28, dfn "_law_told" 29, dfn "_law_same" 30, dfn "_law_refused" 31, dfn "_law_written" 32, dfn "_law_read" 33, dfn "_law_spoilt" 34, dfn "_law_long" 35, dfn "_law_too_fine" 37, dfn "_law_scales" 38, dfn "_law_asked" 36, dfn "law" 39]
def psL : List He.DefD := []
def gloL : List Str := (["BadValue", "TooFine", "Worth", "TENS", "is_an_integer", "is_whole_number", "need_integer", "need_whole_number", "ten_to", "digits_of", "without_zeros", "parted", "as_worth", "read_figures", "read_worth", "_law_begin", "_law_draw", "_law_pick", "_law_ten", "_law_figures", "_law_drawn", "_law_low", "_law_told", "_law_same", "_law_refused"] : List Str) ++ (["_law_written", "_law_read", "_law_spoilt", "_law_long", "_law_too_fine", "_law_scales", "_law_asked", "law"] : List Str)
def freeL : List Str := ["isinstance", "int", "bool", "len", "list", "range", "tuple", "all", "divmod", "min", "max", "str", "abs", "dict", "any"]
def moreL : List He.Fa := [He.Fa.exm "BadValue" "BadValue" true, .meth "BadValue" "__init__", .noat "BadValue" "value", .keep "BadValue", .exm "TooFine" "TooFine" true, .meth "TooFine" "__init__", .noat "TooFine" "scale", .keep "TooFine", .cls "Worth", .mkr "Worth", .noat "Worth" "units", .noat "Worth" "scale", .noat "Worth" "floor", .noat "Worth" "more", .meth "Worth" "__eq__", .meth "Worth" "units_at", .meth "Worth" "text", .meth "Worth" "__str__", .int "LONGEST_TEXT" 400]
def faL : List He.Fa := gloL.map He.Fa.glo ++ freeL.map He.Fa.free ++ moreL
def tsL : List He.Tab := []
/-- isinstance by the class -/
def wisB (K : PySem.W.Frag) (W : Addr) : Bool := (decide (PySem.W.findIn K (.ref W) "__class__" = some (some (.builtin "object.__class__"))) && (decide (PySem.W.specialIn K (.builtin "object.__class__") "__get__" = some (some (.builtin "getset_descriptor.__get__"))) &&
  (decide (PySem.W.takesIn K (.builtin "object.__class__") = some true) && (decide (PySem.W.mroIn K W (.type "object") = some true) && ((tys.all fun T => decide (PySem.W.kitOne K (.type T) (.ref W) = some false)))))))
def exL (K : PySem.W.Frag) : Bool := oexB K (He.ga K "BadValue") && (L2.xfB K (He.ga K "BadValue") && (oexB K (He.ga K "TooFine") && (L2.xfB K (He.ga K "TooFine") && (He.tupB K "TENS" (tensL.map He.Dv.int) && (wisB K (He.ga K "Worth") && ((tys.all fun T => decide (PySem.W.subIn K (.type T) (.ref (He.ga K "Worth")) = some false)) && (decide (PySem.W.kitOne K (.ref (He.ga K "Worth")) (.type "str") = some false) && (decide (PySem.W.kitOne K (.ref (He.ga K "Worth")) (.type "bool") = some false) && (decide ((He.cT K nmF).2 ≠ (He.cT K nmG).2))))))))))
abbrev rowK : PySem.W.OpenRow := PySem.W.OpenLaw.row PySem.Challenge.rw_figurestay_k05_texts_of_worths
abbrev hkL : PySem.W.Hook := hookP 6 faL fnL tsL [nmF, nmG] exL psL
def obL (s : PySem.W.SharedT) : AlP := obsP 6 faL fnL tsL [nmF, nmG] exL psL (HandSHeadRun.getT s)
theorem obL_eq (s : PySem.W.SharedT) : obL s = hkL.obs s.abs := obsP_eq (HandSHeadRun.getT_eq s)
def looseL : List Str := (["FigureError", "BadValue", "TooFine", "Worth", "TENS", "is_an_integer", "is_whole_number", "need_integer", "need_whole_number", "ten_to", "digits_of", "without_zeros", "parted", "as_worth", "read_figures", "read_worth", "_law_begin", "_law_draw", "_law_pick", "_law_ten", "_law_figures", "_law_drawn", "_law_low", "_law_told", "_law_same"] : List Str) ++ (["_law_refused", "_law_written", "_law_read", "_law_spoilt", "_law_long", "_law_too_fine", "_law_scales", "_law_asked", "LONGEST_TEXT", "_wall"] : List Str)
end K05

/-! k05: what the top leaves; the end. -/
namespace K05
open PySem PySem.Spec PyProof.Rows L2 LamX NdefX Own
theorem runF (w : World) : HandSHeadRun.RunEq rowK (PySem.W.view rowK.prog [39]) hkL obL 12000 looseL (w.withFollow "special-get-raises" false) := by
  intro os
  kernel_rfl
theorem runT (w : World) : HandSHeadRun.RunEq rowK (PySem.W.view rowK.prog [39]) hkL obL 12000 looseL (w.withFollow "special-get-raises" true) := by
  intro os
  kernel_rfl
theorem runL (w : World) : HandSHeadRun.RunEq rowK (PySem.W.view rowK.prog [39]) hkL obL 12000 looseL w := PySem.W.byRow2 "special-get-raises" (P := fun w => HandSHeadRun.RunEq rowK (PySem.W.view rowK.prog [39]) hkL obL 12000 looseL w) runF runT w
end K05

/-! k05: what the top leaves; the end. -/
namespace K05
open PySem PySem.Spec PyProof.Rows L2 LamX NdefX Own
section
variable {P : Program} {w : World} {K : PySem.W.Frag} {mg : Str → Option Value} {h : Heap}
theorem gloF (X : K.In h) (G : h.Ns mainGlobals mg) (d : He.SaysD faL fnL K) {x : Str} (hx : x ∈ gloL) : mg x = some (.ref (He.ga K x)) :=
  He.glo_ok X G (d.facts (List.mem_append_left _ (List.mem_append_left _ (List.mem_map.mpr ⟨x, hx, rfl⟩))))
theorem freeF (X : K.In h) (G : h.Ns mainGlobals mg) (d : He.SaysD faL fnL K) {x : Str} (hx : x ∈ freeL) : mg x = none :=
  He.free_ok X G (d.facts (List.mem_append_left _ (List.mem_append_right _ (List.mem_map.mpr ⟨x, hx, rfl⟩))))
theorem moreF (d : He.SaysD faL fnL K) {f : He.Fa} (hf : f ∈ moreL) : f.ok K = true := d.facts (List.mem_append_right _ hf)
theorem wis_ok {W : Addr} (h : wisB K W = true) : WIs K W := by
  obtain ⟨z2, y⟩ := He.ba h
  obtain ⟨z3, y⟩ := He.ba y
  obtain ⟨z4, y⟩ := He.ba y
  obtain ⟨z5, z6⟩ := He.ba y
  exact ⟨of_decide_eq_true z2, of_decide_eq_true z3, of_decide_eq_true z4, of_decide_eq_true z5, fun T hT => of_decide_eq_true (List.all_eq_true.mp z6 T hT)⟩
theorem scE_BadValue : FnScope ["self", "value"] ["self", "value"] (defScope (inClass (topS 3) 0)) := ⟨rfl, rfl, rfl, by decide +kernel, rfl, by decide +kernel, by decide +kernel⟩
theorem ok_err_BadValue {base : Heap} {C : Addr} {f : Addr} {fd : FuncData} (F : Fun K "__init__" "BadValue.__init__" (inClass (topS 3) 0) f fd) (T : OexC K C) (no : PySem.W.findIn K (.ref C) "value" = some none) : FnOk P w K mg base CX0 1 f fd ["self", "value"] (spErr C "value") := by
  refine F.ok scE_BadValue (fun vs H Q E h => ?_) (fun cdv A outer s H vs Q E hr h => ?_)
  · obtain ⟨a, y, rfl, _⟩ := h
    rfl
  · obtain ⟨a, y, rfl, ha, q⟩ := h
    refine ⟨_, pss_one (ps_ost (pv 0) (pv 1)), ?_⟩
    exact ⟨_, rfl, _, rfl, a, C, rfl, T, no, .inl ⟨ha, fun dx n1 n2 => q dx n1 n2⟩⟩
theorem scE_TooFine : FnScope ["self", "scale"] ["self", "scale"] (defScope (inClass (topS 4) 0)) := ⟨rfl, rfl, rfl, by decide +kernel, rfl, by decide +kernel, by decide +kernel⟩
theorem ok_err_TooFine {base : Heap} {C : Addr} {f : Addr} {fd : FuncData} (F : Fun K "__init__" "TooFine.__init__" (inClass (topS 4) 0) f fd) (T : OexC K C) (no : PySem.W.findIn K (.ref C) "scale" = some none) : FnOk P w K mg base CX0 1 f fd ["self", "scale"] (spErr C "scale") := by
  refine F.ok scE_TooFine (fun vs H Q E h => ?_) (fun cdv A outer s H vs Q E hr h => ?_)
  · obtain ⟨a, y, rfl, _⟩ := h
    rfl
  · obtain ⟨a, y, rfl, ha, q⟩ := h
    refine ⟨_, pss_one (ps_ost (pv 0) (pv 1)), ?_⟩
    exact ⟨_, rfl, _, rfl, a, C, rfl, T, no, .inl ⟨ha, fun dx n1 n2 => q dx n1 n2⟩⟩
theorem law_at {fa : Addr} (X : K.In h) (G : h.Ns mainGlobals mg) (hfa : mg "law" = some (.ref fa)) (c : He.SaysX faL fnL tsL [nmF, nmG] exL w h K) (cp : SaysP psL K) : LawAtS PySem.Challenge.rw_figurestay_k05_texts_of_worths w K CX0 19 63 "_law_script" mg fa h := by
  have d := c.t.d
  obtain ⟨oex_BadValue, y⟩ := He.ba c.more
  obtain ⟨xf_BadValue, y⟩ := He.ba y
  obtain ⟨oex_TooFine, y⟩ := He.ba y
  obtain ⟨xf_TooFine, y⟩ := He.ba y
  obtain ⟨tup_TENS, y⟩ := He.ba y
  obtain ⟨wis_Worth, y⟩ := He.ba y
  obtain ⟨sub_Worth, y⟩ := He.ba y
  obtain ⟨kitS, y⟩ := He.ba y
  obtain ⟨kitB, neT⟩ := He.ba y
  have te_BadValue := He.exm_ok (moreF d (f := .exm "BadValue" "BadValue" true) (List.mem_of_getElem? (i := 0) rfl))
  have mt_BadValue := He.meth_ok (moreF d (f := .meth "BadValue" "__init__") (List.mem_of_getElem? (i := 1) rfl))
  have no_BadValue := He.noat_ok (moreF d (f := .noat "BadValue" "value") (List.mem_of_getElem? (i := 2) rfl))
  obtain ⟨fd_BadValue, F0_BadValue⟩ := d.def_ 0 (d := dMk "BadValue" "__init__" 3 0 [] []) rfl
  have F_BadValue : Fun K "__init__" "BadValue.__init__" (inClass (topS 3) 0) _ fd_BadValue := fun_of F0_BadValue
  have b_BadValue := F_BadValue.binds (ps := ["self", "value"]) fun _ _ _ _ _ _ us hl => match us, hl with | [_, _], _ => rfl
  have te_TooFine := He.exm_ok (moreF d (f := .exm "TooFine" "TooFine" true) (List.mem_of_getElem? (i := 4) rfl))
  have mt_TooFine := He.meth_ok (moreF d (f := .meth "TooFine" "__init__") (List.mem_of_getElem? (i := 5) rfl))
  have no_TooFine := He.noat_ok (moreF d (f := .noat "TooFine" "scale") (List.mem_of_getElem? (i := 6) rfl))
  obtain ⟨fd_TooFine, F0_TooFine⟩ := d.def_ 1 (d := dMk "TooFine" "__init__" 4 0 [] []) rfl
  have F_TooFine : Fun K "__init__" "TooFine.__init__" (inClass (topS 4) 0) _ fd_TooFine := fun_of F0_TooFine
  have b_TooFine := F_TooFine.binds (ps := ["self", "scale"]) fun _ _ _ _ _ _ us hl => match us, hl with | [_, _], _ => rfl
  have cls_Worth := He.cls_ok (moreF d (f := .cls "Worth") (List.mem_of_getElem? (i := 8) rfl))
  have mk_Worth := He.mkr_ok (moreF d (f := .mkr "Worth") (List.mem_of_getElem? (i := 9) rfl))
  have no_Worth_units := He.noat_ok (moreF d (f := .noat "Worth" "units") (List.mem_of_getElem? (i := 10) rfl))
  have no_Worth_scale := He.noat_ok (moreF d (f := .noat "Worth" "scale") (List.mem_of_getElem? (i := 11) rfl))
  have no_Worth_floor := He.noat_ok (moreF d (f := .noat "Worth" "floor") (List.mem_of_getElem? (i := 12) rfl))
  have no_Worth_more := He.noat_ok (moreF d (f := .noat "Worth" "more") (List.mem_of_getElem? (i := 13) rfl))
  obtain ⟨fd_Worth, FI_Worth⟩ := d.def_ 2 (d := dMk "Worth" "__init__" 15 0 [.int 0] []) rfl
  have m_Worth_eq := He.meth_ok (moreF d (f := .meth "Worth" "__eq__") (List.mem_of_getElem? (i := 14) rfl))
  obtain ⟨fd_Worth_eq, F_Worth_eq⟩ := d.def_ 3 (d := dMk "Worth" "__eq__" 15 1 [] []) rfl
  have G_Worth_eq : Fun K "__eq__" "Worth.__eq__" (inClass (topS 15) 1) _ fd_Worth_eq := fun_of F_Worth_eq
  have b_Worth_eq := G_Worth_eq.binds (ps := ["self", "other"]) fun _ _ _ _ _ _ us hl => match us, hl with | [_, _], _ => rfl
  have m_Worth_units_at := He.meth_ok (moreF d (f := .meth "Worth" "units_at") (List.mem_of_getElem? (i := 15) rfl))
  obtain ⟨fd_Worth_units_at, F_Worth_units_at⟩ := d.def_ 4 (d := dMk "Worth" "units_at" 15 14 [] []) rfl
  have G_Worth_units_at : Fun K "units_at" "Worth.units_at" (inClass (topS 15) 14) _ fd_Worth_units_at := fun_of F_Worth_units_at
  have b_Worth_units_at := G_Worth_units_at.binds (ps := ["self", "scale"]) fun _ _ _ _ _ _ us hl => match us, hl with | [_, _], _ => rfl
  have m_Worth_text := He.meth_ok (moreF d (f := .meth "Worth" "text") (List.mem_of_getElem? (i := 16) rfl))
  obtain ⟨fd_Worth_text, F_Worth_text⟩ := d.def_ 5 (d := dMk "Worth" "text" 15 15 [] []) rfl
  have G_Worth_text : Fun K "text" "Worth.text" (inClass (topS 15) 15) _ fd_Worth_text := fun_of F_Worth_text
  have b_Worth_text := G_Worth_text.binds (ps := ["self", "scale"]) fun _ _ _ _ _ _ us hl => match us, hl with | [_, _], _ => rfl
  have m_Worth_str := He.meth_ok (moreF d (f := .meth "Worth" "__str__") (List.mem_of_getElem? (i := 17) rfl))
  obtain ⟨fd_Worth_str, F_Worth_str⟩ := d.def_ 6 (d := dMk "Worth" "__str__" 15 12 [] []) rfl
  have G_Worth_str : Fun K "__str__" "Worth.__str__" (inClass (topS 15) 12) _ fd_Worth_str := fun_of F_Worth_str
  have b_Worth_str := G_Worth_str.binds (ps := ["self"]) fun _ _ _ _ _ _ us hl => match us, hl with | [_], _ => rfl
  obtain ⟨fd_is_an_integer, F_is_an_integer⟩ := d.def_ 7 (d := dfn "is_an_integer" 7) rfl
  have A_is_an_integer : At K mg "is_an_integer" (topS 7) ["value"] := at_of F_is_an_integer (gloF X G d (by decide +kernel)) fun _ _ _ _ _ _ us hl => match us, hl with | [_], _ => rfl
  obtain ⟨fd_is_whole_number, F_is_whole_number⟩ := d.def_ 8 (d := dfn "is_whole_number" 8) rfl
  have A_is_whole_number : At K mg "is_whole_number" (topS 8) ["value"] := at_of F_is_whole_number (gloF X G d (by decide +kernel)) fun _ _ _ _ _ _ us hl => match us, hl with | [_], _ => rfl
  obtain ⟨fd_need_integer, F_need_integer⟩ := d.def_ 9 (d := dfn "need_integer" 9) rfl
  have A_need_integer : At K mg "need_integer" (topS 9) ["value"] := at_of F_need_integer (gloF X G d (by decide +kernel)) fun _ _ _ _ _ _ us hl => match us, hl with | [_], _ => rfl
  obtain ⟨fd_need_whole_number, F_need_whole_number⟩ := d.def_ 10 (d := dfn "need_whole_number" 10) rfl
  have A_need_whole_number : At K mg "need_whole_number" (topS 10) ["value"] := at_of F_need_whole_number (gloF X G d (by decide +kernel)) fun _ _ _ _ _ _ us hl => match us, hl with | [_], _ => rfl
  obtain ⟨fd_ten_to, F_ten_to⟩ := d.def_ 11 (d := dfn "ten_to" 11) rfl
  have A_ten_to : At K mg "ten_to" (topS 11) ["places"] := at_of F_ten_to (gloF X G d (by decide +kernel)) fun _ _ _ _ _ _ us hl => match us, hl with | [_], _ => rfl
  obtain ⟨fd_digits_of, F_digits_of⟩ := d.def_ 12 (d := dfn "digits_of" 12) rfl
  have A_digits_of : At K mg "digits_of" (topS 12) ["number"] := at_of F_digits_of (gloF X G d (by decide +kernel)) fun _ _ _ _ _ _ us hl => match us, hl with | [_], _ => rfl
  obtain ⟨fd_without_zeros, F_without_zeros⟩ := d.def_ 13 (d := dfn "without_zeros" 16) rfl
  have A_without_zeros : At K mg "without_zeros" (topS 16) ["units", "scale"] := at_of F_without_zeros (gloF X G d (by decide +kernel)) fun _ _ _ _ _ _ us hl => match us, hl with | [_, _], _ => rfl
  obtain ⟨fd_parted, F_parted⟩ := d.def_ 14 (d := dfn "parted" 17) rfl
  have A_parted : At K mg "parted" (topS 17) ["units", "scale"] := at_of F_parted (gloF X G d (by decide +kernel)) fun _ _ _ _ _ _ us hl => match us, hl with | [_, _], _ => rfl
  obtain ⟨fd_as_worth, F_as_worth⟩ := d.def_ 15 (d := dfn "as_worth" 18) rfl
  have A_as_worth : At K mg "as_worth" (topS 18) ["value"] := at_of F_as_worth (gloF X G d (by decide +kernel)) fun _ _ _ _ _ _ us hl => match us, hl with | [_], _ => rfl
  obtain ⟨fd_read_figures, F_read_figures⟩ := d.def_ 16 (d := dfn "read_figures" 19) rfl
  have A_read_figures : At K mg "read_figures" (topS 19) ["text"] := at_of F_read_figures (gloF X G d (by decide +kernel)) fun _ _ _ _ _ _ us hl => match us, hl with | [_], _ => rfl
  obtain ⟨fd_read_worth, F_read_worth⟩ := d.def_ 17 (d := dfn "read_worth" 20) rfl
  have A_read_worth : At K mg "read_worth" (topS 20) ["text"] := at_of F_read_worth (gloF X G d (by decide +kernel)) fun _ _ _ _ _ _ us hl => match us, hl with | [_], _ => rfl
  obtain ⟨fd__law_begin, F__law_begin⟩ := d.def_ 18 (d := dfn "_law_begin" 22) rfl
  have A__law_begin : At K mg "_law_begin" (topS 22) ["_law_script"] := at_of F__law_begin (gloF X G d (by decide +kernel)) fun _ _ _ _ _ _ us hl => match us, hl with | [_], _ => rfl
  obtain ⟨fd__law_draw, F__law_draw⟩ := d.def_ 19 (d := dfn "_law_draw" 23) rfl
  have A__law_draw : At K mg "_law_draw" (topS 23) ["_law_pen", "_law_span"] := at_of F__law_draw (gloF X G d (by decide +kernel)) fun _ _ _ _ _ _ us hl => match us, hl with | [_, _], _ => rfl
  obtain ⟨fd__law_pick, F__law_pick⟩ := d.def_ 20 (d := dfn "_law_pick" 24) rfl
  have A__law_pick : At K mg "_law_pick" (topS 24) ["_law_pen", "_law_some"] := at_of F__law_pick (gloF X G d (by decide +kernel)) fun _ _ _ _ _ _ us hl => match us, hl with | [_, _], _ => rfl
  obtain ⟨fd__law_ten, F__law_ten⟩ := d.def_ 21 (d := dfn "_law_ten" 25) rfl
  have A__law_ten : At K mg "_law_ten" (topS 25) ["_law_number"] := at_of F__law_ten (gloF X G d (by decide +kernel)) fun _ _ _ _ _ _ us hl => match us, hl with | [_], _ => rfl
  obtain ⟨fd__law_figures, F__law_figures⟩ := d.def_ 22 (d := dfn "_law_figures" 26) rfl
  have A__law_figures : At K mg "_law_figures" (topS 26) ["_law_pen", "_law_most"] := at_of F__law_figures (gloF X G d (by decide +kernel)) fun _ _ _ _ _ _ us hl => match us, hl with | [_, _], _ => rfl
  obtain ⟨fd__law_drawn, F__law_drawn⟩ := d.def_ 23 (d := dfn "_law_drawn" 27) rfl
  have A__law_drawn : At K mg "_law_drawn" (topS 27) ["_law_pen"] := at_of F__law_drawn (gloF X G d (by decide +kernel)) fun _ _ _ _ _ _ us hl => match us, hl with | [_], _ => rfl
  obtain ⟨fd__law_low, F__law_low⟩ := d.def_ 24 (d := dfn "_law_low" 28) rfl
  have A__law_low : At K mg "_law_low" (topS 28) ["_law_units", "_law_scale"] := at_of F__law_low (gloF X G d (by decide +kernel)) fun _ _ _ _ _ _ us hl => match us, hl with | [_, _], _ => rfl
  obtain ⟨fd__law_told, F__law_told⟩ := d.def_ 25 (d := dfn "_law_told" 29) rfl
  have A__law_told : At K mg "_law_told" (topS 29) ["_law_worth"] := at_of F__law_told (gloF X G d (by decide +kernel)) fun _ _ _ _ _ _ us hl => match us, hl with | [_], _ => rfl
  obtain ⟨fd__law_same, F__law_same⟩ := d.def_ 26 (d := dfn "_law_same" 30) rfl
  have A__law_same : At K mg "_law_same" (topS 30) ["_law_one", "_law_other"] := at_of F__law_same (gloF X G d (by decide +kernel)) fun _ _ _ _ _ _ us hl => match us, hl with | [_, _], _ => rfl
  obtain ⟨fd__law_refused, F__law_refused⟩ := d.def_ 27 (d := dfn "_law_refused" 31) rfl
  have A__law_refused : At K mg "_law_refused" (topS 31) ["_law_deed", "_law_value"] := at_of F__law_refused (gloF X G d (by decide +kernel)) fun _ _ _ _ _ _ us hl => match us, hl with | [_, _], _ => rfl
  obtain ⟨fd__law_written, F__law_written⟩ := d.def_ 28 (d := dfn "_law_written" 32) rfl
  have A__law_written : At K mg "_law_written" (topS 32) ["_law_units", "_law_scale"] := at_of F__law_written (gloF X G d (by decide +kernel)) fun _ _ _ _ _ _ us hl => match us, hl with | [_, _], _ => rfl
  obtain ⟨fd__law_read, F__law_read⟩ := d.def_ 29 (d := dfn "_law_read" 33) rfl
  have A__law_read : At K mg "_law_read" (topS 33) ["_law_text"] := at_of F__law_read (gloF X G d (by decide +kernel)) fun _ _ _ _ _ _ us hl => match us, hl with | [_], _ => rfl
  obtain ⟨fd__law_spoilt, F__law_spoilt⟩ := d.def_ 30 (d := dfn "_law_spoilt" 34) rfl
  have A__law_spoilt : At K mg "_law_spoilt" (topS 34) ["_law_pen", "_law_text"] := at_of F__law_spoilt (gloF X G d (by decide +kernel)) fun _ _ _ _ _ _ us hl => match us, hl with | [_, _], _ => rfl
  obtain ⟨fd__law_long, F__law_long⟩ := d.def_ 31 (d := dfn "_law_long" 35) rfl
  have A__law_long : At K mg "_law_long" (topS 35) ["_law_pen"] := at_of F__law_long (gloF X G d (by decide +kernel)) fun _ _ _ _ _ _ us hl => match us, hl with | [_], _ => rfl
  obtain ⟨fd__law_too_fine, F__law_too_fine⟩ := d.def_ 32 (d := dfn "_law_too_fine" 37) rfl
  have A__law_too_fine : At K mg "_law_too_fine" (topS 37) ["_law_deed"] := at_of F__law_too_fine (gloF X G d (by decide +kernel)) fun _ _ _ _ _ _ us hl => match us, hl with | [_], _ => rfl
  obtain ⟨fd__law_scales, F__law_scales⟩ := d.def_ 33 (d := dfn "_law_scales" 38) rfl
  have A__law_scales : At K mg "_law_scales" (topS 38) ["_law_worth", "_law_units", "_law_scale"] := at_of F__law_scales (gloF X G d (by decide +kernel)) fun _ _ _ _ _ _ us hl => match us, hl with | [_, _, _], _ => rfl
  obtain ⟨fdR, FR⟩ := d.def_ 34 (d := dfn "_law_asked" 36) rfl
  obtain ⟨fdL, FL⟩ := d.def_ 35 (d := dfn "law" 39) rfl
  have e := hfa.symm.trans (gloF X G d (x := "law") (by decide +kernel))
  cases e
  have FL' : Fun K "law" "law" sLaw _ fdL := fun_of FL
  have FR' : Fun K "_law_asked" "_law_asked" sAs _ fdR := fun_of FR
  have AR : AtC K mg "_law_asked" sAs ["_law_text"] (He.cT K nmF).1 := by
    have bR := FR'.binds (ps := ["_law_text"]) fun _ _ _ _ _ _ us hl => match us, hl with | [_], _ => rfl
    have gR := gloF X G d (x := "_law_asked") (by decide +kernel)
    have kR := FR'.kp
    obtain ⟨oc, od, kV, doc, pm, an, cdv, ct, osl, rfl, lk, hcd⟩ := FR'.ex
    obtain ⟨cc, rfl⟩ := He.codeIn_ref hcd
    have ec : He.codeOf K nmF = cc := He.codeOf_eq lk rfl
    refine ⟨_, oc, od, kV, doc, pm, an, ct, osl, ?_, ?_, gR, kR, ?_⟩
    · show K.lookup _ = some ⟨oc, od, .func (PySem.W.fnOf _ _ _ _ _ .none kV doc pm an (.ref (He.codeOf K nmF)) ct), osl⟩
      rw [ec]
      exact lk
    · show PySem.W.codeIn K (.ref (He.codeOf K nmF)) _ = true
      rw [ec]
      exact hcd
    · show Binds K (PySem.W.fnOf _ _ _ _ _ .none kV doc pm an (.ref (He.codeOf K nmF)) ct) _ []
      rw [ec]
      exact bR
  obtain ⟨oc, od, kV, doc, pm, an, cdv, ct, osl, rfl, lk, hcd⟩ := FL'.ex
  obtain ⟨cc, rfl⟩ := He.codeIn_ref hcd
  have ecG : He.codeOf K nmG = cc := He.codeOf_eq lk rfl
  have hL : ∀ (s : Shared) (u : Value), BindsTo s (PySem.W.fnOf "law" "law" (defArgs sLaw) (defBody sLaw) (defScope sLaw) .none kV doc pm an (.ref cc) ct) ⟨[u], []⟩ [("_law_script", u)] := fun s u => .of_eq rfl
  have i1 : nmF ∈ [nmF, nmG] := List.mem_cons_self ..
  have i2 : nmG ∈ [nmF, nmG] := List.mem_cons_of_mem _ (List.mem_singleton.mpr rfl)
  have j1 : He.cT K nmF ∈ [He.cT K nmF, He.cT K nmG] := List.mem_cons_self ..
  have j2 : He.cT K nmG ∈ [He.cT K nmF, He.cT K nmG] := List.mem_cons_of_mem _ (List.mem_singleton.mpr rfl)
  have two : ∀ {p : Addr × Addr}, p ∈ [He.cT K nmF, He.cT K nmG] → p = He.cT K nmF ∨ p = He.cT K nmG := fun hp => (List.mem_cons.mp hp).imp id List.mem_singleton.mp
  refine ⟨_, [He.cT K nmF, He.cT K nmG], spLaw K (He.cT K nmF).2 (He.cT K nmG).2, fun p hp => ?_, fun p hp => ?_, fun p hp => ?_, hL, fun H a ns hl _ hT hs => ⟨a, ns, rfl, hs, hl, fun p hp => ?_, fun _ => rfl⟩, fun base XB GB TBs => ?_⟩
  · rcases two hp with rfl | rfl
    · exact c.empty nmF i1
    · exact c.empty nmG i2
  · rcases two hp with rfl | rfl
    · exact c.out nmF i1
    · exact c.out nmG i2
  · rcases two hp with rfl | rfl
    · exact PySem.W.codeHd_of_K X (c.hd nmF i1)
    · exact PySem.W.codeHd_of_K X (c.hd nmG i2)
  · rcases (List.mem_cons.mp hp).imp id List.mem_singleton.mp with rfl | rfl
    · exact TabS.nil (hT (He.cT K nmF) j1)
    · exact TabS.nil (hT (He.cT K nmG) j2)
  · have TB := TBs (He.cT K nmF) j1
    have TB0 : TabB base mg (He.codeOf K nmG) (He.cT K nmG).2 := TBs (He.cT K nmG) j2
    rw [ecG] at TB0
    have TBg := TB0
    have B : Blt mg := { isi := freeF X G d (by decide +kernel), int := freeF X G d (by decide +kernel), bool := freeF X G d (by decide +kernel), len := freeF X G d (by decide +kernel), list := freeF X G d (by decide +kernel), range := freeF X G d (by decide +kernel), tuple := freeF X G d (by decide +kernel), all := freeF X G d (by decide +kernel), dm := freeF X G d (by decide +kernel), min := freeF X G d (by decide +kernel), max := freeF X G d (by decide +kernel), str := freeF X G d (by decide +kernel), abs := freeF X G d (by decide +kernel), dict := freeF X G d (by decide +kernel), any := freeF X G d (by decide +kernel) }
    have TE_BadValue : ErrC PySem.Challenge.rw_figurestay_k05_texts_of_worths.prog w K mg base "BadValue" "value" 1 (He.ga K "BadValue") (spErr (He.ga K "BadValue") "value") := ⟨gloF X G d (by decide +kernel), oexB_ok oex_BadValue, ⟨_, fd_BadValue, mt_BadValue.1, beq_iff_eq.mp mt_BadValue.fn, ok_err_BadValue F_BadValue (oexB_ok oex_BadValue) no_BadValue, b_BadValue⟩, L2.xfB_ok xf_BadValue, te_BadValue, no_BadValue⟩
    have TE_TooFine : ErrC PySem.Challenge.rw_figurestay_k05_texts_of_worths.prog w K mg base "TooFine" "scale" 1 (He.ga K "TooFine") (spErr (He.ga K "TooFine") "scale") := ⟨gloF X G d (by decide +kernel), oexB_ok oex_TooFine, ⟨_, fd_TooFine, mt_TooFine.1, beq_iff_eq.mp mt_TooFine.fn, ok_err_TooFine F_TooFine (oexB_ok oex_TooFine) no_TooFine, b_TooFine⟩, L2.xfB_ok xf_TooFine, te_TooFine, no_TooFine⟩
    have I_Worth : WIs K (He.ga K "Worth") := wis_ok wis_Worth
    have sL_Worth : ∀ T ∈ tys, PySem.W.subIn K (.type T) (.ref (He.ga K "Worth")) = some false := fun T hT => of_decide_eq_true (List.all_eq_true.mp sub_Worth T hT)
    have T : WorthC K mg (He.ga K "Worth") := ⟨(gloF X G d (by decide +kernel)), cls_Worth, no_Worth_units, no_Worth_scale, no_Worth_floor, no_Worth_more⟩
    have FW' : FunD K "__init__" "Worth.__init__" (defArgs (wI 0)) (defBody (wI 0)) (defScope (wI 0)) [V.int 0] [] _ fd_Worth := FI_Worth
    have bW1 : ∃ ds, Vals [V.int 0] ds ∧ Binds K fd_Worth ["self", "units", "scale"] ds := FW'.binds1 2 0 (by simp) rfl fun T kV doc pm an cdv ct us its hu hi => match us, its, hu, hi with | [_, _], [_], _, _ => ⟨_, rfl, rfl⟩
    have bW0 : Binds K fd_Worth ["self", "units", "scale"] [] := by
      obtain ⟨ds, rd, b⟩ := FW'.binds1 (ps := ["self", "units", "scale"]) 3 1 (by simp) rfl fun T kV doc pm an cdv ct us its hu hi => match us, its, hu, hi with | [_, _, _], [_], _, _ => ⟨_, rfl, rfl⟩
      have e : ds = [] := by cases rd; rfl
      rw [e] at b
      exact b
    have tens : ∀ H : Hp, SqT K H (He.ga K "TENS") (tensL.map V.int) := fun H => by
      have z := He.tupB_ok tup_TENS H
      rw [List.map_map] at z
      exact z
    have D1 := ok_isInt (P := PySem.Challenge.rw_figurestay_k05_texts_of_worths.prog) (w := w) (base := base) A_is_an_integer B
    have D2 := ok_isWh A_is_whole_number D1
    have D3 := ok_nInt A_need_integer TE_BadValue D1
    have D4 := ok_nWh A_need_whole_number TE_BadValue D2
    have D5 := ok_tenTo (P := PySem.Challenge.rw_figurestay_k05_texts_of_worths.prog) (w := w) (base := base) A_ten_to B (gloF X G d (by decide +kernel)) tens 8 (by decide)
    have D6 := ok_wz A_without_zeros D5
    have Ddg := ok_dig (P := PySem.Challenge.rw_figurestay_k05_texts_of_worths.prog) (w := w) (base := base) A_digits_of B
    have Dpt := ok_part A_parted B D5 Ddg
    have M : WMk PySem.Challenge.rw_figurestay_k05_texts_of_worths.prog w K mg base (He.ga K "BadValue") (He.ga K "Worth") := ⟨_, fd_Worth, mk_Worth, ok_wI FW' T D3 D4 D6 Dpt, bW0, bW1⟩
    have kS : PySem.W.kitOne K (.ref (He.ga K "Worth")) (.type "str") = some false := of_decide_eq_true kitS
    have kB : PySem.W.kitOne K (.ref (He.ga K "Worth")) (.type "bool") = some false := of_decide_eq_true kitB
    have gL : ∃ u, mg "LONGEST_TEXT" = some u ∧ RelV (.int 400) u := by
      obtain ⟨t, e⟩ := He.int_ok X G (x := "LONGEST_TEXT") (i := 400) (moreF d (f := .int "LONGEST_TEXT" 400) (List.mem_of_getElem? (i := 18) rfl))
      exact ⟨_, e, t, rfl⟩
    have nP : (He.cT K nmF).2 ≠ (He.cT K nmG).2 := of_decide_eq_true neT
    have U3 : WMeth PySem.Challenge.rw_figurestay_k05_texts_of_worths.prog w K mg base (He.ga K "Worth") "units_at" 10 ["self", "scale"] (spU3 (He.ga K "BadValue") (He.ga K "TooFine") (He.ga K "Worth")) := ⟨_, fd_Worth_units_at, m_Worth_units_at, ok_u3 G_Worth_units_at T TE_TooFine D4 D5, b_Worth_units_at⟩
    have XT : WMeth PySem.Challenge.rw_figurestay_k05_texts_of_worths.prog w K mg base (He.ga K "Worth") "text" 11 ["self", "scale"] (spTx (He.ga K "BadValue") (He.ga K "TooFine") (He.ga K "Worth")) := ⟨_, fd_Worth_text, m_Worth_text, ok_tx G_Worth_text B T U3 Ddg, b_Worth_text⟩
    have ST : WMeth PySem.Challenge.rw_figurestay_k05_texts_of_worths.prog w K mg base (He.ga K "Worth") "__str__" 12 ["self"] (spSt (He.ga K "Worth")) := ⟨_, fd_Worth_str, m_Worth_str, ok_st G_Worth_str B T XT, b_Worth_str⟩
    have WE : WEq5 PySem.Challenge.rw_figurestay_k05_texts_of_worths.prog w K mg base (He.ga K "Worth") _ fd_Worth_eq := ⟨m_Worth_eq.1, m_Worth_eq.fn, ok_eq G_Worth_eq B T I_Worth, b_Worth_eq, sL_Worth⟩
    have Rf := ok_rf A_read_figures B T I_Worth kS gL M TE_BadValue XT
    have Rw := ok_rw A_read_worth T M Rf
    have L0 := ok_begin (P := PySem.Challenge.rw_figurestay_k05_texts_of_worths.prog) (w := w) (base := base) A__law_begin B
    have L1 := ok_draw' (P := PySem.Challenge.rw_figurestay_k05_texts_of_worths.prog) (w := w) (base := base) A__law_draw B
    have L2 := ok_pick A__law_pick B L1
    have L4 := ok_ten (P := PySem.Challenge.rw_figurestay_k05_texts_of_worths.prog) (w := w) (base := base) A__law_ten B
    have L3 := ok_figs A__law_figures B L1 L4
    have L5 := ok_drawn A__law_drawn L1 L2 L3
    have L6 := ok_low A__law_low B L4
    have L7 := ok_told (P := PySem.Challenge.rw_figurestay_k05_texts_of_worths.prog) (w := w) (base := base) A__law_told B T I_Worth
    have Wn := ok_wn (P := PySem.Challenge.rw_figurestay_k05_texts_of_worths.prog) (w := w) (base := base) A__law_written B
    have Rd := ok_read (P := PySem.Challenge.rw_figurestay_k05_texts_of_worths.prog) (w := w) (base := base) A__law_read B
    have Sp := ok_sp A__law_spoilt B L1 L2
    have Lg := ok_lg A__law_long B L1 L2
    have Sm := ok_same5 A__law_same B T I_Worth kB WE
    have Rr := ld_refd5 A__law_refused TE_BadValue Sm
    have Tf := ld_tf A__law_too_fine TE_TooFine
    have As := ok_as (qL := R.qL) AR TB nP B Rf Rw Rr Rd Sm L7 L6
    have Sc := ok_sc A__law_scales B T U3 XT Wn As
    exact R.ok_law lk hcd TBg nP B T U3 XT Rf Rw ST M L0 L1 L2 L4 L5 L6 Wn Sp Lg As Sc Rr Tf
end
end K05
open PySem PySem.W PySem.Calls PyProof.Rows
theorem PySem.Challenge.cw_figurestay_k05_texts_of_worths_holds : PySem.Challenge.rw_figurestay_k05_texts_of_worths.Holds := by
  w_on; o_law
  refine HandSHeadRun.head_any (r := OpenLaw.row PySem.Challenge.rw_figurestay_k05_texts_of_worths) (q := view (OpenLaw.row PySem.Challenge.rw_figurestay_k05_texts_of_worths).prog [39]) (H := K05.hkL) (ob := K05.obL) (M := 12000) (loose := K05.looseL)
    (d := HandSHeadRun.topDef (OpenLaw.row PySem.Challenge.rw_figurestay_k05_texts_of_worths).prog 39) (kwd := []) K05.obL_eq
    (by kernel_rfl) (fun s => by kernel_rfl) K05.runL (by kernel_rfl) (by kernel_rfl) (by kernel_rfl) (by rfl) (by first | assumption | decide +kernel) (by decide +kernel) ⟨rfl, rfl, rfl, rfl, rfl, by decide +kernel⟩ ?hw ?hc
  case hw => w_witness2
  case hc =>
    refine LamX.walk_ofTsE (l := PySem.Challenge.rw_figurestay_k05_texts_of_worths) (n := 63) (k := 19) (x := "_law_script") (CX := fun _ => L2.CX0) rfl (by decide) (by kernel_rfl) ⟨rfl, by decide, by decide⟩ ?F (fun _ _ _ _ _ z => z)
    intro w mg fa h Y G hmg0
    obtain ⟨K, KX, c, cp⟩ := Y
    have hmg : mg ("law" : PySem.Str) = some (.ref fa) := by
      have e : (HandSHeadRun.topDef (OpenLaw.row PySem.Challenge.rw_figurestay_k05_texts_of_worths).prog 39).name = ("law" : PySem.Str) := by kernel_rfl
      rw [← e]
      exact hmg0
    exact ⟨K, KX, K05.law_at KX G hmg c cp⟩
