import PyProof.Rows.All
import Wide.All
import OpenK.AllK
import Wide.FinOn
import HandS.ForMost
import HandS.ForExc
import HandS.Wide
import HandS.WideBits
import HandS.IsInst
import HandS.ExcInit
import HandS.ExcField
import HandS.Nested
import HandS.Deep
import HandS.More
import HandS.Codes
import HandS.Lambda
import KE.KDflt
import KE.IntTextLaws
import HandS.ExcOwn
import HandS.WordsExc
import KE.KStateDown
import HandS.Head0
import HandS.Head1
import HandS.Head2
import HandS.HeadEnd
import HandS.HeadHook1
import HandS.HeadHook2
import HandS.HeadHook3
import HandS.HeadHook4
import HandS.HeadWalk
import KE.KOpsOwn
import HandS.OwnEq
import PyProof.Rows.RuleN_abs
import PyProof.InstNe
import HandS.ExcIs
import KE.KExcIs
import PyProof.NeKinds
import HandS.TryMany
import HandS.Conv
import PyProof.ListRange
import PyProof.LongRange
import HandS.Small
import PySem.Challenge.RW_figurestay_k25_whole_least_whole_figures
import HandS.Property
import Wide.Once
import HandS.Style
import HandS.DictComp
import HandS.DictTup
import HandS.Iter
import HandS.Walk
import KE.GoesEnum
import HandS.SortKw
import KE.DataMinKey
import PyProof.SeqI3
import KE.SortKeyHeap
import HandS.Comp
import HandS.SortInts
set_option Elab.async false
set_option linter.all false
set_option maxRecDepth 100000
set_option maxHeartbeats 4000000
/-! own layer, of no law: OWN -/
namespace Own
open PySem PySem.Spec PyProof.Rows L2
/-! ### heaps -/
/-- all but what stands at d is as it was -/
def Keep (d : Addr) (H H' : Hp) : Prop := ∀ b o, b ≠ d → H b = some o → H' b = some o
theorem Keep.refl {d : Addr} {H : Hp} : Keep d H H := fun _ _ _ e => e
theorem Keep.trans {d : Addr} {H H1 H2 : Hp} (a : Keep d H H1) (b : Keep d H1 H2) : Keep d H H2 := fun c o n e => b c o n (a c o n e)
theorem Keep.new {d p : Addr} {o : HO} {H : Hp} (h : H p = none) : Keep d H (upd H p o) := fun b u _ e => by
  rw [upd_ne (ne_of_none e h)]
  exact e
theorem Keep.at {d : Addr} {o : HO} {H : Hp} : Keep d H (upd H d o) := fun b u n e => by
  rw [upd_ne n]
  exact e
theorem Keep.same {d : Addr} {H H' : Hp} (s : Same H H') : Keep d H H' := fun b u _ e => s b u e
theorem same_new {H : Hp} {p : Addr} {o : HO} (h : H p = none) : Same H (upd H p o) := fun b u e => by
  rw [upd_ne (ne_of_none e h)]
  exact e
theorem ne_txt : ¬ (("cells" : Str) = "count") ∧ ¬ (("cells" : Str) = "left") ∧ ¬ (("count" : Str) = "left") ∧ ¬ (("count" : Str) = "cells") ∧ ¬ (("left" : Str) = "cells") ∧ ¬ (("left" : Str) = "count") := by decide +kernel
/-- what the pen's dict holds -/
def penK (p : Addr) (c l : Int) : List (Key × V) := [(Sum.inr "cells", V.ref p), (Sum.inr "count", V.int c), (Sum.inr "left", V.int l)]
theorem pen_cells (p : Addr) (c l : Int) : valV (penK p c l) (Sum.inr "cells" : Key) = some (.ref p) := valV_pos rfl
theorem pen_count (p : Addr) (c l : Int) : valV (penK p c l) (Sum.inr "count" : Key) = some (.int c) := by
  unfold penK
  rw [valV_neg (fun e => ne_txt.1 (Sum.inr.inj e)), valV_pos rfl]
theorem pen_left (p : Addr) (c l : Int) : valV (penK p c l) (Sum.inr "left" : Key) = some (.int l) := by
  unfold penK
  rw [valV_neg (fun e => ne_txt.2.1 (Sum.inr.inj e)), valV_neg (fun e => ne_txt.2.2.1 (Sum.inr.inj e)), valV_pos rfl]
theorem key_dec {a b : Str} (h : ¬ a = b) : decide ((Sum.inr a : Key) = Sum.inr b) = false := decide_eq_false fun e => h (Sum.inr.inj e)
theorem put_count (p : Addr) (c l c' : Int) : putK (penK p c l) (Sum.inr "count" : Key) (.int c') = penK p c' l := by
  unfold penK putK
  simp [key_dec ne_txt.1, key_dec ne_txt.2.2.1, key_dec ne_txt.2.2.2.2.2, ne_txt]
theorem put_left (p : Addr) (c l l' : Int) : putK (penK p c l) (Sum.inr "left" : Key) (.int l') = penK p c l' := by
  unfold penK putK
  simp [key_dec ne_txt.2.1, key_dec ne_txt.2.2.1, ne_txt]
/-- the pen stands at d: at most B draws were begun -/
structure Pen (H : Hp) (d : Addr) (B : Int) : Prop where
  ex : ∃ (p : Addr) (ns : List Int) (c l : Int), H d = some (.dK (penK p c l)) ∧ H p = some (.lst (ns.map V.int)) ∧ ns.length ≤ 63 ∧ 0 ≤ c ∧ c ≤ B
theorem Pen.mono {H : Hp} {d : Addr} {B B' : Int} (h : Pen H d B) (z : B ≤ B') : Pen H d B' := by
  obtain ⟨p, ns, c, l, a, b, e, f, g⟩ := h.ex
  exact ⟨p, ns, c, l, a, b, e, f, by omega⟩
theorem Pen.same {H H' : Hp} {d : Addr} {B : Int} (h : Pen H d B) (s : Same H H') : Pen H' d B := by
  obtain ⟨p, ns, c, l, a, b, e, f, g⟩ := h.ex
  exact ⟨p, ns, c, l, s _ _ a, s _ _ b, e, f, g⟩
end Own

/-! from L06 -/
namespace Own
open PySem PySem.Spec PyProof.Rows L2 LamX NdefX
/-- the integers that stand as defaults -/
def dInts : List Expr → List Int
  | .Constant (.int i) _ _ :: r => i :: dInts r
  | _ => []
/-- the tuple of defaults -/
def DfV (H : Hp) (dV : Value) (ds : List Int) : Prop := (ds = [] ∧ dV = .none) ∨ (ds ≠ [] ∧ ∃ T : Addr, dV = .ref T ∧ H T = some (.tup (ds.map V.int)))
def DfIn (h : Heap) (dV : Value) (us : List Value) : Prop := (us = [] ∧ dV = .none) ∨ (us ≠ [] ∧ ∃ T : Addr, dV = .ref T ∧ IsTup h T us.toArray)
/-- a lambda's words in F (its body apart), its defaults dV -/
abbrev lamFd (F : NF) (b : Expr) (dV doc pm ctv : Value) : FuncData := PySem.W.kdv_fn F.name F.qual F.params (.expr b) F.scope F.cl dV doc pm (.ref F.c) ctv
def LamO (f : Addr) (F : NF) (b : Expr) (dV : Value) : HO := .ext fun h => ∃ doc pm ctv : Value, h.get? f = some ({ cls := .type "function", data := .func (lamFd F b dV doc pm ctv) } : Obj)
/-- at f stands the lambda F, whose body is b -/
def LamAt (H : Hp) (f : Addr) (F : NF) (b : Expr) : Prop := ∃ dV : Value, H f = some (LamO f F b dV) ∧ DfV H dV (dInts F.params.defaults)
theorem lamO_ne {f : Addr} {F : NF} {b : Expr} {dV : Value} (ps : Array Value) : LamO f F b dV ≠ .tbl ps := fun z => by
  unfold LamO at z
  cases z
theorem LamAt.ext {H H' : Hp} {f : Addr} {F : NF} {b : Expr} (h : LamAt H f F b) (e : ExtN H H') : LamAt H' f F b := by
  obtain ⟨dV, h1, h2⟩ := h
  refine ⟨dV, e _ _ h1 lamO_ne, ?_⟩
  rcases h2 with z | ⟨n, T, z, q⟩
  · exact .inl z
  · exact .inr ⟨n, T, z, e _ _ q fun ps z => by cases z⟩
theorem lamO_at {P : Program} {w : World} {H : Hp} {h : Heap} {f : Addr} {F : NF} {b : Expr} (hok : HOk P w H h) (e : LamAt H f F b) :
    ∃ dV doc pm ctv : Value, h.get? f = some ({ cls := .type "function", data := .func (lamFd F b dV doc pm ctv) } : Obj) ∧ ∃ us : List Value, Vals ((dInts F.params.defaults).map V.int) us ∧ DfIn h dV us := by
  obtain ⟨dV, h1, h2⟩ := e
  obtain ⟨doc, pm, ctv, z⟩ := (hok f _ h1).1
  refine ⟨dV, doc, pm, ctv, z, ?_⟩
  rcases h2 with ⟨n, z⟩ | ⟨n, T, z, q⟩
  · rw [n]
    exact ⟨[], .nil, .inl ⟨rfl, z⟩⟩
  · obtain ⟨_, its, r, p⟩ := hok T _ q
    refine ⟨its, r, .inr ⟨fun z => ?_, T, z, p⟩⟩
    rw [z] at r
    cases hd : dInts F.params.defaults with
    | nil => exact n hd
    | cons a l =>
      rw [hd] at r
      cases r
section
variable {X : Cx} {pins : List (Addr × Obj)} {σ : L2.St} {H : Hp} {s : Shared}
theorem lam_laid {F : NF} {b : Expr} {dV doc pm ctv : Value} {t' : Nat} (I : Inv X pins σ H s) :
    Inv X pins σ (upd H s.heap.objs.size (LamO s.heap.objs.size F b dV)) { s with heap := s.heap.push ({ cls := .type "function", data := .func (lamFd F b dV doc pm ctv) } : Obj), toks := t' } := by
  have e : (s.heap.push ({ cls := .type "function", data := .func (lamFd F b dV doc pm ctv) } : Obj)).get? s.heap.objs.size = some ({ cls := .type "function", data := .func (lamFd F b dV doc pm ctv) } : Obj) := Heap.get?_push_size _ rfl
  exact I.laid (fun _ _ z => Heap.get?_push_of_some _ z) (Nat.le_refl _) ⟨⟨doc, pm, ctv, e⟩, ⟨_, e⟩, fun _ _ ⟨d, p, c, z⟩ k => ⟨d, p, c, k _ z⟩⟩
/-- the words of the lambda that X makes: c' its code object -/
abbrev lamF (X : Cx) (params : Arguments) (scope : Scope) (c' : Addr) : NF := ⟨"<lambda>", X.env.qual ++ "<lambda>", params, [], scope, cloFrom X.env.cells scope.names [], c'⟩
/-- a lambda made, its defaults laid, and known from now on -/
theorem lam_tail {T : List (Addr × Str)} {c P : Addr} {params : Arguments} {body : Expr} {scope : Scope} {pos : Pos} {fl : Nat} {dV : Value} {E Q : Value → Shared → Prop} (I : Inv X pins σ H s) (TB : TabB X.base X.mg c P) (hcode : X.env.code = .ref c)
    (hm : (P, X.env.qual ++ "<lambda>") ∈ T) (hu : ∀ p ∈ T, p.1 = P → p.2 = X.env.qual ++ "<lambda>") (hT : Tabs T H) (hfree : ∀ y ∈ scope.names, y.2 = .free → ∃ c, X.env.cells.lookup y.1 = some c)
    (k : ∀ (f c' : Addr) (H1 : Hp) (s' : Shared), Inv X pins σ H1 s' → ExtN H H1 → Tabs T H1 → H f = none → H1 f = some (LamO f (lamF X params scope c') body dV) → H1 c' = some (CodeO c' (X.env.qual ++ "<lambda>")) → Q (.ref f) s') :
    wpAny (model X.prog X.w) X.A (makeTail "<lambda>" (X.env.qual ++ "<lambda>") params (.expr body) scope X.env dV .none none pos fl) Q E s := by
  have hTP := hT (P, X.env.qual ++ "<lambda>") hm
  obtain ⟨ps, hP, trip, among⟩ := hTP
  have oP : s.heap.get? P = some { cls := .none, data := .fields ps } := I.hok P _ hP
  have bl := TB.bm.keeps I.bk
  have gl := I.mod.glob.keeps I.bk
  have cd := TB.code.keeps I.bk
  rcases hc : codeAmong pos ps.toList with _ | cv
  · refine PySem.W.kdv_makeTail (closure_ok hfree) I.ok.glob gl hcode cd oP trip hc TB.gP bl ?_
    intro c' ctv doc h' tk hx hge hlt hrec htb
    obtain ⟨c0, oc, vs, t, hc0, hoc, hdc, hvc⟩ := hrec
    obtain rfl : c0 = c' := (Value.ref.inj hc0).symm
    have fresh : H c0 = none := I.hok.fresh hge
    have I1 := inv_table (t' := tk) (q := X.env.qual ++ "<lambda>") (h' := h') I hP (fun b o n e => hx b o n e) htb hge ⟨oc, vs, t, hoc, hdc, hvc⟩
    generalize eH1 : upd (upd H P (.tbl (ps ++ #[rawInt pos.line, rawInt pos.col, .ref c0]))) c0 (CodeO c0 (X.env.qual ++ "<lambda>")) = H1 at I1
    have at1 : H1 c0 = some (CodeO c0 (X.env.qual ++ "<lambda>")) := by rw [← eH1]; exact upd_same
    have ext1 : ExtN H H1 := fun b o e n => by
      have b1 : b ≠ c0 := ne_of_none e fresh
      have b2 : b ≠ P := fun z => n ps (Option.some.inj (e.symm.trans (z ▸ hP)))
      rw [← eH1, upd_ne b1, upd_ne b2]
      exact e
    have tabs1 : Tabs T H1 := fun p hp => by
      by_cases hb : p.1 = P
      · have hq := hu p hp hb
        rw [hq, hb]
        refine ⟨ps ++ #[rawInt pos.line, rawInt pos.col, .ref c0], ?_, ?_, fun p' cv hcv => ?_⟩
        · rw [← eH1, upd_ne (ne_of_none hP fresh), upd_same]
        · rw [Array.toList_append]
          exact PySem.TriplesOk_snoc _ _ _ _ trip
        · rw [Array.toList_append] at hcv
          rcases among_app _ trip hcv with z | z
          · obtain ⟨c1, a1, a2⟩ := among p' cv z
            exact ⟨c1, a1, ext1 _ _ a2 codeO_ne⟩
          · exact ⟨c0, z, at1⟩
      · obtain ⟨qs, a1, a2, a3⟩ := hT p hp
        refine ⟨qs, ?_, a2, fun p' cv hcv => ?_⟩
        · rw [← eH1, upd_ne (ne_of_none a1 fresh), upd_ne hb]
          exact a1
        · obtain ⟨c1, b1, b2⟩ := a3 p' cv hcv
          exact ⟨c1, b1, ext1 _ _ b2 codeO_ne⟩
    have nf1 : H1 h'.objs.size = none := I1.hok.fresh (Nat.le_refl _)
    have I2 := lam_laid (F := lamF X params scope c0) (b := body) (dV := dV) (doc := doc) (pm := (X.mg "__name__").getD .none) (ctv := ctv) (t' := tk) I1
    have up : ∀ b o, H1 b = some o → upd H1 h'.objs.size (LamO h'.objs.size (lamF X params scope c0) body dV) b = some o := fun b o e => (upd_ne (ne_of_none e nf1)).trans e
    exact k _ c0 _ _ I2 (ext1.trans (ExtN.of up)) (tabs1.ext up) (I.hok.fresh (Nat.le_trans hge (Nat.le_of_lt hlt))) upd_same (up _ _ at1)
  · obtain ⟨c', rfl, at0⟩ := among pos cv hc
    refine PySem.W.kdv_makeTailHit (closure_ok hfree) I.ok.glob gl hcode cd oP trip hc bl ?_
    intro ctv doc h' tk hx hsz
    have I1 : Inv X pins σ H { s with heap := h', toks := tk } := I.kept hx
    have nf1 : H h'.objs.size = none := I1.hok.fresh (Nat.le_refl _)
    have I2 := lam_laid (F := lamF X params scope c') (b := body) (dV := dV) (doc := doc) (pm := (X.mg "__name__").getD .none) (ctv := ctv) (t' := tk) I1
    have up : ∀ b o, H b = some o → upd H h'.objs.size (LamO h'.objs.size (lamF X params scope c') body dV) b = some o := fun b o e => (upd_ne (ne_of_none e nf1)).trans e
    exact k _ c' _ _ I2 (ExtN.of up) (hT.ext up) nf1 upd_same (up _ _ at0)
/-- the reading of a lambda as a value -/
def tLamV (X : Cx) (T : List (Addr × Str)) (params : Arguments) (body : Expr) (scope : Scope) : TE := fun _ H Q => Tabs T H ∧ ∀ (f c' : Addr) (H1 : Hp), ExtN H H1 → Tabs T H1 → H f = none →
  LamAt H1 f (lamF X params scope c') body → H1 c' = some (CodeO c' (X.env.qual ++ "<lambda>")) → Q (.ref f) H1
theorem pe_lamV {T : List (Addr × Str)} {c P : Addr} {params : Arguments} {body : Expr} {scope : Scope} {pos : Pos} (TB : TabB X.base X.mg c P) (hcode : X.env.code = .ref c) (hm : (P, X.env.qual ++ "<lambda>") ∈ T)
    (hu : ∀ p ∈ T, p.1 = P → p.2 = X.env.qual ++ "<lambda>") (hdef : params.defaults = []) (hkd : params.kw_defaults = []) (hfr : ∀ y ∈ scope.names, y.2 = .free → X.env.scope.names.lookup y.1 = some .cell ∨ X.env.scope.names.lookup y.1 = some .free) :
    PE X (.Lambda params body scope pos) (tLamV X T params body scope) := by
  refine ⟨fun pins s σ H Q I h => PySem.W.kla_eval ?_ ?_⟩
  · rw [defaultsOf_eq, hdef, hkd]
    rfl
  rw [makeFunction_eq]
  simp only [List.zip_nil_right, List.filterMap_nil, List.isEmpty_nil, if_true, pure_bind]
  refine lam_tail I TB hcode hm hu h.1 (fun y hy e => ?_) fun f c' H1 s' I1 e1 t1 n1 a1 b1 => ⟨.ref f, H1, I1, rfl, h.2 f c' H1 e1 t1 n1 ⟨.none, a1, .inl ⟨by show dInts params.defaults = []; rw [hdef] <;> rfl, rfl⟩⟩ b1⟩
  rcases hfr y hy e with z | z
  · exact I.ok.has _ (.inl z)
  · exact I.ok.has _ (.inr z)
/-- .. with one integer as default -/
theorem pe_lamV1 {T : List (Addr × Str)} {c P : Addr} {params : Arguments} {body : Expr} {scope : Scope} {pos p1 : Pos} {i : Int} {j : Nat} (TB : TabB X.base X.mg c P) (hcode : X.env.code = .ref c) (hm : (P, X.env.qual ++ "<lambda>") ∈ T)
    (hu : ∀ p ∈ T, p.1 = P → p.2 = X.env.qual ++ "<lambda>") (hdef : params.defaults = [.Constant (.int i) j p1]) (hkd : params.kw_defaults = []) (hfr : ∀ y ∈ scope.names, y.2 = .free → X.env.scope.names.lookup y.1 = some .cell ∨ X.env.scope.names.lookup y.1 = some .free) :
    PE X (.Lambda params body scope pos) (tLamV X T params body scope) := by
  refine ⟨fun pins s σ H Q I h => PySem.W.kdv_lam (by rw [hdef]; rfl) hkd ?_⟩
  rw [hdef]
  refine PySem.W.kdv_all1 (thn ((pe_int (X := X) (i := i) (j := j) (pos := p1)).run pins s σ H (fun v H1 => v = .int i ∧ H1 = H) I ⟨rfl, rfl⟩) ?_)
  rintro u s1 ⟨v, H1, I1, r1, rfl, rfl⟩
  refine PySem.W.kdv_all0 ?_
  rw [makeFunction_eq]
  simp only [List.zip_nil_right, List.filterMap_nil, List.isEmpty_nil, List.isEmpty_cons, if_true, pure_bind, Bool.false_eq_true, if_false]
  refine wpAny_bind (wpAny_newTextTuple ?_)
  have nT : H1 s1.heap.objs.size = none := I1.hok.fresh (Nat.le_refl _)
  have I2 : Inv X pins σ (upd H1 s1.heap.objs.size (.tup [.int i])) { s1 with heap := s1.heap.push { cls := .type "tuple", data := .seq [u].toArray } } :=
    I1.laid (t' := s1.toks) (fun _ _ z => Heap.get?_push_of_some _ z) (Nat.le_refl _) ⟨by show 1 ≤ sizeLine; decide, [u], .cons r1 .nil, IsTup.new s1.heap _⟩
  have up : ∀ b o, H1 b = some o → upd H1 s1.heap.objs.size (HO.tup [V.int i]) b = some o := fun b o e => (upd_ne (ne_of_none e nT)).trans e
  refine lam_tail I2 TB hcode hm hu (h.1.ext up) (fun y hy e => ?_) fun f c' H2 s' I3 e1 t1 n1 a1 b1 => ⟨.ref f, H2, I3, rfl, h.2 f c' H2 ((ExtN.of up).trans e1) t1 ?_ ⟨_, a1, .inr ⟨?_, _, rfl, ?_⟩⟩ b1⟩
  · rcases hfr y hy e with z | z
    · exact I.ok.has _ (.inl z)
    · exact I.ok.has _ (.inr z)
  · cases q : H1 f with
    | none => rfl
    | some o => exact (Option.some_ne_none _ ((up _ _ q).symm.trans n1)).elim
  · show dInts params.defaults ≠ []
    rw [hdef]
    simp [dInts]
  · show H2 s1.heap.objs.size = some (.tup ((dInts params.defaults).map V.int))
    rw [hdef]
    exact e1 _ _ upd_same fun ps z => by cases z
end
/-! ### what a lambda promises -/
structure LOk (P : Program) (w : World) (K : PySem.W.Frag) (mg : Str → Option Value) (base : Heap) (CX : CXT) (k : Nat) (f : Addr) (F : NF) (b : Expr) (fr : List Str) (sp : List (Option V) → Hp → VK → XK → Prop) : Prop where
  run : ∀ (A : Around) (outer : List Env) (s : Shared) (H : Hp) (ws : List (Option V)) (Q : VK) (E : XK), Room k A → Env0 P w K mg base A outer s H → LamAt H f F b → H F.c = some (CodeO F.c F.qual) →
    CellsAt F.cl fr ws s.heap H → sp ws H Q E → codeAny (model P w) A (.call (.ref f) ⟨[], []⟩) (CR CX outer P w H s Q E) s
section
variable {CX : CXT} {P : Program} {w : World} {K : PySem.W.Frag} {mg : Str → Option Value} {base : Heap} {N ps fr : List Str} {F : NF} {b : Expr} {f : Addr} {k : Nat} {sp : List (Option V) → Hp → VK → XK → Prop}
theorem lok_of (S : NScope N ps fr F.scope) (hl : (dInts F.params.defaults).length = ps.length)
    (hb : ∀ (dV doc pm ctv : Value) (s : Shared) (us : List Value), us.length = ps.length → DfIn s.heap dV us → BindsTo s (lamFd F b dV doc pm ctv) ⟨[], []⟩ (ps.zip us))
    (hbody : ∀ (A : Around) (outer : List Env) (s : Shared) (H : Hp) (ws : List (Option V)) (Q : VK) (E : XK), Room k (A.deeper (envF F f s.heap.objs.size)) → ws.length = fr.length → sp ws H Q E →
      ∃ t, PE (ncx CX P w K mg base N F f A outer s H E) b t ∧ t (startF N ((dInts F.params.defaults).map V.int) ws) H Q) : LOk P w K mg base CX (k + 1) f F b fr sp := by
  refine ⟨fun A outer s H ws Q E hr e0 hf hc C hsp => ?_⟩
  have lim : s.heap.NoLimit := e0.mod.nolimit.keeps fun b o e => (e0.bs b o e).1
  obtain ⟨dV, doc, pm, ctv, ho, us, rus, hd⟩ := lamO_at e0.hok hf
  have hlu : us.length = ps.length := by rw [← rus.length, List.length_map, hl]
  refine PySem.W.kla_callFunE hr.depth ho rfl S.co S.gen rfl (codeO_at e0.hok hc) ?_
  refine hb dV doc pm ctv s us hlu hd _ _ _ _ ?_
  refine wpAny_newFunctionEnv S.nocell (fun ⟨n, v⟩ hy => S.par n (List.of_mem_zip hy).1) (fun h₁ hns hsb => ⟨lim.fresh _ hsb, ?_⟩) S.kind
  show codeAny _ _ (.expr b (envF F f s.heap.objs.size)) _ _
  obtain ⟨t, ht, hq⟩ := hbody A outer s H ws Q E (hr.deeper _) C.len hsp
  have old : ∀ b o, s.heap.get? b = some o → h₁.get? b = some o := fun b o e => hsb.extBut b o (Nat.ne_of_lt (Heap.lt_size e)) (Heap.get?_push_of_some _ e)
  have I := inv_startN (CX := CX) (N := N) (F := F) (f := f) (E := E) (us := us) (vs := (dInts F.params.defaults).map V.int) (tk := s.toks + (ps.zip us).length) S hr.hd e0 (by rw [List.length_map, hl]) rus C hns old
  refine PySem.W.kla_codeExpr (wpAny_mono (ht.run [] _ _ H Q I hq) (fun v s' q => ?_) fun e s' q => q)
  obtain ⟨x, H', J, rx, q⟩ := q
  exact ⟨x, H', J.os, J.bare, J.base, J.hok, rx, q⟩
end
end Own

/-! from M06 -/
namespace Own
open PySem PySem.Spec PyProof.Rows L2 LamX NdefX
section
variable {X : Cx} {pins : List (Addr × Obj)} {σ : L2.St} {H : Hp} {s : Shared} {cl : List (Str × Addr)} {fr : List Str} {ws : List (Option V)}
/-- what captured cells held at the entry they hold still -/
theorem cells_still (C : CellsAt cl fr ws X.s_0.heap X.H_0) (hx : ∀ b, b ∉ X.ex ∨ ∀ y, cl.lookup y ≠ some b) (I : Inv X pins σ H s) : CellsAt cl fr ws s.heap H := by
  have nx : ∀ {y c}, cl.lookup y = some c → c ∉ X.ex := fun {y c} e => (hx c).elim id fun z => absurd e (z y)
  have still : ∀ {y c v}, cl.lookup y = some c → X.s_0.heap.IsCell c v → s.heap.IsCell c v := fun {y c v} e ⟨o, ho, hd⟩ => by
    obtain ⟨sl, z⟩ := I.base.any ho (C.all y c e).1 (nx e)
    exact ⟨_, z, hd⟩
  constructor
  · exact C.len
  · intro y c e
    obtain ⟨n, v, z⟩ := C.all y c e
    obtain ⟨o, ho, _⟩ := id z
    exact ⟨I.base.free c o ho n (nx e), v, still e z⟩
  · exact C.inj
  · intro i y e
    obtain ⟨c, hc, hv⟩ := C.has i y e
    refine ⟨c, hc, fun v ev => ?_⟩
    obtain ⟨u, r, z⟩ := hv v ev
    exact ⟨u, r, still hc z⟩
/-- the call of a made lambda -/
theorem run_lam {CX : CXT} {k : Nat} {f : Addr} {F : NF} {b : Expr} {sp : List (Option V) → Hp → VK → XK → Prop} {Q : VK} {E : XK} (G : LOk X.prog X.w X.K X.mg X.base CX k f F b fr sp) (hr : Room k X.A) (hx : Passes CX X E) (I : Inv X pins σ H s)
    (hf : LamAt H f F b) (hc : H F.c = some (CodeO F.c F.qual)) (C : CellsAt F.cl fr ws s.heap H) (q : sp ws H Q E) : wpAny (model X.prog X.w) X.A (call (.ref f) []) (EP X pins σ Q) X.xe s := by
  refine wpAny_call (codeAny_mono (G.run _ _ _ _ _ _ _ hr I.env0 hf hc C q) fun r s' z => ?_)
  rcases r with e | fl
  · exact hx pins σ H s e s' I z
  · cases fl
    case ret u => exact I.after z
    all_goals exact False.elim z
/-- deed(), deed a name whose slot holds a lambda; what it captured is known at the entry of this very def -/
theorem pe_deed {CX : CXT} {k i : Nat} {f : Addr} {F : NF} {b : Expr} {sp : List (Option V) → Hp → VK → XK → Prop} {E : XK} {a : Str} {p1 p2 : Pos} (C : CellsAt F.cl fr ws X.s_0.heap X.H_0) (hex : X.ex = []) (G : LOk X.prog X.w X.K X.mg X.base CX k f F b fr sp) (hr : Room k X.A)
    (hx : Passes CX X E) (hN : X.N[i]? = some a) (hv : Vis X.env.scope a) (hd : (a == ("__debug__" : Str)) = false := by decide) (hcd : (a == ("__classdict__" : Str)) = false := by decide) :
    PE X (.Call (.Name a p1) [] [] p2) (fun σ H Q => σ[i]? = some (some (.ref f)) ∧ LamAt H f F b ∧ H F.c = some (CodeO F.c F.qual) ∧ sp ws H Q E) := by
  constructor
  intro pins s σ H Q I h
  obtain ⟨hs, hf, hc, q⟩ := h
  refine wpAny_Call_Name_kw (thn ((pe_var (pos := p1) hN hv hd hcd).run pins s σ H (fun v H1 => v = .ref f ∧ H1 = H) I ⟨.ref f, hs, rfl, rfl⟩) ?_)
  rintro u s1 ⟨v, H1, I1, r1, rfl, rfl⟩
  obtain rfl : u = Value.ref f := r1
  obtain ⟨dV, doc, pm, ctv, ho, _⟩ := lamO_at I1.hok hf
  refine PySem.W.callWith_F0 ⟨_, _, _, _, ho⟩ ?_
  exact run_lam G hr hx I1 hf hc (cells_still C (fun _ => .inl (by rw [hex]; simp)) I1) q
end
section
variable {X : Cx}
/-- a list comprehension's reading, the element's depending on the def's slots as the block begins -/
def tLcD (wi : TI) (g : TG) (te : L2.St → TE) (vs : List Nat) : TE := fun σ H Q => tLc wi g tYes (te σ) vs σ H Q
theorem pe_lcD {elt tg iter : Expr} {scope : Scope} {own : List (Str × Nat)} {pos : Pos} {wi : TI} {g : TG} {te : L2.St → TE} (hc : X.calm = true) (hN : X.N.Nodup) (hi : PI X tg iter wi) (ok : BlkOk X.N X.env.scope scope own)
    (hg : ∀ (s : Shared) (H : Hp) (C : Addr) (cl : List (Str × Addr)) (fp : List Addr), PG (X.blk s H scope (compEnvC scope cl C X.env) fp) tg g)
    (he : ∀ (pins : List (Addr × Obj)) (σ : L2.St) (s : Shared) (H : Hp) (C : Addr) (cl : List (Str × Addr)) (fp : List Addr), Inv X pins σ H s → (∀ b ∈ fp, FpOk X pins H b) → PE (X.blk s H scope (compEnvC scope cl C X.env) fp) elt (te σ))
    (hs : ∀ x, foldedSetIterable iter X.env x = pure x := by intro _; rfl) : PE X (.ListComp elt [⟨tg, iter, [], 0⟩] scope pos) (tLcD wi g te (own.map (·.2))) := by
  constructor
  intro pins s σ H Q I h
  have cap : ∀ y ∈ scope.names, y.2 = .free → ∃ c, X.env.cells.lookup y.1 = some c := fun y hy e => (ok.free y hy e).elim (fun z => I.ok.has _ (.inl z)) (fun z => I.ok.has _ (.inr z))
  rw [eval_ListComp]
  refine wpAny_comprehension_free (use := none) rfl hs (closure_ok cap) ok.kind (fun y hy e => (ok.uniq y hy).trans (congrArg some e)) ?_
  refine thn (hi.run pins s σ H _ I h) fun itr sA hA => thn hA fun _ sB hB => ?_
  obtain ⟨it, fp, tn, J, HB, rfl, IB, T, tB, fB, q⟩ := hB
  have nD : HB sB.heap.objs.size = none := IB.hok.fresh (Nat.le_refl _)
  obtain ⟨W, ⟨m0, w0⟩, turn⟩ := q _ nD
  refine wpAny_newObj_type (newEnv_comp ?_) (by show 0 ≤ sizeLine; decide)
  have inSz : ∀ b ∈ fp, b < sB.heap.objs.size := fun b hb => (T.obj _ _ tB b hb).elim fun _ z => Heap.lt_size z.1
  -- the new list stands
  generalize hsC : ({ sB with heap := sB.heap.push { cls := .type "list", data := .seq ([] : List Value).toArray } } : Shared) = sC
  have heapC : sC.heap = sB.heap.push { cls := .type "list", data := .seq ([] : List Value).toArray } := by subst hsC; rfl
  have toC : ∀ b o, sB.heap.get? b = some o → sC.heap.get? b = some o := fun b o z => by rw [heapC]; exact Heap.get?_push_of_some _ z
  generalize hD : sB.heap.objs.size = D at nD w0 turn inSz
  have IC : Inv X pins σ (upd HB D (.lst [])) sC := by
    have z := IB.laid (a := D) (o := .lst []) (t' := sB.toks) (h' := sC.heap) toC (Nat.le_of_eq hD) ⟨Nat.zero_le _, [], 0, .nil, by rw [heapC, ← hD]; exact Heap.get?_push_size _ rfl⟩
    subst hsC
    exact z
  generalize hHC : upd HB D (.lst []) = HC at IC w0
  have fC : ∀ b ∈ fp, FpOk X pins HC b ∧ b < sC.heap.objs.size := fun b hb => by
    have lt := inSz b hb
    refine ⟨⟨?_, (fB b hb).2⟩, ?_⟩
    · rw [← hHC, upd_ne (Nat.ne_of_lt lt)]
      exact (fB b hb).1
    · rw [heapC, Heap.size_push, hD]
      exact Nat.lt_succ_of_lt lt
  have tC : tn 0 sC.heap := T.keep _ _ _ tB fun b _ o z => toC b o z
  have blk := block_start IC ok hN fC
  generalize hcl : cellsFrom (sC.heap.objs.size + 1) scope.names (cloFrom X.env.cells scope.names []) = cells at blk ⊢
  have hgB := hg sC HC sC.heap.objs.size cells fp
  have heB := he pins σ sC HC sC.heap.objs.size cells fp IC (fun b hb => (fC b hb).1)
  have htB : PTs (X.blk sC HC scope (compEnvC scope cells sC.heap.objs.size X.env) fp) [] tYes := pts_nil
  show codeAny _ _ (.compStart (.ListComp elt [⟨tg, iter, [], 0⟩] scope pos) 0 (.ref it) (.ref D) (compEnvC scope cells sC.heap.objs.size X.env)) (compPost (model X.prog X.w) X.A X.xe none (EP X pins σ Q) (.ref D) sC.heap.objs.size) { sC with heap := pushCells (sC.heap.push { cls := .type "dict", data := .dict #[] }) scope.names }
  generalize hce : compEnvC scope cells sC.heap.objs.size X.env = ce at blk hgB heB htB ⊢
  have ceL : ce.locals = sC.heap.objs.size := by rw [← hce]; rfl
  generalize hsE : ({ sC with heap := pushCells (sC.heap.push { cls := .type "dict", data := .dict #[] }) scope.names } : Shared) = sE at blk ⊢
  have tE : tn 0 sE.heap := T.keep _ _ _ tC fun b _ o z => by rw [← hsE]; exact pushCells_keeps _ _ _ _ (Heap.get?_push_of_some _ z)
  -- the iterator's objects as the block sees them
  have seen : ∀ {σ' : L2.St} {H' : Hp} {s' : Shared}, Inv (X.blk sC HC scope ce fp) [] σ' H' s' → (∀ b ∈ fp, H' b = none) → ∀ b ∈ fp, FpOk (X.blk sC HC scope ce fp) [] H' b := fun {σ' H' s'} J' n b hb => by
    have z1 := J'.ok.exf b hb
    exact ⟨n b hb, z1.1, J'.ok.exfs b hb, .inl hb, z1.2, fun p hp => absurd (show p ∈ ([] : List (Addr × Obj)) ++ [] from hp) (by simp)⟩
  have whole : codeAny (model X.prog X.w) X.A (.compLoop (.ListComp elt [⟨tg, iter, [], 0⟩] scope pos) 0 (.ref it) (.ref D) ce) (compPost (model X.prog X.w) X.A X.xe none (EP X pins σ Q) (.ref D) sC.heap.objs.size) sE := by
    refine compLoop_any (fun n s' => ∃ (i : Nat) (H' : Hp), W i n H' ∧ (∀ b ∈ fp, H' b = none) ∧ tn i s'.heap ∧ Inv (X.blk sC HC scope ce fp) [] (wipe σ (own.map (·.2))) H' s') ?_ m0 ⟨0, HC, w0, fun b hb => (fC b hb).1.1, tE, blk⟩
    rintro n sF ⟨i, HF, wF, nF, tF, IF⟩
    rcases turn i n HF wF with ⟨hstop, hq⟩ | ⟨hgo, Nx, hNx, step⟩
    · have fin := T.done (X.blk sC HC scope ce fp) rfl rfl rfl hc i [] sF _ HF (fun _ _ => False) IF (seen IF nF) tF hstop
      refine thnF fin ?_
      rintro _ sG ⟨rfl, IG⟩
      have IX : Inv X pins σ HF sG := IC.call' (ch := fp) IG.os IG.base IG.hok IG.bare fun b hb => by
        obtain ⟨⟨_, a1, a2, a3, a4, a5⟩, _⟩ := fC b hb
        exact ⟨a3, a1, a4, a5⟩
      have free : HF sC.heap.objs.size = none := by
        have z : HF ce.locals = none := IG.free
        rw [← ceL]
        exact z
      obtain ⟨m, hn, _⟩ := IG.loc
      have hn : sG.heap.Ns ce.locals m := hn
      rw [ceL] at hn
      obtain ⟨f0, f1, f2, f3, f4, f5⟩ := IC.fpOk (H' := HF) (Nat.le_refl _) free
      exact ⟨m, hn, fun h2 sb => ⟨.ref D, HF, IX.turned (t' := sG.toks) (fun b o hb e => (sb.2 b hb).trans e) f0 f1 f3 f4 f5, rfl, hq⟩⟩
    · have nxt := T.item (X.blk sC HC scope ce fp) rfl rfl rfl hc i [] sF _ HF (fun _ _ => False) IF (seen IF nF) tF hgo
      refine thnF nxt ?_
      rintro _ sG ⟨u, rfl, hG⟩
      refine thnF hG ?_
      rintro _ sI ⟨x, HI, II, rI, yI, tI, nI⟩
      have pinned := II.pinned (seen II nI) (T.obj _ _ tI)
      refine thnF (hgB.run _ sI _ HI x u _ pinned rI (step x HI yI)) ?_
      rintro _ sJ ⟨σJ, HJ, IJ, hwJ, qJ⟩
      refine thnF (htB.run _ sJ σJ HJ _ IJ qJ) ?_
      rintro b sK ⟨HK, IK, qK⟩
      have again : ∀ {s' : Shared} {H' : Hp}, Inv (X.blk sC HC scope ce fp) ([] ++ pinsAt fp sI.heap) σJ H' s' → Nx H' → ∃ m, m < n ∧ ∃ (i : Nat) (H' : Hp), W i m H' ∧ (∀ b ∈ fp, H' b = none) ∧ tn i s'.heap ∧ Inv (X.blk sC HC scope ce fp) [] (wipe σ (own.map (·.2))) H' s' := fun {s' H'} J' hx => by
        obtain ⟨m', lt, w'⟩ := hNx H' hx
        have pn : ∀ b ∈ fp, ∀ o, sI.heap.get? b = some o → s'.heap.get? b = some o ∧ H' b = none := fun b hb o z => by
          have y := J'.pin (b, o) (List.mem_append_right _ (List.mem_append_right _ (mem_pinsAt hb z)))
          exact ⟨y.1, y.2.1⟩
        refine ⟨m', lt, i + 1, H', w', fun b hb => ?_, T.keep _ _ _ tI fun b hb o z => (pn b hb o z).1, ?_⟩
        · obtain ⟨o, z, _⟩ := T.obj _ _ tI b hb
          exact (pn b hb o z).2
        · refine (J'.unpinned (pins := [])).weak (by rw [← hwJ, wipe_length]) fun j v z => ?_
          rw [← hwJ] at z
          exact (wipe_some z).1
      cases b
      case false =>
        simp only [Bool.false_eq_true, if_false] at qK ⊢
        exact again IK qK
      case true =>
        simp only [if_true] at qK ⊢
        refine thnF (heB.run _ sK σJ HK _ IK qK) ?_
        rintro z sL ⟨y, HL, IL, rL, acc, hacc, hlen, hnx⟩
        exact app_ok (X := X.blk sC HC scope ce fp) IL hacc hlen rL fun sM IM => again IM hnx
  exact codeAny_compStart_list whole (T.self X.A 0 _ _ _ tE whole)
end
end Own

/-! from N06 -/
namespace Own
open PySem PySem.Spec PyProof.Rows L2 LamX NdefX
/-- a def of the text as its callers know it -/
structure DefOk (P : Program) (w : World) (K : PySem.W.Frag) (mg : Str → Option Value) (base : Heap) (CX : CXT) (x : Str) (k : Nat) (ps : List Str) (sp : Sp) : Prop where
  ex : ∃ (f : Addr) (fd : FuncData), FnOk P w K mg base CX k f fd ps sp ∧ mg x = some (.ref f) ∧ PySem.W.keepIn K (.ref f) = true ∧ Binds K fd ps []
/-- .. as the top has left it -/
structure At (K : PySem.W.Frag) (mg : Str → Option Value) (x : Str) (st : Stmt) (ps : List Str) : Prop where
  ex : ∃ (f : Addr) (fd : FuncData), Fun K x x st f fd ∧ mg x = some (.ref f) ∧ Binds K fd ps []
theorem At.ok {P : Program} {w : World} {K : PySem.W.Frag} {mg : Str → Option Value} {base : Heap} {CX : CXT} {x : Str} {st : Stmt} {k : Nat} {ps : List Str} {sp : Sp} (a : At K mg x st ps) (h : ∀ (f : Addr) (fd : FuncData), Fun K x x st f fd → FnOk P w K mg base CX k f fd ps sp) :
    DefOk P w K mg base CX x k ps sp := by
  obtain ⟨f, fd, F, g, b⟩ := a.ex
  exact ⟨f, fd, h f fd F, g, F.kp, b⟩
section
variable {X : Cx} {CX : CXT} {k j : Nat} {ps : List Str} {sp : Sp} {E : XK} {x : Str} {p pos : Pos} {e : Expr} {es : List Expr} {t : TA}
theorem pe_def (D : DefOk X.prog X.w X.K X.mg X.base CX x k ps sp) (hr : Room j X.A) (hj : k ≤ j) (hg : Gl X x) (hx : Passes CX X E) (ha : PA X (e :: es) t) (hdb : (x == ("__debug__" : Str)) = false := by decide)
    (he : starEach (e :: es) X.env = (false, eval e X.env) :: starEach es X.env := by rfl) (hpl : (backTo pos (starEach es X.env)).any (·.1) = false := by rfl) : PE X (.Call (.Name x p) (e :: es) [] pos) (tCall sp [] E t) := by
  obtain ⟨f, fd, F, g, kp, b⟩ := D.ex
  exact pe_call F (hr.mono hj) hg g kp b .nil hx ha hdb he hpl
theorem pe_def0 (D : DefOk X.prog X.w X.K X.mg X.base CX x k ps sp) (hr : Room j X.A) (hj : k ≤ j) (hg : Gl X x) (hx : Passes CX X E) (hdb : (x == ("__debug__" : Str)) = false := by decide) : PE X (.Call (.Name x p) [] [] pos) (tCall sp [] E tNil) := by
  obtain ⟨f, fd, F, g, kp, b⟩ := D.ex
  exact pe_call0 F (hr.mono hj) hg g kp b .nil hx hdb
end
/-- a def whose first argument is a lambda; sp: what it makes of the lambda's promise and of the other arguments -/
structure LamDef (P : Program) (w : World) (K : PySem.W.Frag) (mg : Str → Option Value) (base : Heap) (g : Addr) (k : Nat) (sp : (Hp → VK → XK → Prop) → List V → Hp → VK → Prop) : Prop where
  run : ∀ (A : Around) (outer : List Env) (s : Shared) (H : Hp) (us : List Value) (f : Addr) (vs : List V) (F : NF) (b : Expr) (fr : List Str) (ws : List (Option V)) (spl : List (Option V) → Hp → VK → XK → Prop) (kl : Nat) (Q : VK), Room k A → kl < k → Env0 P w K mg base A outer s H →
    Vals (.ref f :: vs) us → LOk P w K mg base (L2.CX P w) kl f F b fr spl → LamAt H f F b → H F.c = some (CodeO F.c F.qual) → CellsAt F.cl fr ws s.heap H → sp (spl ws) vs H Q →
    codeAny (model P w) A (.call (.ref g) ⟨us, []⟩) (CR CX0 outer P w H s Q E0) s
structure LamDefAt (P : Program) (w : World) (K : PySem.W.Frag) (mg : Str → Option Value) (base : Heap) (x : Str) (k : Nat) (sp : (Hp → VK → XK → Prop) → List V → Hp → VK → Prop) : Prop where
  ex : ∃ g : Addr, LamDef P w K mg base g k sp ∧ mg x = some (.ref g) ∧ PySem.W.keepIn K (.ref g) = true
/-- one of several lambdas: its words by its code object's address, its body, the captured names and their values, its promise -/
structure Lam where
  nf : Addr → NF
  b : Expr
  fr : List Str
  ws : List (Option V)
  sp : List (Option V) → Hp → VK → XK → Prop
def tLamCall {ι : Type} (L : ι → Lam) (sp : (Hp → VK → XK → Prop) → List V → Hp → VK → Prop) (t : TA) : TE := fun σ H Q => t σ H fun vs H1 => ∃ (i : ι) (f c' : Addr) (rest : List V), vs = .ref f :: rest ∧ LamAt H1 f ((L i).nf c') (L i).b ∧
  H1 ((L i).nf c').c = some (CodeO ((L i).nf c').c ((L i).nf c').qual) ∧ sp ((L i).sp (L i).ws) rest H1 Q
theorem pe_lamcall {ι : Type} {X : Cx} {L : ι → Lam} {k kl j : Nat} {sp : (Hp → VK → XK → Prop) → List V → Hp → VK → Prop} {x : Str} {p pos : Pos} {e : Expr} {es : List Expr} {t : TA} (D : LamDefAt X.prog X.w X.K X.mg X.base x k sp) (hkl : kl < k) (hr : Room j X.A) (hj : k ≤ j)
    (G : ∀ (i : ι) (f c' : Addr), LOk X.prog X.w X.K X.mg X.base (L2.CX X.prog X.w) kl f ((L i).nf c') (L i).b (L i).fr (L i).sp) (C : ∀ (i : ι) (c' : Addr), CellsAt ((L i).nf c').cl (L i).fr (L i).ws X.s_0.heap X.H_0) (hxc : ∀ (i : ι) (c' b : Addr), b ∉ X.ex ∨ ∀ y, ((L i).nf c').cl.lookup y ≠ some b)
    (hg : Gl X x) (ha : PA X (e :: es) t) (hdb : (x == ("__debug__" : Str)) = false := by decide) (he : starEach (e :: es) X.env = (false, eval e X.env) :: starEach es X.env := by rfl) (hpl : (backTo pos (starEach es X.env)).any (·.1) = false := by rfl) :
    PE X (.Call (.Name x p) (e :: es) [] pos) (tLamCall L sp t) := by
  obtain ⟨g, R, gm, kp⟩ := D.ex
  constructor
  intro pins s σ H Q I h
  refine wpAny_Call_Name_kw (ld_glob I hg gm ?_ hdb)
  refine PySem.W.callWith_K (h₀ := X.base) I.ok.mod.kin kp (thn (ha.run pos pins s σ H _ I h) ?_) he hpl
  rintro us s1 ⟨vs, H1, I1, r, i, f, c', rest, rfl, hf, hc, q⟩
  refine ⟨I1.kIn, wpAny_call (codeAny_mono (R.run X.A X.stack s1 H1 us f rest _ _ _ _ _ kl Q (hr.mono hj) hkl I1.env0 r (G i f c') hf hc (cells_still (C i c') (hxc i c') I1) q) fun z s' hz => ?_)⟩
  rcases z with er | fl
  · exact (show False from hz).elim
  · cases fl
    case ret u => exact I1.after hz
    all_goals exact False.elim hz
/-- what the def's own cells hold, told to a block that begins -/
theorem cells_blk {X : Cx} {pins : List (Addr × Obj)} {σ : L2.St} {H : Hp} {s : Shared} {scope : Scope} {fr : List Str} {js : List Nat} (I : Inv X pins σ H s) (hfree : ∀ y ∈ scope.names, y.2 = .free → X.env.scope.names.lookup y.1 = some .cell ∨ X.env.scope.names.lookup y.1 = some .free)
    (hfr : ∀ y ∈ fr, (y, NameKind.free) ∈ scope.names) (hjs : js.map (fun j => X.N[j]?) = fr.map some) : CellsAt (cloFrom X.env.cells scope.names []) fr (js.map (slotAt σ)) s.heap H := cells_of I (Caps.made I.ok hfree hfr hjs)
theorem cells_fp {X : Cx} {pins : List (Addr × Obj)} {σ : L2.St} {H : Hp} {s : Shared} {scope : Scope} {fp : List Addr} (I : Inv X pins σ H s) (hfree : ∀ y ∈ scope.names, y.2 = .free → X.env.scope.names.lookup y.1 = some .cell ∨ X.env.scope.names.lookup y.1 = some .free)
    (hfp : ∀ b ∈ fp, FpOk X pins H b) (b : Addr) : b ∉ fp ∨ ∀ y, (cloFrom X.env.cells scope.names []).lookup y ≠ some b := by
  by_cases hb : b ∈ fp
  · refine .inr fun y z => ?_
    have hf : ∀ y ∈ scope.names, y.2 = .free → ∃ c, X.env.cells.lookup y.1 = some c := fun y hy e => (hfree y hy e).elim (fun z => I.ok.has _ (.inl z)) fun z => I.ok.has _ (.inr z)
    exact (hfp b hb).2.2.2.2.1 y b (clo_cm hf z) rfl
  · exact .inl hb
end Own

/-! from S06 -/
namespace PySem.SeqAt
open AutoSeq1 (wpAny_loadPart')
open MeetsSeq
theorem own_str_dict0 (b : Str) (u : Tok) (l : Addr) (es : Array DictEntry) (ep : Nat) :
    Meets (Builtin.«str.__eq__» ⟨[.str b u, .ref l], []⟩) (fun _ R s => s.heap.get? l = some ({ cls := .type "dict", dict := none, data := .dict es ep, slots := #[] } : Obj) ∧ R (.ok (.ret .notImplemented)) s) :=
  .of_wp fun prog w A R s h => by
    obtain ⟨hp, g, d, tk, os⟩ := s
    obtain ⟨hl, h⟩ := h
    wp_walk using wpAny_loadPart' hl, wpAny_load hl
    exact ⟨_, rfl, h⟩
theorem own_dict_str0 (b : Str) (u : Tok) (l : Addr) (es : Array DictEntry) (ep : Nat) :
    Meets (Builtin.«dict.__eq__» ⟨[.ref l, .str b u], []⟩) (fun _ R s => s.heap.get? l = some ({ cls := .type "dict", dict := none, data := .dict es ep, slots := #[] } : Obj) ∧ R (.ok (.ret .notImplemented)) s) :=
  .of_wp fun prog w A R s h => by
    obtain ⟨hp, g, d, tk, os⟩ := s
    obtain ⟨hl, h⟩ := h
    have f1 := F.sub_str_dict
    wp_walk using wpAny_loadPart' hl, wpAny_load hl
    exact ⟨_, rfl, h⟩
theorem own_rc_str_dict {A : Around} {s : Shared} {l : Addr} {es : Array DictEntry} {ep : Nat} (b : Str) (u : Tok) (ho : s.heap.get? l = some ({ cls := .type "dict", dict := none, data := .dict es ep, slots := #[] } : Obj)) (hu : A.units < cLine) : RcAt A s (.str b u) (.ref l) false :=
  fun prog w E Q h => by
    refine rc_eq_decline_or (k := false) (typeIs_str s b u) ⟨_, ho, rfl⟩ (by decide) F.sub_dict_str F.slot_str_eq F.slot_dict_eq_refl ?_ ?_ ?_ (.inr hu) h
    · exact fun _ hq => call_meets F.slot_str_eq (typeIs_str s b u) F.entry_str_eq (F.args_str_eq_2 _ _) (own_str_dict0 b u l es ep) ⟨ho, hq⟩
    · exact fun _ hq => call_meets F.slot_dict_eq_refl ⟨_, ho, rfl⟩ F.entry_dict_eq (F.args_dict_eq_2 _ _) (own_dict_str0 b u l es ep) ⟨ho, hq⟩
    · exact fun _ hq => wpAny_of_eq (rfl : isSame (.str b u) (.ref l) = pure false) hq
theorem own_eq_str_dict {A : Around} {s : Shared} {l : Addr} {es : Array DictEntry} {ep : Nat} (b : Str) (u : Tok) (ho : s.heap.get? l = some ({ cls := .type "dict", dict := none, data := .dict es ep, slots := #[] } : Obj)) (hu : A.units < cLine) : EqAt A s (.str b u) (.ref l) false :=
  fun prog w E Q h => by
    unfold eqBool
    refine wpAny_holding (wpAny_ite_split (fun z => absurd (eq_of_beq z) nofun) fun _ => ?_)
    exact wpAny_bind (own_rc_str_dict b u ho hu prog w E _ (wpAny_truthy_bool h))
end PySem.SeqAt
namespace Own
open PySem PySem.Spec PyProof.Rows L2
/-- a value that is no text, and no number with a text's place -/
inductive NoTxt (H : Hp) : V → Prop where
  | non : NoTxt H .non
  | bl (b : Bool) : NoTxt H (.bl b)
  | int (i : Int) : NoTxt H (.int i)
  | lst {a : Addr} {xs : List V} (e : H a = some (.lst xs)) : NoTxt H (.ref a)
  | tup {a : Addr} {xs : List V} (e : H a = some (.tup xs)) : NoTxt H (.ref a)
  | dct {a : Addr} {kvs : List (Key × V)} (e : H a = some (.dK kvs)) : NoTxt H (.ref a)
theorem NoTxt.ne {X : Cx} {pins : List (Addr × Obj)} {σ : L2.St} {H : Hp} {s : Shared} {x : V} {v : Value} (I : Inv X pins σ H s) (h : NoTxt H x) (r : RelV x v) {A : Around} (hu : A.units < cLine) (z : Str) (t : Tok) : SeqAt.EqAt A s (.str z t) v false := by
  cases h with
  | non => cases r; exact SeqAt.EqAt.str_none z t
  | bl b => cases r; exact SeqAt.EqAt.str_bool z t b
  | int i =>
    obtain ⟨u, rfl⟩ := r
    exact SeqAt.EqAt.str_int z t i u
  | lst e =>
    cases r
    obtain ⟨its, _, pl, _⟩ := I.list (SqL.of e)
    exact SeqAt.EqAt.str_list z t pl.isList hu
  | tup e =>
    cases r
    obtain ⟨its, _, pl, _⟩ := I.tuple (SqT.of e)
    exact SeqAt.EqAt.str_tuple z t pl hu
  | dct e =>
    cases r
    obtain ⟨_, _, vs, _, ⟨⟨c, dd, da, sl⟩, es, ep, ho, hx, hd, _⟩⟩ := (show ObjOk X.prog X.w H s.heap _ (.dK _) from I.hok _ _ e)
    obtain ⟨rfl, rfl, rfl⟩ := hx
    obtain rfl : da = .dict es ep := hd
    exact SeqAt.own_eq_str_dict z t ho hu
def rNotInW (K : PySem.W.Frag) : R2 := fun x y H Q => ∃ (p : Addr) (zs : List Str), y = .ref p ∧ SqT K H p (zs.map V.str) ∧ NoTxt H x ∧ Q (.bl true) H
theorem op_notInW {X : Cx} (hu : X.A.units + 1 < cLine) : OpR X (compareOp .NotIn) (rNotInW X.K) := by
  intro pins s σ H x y v u Q I rx ry h
  obtain ⟨p, zs, rfl, hq, nt, q⟩ := h
  cases ry
  obtain ⟨its, r, pl, hz⟩ := I.tuple hq
  have txts : ∀ w ∈ its, ∃ (z : Str) (t : Tok), w = .str z t := fun w hw => by
    obtain ⟨i, hi⟩ := List.mem_iff_getElem?.mp hw
    have hlt : i < (zs.map V.str).length := by
      rw [Paired.length r]
      exact (List.getElem?_eq_some_iff.mp hi).1
    obtain ⟨u', h1, h2⟩ := r.get (List.getElem?_eq_getElem hlt)
    rw [hi] at h1
    cases h1
    rw [List.getElem_map] at h2
    obtain ⟨t, z⟩ := h2
    exact ⟨_, t, z⟩
  have hu0 : X.A.units < cLine := Nat.lt_of_le_of_lt (Nat.le_succ _) hu
  have hu' : X.A.in1.units < cLine := by first | exact hu0 | exact hu
  refine SeqAt.notIn_tupleAt (fun _ => false) pl (fun w hw => ?_) ⟨.bl _, H, I, rfl, ?_⟩
  · obtain ⟨z, t, rfl⟩ := txts w (by simpa using hw)
    exact nt.ne I rx hu' z t
  · have e : its.toArray.any (fun _ => false) = false := by simp
    rw [e]
    exact q
end Own


/-! from P06 -/
namespace Own
open PySem PySem.Spec PyProof.Rows L2
inductive Thing (H : Hp) : V → Prop where
  | non : Thing H .non
  | bl (b : Bool) : Thing H (.bl b)
  | int (i : Int) : Thing H (.int i)
  | str (z : Str) : Thing H (.str z)
  | lst {a : Addr} {xs : List V} (e : H a = some (.lst xs)) : Thing H (.ref a)
  | tup {a : Addr} {xs : List V} (e : H a = some (.tup xs)) : Thing H (.ref a)
  | dct {a : Addr} {kvs : List (Key × V)} (e : H a = some (.dK kvs)) : Thing H (.ref a)
theorem Thing.same {H H' : Hp} {x : V} (h : Thing H x) (s : Same H H') : Thing H' x := by
  cases h with
  | non => exact .non
  | bl b => exact .bl b
  | int i => exact .int i
  | str z => exact .str z
  | lst e => exact .lst (s _ _ e)
  | tup e => exact .tup (s _ _ e)
  | dct e => exact .dct (s _ _ e)
def isInt : V → Bool
  | .int _ => true
  | _ => false
def isBl : V → Bool
  | .bl _ => true
  | _ => false
/-- isinstance(x, int), isinstance(x, bool) -/
theorem Thing.isi {K : PySem.W.Frag} {H : Hp} {x : V} (h : Thing H x) : ∃ t : Value, TyX K H x t ∧ PySem.W.kitOne K t (.type "int") = some (isInt x || isBl x) ∧ PySem.W.kitOne K t (.type "bool") = some (isBl x) := by
  cases h with
  | non => exact ⟨_, .base .non, kit_ty (show kitB "NoneType" "int" = some false by decide +kernel), kit_ty (show kitB "NoneType" "bool" = some false by decide +kernel)⟩
  | bl b => exact ⟨_, .base (.bl b), kit_ty (show kitB "bool" "int" = some true by decide +kernel), kit_ty (show kitB "bool" "bool" = some true by decide +kernel)⟩
  | int i => exact ⟨_, .base (.int i), kit_ty (show kitB "int" "int" = some true by decide +kernel), kit_ty (show kitB "int" "bool" = some false by decide +kernel)⟩
  | str z => exact ⟨_, .base (.str z), kit_ty (show kitB "str" "int" = some false by decide +kernel), kit_ty (show kitB "str" "bool" = some false by decide +kernel)⟩
  | lst e => exact ⟨_, .base (.lst e), kit_ty (show kitB "list" "int" = some false by decide +kernel), kit_ty (show kitB "list" "bool" = some false by decide +kernel)⟩
  | tup e => exact ⟨_, .base (.tup e), kit_ty (show kitB "tuple" "int" = some false by decide +kernel), kit_ty (show kitB "tuple" "bool" = some false by decide +kernel)⟩
  | dct e => exact ⟨_, .base (.dK e), kit_ty (show kitB "dict" "int" = some false by decide +kernel), kit_ty (show kitB "dict" "bool" = some false by decide +kernel)⟩
theorem Thing.noTxt {H : Hp} {x : V} (h : Thing H x) : NoTxt H x ∨ ∃ z, x = .str z := by
  cases h with
  | non => exact .inl .non
  | bl b => exact .inl (.bl b)
  | int i => exact .inl (.int i)
  | str z => exact .inr ⟨z, rfl⟩
  | lst e => exact .inl (.lst e)
  | tup e => exact .inl (.tup e)
  | dct e => exact .inl (.dct e)
/-- what a written dict says at a text -/
def KGet (K : PySem.W.Frag) (d : Addr) (z : Str) (r : Option V) : Prop := ∃ ro : Option Value, PySem.W.nsIn K d z = some ro ∧ RelO r ro
section
variable {X : Cx} {d : Addr} {es : Array DictEntry} {n : Nat} {o e f : Expr} {apos cpos : Pos} {td ty tx : TE}
theorem pe_kget2 (D : KDict X.K X.w d es n) (ho : PE X o td) (he : PE X e ty) (hf : PE X f tx) (m : M2 X o "get" apos e f cpos) :
    PE X (.Call (.Attribute o "get" apos) [e, f] [] cpos) (fun σ H Q => td σ H fun x H1 => x = .ref d ∧ ty σ H1 fun y H2 => tx σ H2 fun z H3 => ∃ (t : Str) (r : Option V), y = .str t ∧ KGet X.K d t r ∧ Q (r.getD z) H3) := by
  constructor
  intro pins s σ H Q I h
  refine wpAny_Call_method m.base m.few m.line PySem.F.plainAttrs_dict PySem.F.slot_dict_get PySem.F.type_dict_get (thn (ho.run pins s σ H _ I h) ?_)
  rintro u s1 ⟨x, H1, I1, rx, rfl, q1⟩
  obtain rfl : u = Value.ref d := rx
  refine ⟨kd_type D I1, fun b q => ?_, ?_⟩
  · cases q
    exact ⟨_, I1.kIn _ _ D.at_, rfl⟩
  rw [m.trees]
  refine Calls.callWith_builtin rfl (Calls.evalArgs_plain (Calls.spliced_cons (thn (he.run pins s1 σ H1 _ I1 q1) ?_)))
  rintro iv s2 ⟨y, H2, I2, ry, q2⟩
  refine Calls.spliced_cons (thn (hf.run pins s2 σ H2 _ I2 q2) ?_)
  rintro fv s3 ⟨z, H3, I3, rz, t, r, rfl, ⟨ro, hk, rr⟩, q3⟩
  refine Calls.spliced_nil ?_
  obtain ⟨tk, rfl⟩ := ry
  show wpAny _ _ (call (.builtin "dict.get") [.ref d, .str t tk, fv]) _ _ _
  refine call_meetsIn PySem.F.slot_dict_get (kd_type D I3) PySem.F.entry_dict_get (PySem.F.args_dict_get_3 _ _ _) (meets_dict_get_default (strKind X.prog X.w) d (strKind_is X.prog X.w t tk) D.low fv) ⟨_, PySem.W.mapOf_K (prog := X.prog) I3.kIn D.at_ D.lit, ?_⟩
  rw [PySem.W.find_K D.at_ hk]
  refine ⟨r.getD z, H3, I3.tok _, ?_, q3⟩
  cases r with
  | none =>
    cases ro with
    | none => exact rz
    | some u => exact rr.elim
  | some v =>
    cases ro with
    | none => exact rr.elim
    | some u => exact rr
end
/-! ### an error class whose __init__ keeps one field -/
structure ErrC (P : Program) (w : World) (K : PySem.W.Frag) (mg : Str → Option Value) (base : Heap) (x fld : Str) (k : Nat) (C : Addr) (sp : Sp) : Prop where
  g : mg x = some (.ref C)
  oex : OexC K C
  ini : ∃ (fI : Addr) (fd : FuncData), PySem.W.findIn K (.ref C) "__init__" = some (some (.ref fI)) ∧ PySem.W.typeIn K (.ref fI) = some (.type "function") ∧ FnOk P w K mg base CX0 k fI fd ["self", fld] sp ∧ Binds K fd ["self", fld] []
  xf : XfC K C
  te : PySem.W.exmOne K (.ref C) (.ref C) = some true
  noV : PySem.W.findIn K (.ref C) fld = some none
def spErr (C : Addr) (fld : Str) : Sp := fun vs H Q _ => ∃ (a : Addr) (y : V), vs = [.ref a, y] ∧ H a = some (exo a C none) ∧ ∀ dx, H dx = none → dx ≠ a → Q .non (upd (upd H dx (exd dx [(fld, y)])) a (exo a C (some dx)))
/-- such an error leaves: its value x -/
def Bad (C : Addr) (fld : Str) (x : V) (H : Hp) (E : XK) : Prop := ∀ (d : Addr) (H' : Hp), Same H H' → H d = none → H' d = some (.xd [(fld, x)]) → E (.ref C) (some d) H'
theorem Bad.same {C : Addr} {fld : Str} {x : V} {H H1 : Hp} {E : XK} (h : Bad C fld x H E) (s : Same H H1) : Bad C fld x H1 E := fun d H' s' n e => h d H' (s.trans s') (s.free n) e
section
variable {X : Cx} {x fld : Str} {k j : Nat} {C : Addr} {e : Expr} {te : TE} {p pos : Pos}
theorem pmk_err (D : ErrC X.prog X.w X.K X.mg X.base x fld k C (spErr C fld)) (hr : Room j X.A) (hj : k + 1 ≤ j) (hg : Gl X x) (he : PE X e te) (hdb : (x == ("__debug__" : Str)) = false := by decide)
    (hst : starEach (e :: []) X.env = (false, eval e X.env) :: starEach [] X.env := by rfl) (hpl : (backTo pos (starEach [] X.env)).any (·.1) = false := by rfl) :
    PMk X (.Call (.Name x p) [e] [] pos) (tMkO C (spErr C fld) [] (tCons te tNil)) := by
  obtain ⟨fI, fd, iC, tI, F1, b⟩ := D.ini
  exact pmk_oex D.oex iC tI F1 (hr.mono hj) b .nil (fun _ _ _ _ _ _ _ z => z.elim) hg D.g (pa_cons he pa_nil hst) hdb hst hpl
end
/-- the end of such a making -/
theorem bad_mk {C : Addr} {fld : Str} {y : V} {H : Hp} {Q : XK} (h : Bad C fld y H Q) : [y].length ≤ 1000 ∧ ∀ a, H a = none → spErr C fld (.ref a :: ([y] ++ [])) (upd H a (exo a C none))
    (fun v H2 => v = .non ∧ ∃ (d : Addr) (fs : List (Str × V)), H2 a = some (exo a C (some d)) ∧ H2 d = some (exd d fs) ∧ H d = none ∧ Q (.ref C) (some d) (upd (del H2 a) d (.xd fs))) (fun _ _ _ => False) := by
  refine ⟨by show 1 ≤ 1000; decide, fun a na => ⟨a, y, rfl, upd_same, fun dx ndx ne => ⟨rfl, dx, [(fld, y)], upd_same, ?_, ?_, ?_⟩⟩⟩
  · rw [upd_ne ne, upd_same]
  · rw [upd_ne ne] at ndx
    exact ndx
  · have nd : H dx = none := by
      rw [upd_ne ne] at ndx
      exact ndx
    refine h dx _ (fun b o e => ?_) nd upd_same
    have b1 : b ≠ a := ne_of_none e na
    have b2 : b ≠ dx := ne_of_none e nd
    rw [upd_ne b2, del_ne b1, upd_ne b1, upd_ne b2, upd_ne b1]
    exact e
end Own

/-! from U06 -/
namespace Own
open PySem PySem.Spec PyProof.Rows L2
theorem op_mulS {X : Cx} : OpR X (binaryOp .Mult) (fun x y H Q => ∃ (z : Str) (n : Int), x = .str z ∧ y = .int n ∧ MulOk z n ∧ Q (.str (Txt.mul z n)) H) := by
  intro pins s σ H x y v u Q I rx ry h
  obtain ⟨z, n, rfl, rfl, ok, q⟩ := h
  obtain ⟨t, rfl⟩ := rx
  obtain ⟨t', rfl⟩ := ry
  exact SB.mul ok fun t2 k => ⟨.str _, H, I.tok _, ⟨_, rfl⟩, q⟩
theorem zeros_fold : ∀ (n : Nat) (acc : Array Nat), ((List.replicate n #[48]).foldl (· ++ ·) acc).toList = acc.toList ++ List.replicate n 48
  | 0, acc => by simp
  | n + 1, acc => by
    rw [List.replicate_succ, List.foldl_cons, zeros_fold n, Array.toList_append, List.replicate_succ, List.append_assoc]
    rfl
theorem zero_cps : ("0" : Str).cps = #[48] := by decide +kernel
theorem one_cps : ("1" : Str).cps = #[49] := by decide +kernel
theorem zeros (n : Nat) : (Txt.mul "0" (n : Int)).cps.toList = List.replicate n 48 := by
  unfold Txt.mul
  by_cases h0 : n = 0
  · subst h0
    rw [if_pos (by omega)]
    rfl
  · rw [if_neg (by omega)]
    by_cases h1 : n = 1
    · subst h1
      rw [if_pos (by simp), zero_cps]
      rfl
    · have e : ¬ (((n : Int) == 1 || ("0" : Str).length == 0) = true) := by
        have l : ("0" : Str).length = 1 := by decide +kernel
        rw [l]
        simp
        omega
      rw [if_neg e]
      show ((List.replicate (n : Int).toNat ("0" : Str).cps).foldl (· ++ ·) #[]).toList = _
      rw [zero_cps, Int.toNat_natCast, zeros_fold]
      rfl
/-- '1' + '0' * n -/
def tenS (n : Nat) : Str := ("1" : Str) ++ Txt.mul "0" (n : Int)
theorem tenS_list (n : Nat) : (tenS n).cps.toList = 49 :: List.replicate n 48 := by
  have e : (tenS n).cps = ("1" : Str).cps ++ (Txt.mul "0" (n : Int)).cps := rfl
  rw [e, Array.toList_append, zeros, one_cps]
  rfl
theorem tens_val : ∀ (n a : Nat), (List.replicate n 48).foldl (fun acc c => acc * 10 + (c - 48)) a = a * 10 ^ n
  | 0, a => by simp
  | n + 1, a => by
    rw [List.replicate_succ, List.foldl_cons, tens_val n]
    show (a * 10 + 0) * 10 ^ n = a * 10 ^ (n + 1)
    rw [Nat.add_zero, Nat.pow_succ, Nat.mul_assoc, Nat.mul_comm 10]
theorem str_len (x : Str) : x.length = x.cps.toList.length := by
  cases x
  rfl
theorem tenS_len (n : Nat) : (tenS n).length = n + 1 := by
  rw [str_len, tenS_list, List.length_cons, List.length_replicate]
theorem ten_text {n : Nat} (h : n ≤ 600) : PySem.intText? (tenS n) = some ((10 : Int) ^ n) := by
  have e := PySem.intText_digits (x := tenS n) (fun c hc => by
      rw [tenS_list] at hc
      rcases List.mem_cons.mp hc with rfl | hc
      · exact ⟨by decide, by decide⟩
      · have := (List.mem_replicate.mp hc).2
        omega) (by rw [tenS_list]; simp) (by rw [tenS_len]; omega)
  rw [e]
  have z : NumText.digitsVal (tenS n).cps.toList = 10 ^ n := by
    rw [tenS_list]
    unfold NumText.digitsVal
    rw [List.foldl_cons, tens_val]
    simp
  rw [z]
  simp
theorem mulOk0 {n : Nat} (h : n ≤ 600) : MulOk "0" (n : Int) := by
  have l : ("0" : Str).length = 1 := by decide +kernel
  refine ⟨?_, fun h1 h2 => ?_, fun h1 h2 => ?_⟩
  · rw [Bool.or_eq_false_iff]
    exact ⟨decide_eq_false (by omega), decide_eq_false (by omega)⟩
  · rw [l]
    have z := Int.le_ediv_of_mul_le (c := (n : Int)) (a := 1) (b := 2 ^ 63 - 1) (by omega) (by omega)
    omega
  · rw [l, Nat.one_mul, Int.toNat_natCast]
    exact decide_eq_false (by have := sizeLine_eq; omega)
end Own

/-! from V06 -/
namespace Own
theorem ten_pos (n : Nat) : (0 : Int) < (10 : Int) ^ n := Int.pow_pos (by decide)
theorem ten_mono {m n : Nat} (h : m ≤ n) : (10 : Int) ^ m ≤ (10 : Int) ^ n := by
  obtain ⟨k, rfl⟩ := Nat.le.dest h
  rw [Int.pow_add]
  have a := ten_pos m
  have b : (1 : Int) ≤ (10 : Int) ^ k := ten_pos k
  have := Int.mul_le_mul_of_nonneg_left b (Int.le_of_lt a)
  omega
theorem ten_nat (n : Nat) : ((10 : Int) ^ n).natAbs = 10 ^ n := by
  rw [Int.natAbs_pow]
  rfl
theorem ten_lt (n : Nat) : ((10 : Int) ^ n).natAbs < 2 ^ (4 * n + 1) := by
  rw [ten_nat, Nat.pow_succ, Nat.pow_mul]
  have a : 10 ^ n ≤ (2 ^ 4) ^ n := Nat.pow_le_pow_left (by decide) n
  have b : 0 < (2 ^ 4) ^ n := Nat.pow_pos (by decide)
  omega
theorem lt_two {i j : Int} {k : Nat} (h0 : 0 ≤ i) (h1 : i ≤ j) (h : j.natAbs < 2 ^ k) : i.natAbs < 2 ^ k := Nat.lt_of_le_of_lt (by omega) h
end Own

/-! from W06 -/
namespace Own
open PySem PySem.Spec PyProof.Rows L2
theorem merge_app : ∀ (kvs acc : List (Key × V)), ((acc ++ kvs).map (·.1)).Nodup → mergeK acc kvs = acc ++ kvs
  | [], acc, _ => by simp [mergeK]
  | p :: r, acc, h => by
    have hn : valV acc p.1 = none := by
      cases e : valV acc p.1 with
      | none => rfl
      | some v =>
        have m := valV_in e
        rw [List.map_append, List.nodup_append] at h
        exact absurd rfl (h.2.2 p.1 m p.1 (by simp))
    have z := merge_app r (acc ++ [p]) (by
      rw [List.append_assoc]
      exact h)
    show mergeK (putK acc p.1 p.2) r = acc ++ p :: r
    rw [putK_new _ hn, z, List.append_assoc]
    rfl
theorem merge_new {kvs : List (Key × V)} (h : (kvs.map (·.1)).Nodup) : mergeK [] kvs = kvs := merge_app kvs [] h
/-- a dict of texts -/
def txK (l : List (Str × V)) : List (Key × V) := l.map fun p => (Sum.inr p.1, p.2)
theorem txK_val : ∀ (l : List (Str × V)) (z : Str), valV (txK l) (Sum.inr z : Key) = l.lookup z
  | [], z => rfl
  | p :: r, z => by
    obtain ⟨a, v⟩ := p
    by_cases h : a = z
    · subst h
      rw [show txK ((a, v) :: r) = (Sum.inr a, v) :: txK r from rfl, valV_pos rfl]
      simp [List.lookup]
    · rw [show txK ((a, v) :: r) = (Sum.inr a, v) :: txK r from rfl, valV_neg (fun e => h (Sum.inr.inj e)), txK_val r z]
      have hb : (z == a) = false := by simpa using fun e : z = a => h e.symm
      simp [List.lookup, hb]
theorem DGet.tx {H : Hp} {a : Addr} {l : List (Str × V)} (z : Str) (e : H a = some (.dK (txK l))) : DGet H a (.str z) (l.lookup z) := by
  have q := DGet.k (k := (Sum.inr z : Key)) e
  rw [txK_val] at q
  exact q
end Own

/-! from Y06 -/
namespace Own
open PySem PySem.Spec PyProof.Rows L2
/-- a flat value's datum -/
def datV : V → PyData
  | .bl b => .bool b
  | .int i => .int i
  | .str z => .str z
  | _ => .none
def okF : V → Bool
  | .non => true
  | .bl _ => true
  | .int _ => true
  | .str z => PyData.strOk z
  | _ => false
/-- a value handed in that is equal to itself -/
inductive Odd (H : Hp) : V → Prop where
  | flat {x : V} (h : okF x = true) : Odd H x
  | lst {a : Addr} {xs : List V} (e : H a = some (.lst xs)) (f : xs.all okF = true) : Odd H (.ref a)
  | tup {a : Addr} {xs : List V} (e : H a = some (.tup xs)) (f : xs.all okF = true) : Odd H (.ref a)
  | dct {a : Addr} {kvs : List (Key × V)} (e : H a = some (.dK kvs)) (n : (kvs.map (·.1)).Nodup) (f : ∀ p ∈ kvs, flatB p.2 = true) : Odd H (.ref a)
theorem Odd.same {H H' : Hp} {x : V} (h : Odd H x) (s : Same H H') : Odd H' x := by
  cases h with
  | flat h => exact .flat h
  | lst e f => exact .lst (s _ _ e) f
  | tup e f => exact .tup (s _ _ e) f
  | dct e n f => exact .dct (s _ _ e) n f
theorem Odd.thing {H : Hp} {x : V} (h : Odd H x) : Thing H x := by
  cases h with
  | flat h =>
    cases x <;> first | exact .non | exact .bl _ | exact .int _ | exact .str _ | (simp [okF] at h)
  | lst e f => exact .lst e
  | tup e f => exact .tup e
  | dct e n f => exact .dct e
theorem dp_flat {K : PySem.W.Frag} {H : Hp} {x : V} (h : okF x = true) : Dp K H x (datV x) ∧ (datV x).canLay0 = true ∧ (datV x).depth = 0 := by
  cases x <;> first
    | exact ⟨.non, by simp [datV, PyData.canLay0], by simp [datV, PyData.depth]⟩
    | exact ⟨.bl _, by simp [datV, PyData.canLay0], by simp [datV, PyData.depth]⟩
    | exact ⟨.int _, by simp [datV, PyData.canLay0], by simp [datV, PyData.depth]⟩
    | exact ⟨.str _, by simpa [datV, PyData.canLay0, okF] using h, by simp [datV, PyData.depth]⟩
    | (simp [okF] at h)
theorem dp_flats {K : PySem.W.Frag} {H : Hp} : ∀ {xs : List V}, xs.all okF = true → DpAll K H xs (xs.map datV) ∧ PyData.canLayAll0 (xs.map datV) = true ∧ PyData.depthAll (xs.map datV) = 0
  | [], _ => ⟨.nil, by simp [PyData.canLayAll0], by simp [PyData.depthAll]⟩
  | x :: r, h => by
    rw [List.all_cons, Bool.and_eq_true] at h
    obtain ⟨a1, a2, a3⟩ := dp_flat (K := K) (H := H) h.1
    obtain ⟨b1, b2, b3⟩ := dp_flats (K := K) (H := H) h.2
    exact ⟨.cons a1 b1, by simp [PyData.canLayAll0, a2, b2], by simp [PyData.depthAll, a3, b3]⟩
/-- x == x of such a value: the three rules -/
theorem op_eqOdd {X : Cx} (hu : X.A.units + 64 < cLine) : OpR X (compareOp .Eq) (fun x y H Q => (∃ a b : Int, x = .int a ∧ y = .int b ∧ Q (.bl (decide (a = b))) H) ∨ (Odd H x ∧ y = x ∧ Q (.bl true) H)) := by
  intro pins s σ H x y v u Q I rx ry h
  rcases h with ⟨a, b, rfl, rfl, q⟩ | ⟨od, rfl, q⟩
  · refine op_eq pins s σ H _ _ v u Q I rx ry ⟨rfl, ?_⟩
    have e : decide (V.int a = V.int b) = decide (a = b) := by simp
    rw [e]
    exact q
  · cases od with
    | flat h =>
      obtain ⟨a1, a2, a3⟩ := dp_flat (K := X.K) (H := H) h
      have sh : SeqAt.shaped (datV y) = true := by
        unfold SeqAt.shaped
        rw [a2, a3]
        rfl
      refine op_eqD hu pins s σ H _ _ v u Q I rx ry ⟨_, _, a1, a1, sh, sh, ?_⟩
      rw [SeqAt.eqv_refl _ (SeqAt.canLay_of_shaped sh)]
      exact q
    | @lst a xs e f =>
      obtain ⟨a1, a2, a3⟩ := dp_flats (K := X.K) (H := H) f
      have sh : SeqAt.shaped (.list (xs.map datV)) = true := by
        unfold SeqAt.shaped
        simp [PyData.canLay0, PyData.depth, a2, a3]
      have d : Dp X.K H (.ref a) (.list (xs.map datV)) := .lst (SqL.of e) a1
      refine op_eqD hu pins s σ H _ _ v u Q I rx ry ⟨_, _, d, d, sh, sh, ?_⟩
      rw [SeqAt.eqv_refl _ (SeqAt.canLay_of_shaped sh)]
      exact q
    | @tup a xs e f =>
      obtain ⟨a1, a2, a3⟩ := dp_flats (K := X.K) (H := H) f
      have sh : SeqAt.shaped (.tuple (xs.map datV)) = true := by
        unfold SeqAt.shaped
        simp [PyData.canLay0, PyData.depth, a2, a3]
      have d : Dp X.K H (.ref a) (.tuple (xs.map datV)) := .tup (SqT.of e) a1
      refine op_eqD hu pins s σ H _ _ v u Q I rx ry ⟨_, _, d, d, sh, sh, ?_⟩
      rw [SeqAt.eqv_refl _ (SeqAt.canLay_of_shaped sh)]
      exact q
    | @dct a kvs e n f => exact op_eq_dict (by omega) pins s σ H _ _ v u Q I rx ry ⟨a, a, kvs, rfl, rfl, e, e, n, f, q⟩
end Own

/-! from AA06 -/
namespace Own
open PySem PySem.Spec PyProof.Rows L2 LamX NdefX
section
variable {X : Cx} {cl : List (Str × Addr)} {fr : List Str} {ws : List (Option V)}
/-- as pe_deed, what it may let out told by the slots -/
theorem pe_deedS {CX : CXT} {k i : Nat} {f : Addr} {F : NF} {b : Expr} {sp : List (Option V) → Hp → VK → XK → Prop} {E : L2.St → XK} {a : Str} {p1 p2 : Pos} (C : CellsAt F.cl fr ws X.s_0.heap X.H_0) (hex : X.ex = []) (G : LOk X.prog X.w X.K X.mg X.base CX k f F b fr sp) (hr : Room k X.A)
    (hx : ∀ σ, PassesAt CX X σ (E σ)) (hN : X.N[i]? = some a) (hv : Vis X.env.scope a) (hd : (a == ("__debug__" : Str)) = false := by decide) (hcd : (a == ("__classdict__" : Str)) = false := by decide) :
    PE X (.Call (.Name a p1) [] [] p2) (fun σ H Q => σ[i]? = some (some (.ref f)) ∧ LamAt H f F b ∧ H F.c = some (CodeO F.c F.qual) ∧ sp ws H Q (E σ)) := by
  constructor
  intro pins s σ H Q I h
  obtain ⟨hs, hf, hc, q⟩ := h
  refine wpAny_Call_Name_kw (thn ((pe_var (pos := p1) hN hv hd hcd).run pins s σ H (fun v H1 => v = .ref f ∧ H1 = H) I ⟨.ref f, hs, rfl, rfl⟩) ?_)
  rintro u s1 ⟨v, H1, I1, r1, rfl, rfl⟩
  obtain rfl : u = Value.ref f := r1
  obtain ⟨dV, doc, pm, ctv, ho, _⟩ := lamO_at I1.hok hf
  refine PySem.W.callWith_F0 ⟨_, _, _, _, ho⟩ ?_
  have C' := cells_still C (fun _ => .inl (by rw [hex]; simp)) I1
  refine wpAny_call (codeAny_mono (G.run _ _ _ _ _ _ _ hr I1.env0 hf hc C' q) fun r s' z => ?_)
  rcases r with e | fl
  · exact hx σ pins _ _ e s' I1 z
  · cases fl
    case ret u => exact I1.after z
    all_goals exact False.elim z
end
end Own

/-! from CC06 -/
namespace Own
open PySem PySem.Spec PyProof.Rows L2 LamX NdefX
/-- at q stands the pair of a lambda and v -/
def RowAt (H : Hp) (nf : Addr → NF) (b : Expr) (v : V) (q : Addr) : Prop := ∃ f c' : Addr, H q = some (.tup [.ref f, v]) ∧ LamAt H f (nf c') b ∧ H (nf c').c = some (CodeO (nf c').c (nf c').qual)
section
variable {H H' : Hp} {nf : Addr → NF} {b : Expr} {v x : V} {q r : Addr} {l : List V} {o : HO}
theorem RowAt.ext (h : RowAt H nf b v q) (e : ExtN H H') : RowAt H' nf b v q := by
  obtain ⟨f, c', h1, h2, h3⟩ := h
  exact ⟨f, c', e _ _ h1 (fun ps z => by cases z), h2.ext e, e _ _ h3 codeO_ne⟩
theorem LamAt.put {f : Addr} {F : NF} (h : LamAt H f F b) (hr : H r = some (.lst l)) : LamAt (upd H r o) f F b := by
  obtain ⟨dV, h1, h2⟩ := h
  have a : f ≠ r := ne_of h1 hr (by unfold LamO; intro z; cases z)
  refine ⟨dV, (upd_ne a).trans h1, ?_⟩
  rcases h2 with z | ⟨n, T, z, q⟩
  · exact .inl z
  · have a : T ≠ r := ne_of q hr (by intro z; cases z)
    exact .inr ⟨n, T, z, (upd_ne a).trans q⟩
theorem RowAt.put (h : RowAt H nf b v q) (hr : H r = some (.lst l)) : RowAt (upd H r o) nf b v q := by
  obtain ⟨f, c', h1, h2, h3⟩ := h
  have a : q ≠ r := ne_of h1 hr (by intro z; cases z)
  have c : (nf c').c ≠ r := ne_of h3 hr (by unfold CodeO; intro z; cases z)
  exact ⟨f, c', (upd_ne a).trans h1, h2.put hr, (upd_ne c).trans h3⟩
theorem Odd.ext (h : Odd H x) (e : ExtN H H') : Odd H' x := by
  cases h with
  | flat h => exact .flat h
  | lst e' f => exact .lst (e _ _ e' (fun ps z => by cases z)) f
  | tup e' f => exact .tup (e _ _ e' (fun ps z => by cases z)) f
  | dct e' n f => exact .dct (e _ _ e' (fun ps z => by cases z)) n f
theorem Odd.off (h : Odd H x) (n : H r = none) : x ≠ .ref r := by
  cases h with
  | flat h => intro z; rw [z] at h; cases h
  | lst e f => intro z; rw [V.ref.inj z, n] at e; cases e
  | tup e f => intro z; rw [V.ref.inj z, n] at e; cases e
  | dct e n' f => intro z; rw [V.ref.inj z, n] at e; cases e
theorem Odd.put (h : Odd H x) (n : x ≠ .ref r) : Odd (upd H r o) x := by
  cases h with
  | flat h => exact .flat h
  | lst e f => exact .lst ((upd_ne (fun z => n (by rw [z]))).trans e) f
  | tup e f => exact .tup ((upd_ne (fun z => n (by rw [z]))).trans e) f
  | dct e n' f => exact .dct ((upd_ne (fun z => n (by rw [z]))).trans e) n' f
theorem tabs_put {T : List (Addr × Str)} (h : Tabs T H) (hr : H r = some (.lst l)) : Tabs T (upd H r o) := fun p hp => by
  obtain ⟨ps, h1, h2, h3⟩ := h p hp
  have a : p.1 ≠ r := ne_of h1 hr (by intro z; cases z)
  refine ⟨ps, (upd_ne a).trans h1, h2, fun pos cv hc => ?_⟩
  obtain ⟨c, e1, e2⟩ := h3 pos cv hc
  have b : c ≠ r := ne_of e2 hr (by unfold CodeO; intro z; cases z)
  exact ⟨c, e1, (upd_ne b).trans e2⟩
theorem extN_new (h : H r = none) : ExtN H (upd H r o) := ExtN.of fun b u e => (upd_ne (ne_of_none e h)).trans e
theorem ExtN.same (s : Same H H') : ExtN H H' := ExtN.of s
end
theorem Pen_odd {d : Addr} {B : Int} (h : Pen H d B) (o : Odd H x) : x ≠ .ref d := by
  obtain ⟨p, ns, c, l, e, _⟩ := h.ex
  intro z
  rw [z] at o
  cases o with
  | flat h => cases h
  | lst e' f => rw [e] at e'; cases e'
  | tup e' f => rw [e] at e'; cases e'
  | dct e' n f =>
    rw [e] at e'
    cases e'
    have := f _ (List.mem_cons_self ..)
    cases this
theorem Odd.keep {d : Addr} (h : Odd H x) (n : x ≠ .ref d) (k : Keep d H H') : Odd H' x := by
  cases h with
  | flat h => exact .flat h
  | lst e f => exact .lst (k _ _ (fun z => n (by rw [z])) e) f
  | tup e f => exact .tup (k _ _ (fun z => n (by rw [z])) e) f
  | dct e n' f => exact .dct (k _ _ (fun z => n (by rw [z])) e) n' f
theorem tabs_keep {T : List (Addr × Str)} {d : Addr} {B : Int} (h : Tabs T H) (hp : Pen H d B) (k : Keep d H H') : Tabs T H' := fun p hq => by
  obtain ⟨pp, ns, cc, ll, ed, _⟩ := hp.ex
  obtain ⟨ps, h1, h2, h3⟩ := h p hq
  have a : p.1 ≠ d := ne_of h1 ed (by intro z; cases z)
  refine ⟨ps, k _ _ a h1, h2, fun pos cv hc => ?_⟩
  obtain ⟨c, e1, e2⟩ := h3 pos cv hc
  have b : c ≠ d := ne_of e2 ed (by unfold CodeO; intro z; cases z)
  exact ⟨c, e1, k _ _ b e2⟩
/-- a list at r of pairs of a lambda and a value; x, y: two odd values -/
structure Bag {ι : Type} (nf : ι → Addr → NF) (bf : ι → Expr) (H : Hp) (r : Addr) (R : List (ι × V × Addr)) (x y : V) : Prop where
  l : H r = some (.lst (R.map fun p => .ref p.2.2))
  rows : ∀ p ∈ R, RowAt H (nf p.1) (bf p.1) p.2.1 p.2.2
  ox : Odd H x
  oy : Odd H y
  xr : x ≠ .ref r
  yr : y ≠ .ref r
theorem Bag.ext {ι : Type} {nf : ι → Addr → NF} {bf : ι → Expr} {R : List (ι × V × Addr)} {y : V} (h : Bag nf bf H r R x y) (e : ExtN H H') : Bag nf bf H' r R x y :=
  ⟨e _ _ h.l (fun ps z => by cases z), fun p hp => (h.rows p hp).ext e, h.ox.ext e, h.oy.ext e, h.xr, h.yr⟩
theorem Bag.set {ι : Type} {nf : ι → Addr → NF} {bf : ι → Expr} {R : List (ι × V × Addr)} {y : V} {D : Addr} {zs : List V} (h : Bag nf bf H r R x y) (hD : H D = some (.lst zs)) (n : D ≠ r) (nx : x ≠ .ref D) (ny : y ≠ .ref D) : Bag nf bf (upd H D o) r R x y :=
  ⟨(upd_ne n.symm).trans h.l, fun p hp => (h.rows p hp).put hD, h.ox.put nx, h.oy.put ny, h.xr, h.yr⟩
theorem Bag.add {ι : Type} {nf : ι → Addr → NF} {bf : ι → Expr} {R : List (ι × V × Addr)} {y v : V} {H1 : Hp} {i : ι} {f c' q : Addr} (h : Bag nf bf H r R x y) (e : ExtN H H1) (a : LamAt H1 f (nf i c') (bf i)) (c : H1 (nf i c').c = some (CodeO (nf i c').c (nf i c').qual)) (nq : H1 q = none) :
    upd H1 q (.tup [.ref f, v]) r = some (.lst (R.map fun p => .ref p.2.2)) ∧ Bag nf bf (upd (upd H1 q (.tup [.ref f, v])) r (.lst (R.map (fun p => .ref p.2.2) ++ [.ref q]))) r (R ++ [(i, v, q)]) x y := by
  have g := (h.ext e).ext (extN_new (o := .tup [.ref f, v]) nq)
  have e2 := extN_new (o := HO.tup [.ref f, v]) nq
  refine ⟨g.l, by rw [upd_same, List.map_append]; rfl, fun p hp => ?_, g.ox.put g.xr, g.oy.put g.yr, g.xr, g.yr⟩
  rcases List.mem_append.mp hp with hp | hp
  · exact (g.rows p hp).put g.l
  · rw [List.mem_singleton.mp hp]
    exact RowAt.put ⟨f, c', upd_same, a.ext e2, e2 _ _ c codeO_ne⟩ g.l
/-- a def of the text and its code object -/
structure AtC (K : PySem.W.Frag) (mg : Str → Option Value) (x : Str) (st : Stmt) (ps : List Str) (c : Addr) : Prop where
  ex : ∃ (f : Addr) (oc : Value) (od : Option Addr) (kV doc pm : Value) (an : Option Addr) (ct : Value) (osl : Array (Option Value)), K.lookup f = some ⟨oc, od, .func (PySem.W.fnOf x x (defArgs st) (defBody st) (defScope st) .none kV doc pm an (.ref c) ct), osl⟩ ∧ PySem.W.codeIn K (.ref c) x = true ∧
    mg x = some (.ref f) ∧ PySem.W.keepIn K (.ref f) = true ∧ Binds K (PySem.W.fnOf x x (defArgs st) (defBody st) (defScope st) .none kV doc pm an (.ref c) ct) ps []
end Own

namespace Own
open PySem PySem.Spec PyProof.Rows L2 LamX NdefX
theorem log2_lt {n k : Nat} (h : n < 2 ^ k) (hk : 0 < k) : n.log2 < k := by
  by_cases h0 : n = 0
  · subst h0
    simpa using hk
  · exact (Nat.log2_lt h0).mpr h
theorem dm_ok {n d : Int} (h0 : 0 < d) (h : d.natAbs < 2 ^ 1000) : CDivP n d := by
  refine ⟨h0, ?_⟩
  have a := log2_lt h (by decide)
  unfold Builtin.divisionGoesByPylong
  have e : ¬ (d == 0) = true := by simp; omega
  have z : ¬ (d.natAbs.log2 / 30 + 1 > 300) := by omega
  simp only [e, Bool.false_eq_true, if_false]
  rw [decide_eq_false z]
  rfl
theorem up_two {n a b : Nat} (h : n < 2 ^ a) (l : a ≤ b) : n < 2 ^ b := Nat.lt_of_lt_of_le h (Nat.pow_le_pow_right (by decide) l)
theorem add_lt {i j : Int} {a : Nat} (hi : i.natAbs < 2 ^ a) (hj : j.natAbs < 2 ^ a) : (i + j).natAbs < 2 ^ (a + 1) := by
  rw [Nat.pow_succ]
  omega
end Own

namespace Own
open PySem PySem.Spec PyProof.Rows L2 LamX NdefX
/-- what the law leans on of an error's class -/
def oexB (K : PySem.W.Frag) (C : Addr) : Bool := (match K.lookup C with
  | some ⟨.type t, _, .cls cd, sl⟩ => decide (t = "type") && (cd.hasDict && (!cd.hasDel && ((match cd.mro with
    | .ref D :: bm => decide (D = C) && PySem.HandSPX.refsVE bm
    | _ => false) && (match sl.toList with
    | [_, _, _, _, some (.builtin n), _] => decide (n = "ValueError.__new__")
    | _ => false))))
  | _ => false) && (decide (PySem.W.findIn K (.ref C) "__setattr__" = some (some (.builtin "object.__setattr__"))) && (decide (PySem.W.subIn K (.ref C) (.type "BaseException") = some true) && (decide (PySem.W.typeIn K (.ref C) = some (.type "type")) && PySem.W.keepIn K (.ref C))))
theorem oexB_ok {K : PySem.W.Frag} {C : Addr} (h : oexB K C = true) : OexC K C := by
  obtain ⟨h0, h⟩ := He.ba h
  obtain ⟨h1, h⟩ := He.ba h
  obtain ⟨h2, h⟩ := He.ba h
  obtain ⟨h3, h4⟩ := He.ba h
  refine ⟨?_, of_decide_eq_true h1, of_decide_eq_true h2, of_decide_eq_true h3, h4⟩
  cases q : K.lookup C with
  | none => rw [q] at h0; cases h0
  | some o =>
    rw [q] at h0
    obtain ⟨oc, od, dt, ⟨sl⟩⟩ := o
    cases oc with
    | type t =>
      cases dt with
      | cls cd =>
        obtain ⟨nm, bs, mro, ns, qn, hd, sn, sub, ab, col, del⟩ := cd
        obtain ⟨a1, a⟩ := He.ba h0
        obtain ⟨a2, a⟩ := He.ba a
        obtain ⟨a3, a⟩ := He.ba a
        obtain ⟨a4, a5⟩ := He.ba a
        have e1 : t = "type" := of_decide_eq_true a1
        have e2 : hd = true := a2
        have e3 : del = false := by
          have z : (!del) = true := a3
          simpa using z
        subst e1 e2 e3
        cases mro with
        | nil => cases a4
        | cons m bm =>
          cases m with
          | ref D =>
            obtain ⟨b1, b2⟩ := He.ba (show (decide (D = C) && PySem.HandSPX.refsVE bm) = true from a4)
            have e4 : D = C := of_decide_eq_true b1
            subst e4
            match sl, a5 with
            | [k0, k1, k2, k3, some (.builtin n), k5], z =>
              have e5 : n = "ValueError.__new__" := of_decide_eq_true z
              subst e5
              exact ⟨_, _, _, _, _, _, _, _, _, _, _, _, _, _, _, rfl, b2⟩
          | _ => cases a4
      | _ => cases h0
    | _ => cases dt <;> cases h0
def isTup (K : PySem.W.Frag) (a : Addr) : Bool := match K.lookup a with
  | some ⟨.type c, _, _, _⟩ => decide (c = "tuple")
  | _ => false
theorem isTup_ok {K : PySem.W.Frag} {a : Addr} (h : isTup K a = true) : ∃ o : Obj, K.lookup a = some o ∧ o.cls = .type "tuple" := by
  unfold isTup at h
  cases q : K.lookup a with
  | none => rw [q] at h; cases h
  | some o =>
    rw [q] at h
    obtain ⟨oc, od, dt, sl⟩ := o
    cases oc with
    | type c => exact ⟨_, rfl, congrArg Value.type (of_decide_eq_true h)⟩
    | _ => cases h
section
variable {P : Program} {w : World} {K : PySem.W.Frag} {mg : Str → Option Value} {h : Heap}
theorem fun_of {x qual : Str} {st : Stmt} {f : Addr} {fd : FuncData} (F : FunD K x qual (defArgs st) (defBody st) (defScope st) [] [] f fd) : Fun K x qual st f fd := by
  obtain ⟨oc, od, dV, kV, doc, pm, an, cdv, ct, osl, rfl, lk, hcd, hD, _⟩ := F.ex
  rcases hD with ⟨_, rfl⟩ | ⟨n, _⟩
  · exact ⟨⟨oc, od, kV, doc, pm, an, cdv, ct, osl, rfl, lk, hcd⟩, F.kp⟩
  · exact absurd rfl n
theorem at_of {x : Str} {st : Stmt} {ps : List Str} {f : Addr} {fd : FuncData} (F : FunD K x x (defArgs st) (defBody st) (defScope st) [] [] f fd) (g : mg x = some (.ref f))
    (b : ∀ (kV doc pm : Value) (an : Option Addr) (cdv ct : Value) (us : List Value), us.length = ps.length → bindArgs (PySem.W.fnOf x x (defArgs st) (defBody st) (defScope st) .none kV doc pm an cdv ct) ⟨us, []⟩ = pure (ps.zip us)) : At K mg x st ps :=
  ⟨f, fd, fun_of F, g, (fun_of F).binds b⟩
end
end Own
namespace Own
/-- built-in names that no module takes -/
structure Blt (mg : PySem.Str → Option PySem.Value) : Prop where
  isi : mg "isinstance" = none
  int : mg "int" = none
  bool : mg "bool" = none
  len : mg "len" = none
  list : mg "list" = none
  range : mg "range" = none
  tuple : mg "tuple" = none
  all : mg "all" = none
  dm : mg "divmod" = none
  min : mg "min" = none
  max : mg "max" = none
  str : mg "str" = none
  abs : mg "abs" = none
  dict : mg "dict" = none
  any : mg "any" = none
end Own

/-! own layer, of no law: OWNQ: a pen with any names for its cells, its count and what is left. -/
namespace Own
open PySem PySem.Spec PyProof.Rows L2 LamX NdefX
def penG (a b c : Str) (p : Addr) (m l : Int) : List (Key × V) := [(Sum.inr a, V.ref p), (Sum.inr b, V.int m), (Sum.inr c, V.int l)]
/-- the three names are unlike -/
def Un3 (a b c : Str) : Prop := ¬ a = b ∧ ¬ a = c ∧ ¬ b = c
section
variable {a b c : Str} {p d : Addr} {m l m' l' : Int} {H H' : Hp} {B B' : Int}
theorem gpen_a (u : Un3 a b c) (h : H d = some (.dK (penG a b c p m l))) : DGet H d (V.str a) (some (.ref p)) := by
  have z := DGet.k (k := (Sum.inr a : Key)) h
  have e : valV (penG a b c p m l) (Sum.inr a : Key) = some (.ref p) := valV_pos rfl
  rw [e] at z
  exact z
theorem gpen_b (u : Un3 a b c) (h : H d = some (.dK (penG a b c p m l))) : DGet H d (V.str b) (some (.int m)) := by
  have z := DGet.k (k := (Sum.inr b : Key)) h
  have e : valV (penG a b c p m l) (Sum.inr b : Key) = some (.int m) := by
    unfold penG
    rw [valV_neg (fun e => u.1 (Sum.inr.inj e)), valV_pos rfl]
  rw [e] at z
  exact z
theorem gpen_c (u : Un3 a b c) (h : H d = some (.dK (penG a b c p m l))) : DGet H d (V.str c) (some (.int l)) := by
  have z := DGet.k (k := (Sum.inr c : Key)) h
  have e : valV (penG a b c p m l) (Sum.inr c : Key) = some (.int l) := by
    unfold penG
    rw [valV_neg (fun e => u.2.1 (Sum.inr.inj e)), valV_neg (fun e => u.2.2 (Sum.inr.inj e)), valV_pos rfl]
  rw [e] at z
  exact z
theorem ppen_b (u : Un3 a b c) (h : H d = some (.dK (penG a b c p m l))) : DPut H d (V.str b) (.int m') (upd H d (.dK (penG a b c p m' l))) := by
  have z := DPut.k (k := (Sum.inr b : Key)) (v := .int m') h (by show 3 < sizeLine; decide)
  have e : putK (penG a b c p m l) (Sum.inr b : Key) (.int m') = penG a b c p m' l := by
    unfold penG putK
    simp [key_dec u.1, key_dec (show ¬ c = b from fun e => u.2.2 e.symm), u.1, u.2.2, show ¬ c = b from fun e => u.2.2 e.symm]
  rw [e] at z
  exact z
theorem ppen_c (u : Un3 a b c) (h : H d = some (.dK (penG a b c p m l))) : DPut H d (V.str c) (.int l') (upd H d (.dK (penG a b c p m l'))) := by
  have z := DPut.k (k := (Sum.inr c : Key)) (v := .int l') h (by show 3 < sizeLine; decide)
  have e : putK (penG a b c p m l) (Sum.inr c : Key) (.int l') = penG a b c p m l' := by
    unfold penG putK
    simp [key_dec u.2.1, key_dec u.2.2, u.2.1, u.2.2]
  rw [e] at z
  exact z
/-- the pen stands at d: at most B draws were begun -/
structure PenG (a b c : Str) (H : Hp) (d : Addr) (B : Int) : Prop where
  ex : ∃ (p : Addr) (ns : List Int) (m l : Int), H d = some (.dK (penG a b c p m l)) ∧ H p = some (.lst (ns.map V.int)) ∧ ns.length ≤ 63 ∧ 0 ≤ m ∧ m ≤ B
theorem PenG.mono (h : PenG a b c H d B) (z : B ≤ B') : PenG a b c H d B' := by
  obtain ⟨p, ns, m, l, e1, e2, e3, f, g⟩ := h.ex
  exact ⟨p, ns, m, l, e1, e2, e3, f, by omega⟩
theorem PenG.same (h : PenG a b c H d B) (s : Same H H') : PenG a b c H' d B := by
  obtain ⟨p, ns, m, l, e1, e2, e3, f, g⟩ := h.ex
  exact ⟨p, ns, m, l, s _ _ e1, s _ _ e2, e3, f, g⟩
theorem PenG.at_ (h : PenG a b c H d B) : ∃ kvs, H d = some (.dK kvs) ∧ ∃ q ∈ kvs, flatB q.2 = false := by
  obtain ⟨p, ns, m, l, e, _⟩ := h.ex
  exact ⟨_, e, _, List.mem_cons_self, rfl⟩
theorem PenG.odd {x : V} (h : PenG a b c H d B) (o : Odd H x) : x ≠ .ref d := by
  obtain ⟨kvs, e, q, hq, f⟩ := h.at_
  intro z
  rw [z] at o
  cases o with
  | flat h => cases h
  | lst e' f => rw [e] at e'; cases e'
  | tup e' f => rw [e] at e'; cases e'
  | dct e' n g =>
    rw [e] at e'
    cases e'
    rw [g _ hq] at f
    cases f
theorem tabs_keepG {T : List (Addr × Str)} (h : Tabs T H) (hp : PenG a b c H d B) (k : Keep d H H') : Tabs T H' := fun p hq => by
  obtain ⟨kvs, ed, _⟩ := hp.at_
  obtain ⟨ps, h1, h2, h3⟩ := h p hq
  have a : p.1 ≠ d := ne_of h1 ed (by intro z; cases z)
  refine ⟨ps, k _ _ a h1, h2, fun pos cv hc => ?_⟩
  obtain ⟨c, e1, e2⟩ := h3 pos cv hc
  have b : c ≠ d := ne_of e2 ed (by unfold CodeO; intro z; cases z)
  exact ⟨c, e1, k _ _ b e2⟩
end
/-- the dict that begins a pen, written out -/
theorem merge_pen {a b c : Str} (u : Un3 a b c) (p : Addr) (m l : Int) : mergeK [] [(Sum.inr a, V.ref p), (Sum.inr b, V.int m), (Sum.inr c, V.int l)] = penG a b c p m l := by
  unfold mergeK
  rw [List.foldl_cons, putK_new _ valV_nil, List.foldl_cons, putK_new _ (by
    rw [List.nil_append, valV_neg (fun e => u.1 (Sum.inr.inj e)), valV_nil]), List.foldl_cons, putK_new _ (by
    show valV [_, _] _ = none
    rw [valV_neg (fun e => u.2.1 (Sum.inr.inj e)), valV_neg (fun e => u.2.2 (Sum.inr.inj e)), valV_nil])]
  rfl
theorem cut63 (xs : List V) (h : xs.length ≤ 63) : cutV xs none (some 63) = xs := by
  unfold cutV
  rw [HT.sIx_none, show HT.sIx xs.length xs.length (some 63) = min 63 xs.length from HT.sIx_nat xs.length xs.length 63, List.drop_zero, Nat.min_eq_right h, Nat.sub_zero, List.take_length]
theorem neG_nil {xs : List Int} : PyData.eqv (.list (xs.map PyData.int)) (.list []) = decide (xs = []) := by
  cases xs with
  | nil => rfl
  | cons a r => rfl
theorem dpG_ints {K : PySem.W.Frag} {H : Hp} : ∀ ns : List Int, DpAll K H (ns.map V.int) (ns.map PyData.int)
  | [] => .nil
  | a :: r => .cons (.int a) (dpG_ints r)
theorem layG_ints : ∀ ns : List Int, PyData.canLayAll0 (ns.map PyData.int) = true
  | [] => by simp only [List.map_nil, PyData.canLayAll0]
  | a :: r => by simp only [List.map_cons, PyData.canLayAll0, PyData.canLay0, layG_ints r, Bool.and_self]
theorem depG_ints : ∀ ns : List Int, PyData.depthAll (ns.map PyData.int) ≤ 1
  | [] => by simp [PyData.depthAll]
  | a :: r => by
    have z := depG_ints r
    simp only [List.map_cons, PyData.depthAll, PyData.depth]
    omega
theorem shG_ints (ns : List Int) : SeqAt.shaped (.list (ns.map PyData.int)) = true := by
  have a := layG_ints ns
  have b := depG_ints ns
  have z : (PyData.list (ns.map PyData.int)).depth ≤ 64 := by
    simp only [PyData.depth]
    omega
  unfold SeqAt.shaped
  rw [Bool.and_eq_true]
  exact ⟨by simpa [PyData.canLay0] using a, decide_eq_true z⟩
end Own

/-! own layer, of no law: OWNY: what drawing keeps, the pen's list among it. -/
namespace Own
open PySem PySem.Spec PyProof.Rows L2 LamX NdefX
/-- all but the pen's dict is as it was; its list is the same one -/
structure KeepG (a b c : Str) (d : Addr) (H H' : Hp) : Prop where
  k : ∀ x o, x ≠ d → H x = some o → H' x = some o
  c : ∀ p m l, H d = some (.dK (penG a b c p m l)) → ∃ m' l', H' d = some (.dK (penG a b c p m' l'))
instance {a b c : Str} {d : Addr} {H H' : Hp} : CoeFun (KeepG a b c d H H') (fun _ => ∀ x o, x ≠ d → H x = some o → H' x = some o) := ⟨KeepG.k⟩
section
variable {a b c : Str} {d p x : Addr} {o : HO} {H H' H1 H2 : Hp} {m l m' l' : Int}
theorem penG_inj {p p' : Addr} {m m' l l' : Int} (h : penG a b c p m l = penG a b c p' m' l') : p = p' := by
  unfold penG at h
  have z := (List.cons.inj h).1
  exact V.ref.inj (Prod.mk.inj z).2
theorem KeepG.refl : KeepG a b c d H H := ⟨fun _ _ _ e => e, fun _ m l e => ⟨m, l, e⟩⟩
theorem KeepG.trans (h : KeepG a b c d H H1) (k : KeepG a b c d H1 H2) : KeepG a b c d H H2 :=
  ⟨fun x o n e => k.k x o n (h.k x o n e), fun p m l e => by
    obtain ⟨m1, l1, e1⟩ := h.c p m l e
    exact k.c p m1 l1 e1⟩
theorem KeepG.same (s : Same H H') : KeepG a b c d H H' := ⟨fun x o _ e => s x o e, fun p m l e => ⟨m, l, s _ _ e⟩⟩
theorem KeepG.new (h : H p = none) : KeepG a b c d H (upd H p o) := KeepG.same (same_new h)
theorem KeepG.put (hd : H d = some (.dK (penG a b c p m l))) : KeepG a b c d H (upd H d (.dK (penG a b c p m' l'))) :=
  ⟨fun x o n e => (upd_ne n).trans e, fun p' m1 l1 e => by
    have z := e.symm.trans hd
    have y := penG_inj (HO.dK.inj (Option.some.inj z))
    rw [y]
    exact ⟨m', l', upd_same⟩⟩
/-- x is not the pen's list -/
def OffG (a b c : Str) (H : Hp) (d x : Addr) : Prop := ∀ p m l, H d = some (.dK (penG a b c p m l)) → p ≠ x
theorem OffG.of {B : Int} (hp : PenG a b c H d B) (h : H x = none) : OffG a b c H d x := fun p m l e => by
  obtain ⟨p0, ns, m0, l0, e0, e1, _⟩ := hp.ex
  have y := penG_inj (HO.dK.inj (Option.some.inj (e.symm.trans e0)))
  rw [y]
  exact ne_of_none e1 h
theorem OffG.keep {B : Int} (h : OffG a b c H d x) (hp : PenG a b c H d B) (k : KeepG a b c d H H') : OffG a b c H' d x := fun p m l e => by
  obtain ⟨p0, ns, m0, l0, e0, _⟩ := hp.ex
  obtain ⟨m1, l1, e1⟩ := k.c p0 m0 l0 e0
  have y := penG_inj (HO.dK.inj (Option.some.inj (e.symm.trans e1)))
  rw [y]
  exact h p0 m0 l0 e0
theorem OffG.at_ {y : Addr} (h : OffG a b c H d x) (n : d ≠ y) : OffG a b c (upd H y o) d x := fun p m l e => h p m l ((upd_ne n).symm.trans e)
/-- a list that is not the pen's is stored anew -/
theorem PenG.put {B : Int} {xs : List V} (hp : PenG a b c H d B) (hx : H x = some (.lst xs)) (f : OffG a b c H d x) : PenG a b c (upd H x o) d B := by
  obtain ⟨p, ns, m, l, e1, e2, e3, e4, e5⟩ := hp.ex
  have n1 : d ≠ x := ne_of e1 hx (by intro z; cases z)
  exact ⟨p, ns, m, l, (upd_ne n1).trans e1, (upd_ne (f p m l e1)).trans e2, e3, e4, e5⟩
theorem PenG.ne_lst {B : Int} {xs : List V} (hp : PenG a b c H d B) (hx : H x = some (.lst xs)) : d ≠ x := by
  obtain ⟨p, ns, m, l, e1, _⟩ := hp.ex
  exact ne_of e1 hx (by intro z; cases z)
/-- .. and over what was not there at first -/
theorem KeepG.over (k : KeepG a b c d H H') (n : H x = none) : KeepG a b c d H (upd H' x o) :=
  ⟨fun y u m e => (upd_ne (ne_of_none e n)).trans (k.k y u m e), fun p m l e => by
    obtain ⟨m1, l1, e1⟩ := k.c p m l e
    exact ⟨m1, l1, (upd_ne (ne_of_none e n)).trans e1⟩⟩
theorem KeepG.lst {B : Int} {xs : List V} (k : KeepG a b c d H H') (hp : PenG a b c H d B) (h : H x = some (.lst xs)) : H' x = some (.lst xs) := k.k _ _ (hp.ne_lst h).symm h
end
end Own

/-! own layer, of no law: OWN2: operators by an own class. -/
namespace Own
open PySem PySem.Spec PyProof.Rows L2 LamX NdefX
section
variable {X : Cx} {pins : List (Addr × Obj)} {σ : L2.St} {H : Hp} {s : Shared}
theorem back_of {Q : VK} {A : Around} {c : Sem Value} (h : wpAny (model X.prog X.w) A c (EP X pins σ Q) X.xe s) : wpAny (model X.prog X.w) A c (PySem.W.CmpBack (EP X pins σ Q)) X.xe s := by
  refine wpAny_mono h (fun v s' q => ?_) fun _ _ e => e
  obtain ⟨y, H', I', r, q'⟩ := q
  cases v with
  | notImplemented => cases y <;> first | exact (nomatch r) | (obtain ⟨_, z⟩ := r; cases z)
  | _ => exact ⟨y, H', I', r, q'⟩
variable {CX : CXT} {n : Nat} {C f : Addr} {fd : FuncData} {ps : List Str} {sp : Sp} {E : XK} {op : Operator}
/-- x op y, both of the class at C, whose own method takes them -/
theorem op_own (F : FnOk X.prog X.w X.K X.mg X.base CX n f fd ps sp) (hr : Room n X.A) (hc : PySem.W.selfFirst X.K C = true) (hs : PySem.W.findIn X.K (.ref C) (PySem.dunder op.info.2) = some (some (.ref f))) (hf : PySem.W.isFn X.K (.ref f) = true) (hb : Binds X.K fd ps []) (hx : Passes CX X E) :
    OpR X (binaryOp op) (fun x y H Q => ∃ a b dx dy fs gs, x = V.ref a ∧ y = V.ref b ∧ H a = some (.ins C dx fs) ∧ H b = some (.ins C dy gs) ∧ sp [.ref a, .ref b] H Q E) := by
  intro pins s σ H x y v u Q I rx ry h
  obtain ⟨a, b, dx, dy, fs, gs, rfl, rfl, ha, hb', q⟩ := h
  cases rx
  cases ry
  obtain ⟨mA, J, _⟩ := ins_get I.hok ha
  obtain ⟨mB, J', _⟩ := ins_get I.hok hb'
  obtain ⟨od, J, _⟩ := J.look
  obtain ⟨od', J', _⟩ := J'.look
  obtain ⟨m, hF⟩ := I.fr
  exact PySem.W.binop_K hF I.ok.mod.kin J J'.type hc hs hf (back_of (run_fn F hr hb .nil hx I (.cons (show L2.RelV (V.ref a) (Value.ref a) from rfl) (.cons (show L2.RelV (V.ref b) (Value.ref b) from rfl) .nil)) q))
/-- -x of the class at C -/
theorem un_own (F : FnOk X.prog X.w X.K X.mg X.base CX n f fd ps sp) (hr : Room n X.A) (hs : PySem.W.findIn X.K (.ref C) "__neg__" = some (some (.ref f))) (hf : PySem.W.isFn X.K (.ref f) = true) (hb : Binds X.K fd ps []) (hx : Passes CX X E) :
    UnR X (unaryOp .USub) (fun x H Q => ∃ a dx fs, x = V.ref a ∧ H a = some (.ins C dx fs) ∧ sp [.ref a] H Q E) := by
  intro pins s σ H x v Q I rx h
  obtain ⟨a, dx, fs, rfl, ha, q⟩ := h
  cases rx
  obtain ⟨mA, J, _⟩ := ins_get I.hok ha
  obtain ⟨od, J, _⟩ := J.look
  obtain ⟨m, hF⟩ := I.fr
  exact PySem.W.ksp_neg hF I.ok.mod.kin J hs hf (run_fn F hr hb .nil hx I (.cons (show L2.RelV (V.ref a) (Value.ref a) from rfl) .nil) q)
end
end Own

/-! own layer, of no law: OWN3: an own class and a built-in value, on either side. -/
namespace Own
open PySem PySem.Spec PySem.Calls PyProof.Rows
section
variable {prog : Program} {w : World} {A : Around} {E : Value → Shared → Prop} {s : Shared} {K : PySem.W.Frag} {x C f : Addr} {ox : Obj} {od : Option Obj} {T : String}
open PySem.W in
/-- own op built-in -/
theorem own_left {op : Operator} {b : Value} {r : Bool} {back ours : Option Value} {Q : Value → Shared → Prop} (KX : K.In s.heap) (J : InstAt s.heap x ox C od) (tb : Looks (model prog w) s.heap (typeOf b) (.type T)) (one : selfFirst K C = true)
    (me : findIn K (.ref C) (PySem.dunder op.info.2) = some (some (.ref f))) (fn : isFn K (.ref f) = true) (mr : findIn K (.ref C) (dunderR op.info.2) = some ours) (mp : ours = none ∨ ∃ g : Addr, ours = some (.ref g))
    (slot : fillsNumberSlot (.type T) op.info.2 = pure r) (their : typeLookup (.type T) (dunderR op.info.2) = pure back) (nosub : subIn K (.type T) (.ref C) = some false)
    (go : wpAny (model prog w) A (call (.ref f) [.ref x, b]) (PySem.W.CmpBack Q) E s) : wpAny (model prog w) A (binaryOp op (.ref x) b) Q E s := by
  obtain ⟨cd, tl, c1, c2⟩ := ksp_first one
  obtain ⟨sy, nm, e⟩ : ∃ sy nm, op.info = (sy, nm) := ⟨_, _, rfl⟩
  rw [e] at me mr slot their
  have did := ksp_try KX J me fn go
  obtain ⟨hp, gs, dr, tk, os⟩ := s
  have q1 : Looks (model prog w) hp (typeOf (.ref x)) (.ref C) := J.type
  have q3 : Looks (model prog w) hp (fillsNumberSlot (.ref C) nm) true := fills_K KX c1 c2 me
  have q4 : Looks (model prog w) hp (fillsNumberSlot (.type T) nm) r := Looks.of_pure slot
  have q5 : Looks (model prog w) hp (isSubtype (.type T) (.ref C)) false := looks_subIn KX nosub
  have q6 : Looks (model prog w) hp (numberSlotInPython (.ref C) nm) true := ksp_inPy KX me mr mp
  have q7 : Looks (model prog w) hp (numberSlotInPython (.type T) nm) false := Looks.of_pure rfl
  have q8 : Looks (model prog w) hp (typeLookup (.type T) (dunderR nm)) back := Looks.of_pure their
  have ne : (Value.ref C == Value.type T) = false := by rw [beq_eq_false_iff_ne]; intro z; cases z
  unfold binaryOp
  rw [e]
  dsimp only
  refine wpAny_holding (wpAny_bind ?_)
  unfold binaryOp1
  refine wpAny_bind (q1.at (wpAny_bind (tb.at (wpAny_bind (q3.at ?_)))))
  rw [ne]
  simp only [Bool.false_eq_true, if_false]
  cases r
  · ksp_lk
    refine wpAny_mono did (fun u s' z => ?_) fun _ _ z => z
    obtain ⟨v, rfl, hv⟩ := z
    ksp_lk
    exact hv
  · ksp_lk
    refine wpAny_mono did (fun u s' z => ?_) fun _ _ z => z
    obtain ⟨v, rfl, hv⟩ := z
    ksp_lk
    exact hv
open PySem.W in
/-- built-in op own: the built-in's own slot stands off, the class's reflected method takes them -/
theorem own_right {op : Operator} {a : Value} {l : Bool} {Q : Value → Shared → Prop} (KX : K.In s.heap) (J : InstAt s.heap x ox C od) (ta : ∀ s' : Shared, (∀ b o, s.heap.get? b = some o → s'.heap.get? b = some o) → Looks (model prog w) s'.heap (typeOf a) (.type T)) (one : selfFirst K C = true)
    (mr : findIn K (.ref C) (dunderR op.info.2) = some (some (.ref f))) (fn : isFn K (.ref f) = true) (fills : ∀ h : Heap, K.In h → Looks (model prog w) h (fillsNumberSlot (.ref C) op.info.2) true)
    (slot : fillsNumberSlot (.type T) op.info.2 = pure l) (nosub : subIn K (.ref C) (.type T) = some false)
    (off : l = true → ∀ {R : Option Value → Shared → Prop} {s' : Shared}, (∀ b o, s.heap.get? b = some o → s'.heap.get? b = some o) → (∀ t : Tok, R none { s' with toks := t }) → wpAny (model prog w) A (tryMethod a (PySem.dunder op.info.2) (.ref x)) R E s')
    (go : ∀ t : Tok, wpAny (model prog w) A (call (.ref f) [.ref x, a]) (PySem.W.CmpBack Q) E { s with toks := t }) : wpAny (model prog w) A (binaryOp op a (.ref x)) Q E s := by
  obtain ⟨sy, nm, e⟩ : ∃ sy nm, op.info = (sy, nm) := ⟨_, _, rfl⟩
  rw [e] at mr slot fills off
  have did : ∀ t : Tok, wpAny (model prog w) A (tryMethod (.ref x) (dunderR nm) a) (fun u s' => ∃ v, u = some v ∧ Q v s') E { s with toks := t } := fun t => ksp_try (s := { s with toks := t }) KX J mr fn (go t)
  have here := ta s fun _ _ z => z
  have q3 := fills s.heap KX
  obtain ⟨hp, gs, dr, tk, os⟩ := s
  have q1 : Looks (model prog w) hp (typeOf (.ref x)) (.ref C) := J.type
  have q2 : Looks (model prog w) hp (typeOf a) (.type T) := here
  have q4 : Looks (model prog w) hp (fillsNumberSlot (.type T) nm) l := Looks.of_pure slot
  have q5 : Looks (model prog w) hp (isSubtype (.ref C) (.type T)) false := looks_subIn KX nosub
  have q6 : Looks (model prog w) hp (fillsNumberSlot (.ref C) nm) true := q3
  have q7 : Looks (model prog w) hp (numberSlotInPython (.type T) nm) false := Looks.of_pure rfl
  have ne : (Value.type T == Value.ref C) = false := by rw [beq_eq_false_iff_ne]; intro z; cases z
  unfold binaryOp
  rw [e]
  dsimp only
  refine wpAny_holding (wpAny_bind ?_)
  unfold binaryOp1
  refine wpAny_bind (q2.at (wpAny_bind (q1.at (wpAny_bind (q4.at ?_)))))
  rw [ne]
  simp only [Bool.false_eq_true, if_false]
  refine wpAny_bind (q6.at ?_)
  cases l
  · ksp_lk
    refine wpAny_mono (did tk) (fun u s' z => ?_) fun _ _ z => z
    obtain ⟨v, rfl, hv⟩ := z
    ksp_lk
    exact hv
  · ksp_lk
    refine off rfl (fun _ _ z => z) fun t => ?_
    ksp_lk
    refine wpAny_mono (did t) (fun u s' z => ?_) fun _ _ z => z
    obtain ⟨v, rfl, hv⟩ := z
    ksp_lk
    exact hv
end
end Own

/-! own layer, of no law: OWN4. -/
namespace Own
open PySem PySem.Spec PySem.Calls PyProof.Rows AutoSeq1
def tys : List String := ["NoneType", "bool", "int", "str", "list", "tuple", "dict"]
theorem fill_add : ∀ T ∈ tys, fillsNumberSlot (.type T) "add" = pure (T == "int" || T == "bool") := by
  intro T hT
  simp only [tys, List.mem_cons, List.not_mem_nil, or_false] at hT
  rcases hT with rfl | rfl | rfl | rfl | rfl | rfl | rfl <;> kernel_rfl
theorem fill_sub : ∀ T ∈ tys, fillsNumberSlot (.type T) "sub" = pure (T == "int" || T == "bool") := by
  intro T hT
  simp only [tys, List.mem_cons, List.not_mem_nil, or_false] at hT
  rcases hT with rfl | rfl | rfl | rfl | rfl | rfl | rfl <;> kernel_rfl
theorem fill_mul : ∀ T ∈ tys, fillsNumberSlot (.type T) "mul" = pure (T == "int" || T == "bool") := by
  intro T hT
  simp only [tys, List.mem_cons, List.not_mem_nil, or_false] at hT
  rcases hT with rfl | rfl | rfl | rfl | rfl | rfl | rfl <;> kernel_rfl
theorem refl_add : ∀ T ∈ tys, typeLookup (.type T) (dunderR "add") = pure (if (T == "int" || T == "bool") = true then some (.builtin "int.__radd__") else none) := by
  intro T hT
  simp only [tys, List.mem_cons, List.not_mem_nil, or_false] at hT
  rcases hT with rfl | rfl | rfl | rfl | rfl | rfl | rfl <;> (rw [typeLookup_type, builtinLookup_eq_fast]; kernel_rfl)
theorem refl_sub : ∀ T ∈ tys, typeLookup (.type T) (dunderR "sub") = pure (if (T == "int" || T == "bool") = true then some (.builtin "int.__rsub__") else none) := by
  intro T hT
  simp only [tys, List.mem_cons, List.not_mem_nil, or_false] at hT
  rcases hT with rfl | rfl | rfl | rfl | rfl | rfl | rfl <;> (rw [typeLookup_type, builtinLookup_eq_fast]; kernel_rfl)
theorem refl_mul : ∀ T ∈ tys, typeLookup (.type T) (dunderR "mul") = pure (if (T == "int" || T == "bool") = true then some (.builtin "int.__rmul__") else if T == "str" then some (.builtin "str.__rmul__") else if T == "list" then some (.builtin "list.__rmul__") else if T == "tuple" then some (.builtin "tuple.__rmul__") else none) := by
  intro T hT
  simp only [tys, List.mem_cons, List.not_mem_nil, or_false] at hT
  rcases hT with rfl | rfl | rfl | rfl | rfl | rfl | rfl <;> (rw [typeLookup_type, builtinLookup_eq_fast]; kernel_rfl)
/-- an int's own slot stands off an object that is no int -/
theorem off_meets {nm : String} {x : Addr} {v : Value} {i : Int} {g : Int → Int → Sem Fin} (hv : (∃ t, v = .int i t) ∨ ∃ b, v = .bool b) : Meets (Builtin.Int.intBinary nm g false ⟨[v, .ref x], []⟩) (fun _ R s => ∃ o, s.heap.get? x = some o ∧ o.data = .plain ∧ R (.ok (.ret .notImplemented)) s) := by
  intro prog w A R s h
  obtain ⟨o, e, d, q⟩ := h
  obtain ⟨hp, gs, dr, tk, os⟩ := s
  rcases hv with ⟨t, rfl⟩ | ⟨b, rfl⟩
  · unfold Builtin.Int.intBinary
    wp_walk using wpAny_loadPart' e
    rw [d]
    exact wpAny_pure (wpAny_bind (wpAny_rule (wpAny_pure q)))
  · unfold Builtin.Int.intBinary
    wp_walk using wpAny_loadPart' e
    rw [d]
    exact wpAny_pure (wpAny_bind (wpAny_rule (wpAny_pure q)))
section
variable {prog : Program} {w : World} {A : Around} {E : Value → Shared → Prop} {s : Shared} {x : Addr} {o : Obj} {v : Value} {i : Int}
/-- .. so its method gives none -/
theorem off_try {T id : String} {nm : String} {nb : String} {g : Int → Int → Sem PySem.Fin} {R : Option Value → Shared → Prop} (hv : (∃ t, v = .int i t) ∨ ∃ b, v = .bool b) (ho : s.heap.get? x = some o) (hd : o.data = .plain) (hT : s.TypeIs v T) (slot : Slot T (dunder nm) id)
    (entry : entryFor table id = some (Builtin.Int.intBinary nb g false)) (args : argsOk id ⟨[v, .ref x], []⟩) (h : R none s) : wpAny (model prog w) A (tryMethod v (dunder nm) (.ref x)) R E s := by
  unfold tryMethod
  exact wpAny_bind (wpAny_callSpecial?_slot hT slot (call_meets slot hT entry args (off_meets hv) ⟨o, ho, hd, wpAny_pure h⟩))
theorem off_add {R : Option Value → Shared → Prop} (ho : s.heap.get? x = some o) (hd : o.data = .plain) (h : R none s) : (∀ t, v = .int i t → wpAny (model prog w) A (tryMethod v (dunder "add") (.ref x)) R E s) ∧ (∀ b, v = .bool b → wpAny (model prog w) A (tryMethod v (dunder "add") (.ref x)) R E s) := by
  refine ⟨fun t e => ?_, fun b e => ?_⟩
  · exact off_try (T := "int") (i := i) (.inl ⟨t, e⟩) ho hd (by rw [e]; exact rfl) F.slot_int_add F.entry_int_add (F.args_int_add_2 _ _) h
  · exact off_try (T := "bool") (i := i) (.inr ⟨b, e⟩) ho hd (by rw [e]; exact rfl) F.slot_bool_add F.entry_int_add (F.args_int_add_2 _ _) h
end
end Own

/-! own layer, of no law: OWN5: rules for an own class's operators with what is handed in. -/
namespace Own
open PySem PySem.Spec PyProof.Rows L2 LamX NdefX
/-- what an operator's built-in slots say -/
structure OpB (op : Operator) : Prop where
  fill : ∀ T ∈ tys, fillsNumberSlot (.type T) op.info.2 = pure (T == "int" || T == "bool")
  back : ∀ T ∈ tys, ∃ r, typeLookup (.type T) (dunderR op.info.2) = pure r
  off : ∀ {prog : Program} {w : World} {A : Around} {E : Value → Shared → Prop} {s : Shared} {x : Addr} {o : Obj} {v : Value} {i : Int} {R : Option Value → Shared → Prop}, s.heap.get? x = some o → o.data = .plain → ((∃ t, v = .int i t) ∨ ∃ b, v = .bool b) → R none s →
    wpAny (model prog w) A (tryMethod v (PySem.dunder op.info.2) (.ref x)) R E s
theorem opb_add : OpB .Add := ⟨fill_add, fun T h => ⟨_, refl_add T h⟩, fun {prog w A E s x o v i R} ho hd hv h => by
  rcases hv with ⟨t, e⟩ | ⟨b, e⟩
  · exact off_try (T := "int") (i := i) (.inl ⟨t, e⟩) ho hd (by rw [e]; exact rfl) F.slot_int_add F.entry_int_add (F.args_int_add_2 _ _) h
  · exact off_try (T := "bool") (i := i) (.inr ⟨b, e⟩) ho hd (by rw [e]; exact rfl) F.slot_bool_add F.entry_int_add (F.args_int_add_2 _ _) h⟩
theorem opb_sub : OpB .Sub := ⟨fill_sub, fun T h => ⟨_, refl_sub T h⟩, fun {prog w A E s x o v i R} ho hd hv h => by
  rcases hv with ⟨t, e⟩ | ⟨b, e⟩
  · exact off_try (T := "int") (i := i) (.inl ⟨t, e⟩) ho hd (by rw [e]; exact rfl) F.slot_int_sub F.entry_int_sub (F.args_int_sub_2 _ _) h
  · exact off_try (T := "bool") (i := i) (.inr ⟨b, e⟩) ho hd (by rw [e]; exact rfl) F.slot_bool_sub F.entry_int_sub (F.args_int_sub_2 _ _) h⟩
theorem opb_mul : OpB .Mult := ⟨fill_mul, fun T h => ⟨_, refl_mul T h⟩, fun {prog w A E s x o v i R} ho hd hv h => by
  rcases hv with ⟨t, e⟩ | ⟨b, e⟩
  · exact off_try (T := "int") (i := i) (.inl ⟨t, e⟩) ho hd (by rw [e]; exact rfl) F.slot_int_mul F.entry_int_mul (F.args_int_mul_2 _ _) h
  · exact off_try (T := "bool") (i := i) (.inr ⟨b, e⟩) ho hd (by rw [e]; exact rfl) F.slot_bool_mul F.entry_int_mul (F.args_int_mul_2 _ _) h⟩
section
variable {X : Cx} {pins : List (Addr × Obj)} {σ : L2.St} {H : Hp} {s : Shared}
/-- of which built-in type a thing is -/
theorem thing_ty {x : V} {v : Value} (I : Inv X pins σ H s) (t : Thing H x) (r : RelV x v) : ∃ T ∈ tys, PySem.W.Looks (model X.prog X.w) s.heap (typeOf v) (.type T) ∧ ((T == "int" || T == "bool") = true → ∃ i : Int, (∃ t, v = .int i t) ∨ ∃ b, v = .bool b) := by
  cases t with
  | non =>
    obtain rfl : v = .none := r
    exact ⟨"NoneType", by simp [tys], .of_pure rfl, fun z => absurd z (by decide)⟩
  | bl b =>
    obtain rfl : v = .bool b := r
    exact ⟨"bool", by simp [tys], .of_pure rfl, fun _ => ⟨0, .inr ⟨b, rfl⟩⟩⟩
  | int i =>
    obtain ⟨t, rfl⟩ := r
    exact ⟨"int", by simp [tys], .of_pure rfl, fun _ => ⟨i, .inl ⟨t, rfl⟩⟩⟩
  | str z =>
    obtain ⟨t, rfl⟩ := r
    exact ⟨"str", by simp [tys], .of_pure rfl, fun z => absurd z (by decide)⟩
  | @lst a xs e =>
    obtain rfl : v = .ref a := r
    obtain ⟨_, its, n, _, ho⟩ := I.hok a _ e
    exact ⟨"list", by simp [tys], fun A Q E s' k q => wpAny_typeOf_ref (k _ _ ho) q, fun z => absurd z (by decide)⟩
  | @tup a xs e =>
    obtain rfl : v = .ref a := r
    obtain ⟨_, its, _, o, ho, hc, _⟩ := I.hok a _ e
    exact ⟨"tuple", by simp [tys], fun A Q E s' k q => wpAny_typeOf_ref (k _ _ ho) (by rw [hc]; exact q), fun z => absurd z (by decide)⟩
  | @dct a kvs e =>
    obtain rfl : v = .ref a := r
    obtain ⟨_, _, vs, _, o, es, ep, ho, hc, _⟩ := I.hok a _ e
    exact ⟨"dict", by simp [tys], fun A Q E s' k q => wpAny_typeOf_ref (k _ _ ho) (by rw [hc.1]; exact q), fun z => absurd z (by decide)⟩
variable {CX : CXT} {n : Nat} {C f g : Addr} {fd : FuncData} {ps : List Str} {sp : Sp} {E : XK} {op : Operator}
/-- own op thing -/
theorem op_ownL (B : OpB op) (F : FnOk X.prog X.w X.K X.mg X.base CX n f fd ps sp) (hr : Room n X.A) (hc : PySem.W.selfFirst X.K C = true) (hs : PySem.W.findIn X.K (.ref C) (PySem.dunder op.info.2) = some (some (.ref f))) (hf : PySem.W.isFn X.K (.ref f) = true)
    (hm : PySem.W.findIn X.K (.ref C) (dunderR op.info.2) = some (some (.ref g))) (hsub : ∀ T ∈ tys, PySem.W.subIn X.K (.type T) (.ref C) = some false) (hb : Binds X.K fd ps []) (hx : Passes CX X E) :
    OpR X (binaryOp op) (fun x y H Q => ∃ a dx fs, x = V.ref a ∧ H a = some (.ins C dx fs) ∧ Thing H y ∧ sp [.ref a, y] H Q E) := by
  intro pins s σ H x y v u Q I rx ry h
  obtain ⟨a, dx, fs, rfl, ha, ty, q⟩ := h
  cases rx
  obtain ⟨mA, J, _⟩ := ins_get I.hok ha
  obtain ⟨od, J, _⟩ := J.look
  obtain ⟨T, hT, lk, _⟩ := thing_ty I ty ry
  obtain ⟨r, hbk⟩ := B.back T hT
  exact own_left I.kIn J lk hc hs hf hm (.inr ⟨g, rfl⟩) (B.fill T hT) hbk (hsub T hT) (back_of (run_fn F hr hb .nil hx I (.cons (show L2.RelV (V.ref a) (Value.ref a) from rfl) (.cons ry .nil)) q))
/-- thing op own -/
theorem op_ownR (B : OpB op) (F : FnOk X.prog X.w X.K X.mg X.base CX n f fd ps sp) (hr : Room n X.A) (hc : PySem.W.selfFirst X.K C = true) (hs : PySem.W.findIn X.K (.ref C) (PySem.dunder op.info.2) = some (some (.ref g))) (hf : PySem.W.isFn X.K (.ref f) = true)
    (hm : PySem.W.findIn X.K (.ref C) (dunderR op.info.2) = some (some (.ref f))) (hsub : ∀ T ∈ tys, PySem.W.subIn X.K (.ref C) (.type T) = some false) (hb : Binds X.K fd ps []) (hx : Passes CX X E) :
    OpR X (binaryOp op) (fun x y H Q => ∃ b dy fs, y = V.ref b ∧ H b = some (.ins C dy fs) ∧ Thing H x ∧ sp [.ref b, x] H Q E) := by
  intro pins s σ H x y v u Q I rx ry h
  obtain ⟨b, dy, fs, rfl, hb', tx, q⟩ := h
  cases ry
  obtain ⟨mB, J, _⟩ := ins_get I.hok hb'
  obtain ⟨od, J, _⟩ := J.look
  obtain ⟨T, hT, lk, num⟩ := thing_ty I tx rx
  obtain ⟨cd, tl, c1, c2⟩ := PySem.W.ksp_first hc
  refine own_right I.kIn J (fun s' k => lk.keeps k) hc hm hf (fun h K' => PySem.W.fills_K K' c1 c2 hs) (B.fill T hT) (hsub T hT) (fun z R s' k hR => ?_) fun t => ?_
  · obtain ⟨i, hi⟩ := num z
    obtain ⟨_, _, _, ho, _⟩ := I.hok b _ hb'
    exact B.off (k _ _ ho) rfl hi (hR s'.toks)
  · exact back_of (run_fn F hr hb .nil hx (I.tok t) (.cons (show L2.RelV (V.ref b) (Value.ref b) from rfl) (.cons rx .nil)) q)
end
end Own

/-! own layer, of no law: OWN6: == and abs of an own class. -/
namespace Own
open PySem PySem.Spec PyProof.Rows L2 LamX NdefX
section
variable {X : Cx} {pins : List (Addr × Obj)} {σ : L2.St} {H : Hp} {s : Shared}
variable {CX : CXT} {n : Nat} {C f : Addr} {fd : FuncData} {ps : List Str} {sp : Sp} {E : XK}
/-- own == anything -/
theorem op_ownEq (F : FnOk X.prog X.w X.K X.mg X.base CX n f fd ps sp) (hr : Room n X.A) (hs : PySem.W.findIn X.K (.ref C) "__eq__" = some (some (.ref f))) (hf : PySem.W.isFn X.K (.ref f) = true) (hsub : ∀ T ∈ tys, PySem.W.subIn X.K (.type T) (.ref C) = some false) (hb : Binds X.K fd ps []) (hx : Passes CX X E) :
    OpR X (compareOp .Eq) (fun x y H Q => ∃ a dx fs, x = V.ref a ∧ H a = some (.ins C dx fs) ∧ ((∃ b dy gs, y = V.ref b ∧ H b = some (.ins C dy gs)) ∨ Thing H y) ∧ sp [.ref a, y] H Q E) := by
  intro pins s σ H x y v u Q I rx ry h
  obtain ⟨a, dx, fs, rfl, ha, ty, q⟩ := h
  cases rx
  obtain ⟨mA, J, _⟩ := ins_get I.hok ha
  obtain ⟨od, J, _⟩ := J.look
  obtain ⟨m, hF⟩ := I.fr
  have un : X.A.units < cLine := by
    have := hr.units
    omega
  show wpAny (model X.prog X.w) X.A (richCompare .Eq (.ref a) u) (EP X pins σ Q) X.xe s
  have call := back_of (run_fn F hr hb .nil hx I (.cons (show L2.RelV (V.ref a) (Value.ref a) from rfl) (.cons ry .nil)) q)
  rcases ty with ⟨b, dy, gs, rfl, hb'⟩ | ty
  · cases ry
    obtain ⟨mB, J', _⟩ := ins_get I.hok hb'
    obtain ⟨od', J', _⟩ := J'.look
    exact PySem.W.cmp_K (op := .Eq) (tb := .ref C) un hF I.ok.mod.kin J J'.type (by simp [PySem.W.notFirst]) hs hf call
  · obtain ⟨T, hT, lk, _⟩ := thing_ty I ty ry
    exact PySem.W.cmp_K (op := .Eq) (tb := .type T) un hF I.ok.mod.kin J lk (by unfold PySem.W.notFirst; rw [hsub T hT]; simp) hs hf call
/-- abs(own) -/
theorem call_absOwn (F : FnOk X.prog X.w X.K X.mg X.base CX n f fd ps sp) (hr : Room (n + 1) X.A) (hs : PySem.W.findIn X.K (.ref C) "__abs__" = some (some (.ref f))) (hf : PySem.W.isFn X.K (.ref f) = true) (hb : Binds X.K fd ps []) (hx : Passes CX X E) :
    CallR X (.builtin "abs") (fun xs H Q => ∃ a dx fs, xs = [V.ref a] ∧ H a = some (.ins C dx fs) ∧ sp [.ref a] H Q E) := by
  intro pins s σ H xs us Q I rs h
  obtain ⟨a, dx, fs, rfl, ha, q⟩ := h
  obtain ⟨u, rfl, rx⟩ := vals1 rs
  cases rx
  obtain ⟨mA, J, _⟩ := ins_get I.hok ha
  obtain ⟨od, J, _⟩ := J.look
  have A1 : Room n X.A.in1 := hr.in1
  refine PySem.Calls.call_function_entry kind_abs plain_abs entry_abs (args_abs _) ?_
  unfold Builtin.«abs»
  refine wpAny_bind (m := oneArg "abs" _) (wpAny_pure ?_)
  refine wpAny_bind (m := callSpecial? (.ref a) (Str.ofString "__abs__")) (PySem.W.special_fn I.kIn J hs (beq_iff_eq.mp hf) ?_)
  have e0 : Env0 X.prog X.w X.K X.mg X.base X.A.in1 X.stack s H := by
    have e := I.env0
    exact ⟨e.frames, e.mod, e.bs, e.bsz, e.funs, e.frf, e.hok, e.bare⟩
  have r1 : Vals [V.ref a] [Value.ref a] := .cons (show L2.RelV (V.ref a) (Value.ref a) from rfl) .nil
  have hl := F.len _ _ _ _ q
  refine wpAny_call (codeAny_mono (F.run X.A.in1 X.stack s H ⟨[.ref a], []⟩ [.ref a] [.ref a] Q E A1 e0 (by
    have z := hb s [.ref a] I.kIn (by simpa using hl)
    simpa using z) r1 q) fun r s' hq => ?_)
  cases r with
  | error e => exact hx pins σ H s e s' I hq
  | ok fl =>
    cases fl with
    | ret w => exact wpAny_pure ⟨_, rfl, I.after hq⟩
    | next => exact False.elim hq
    | brk => exact False.elim hq
    | cont => exact False.elim hq
end
end Own

/-! own layer, of no law: OWN7: != of an own class that has == alone. -/
namespace Own
open PySem PySem.Spec PySem.Calls PyProof.Rows
section
variable {prog : Program} {w : World} {A : Around} {E : Value → Shared → Prop} {s : Shared} {K : PySem.W.Frag} {x C f : Addr} {ox : Obj} {od : Option Obj}
open PySem.W in
theorem ne_body {b : Value} {Q : Fin → Shared → Prop} (un : A.units < cLine) (KX : K.In s.heap) (J : InstAt s.heap x ox C od) (eq : findIn K (.ref C) "__eq__" = some (some (.ref f))) (fn : isFn K (.ref f) = true)
    (go : wpAny (model prog w) A (call (.ref f) [.ref x, b]) (fun v s' => ∃ c, v = .bool c ∧ Q (.done (.ret (.bool (!c)))) s') E s) : wpAny (model prog w) A (Builtin.«object.__ne__» ⟨[.ref x, b], []⟩) Q E s := by
  unfold Builtin.«object.__ne__»
  refine wpAny_bind (m := slotArgs "__ne__" 1 _) (wpAny_pure ?_)
  dsimp only
  refine wpAny_bind (wpAny_cRoomFor un ?_)
  refine wpAny_bind (m := callSpecialIfBound? (.ref x) (Str.ofString "__eq__") [b]) (ifBound_K KX J eq fn (wpAny_mono go (fun v s' z => ?_) fun _ _ e => e))
  obtain ⟨c, rfl, q⟩ := z
  exact wpAny_bind (wpAny_truthy_bool (wpAny_pure q))
theorem ne_args (a b : Value) : argsOk "object.__ne__" ⟨[a, b], []⟩ := F.cmpArgs_ne a b
theorem ne_bind (self : Value) : bindSpecial (.builtin "object.__ne__") self = pure (.builtin "object.__ne__", [self]) :=
  (Slot.of (T := "object") (name := "__ne__") (owner := "object") (n := "__ne__") (by rw [typeLookup_type, builtinLookup_eq_fast]; kernel_rfl) (by decide +kernel) (by decide +kernel) (by decide +kernel) (.inl (by decide +kernel)) (by rw [isSubtype_type]; kernel_rfl)).bind self
open PySem.W in
theorem ne_try {b : Value} {Q : Option Value → Shared → Prop} (un : A.units + 1 < cLine) (KX : K.In s.heap) (J : InstAt s.heap x ox C od) (ne : findIn K (.ref C) "__ne__" = some (some (.builtin "object.__ne__"))) (obj : subIn K (.ref C) (.type "object") = some true) (eq : findIn K (.ref C) "__eq__" = some (some (.ref f))) (fn : isFn K (.ref f) = true)
    (go : wpAny (model prog w) A.in1 (call (.ref f) [.ref x, b]) (fun v s' => ∃ c, v = .bool c ∧ Q (some (.bool (!c))) s') E s) : wpAny (model prog w) A (tryCompare (.ref x) "__ne__" b) Q E s := by
  have isO : Looks (model prog w) s.heap (isInstance (.ref x) (.type "object")) true := J.type.andThen (looks_subIn KX obj)
  have run : wpAny (model prog w) A (call (.builtin "object.__ne__") [.ref x, b]) (fun v s' => ∃ c : Bool, v = .bool c ∧ Q (some (.bool c)) s') E s := by
    refine wpAny_call (codeAny_call_builtin (by decide +kernel) F.cmpEntry_ne (check_slot F.cmpKind_ne F.cmpSplit_ne isO (ne_args _ _) (ne_body (A := A.in1) (by exact un) KX J eq fn (wpAny_mono go (fun v s' z => ?_) fun _ _ e => e))))
    obtain ⟨c, rfl, q⟩ := z
    exact ⟨c, rfl, ⟨!c, rfl, q⟩⟩
  have fin : wpAny (model prog w) A (call (.builtin "object.__ne__") ([.ref x] ++ [b]) >>= fun v => pure (some v)) (fun r s' => ∃ c : Bool, r = some (.bool c) ∧ Q (some (.bool c)) s') E s := wpAny_bind (wpAny_mono run (fun v s' z => by
    obtain ⟨c, rfl, q⟩ := z
    exact wpAny_pure ⟨c, rfl, q⟩) fun _ _ e => e)
  have whole : wpAny (model prog w) A (callSpecialIfBound? (.ref x) "__ne__" [b]) (fun r s' => ∃ c : Bool, r = some (.bool c) ∧ Q (some (.bool c)) s') E s := by
    simp only [callSpecialIfBound?, bindSpecialIfBound?]
    refine wpAny_holding (wpAny_bind (wpAny_bind (wpAny_bind (J.type.here ((looks_findIn KX ne).here ?_)))))
    refine wpAny_bind (wpAny_askSetting (wpAny_ite ?_))
    split
    · rw [ne_bind]
      exact wpAny_bind (wpAny_pure (wpAny_pure fin))
    · rw [ne_bind]
      exact wpAny_tryCatch (wpAny_bind (wpAny_pure (wpAny_pure fin)))
  unfold tryCompare
  refine wpAny_bind (wpAny_mono whole (fun r s' z => ?_) fun _ _ e => e)
  obtain ⟨c, rfl, q⟩ := z
  exact wpAny_pure q
open PySem.W in
/-- own != b -/
theorem own_ne {b tb : Value} {Q : Value → Shared → Prop} (un : A.units + 1 < cLine) (KX : K.In s.heap) (J : InstAt s.heap x ox C od) (lk : Looks (model prog w) s.heap (typeOf b) tb) (nf : notFirst K C tb = true) (ne : findIn K (.ref C) "__ne__" = some (some (.builtin "object.__ne__"))) (obj : subIn K (.ref C) (.type "object") = some true)
    (eq : findIn K (.ref C) "__eq__" = some (some (.ref f))) (fn : isFn K (.ref f) = true) (go : wpAny (model prog w) A.in1 (call (.ref f) [.ref x, b]) (fun v s' => ∃ c, v = .bool c ∧ Q (.bool (!c)) s') E s) : wpAny (model prog w) A (richCompare .NotEq (.ref x) b) Q E s := by
  have one : wpAny (model prog w) A (tryCompare (.ref x) "__ne__" b) (fun r s' => ∃ v, r = some v ∧ Q v s') E s := ne_try un KX J ne obj eq fn (wpAny_mono go (fun v s' z => by
    obtain ⟨c, rfl, q⟩ := z
    exact ⟨c, rfl, _, rfl, q⟩) fun _ _ e => e)
  unfold richCompare
  simp only [oneThing_ref]
  refine wpAny_holding (wpAny_bind (wpAny_cRoomFor (Nat.lt_of_succ_lt un) ?_))
  refine wpAny_bind (J.type.here (wpAny_bind (lk.here ?_)))
  split
  · rename_i hd
    have sb : subIn K tb (.ref C) = some false := by
      unfold notFirst at nf
      rcases Bool.or_eq_true_iff.mp nf with z | z
      · rw [beq_iff_eq.mp z] at hd
        simp at hd
      · exact beq_iff_eq.mp z
    refine wpAny_bind ((looks_subIn KX sb).here ?_)
    rw [if_neg Bool.false_ne_true]
    refine wpAny_bind (wpAny_mono one (fun r s' z => ?_) fun _ _ z => z)
    obtain ⟨v, rfl, hv⟩ := z
    exact wpAny_pure hv
  · refine wpAny_bind (wpAny_pure ?_)
    rw [if_neg Bool.false_ne_true]
    refine wpAny_bind (wpAny_mono one (fun r s' z => ?_) fun _ _ z => z)
    obtain ⟨v, rfl, hv⟩ := z
    exact wpAny_pure hv
end
end Own

/-! own layer, of no law: OWN8: the rule of !=. -/
namespace Own
open PySem PySem.Spec PyProof.Rows L2 LamX NdefX
section
variable {X : Cx} {pins : List (Addr × Obj)} {σ : L2.St} {H : Hp} {s : Shared}
variable {CX : CXT} {n : Nat} {C f : Addr} {fd : FuncData} {ps : List Str} {sp : Sp} {E : XK}
/-- a def's run one call deeper -/
theorem run_in1 {us : List Value} {vs : List V} {Q : VK} {R : Value → Shared → Prop} (F : FnOk X.prog X.w X.K X.mg X.base CX n f fd ps sp) (hr : Room (n + 1) X.A) (hb : Binds X.K fd ps []) (hx : Passes CX X E) (I : Inv X pins σ H s) (r : Vals vs us) (q : sp vs H Q E)
    (k : ∀ v s', EP X pins σ Q v s' → R v s') : wpAny (model X.prog X.w) X.A.in1 (call (.ref f) us) R X.xe s := by
  have e0 : Env0 X.prog X.w X.K X.mg X.base X.A.in1 X.stack s H := by
    have e := I.env0
    exact ⟨e.frames, e.mod, e.bs, e.bsz, e.funs, e.frf, e.hok, e.bare⟩
  have hl := F.len _ _ _ _ q
  have bt : BindsTo s fd ⟨us, []⟩ (ps.zip us) := by
    have z := hb s us I.kIn (by rw [List.append_nil, ← r.length]; exact hl)
    rw [List.append_nil] at z
    exact z
  refine wpAny_call (codeAny_mono (F.run X.A.in1 X.stack s H ⟨us, []⟩ us vs Q E hr.in1 e0 bt r q) fun r s' hq => ?_)
  cases r with
  | error e => exact hx pins σ H s e s' I hq
  | ok fl =>
    cases fl with
    | ret w => exact k _ _ (I.after hq)
    | next => exact False.elim hq
    | brk => exact False.elim hq
    | cont => exact False.elim hq
/-- own != anything -/
theorem op_ownNe (F : FnOk X.prog X.w X.K X.mg X.base CX n f fd ps sp) (hr : Room (n + 1) X.A) (ne : PySem.W.findIn X.K (.ref C) "__ne__" = some (some (.builtin "object.__ne__"))) (obj : PySem.W.subIn X.K (.ref C) (.type "object") = some true) (hs : PySem.W.findIn X.K (.ref C) "__eq__" = some (some (.ref f))) (hf : PySem.W.isFn X.K (.ref f) = true)
    (hsub : ∀ T ∈ tys, PySem.W.subIn X.K (.type T) (.ref C) = some false) (hb : Binds X.K fd ps []) (hx : Passes CX X E) :
    OpR X (compareOp .NotEq) (fun x y H Q => ∃ a dx fs, x = V.ref a ∧ H a = some (.ins C dx fs) ∧ ((∃ b dy gs, y = V.ref b ∧ H b = some (.ins C dy gs)) ∨ Thing H y) ∧ sp [.ref a, y] H (fun v H' => ∃ c, v = .bl c ∧ Q (.bl (!c)) H') E) := by
  intro pins s σ H x y v u Q I rx ry h
  obtain ⟨a, dx, fs, rfl, ha, ty, q⟩ := h
  cases rx
  obtain ⟨mA, J, _⟩ := ins_get I.hok ha
  obtain ⟨od, J, _⟩ := J.look
  have un : X.A.units + 1 < cLine := by
    have := hr.un
    omega
  show wpAny (model X.prog X.w) X.A (richCompare .NotEq (.ref a) u) (EP X pins σ Q) X.xe s
  have go : wpAny (model X.prog X.w) X.A.in1 (call (.ref f) [.ref a, u]) (fun v s' => ∃ c, v = .bool c ∧ EP X pins σ Q (.bool (!c)) s') X.xe s := run_in1 F hr hb hx I (.cons (show L2.RelV (V.ref a) (Value.ref a) from rfl) (.cons ry .nil)) q fun v s' z => by
    obtain ⟨z, H', I', rz, c, rfl, q'⟩ := z
    obtain rfl : v = .bool c := rz
    exact ⟨c, rfl, .bl (!c), H', I', rfl, q'⟩
  rcases ty with ⟨b, dy, gs, rfl, hb'⟩ | ty
  · cases ry
    obtain ⟨mB, J', _⟩ := ins_get I.hok hb'
    obtain ⟨od', J', _⟩ := J'.look
    exact own_ne un I.kIn J J'.type (by simp [PySem.W.notFirst]) ne obj hs hf go
  · obtain ⟨T, hT, lk, _⟩ := thing_ty I ty ry
    exact own_ne un I.kIn J lk (by unfold PySem.W.notFirst; rw [hsub T hT]; simp) ne obj hs hf go
end
end Own

/-! own layer, of no law: OWN9: an attribute as one of several targets. -/
namespace Own
open PySem PySem.Spec PyProof.Rows L2 LamX NdefX
section
variable {X : Cx} {o : Expr} {ta : TE} {f : Str} {pos : Pos}
def gFld (K : PySem.W.Frag) (ta : TE) (f : Str) : TG := fun y σ H Q => ta σ H fun x H2 => ∃ a C dx fs, x = V.ref a ∧ H2 a = some (.ins C dx fs) ∧ Cls K C ∧ NoAttr K C f ∧ fs.length < 1000 ∧ Q σ (upd H2 a (.ins C dx (putF f y fs)))
theorem pg_fld (ha : PE X o ta) : PG X (.Attribute o f pos) (gFld X.K ta f) := by
  refine ⟨fun pins s σ H v u Q I r h => ?_⟩
  have e : assign (.Attribute o f pos) X.env u = (do
      let ov ← holding [u] (eval o X.env)
      standAt pos.atName
      holding [u, ov] (setAttr ov f u)
      PySem.release [u, ov] []) := rfl
  rw [e]
  refine wpAny_bind (wpAny_holding (thn (ha.run pins s σ H _ I h) fun ov s1 z => ?_))
  obtain ⟨x, H1, I1, rx, a, C, dx, fs, rfl, ea, c, n, l, q⟩ := z
  obtain rfl : ov = Value.ref a := rx
  refine wpAny_bind (wpAny_standAt (wpAny_bind (wpAny_holding (setattr_ok I1 ea c n l r fun s3 I3 => ?_))))
  exact wpAny_release ⟨σ, _, I3, q⟩
end
end Own

/-! own layer, of no law: OWNW: the nine ways, their mathematics. -/
namespace Own
open PySem PySem.Spec PyProof.Rows L2 LamX NdefX
def waysL : List Str := ["floor", "ceiling", "cut", "away", "halfup", "halfdown", "halfeven", "halfaway", "halfcut"]
def mirrL : List (Str × Str) := [("floor", "ceiling"), ("ceiling", "floor"), ("halfup", "halfdown"), ("halfdown", "halfup")]
def halvL : List (Str × Str) := [("halfup", "ceiling"), ("halfdown", "floor"), ("halfeven", "even"), ("halfaway", "away"), ("halfcut", "cut")]
def baseUp (w : Str) (b : Int) : Bool := if w = "even" then decide (b % 2 = 1) else if w = "cut" then decide (b < 0) else if w = "away" then decide (0 ≤ b) else decide (w = "ceiling")
def goesUp (w : Str) (b p : Int) : Bool := match halvL.lookup w with
  | some h => if p = 0 then baseUp h b else decide (0 < p)
  | none => baseUp w b
def near (n d : Int) (w : Str) : Int := if n % d = 0 then n / d else if goesUp w (n / d) (2 * (n % d) - d) = true then n / d + 1 else n / d
def mirr (w : Str) : Str := (mirrL.lookup w).getD w
theorem dec_int (a b : Int) : decide (V.int a = V.int b) = decide (a = b) := by simp
theorem dec_str (a b : Str) : decide (V.str a = V.str b) = decide (a = b) := by simp
/-- what the walk asks of the top: the names of built-ins are free; the tables -/
structure Txt (P : Program) (w : World) (K : PySem.W.Frag) (mg : Str → Option Value) (base : Heap) (C aW aM aH : Addr) (eM : Array DictEntry) (nM : Nat) (eH : Array DictEntry) (nH : Nat) : Prop where
  isi : mg "isinstance" = none
  int : mg "int" = none
  bool : mg "bool" = none
  len : mg "len" = none
  list : mg "list" = none
  range : mg "range" = none
  tuple : mg "tuple" = none
  all : mg "all" = none
  dm : mg "divmod" = none
  err : ErrC P w K mg base "BadValue" "value" 1 C (spErr C "value")
  gW : mg "WAYS" = some (.ref aW)
  ways : ∀ H : Hp, SqT K H aW (waysL.map V.str)
  gM : mg "MIRRORS" = some (.ref aM)
  dM : KDict K w aM eM nM
  mirr : ∀ z ∈ waysL, KGet K aM z ((mirrL.lookup z).map V.str)
  gH : mg "HALVES" = some (.ref aH)
  dH : KDict K w aH eH nH
  halv : ∀ z ∈ waysL, KGet K aH z ((halvL.lookup z).map V.str)
def isWay : V → Bool
  | .str z => decide (z ∈ waysL)
  | _ => false
theorem isWay_str {x : V} (h : isWay x = true) : ∃ z ∈ waysL, x = .str z := by
  cases x with
  | str z => exact ⟨z, by simpa [isWay] using h, rfl⟩
  | _ => simp [isWay] at h
theorem way_cases {z : Str} (h : z ∈ waysL) : z = "floor" ∨ z = "ceiling" ∨ z = "cut" ∨ z = "away" ∨ z = "halfup" ∨ z = "halfdown" ∨ z = "halfeven" ∨ z = "halfaway" ∨ z = "halfcut" := by
  simpa [waysL] using h
def baseK (z : Str) : Nat := if z = "even" then 0 else if z = "cut" then 1 else if z = "away" then 2 else if z = "ceiling" then 3 else 4
def kUp : Nat → Int → Bool
  | 0, b => decide (b % 2 = 1)
  | 1, b => decide (b < 0)
  | 2, b => decide (0 ≤ b)
  | 3, _ => true
  | _, _ => false
theorem base_k (z : Str) (b : Int) : baseUp z b = kUp (baseK z) b := by
  unfold baseUp baseK
  by_cases h1 : z = "even"
  · rw [if_pos h1, if_pos h1]
    rfl
  rw [if_neg h1, if_neg h1]
  by_cases h2 : z = "cut"
  · rw [if_pos h2, if_pos h2]
    rfl
  rw [if_neg h2, if_neg h2]
  by_cases h3 : z = "away"
  · rw [if_pos h3, if_pos h3]
    rfl
  rw [if_neg h3, if_neg h3]
  by_cases h4 : z = "ceiling"
  · rw [if_pos h4, decide_eq_true h4]
    rfl
  · rw [if_neg h4, decide_eq_false h4]
    rfl
theorem goes_none {z : Str} {k : Nat} (h : halvL.lookup z = none) (hk : baseK z = k) (b p : Int) : goesUp z b p = kUp k b := by
  unfold goesUp
  rw [h, ← hk]
  exact base_k z b
theorem goes_some {z y : Str} {k : Nat} (h : halvL.lookup z = some y) (hk : baseK y = k) (b p : Int) : goesUp z b p = if p = 0 then kUp k b else decide (0 < p) := by
  unfold goesUp
  rw [h, ← hk, ← base_k]
theorem mirr_of {z y : Str} (h : (mirrL.lookup z).getD z = y) : mirr z = y := h
theorem goes_mirr {z : Str} (hz : z ∈ waysL) (b p : Int) : goesUp (mirr z) (-b - 1) (-p) = !goesUp z b p := by
  rcases way_cases hz with rfl | rfl | rfl | rfl | rfl | rfl | rfl | rfl | rfl
  · rw [mirr_of (y := "ceiling") (by decide +kernel), goes_none (k := 3) (by decide +kernel) (by decide +kernel), goes_none (k := 4) (by decide +kernel) (by decide +kernel)]
    rfl
  · rw [mirr_of (y := "floor") (by decide +kernel), goes_none (k := 4) (by decide +kernel) (by decide +kernel), goes_none (k := 3) (by decide +kernel) (by decide +kernel)]
    rfl
  · rw [mirr_of (y := "cut") (by decide +kernel), goes_none (k := 1) (by decide +kernel) (by decide +kernel), goes_none (k := 1) (by decide +kernel) (by decide +kernel)]
    show decide (-b - 1 < 0) = !decide (b < 0)
    by_cases h : b < 0
    · rw [decide_eq_true h, decide_eq_false (by omega)]; rfl
    · rw [decide_eq_false h, decide_eq_true (by omega)]; rfl
  · rw [mirr_of (y := "away") (by decide +kernel), goes_none (k := 2) (by decide +kernel) (by decide +kernel), goes_none (k := 2) (by decide +kernel) (by decide +kernel)]
    show decide (0 ≤ -b - 1) = !decide (0 ≤ b)
    by_cases h : 0 ≤ b
    · rw [decide_eq_true h, decide_eq_false (by omega)]; rfl
    · rw [decide_eq_false h, decide_eq_true (by omega)]; rfl
  · rw [mirr_of (y := "halfdown") (by decide +kernel), goes_some (k := 4) (y := "floor") (by decide +kernel) (by decide +kernel), goes_some (k := 3) (y := "ceiling") (by decide +kernel) (by decide +kernel)]
    by_cases h : p = 0
    · rw [if_pos h, if_pos (by omega)]; rfl
    · rw [if_neg h, if_neg (by omega)]
      by_cases h : 0 < p
      · rw [decide_eq_true h, decide_eq_false (by omega)]; rfl
      · rw [decide_eq_false h, decide_eq_true (by omega)]; rfl
  · rw [mirr_of (y := "halfup") (by decide +kernel), goes_some (k := 3) (y := "ceiling") (by decide +kernel) (by decide +kernel), goes_some (k := 4) (y := "floor") (by decide +kernel) (by decide +kernel)]
    by_cases h : p = 0
    · rw [if_pos h, if_pos (by omega)]; rfl
    · rw [if_neg h, if_neg (by omega)]
      by_cases h : 0 < p
      · rw [decide_eq_true h, decide_eq_false (by omega)]; rfl
      · rw [decide_eq_false h, decide_eq_true (by omega)]; rfl
  · rw [mirr_of (y := "halfeven") (by decide +kernel), goes_some (k := 0) (y := "even") (by decide +kernel) (by decide +kernel), goes_some (k := 0) (y := "even") (by decide +kernel) (by decide +kernel)]
    by_cases h : p = 0
    · rw [if_pos h, if_pos (by omega)]
      show decide ((-b - 1) % 2 = 1) = !decide (b % 2 = 1)
      by_cases h : b % 2 = 1
      · rw [decide_eq_true h, decide_eq_false (by omega)]; rfl
      · rw [decide_eq_false h, decide_eq_true (by omega)]; rfl
    · rw [if_neg h, if_neg (by omega)]
      by_cases h : 0 < p
      · rw [decide_eq_true h, decide_eq_false (by omega)]; rfl
      · rw [decide_eq_false h, decide_eq_true (by omega)]; rfl
  · rw [mirr_of (y := "halfaway") (by decide +kernel), goes_some (k := 2) (y := "away") (by decide +kernel) (by decide +kernel), goes_some (k := 2) (y := "away") (by decide +kernel) (by decide +kernel)]
    by_cases h : p = 0
    · rw [if_pos h, if_pos (by omega)]
      show decide (0 ≤ -b - 1) = !decide (0 ≤ b)
      by_cases h : 0 ≤ b
      · rw [decide_eq_true h, decide_eq_false (by omega)]; rfl
      · rw [decide_eq_false h, decide_eq_true (by omega)]; rfl
    · rw [if_neg h, if_neg (by omega)]
      by_cases h : 0 < p
      · rw [decide_eq_true h, decide_eq_false (by omega)]; rfl
      · rw [decide_eq_false h, decide_eq_true (by omega)]; rfl
  · rw [mirr_of (y := "halfcut") (by decide +kernel), goes_some (k := 1) (y := "cut") (by decide +kernel) (by decide +kernel), goes_some (k := 1) (y := "cut") (by decide +kernel) (by decide +kernel)]
    by_cases h : p = 0
    · rw [if_pos h, if_pos (by omega)]
      show decide (-b - 1 < 0) = !decide (b < 0)
      by_cases h : b < 0
      · rw [decide_eq_true h, decide_eq_false (by omega)]; rfl
      · rw [decide_eq_false h, decide_eq_true (by omega)]; rfl
    · rw [if_neg h, if_neg (by omega)]
      by_cases h : 0 < p
      · rw [decide_eq_true h, decide_eq_false (by omega)]; rfl
      · rw [decide_eq_false h, decide_eq_true (by omega)]; rfl
theorem mirr_mem {z : Str} (hz : z ∈ waysL) : mirr z ∈ waysL := by
  rcases way_cases hz with rfl | rfl | rfl | rfl | rfl | rfl | rfl | rfl | rfl <;> decide +kernel
theorem near_mirr {n d : Int} {z : Str} (h0 : 0 < d) (hz : z ∈ waysL) : near (-n) d (mirr z) = -near n d z := by
  have r0 := Int.emod_nonneg n (show d ≠ 0 by omega)
  have r1 := Int.emod_lt_of_pos n h0
  have em := Int.emod_add_mul_ediv n d
  unfold near
  by_cases h : n % d = 0
  · have e1 : (-n) % d = 0 := Int.emod_eq_zero_of_dvd ((Int.dvd_neg).mpr (Int.dvd_of_emod_eq_zero h))
    rw [if_pos h, if_pos e1, Int.neg_ediv_of_dvd (Int.dvd_of_emod_eq_zero h)]
  · have e3 : -n = (d - n % d) + d * (-(n / d) - 1) := by
      rw [Int.mul_sub, Int.mul_neg]
      omega
    have e1 : (-n) % d = d - n % d := by
      rw [e3, Int.add_mul_emod_self_left, Int.emod_eq_of_lt (by omega) (by omega)]
    have e2 : (-n) / d = -(n / d) - 1 := by
      rw [e3, Int.add_mul_ediv_left _ _ (by omega), Int.ediv_eq_zero_of_lt (by omega) (by omega)]
      omega
    rw [if_neg h, e1, e2, if_neg (by omega)]
    have e4 : 2 * (d - n % d) - d = -(2 * (n % d) - d) := by omega
    rw [e4, goes_mirr hz]
    cases goesUp z (n / d) (2 * (n % d) - d)
    · show (if true = true then -(n / d) - 1 + 1 else _) = -(if false = true then _ else n / d)
      rw [if_pos rfl, if_neg (by decide)]
      omega
    · show (if false = true then _ else -(n / d) - 1) = -(if true = true then n / d + 1 else _)
      rw [if_pos rfl, if_neg (by decide)]
      omega
end Own

/-! own layer, of no law: OWNE: an error class whose __init__ keeps nothing. -/
namespace Own
open PySem PySem.Spec PyProof.Rows L2 LamX NdefX
section
variable {X : Cx}
theorem del_new {H : Hp} {a : Addr} {o : HO} (h : H a = none) : del (upd H a o) a = H := by
  funext b
  by_cases e : b = a
  · rw [e, del_same, h]
  · rw [del_ne e, upd_ne e]
theorem mk_endN {pins : List (Addr × Obj)} {σ : L2.St} {H1 H2 : Hp} {Q : XK} {hp hp2 h2 : Heap} {g1 g2 : Array GenState} {d1 d2 : Drawn} {t1 t2 : Nat} {os1 os2 : OsState} {a C : Addr} (T : Raises X (.ref C)) (I1 : Inv X pins σ H1 ⟨hp, g1, d1, t1, os1⟩)
    (ha : hp.objs.size ≤ a) (k : ∀ b o, hp.get? b = some o → hp2.get? b = some o) (un : Un (frs X.stack) [] (upd H1 a (exo a C none)) H2 hp2 h2) (hok : HOk X.prog X.w H2 h2) (ho : os2 = os1) (hb : AllBare g2)
    (ea : H2 a = some (exo a C none)) (q : Q (.ref C) none (del H2 a)) : MkP X pins σ Q (.ref a) ⟨h2, g2, d2, t2, os2⟩ := by
  obtain ⟨t0, hoe⟩ := exo_at hok ea
  have hn : H1 a = none := I1.hok.fresh ha
  obtain ⟨G, g1', g2'⟩ := restrict h2 fun b => decide (b ≠ a)
  have gk : ∀ b, b ≠ a → G.get? b = h2.get? b := fun b hb => g1' b (decide_eq_true hb)
  have ge : G.get? a = none := g2' a (by simp)
  have nha : ∀ {b : Addr} {o : Obj}, hp.get? b = some o → b ≠ a := fun {b o} z => Nat.ne_of_lt (Nat.lt_of_lt_of_le (Heap.lt_size z) ha)
  have up : ∀ {b : Addr}, b ≠ a → H1 b = none → upd H1 a (exo a C none) b = none := fun {b} hb n => by rw [upd_ne hb]; exact n
  have U : Un (frs X.stack) [] H1 (del H2 a) hp G := {
    keep := fun b o z n hf hx => by
      rw [gk b (nha z)]
      exact un.keep b o (k b o z) (up (nha z) n) hf hx
    slot := fun b o z n hf hx => by
      rw [gk b (nha z)]
      exact un.slot b o (k b o z) (up (nha z) n) hf hx
    free := fun b o z n hx => by
      rw [del_ne (nha z)]
      exact un.free b o (k b o z) (up (nha z) n) hx
    there := fun b o z hx => by
      rw [gk b (nha z)]
      exact un.there b o (k b o z) hx
    tups := fun b xs z => by
      rw [del_ne (ne_of_none z hn)]
      exact un.tups b xs (by rw [upd_ne (ne_of_none z hn)]; exact z)
    frzs := fun b o v z => by
      rw [del_ne (ne_of_none z hn)]
      exact un.frzs b o v (by rw [upd_ne (ne_of_none z hn)]; exact z)
    tbls := fun b ps z => by
      rw [del_ne (ne_of_none z hn)]
      exact un.tbls b ps (by rw [upd_ne (ne_of_none z hn)]; exact z) }
  have hok3 : HOk X.prog X.w (del H2 a) G := fun b o z => by
    have hba : b ≠ a := fun e => by
      rw [e, del_same] at z
      cases z
    rw [del_ne hba] at z
    have noa : ∀ {c : Addr}, H2 c = some (.own b) → c ≠ a := fun {c} hc => at_ne ea hc exo_own
    exact (hok b o z).stay (fun c v hc y => by
        have hca : c ≠ a := by
          rcases hc with hc | hc
          · rw [hc]
            exact hba
          · exact noa hc
        rw [gk c hca]
        exact y)
      (fun c hc => by rw [del_ne (noa hc)]; exact hc) (fun c xs hc => by rw [del_ne (at_ne ea hc exo_tup)]; exact hc)
  have J : Inv X pins σ (del H2 a) ⟨G, g2, d2, t2, os2⟩ := I1.call' (ch := []) ho U hok3 hb (fun b z => absurd z (by simp))
  refine ⟨a, _, _, ⟨G, g2, d2, t2, os2⟩, _, .ref C, none, rfl, J, fun b o z => ?_, ge, hoe, ⟨rfl, rfl⟩, rfl, rfl, del_same, rfl, hb, T, q⟩
  by_cases hba : b = a
  · rw [hba, ge] at z
    cases z
  · exact (gk b hba).symm.trans z
/-- C(), an own error class whose __init__ takes self alone and does nothing -/
theorem pmk_oex0 {x : Str} {C fI : Addr} {k : Nat} {fd : FuncData} {sp : Sp} {p pos : Pos} (T : OexC X.K C) (iC : PySem.W.findIn X.K (.ref C) "__init__" = some (some (.ref fI))) (tI : PySem.W.typeIn X.K (.ref fI) = some (.type "function"))
    (F1 : FnOk X.prog X.w X.K X.mg X.base CX0 k fI fd ["self"] sp) (hr : Room (k + 1) X.A) (hb : Binds X.K fd ["self"] []) (hg : Gl X x) (hm : X.mg x = some (.ref C)) (hdb : (x == ("__debug__" : Str)) = false := by decide) :
    PMk X (.Call (.Name x p) [] [] pos) (fun _ H Q => ∀ a, H a = none → sp [.ref a] (upd H a (exo a C none)) (fun v H2 => v = .non ∧ H2 a = some (exo a C none) ∧ Q (.ref C) none (del H2 a)) (fun _ _ _ => False)) := by
  intro pins s σ H Q I h
  obtain ⟨nm, q, N, bs, bm, sn, sub, ab, col, dd, k0, k1, k2, k3, k5, hC, hbm⟩ := T.cls
  refine wpAny_Call_Name_kw (ld_glob I hg hm ?_ hdb)
  refine PySem.W.callWith_K0 I.kIn T.kC ?_
  show wpAny _ _ (call (.ref C) []) _ _ _
  obtain ⟨hp, g, dr, tk, os⟩ := s
  have hsz : hp.objs.size ≤ hp.objs.size + 1 := Nat.le_succ _
  have hq := h (hp.objs.size + 1) (I.hok.fresh hsz)
  have kk : ∀ b o, hp.get? b = some o → ((hp.push (PySem.W.kdv_tup [])).push (PySem.HandSPX.excO C hp.objs.size)).get? b = some o := fun b o e => Heap.get?_push_of_some _ (Heap.get?_push_of_some _ e)
  have hget : ((hp.push (PySem.W.kdv_tup [])).push (PySem.HandSPX.excO C hp.objs.size)).get? (hp.objs.size + 1) = some (PySem.HandSPX.excO C hp.objs.size) := by heap_get
  have I2 : Inv X pins σ (upd H (hp.objs.size + 1) (exo (hp.objs.size + 1) C none)) ⟨(hp.push (PySem.W.kdv_tup [])).push (PySem.HandSPX.excO C hp.objs.size), g, dr, tk, os⟩ :=
    I.laid (t' := tk) (a := hp.objs.size + 1) (o := exo (hp.objs.size + 1) C none) (h' := (hp.push (PySem.W.kdv_tup [])).push (PySem.HandSPX.excO C hp.objs.size)) kk hsz (exo_ok hget)
  have r2 : Vals [V.ref (hp.objs.size + 1)] [Value.ref (hp.objs.size + 1)] := .cons rfl .nil
  refine wpAny_call (PySem.HandSPX.call_own F.excBase_ValueError (fun Y => PySem.HandSPX.refsVE_contains Y bm hbm) (I.kIn _ _ hC) (PySem.W.looks_findIn I.kIn iC) (fun self => PySem.W.bind_fn I.kIn self tI) (by show 0 ≤ sizeLine; exact Nat.zero_le _)
    (codeAny_mono (F1.run _ X.stack _ _ ⟨[Value.ref (hp.objs.size + 1)], []⟩ [Value.ref (hp.objs.size + 1)] _ _ (fun _ _ _ => False) (hr.make C [] []) (I2.env0.make C [] []) (hb _ [Value.ref (hp.objs.size + 1)] I2.kIn rfl) r2 hq) fun r s' hq' => ?_))
  cases r with
  | error er => exact False.elim hq'
  | ok fl =>
    cases fl with
    | ret u =>
      obtain ⟨v, H2, os2, bare2, un2, hok2, rv, ev, ea, q2⟩ := hq'
      subst ev
      obtain ⟨h2, g2, d2, t2, os'⟩ := s'
      exact ⟨rv, mk_endN (raises_own T.exC T.tyC) I hsz kk un2 hok2 os2 bare2 ea q2⟩
    | next => exact False.elim hq'
    | brk => exact False.elim hq'
    | cont => exact False.elim hq'
end
/-- an error class without fields -/
structure ErrN (P : Program) (w : World) (K : PySem.W.Frag) (mg : Str → Option Value) (base : Heap) (x : Str) (C : Addr) : Prop where
  g : mg x = some (.ref C)
  oex : OexC K C
  ini : ∃ (fI : Addr) (fd : FuncData), PySem.W.findIn K (.ref C) "__init__" = some (some (.ref fI)) ∧ PySem.W.typeIn K (.ref fI) = some (.type "function") ∧ FnOk P w K mg base CX0 1 fI fd ["self"] (fun vs H Q _ => ∃ a : Addr, vs = [.ref a] ∧ Q .non H) ∧ Binds K fd ["self"] []
section
variable {X : Cx} {x : Str} {j : Nat} {C : Addr} {p pos : Pos}
theorem pmk_errN (D : ErrN X.prog X.w X.K X.mg X.base x C) (hr : Room j X.A) (hj : 2 ≤ j) (hg : Gl X x) (hdb : (x == ("__debug__" : Str)) = false := by decide) : PMk X (.Call (.Name x p) [] [] pos) (fun _ H Q => Q (.ref C) none H) := by
  obtain ⟨fI, fd, iC, tI, F1, b⟩ := D.ini
  intro pins s σ H Q I h
  exact pmk_oex0 D.oex iC tI F1 (hr.mono hj) b hg D.g hdb pins s σ H Q I fun a na => ⟨a, rfl, rfl, upd_same, by rw [del_new na]; exact h⟩
end
end Own

/-! own layer, of no law: OWNN: rounding as a fraction's. -/
namespace Own
open PySem PySem.Spec PyProof.Rows L2 LamX NdefX
theorem near_lo {n d : Int} (t : Str) : n / d ≤ near n d t := by
  unfold near
  split
  · exact Int.le_refl _
  · split <;> omega
theorem near_hi {n d : Int} (t : Str) : near n d t ≤ n / d + 1 := by
  unfold near
  split
  · omega
  · split <;> omega
theorem near_mul {k d : Int} (h : 0 < d) (t : Str) : near (k * d) d t = k := by
  unfold near
  rw [if_pos (Int.mul_emod_left k d), Int.mul_ediv_cancel _ (by omega)]
theorem goes_up_mono {z : Str} {b p p' : Int} (h : p ≤ p') (g : goesUp z b p = true) : goesUp z b p' = true := by
  unfold goesUp at g ⊢
  cases e : halvL.lookup z with
  | none =>
    rw [e] at g
    exact g
  | some y =>
    rw [e] at g
    dsimp only at g ⊢
    by_cases h1 : p = 0
    · rw [if_pos h1] at g
      by_cases h2 : p' = 0
      · rw [if_pos h2]
        exact g
      · rw [if_neg h2]
        exact decide_eq_true (by omega)
    · rw [if_neg h1] at g
      have h3 : 0 < p := of_decide_eq_true g
      rw [if_neg (by omega)]
      exact decide_eq_true (by omega)
/-- what goesUp asks of p is its sign alone -/
theorem goes_scale {z : Str} {b p c : Int} (hc : 0 < c) : goesUp z b (p * c) = goesUp z b p := by
  unfold goesUp
  cases e : halvL.lookup z with
  | none => rfl
  | some y =>
    dsimp only
    by_cases h : p = 0
    · subst h
      simp
    · have h1 : p * c ≠ 0 := Int.mul_ne_zero h (by omega)
      rw [if_neg h, if_neg h1]
      by_cases h2 : 0 < p
      · rw [decide_eq_true h2, decide_eq_true (Int.mul_pos h2 hc)]
      · have h3 : p * c < 0 := Int.mul_neg_of_neg_of_pos (by omega) hc
        rw [decide_eq_false h2, decide_eq_false (by omega)]
theorem near_scale {n d c : Int} (hd : 0 < d) (hc : 0 < c) (t : Str) : near (n * c) (d * c) t = near n d t := by
  have e1 : n * c / (d * c) = n / d := Int.mul_ediv_mul_of_pos_left n d hc
  have e2 : n * c % (d * c) = n % d * c := by
    rw [Int.emod_def, e1, Int.emod_def, Int.sub_mul]
    congr 1
    simp only [Int.mul_assoc, Int.mul_comm, Int.mul_left_comm]
  unfold near
  rw [e1, e2]
  by_cases h : n % d = 0
  · rw [if_pos h, if_pos (by rw [h, Int.zero_mul])]
  · rw [if_neg h, if_neg (Int.mul_ne_zero h (by omega))]
    have e3 : 2 * (n % d * c) - d * c = (2 * (n % d) - d) * c := by rw [Int.sub_mul, Int.mul_assoc]
    rw [e3, goes_scale hc]
/-- it hangs on the fraction alone -/
theorem near_ratio {n d n' d' : Int} (hd : 0 < d) (hd' : 0 < d') (h : n * d' = n' * d) (t : Str) : near n d t = near n' d' t := by
  rw [← near_scale (n := n) (d := d) hd hd' t, h, Int.mul_comm d d', near_scale hd' hd t]
theorem near_mono0 {n n' d : Int} (hd : 0 < d) (h : n ≤ n') (t : Str) : near n d t ≤ near n' d t := by
  have a : n / d ≤ n' / d := Int.ediv_le_ediv hd h
  by_cases e : n / d = n' / d
  · have r0 := Int.emod_nonneg n (show d ≠ 0 by omega)
    have r1 := Int.emod_lt_of_pos n hd
    have m := Int.emod_add_mul_ediv n d
    have m' := Int.emod_add_mul_ediv n' d
    rw [← e] at m'
    have hr : n % d ≤ n' % d := by omega
    by_cases h0 : n % d = 0
    · have z : near n d t = n / d := by
        unfold near
        rw [if_pos h0]
      rw [z, e]
      exact near_lo t
    · have hx : ¬ n' % d = 0 := by omega
      unfold near
      rw [if_neg h0, if_neg hx, ← e]
      by_cases g : goesUp t (n / d) (2 * (n % d) - d) = true
      · rw [if_pos g, if_pos (goes_up_mono (by omega) g)]
        exact Int.le_refl _
      · rw [if_neg g]
        split <;> omega
  · have z1 := near_hi (n := n) (d := d) t
    have z2 := near_lo (n := n') (d := d) t
    omega
theorem near_mono {n d n' d' : Int} (hd : 0 < d) (hd' : 0 < d') (h : n * d' ≤ n' * d) (t : Str) : near n d t ≤ near n' d' t := by
  rw [← near_scale (n := n) (d := d) hd hd' t, ← near_scale (n := n') (d := d') hd' hd t, Int.mul_comm d' d]
  exact near_mono0 (Int.mul_pos hd hd') h t
theorem near_nat {n d : Int} (hd : 0 < d) (t : Str) : (near n d t).natAbs ≤ n.natAbs + 1 := by
  have a := near_lo (n := n) (d := d) t
  have b := near_hi (n := n) (d := d) t
  have c := Int.natAbs_ediv_le_natAbs n d
  omega
/-- what a rounded number keeps to -/
def absZ (u : Int) : Int := if u < 0 then -u else u
def keepP (off : Int) (nr fr : Bool) : List (Str × V) := [("floor", .bl (decide (off < 0))), ("ceiling", .bl (decide (off > 0))), ("cut", .bl nr), ("away", .bl fr)]
def keepH (off : Int) (nr fr ev : Bool) : List (Str × V) := [("halfup", .bl (decide (off > 0))), ("halfdown", .bl (decide (off < 0))), ("halfeven", .bl ev), ("halfaway", .bl fr), ("halfcut", .bl nr)]
theorem keep_ok {n d : Int} (h0 : 0 < d) (hr : n % d ≠ 0) {z : Str} (hz : z ∈ waysL) : absZ (near n d z * d - n) < d ∧
    (∀ v, (keepP (near n d z * d - n) (decide (absZ (near n d z) * d < absZ n)) (decide (absZ (near n d z) * d > absZ n))).lookup z = some v → v = .bl true) ∧
    ((keepP (near n d z * d - n) (decide (absZ (near n d z) * d < absZ n)) (decide (absZ (near n d z) * d > absZ n))).lookup z = none → (2 * absZ (near n d z * d - n) ≠ d → 2 * absZ (near n d z * d - n) < d) ∧
      (2 * absZ (near n d z * d - n) = d → (keepH (near n d z * d - n) (decide (absZ (near n d z) * d < absZ n)) (decide (absZ (near n d z) * d > absZ n)) (decide (near n d z % 2 = 0))).lookup z = some (.bl true))) := by
  have r0 := Int.emod_nonneg n (show d ≠ 0 by omega)
  have r1 := Int.emod_lt_of_pos n h0
  have em := Int.emod_add_mul_ediv n d
  have eu : near n d z = if goesUp z (n / d) (2 * (n % d) - d) = true then n / d + 1 else n / d := by
    unfold near
    rw [if_neg hr]
  rw [eu]
  generalize n / d = q at em ⊢
  generalize n % d = r at hr r0 r1 em ⊢
  have em2 : q * d = n - r := by rw [Int.mul_comm]; omega
  have e1 : (q + 1) * d = n - r + d := by rw [Int.add_mul, em2, Int.one_mul]
  have e2 : -q * d = r - n := by rw [Int.neg_mul, em2]; omega
  have e3 : -(q + 1) * d = r - n - d := by rw [Int.neg_mul, e1]; omega
  have sg : (0 ≤ q ∧ 0 < n) ∨ (q < 0 ∧ n < 0) := by
    by_cases h : 0 ≤ q
    · have := Int.mul_nonneg h (Int.le_of_lt h0)
      exact .inl ⟨h, by omega⟩
    · have h2 : (q + 1) * d ≤ 0 := by
        have := Int.mul_nonneg (show 0 ≤ -(q + 1) by omega) (Int.le_of_lt h0)
        rw [Int.neg_mul] at this
        omega
      exact .inr ⟨by omega, by omega⟩
  -- the four numbers, up or not
  have up1 : ∀ b : Bool, (if b = true then q + 1 else q) * d - n = if b = true then d - r else -r := fun b => by cases b <;> simp <;> omega
  have up2 : ∀ b : Bool, absZ (if b = true then d - r else -r) = if b = true then d - r else r := fun b => by
    unfold absZ
    cases b <;> simp <;> omega
  have up3 : ∀ b : Bool, decide (absZ (if b = true then q + 1 else q) * d < absZ n) = (if b = true then decide (q < 0) else decide (0 ≤ q)) ∧ decide (absZ (if b = true then q + 1 else q) * d > absZ n) = (if b = true then decide (0 ≤ q) else decide (q < 0)) := fun b => by
    unfold absZ
    rcases sg with ⟨a, c⟩ | ⟨a, c⟩
    · cases b
      · simp only [Bool.false_eq_true, if_false]
        rw [if_neg (by omega), if_neg (by omega), em2, decide_eq_true (show n - r < n by omega), decide_eq_false (show ¬ n - r > n by omega), decide_eq_true a, decide_eq_false (by omega)]
        exact ⟨rfl, rfl⟩
      · simp only [if_true]
        rw [if_neg (by omega), if_neg (by omega), e1, decide_eq_false (show ¬ n - r + d < n by omega), decide_eq_true (show n - r + d > n by omega), decide_eq_true a, decide_eq_false (by omega)]
        exact ⟨rfl, rfl⟩
    · cases b
      · simp only [Bool.false_eq_true, if_false]
        rw [if_pos a, if_pos c, e2, decide_eq_false (show ¬ r - n < -n by omega), decide_eq_true (show r - n > -n by omega), decide_eq_true a, decide_eq_false (by omega)]
        exact ⟨rfl, rfl⟩
      · simp only [if_true]
        have e4 : (if q + 1 < 0 then -(q + 1) else q + 1) * d = r - n - d := by
          split
          · exact e3
          · have : q + 1 = 0 := by omega
            rw [this] at e1 ⊢
            omega
        rw [if_pos c, e4, decide_eq_true (show r - n - d < -n by omega), decide_eq_false (show ¬ r - n - d > -n by omega), decide_eq_true a, decide_eq_false (by omega)]
        exact ⟨rfl, rfl⟩
  generalize hb : goesUp z q (2 * r - d) = b
  rw [up1, (up3 b).1, (up3 b).2, up2]
  clear up1 up2 up3 eu e1 e2 e3 em em2
  refine ⟨by cases b <;> simp <;> omega, ?_⟩
  rcases way_cases hz with rfl | rfl | rfl | rfl | rfl | rfl | rfl | rfl | rfl
  · rw [goes_none (k := 4) (by decide +kernel) (by decide +kernel)] at hb
    subst hb
    refine ⟨fun v e => ?_, fun e => by cases (show some _ = none from e)⟩
    have e' := Option.some.inj e
    rw [← e']
    simp [kUp]
    omega
  · rw [goes_none (k := 3) (by decide +kernel) (by decide +kernel)] at hb
    subst hb
    refine ⟨fun v e => ?_, fun e => by cases (show some _ = none from e)⟩
    have e' := Option.some.inj e
    rw [← e']
    simp [kUp]
    omega
  · rw [goes_none (k := 1) (by decide +kernel) (by decide +kernel)] at hb
    subst hb
    refine ⟨fun v e => ?_, fun e => by cases (show some _ = none from e)⟩
    have e' := Option.some.inj e
    rw [← e']
    rcases sg with ⟨a, c⟩ | ⟨a, c⟩
    all_goals (simp [kUp] <;> omega)
  · rw [goes_none (k := 2) (by decide +kernel) (by decide +kernel)] at hb
    subst hb
    refine ⟨fun v e => ?_, fun e => by cases (show some _ = none from e)⟩
    have e' := Option.some.inj e
    rw [← e']
    rcases sg with ⟨a, c⟩ | ⟨a, c⟩
    all_goals (simp [kUp] <;> omega)
  · rw [goes_some (y := "ceiling") (k := 3) (by decide +kernel) (by decide +kernel)] at hb
    refine ⟨fun v e => (by cases (show none = some v from e)), fun _ => ⟨fun hn => ?_, fun he => ?_⟩⟩
    · by_cases g : 2 * r - d = 0
      · exact absurd (show 2 * (if b = true then d - r else r) = d by cases b <;> simp <;> omega) hn
      · rw [if_neg g] at hb
        subst hb
        by_cases g2 : 0 < 2 * r - d
        · rw [decide_eq_true g2, if_pos rfl]
          omega
        · rw [decide_eq_false g2, if_neg (by decide)]
          omega
    · have g : 2 * r - d = 0 := by cases b <;> simp at he <;> omega
      rw [if_pos g] at hb
      subst hb
      refine congrArg some (congrArg V.bl ?_)
      simp only [kUp]
      rcases sg with ⟨a, c⟩ | ⟨a, c⟩
      all_goals (simp <;> (repeat split) <;> omega)
  · rw [goes_some (y := "floor") (k := 4) (by decide +kernel) (by decide +kernel)] at hb
    refine ⟨fun v e => (by cases (show none = some v from e)), fun _ => ⟨fun hn => ?_, fun he => ?_⟩⟩
    · by_cases g : 2 * r - d = 0
      · exact absurd (show 2 * (if b = true then d - r else r) = d by cases b <;> simp <;> omega) hn
      · rw [if_neg g] at hb
        subst hb
        by_cases g2 : 0 < 2 * r - d
        · rw [decide_eq_true g2, if_pos rfl]
          omega
        · rw [decide_eq_false g2, if_neg (by decide)]
          omega
    · have g : 2 * r - d = 0 := by cases b <;> simp at he <;> omega
      rw [if_pos g] at hb
      subst hb
      refine congrArg some (congrArg V.bl ?_)
      simp only [kUp]
      rcases sg with ⟨a, c⟩ | ⟨a, c⟩
      all_goals (simp <;> (repeat split) <;> omega)
  · rw [goes_some (y := "even") (k := 0) (by decide +kernel) (by decide +kernel)] at hb
    refine ⟨fun v e => (by cases (show none = some v from e)), fun _ => ⟨fun hn => ?_, fun he => ?_⟩⟩
    · by_cases g : 2 * r - d = 0
      · exact absurd (show 2 * (if b = true then d - r else r) = d by cases b <;> simp <;> omega) hn
      · rw [if_neg g] at hb
        subst hb
        by_cases g2 : 0 < 2 * r - d
        · rw [decide_eq_true g2, if_pos rfl]
          omega
        · rw [decide_eq_false g2, if_neg (by decide)]
          omega
    · have g : 2 * r - d = 0 := by cases b <;> simp at he <;> omega
      rw [if_pos g] at hb
      subst hb
      refine congrArg some (congrArg V.bl ?_)
      simp only [kUp]
      rcases sg with ⟨a, c⟩ | ⟨a, c⟩
      all_goals (simp <;> (repeat split) <;> omega)
  · rw [goes_some (y := "away") (k := 2) (by decide +kernel) (by decide +kernel)] at hb
    refine ⟨fun v e => (by cases (show none = some v from e)), fun _ => ⟨fun hn => ?_, fun he => ?_⟩⟩
    · by_cases g : 2 * r - d = 0
      · exact absurd (show 2 * (if b = true then d - r else r) = d by cases b <;> simp <;> omega) hn
      · rw [if_neg g] at hb
        subst hb
        by_cases g2 : 0 < 2 * r - d
        · rw [decide_eq_true g2, if_pos rfl]
          omega
        · rw [decide_eq_false g2, if_neg (by decide)]
          omega
    · have g : 2 * r - d = 0 := by cases b <;> simp at he <;> omega
      rw [if_pos g] at hb
      subst hb
      refine congrArg some (congrArg V.bl ?_)
      simp only [kUp]
      rcases sg with ⟨a, c⟩ | ⟨a, c⟩
      all_goals (simp <;> (repeat split) <;> omega)
  · rw [goes_some (y := "cut") (k := 1) (by decide +kernel) (by decide +kernel)] at hb
    refine ⟨fun v e => (by cases (show none = some v from e)), fun _ => ⟨fun hn => ?_, fun he => ?_⟩⟩
    · by_cases g : 2 * r - d = 0
      · exact absurd (show 2 * (if b = true then d - r else r) = d by cases b <;> simp <;> omega) hn
      · rw [if_neg g] at hb
        subst hb
        by_cases g2 : 0 < 2 * r - d
        · rw [decide_eq_true g2, if_pos rfl]
          omega
        · rw [decide_eq_false g2, if_neg (by decide)]
          omega
    · have g : 2 * r - d = 0 := by cases b <;> simp at he <;> omega
      rw [if_pos g] at hb
      subst hb
      refine congrArg some (congrArg V.bl ?_)
      simp only [kUp]
      rcases sg with ⟨a, c⟩ | ⟨a, c⟩
      all_goals (simp <;> (repeat split) <;> omega)
end Own

/-! own layer, of no law: OWNS: running totals that are rounded at each step. -/
namespace Own
open PySem PySem.Spec PyProof.Rows L2 LamX NdefX
/-- the running total behind one entry of x parts: U parts are a unit -/
def stp (U x : Int) (t : Str) (s : Int) : Int := near (s * U + x) U t
/-- behind so many of them -/
def run (U x : Int) (t : Str) : Nat → Int → Int
  | 0, s => s
  | n + 1, s => run U x t n (stp U x t s)
theorem run_snoc (U x : Int) (t : Str) : ∀ (n : Nat) (s : Int), run U x t (n + 1) s = stp U x t (run U x t n s)
  | 0, _ => rfl
  | n + 1, s => run_snoc U x t n (stp U x t s)
theorem run_add (U x : Int) (t : Str) : ∀ (m n : Nat) (s : Int), run U x t (m + n) s = run U x t n (run U x t m s)
  | 0, n, s => by rw [Nat.zero_add]; rfl
  | m + 1, n, s => by
    rw [show m + 1 + n = (m + n) + 1 by omega]
    exact run_add U x t m n (stp U x t s)
/-- whether what an entry adds hangs on the total -/
def looseL1 : List Str := ["cut", "away"]
def looseL2 : List Str := ["halfeven", "halfaway", "halfcut"]
def isLoose (U x : Int) (t : Str) : Bool := (decide (t ∈ looseL1) && decide (x % U ≠ 0)) || (decide (t ∈ looseL2) && decide (2 * (x % U) = U))
section
variable {U x s : Int} {t : Str}
theorem stp_div (h : 0 < U) : (s * U + x) / U = s + x / U := by
  rw [Int.add_comm (s * U) x, Int.add_mul_ediv_right _ _ (by omega)]
  omega
theorem stp_mod : (s * U + x) % U = x % U := by
  rw [Int.add_comm (s * U) x, Int.add_mul_emod_self_right]
theorem stp_eq (h : 0 < U) : stp U x t s = if x % U = 0 then s + x / U else if goesUp t (s + x / U) (2 * (x % U) - U) = true then s + x / U + 1 else s + x / U := by
  unfold stp near
  rw [stp_mod, stp_div h]
/-- one that is not loose adds its own rounded worth -/
theorem stp_tight (h : 0 < U) (ht : t ∈ waysL) (n : isLoose U x t = false) : stp U x t s = s + near x U t := by
  rw [stp_eq h]
  unfold near
  by_cases r : x % U = 0
  · rw [if_pos r, if_pos r]
  rw [if_neg r, if_neg r]
  have tie : t ∈ looseL2 → 2 * (x % U) - U ≠ 0 := fun m z => by
    unfold isLoose at n
    rw [decide_eq_true m, decide_eq_true (show 2 * (x % U) = U by omega)] at n
    simp at n
  have same : goesUp t (s + x / U) (2 * (x % U) - U) = goesUp t (x / U) (2 * (x % U) - U) := by
    have big : 2 * (x % U) = U ∨ 2 * (x % U) - U ≠ 0 := by omega
    rcases way_cases ht with rfl | rfl | rfl | rfl | rfl | rfl | rfl | rfl | rfl
    · rw [goes_none (k := 4) (by decide +kernel) (by decide +kernel), goes_none (k := 4) (by decide +kernel) (by decide +kernel)]; rfl
    · rw [goes_none (k := 3) (by decide +kernel) (by decide +kernel), goes_none (k := 3) (by decide +kernel) (by decide +kernel)]; rfl
    · exfalso
      have e : isLoose U x "cut" = true := by
        unfold isLoose
        rw [decide_eq_true (show ("cut" : Str) ∈ looseL1 by decide +kernel), decide_eq_true r]
        rfl
      rw [e] at n
      cases n
    · exfalso
      have e : isLoose U x "away" = true := by
        unfold isLoose
        rw [decide_eq_true (show ("away" : Str) ∈ looseL1 by decide +kernel), decide_eq_true r]
        rfl
      rw [e] at n
      cases n
    · rw [goes_some (k := 3) (y := "ceiling") (by decide +kernel) (by decide +kernel), goes_some (k := 3) (y := "ceiling") (by decide +kernel) (by decide +kernel)]; rfl
    · rw [goes_some (k := 4) (y := "floor") (by decide +kernel) (by decide +kernel), goes_some (k := 4) (y := "floor") (by decide +kernel) (by decide +kernel)]; rfl
    all_goals have z : 2 * (x % U) - U ≠ 0 := tie (by decide +kernel)
    · rw [goes_some (k := 0) (y := "even") (by decide +kernel) (by decide +kernel), goes_some (k := 0) (y := "even") (by decide +kernel) (by decide +kernel), if_neg z, if_neg z]
    · rw [goes_some (k := 2) (y := "away") (by decide +kernel) (by decide +kernel), goes_some (k := 2) (y := "away") (by decide +kernel) (by decide +kernel), if_neg z, if_neg z]
    · rw [goes_some (k := 1) (y := "cut") (by decide +kernel) (by decide +kernel), goes_some (k := 1) (y := "cut") (by decide +kernel) (by decide +kernel), if_neg z, if_neg z]
  rw [same]
  split <;> omega
theorem run_tight (h : 0 < U) (ht : t ∈ waysL) (n : isLoose U x t = false) : ∀ (m : Nat) (s : Int), run U x t m s = s + near x U t * m
  | 0, s => by show s = _; simp
  | m + 1, s => by
    rw [run_snoc, run_tight h ht n m s, stp_tight h ht n]
    rw [show ((m + 1 : Nat) : Int) = (m : Int) + 1 by omega, Int.mul_add, Int.mul_one]
    omega
/-! ### halfeven -/
theorem loose_even (l : isLoose U x "halfeven" = true) : 2 * (x % U) = U := by
  unfold isLoose at l
  by_cases z : 2 * (x % U) = U
  · exact z
  · rw [decide_eq_false z, decide_eq_false (show ¬ ("halfeven" : Str) ∈ looseL1 by decide +kernel)] at l
    simp at l
theorem stp_even (h : 0 < U) (l : isLoose U x "halfeven" = true) (s : Int) : stp U x "halfeven" s = s + x / U + (s + x / U) % 2 := by
  have z := loose_even l
  rw [stp_eq h, if_neg (by omega), goes_some (k := 0) (y := "even") (by decide +kernel) (by decide +kernel), if_pos (show 2 * (x % U) - U = 0 by omega)]
  show (if decide ((s + x / U) % 2 = 1) = true then _ else _) = _
  by_cases e : (s + x / U) % 2 = 1
  · rw [if_pos (decide_eq_true e)]
    omega
  · rw [if_neg (fun y => e (of_decide_eq_true y))]
    omega
theorem run_even (h : 0 < U) (l : isLoose U x "halfeven" = true) : ∀ (m : Nat) (s : Int), run U x "halfeven" (m + 1) s = s + x / U + (s + x / U) % 2 + (x / U + x / U % 2) * m ∧ run U x "halfeven" (m + 1) s % 2 = 0
  | 0, s => by
    have e : run U x "halfeven" (0 + 1) s = s + x / U + (s + x / U) % 2 := stp_even h l s
    rw [e]
    refine ⟨by simp, by omega⟩
  | m + 1, s => by
    obtain ⟨a, b⟩ := run_even h l m s
    rw [run_snoc, stp_even h l]
    have e : (x / U + x / U % 2) * ((m + 1 : Nat) : Int) = (x / U + x / U % 2) * (m : Int) + (x / U + x / U % 2) := by
      rw [show ((m + 1 : Nat) : Int) = (m : Int) + 1 by omega, Int.mul_add, Int.mul_one]
    rw [e]
    generalize run U x "halfeven" (m + 1) s = r at a b
    generalize (x / U + x / U % 2) * (m : Int) = y at a
    refine ⟨by omega, by omega⟩
/-! ### cut, away, halfaway, halfcut -/
/-- what such an entry adds, ahead of where the total would be if it were rounded down -/
def addS (F : Int) (t : Str) (ahead : Int) : Int := if decide (0 ≤ ahead) = decide (t = "cut" ∨ t = "halfcut") then F else F + 1
theorem addS_cong {F a b : Int} {t : Str} (h : 0 ≤ a ↔ 0 ≤ b) : addS F t a = addS F t b := by
  unfold addS
  rw [decide_eq_decide.mpr h]
theorem stp_side (h : 0 < U) (ht : t ∈ waysL) (l : isLoose U x t = true) (ne : t ≠ "halfeven") (s : Int) : stp U x t s = s + addS (x / U) t (s + x / U) := by
  have r : x % U ≠ 0 := by
    intro z
    unfold isLoose at l
    rw [z] at l
    simp at l
    omega
  rw [stp_eq h, if_neg r]
  generalize x / U = F
  have fin : ∀ (up : Bool), up = !decide (decide (0 ≤ s + F) = decide (t = "cut" ∨ t = "halfcut")) → (if up = true then s + F + 1 else s + F) = s + addS F t (s + F) := fun up e => by
    unfold addS
    by_cases c : decide (0 ≤ s + F) = decide (t = "cut" ∨ t = "halfcut")
    · rw [if_pos c, e, decide_eq_true c, if_neg (by decide)]
    · rw [if_neg c, e, decide_eq_false c, if_pos (by decide)]
      omega
  have bool : ∀ a b : Bool, (!decide (a = b)) = (a != b) := by decide
  have neg : decide (s + F < 0) = !decide (0 ≤ s + F) := by
    by_cases c : s + F < 0
    · rw [decide_eq_true c, decide_eq_false (by omega)]; rfl
    · rw [decide_eq_false c, decide_eq_true (by omega)]; rfl
  have half : t ∈ looseL2 → 2 * (x % U) - U = 0 := fun m => by
    have n1 : ¬ t ∈ looseL1 := by
      intro y
      simp only [looseL1, looseL2, List.mem_cons, List.not_mem_nil, or_false] at y m
      rcases y with rfl | rfl <;> revert m <;> decide +kernel
    unfold isLoose at l
    rw [decide_eq_false n1] at l
    by_cases z : 2 * (x % U) = U
    · omega
    · rw [decide_eq_false z] at l
      simp at l
  have none : ¬ t ∈ looseL1 → ¬ t ∈ looseL2 → False := fun a b => by
    unfold isLoose at l
    rw [decide_eq_false a, decide_eq_false b] at l
    simp at l
  refine fin _ ?_
  rw [bool]
  rcases way_cases ht with rfl | rfl | rfl | rfl | rfl | rfl | rfl | rfl | rfl
  · exact (none (by decide +kernel) (by decide +kernel)).elim
  · exact (none (by decide +kernel) (by decide +kernel)).elim
  · rw [goes_none (k := 1) (by decide +kernel) (by decide +kernel)]
    show decide (s + F < 0) = _
    rw [neg, decide_eq_true (show ("cut" : Str) = "cut" ∨ ("cut" : Str) = "halfcut" from .inl rfl)]
    cases decide (0 ≤ s + F) <;> rfl
  · rw [goes_none (k := 2) (by decide +kernel) (by decide +kernel)]
    show decide (0 ≤ s + F) = _
    rw [decide_eq_false (show ¬ (("away" : Str) = "cut" ∨ ("away" : Str) = "halfcut") by decide +kernel)]
    cases decide (0 ≤ s + F) <;> rfl
  · exact (none (by decide +kernel) (by decide +kernel)).elim
  · exact (none (by decide +kernel) (by decide +kernel)).elim
  · exact absurd rfl ne
  · rw [goes_some (k := 2) (y := "away") (by decide +kernel) (by decide +kernel), if_pos (half (by decide +kernel))]
    show decide (0 ≤ s + F) = _
    rw [decide_eq_false (show ¬ (("halfaway" : Str) = "cut" ∨ ("halfaway" : Str) = "halfcut") by decide +kernel)]
    cases decide (0 ≤ s + F) <;> rfl
  · rw [goes_some (k := 1) (y := "cut") (by decide +kernel) (by decide +kernel), if_pos (half (by decide +kernel))]
    show decide (s + F < 0) = _
    rw [neg, decide_eq_true (show ("halfcut" : Str) = "cut" ∨ ("halfcut" : Str) = "halfcut" from .inr rfl)]
    cases decide (0 ≤ s + F) <;> rfl
/-- how many steps stay on one side -/
def sideN (ahead added times : Int) : Int :=
  if 0 ≤ ahead then (if 0 ≤ added then times else ahead / (-added) + 1) else (if added ≤ 0 then times else (added - 1 - ahead) / added)
theorem side_pos {ahead added times : Int} (h : 0 < times) : 0 < sideN ahead added times := by
  unfold sideN
  split
  · split
    · exact h
    · have := Int.ediv_nonneg (show 0 ≤ ahead by assumption) (show 0 ≤ -added by omega)
      omega
  · split
    · exact h
    · have a0 : 0 < added := by omega
      have e : (added - 1 - ahead) = (-1 - ahead) + 1 * added := by omega
      rw [e, Int.add_mul_ediv_right _ _ (by omega)]
      have := Int.ediv_nonneg (show 0 ≤ -1 - ahead by omega) (show 0 ≤ added by omega)
      omega
/-- so many steps as sideN tells, each adds the same -/
theorem side_stays {ahead added times : Int} {j : Nat} (h : (j : Int) < sideN ahead added times) : (0 ≤ ahead + added * j ↔ 0 ≤ ahead) := by
  unfold sideN at h
  have j0 : (0 : Int) ≤ j := by omega
  split at h
  · rename_i a
    split at h
    · rename_i b
      have := Int.mul_nonneg b j0
      constructor <;> intro _ <;> omega
    · rename_i b
      have z : (j : Int) ≤ ahead / (-added) := by omega
      have y := (Int.le_ediv_iff_mul_le (show 0 < -added by omega)).mp z
      rw [Int.mul_neg, Int.mul_comm] at y
      constructor <;> intro _ <;> omega
  · rename_i a
    split at h
    · rename_i b
      have := Int.mul_nonneg (show 0 ≤ -added by omega) j0
      rw [Int.neg_mul] at this
      constructor <;> intro _ <;> omega
    · rename_i b
      have z : (j : Int) + 1 ≤ (added - 1 - ahead) / added := by omega
      have y := (Int.le_ediv_iff_mul_le (show 0 < added by omega)).mp z
      rw [Int.add_mul, Int.one_mul, Int.mul_comm] at y
      constructor <;> intro _ <;> omega
theorem run_side (h : 0 < U) (ht : t ∈ waysL) (l : isLoose U x t = true) (ne : t ≠ "halfeven") (s : Int) : ∀ m : Nat, ((m : Int) ≤ sideN (s + x / U) (addS (x / U) t (s + x / U)) m ∨ ∃ T, (m : Int) ≤ sideN (s + x / U) (addS (x / U) t (s + x / U)) T) →
    run U x t m s = s + addS (x / U) t (s + x / U) * m
  | 0, _ => by show s = _; simp
  | m + 1, hm => by
    have hT : ∃ T, ((m + 1 : Nat) : Int) ≤ sideN (s + x / U) (addS (x / U) t (s + x / U)) T := hm.elim (fun z => ⟨_, z⟩) id
    obtain ⟨T, hT⟩ := hT
    have ih := run_side h ht l ne s m (.inr ⟨T, by omega⟩)
    rw [run_snoc, ih, stp_side h ht l ne]
    have st := side_stays (j := m) (show (m : Int) < sideN (s + x / U) (addS (x / U) t (s + x / U)) T by omega)
    have e : addS (x / U) t (s + addS (x / U) t (s + x / U) * (m : Int) + x / U) = addS (x / U) t (s + x / U) := addS_cong (by
      rw [show s + addS (x / U) t (s + x / U) * (m : Int) + x / U = s + x / U + addS (x / U) t (s + x / U) * (m : Int) by omega]
      exact st)
    rw [e, show ((m + 1 : Nat) : Int) = (m : Int) + 1 by omega, Int.mul_add, Int.mul_one]
    omega
end
end Own

/-! own layer, of no law: OWNU: what rounding comes to, way by way. -/
namespace Own
open PySem PySem.Spec PyProof.Rows L2 LamX NdefX
theorem low_neg {n d : Int} (h : 0 < d) (r : n % d ≠ 0) : (n / d < 0 ↔ n < 0) ∧ (0 ≤ n / d ↔ ¬ n < 0) := by
  have e := Int.emod_add_mul_ediv n d
  have r0 := Int.emod_nonneg n (show d ≠ 0 by omega)
  have r1 := Int.emod_lt_of_pos n h
  have a : n / d < 0 → n < 0 := fun z => Int.lt_of_not_ge fun y => by
    have := Int.ediv_nonneg y (Int.le_of_lt h)
    omega
  have b : 0 ≤ n / d → ¬ n < 0 := fun z => by
    have y := Int.mul_nonneg (Int.le_of_lt h) z
    omega
  constructor
  · exact ⟨a, fun z => Int.lt_of_not_ge fun y => b y z⟩
  · exact ⟨b, fun z => Int.le_of_not_gt fun y => z (a y)⟩
theorem near_zero {n d : Int} {t : Str} (r : n % d = 0) : near n d t = n / d := by
  unfold near
  rw [if_pos r]
theorem near_up {n d : Int} {t : Str} (r : n % d ≠ 0) : near n d t = n / d + (if goesUp t (n / d) (2 * (n % d) - d) = true then 1 else 0) := by
  unfold near
  rw [if_neg r]
  split <;> omega
theorem near_down {n d : Int} : near n d "floor" = n / d := by
  by_cases r : n % d = 0
  · exact near_zero r
  · rw [near_up r, goes_none (k := 4) (by decide +kernel) (by decide +kernel)]
    show n / d + (if false = true then 1 else 0) = n / d
    rw [if_neg (by decide)]
    omega
theorem near_ceil {n d : Int} (r : n % d ≠ 0) : near n d "ceiling" = n / d + 1 := by
  rw [near_up r, goes_none (k := 3) (by decide +kernel) (by decide +kernel)]
  rfl
/-- 1 where the two are alike, as int() tells it -/
def alk (a b : Bool) : Int := if (decide (a = b)) = true then 1 else 0
theorem near_side {n d : Int} {t : Str} (h : 0 < d) (r : n % d ≠ 0) (ht : t = "cut" ∨ t = "away") : near n d t = n / d + alk (decide (n < 0)) (decide (t = "cut")) := by
  obtain ⟨a, b⟩ := low_neg h r
  rw [near_up r]
  rcases ht with rfl | rfl
  · rw [goes_none (k := 1) (by decide +kernel) (by decide +kernel), decide_eq_true (rfl : ("cut" : Str) = "cut")]
    show n / d + (if decide (n / d < 0) = true then 1 else 0) = _
    rw [decide_eq_decide.mpr a]
    unfold alk
    cases decide (n < 0) <;> rfl
  · rw [goes_none (k := 2) (by decide +kernel) (by decide +kernel), decide_eq_false (show ¬ ("away" : Str) = "cut" by decide +kernel)]
    show n / d + (if decide (0 ≤ n / d) = true then 1 else 0) = _
    rw [decide_eq_decide.mpr b]
    unfold alk
    by_cases z : n < 0
    · rw [decide_eq_true z, decide_eq_false (fun y => y z)]
      rfl
    · rw [decide_eq_false z, decide_eq_true z]
      rfl
theorem near_off {n d : Int} {t : Str} (r : n % d ≠ 0) (ht : t ∈ waysL) (h1 : t ≠ "floor") (h2 : t ≠ "ceiling") (h3 : ¬ (t = "cut" ∨ t = "away")) (p : 2 * (n % d) ≠ d) : near n d t = n / d + (if decide (2 * (n % d) > d) = true then 1 else 0) := by
  obtain ⟨y, hy⟩ : ∃ y, halvL.lookup t = some y := by
    rcases way_cases ht with rfl | rfl | rfl | rfl | rfl | rfl | rfl | rfl | rfl
    · exact absurd rfl h1
    · exact absurd rfl h2
    · exact absurd (.inl rfl) h3
    · exact absurd (.inr rfl) h3
    all_goals exact ⟨_, rfl⟩
  rw [near_up r, goes_some (k := baseK y) hy rfl, if_neg (show ¬ 2 * (n % d) - d = 0 by omega), decide_eq_decide.mpr (show 0 < 2 * (n % d) - d ↔ 2 * (n % d) > d by omega)]
theorem near_even {n d : Int} (r : n % d ≠ 0) (p : 2 * (n % d) = d) : near n d "halfeven" = n / d + n / d % 2 := by
  rw [near_up r, goes_some (k := 0) (y := "even") (by decide +kernel) (by decide +kernel), if_pos (show 2 * (n % d) - d = 0 by omega)]
  show n / d + (if decide (n / d % 2 = 1) = true then 1 else 0) = _
  by_cases y : n / d % 2 = 1
  · rw [decide_eq_true y, if_pos rfl]
    omega
  · rw [decide_eq_false y, if_neg (by decide)]
    omega
theorem near_updn {n d : Int} {t : Str} (r : n % d ≠ 0) (p : 2 * (n % d) = d) (ht : t = "halfup" ∨ t = "halfdown") : near n d t = n / d + (if decide (t = "halfup") = true then 1 else 0) := by
  have z : 2 * (n % d) - d = 0 := by omega
  rw [near_up r]
  rcases ht with rfl | rfl
  · rw [goes_some (k := 3) (y := "ceiling") (by decide +kernel) (by decide +kernel), if_pos z, decide_eq_true (rfl : ("halfup" : Str) = "halfup")]
    rfl
  · rw [goes_some (k := 4) (y := "floor") (by decide +kernel) (by decide +kernel), if_pos z, decide_eq_false (show ¬ ("halfdown" : Str) = "halfup" by decide +kernel)]
    rfl
theorem near_tied {n d : Int} {t : Str} (h : 0 < d) (r : n % d ≠ 0) (p : 2 * (n % d) = d) (ht : t = "halfcut" ∨ t = "halfaway") : near n d t = n / d + alk (decide (n < 0)) (decide (t = "halfcut")) := by
  obtain ⟨a, b⟩ := low_neg h r
  have z : 2 * (n % d) - d = 0 := by omega
  rw [near_up r]
  rcases ht with rfl | rfl
  · rw [goes_some (k := 1) (y := "cut") (by decide +kernel) (by decide +kernel), if_pos z, decide_eq_true (rfl : ("halfcut" : Str) = "halfcut")]
    show n / d + (if decide (n / d < 0) = true then 1 else 0) = _
    rw [decide_eq_decide.mpr a]
    unfold alk
    cases decide (n < 0) <;> rfl
  · rw [goes_some (k := 2) (y := "away") (by decide +kernel) (by decide +kernel), if_pos z, decide_eq_false (show ¬ ("halfaway" : Str) = "halfcut" by decide +kernel)]
    show n / d + (if decide (0 ≤ n / d) = true then 1 else 0) = _
    rw [decide_eq_decide.mpr b]
    unfold alk
    by_cases z : n < 0
    · rw [decide_eq_true z, decide_eq_false (fun y => y z)]
      rfl
    · rw [decide_eq_false z, decide_eq_true z]
      rfl
theorem last_two {t : Str} (ht : t ∈ waysL) (h1 : t ≠ "floor") (h2 : t ≠ "ceiling") (h3 : ¬ (t = "cut" ∨ t = "away")) (h4 : t ≠ "halfeven") (h5 : ¬ (t = "halfup" ∨ t = "halfdown")) : t = "halfcut" ∨ t = "halfaway" := by
  rcases way_cases ht with rfl | rfl | rfl | rfl | rfl | rfl | rfl | rfl | rfl
  · exact absurd rfl h1
  · exact absurd rfl h2
  · exact absurd (.inl rfl) h3
  · exact absurd (.inr rfl) h3
  · exact absurd (.inl rfl) h5
  · exact absurd (.inr rfl) h5
  · exact absurd rfl h4
  · exact .inr rfl
  · exact .inl rfl
/-- single entries, one behind the other -/
def runL (U : Int) (t : Str) (xs : List Int) (s : Int) : Int := xs.foldl (fun s x => stp U x t s) s
theorem runL_app (U : Int) (t : Str) (xs ys : List Int) (s : Int) : runL U t (xs ++ ys) s = runL U t ys (runL U t xs s) := by
  unfold runL
  rw [List.foldl_append]
theorem runL_rep (U x : Int) (t : Str) : ∀ (k : Nat) (s : Int), runL U t (List.replicate k x) s = run U x t k s
  | 0, _ => rfl
  | k + 1, s => runL_rep U x t k (stp U x t s)
theorem stp_zero {U s : Int} {t : Str} (h : 0 < U) : stp U 0 t s = s := by
  rw [stp_eq h, Int.zero_emod, if_pos rfl, Int.zero_ediv]
  omega
theorem run_zero {U : Int} {t : Str} (h : 0 < U) : ∀ (k : Nat) (s : Int), run U 0 t k s = s
  | 0, _ => rfl
  | k + 1, s => by
    show run U 0 t k (stp U 0 t s) = s
    rw [stp_zero h]
    exact run_zero h k s
end Own

/-! own layer, of no law: OWNG: how far a running total is from the total of what is rounded alone. -/
namespace Own
open PySem PySem.Spec PyProof.Rows L2 LamX NdefX
theorem dm_of {x U q r : Int} (h : 0 < U) (e : x = q * U + r) (h0 : 0 ≤ r) (h1 : r < U) : x / U = q ∧ x % U = r :=
  (Int.ediv_emod_unique h).mpr ⟨by rw [e, Int.mul_comm q U]; omega, h0, h1⟩
/-- the running total less what is added alone, from s on -/
def gapS (U : Int) (t : Str) (xs : List Int) (s : Int) : Int := runL U t xs s - s - (xs.map fun x => near x U t).sum
theorem gapS_nil (U : Int) (t : Str) (s : Int) : gapS U t [] s = 0 := by
  show s - s - 0 = 0
  omega
theorem gapS_cons (U : Int) (t : Str) (x : Int) (xs : List Int) (s : Int) : gapS U t (x :: xs) s = (stp U x t s - s - near x U t) + gapS U t xs (stp U x t s) := by
  unfold gapS
  rw [List.map_cons, List.sum_cons]
  show runL U t xs (stp U x t s) - s - _ = _
  omega
theorem runL_cons (U : Int) (t : Str) (x : Int) (xs : List Int) (s : Int) : runL U t (x :: xs) s = runL U t xs (stp U x t s) := rfl
theorem gapS_app (U : Int) (t : Str) : ∀ (xs ys : List Int) (s : Int), gapS U t (xs ++ ys) s = gapS U t xs s + gapS U t ys (runL U t xs s)
  | [], ys, s => by
    rw [gapS_nil]
    show gapS U t ys s = 0 + gapS U t ys s
    omega
  | x :: xs, ys, s => by
    rw [List.cons_append, gapS_cons, gapS_cons, gapS_app U t xs ys, runL_cons]
    omega
/-- what is kept from step to step -/
theorem gap_inv {U : Int} {t : Str} (Φ : Nat → Int → Int → Prop) : ∀ (xs : List Int) (k : Nat) (g s : Int), (∀ k g s x, x ∈ xs → Φ k g s → Φ (k + 1) (g + (stp U x t s - s - near x U t)) (stp U x t s)) → Φ k g s → Φ (k + xs.length) (g + gapS U t xs s) (runL U t xs s)
  | [], k, g, s, _, h => by
    rw [gapS_nil, Int.add_zero]
    exact h
  | x :: xs, k, g, s, st, h => by
    have z := gap_inv Φ xs (k + 1) _ _ (fun k g s y hy => st k g s y (List.mem_cons_of_mem _ hy)) (st k g s x (List.mem_cons_self ..) h)
    rw [gapS_cons, runL_cons]
    rw [show k + (x :: xs).length = k + 1 + xs.length by rw [List.length_cons]; omega]
    rw [show g + (stp U x t s - s - near x U t + gapS U t xs (stp U x t s)) = g + (stp U x t s - s - near x U t) + gapS U t xs (stp U x t s) by omega]
    exact z
def flatW : List Str := ["floor", "ceiling", "halfup", "halfdown"]
theorem near_stp (x U : Int) (t : Str) : near x U t = stp U x t 0 := by
  unfold stp
  rw [Int.zero_mul, Int.zero_add]
theorem loose_no {U x : Int} {t : Str} (h : t ∈ flatW) : isLoose U x t = false := by
  unfold isLoose
  have a : ¬ t ∈ looseL1 := by
    simp only [flatW, List.mem_cons, List.not_mem_nil, or_false] at h
    rcases h with rfl | rfl | rfl | rfl <;> decide +kernel
  have b : ¬ t ∈ looseL2 := by
    simp only [flatW, List.mem_cons, List.not_mem_nil, or_false] at h
    rcases h with rfl | rfl | rfl | rfl <;> decide +kernel
  rw [decide_eq_false a, decide_eq_false b]
  rfl
theorem loose_1 {U x : Int} {t : Str} (h : t ∈ looseL1) : isLoose U x t = decide (x % U ≠ 0) := by
  unfold isLoose
  have b : ¬ t ∈ looseL2 := by
    simp only [looseL1, List.mem_cons, List.not_mem_nil, or_false] at h
    rcases h with rfl | rfl <;> decide +kernel
  rw [decide_eq_true h, decide_eq_false b]
  simp
theorem loose_2 {U x : Int} {t : Str} (h : t ∈ looseL2) : isLoose U x t = decide (2 * (x % U) = U) := by
  unfold isLoose
  have b : ¬ t ∈ looseL1 := by
    simp only [looseL2, List.mem_cons, List.not_mem_nil, or_false] at h
    rcases h with rfl | rfl | rfl <;> decide +kernel
  rw [decide_eq_true h, decide_eq_false b]
  simp
section
variable {U x s : Int} {t : Str}
/-- what one step gains -/
theorem gain_tight (h : 0 < U) (ht : t ∈ waysL) (n : isLoose U x t = false) : stp U x t s - s - near x U t = 0 := by
  rw [stp_tight h ht n]
  omega
theorem near_evenL (h : 0 < U) (l : isLoose U x "halfeven" = true) : near x U "halfeven" = x / U + x / U % 2 := by
  rw [near_stp, stp_even h l, Int.zero_add]
theorem near_sideL (h : 0 < U) (ht : t ∈ waysL) (l : isLoose U x t = true) (ne : t ≠ "halfeven") : near x U t = addS (x / U) t (x / U) := by
  rw [near_stp, stp_side h ht l ne, Int.zero_add, Int.zero_add]
def cutW : List Str := ["cut", "halfcut"]
def awayW : List Str := ["away", "halfaway"]
theorem addS_cut {F a : Int} (h : t ∈ cutW) : addS F t a = if 0 ≤ a then F else F + 1 := by
  have e : t = "cut" ∨ t = "halfcut" := by simpa [cutW] using h
  unfold addS
  by_cases z : 0 ≤ a
  · simp [z, e]
  · simp [z, e]
theorem addS_away {F a : Int} (h : t ∈ awayW) : addS F t a = if 0 ≤ a then F + 1 else F := by
  have e : ¬ (t = "cut" ∨ t = "halfcut") := by
    simp only [awayW, List.mem_cons, List.not_mem_nil, or_false] at h
    rcases h with rfl | rfl <;> decide +kernel
  unfold addS
  by_cases z : 0 ≤ a
  · simp [z, e]
  · simp [z, e]
theorem cut_way (h : t ∈ cutW) : t ∈ waysL ∧ t ≠ "halfeven" := by
  simp only [cutW, List.mem_cons, List.not_mem_nil, or_false] at h
  rcases h with rfl | rfl <;> exact ⟨by decide +kernel, by decide +kernel⟩
theorem away_way (h : t ∈ awayW) : t ∈ waysL ∧ t ≠ "halfeven" := by
  simp only [awayW, List.mem_cons, List.not_mem_nil, or_false] at h
  rcases h with rfl | rfl <;> exact ⟨by decide +kernel, by decide +kernel⟩
theorem ways_parts (h : t ∈ waysL) : t ∈ flatW ∨ t = "halfeven" ∨ t ∈ cutW ∨ t ∈ awayW := by
  rcases way_cases h with rfl | rfl | rfl | rfl | rfl | rfl | rfl | rfl | rfl
  · exact .inl (by decide +kernel)
  · exact .inl (by decide +kernel)
  · exact .inr (.inr (.inl (by decide +kernel)))
  · exact .inr (.inr (.inr (by decide +kernel)))
  · exact .inl (by decide +kernel)
  · exact .inl (by decide +kernel)
  · exact .inr (.inl rfl)
  · exact .inr (.inr (.inr (by decide +kernel)))
  · exact .inr (.inr (.inl (by decide +kernel)))
/-- the figures that a unit of the way takes: P units at most -/
def shareOf (t : Str) (P : Int) : Int := P + if t = "halfcut" then 1 else 0
theorem near_small (hU : 1 < U) {P : Int} (hP : 0 < P) (h : t ∈ cutW) (h1 : -(P * U - 1) ≤ x) (h2 : x ≤ P * U - 1) : -(shareOf t P - 1) ≤ near x U t ∧ near x U t ≤ shareOf t P - 1 := by
  have U0 : 0 < U := by omega
  have em := Int.emod_add_mul_ediv x U
  have r0 := Int.emod_nonneg x (show U ≠ 0 by omega)
  have r1 := Int.emod_lt_of_pos x U0
  have qu : x / U ≤ P - 1 := by
    have z : x / U < P := Int.ediv_lt_of_lt_mul U0 (by omega)
    omega
  have ql : -P ≤ x / U := by
    refine (Int.le_ediv_iff_mul_le U0).mpr ?_
    rw [Int.neg_mul]
    omega
  have lo := near_lo (n := x) (d := U) t
  have hi := near_hi (n := x) (d := U) t
  have e : t = "cut" ∨ t = "halfcut" := by simpa [cutW] using h
  unfold shareOf
  rcases e with rfl | rfl
  · rw [if_neg (by decide +kernel)]
    by_cases r : x % U = 0
    · rw [near_zero r]
      refine ⟨?_, by omega⟩
      have nz : x / U ≠ -P := fun z => by
        rw [z, r, Int.mul_neg, Int.mul_comm] at em
        omega
      omega
    · have l : isLoose U x "cut" = true := by rw [loose_1 (by decide +kernel)]; exact decide_eq_true r
      rw [near_sideL U0 (by decide +kernel) l (by decide +kernel), addS_cut (by decide +kernel)]
      split <;> omega
  · rw [if_pos rfl]
    omega
end
/-! ### no gap is greater -/
section
variable {U P : Int} {t : Str}
theorem gap_flat (h : 0 < U) (ht : t ∈ flatW) (xs : List Int) (s : Int) : gapS U t xs s = 0 := by
  have hw : t ∈ waysL := by
    simp only [flatW, List.mem_cons, List.not_mem_nil, or_false] at ht
    rcases ht with rfl | rfl | rfl | rfl <;> decide +kernel
  have z := gap_inv (U := U) (t := t) (fun _ g _ => g = 0) xs 0 0 s (fun k g s x _ hg => by
    try dsimp only at hg ⊢
    rw [gain_tight h hw (loose_no ht)]
    omega) rfl
  try dsimp only at z
  omega
theorem gap_even (h : 0 < U) (xs : List Int) : 2 * gapS U "halfeven" xs 0 ≤ xs.length ∧ -(xs.length : Int) ≤ 2 * gapS U "halfeven" xs 0 := by
  have z := gap_inv (U := U) (t := "halfeven") (fun k g s => 2 * g + s % 2 ≤ k ∧ s % 2 - 2 * g ≤ k) xs 0 0 0 (fun k g s x _ hg => by
    try dsimp only at hg ⊢
    by_cases l : isLoose U x "halfeven" = true
    · rw [stp_even h l, near_evenL h l]
      omega
    · have l : isLoose U x "halfeven" = false := by simpa using l
      rw [gain_tight h (by decide +kernel) l]
      omega) (by simp)
  try dsimp only at z
  omega
/-- .. where all parts are less than a unit -/
theorem gap_even0 (h : 0 < U) (xs : List Int) (hx : ∀ x ∈ xs, 0 ≤ x ∧ x < U) : 0 ≤ gapS U "halfeven" xs 0 := by
  have z := gap_inv (U := U) (t := "halfeven") (fun k g s => 0 ≤ g) xs 0 0 0 (fun k g s x m hg => by
    try dsimp only at hg ⊢
    obtain ⟨x0, x1⟩ := hx x m
    have q : x / U = 0 := Int.ediv_eq_zero_of_lt x0 x1
    by_cases l : isLoose U x "halfeven" = true
    · rw [stp_even h l, near_evenL h l, q]
      omega
    · have l : isLoose U x "halfeven" = false := by simpa using l
      rw [gain_tight h (by decide +kernel) l]
      omega) (by simp)
  try dsimp only at z
  omega
theorem gap_side0 (h : 0 < U) (ht : t ∈ cutW ∨ t ∈ awayW) (xs : List Int) (hx : ∀ x ∈ xs, 0 ≤ x) : gapS U t xs 0 = 0 := by
  have hw : t ∈ waysL ∧ t ≠ "halfeven" := ht.elim cut_way away_way
  have z := gap_inv (U := U) (t := t) (fun k g s => g = 0 ∧ 0 ≤ s) xs 0 0 0 (fun k g s x m hg => by
    try dsimp only at hg ⊢
    have q : 0 ≤ x / U := Int.ediv_nonneg (hx x m) (by omega)
    by_cases l : isLoose U x t = true
    · rw [near_sideL h hw.1 l hw.2, stp_side h hw.1 l hw.2]
      rcases ht with ht | ht
      · rw [addS_cut ht, addS_cut ht, if_pos q, if_pos (by omega)]
        omega
      · rw [addS_away ht, addS_away ht, if_pos q, if_pos (by omega)]
        omega
    · have l : isLoose U x t = false := by simpa using l
      have e := near_lo (n := x) (d := U) t
      rw [stp_tight h hw.1 l]
      omega) ⟨rfl, by omega⟩
  try dsimp only at z
  omega
theorem gap_away (h : 0 < U) (ht : t ∈ awayW) (xs : List Int) (ne : xs ≠ []) : gapS U t xs 0 ≤ xs.length - 1 ∧ -((xs.length : Int) - 1) ≤ gapS U t xs 0 := by
  have hw := away_way ht
  have z := gap_inv (U := U) (t := t) (fun k g s => (k = 0 → g = 0 ∧ s = 0) ∧ (0 < k → g ≤ k - 1 ∧ -((k : Int) - 1) ≤ g)) xs 0 0 0 (fun k g s x m hg => by
    try dsimp only at hg ⊢
    refine ⟨fun z => by omega, fun _ => ?_⟩
    by_cases l : isLoose U x t = true
    · rw [near_sideL h hw.1 l hw.2, stp_side h hw.1 l hw.2, addS_away ht, addS_away ht]
      by_cases k0 : k = 0
      · obtain ⟨rfl, rfl⟩ := hg.1 k0
        rw [Int.zero_add]
        omega
      · have := hg.2 (by omega)
        split <;> split <;> omega
    · have l : isLoose U x t = false := by simpa using l
      rw [gain_tight h hw.1 l]
      by_cases k0 : k = 0
      · obtain ⟨rfl, rfl⟩ := hg.1 k0
        omega
      · have := hg.2 (by omega)
        omega) ⟨fun _ => ⟨rfl, rfl⟩, fun z => by omega⟩
  try dsimp only at z
  have l : 0 < xs.length := List.length_pos_iff.mpr ne
  have := z.2 (by omega)
  omega
theorem gap_cut (hU : 1 < U) (hP : 0 < P) (ht : t ∈ cutW) (xs : List Int) (hx : ∀ x ∈ xs, -(P * U - 1) ≤ x ∧ x ≤ P * U - 1) :
    gapS U t xs 0 ≤ xs.length + -(xs.length : Int) / shareOf t P ∧ -((xs.length : Int) + -(xs.length : Int) / shareOf t P) ≤ gapS U t xs 0 := by
  have hw := cut_way ht
  have h : 0 < U := by omega
  have S0 : 0 < shareOf t P := by unfold shareOf; split <;> omega
  generalize hM : shareOf t P = S at S0
  have z := gap_inv (U := U) (t := t) (fun k g s => (0 ≤ S * (k - g) - k ∧ 0 ≤ S * (k - g) - k + s) ∧ (0 ≤ S * (k + g) - k ∧ 0 ≤ S * (k + g) - k - s)) xs 0 0 0 (fun k g s x m hg => by
    try dsimp only at hg ⊢
    obtain ⟨n1, n2⟩ := near_small hU hP ht (hx x m).1 (hx x m).2
    rw [hM] at n1 n2
    have kk : ((k + 1 : Nat) : Int) = (k : Int) + 1 := by omega
    have A0 : S * ((k : Int) + 1 - (g + 0)) = S * ((k : Int) - g) + S := by rw [show (k : Int) + 1 - (g + 0) = ((k : Int) - g) + 1 by omega, Int.mul_add, Int.mul_one]
    have A1 : S * ((k : Int) + 1 - (g + 1)) = S * ((k : Int) - g) := by rw [show (k : Int) + 1 - (g + 1) = ((k : Int) - g) by omega]
    have A2 : S * ((k : Int) + 1 - (g + -1)) = S * ((k : Int) - g) + 2 * S := by rw [show (k : Int) + 1 - (g + -1) = ((k : Int) - g) + 2 by omega, Int.mul_add, Int.mul_comm S 2]
    have B0 : S * ((k : Int) + 1 + (g + 0)) = S * ((k : Int) + g) + S := by rw [show (k : Int) + 1 + (g + 0) = ((k : Int) + g) + 1 by omega, Int.mul_add, Int.mul_one]
    have B1 : S * ((k : Int) + 1 + (g + 1)) = S * ((k : Int) + g) + 2 * S := by rw [show (k : Int) + 1 + (g + 1) = ((k : Int) + g) + 2 by omega, Int.mul_add, Int.mul_comm S 2]
    have B2 : S * ((k : Int) + 1 + (g + -1)) = S * ((k : Int) + g) := by rw [show (k : Int) + 1 + (g + -1) = ((k : Int) + g) by omega]
    generalize S * ((k : Int) - g) = a at *
    generalize S * ((k : Int) + g) = b at *
    rw [kk]
    by_cases l : isLoose U x t = true
    · rw [near_sideL h hw.1 l hw.2, addS_cut ht] at n1 n2
      rw [near_sideL h hw.1 l hw.2, stp_side h hw.1 l hw.2, addS_cut ht, addS_cut ht]
      by_cases c1 : 0 ≤ x / U
      · rw [if_pos c1] at n1 n2 ⊢
        by_cases c2 : 0 ≤ s + x / U
        · rw [if_pos c2, show s + x / U - s - x / U = 0 by omega, A0, B0]
          omega
        · rw [if_neg c2, show s + (x / U + 1) - s - x / U = 1 by omega, A1, B1]
          omega
      · rw [if_neg c1] at n1 n2 ⊢
        by_cases c2 : 0 ≤ s + x / U
        · rw [if_pos c2, show s + x / U - s - (x / U + 1) = -1 by omega, A2, B2]
          omega
        · rw [if_neg c2, show s + (x / U + 1) - s - (x / U + 1) = 0 by omega, A0, B0]
          omega
    · have l : isLoose U x t = false := by simpa using l
      rw [gain_tight h hw.1 l, stp_tight h hw.1 l, A0, B0]
      omega) (by simp)
  try dsimp only at z
  obtain ⟨⟨z1, _⟩, ⟨z2, _⟩⟩ := z
  rw [Int.zero_add, Nat.zero_add] at z1 z2
  generalize gapS U t xs 0 = g at z1 z2 ⊢
  have e1 : g - (xs.length : Int) ≤ -(xs.length : Int) / S := by
    refine (Int.le_ediv_iff_mul_le S0).mpr ?_
    rw [Int.mul_comm]
    have : S * (g - (xs.length : Int)) = -(S * ((xs.length : Int) - g)) := by rw [← Int.mul_neg]; congr 1; omega
    omega
  have e2 : -g - (xs.length : Int) ≤ -(xs.length : Int) / S := by
    refine (Int.le_ediv_iff_mul_le S0).mpr ?_
    rw [Int.mul_comm]
    have : S * (-g - (xs.length : Int)) = -(S * ((xs.length : Int) + g)) := by rw [← Int.mul_neg]; congr 1; omega
    omega
  omega
end
end Own

/-! own layer, of no law: OWO1: running totals over all orders: how far they reach. -/
namespace Own
open PySem PySem.Spec PyProof.Rows L2 LamX NdefX
/-! ### sums over entries -/
def wsum (f : Int → Int) : List (Int × Nat) → Int
  | [] => 0
  | e :: r => f e.1 * e.2 + wsum f r
theorem wsum_app (f : Int → Int) : ∀ es fs : List (Int × Nat), wsum f (es ++ fs) = wsum f es + wsum f fs
  | [], fs => by simp [wsum]
  | e :: r, fs => by
    show f e.1 * e.2 + wsum f (r ++ fs) = f e.1 * e.2 + wsum f r + wsum f fs
    rw [wsum_app f r fs]
    omega
theorem wsum_perm (f : Int → Int) {es fs : List (Int × Nat)} (h : List.Perm es fs) : wsum f es = wsum f fs := by
  induction h with
  | nil => rfl
  | cons x _ ih => show _ + _ = _ + _; rw [ih]
  | swap x y l => show _ + (_ + _) = _ + (_ + _); omega
  | trans _ _ a b => exact a.trans b
/-- one entry each -/
def ones (ys : List Int) : List (Int × Nat) := ys.map fun y => (y, 1)
theorem wsum_ones_nil (f : Int → Int) : wsum f (ones []) = 0 := rfl
theorem wsum_ones (f : Int → Int) (y : Int) (ys : List Int) : wsum f (ones (y :: ys)) = f y + wsum f (ones ys) := by
  show f y * ((1 : Nat) : Int) + wsum f (ones ys) = _
  omega
/-! ### how many of some sizes are within a room -/
/-- n of the sizes are taken, which come to c -/
inductive Ch : List (Int × Nat) → Int → Int → Prop where
  | nil : Ch [] 0 0
  | more {s : Int} {k : Nat} {l : List (Int × Nat)} {n c : Int} (j : Int) (h0 : 0 ≤ j) (h1 : j ≤ k) (r : Ch l n c) : Ch ((s, k) :: l) (j + n) (j * s + c)
theorem Ch.to {s : Int} {k : Nat} {l : List (Int × Nat)} {n c n' c' : Int} (j : Int) (h0 : 0 ≤ j) (h1 : j ≤ k) (r : Ch l n c) (e1 : n' = j + n) (e2 : c' = j * s + c) : Ch ((s, k) :: l) n' c' := by
  rw [e1, e2]
  exact .more j h0 h1 r
theorem Ch.zero : ∀ l : List (Int × Nat), Ch l 0 0
  | [] => .nil
  | (s, k) :: l => .to 0 (Int.le_refl _) (by omega) (Ch.zero l) (by omega) (by omega)
theorem Ch.pos {l : List (Int × Nat)} {n c : Int} (h : Ch l n c) : 0 ≤ n ∧ ((∀ e ∈ l, 0 ≤ e.1) → 0 ≤ c) := by
  induction h with
  | nil => exact ⟨Int.le_refl _, fun _ => Int.le_refl _⟩
  | @more s k l n c j h0 h1 r ih =>
    refine ⟨by omega, fun hl => ?_⟩
    have a := ih.2 fun e he => hl e (List.mem_cons_of_mem _ he)
    have b := Int.mul_nonneg h0 (show 0 ≤ s from hl (s, k) List.mem_cons_self)
    omega
theorem Ch.perm {l l' : List (Int × Nat)} (p : List.Perm l l') : ∀ {n c : Int}, Ch l n c → Ch l' n c := by
  induction p with
  | nil => exact fun h => h
  | cons x _ ih =>
    intro n c h
    cases h with
    | more j h0 h1 r => exact .more j h0 h1 (ih r)
  | swap x y l =>
    intro n c h
    cases h with
    | more j h0 h1 r =>
      cases r with
      | more i g0 g1 r => exact .to i g0 g1 (.more j h0 h1 r) (by omega) (by omega)
  | trans _ _ a b => exact fun h => b (a h)
/-- a size told in two parts -/
theorem Ch.join {s : Int} {a b : Nat} {l : List (Int × Nat)} {n c : Int} : Ch ((s, a) :: (s, b) :: l) n c ↔ Ch ((s, a + b) :: l) n c := by
  constructor
  · intro h
    cases h with
    | more j h0 h1 r =>
      cases r with
      | more i g0 g1 r => exact .to (j + i) (by omega) (by omega) r (by omega) (by rw [Int.add_mul]; omega)
  · intro h
    cases h with
    | more j h0 h1 r =>
      by_cases z : j ≤ a
      · exact .to j h0 z (.more 0 (by omega) (by omega) r) (by omega) (by omega)
      · refine .to (a : Int) (by omega) (by omega) (.more (j - a) (by omega) (by omega) r) (by omega) ?_
        rw [Int.sub_mul]
        omega
/-- with one size in front -/
theorem Ch.cons_iff {x : Int × Nat} {l l' : List (Int × Nat)} (h : ∀ n c, Ch l n c ↔ Ch l' n c) (n c : Int) : Ch (x :: l) n c ↔ Ch (x :: l') n c := by
  constructor
  · intro z
    cases z with
    | more j h0 h1 r => exact .more j h0 h1 ((h _ _).mp r)
  · intro z
    cases z with
    | more j h0 h1 r => exact .more j h0 h1 ((h _ _).mpr r)
/-- the most of the sizes that are within a room -/
def Mst (l : List (Int × Nat)) (r m : Int) : Prop := (r < 0 → m = 0) ∧ (0 ≤ r → (∃ c, c ≤ r ∧ Ch l m c) ∧ ∀ n c, Ch l n c → c ≤ r → n ≤ m)
theorem Mst.one {l : List (Int × Nat)} {r m m' : Int} (a : Mst l r m) (b : Mst l r m') : m = m' := by
  by_cases z : 0 ≤ r
  · obtain ⟨⟨c, h1, h2⟩, h3⟩ := a.2 z
    obtain ⟨⟨c', g1, g2⟩, g3⟩ := b.2 z
    have := h3 _ _ g2 g1
    have := g3 _ _ h2 h1
    omega
  · rw [a.1 (by omega), b.1 (by omega)]
theorem Mst.pos {l : List (Int × Nat)} {r m : Int} (a : Mst l r m) : 0 ≤ m := by
  by_cases z : 0 ≤ r
  · obtain ⟨⟨c, h1, h2⟩, _⟩ := a.2 z
    exact h2.pos.1
  · rw [a.1 (by omega)]
    exact Int.le_refl _
theorem Mst.iff {l l' : List (Int × Nat)} {r m : Int} (h : ∀ n c, Ch l n c ↔ Ch l' n c) : Mst l r m ↔ Mst l' r m := by
  constructor
  · intro a
    refine ⟨a.1, fun z => ?_⟩
    obtain ⟨⟨c, h1, h2⟩, h3⟩ := a.2 z
    exact ⟨⟨c, h1, (h _ _).mp h2⟩, fun n c x y => h3 n c ((h _ _).mpr x) y⟩
  · intro a
    refine ⟨a.1, fun z => ?_⟩
    obtain ⟨⟨c, h1, h2⟩, h3⟩ := a.2 z
    exact ⟨⟨c, h1, (h _ _).mpr h2⟩, fun n c x y => h3 n c ((h _ _).mp x) y⟩
/-- the least sizes first -/
def gre : List (Int × Nat) → Int → Int
  | [], _ => 0
  | (s, k) :: l, r => (if s = 0 then (k : Int) else min (k : Int) (r / s)) + gre l (r - (if s = 0 then (k : Int) else min (k : Int) (r / s)) * s)
def Rise : List (Int × Nat) → Prop
  | [] => True
  | (s, k) :: l => (∀ e ∈ l, s ≤ e.1) ∧ Rise l
theorem fit_le {s r : Int} {k : Nat} (hs : 0 ≤ s) (hr : 0 ≤ r) : 0 ≤ (if s = 0 then (k : Int) else min (k : Int) (r / s)) ∧ (if s = 0 then (k : Int) else min (k : Int) (r / s)) ≤ k ∧ (if s = 0 then (k : Int) else min (k : Int) (r / s)) * s ≤ r ∧
    ((if s = 0 then (k : Int) else min (k : Int) (r / s)) < k → 0 < s ∧ r - (if s = 0 then (k : Int) else min (k : Int) (r / s)) * s < s) := by
  by_cases z : s = 0
  · rw [if_pos z]
    exact ⟨by omega, Int.le_refl _, by rw [z, Int.mul_zero]; exact hr, fun y => absurd y (Int.lt_irrefl _)⟩
  · rw [if_neg z]
    have s0 : 0 < s := by omega
    have d0 := Int.ediv_nonneg hr hs
    have e := Int.emod_add_mul_ediv r s
    have r0 := Int.emod_nonneg r z
    have r1 := Int.emod_lt_of_pos r s0
    have dm : r / s * s ≤ r := by rw [Int.mul_comm]; omega
    by_cases y : (k : Int) ≤ r / s
    · rw [Int.min_eq_left y]
      have := Int.mul_le_mul_of_nonneg_right y hs
      exact ⟨by omega, Int.le_refl _, by omega, fun w => absurd w (Int.lt_irrefl _)⟩
    · rw [Int.min_eq_right (by omega)]
      exact ⟨d0, by omega, dm, fun _ => ⟨s0, by rw [Int.mul_comm]; omega⟩⟩
theorem gre_ch : ∀ (l : List (Int × Nat)) (r : Int), (∀ e ∈ l, 0 ≤ e.1) → 0 ≤ r → ∃ c, c ≤ r ∧ Ch l (gre l r) c
  | [], r, _, hr => ⟨0, hr, .nil⟩
  | (s, k) :: l, r, hl, hr => by
    obtain ⟨f0, f1, f2, _⟩ := fit_le (k := k) (show 0 ≤ s from hl (s, k) List.mem_cons_self) hr
    unfold gre
    generalize (if s = 0 then (k : Int) else min (k : Int) (r / s)) = f at f0 f1 f2 ⊢
    obtain ⟨c, hc, h⟩ := gre_ch l (r - f * s) (fun e he => hl e (List.mem_cons_of_mem _ he)) (by omega)
    exact ⟨f * s + c, by omega, .more f f0 f1 h⟩
theorem gre_most : ∀ (l : List (Int × Nat)) (s0 r d n c : Int), Rise l → (∀ e ∈ l, s0 ≤ e.1) → 0 ≤ s0 → 0 ≤ r → 0 ≤ d → Ch l n c → c ≤ r + d * s0 → n ≤ gre l r + d
  | [], s0, r, d, n, c, _, _, _, _, hd, h, _ => by
    cases h
    show 0 ≤ 0 + d
    omega
  | (s, k) :: l, s0, r, d, n, c, hR, hl, h0, hr, hd, h, hc => by
    have ss : s0 ≤ s := hl (s, k) List.mem_cons_self
    obtain ⟨f0, f1, f2, f3⟩ := fit_le (k := k) (show 0 ≤ s by omega) hr
    unfold gre
    generalize (if s = 0 then (k : Int) else min (k : Int) (r / s)) = f at f0 f1 f2 f3 ⊢
    have dd : d * s0 ≤ d * s := Int.mul_le_mul_of_nonneg_left ss hd
    cases h with
    | @more _ _ _ n' c' j j0 j1 t =>
      by_cases z : j ≤ f
      · have e : (f - j + d) * s = f * s - j * s + d * s := by rw [Int.add_mul, Int.sub_mul]
        have := gre_most l s (r - f * s) (f - j + d) n' c' hR.2 hR.1 (by omega) (by omega) (by omega) t (by omega)
        omega
      · obtain ⟨g0, g1⟩ := f3 (by omega)
        have e : (d - (j - f)) * s = d * s - (j * s - f * s) := by rw [Int.sub_mul, Int.sub_mul]
        have cp := t.pos.2 fun e he => Int.le_trans (by omega) (hR.1 e he)
        have dj : 0 ≤ d - (j - f) := by
          refine Int.le_of_not_gt fun y => ?_
          have : (d - (j - f)) * s ≤ -1 * s := Int.mul_le_mul_of_nonneg_right (by omega) (by omega)
          omega
        have := gre_most l s (r - f * s) (d - (j - f)) n' c' hR.2 hR.1 (by omega) (by omega) dj t (by omega)
        omega
theorem gre_is {l : List (Int × Nat)} {r : Int} (hR : Rise l) (hl : ∀ e ∈ l, 0 ≤ e.1) (hr : 0 ≤ r) : Mst l r (gre l r) :=
  ⟨fun z => absurd z (by omega), fun _ => ⟨gre_ch l r hl hr, fun n c h hc => by
    have := gre_most l 0 r 0 n c hR hl (Int.le_refl _) hr (Int.le_refl _) h (by omega)
    omega⟩⟩
/-- behind one size that does not fit whole none fits -/
theorem gre_out {s r : Int} (h0 : 0 ≤ r) (h1 : r < s) : ∀ l : List (Int × Nat), (∀ e ∈ l, s ≤ e.1) → gre l r = 0
  | [], _ => rfl
  | (a, k) :: l, h => by
    have ha : s ≤ a := h (a, k) List.mem_cons_self
    unfold gre
    have z : a ≠ 0 := by omega
    rw [if_neg z, Int.ediv_eq_zero_of_lt h0 (by omega), Int.min_eq_right (by omega), Int.zero_mul, Int.sub_zero, gre_out h0 h1 l fun e he => h e (List.mem_cons_of_mem _ he)]
    rfl
/-- the most of some sizes, in any order -/
theorem gre_perm {l l' : List (Int × Nat)} {r : Int} (hp : List.Perm l l') (hR : Rise l') (hl : ∀ e ∈ l, 0 ≤ e.1) (hr : 0 ≤ r) : Mst l r (gre l' r) :=
  (Mst.iff fun n c => ⟨Ch.perm hp, Ch.perm hp.symm⟩).mpr (gre_is hR (fun e he => hl e (hp.symm.subset he)) hr)
end Own

/-! own layer, of no law: OWNX: isinstance of a caught error with a field; a def called with a lambda written there. -/
namespace Own
open PySem PySem.Spec PyProof.Rows L2 LamX NdefX
/-- isinstance(e, c), e the exception with a dict that the suite holds -/
theorem call_isED {X : Cx} {a D : Addr} {oe : Obj} {cls : Value} {d : Option Addr} {pn : List (Addr × Obj)} (C : ExcC X.K D) (hz : Zc cls d oe) (hf : ∃ vs, oe.data = .fields vs) : CallR (X.suite a ((a, oe) :: pn)) (.builtin "isinstance")
    (fun xs H Q => ∃ (c : V) (cv : Value) (b : Bool) (dd : Addr) (fs : List (Str × V)), xs = [.ref a, c] ∧ cls = .ref D ∧ d = some dd ∧ H dd = some (.xd fs) ∧ ClsV c cv ∧ PySem.W.kitOne X.K (.ref D) cv = some b ∧ Q (.bl b) H) := by
  intro pins s σ H xs us Q I r h
  obtain ⟨c, cv, b, dd, fs, rfl, rfl, rfl, ea, hcv, e, q⟩ := h
  obtain ⟨u1, u2, rfl, r1, r2⟩ := vals2 r
  have ec := hcv.eq r2
  subst ec
  cases (show u1 = Value.ref a from r1)
  obtain ⟨hget, _⟩ := I.pin (a, oe) (List.mem_append.mpr (.inl List.mem_cons_self))
  obtain ⟨vs, hv⟩ := hf
  have hx : ObjOk X.prog X.w H s.heap dd (.xd fs) := I.hok dd _ ea
  obtain ⟨mA, hns, hr⟩ := hx
  obtain ⟨od, ho, hl⟩ := lookIn_ns hns
  have J : PySem.W.InstAt s.heap a oe D (some od) := ⟨hget, hz.1, by unfold PySem.W.notCls; rw [hv] <;> rfl, by rw [hz.2]; exact ho⟩
  obtain ⟨cd, hc, _⟩ := PySem.W.any_some C.hd
  exact PySem.W.kia_one (PySem.W.kitx_exc (by rw [hc]; rfl) C.hg C.hk C.hs C.ha C.hn C.ht C.hm) I.kIn J e (fun z => nomatch z) fun tk => ⟨.bl b, H, I.kept (t' := tk) fun _ _ z => z, rfl, q⟩
/-- x(lambda: ..), the lambda without parameters -/
def tLamDir (X : Cx) (T : List (Addr × Str)) (params : Arguments) (body : Expr) (scope : Scope) (js : List Nat) (sp : (Hp → VK → XK → Prop) → List V → Hp → VK → Prop) (spl : List (Option V) → Hp → VK → XK → Prop) : TE :=
  fun σ H Q => tCons (tLamV X T params body scope) tNil σ H fun vs H1 => ∃ f c' : Addr, vs = [.ref f] ∧ LamAt H1 f (lamF X params scope c') body ∧ H1 c' = some (CodeO c' (X.env.qual ++ "<lambda>")) ∧ sp (spl (js.map (slotAt σ))) [] H1 Q
theorem pe_lamdir {X : Cx} {T : List (Addr × Str)} {params : Arguments} {body : Expr} {scope : Scope} {js : List Nat} {fr : List Str} {k kl j : Nat} {sp : (Hp → VK → XK → Prop) → List V → Hp → VK → Prop} {spl : List (Option V) → Hp → VK → XK → Prop} {x : Str} {p pos lpos : Pos}
    (D : LamDefAt X.prog X.w X.K X.mg X.base x k sp) (hkl : kl < k) (hr : Room j X.A) (hj : k ≤ j) (G : ∀ (f c' : Addr), LOk X.prog X.w X.K X.mg X.base (L2.CX X.prog X.w) kl f (lamF X params scope c') body fr spl)
    (hl : PE X (.Lambda params body scope lpos) (tLamV X T params body scope))
    (hfree : ∀ y ∈ scope.names, y.2 = .free → X.env.scope.names.lookup y.1 = some .cell ∨ X.env.scope.names.lookup y.1 = some .free) (hfr : ∀ y ∈ fr, (y, NameKind.free) ∈ scope.names) (hjs : js.map (fun j => X.N[j]?) = fr.map some)
    (hg : Gl X x) (hdb : (x == ("__debug__" : Str)) = false := by decide) (he : starEach [.Lambda params body scope lpos] X.env = (false, eval (.Lambda params body scope lpos) X.env) :: starEach [] X.env := by rfl) (hpl : (backTo pos (starEach [] X.env)).any (·.1) = false := by rfl) :
    PE X (.Call (.Name x p) [.Lambda params body scope lpos] [] pos) (tLamDir X T params body scope js sp spl) := by
  obtain ⟨g, R, gm, kp⟩ := D.ex
  have ha := pa_cons hl pa_nil
  constructor
  intro pins s σ H Q I h
  refine wpAny_Call_Name_kw (ld_glob I hg gm ?_ hdb)
  refine PySem.W.callWith_K (h₀ := X.base) I.ok.mod.kin kp (thn (ha.run pos pins s σ H _ I h) ?_) he hpl
  rintro us s1 ⟨vs, H1, I1, r, f, c', rfl, hf, hc, q⟩
  refine ⟨I1.kIn, wpAny_call (codeAny_mono (R.run X.A X.stack s1 H1 us f [] _ _ _ _ _ kl Q (hr.mono hj) hkl I1.env0 r (G f c') hf hc (cells_blk I1 hfree hfr hjs) q) fun z s' hz => ?_)⟩
  rcases z with er | fl
  · exact (show False from hz).elim
  · cases fl
    case ret u => exact I1.after hz
    all_goals exact False.elim hz
/-- x is flat, or an object -/
def Selfy (x : V) : Prop := flatV x = true ∨ ∃ a, x = .ref a
theorem Odd.selfy {H : Hp} {x : V} (h : Odd H x) : Selfy x := by
  cases h with
  | flat h => exact .inl (by cases x <;> first | rfl | (simp [okF] at h))
  | lst e f => exact .inr ⟨_, rfl⟩
  | tup e f => exact .inr ⟨_, rfl⟩
  | dct e n f => exact .inr ⟨_, rfl⟩
theorem eqV_self {x : V} (h : flatV x = true) : eqV x x = true := by
  cases x <;> first | (cases h; done) | rfl | (simp [eqV]; done)
theorem selfy_at {A : Around} {s : Shared} {x : V} {u v : Value} (h : Selfy x) (ru : RelV x u) (rv : RelV x v) : SeqAt.EqAt A s u v true := by
  rcases h with h | ⟨a, rfl⟩
  · have z := eqAt_V (A := A) (s := s) ru rv h h
    rw [eqV_self h] at z
    exact z
  · cases (show u = Value.ref a from ru)
    cases (show v = Value.ref a from rv)
    exact SeqAt.EqAt.same _
/-- [x] == [x], [x] != [x] -/
def rOne (K : PySem.W.Frag) (b : Bool) : R2 := fun x y H Q => ∃ (l m : Addr) (z : V), x = .ref l ∧ y = .ref m ∧ SqL K H l [z] ∧ SqL K H m [z] ∧ Selfy z ∧ Q (.bl b) H
section
variable {X : Cx}
theorem one_at {pins : List (Addr × Obj)} {σ : L2.St} {H : Hp} {s : Shared} {l m : Addr} {z : V} (I : Inv X pins σ H s) (h1 : SqL X.K H l [z]) (h2 : SqL X.K H m [z]) (hz : Selfy z) : ∃ i1 i2 : Value, s.heap.IsList l #[i1] ∧ s.heap.IsList m #[i2] ∧ ∀ A : Around, SeqAt.EqAt A s i1 i2 true := by
  obtain ⟨its1, r1, l1, _⟩ := I.list h1
  obtain ⟨its2, r2, l2, _⟩ := I.list h2
  obtain ⟨v1, rfl, q1⟩ := r1.one
  obtain ⟨v2, rfl, q2⟩ := r2.one
  exact ⟨v1, v2, l1.isList, l2.isList, fun A => selfy_at hz q1 q2⟩
theorem op_eqOne (hu : X.A.units + 64 < cLine) : OpR X (compareOp .Eq) (rOne X.K true) := by
  intro pins s σ H x y v u Q I rx ry h
  obtain ⟨l, m, z, rfl, rfl, h1, h2, hz, q⟩ := h
  cases (show v = Value.ref l from rx)
  cases (show u = Value.ref m from ry)
  obtain ⟨i1, i2, e1, e2, at_⟩ := one_at I h1 h2 hz
  have := SeqAt.RcAt.lists (A := X.A) (e := fun _ => true) e1 e2 rfl (by omega) (fun j j1 j2 => by
    have a : j = 0 := by have : j < 1 := j1; omega
    subst a
    exact at_ _)
  exact this X.prog X.w _ _ ⟨.bl true, H, I, rfl, q⟩
theorem op_neOne (hu : X.A.units + 64 < cLine) : OpR X (compareOp .NotEq) (rOne X.K false) := by
  intro pins s σ H x y v u Q I rx ry h
  obtain ⟨l, m, z, rfl, rfl, h1, h2, hz, q⟩ := h
  cases (show v = Value.ref l from rx)
  cases (show u = Value.ref m from ry)
  obtain ⟨i1, i2, e1, e2, at_⟩ := one_at I h1 h2 hz
  have := SeqAt.RcNeAt.lists (A := X.A) (e := fun _ => true) e1 e2 rfl (by omega) (fun j j1 j2 => by
    have a : j = 0 := by have : j < 1 := j1; omega
    subst a
    exact at_ _)
  exact this X.prog X.w _ _ ⟨.bl false, H, I, rfl, q⟩
end
end Own

/-! own layer, of no law: OWNK: a try with any number of except clauses that have a name. -/
namespace Own
open PySem PySem.Spec PyProof.Rows L2
/-- a clause: the class that it names, the slot of its name, what its suite asks -/
structure Cl where
  c : Value
  i : Nat
  ts : Addr → Value → Option Addr → TS
/-- the wish of the clauses, one behind the other -/
def wEach (K : PySem.W.Frag) (Wout : WX) (D : Ends) : List Cl → WX
  | [] => Wout
  | q :: r => wAs K q.c q.i q.ts (wEach K Wout D r) D
/-- the clauses as they are written, beside what they ask -/
inductive ClsOk (X : Cx) : List ExceptHandler → List Cl → Prop
  | none : ClsOk X [] []
  | more {x n : Str} {q : Cl} {b : Stmt} {bs : List Stmt} {p p' : Pos} {hds : List ExceptHandler} {l : List Cl} (named : Names X x q.c) (slot : X.N[q.i]? = some n) (loc : X.env.kindOf n = some .local)
      (su : ∀ (a : Addr) (o : Obj) (cls : Value) (d : Option Addr) (pn : List (Addr × Obj)), Zc cls d o → (∃ vs, o.data = .fields vs) → PSs (X.suite a ((a, o) :: pn)) (b :: bs) (q.ts a cls d)) (rest : ClsOk X hds l) :
      ClsOk X (.ExceptHandler (some (.Name x p)) (some n) (b :: bs) p' :: hds) (q :: l)
/-- the exception at a is caught: sI is the state without it, s the one with it -/
structure Caught (X : Cx) (pins : List (Addr × Obj)) (σ : L2.St) (H : Hp) (sI s : Shared) (B : Heap) (a : Addr) (cls : Value) (d : Option Addr) : Prop where
  I : Inv X pins σ H sI
  nb : ∀ b o, sI.heap.get? b = some o → b ∉ frs X.stack → B.get? b = some o
  up : sI.heap.UpToSlots s.heap
  fl : HandSPX.FlyingZ B (X.env :: X.outer) a (Zc cls d) s.heap
  na : H a = none
  os : s.os = sI.os
  ag : AllBare s.gens
section
variable {X : Cx} {pins : List (Addr × Obj)} {σ : L2.St} {H : Hp} {sI s : Shared} {B : Heap} {a : Addr} {cls : Value} {d : Option Addr}
theorem Caught.inv (c : Caught X pins σ H sI s B a cls d) : Inv X pins σ H s := c.I.landed c.nb c.fl.1 c.up c.os c.ag
theorem Caught.on (c : Caught X pins σ H sI s B a cls d) {h' : Heap} (f : HandSPX.FlyingZ B (X.env :: X.outer) a (Zc cls d) h') (u : s.heap.UpToSlots h') : Caught X pins σ H sI { s with heap := h' } B a cls d :=
  ⟨c.I, c.nb, c.up.trans u, f, c.na, c.os, c.ag⟩
/-- the record of the exception, and the state of a suite -/
theorem Caught.record (c : Caught X pins σ H sI s B a cls d) (hf : X.env.frame = some X.env.locals) : ∃ o : Obj, s.heap.get? a = some o ∧ Zc cls d o ∧ (∃ vs, o.data = .fields vs) ∧ Inv (X.suite a ((a, o) :: (X.pn ++ pins))) [] σ H s := by
  obtain ⟨o, vs, eo, z, dt⟩ := c.fl.there
  have off : a ∉ frs (X.env :: X.outer) := fun hm => by
    obtain ⟨_, o2, e2, hn⟩ := c.fl.2.2.1.mem hm
    rw [eo] at e2
    obtain rfl := Option.some.inj e2
    exact hn _ dt
  have n1 : a ≠ X.env.locals := by
    intro z
    refine off (List.mem_filterMap.mpr ⟨X.env, List.mem_cons_self, ?_⟩)
    rw [hf, z]
  have n2 : a ∉ X.fs := by
    intro hm
    obtain ⟨e, he, q⟩ := List.mem_filterMap.mp hm
    exact off (List.mem_filterMap.mpr ⟨e, List.mem_cons_of_mem _ he, q⟩)
  exact ⟨o, eo, z, ⟨vs, dt⟩, c.inv.suite eo dt c.na n1 n2⟩
/-- no clause is left: it goes on -/
theorem caught_out {D : Ends} {W : WX} (hs : X.stack = X.env :: X.outer) (hf : X.env.frame = some X.env.locals) (tk : Takes X W) (c : Caught X pins σ H sI s B a cls d) (w : W cls d σ H) :
    wpAny (model X.prog X.w) X.A (handleBy (.ref a) X.env []) (SP X pins D) X.xe s := by
  refine wpAny_handleBy_nil ?_
  have air := c.fl
  obtain ⟨_, _, _, o, vs, T, _, _, eo, _, dt, tb, _⟩ := c.fl
  unfold PySem.passOn
  refine wpAny_bind (wpAny_field eo dt tb ?_)
  rw [if_neg (show ¬ ((Value.ref T == Value.none) = true) by simp)]
  have z : wpAny (model X.prog X.w) X.A (setFlight (.ref a) X.env.frame) (fun _ t => wpAny (model X.prog X.w) X.A (throw (.ref a) : Sem Flow) (SP X pins D) X.xe t) X.xe s := by
    rw [hf]
    refine HandSPX.setFlight_upZ air fun h' held u => wpAny_throw (tk _ _ ⟨a, B, sI, pins, σ, H, cls, d, rfl, c.I, c.nb, c.up.trans u, ?_, c.na, c.os, c.ag, w⟩)
    rw [hs]
    exact .inr (.inr held)
  first
    | exact wpAny_bind z
    | exact wpAny_bind (wpAny_pure (wpAny_bind z))
/-- the suite of a clause with a name, its name gone behind it -/
theorem caught_suite {D : Ends} {n : Str} {q : Cl} {b : Stmt} {bs : List Stmt} {p' : Pos} (hf : X.env.frame = some X.env.locals) (hN : X.N.Nodup) (slot : X.N[q.i]? = some n) (loc : X.env.kindOf n = some .local)
    (su : ∀ (a : Addr) (o : Obj) (cls : Value) (d : Option Addr) (pn : List (Addr × Obj)), Zc cls d o → (∃ vs, o.data = .fields vs) → PSs (X.suite a ((a, o) :: pn)) (b :: bs) (q.ts a cls d)) (c : Caught X pins σ H sI s B a cls d)
    (h : q.ts a cls d { nx := fun σ' H' => D.nx (σ'.set q.i none) H', rt := D.rt, bk := fun σ' H' => D.bk (σ'.set q.i none) H', ct := fun σ' H' => D.ct (σ'.set q.i none) H' } (σ.set q.i (some (.ref a))) H) :
    codeAny (model X.prog X.w) (X.A.mark (some (.ref a))) (.handlers (.ref a) [.ExceptHandler none (some n) (b :: bs) p'] X.env) (fun r s2 => match r with
      | .ok f => wpAny (model X.prog X.w) X.A (do bindName X.env n .none; unbindBehindTheSuite X.env n p') (fun _ s3 => SP X pins D f s3) X.xe s2
      | .error x => cameBackBy (model X.prog X.w) X.A X.env X.xe x s2) s := by
  have ok := c.I.ok
  refine codeAny_handlers_suite_as (HandSPX.lands_againZ c.fl fun h4 f4 u4 => ?_)
  obtain ⟨o, _, z, dt, S⟩ := (c.on f4 u4).record hf
  refine store_ok (X := X.suite a ((a, o) :: (X.pn ++ pins))) (v := .ref a) S hN slot (.inl loc) rfl (fun s5 S5 => ?_) (.inr loc)
  refine wpAny_mono ((su a o cls d _ z dt).run [] s5 _ H _ S5 h) (fun f s6 g => ?_) fun _ _ y => y.elim
  cases f with
  | ret u =>
    obtain ⟨v, σ6, H6, S6, r, g⟩ := g
    exact gone_ok (S6.unsuite ok) hN slot loc fun s7 J => ⟨v, _, _, J, r, g⟩
  | next =>
    obtain ⟨σ6, H6, S6, g⟩ := g
    exact gone_ok (S6.unsuite ok) hN slot loc fun s7 J => ⟨_, _, J, g⟩
  | cont =>
    obtain ⟨σ6, H6, S6, g⟩ := g
    exact gone_ok (S6.unsuite ok) hN slot loc fun s7 J => ⟨_, _, J, g⟩
  | brk =>
    obtain ⟨σ6, H6, S6, g⟩ := g
    exact gone_ok (S6.unsuite ok) hN slot loc fun s7 J => ⟨_, _, J, g⟩
/-- the clauses, one behind the other -/
theorem caught_each {D : Ends} {W : WX} (hs : X.stack = X.env :: X.outer) (hf : X.env.frame = some X.env.locals) (hN : X.N.Nodup) (tk : Takes X W) {hds : List ExceptHandler} {l : List Cl} (k : ClsOk X hds l)
    (c : Caught X pins σ H sI s B a cls d) (w : wEach X.K W D l cls d σ H) : wpAny (model X.prog X.w) X.A (handleBy (.ref a) X.env hds) (SP X pins D) X.xe s := by
  induction k with
  | none => exact caught_out hs hf tk c w
  | @more x n q b bs p p' hds l named slot loc su rest ih =>
    obtain ⟨yes, hyes, w1, w0⟩ := w
    obtain ⟨o, eo, z, _, S⟩ := c.record hf
    refine wpAny_handleBy_cons (codeAny_handlers_test ?_) (fun q => nomatch q)
    have look : PySem.W.Looks (model X.prog X.w) s.heap (typeOf (.ref a)) cls := fun A Q E t k y => wpAny_typeOf_ref (k _ _ eo) (by rw [z.1]; exact y)
    have meets := PySem.W.exm_one (M := model X.prog X.w) (c.inv.kIn) look hyes
    have asked : ∀ {Q E : Value → Shared → Prop}, Q q.c s → wpAny (model X.prog X.w) (X.A.mark (some (.ref a))) (eval (.Name x p) X.env) Q E s := fun {Q E} y => by
      obtain ⟨hg, nd, hm | ⟨hm, hv, nn⟩⟩ := named
      · exact ld_glob (X := X.suite a ((a, o) :: (X.pn ++ pins))) S hg hm y nd
      · exact ld_blt (X := X.suite a ((a, o) :: (X.pn ++ pins))) S hg hm hv y nn nd
    refine asked (meets.here ?_)
    cases yes with
    | false => exact ih (w0 rfl)
    | true => exact caught_suite hf hN slot loc su c (w1 rfl a c.na)
end
/-- try: body, except x as n: suite, except y as m: suite, .. -/
theorem ps_try_each {X : Cx} {body : List Stmt} {h0 : ExceptHandler} {hds : List ExceptHandler} {l : List Cl} {pos : Pos} {tb : WX → TS} {Wout : WX} (hs : X.stack = X.env :: X.outer) (hf : X.env.frame = some X.env.locals) (hN : X.N.Nodup) (tk : Takes X Wout)
    (hb : ∀ (W : WX) (pn : List (Addr × Obj)) (xe : Value → Shared → Prop), Takes (X.tr pn xe) W → PassesOwn (model X.prog X.w) X.A X.env xe → PSs (X.tr pn xe) body (tb W)) (k : ClsOk X (h0 :: hds) l) :
    PS X (.Try body (h0 :: hds) [] [] pos) (fun D σ H => tb (wEach X.K Wout D l) D σ H) := by
  constructor
  intro pins s σ H D I h
  have ok := I.ok
  refine wpAny_Try_except (wpAny_mono ((hb (wEach X.K Wout D l) (X.pn ++ pins) _ ?_ PassesOwn.looking).run [] s σ H D (I.toTry _) h) ?_ fun e t z => z)
  · rintro u t ⟨a, B, sI, pins', σ', H', cls, d, rfl, J, nb, up, sky, na, os, ag, w⟩
    rw [show (X.tr (X.pn ++ pins) _).stack = X.env :: X.outer from hs] at sky
    refine Sky.land Zc.steady (by rw [ok.frames, hs]) hf sky fun h3 f3 u3 => ?_
    exact caught_each hs hf hN tk k ⟨J.ofTry ok, nb, up.trans u3, f3, na, os, ag⟩ w
  · intro f t g
    cases f with
    | ret u =>
      obtain ⟨v, σ', H', J, r, g⟩ := g
      exact ⟨v, σ', H', J.ofTry ok, r, g⟩
    | next =>
      obtain ⟨σ', H', J, g⟩ := g
      exact wpAny_execs_nil ⟨σ', H', J.ofTry ok, g⟩
    | cont =>
      obtain ⟨σ', H', J, g⟩ := g
      exact ⟨σ', H', J.ofTry ok, g⟩
    | brk =>
      obtain ⟨σ', H', J, g⟩ := g
      exact ⟨σ', H', J.ofTry ok, g⟩
end Own

namespace Own
open PySem PySem.Spec PyProof.Rows L2
/-- two tuples of the same values, whatever these are -/
def rTwo (K : PySem.W.Frag) (b : Bool) : R2 := fun x y H Q => ∃ (l m : Addr) (zs : List V), x = .ref l ∧ y = .ref m ∧ SqT K H l zs ∧ SqT K H m zs ∧ (∀ z ∈ zs, Selfy z) ∧ Q (.bl b) H
section
variable {X : Cx}
theorem vals_alike {A : Around} {s : Shared} {zs : List V} {us ws : List Value} (h : ∀ z ∈ zs, Selfy z) (ru : Vals zs us) (rw' : Vals zs ws) : ∀ (j : Nat) (h1 : j < us.toArray.size) (h2 : j < ws.toArray.size), SeqAt.EqAt A s us.toArray[j] ws.toArray[j] true := by
  intro j h1 h2
  have l1 := ru.length
  have l2 := rw'.length
  simp only [List.size_toArray] at h1 h2
  simp only [List.getElem_toArray]
  have hz : j < zs.length := by omega
  obtain ⟨a, ea, ra⟩ := ru.get (List.getElem?_eq_getElem hz)
  obtain ⟨b, eb, rb⟩ := rw'.get (List.getElem?_eq_getElem hz)
  rw [(List.getElem?_eq_some_iff.mp ea).2, (List.getElem?_eq_some_iff.mp eb).2]
  exact selfy_at (h _ (List.getElem_mem hz)) ra rb
theorem op_eqTwo (hu : X.A.units + 64 < cLine) : OpR X (compareOp .Eq) (rTwo X.K true) := by
  intro pins s σ H x y v u Q I rx ry h
  obtain ⟨l, m, zs, rfl, rfl, h1, h2, hz, q⟩ := h
  cases (show v = Value.ref l from rx)
  cases (show u = Value.ref m from ry)
  obtain ⟨us, r1, t1, _⟩ := I.tuple h1
  obtain ⟨ws, r2, t2, _⟩ := I.tuple h2
  have := SeqAt.RcAt.tuples (A := X.A) (e := fun _ => true) t1 t2 (by omega) (vals_alike hz r1 r2)
  have e : ((List.range (min us.toArray.size ws.toArray.size)).all (fun _ => true) && us.toArray.size == ws.toArray.size) = true := by
    have l1 := r1.length
    have l2 := r2.length
    simp
    omega
  rw [e] at this
  exact this X.prog X.w _ _ ⟨.bl true, H, I, rfl, q⟩
theorem op_neTwo (hu : X.A.units + 64 < cLine) : OpR X (compareOp .NotEq) (rTwo X.K false) := by
  intro pins s σ H x y v u Q I rx ry h
  obtain ⟨l, m, zs, rfl, rfl, h1, h2, hz, q⟩ := h
  cases (show v = Value.ref l from rx)
  cases (show u = Value.ref m from ry)
  obtain ⟨us, r1, t1, _⟩ := I.tuple h1
  obtain ⟨ws, r2, t2, _⟩ := I.tuple h2
  have := SeqAt.RcNeAt.tuples (A := X.A) (e := fun _ => true) t1 t2 (by omega) (vals_alike hz r1 r2)
  have e : (!((List.range (min us.toArray.size ws.toArray.size)).all (fun _ => true) && us.toArray.size == ws.toArray.size)) = false := by
    have l1 := r1.length
    have l2 := r2.length
    simp
    omega
  rw [e] at this
  exact this X.prog X.w _ _ ⟨.bl false, H, I, rfl, q⟩
end
/-! ### called with what may be refused: two kinds of error -/
/-- told back: nothing, or the value of the one error or of the other behind its word -/
def spTold2 (C1 C2 : Addr) (f1 f2 t1 t2 : Str) : (Hp → VK → XK → Prop) → List V → Hp → VK → Prop := fun tl rest H Q => rest = [] ∧ ∀ (p : Addr) (H0 : Hp), Same H H0 → H0 p = some (.tup []) →
  (((∀ (Q' : VK) (E' : XK), (∀ (v : V) (H1 : Hp), Same H0 H1 → Q' v H1) → tl H0 Q' E') ∧ ∀ H1, Same H0 H1 → Q (.ref p) H1) ∨
  (∃ v : V, (∀ (Q' : VK) (E' : XK), Bad C1 f1 v H0 E' → tl H0 Q' E') ∧ ∀ (r : Addr) (H1 : Hp), Same H0 H1 → H1 r = some (.tup [.str t1, v]) → Q (.ref r) H1) ∨
  (∃ v : V, (∀ (Q' : VK) (E' : XK), Bad C2 f2 v H0 E' → tl H0 Q' E') ∧ ∀ (r : Addr) (H1 : Hp), Same H0 H1 → H1 r = some (.tup [.str t2, v]) → Q (.ref r) H1))
end Own

/-! own layer, of no law: OWO2: the least and the greatest running total over all orders: none is beyond. -/
namespace Own
open PySem PySem.Spec PyProof.Rows L2 LamX NdefX
/-! ### what an entry brings -/
def bsE (U : Int) (t : Str) (x : Int) : Int := if isLoose U x t = true then x / U else near x U t
def evE (U : Int) (t : Str) (x : Int) : Int := if (isLoose U x t && decide (x / U % 2 = 0)) = true then 1 else 0
def odE (U : Int) (t : Str) (x : Int) : Int := if (isLoose U x t && decide (x / U % 2 = 1)) = true then 1 else 0
def kyE (U : Int) (t : Str) (x : Int) : Int := if (!isLoose U x t && decide (near x U t % 2 = 1)) = true then 1 else 0
/-- whether it is one of those that come first -/
def inL (dn : Bool) (U x : Int) : Bool := decide (decide (x / U < 0) = dn)
def lfE (dn : Bool) (U : Int) (t : Str) (x : Int) : Int := if (inL dn U x && isLoose U x t) = true then 1 else 0
def vlE (U : Int) (t : Str) (x : Int) : Int := if isLoose U x t = true then x / U + 1 else near x U t
def rmE (dn : Bool) (U : Int) (t : Str) (x : Int) : Int := if inL dn U x = true then (if dn = true then -vlE U t x else vlE U t x) else 0
def szE (dn : Bool) (U x : Int) : Int := if dn = true then x / U + 1 else -(x / U) - 1
def csC (dn : Bool) (U : Int) (t : Str) (x : Int) : Bool := isLoose U x t && !inL dn U x
def csOf (dn : Bool) (U : Int) (t : Str) (es : List (Int × Nat)) : List (Int × Nat) := (es.filter fun e => csC dn U t e.1).map fun e => (szE dn U e.1, e.2)
def roomR (dn : Bool) (U : Int) (t : Str) (es : List (Int × Nat)) : Int := wsum (rmE dn U t) es - (if dn = true then 0 else 1)
/-- the greatest running total, by [29] -/
def Hi (dn : Bool) (U : Int) (t : Str) (es : List (Int × Nat)) (h : Int) : Prop := ∃ m, Mst (csOf dn U t es) (roomR dn U t es) m ∧ h = wsum (bsE U t) es + wsum (lfE dn U t) es + m
theorem Hi.one {dn : Bool} {U : Int} {t : Str} {es : List (Int × Nat)} {h h' : Int} (a : Hi dn U t es h) (b : Hi dn U t es h') : h = h' := by
  obtain ⟨m, h1, h2⟩ := a
  obtain ⟨m', g1, g2⟩ := b
  rw [h2, g2, h1.one g1]
section
variable {U x s : Int} {t : Str} {dn : Bool}
theorem cs_cons (e : Int × Nat) (es : List (Int × Nat)) : csOf dn U t (e :: es) = if csC dn U t e.1 = true then (szE dn U e.1, e.2) :: csOf dn U t es else csOf dn U t es := by
  unfold csOf
  rw [List.filter_cons]
  split <;> rfl
theorem cs_ones (y : Int) (ys : List Int) : csOf dn U t (ones (y :: ys)) = if csC dn U t y = true then (szE dn U y, 1) :: csOf dn U t (ones ys) else csOf dn U t (ones ys) := cs_cons _ _
theorem cs_perm {es fs : List (Int × Nat)} (h : List.Perm es fs) : List.Perm (csOf dn U t es) (csOf dn U t fs) := (h.filter _).map _
theorem near_two : near x U t = x / U ∨ near x U t = x / U + 1 := by
  unfold near
  split
  · exact .inl rfl
  · split
    · exact .inr rfl
    · exact .inl rfl
theorem inL_pos : inL true U x = decide (x / U < 0) := by
  unfold inL
  by_cases h : x / U < 0 <;> simp [h]
theorem inL_neg : inL false U x = decide (0 ≤ x / U) := by
  unfold inL
  by_cases h : x / U < 0
  · rw [decide_eq_true h]
    simp
    omega
  · rw [decide_eq_false h]
    simp
    omega
/-- of the sizes none is below what is told -/
theorem cs_low (hU : 0 < U) {es : List (Int × Nat)} : ∀ e ∈ csOf dn U t es, (if dn = true then (1 : Int) else 0) ≤ e.1 := by
  intro e he
  obtain ⟨q, hq, rfl⟩ := List.mem_map.mp he
  have c := (List.mem_filter.mp hq).2
  show _ ≤ szE dn U q.1
  unfold csC at c
  cases dn with
  | true =>
    rw [inL_pos] at c
    have : ¬ q.1 / U < 0 := by
      intro z
      rw [decide_eq_true z] at c
      simp at c
    show (1 : Int) ≤ q.1 / U + 1
    omega
  | false =>
    rw [inL_neg] at c
    have : ¬ 0 ≤ q.1 / U := by
      intro z
      rw [decide_eq_true z] at c
      simp at c
    show (0 : Int) ≤ -(q.1 / U) - 1
    omega
/-! ### cut, halfcut -/
theorem cut_run (hU : 0 < U) (ht : t ∈ cutW) : ∀ (ys : List Int) (s N P : Int), P ≤ N → P - N ≤ s → ∃ p c u : Int, Ch (csOf true U t (ones ys)) p c ∧ 0 ≤ u ∧ runL U t ys s = s + wsum (bsE U t) (ones ys) + (wsum (lfE true U t) (ones ys) - u) + p ∧ P + c ≤ N + wsum (rmE true U t) (ones ys) + u
  | [], s, N, P, h1, h2 => ⟨0, 0, 0, .nil, Int.le_refl _, by rw [wsum_ones_nil, wsum_ones_nil]; show s = _; omega, by rw [wsum_ones_nil]; omega⟩
  | x :: ys, s, N, P, h1, h2 => by
    obtain ⟨hw, hne⟩ := cut_way ht
    rw [runL_cons, wsum_ones, wsum_ones, wsum_ones, cs_ones]
    by_cases l : isLoose U x t = true
    · have st := stp_side hU hw l hne s
      rw [addS_cut ht] at st
      have b : bsE U t x = x / U := by unfold bsE; rw [if_pos l]
      have v : vlE U t x = x / U + 1 := by unfold vlE; rw [if_pos l]
      by_cases f : x / U < 0
      · have i : inL true U x = true := by rw [inL_pos, decide_eq_true f]
        have lf : lfE true U t x = 1 := by unfold lfE; rw [i, l]; rfl
        have rm : rmE true U t x = -(x / U + 1) := by unfold rmE; rw [if_pos i, if_pos rfl, v]
        have cc : csC true U t x = false := by unfold csC; rw [i]; simp
        rw [if_neg (by rw [cc]; decide)]
        by_cases g : 0 ≤ s + x / U
        · rw [if_pos g] at st
          obtain ⟨p, c, u, a1, a2, a3, a4⟩ := cut_run hU ht ys (stp U x t s) (N - x / U) P (by omega) (by omega)
          exact ⟨p, c, u + 1, a1, by omega, by omega, by omega⟩
        · rw [if_neg g] at st
          obtain ⟨p, c, u, a1, a2, a3, a4⟩ := cut_run hU ht ys (stp U x t s) (N - (x / U + 1)) P (by omega) (by omega)
          exact ⟨p, c, u, a1, by omega, by omega, by omega⟩
      · have i : inL true U x = false := by rw [inL_pos, decide_eq_false f]
        have lf : lfE true U t x = 0 := by unfold lfE; rw [i]; rfl
        have rm : rmE true U t x = 0 := by unfold rmE; rw [i]; rfl
        have cc : csC true U t x = true := by unfold csC; rw [i, l]; rfl
        rw [if_pos cc]
        have sz : szE true U x = x / U + 1 := rfl
        by_cases g : 0 ≤ s + x / U
        · rw [if_pos g] at st
          obtain ⟨p, c, u, a1, a2, a3, a4⟩ := cut_run hU ht ys (stp U x t s) N P h1 (by omega)
          exact ⟨p, c, u, .to 0 (Int.le_refl _) (by decide) a1 (by omega) (by omega), by omega, by omega, by omega⟩
        · rw [if_neg g] at st
          obtain ⟨p, c, u, a1, a2, a3, a4⟩ := cut_run hU ht ys (stp U x t s) N (P + (x / U + 1)) (by omega) (by omega)
          exact ⟨1 + p, (x / U + 1) + c, u, .to 1 (by decide) (by decide) a1 rfl (by omega), by omega, by omega, by omega⟩
    · have l' : isLoose U x t = false := eq_false_of_ne_true l
      have st := stp_tight (s := s) hU hw l'
      have b : bsE U t x = near x U t := by unfold bsE; rw [if_neg l]
      have v : vlE U t x = near x U t := by unfold vlE; rw [if_neg l]
      have lf : lfE true U t x = 0 := by unfold lfE; rw [l']; simp
      have cc : csC true U t x = false := by unfold csC; rw [l']; rfl
      rw [if_neg (by rw [cc]; decide)]
      have two := near_two (x := x) (U := U) (t := t)
      by_cases f : x / U < 0
      · have i : inL true U x = true := by rw [inL_pos, decide_eq_true f]
        have rm : rmE true U t x = -near x U t := by unfold rmE; rw [if_pos i, if_pos rfl, v]
        obtain ⟨p, c, u, a1, a2, a3, a4⟩ := cut_run hU ht ys (stp U x t s) (N - near x U t) P (by omega) (by omega)
        exact ⟨p, c, u, a1, by omega, by omega, by omega⟩
      · have i : inL true U x = false := by rw [inL_pos, decide_eq_false f]
        have rm : rmE true U t x = 0 := by unfold rmE; rw [i]; rfl
        obtain ⟨p, c, u, a1, a2, a3, a4⟩ := cut_run hU ht ys (stp U x t s) N P h1 (by omega)
        exact ⟨p, c, u, a1, by omega, by omega, by omega⟩
/-- one of the sizes is put back -/
theorem Ch.less {l : List (Int × Nat)} {n c : Int} (h : Ch l n c) : (∀ e ∈ l, 1 ≤ e.1) → 0 < n → ∃ c', c' ≤ c - 1 ∧ Ch l (n - 1) c' := by
  induction h with
  | nil => exact fun _ z => absurd z (by omega)
  | @more s k l n c j h0 h1 r ih =>
    intro hl hn
    have hs : 1 ≤ s := hl (s, k) List.mem_cons_self
    by_cases z : 0 < j
    · have e : (j - 1) * s = j * s - 1 * s := Int.sub_mul j 1 s
      exact ⟨(j - 1) * s + c, by omega, .to (j - 1) (by omega) (by omega) r (by omega) rfl⟩
    · obtain ⟨c', a, b⟩ := ih (fun e he => hl e (List.mem_cons_of_mem _ he)) (by omega)
      exact ⟨j * s + c', by omega, .to j h0 h1 b (by omega) rfl⟩
theorem Ch.drop {l : List (Int × Nat)} (hl : ∀ e ∈ l, 1 ≤ e.1) : ∀ (u : Nat) {n c r : Int}, Ch l n c → c ≤ r + u → 0 ≤ r → ∃ n' c', Ch l n' c' ∧ n - u ≤ n' ∧ c' ≤ r
  | 0, n, c, r, h, hc, _ => ⟨n, c, h, by omega, by omega⟩
  | u + 1, n, c, r, h, hc, hr => by
    by_cases z : 0 < n
    · obtain ⟨c1, a, b⟩ := h.less hl z
      obtain ⟨n', c', q1, q2, q3⟩ := Ch.drop hl u b (show c1 ≤ r + u by omega) hr
      exact ⟨n', c', q1, by omega, q3⟩
    · have := h.pos.1
      exact ⟨0, 0, Ch.zero l, by omega, hr⟩
theorem wsum_ones_ge {f : Int → Int} {b : Int} (h : ∀ x, 0 ≤ f x) : ∀ ys : List Int, 0 ≤ wsum f (ones ys)
  | [] => Int.le_refl _
  | y :: ys => by
    rw [wsum_ones]
    have := h y
    have := wsum_ones_ge (b := b) h ys
    omega
theorem rm_pos_cut (hU : 0 < U) : 0 ≤ rmE true U t x := by
  unfold rmE
  split
  · rename_i i
    rw [inL_pos] at i
    have f := of_decide_eq_true i
    rw [if_pos rfl]
    unfold vlE
    have two := near_two (x := x) (U := U) (t := t)
    split <;> omega
  · exact Int.le_refl _
theorem cut_high (hU : 0 < U) (ht : t ∈ cutW) {ys : List Int} {h : Int} (H : Hi true U t (ones ys) h) : runL U t ys 0 ≤ h := by
  obtain ⟨m, M, rfl⟩ := H
  obtain ⟨p, c, u, a1, a2, a3, a4⟩ := cut_run hU ht ys 0 0 0 (Int.le_refl _) (by omega)
  have e : roomR true U t (ones ys) = wsum (rmE true U t) (ones ys) := by
    show wsum (rmE true U t) (ones ys) - 0 = _
    omega
  rw [e] at M
  have r0 := wsum_ones_ge (b := 0) (fun x => rm_pos_cut (t := t) (x := x) hU) ys
  obtain ⟨n', c', q1, q2, q3⟩ := Ch.drop (fun e he => cs_low (dn := true) hU e he) u.toNat (r := wsum (rmE true U t) (ones ys)) a1 (by omega) r0
  have := (M.2 r0).2 n' c' q1 q3
  omega
/-! ### away, halfaway -/
theorem away_run (hU : 0 < U) (ht : t ∈ awayW) : ∀ (ys : List Int) (s N P : Int), s ≤ N - P → ∃ p c u : Int, Ch (csOf false U t (ones ys)) p c ∧ 0 ≤ u ∧ runL U t ys s = s + wsum (bsE U t) (ones ys) + (wsum (lfE false U t) (ones ys) - u) + p ∧ ((p = 0 ∧ c = 0) ∨ P + c + 1 ≤ N + wsum (rmE false U t) (ones ys) - u) ∧ 0 ≤ wsum (rmE false U t) (ones ys) - u
  | [], s, N, P, h1 => ⟨0, 0, 0, .nil, Int.le_refl _, by rw [wsum_ones_nil, wsum_ones_nil]; show s = _; omega, .inl ⟨rfl, rfl⟩, by rw [wsum_ones_nil]; omega⟩
  | x :: ys, s, N, P, h1 => by
    obtain ⟨hw, hne⟩ := away_way ht
    rw [runL_cons, wsum_ones, wsum_ones, wsum_ones, cs_ones]
    by_cases l : isLoose U x t = true
    · have st := stp_side hU hw l hne s
      rw [addS_away ht] at st
      have b : bsE U t x = x / U := by unfold bsE; rw [if_pos l]
      have v : vlE U t x = x / U + 1 := by unfold vlE; rw [if_pos l]
      by_cases f : 0 ≤ x / U
      · have i : inL false U x = true := by rw [inL_neg, decide_eq_true f]
        have lf : lfE false U t x = 1 := by unfold lfE; rw [i, l]; rfl
        have rm : rmE false U t x = x / U + 1 := by unfold rmE; rw [if_pos i, if_neg (by decide), v]
        have cc : csC false U t x = false := by unfold csC; rw [i]; simp
        rw [if_neg (by rw [cc]; decide)]
        by_cases g : 0 ≤ s + x / U
        · rw [if_pos g] at st
          obtain ⟨p, c, u, a1, a2, a3, a4, a5⟩ := away_run hU ht ys (stp U x t s) (N + (x / U + 1)) P (by omega)
          exact ⟨p, c, u, a1, by omega, by omega, a4.imp id fun _ => by omega, by omega⟩
        · rw [if_neg g] at st
          obtain ⟨p, c, u, a1, a2, a3, a4, a5⟩ := away_run hU ht ys (stp U x t s) (N + x / U) P (by omega)
          exact ⟨p, c, u + 1, a1, by omega, by omega, a4.imp id fun _ => by omega, by omega⟩
      · have i : inL false U x = false := by rw [inL_neg, decide_eq_false f]
        have lf : lfE false U t x = 0 := by unfold lfE; rw [i]; rfl
        have rm : rmE false U t x = 0 := by unfold rmE; rw [i]; rfl
        have cc : csC false U t x = true := by unfold csC; rw [i, l]; rfl
        rw [if_pos cc]
        have sz : szE false U x = -(x / U) - 1 := rfl
        by_cases g : 0 ≤ s + x / U
        · rw [if_pos g] at st
          obtain ⟨p, c, u, a1, a2, a3, a4, a5⟩ := away_run hU ht ys (stp U x t s) N (P + (-(x / U) - 1)) (by omega)
          have c0 := a1.pos
          refine ⟨1 + p, (-(x / U) - 1) + c, u, .to 1 (by decide) (by decide) a1 rfl (by omega), by omega, by omega, .inr ?_, by omega⟩
          rcases a4 with ⟨rfl, rfl⟩ | a4
          · omega
          · omega
        · rw [if_neg g] at st
          obtain ⟨p, c, u, a1, a2, a3, a4, a5⟩ := away_run hU ht ys (stp U x t s) N P (by omega)
          exact ⟨p, c, u, .to 0 (Int.le_refl _) (by decide) a1 (by omega) (by omega), by omega, by omega, a4.imp id fun _ => by omega, by omega⟩
    · have l' : isLoose U x t = false := eq_false_of_ne_true l
      have st := stp_tight (s := s) hU hw l'
      have b : bsE U t x = near x U t := by unfold bsE; rw [if_neg l]
      have v : vlE U t x = near x U t := by unfold vlE; rw [if_neg l]
      have lf : lfE false U t x = 0 := by unfold lfE; rw [l']; simp
      have cc : csC false U t x = false := by unfold csC; rw [l']; rfl
      rw [if_neg (by rw [cc]; decide)]
      have two := near_two (x := x) (U := U) (t := t)
      by_cases f : 0 ≤ x / U
      · have i : inL false U x = true := by rw [inL_neg, decide_eq_true f]
        have rm : rmE false U t x = near x U t := by unfold rmE; rw [if_pos i, if_neg (by decide), v]
        obtain ⟨p, c, u, a1, a2, a3, a4, a5⟩ := away_run hU ht ys (stp U x t s) (N + near x U t) P (by omega)
        exact ⟨p, c, u, a1, by omega, by omega, a4.imp id fun _ => by omega, by omega⟩
      · have i : inL false U x = false := by rw [inL_neg, decide_eq_false f]
        have rm : rmE false U t x = 0 := by unfold rmE; rw [i]; rfl
        obtain ⟨p, c, u, a1, a2, a3, a4, a5⟩ := away_run hU ht ys (stp U x t s) N P (by omega)
        exact ⟨p, c, u, a1, by omega, by omega, a4.imp id fun _ => by omega, by omega⟩
theorem away_high (hU : 0 < U) (ht : t ∈ awayW) {ys : List Int} {h : Int} (H : Hi false U t (ones ys) h) : runL U t ys 0 ≤ h := by
  obtain ⟨m, M, rfl⟩ := H
  obtain ⟨p, c, u, a1, a2, a3, a4, a5⟩ := away_run hU ht ys 0 0 0 (by omega)
  have e : roomR false U t (ones ys) = wsum (rmE false U t) (ones ys) - 1 := rfl
  rw [e] at M
  have m0 := M.pos
  rcases a4 with ⟨rfl, rfl⟩ | a4
  · omega
  · have c0 := a1.pos.2 fun e he => cs_low (dn := false) hU e he
    have := (M.2 (by omega)).2 p c a1 (by omega)
    omega
/-! ### halfeven -/
theorem two_bits {a : Int} : a % 2 = 0 ∨ a % 2 = 1 := by omega
theorem even_run (hU : 0 < U) : ∀ (ys : List Int) (s : Int), ∃ le uo : Int, 0 ≤ le ∧ le ≤ wsum (evE U "halfeven") (ones ys) ∧ 0 ≤ uo ∧ uo ≤ wsum (odE U "halfeven") (ones ys) ∧
    runL U "halfeven" ys s = s + wsum (bsE U "halfeven") (ones ys) + le + wsum (odE U "halfeven") (ones ys) - uo ∧ le + uo + runL U "halfeven" ys s % 2 ≤ wsum (kyE U "halfeven") (ones ys) + s % 2
  | [], s => ⟨0, 0, Int.le_refl _, Int.le_refl _, Int.le_refl _, Int.le_refl _, by rw [wsum_ones_nil, wsum_ones_nil]; show s = _; omega, by rw [wsum_ones_nil]; show 0 + 0 + s % 2 ≤ _; omega⟩
  | x :: ys, s => by
    rw [runL_cons, wsum_ones, wsum_ones, wsum_ones, wsum_ones]
    by_cases l : isLoose U x "halfeven" = true
    · have st := stp_even hU l s
      have b : bsE U "halfeven" x = x / U := by unfold bsE; rw [if_pos l]
      have ky : kyE U "halfeven" x = 0 := by unfold kyE; rw [l]; rfl
      have ev : evE U "halfeven" x = if x / U % 2 = 0 then 1 else 0 := by unfold evE; rw [l]; simp
      have od : odE U "halfeven" x = if x / U % 2 = 1 then 1 else 0 := by unfold odE; rw [l]; simp
      obtain ⟨le, uo, a1, a2, a3, a4, a5, a6⟩ := even_run hU ys (stp U x "halfeven" s)
      generalize runL U "halfeven" ys (stp U x "halfeven" s) = R at a5 a6 ⊢
      generalize stp U x "halfeven" s = S at *
      generalize x / U = F at *
      rw [b, ky]
      by_cases f : F % 2 = 0
      · rw [if_pos f] at ev
        rw [if_neg (by omega)] at od
        rw [ev, od]
        by_cases g : s % 2 = 0
        · exact ⟨le, uo, a1, by omega, a3, by omega, by omega, by omega⟩
        · exact ⟨le + 1, uo, by omega, by omega, a3, by omega, by omega, by omega⟩
      · rw [if_neg f] at ev
        rw [if_pos (by omega)] at od
        rw [ev, od]
        by_cases g : s % 2 = 0
        · exact ⟨le, uo, a1, by omega, a3, by omega, by omega, by omega⟩
        · exact ⟨le, uo + 1, a1, by omega, by omega, by omega, by omega, by omega⟩
    · have l' : isLoose U x "halfeven" = false := eq_false_of_ne_true l
      have st := stp_tight (s := s) hU (show ("halfeven" : Str) ∈ waysL by decide +kernel) l'
      have b : bsE U "halfeven" x = near x U "halfeven" := by unfold bsE; rw [if_neg l]
      have ky : kyE U "halfeven" x = if near x U "halfeven" % 2 = 1 then 1 else 0 := by unfold kyE; rw [l']; simp
      have ev : evE U "halfeven" x = 0 := by unfold evE; rw [l']; rfl
      have od : odE U "halfeven" x = 0 := by unfold odE; rw [l']; rfl
      obtain ⟨le, uo, a1, a2, a3, a4, a5, a6⟩ := even_run hU ys (stp U x "halfeven" s)
      generalize runL U "halfeven" ys (stp U x "halfeven" s) = R at a5 a6 ⊢
      generalize stp U x "halfeven" s = S at *
      generalize near x U "halfeven" = F at *
      rw [b, ky, ev, od]
      refine ⟨le, uo, a1, by omega, a3, by omega, by omega, ?_⟩
      split <;> omega
/-! ### the others -/
theorem flat_run (hU : 0 < U) (ht : t ∈ flatW) : ∀ (ys : List Int) (s : Int), runL U t ys s = s + wsum (bsE U t) (ones ys)
  | [], s => by
    rw [wsum_ones_nil]
    show s = _
    omega
  | x :: ys, s => by
    have hw : t ∈ waysL := by
      simp only [flatW, List.mem_cons, List.not_mem_nil, or_false] at ht
      rcases ht with rfl | rfl | rfl | rfl <;> decide +kernel
    have l := loose_no (U := U) (x := x) ht
    have st := stp_tight (s := s) hU hw l
    have b : bsE U t x = near x U t := by unfold bsE; rw [l]; rfl
    rw [runL_cons, wsum_ones, flat_run hU ht ys, st, b]
    omega
/-! ### the negatives -/
theorem mirr_self (ht : t ∈ cutW ∨ t ∈ awayW) : mirr t = t := by
  rcases ht with h | h
  · simp only [cutW, List.mem_cons, List.not_mem_nil, or_false] at h
    rcases h with rfl | rfl <;> decide +kernel
  · simp only [awayW, List.mem_cons, List.not_mem_nil, or_false] at h
    rcases h with rfl | rfl <;> decide +kernel
theorem neg_dm (hU : 0 < U) (r : x % U ≠ 0) : -x / U = -(x / U) - 1 ∧ -x % U = U - x % U := by
  have e := Int.emod_add_mul_ediv x U
  have r0 := Int.emod_nonneg x (show U ≠ 0 by omega)
  have r1 := Int.emod_lt_of_pos x hU
  exact dm_of hU (q := -(x / U) - 1) (r := U - x % U) (by rw [Int.sub_mul, Int.neg_mul, Int.mul_comm (x / U)]; omega) (by omega) (by omega)
theorem near_neg (hU : 0 < U) (hw : t ∈ waysL) (ht : t ∈ cutW ∨ t ∈ awayW) : near (-x) U t = -near x U t := by
  by_cases r : x % U = 0
  · have e := Int.emod_add_mul_ediv x U
    have := dm_of (x := -x) (q := -(x / U)) (r := 0) hU (by rw [Int.neg_mul, Int.mul_comm (x / U)]; omega) (Int.le_refl _) hU
    rw [near_zero r, near_zero this.2, this.1]
  · obtain ⟨e1, e2⟩ := neg_dm hU r
    have r1 := Int.emod_lt_of_pos x hU
    have g := goes_mirr hw (x / U) (2 * (x % U) - U)
    rw [mirr_self ht] at g
    rw [near_up r, near_up (by rw [e2]; omega), e1, e2, show 2 * (U - x % U) - U = -(2 * (x % U) - U) by omega, g]
    cases goesUp t (x / U) (2 * (x % U) - U)
    · show -(x / U) - 1 + 1 = -(x / U + 0)
      omega
    · show -(x / U) - 1 + 0 = -(x / U + 1)
      omega
def negs (ys : List Int) : List Int := ys.map fun y => -y
theorem run_neg (hU : 0 < U) (hw : t ∈ waysL) (ht : t ∈ cutW ∨ t ∈ awayW) : ∀ (ys : List Int) (s : Int), runL U t (negs ys) (-s) = -runL U t ys s
  | [], s => rfl
  | y :: ys, s => by
    show runL U t (negs ys) (stp U (-y) t (-s)) = -runL U t ys (stp U y t s)
    have e : stp U (-y) t (-s) = -stp U y t s := by
      show near (-s * U + -y) U t = -near (s * U + y) U t
      rw [show -s * U + -y = -(s * U + y) by rw [Int.neg_mul]; omega]
      exact near_neg hU hw ht
    rw [e, run_neg hU hw ht ys]
/-- the entries with their signs changed -/
def mir (es : List (Int × Nat)) : List (Int × Nat) := es.map fun e => (-e.1, e.2)
theorem mir_ones (ys : List Int) : mir (ones ys) = ones (negs ys) := by
  unfold mir ones negs
  rw [List.map_map, List.map_map]
  rfl
/-! ### the range -/
/-- the least and the greatest one -/
def Ends (U : Int) (t : Str) (es : List (Int × Nat)) (lo hi : Int) : Prop :=
  (t = "halfeven" → lo = wsum (bsE U t) es + wsum (odE U t) es - min (wsum (odE U t) es) (wsum (kyE U t) es) ∧ hi = wsum (bsE U t) es + wsum (odE U t) es + min (wsum (evE U t) es) (wsum (kyE U t) es)) ∧
  (t ∈ cutW → Hi true U t es hi ∧ Hi true U t (mir es) (-lo)) ∧ (t ∈ awayW → Hi false U t es hi ∧ Hi false U t (mir es) (-lo)) ∧ (t ∈ flatW → lo = wsum (bsE U t) es ∧ hi = wsum (bsE U t) es)
theorem Ends.one {es : List (Int × Nat)} {lo hi lo' hi' : Int} (ht : t ∈ waysL) (a : Ends U t es lo hi) (b : Ends U t es lo' hi') : lo = lo' ∧ hi = hi' := by
  obtain ⟨a1, a2, a3, a4⟩ := a
  obtain ⟨b1, b2, b3, b4⟩ := b
  rcases ways_parts ht with h | h | h | h
  · obtain ⟨x1, x2⟩ := a4 h
    obtain ⟨y1, y2⟩ := b4 h
    exact ⟨x1.trans y1.symm, x2.trans y2.symm⟩
  · obtain ⟨x1, x2⟩ := a1 h
    obtain ⟨y1, y2⟩ := b1 h
    exact ⟨x1.trans y1.symm, x2.trans y2.symm⟩
  · obtain ⟨x1, x2⟩ := a2 h
    obtain ⟨y1, y2⟩ := b2 h
    have := x2.one y2
    exact ⟨by omega, x1.one y1⟩
  · obtain ⟨x1, x2⟩ := a3 h
    obtain ⟨y1, y2⟩ := b3 h
    have := x2.one y2
    exact ⟨by omega, x1.one y1⟩
/-- entries of the same weight -/
structure Alike (U : Int) (t : Str) (es fs : List (Int × Nat)) : Prop where
  w : ∀ f : Int → Int, wsum f es = wsum f fs
  c : ∀ (dn : Bool) (n c : Int), Ch (csOf dn U t es) n c ↔ Ch (csOf dn U t fs) n c
theorem Alike.perm {es fs : List (Int × Nat)} (h : List.Perm es fs) : Alike U t es fs := ⟨fun f => wsum_perm f h, fun dn n c => ⟨Ch.perm (cs_perm h), Ch.perm (cs_perm h.symm)⟩⟩
theorem Alike.trans {es fs gs : List (Int × Nat)} (a : Alike U t es fs) (b : Alike U t fs gs) : Alike U t es gs := ⟨fun f => (a.w f).trans (b.w f), fun dn n c => (a.c dn n c).trans (b.c dn n c)⟩
theorem Alike.symm {es fs : List (Int × Nat)} (a : Alike U t es fs) : Alike U t fs es := ⟨fun f => (a.w f).symm, fun dn n c => (a.c dn n c).symm⟩
theorem Alike.cons {es fs : List (Int × Nat)} (a : Alike U t es fs) (e : Int × Nat) : Alike U t (e :: es) (e :: fs) := by
  refine ⟨fun f => ?_, fun dn n c => ?_⟩
  · show _ + _ = _ + _
    rw [a.w f]
  · rw [cs_cons, cs_cons]
    split
    · exact Ch.cons_iff (a.c dn) n c
    · exact a.c dn n c
theorem Alike.join {x : Int} {a b : Nat} {es : List (Int × Nat)} : Alike U t ((x, a) :: (x, b) :: es) ((x, a + b) :: es) := by
  refine ⟨fun f => ?_, fun dn n c => ?_⟩
  · show f x * (a : Int) + (f x * (b : Int) + wsum f es) = f x * ((a + b : Nat) : Int) + wsum f es
    rw [Int.natCast_add, Int.mul_add]
    omega
  · rw [cs_cons, cs_cons, cs_cons]
    by_cases h : csC dn U t x = true
    · rw [if_pos h, if_pos h, if_pos h]
      exact Ch.join
    · rw [if_neg h, if_neg h, if_neg h]
theorem Hi.alike {es fs : List (Int × Nat)} {h : Int} (a : Alike U t es fs) (H : Hi dn U t es h) : Hi dn U t fs h := by
  obtain ⟨m, M, e⟩ := H
  refine ⟨m, ?_, by rw [← a.w, ← a.w]; exact e⟩
  have r : roomR dn U t fs = roomR dn U t es := by
    unfold roomR
    rw [a.w]
  rw [r]
  exact (Mst.iff (a.c dn)).mp M
theorem Alike.of_mir {es fs : List (Int × Nat)} (p : List.Perm es fs) : Alike U t (mir es) (mir fs) := Alike.perm (p.map _)
theorem Ends.alike {es fs : List (Int × Nat)} {lo hi : Int} (a : Alike U t es fs) (b : Alike U t (mir es) (mir fs)) (h : Ends U t es lo hi) : Ends U t fs lo hi := by
  obtain ⟨a1, a2, a3, a4⟩ := h
  refine ⟨fun z => ?_, fun z => ⟨(a2 z).1.alike a, (a2 z).2.alike b⟩, fun z => ⟨(a3 z).1.alike a, (a3 z).2.alike b⟩, fun z => ?_⟩
  · rw [← a.w, ← a.w, ← a.w, ← a.w]
    exact a1 z
  · rw [← a.w]
    exact a4 z
/-- no order is beyond -/
theorem ends_hold (hU : 0 < U) (ht : t ∈ waysL) {ys zs : List Int} (p : List.Perm ys zs) {lo hi : Int} (h : Ends U t (ones ys) lo hi) : lo ≤ runL U t zs 0 ∧ runL U t zs 0 ≤ hi := by
  have q : List.Perm (ones ys) (ones zs) := p.map _
  obtain ⟨a1, a2, a3, a4⟩ := h.alike (Alike.perm q) (Alike.of_mir q)
  rcases ways_parts ht with f | f | f | f
  · obtain ⟨x1, x2⟩ := a4 f
    rw [flat_run hU f, x1, x2]
    omega
  · subst f
    obtain ⟨x1, x2⟩ := a1 rfl
    obtain ⟨le, uo, b1, b2, b3, b4, b5, b6⟩ := even_run hU zs 0
    have r := Int.emod_nonneg (runL U "halfeven" zs 0) (show (2 : Int) ≠ 0 by decide)
    rw [Int.min_def] at x1 x2
    split at x1 <;> split at x2 <;> omega
  · obtain ⟨x1, x2⟩ := a2 f
    refine ⟨?_, cut_high hU f x1⟩
    rw [mir_ones] at x2
    have := cut_high hU f x2
    have e := run_neg hU ht (.inl f) zs 0
    rw [show (-0 : Int) = 0 from rfl] at e
    omega
  · obtain ⟨x1, x2⟩ := a3 f
    refine ⟨?_, away_high hU f x1⟩
    rw [mir_ones] at x2
    have := away_high hU f x2
    have e := run_neg hU ht (.inr f) zs 0
    rw [show (-0 : Int) = 0 from rfl] at e
    omega
end
end Own

/-! own layer, of no law: OWO3: orders that reach what is asked: the greatest one, every one between, by halves. -/
namespace Own
open PySem PySem.Spec PyProof.Rows L2 LamX NdefX
section
variable {U x s : Int} {t : Str} {dn : Bool}
theorem cs_app (es fs : List (Int × Nat)) : csOf dn U t (es ++ fs) = csOf dn U t es ++ csOf dn U t fs := by
  unfold csOf
  rw [List.filter_append, List.map_append]
theorem ones_app (ys zs : List Int) : ones (ys ++ zs) = ones ys ++ ones zs := List.map_append
theorem cs_none : ∀ {ys : List Int}, (∀ y ∈ ys, csC dn U t y = false) → csOf dn U t (ones ys) = []
  | [], _ => rfl
  | y :: r, h => by
    rw [cs_ones, if_neg (by rw [h y List.mem_cons_self]; decide), cs_none fun z hz => h z (List.mem_cons_of_mem _ hz)]
theorem cs_all : ∀ {ys : List Int}, (∀ y ∈ ys, csC dn U t y = true) → csOf dn U t (ones ys) = ys.map fun y => (szE dn U y, 1)
  | [], _ => rfl
  | y :: r, h => by
    rw [cs_ones, if_pos (h y List.mem_cons_self), cs_all fun z hz => h z (List.mem_cons_of_mem _ hz)]
    rfl
theorem wsum_none {f : Int → Int} : ∀ {ys : List Int}, (∀ y ∈ ys, f y = 0) → wsum f (ones ys) = 0
  | [], _ => rfl
  | y :: r, h => by
    rw [wsum_ones, h y List.mem_cons_self, wsum_none fun z hz => h z (List.mem_cons_of_mem _ hz)]
    rfl
theorem div_neg (hU : 0 < U) (h : x < 0) : x / U < 0 := Int.ediv_neg_of_neg_of_pos h hU
theorem div_pos' (hU : 0 < U) (h : 0 ≤ x) : 0 ≤ x / U := Int.ediv_nonneg h (by omega)
theorem near_nil (hU : 0 < U) : near 0 U t = 0 := by
  unfold near
  simp
/-! ### settled ones -/
theorem settled_run (hU : 0 < U) (hw : t ∈ waysL) : ∀ (B : List Int) (s : Int), (∀ y ∈ B, isLoose U y t = false) → runL U t B s = s + wsum (bsE U t) (ones B)
  | [], s, _ => by rw [wsum_ones_nil]; show s = _; omega
  | x :: B, s, h => by
    have l := h x List.mem_cons_self
    have b : bsE U t x = near x U t := by unfold bsE; rw [if_neg (by rw [l]; decide)]
    rw [runL_cons, settled_run hU hw B _ fun y hy => h y (List.mem_cons_of_mem _ hy), stp_tight hU hw l, wsum_ones, b]
    omega
/-! ### cut: the greatest -/
theorem cut_ahead (hU : 0 < U) (ht : t ∈ cutW) : ∀ (A : List Int) (s : Int), (∀ y ∈ A, y < 0) → s ≤ 0 → runL U t A s = s - wsum (rmE true U t) (ones A) ∧ runL U t A s = s + wsum (bsE U t) (ones A) + wsum (lfE true U t) (ones A) ∧ 0 ≤ wsum (rmE true U t) (ones A)
  | [], s, _, hs => by
    rw [wsum_ones_nil, wsum_ones_nil, wsum_ones_nil]
    refine ⟨?_, ?_, Int.le_refl _⟩
    · show s = _; omega
    · show s = _; omega
  | x :: A, s, h, hs => by
    obtain ⟨hw, hne⟩ := cut_way ht
    have f := div_neg hU (h x List.mem_cons_self)
    have i : inL true U x = true := by rw [inL_pos, decide_eq_true f]
    rw [runL_cons, wsum_ones, wsum_ones, wsum_ones]
    by_cases l : isLoose U x t = true
    · have st := stp_side hU hw l hne s
      rw [addS_cut ht, if_neg (by omega)] at st
      have b : bsE U t x = x / U := by unfold bsE; rw [if_pos l]
      have v : vlE U t x = x / U + 1 := by unfold vlE; rw [if_pos l]
      have lf : lfE true U t x = 1 := by unfold lfE; rw [i, l]; rfl
      have rm : rmE true U t x = -(x / U + 1) := by unfold rmE; rw [if_pos i, if_pos rfl, v]
      obtain ⟨a1, a2, a3⟩ := cut_ahead hU ht A (stp U x t s) (fun y hy => h y (List.mem_cons_of_mem _ hy)) (by omega)
      exact ⟨by omega, by omega, by omega⟩
    · have l' : isLoose U x t = false := eq_false_of_ne_true l
      have st := stp_tight (s := s) hU hw l'
      have b : bsE U t x = near x U t := by unfold bsE; rw [if_neg l]
      have v : vlE U t x = near x U t := by unfold vlE; rw [if_neg l]
      have lf : lfE true U t x = 0 := by unfold lfE; rw [l']; simp
      have rm : rmE true U t x = -near x U t := by unfold rmE; rw [if_pos i, if_pos rfl, v]
      have two := near_two (x := x) (U := U) (t := t)
      obtain ⟨a1, a2, a3⟩ := cut_ahead hU ht A (stp U x t s) (fun y hy => h y (List.mem_cons_of_mem _ hy)) (by omega)
      exact ⟨by omega, by omega, by omega⟩
theorem cut_above (hU : 0 < U) (ht : t ∈ cutW) : ∀ (L : List Int) (s : Int), (∀ y ∈ L, isLoose U y t = true ∧ 0 ≤ y) → 0 ≤ s → runL U t L s = s + wsum (bsE U t) (ones L)
  | [], s, _, hs => by rw [wsum_ones_nil]; show s = _; omega
  | x :: L, s, h, hs => by
    obtain ⟨hw, hne⟩ := cut_way ht
    obtain ⟨l, hx⟩ := h x List.mem_cons_self
    have f := div_pos' hU hx
    have st := stp_side hU hw l hne s
    rw [addS_cut ht, if_pos (by omega)] at st
    have b : bsE U t x = x / U := by unfold bsE; rw [if_pos l]
    rw [runL_cons, wsum_ones, cut_above hU ht L _ (fun y hy => h y (List.mem_cons_of_mem _ hy)) (by omega), st, b]
    omega
theorem cut_loose (hU : 0 < U) (ht : t ∈ cutW) : ∀ (L : List Int) (s : Int), (∀ y ∈ L, isLoose U y t = true ∧ 0 ≤ y) → Rise (L.map fun y => (szE true U y, 1)) → s ≤ 0 → runL U t L s = s + wsum (bsE U t) (ones L) + gre (L.map fun y => (szE true U y, 1)) (-s)
  | [], s, _, _, hs => by
    rw [wsum_ones_nil]
    show s = s + 0 + 0
    omega
  | x :: L, s, h, hR, hs => by
    obtain ⟨hw, hne⟩ := cut_way ht
    obtain ⟨l, hx⟩ := h x List.mem_cons_self
    have f := div_pos' hU hx
    have hL := fun y hy => h y (List.mem_cons_of_mem x hy)
    have st := stp_side hU hw l hne s
    rw [addS_cut ht] at st
    have b : bsE U t x = x / U := by unfold bsE; rw [if_pos l]
    have c : szE true U x = x / U + 1 := rfl
    rw [runL_cons, wsum_ones, b, List.map_cons]
    show _ = _ + ((if szE true U x = 0 then ((1 : Nat) : Int) else min ((1 : Nat) : Int) (-s / szE true U x)) + gre _ (-s - (if szE true U x = 0 then ((1 : Nat) : Int) else min ((1 : Nat) : Int) (-s / szE true U x)) * szE true U x))
    rw [c, if_neg (by omega)]
    by_cases g : 0 ≤ s + x / U
    · rw [if_pos g] at st
      have d0 : -s / (x / U + 1) = 0 := Int.ediv_eq_zero_of_lt (by omega) (by omega)
      rw [d0, Int.min_eq_right (by decide), Int.zero_mul, Int.sub_zero]
      rw [gre_out (s := x / U + 1) (by omega) (by omega) _ hR.1, cut_above hU ht L _ hL (by omega), st]
      omega
    · rw [if_neg g] at st
      have d1 : 1 ≤ -s / (x / U + 1) := (Int.le_ediv_iff_mul_le (by omega)).mpr (by omega)
      rw [Int.min_eq_left (by omega), cut_loose hU ht L _ hL hR.2 (by omega), st]
      rw [show -(s + (x / U + 1)) = -s - ((1 : Nat) : Int) * (x / U + 1) by omega]
      omega
/-- ahead the ones below nothing, then the loose ones by size, then the rest: the greatest -/
theorem cut_best (hU : 0 < U) (ht : t ∈ cutW) {A L B : List Int} (hA : ∀ y ∈ A, y < 0) (hL : ∀ y ∈ L, isLoose U y t = true ∧ 0 ≤ y) (hR : Rise (L.map fun y => (szE true U y, 1))) (hB : ∀ y ∈ B, isLoose U y t = false ∧ 0 ≤ y) : Hi true U t (ones (A ++ L ++ B)) (runL U t (A ++ L ++ B) 0) := by
  obtain ⟨hw, hne⟩ := cut_way ht
  obtain ⟨a1, a2, a3⟩ := cut_ahead hU ht A 0 hA (Int.le_refl _)
  have iL : ∀ y, 0 ≤ y → inL true U y = false := fun y hy => by
    rw [inL_pos]
    have := div_pos' hU hy
    simp
    omega
  have iA : ∀ y, y < 0 → inL true U y = true := fun y hy => by rw [inL_pos, decide_eq_true (div_neg hU hy)]
  have e : csOf true U t (ones (A ++ L ++ B)) = L.map fun y => (szE true U y, 1) := by
    rw [ones_app, ones_app, cs_app, cs_app, cs_none (ys := A), cs_none (ys := B), cs_all (ys := L), List.nil_append, List.append_nil]
    · intro y hy
      unfold csC
      rw [(hL y hy).1, iL y (hL y hy).2]
      rfl
    · intro y hy
      unfold csC
      rw [(hB y hy).1]
      rfl
    · intro y hy
      unfold csC
      rw [iA y (hA y hy), Bool.not_true, Bool.and_false]
  have r : wsum (rmE true U t) (ones (A ++ L ++ B)) = wsum (rmE true U t) (ones A) := by
    rw [ones_app, ones_app, wsum_app, wsum_app, wsum_none (ys := L), wsum_none (ys := B)]
    · omega
    · intro y hy
      unfold rmE
      rw [iL y (hB y hy).2]
      rfl
    · intro y hy
      unfold rmE
      rw [iL y (hL y hy).2]
      rfl
  have lf : wsum (lfE true U t) (ones (A ++ L ++ B)) = wsum (lfE true U t) (ones A) := by
    rw [ones_app, ones_app, wsum_app, wsum_app, wsum_none (ys := L), wsum_none (ys := B)]
    · omega
    · intro y hy
      unfold lfE
      rw [iL y (hB y hy).2]
      rfl
    · intro y hy
      unfold lfE
      rw [iL y (hL y hy).2]
      rfl
  refine ⟨gre (L.map fun y => (szE true U y, 1)) (wsum (rmE true U t) (ones A)), ?_, ?_⟩
  · rw [e]
    have ro : roomR true U t (ones (A ++ L ++ B)) = wsum (rmE true U t) (ones A) := by
      unfold roomR
      rw [r, if_pos rfl]
      omega
    rw [ro]
    refine gre_is hR (fun q hq => ?_) a3
    obtain ⟨y, hy, rfl⟩ := List.mem_map.mp hq
    have := div_pos' hU (hL y hy).2
    show 0 ≤ y / U + 1
    omega
  · rw [lf, runL_app, runL_app, settled_run hU hw B _ fun y hy => (hB y hy).1, cut_loose hU ht L _ hL hR (by omega)]
    have ws : wsum (bsE U t) (ones (A ++ L ++ B)) = wsum (bsE U t) (ones A) + wsum (bsE U t) (ones L) + wsum (bsE U t) (ones B) := by rw [ones_app, ones_app, wsum_app, wsum_app]
    rw [ws, show -runL U t A 0 = wsum (rmE true U t) (ones A) by omega]
    omega
/-! ### away: the greatest -/
theorem away_ahead (hU : 0 < U) (ht : t ∈ awayW) : ∀ (A : List Int) (s : Int), (∀ y ∈ A, 0 < y) → 0 ≤ s → runL U t A s = s + wsum (rmE false U t) (ones A) ∧ runL U t A s = s + wsum (bsE U t) (ones A) + wsum (lfE false U t) (ones A) ∧ 0 ≤ wsum (rmE false U t) (ones A)
  | [], s, _, hs => by
    rw [wsum_ones_nil, wsum_ones_nil, wsum_ones_nil]
    refine ⟨?_, ?_, Int.le_refl _⟩
    · show s = _; omega
    · show s = _; omega
  | x :: A, s, h, hs => by
    obtain ⟨hw, hne⟩ := away_way ht
    have f := div_pos' hU (Int.le_of_lt (h x List.mem_cons_self))
    have i : inL false U x = true := by rw [inL_neg, decide_eq_true f]
    rw [runL_cons, wsum_ones, wsum_ones, wsum_ones]
    by_cases l : isLoose U x t = true
    · have st := stp_side hU hw l hne s
      rw [addS_away ht, if_pos (by omega)] at st
      have b : bsE U t x = x / U := by unfold bsE; rw [if_pos l]
      have v : vlE U t x = x / U + 1 := by unfold vlE; rw [if_pos l]
      have lf : lfE false U t x = 1 := by unfold lfE; rw [i, l]; rfl
      have rm : rmE false U t x = x / U + 1 := by unfold rmE; rw [if_pos i, if_neg (by decide), v]
      obtain ⟨a1, a2, a3⟩ := away_ahead hU ht A (stp U x t s) (fun y hy => h y (List.mem_cons_of_mem _ hy)) (by omega)
      exact ⟨by omega, by omega, by omega⟩
    · have l' : isLoose U x t = false := eq_false_of_ne_true l
      have st := stp_tight (s := s) hU hw l'
      have b : bsE U t x = near x U t := by unfold bsE; rw [if_neg l]
      have v : vlE U t x = near x U t := by unfold vlE; rw [if_neg l]
      have lf : lfE false U t x = 0 := by unfold lfE; rw [l']; simp
      have rm : rmE false U t x = near x U t := by unfold rmE; rw [if_pos i, if_neg (by decide), v]
      have two := near_two (x := x) (U := U) (t := t)
      obtain ⟨a1, a2, a3⟩ := away_ahead hU ht A (stp U x t s) (fun y hy => h y (List.mem_cons_of_mem _ hy)) (by omega)
      exact ⟨by omega, by omega, by omega⟩
theorem away_below (hU : 0 < U) (ht : t ∈ awayW) : ∀ (L : List Int) (s : Int), (∀ y ∈ L, isLoose U y t = true ∧ y < 0) → s ≤ 0 → runL U t L s = s + wsum (bsE U t) (ones L)
  | [], s, _, hs => by rw [wsum_ones_nil]; show s = _; omega
  | x :: L, s, h, hs => by
    obtain ⟨hw, hne⟩ := away_way ht
    obtain ⟨l, hx⟩ := h x List.mem_cons_self
    have f := div_neg hU hx
    have st := stp_side hU hw l hne s
    rw [addS_away ht, if_neg (by omega)] at st
    have b : bsE U t x = x / U := by unfold bsE; rw [if_pos l]
    rw [runL_cons, wsum_ones, away_below hU ht L _ (fun y hy => h y (List.mem_cons_of_mem _ hy)) (by omega), st, b]
    omega
theorem away_loose (hU : 0 < U) (ht : t ∈ awayW) : ∀ (L : List Int) (s : Int), (∀ y ∈ L, isLoose U y t = true ∧ y < 0) → Rise (L.map fun y => (szE false U y, 1)) → 1 ≤ s → runL U t L s = s + wsum (bsE U t) (ones L) + gre (L.map fun y => (szE false U y, 1)) (s - 1)
  | [], s, _, _, hs => by
    rw [wsum_ones_nil]
    show s = s + 0 + 0
    omega
  | x :: L, s, h, hR, hs => by
    obtain ⟨hw, hne⟩ := away_way ht
    obtain ⟨l, hx⟩ := h x List.mem_cons_self
    have f := div_neg hU hx
    have hL := fun y hy => h y (List.mem_cons_of_mem x hy)
    have st := stp_side hU hw l hne s
    rw [addS_away ht] at st
    have b : bsE U t x = x / U := by unfold bsE; rw [if_pos l]
    have c : szE false U x = -(x / U) - 1 := rfl
    rw [runL_cons, wsum_ones, b, List.map_cons]
    show _ = _ + ((if szE false U x = 0 then ((1 : Nat) : Int) else min ((1 : Nat) : Int) ((s - 1) / szE false U x)) + gre _ ((s - 1) - (if szE false U x = 0 then ((1 : Nat) : Int) else min ((1 : Nat) : Int) ((s - 1) / szE false U x)) * szE false U x))
    rw [c]
    by_cases g : 0 ≤ s + x / U
    · rw [if_pos g] at st
      have one : (if -(x / U) - 1 = 0 then ((1 : Nat) : Int) else min ((1 : Nat) : Int) ((s - 1) / (-(x / U) - 1))) = 1 := by
        by_cases z : -(x / U) - 1 = 0
        · rw [if_pos z]
          rfl
        · rw [if_neg z]
          have d1 : 1 ≤ (s - 1) / (-(x / U) - 1) := (Int.le_ediv_iff_mul_le (by omega)).mpr (by omega)
          exact Int.min_eq_left d1
      rw [one, away_loose hU ht L _ hL hR.2 (by omega), st]
      rw [show s + (x / U + 1) - 1 = s - 1 - 1 * (-(x / U) - 1) by omega]
      omega
    · rw [if_neg g] at st
      have d0 : (s - 1) / (-(x / U) - 1) = 0 := Int.ediv_eq_zero_of_lt (by omega) (by omega)
      rw [if_neg (show ¬ -(x / U) - 1 = 0 by omega), d0, Int.min_eq_right (by decide), Int.zero_mul, Int.sub_zero]
      rw [gre_out (s := -(x / U) - 1) (by omega) (by omega) _ hR.1, away_below hU ht L _ hL (by omega), st]
      omega
theorem away_best (hU : 0 < U) (ht : t ∈ awayW) {A L B : List Int} (hA : ∀ y ∈ A, 0 < y) (hL : ∀ y ∈ L, isLoose U y t = true ∧ y < 0) (hR : Rise (L.map fun y => (szE false U y, 1))) (hB : ∀ y ∈ B, isLoose U y t = false ∧ y ≤ 0) : Hi false U t (ones (A ++ L ++ B)) (runL U t (A ++ L ++ B) 0) := by
  obtain ⟨hw, hne⟩ := away_way ht
  obtain ⟨a1, a2, a3⟩ := away_ahead hU ht A 0 hA (Int.le_refl _)
  have iL : ∀ y, y < 0 → inL false U y = false := fun y hy => by
    rw [inL_neg]
    have := div_neg hU hy
    simp
    omega
  have iA : ∀ y, 0 < y → inL false U y = true := fun y hy => by rw [inL_neg, decide_eq_true (div_pos' hU (Int.le_of_lt hy))]
  have e : csOf false U t (ones (A ++ L ++ B)) = L.map fun y => (szE false U y, 1) := by
    rw [ones_app, ones_app, cs_app, cs_app, cs_none (ys := A), cs_none (ys := B), cs_all (ys := L), List.nil_append, List.append_nil]
    · intro y hy
      unfold csC
      rw [(hL y hy).1, iL y (hL y hy).2]
      rfl
    · intro y hy
      unfold csC
      rw [(hB y hy).1]
      rfl
    · intro y hy
      unfold csC
      rw [iA y (hA y hy), Bool.not_true, Bool.and_false]
  have r : wsum (rmE false U t) (ones (A ++ L ++ B)) = wsum (rmE false U t) (ones A) := by
    rw [ones_app, ones_app, wsum_app, wsum_app, wsum_none (ys := L), wsum_none (ys := B)]
    · omega
    · intro y hy
      obtain ⟨l, h0⟩ := hB y hy
      by_cases z : y < 0
      · unfold rmE
        rw [iL y z]
        rfl
      · obtain rfl : y = 0 := by omega
        unfold rmE vlE
        rw [if_neg (show ¬ isLoose U 0 t = true by rw [l]; decide), near_nil hU]
        split <;> rfl
    · intro y hy
      unfold rmE
      rw [iL y (hL y hy).2]
      rfl
  have lf : wsum (lfE false U t) (ones (A ++ L ++ B)) = wsum (lfE false U t) (ones A) := by
    rw [ones_app, ones_app, wsum_app, wsum_app, wsum_none (ys := L), wsum_none (ys := B)]
    · omega
    · intro y hy
      unfold lfE
      rw [(hB y hy).1, Bool.and_false]
      rfl
    · intro y hy
      unfold lfE
      rw [iL y (hL y hy).2]
      rfl
  have ro : roomR false U t (ones (A ++ L ++ B)) = wsum (rmE false U t) (ones A) - 1 := by
    unfold roomR
    rw [r]
    rfl
  have ws : wsum (bsE U t) (ones (A ++ L ++ B)) = wsum (bsE U t) (ones A) + wsum (bsE U t) (ones L) + wsum (bsE U t) (ones B) := by rw [ones_app, ones_app, wsum_app, wsum_app]
  have low : ∀ q ∈ L.map fun y => (szE false U y, 1), (0 : Int) ≤ q.1 := fun q hq => by
    obtain ⟨y, hy, rfl⟩ := List.mem_map.mp hq
    have := div_neg hU (hL y hy).2
    show 0 ≤ -(y / U) - 1
    omega
  by_cases z : wsum (rmE false U t) (ones A) = 0
  · refine ⟨0, ?_, ?_⟩
    · rw [ro, z]
      exact ⟨fun _ => rfl, fun y => absurd y (by omega)⟩
    · rw [lf, runL_app, runL_app, settled_run hU hw B _ fun y hy => (hB y hy).1, away_below hU ht L _ hL (by omega), ws]
      omega
  · refine ⟨gre (L.map fun y => (szE false U y, 1)) (wsum (rmE false U t) (ones A) - 1), ?_, ?_⟩
    · rw [e, ro]
      exact gre_is hR low (by omega)
    · rw [lf, runL_app, runL_app, settled_run hU hw B _ fun y hy => (hB y hy).1, away_loose hU ht L _ hL hR (by omega), ws, show runL U t A 0 - 1 = wsum (rmE false U t) (ones A) - 1 by omega]
      omega
/-! ### cut: one beside the other -/
theorem cut_step (hU : 0 < U) (ht : t ∈ cutW) {s s' : Int} (h0 : s ≤ s') (h1 : s' ≤ s + 1) : stp U x t s ≤ stp U x t s' ∧ stp U x t s' ≤ stp U x t s + 1 := by
  obtain ⟨hw, hne⟩ := cut_way ht
  by_cases l : isLoose U x t = true
  · have a := stp_side hU hw l hne s
    have b := stp_side hU hw l hne s'
    rw [addS_cut ht] at a b
    rw [a, b]
    split <;> split <;> omega
  · have l' : isLoose U x t = false := eq_false_of_ne_true l
    rw [stp_tight hU hw l', stp_tight hU hw l']
    omega
theorem cut_lip (hU : 0 < U) (ht : t ∈ cutW) : ∀ (ys : List Int) {s s' : Int}, s ≤ s' → s' ≤ s + 1 → runL U t ys s ≤ runL U t ys s' ∧ runL U t ys s' ≤ runL U t ys s + 1
  | [], s, s', h0, h1 => ⟨h0, h1⟩
  | y :: ys, s, s', h0, h1 => by
    obtain ⟨a, b⟩ := cut_step (x := y) hU ht h0 h1
    rw [runL_cons, runL_cons]
    exact cut_lip hU ht ys a b
theorem cut_two (hU : 0 < U) (ht : t ∈ cutW) (x y s : Int) : stp U y t (stp U x t s) ≤ stp U x t (stp U y t s) + 1 := by
  obtain ⟨hw, hne⟩ := cut_way ht
  by_cases l : isLoose U x t = true <;> by_cases k : isLoose U y t = true
  · have a1 := stp_side hU hw l hne s
    have a2 := stp_side hU hw k hne (stp U x t s)
    have b1 := stp_side hU hw k hne s
    have b2 := stp_side hU hw l hne (stp U y t s)
    rw [addS_cut ht] at a1 a2 b1 b2
    rw [a2, b2]
    generalize x / U = X at *
    generalize y / U = Y at *
    generalize stp U x t s = S1 at *
    generalize stp U y t s = S2 at *
    by_cases g : 0 ≤ s + X <;> by_cases h : 0 ≤ s + Y <;> simp only [g, h, if_true, if_false] at a1 b1 <;> (split <;> split <;> omega)
  · have k' : isLoose U y t = false := eq_false_of_ne_true k
    have a1 := stp_side hU hw l hne s
    have b2 := stp_side hU hw l hne (stp U y t s)
    have b1 := stp_tight (s := s) hU hw k'
    rw [addS_cut ht] at a1 b2
    rw [stp_tight hU hw k', b2, a1, b1]
    split <;> split <;> omega
  · have l' : isLoose U x t = false := eq_false_of_ne_true l
    have a2 := stp_side hU hw k hne (stp U x t s)
    have b1 := stp_side hU hw k hne s
    have a1 := stp_tight (s := s) hU hw l'
    rw [addS_cut ht] at a2 b1
    rw [a2, stp_tight hU hw l', stp_tight hU hw l', b1]
    split <;> split <;> omega
  · have k' : isLoose U y t = false := eq_false_of_ne_true k
    have l' : isLoose U x t = false := eq_false_of_ne_true l
    rw [stp_tight hU hw k', stp_tight hU hw l', stp_tight hU hw l', stp_tight hU hw k']
    omega
/-- two beside each other change places: no more than one is lost -/
theorem cut_swap (hU : 0 < U) (ht : t ∈ cutW) (a b : List Int) (x y : Int) : runL U t (a ++ x :: y :: b) 0 ≤ runL U t (a ++ y :: x :: b) 0 + 1 := by
  rw [runL_app, runL_app, runL_cons, runL_cons, runL_cons, runL_cons]
  generalize runL U t a 0 = s
  have d1 := cut_two hU ht x y s
  have d2 := cut_two hU ht y x s
  by_cases z : stp U y t (stp U x t s) ≤ stp U x t (stp U y t s)
  · have := (cut_lip hU ht b z (by omega)).1
    omega
  · exact (cut_lip hU ht b (show stp U x t (stp U y t s) ≤ stp U y t (stp U x t s) by omega) (by omega)).2
/-! ### by halves -/
theorem even_pairs (hU : 0 < U) : ∀ (P : List (Int × Int)) (s : Int), s % 2 = 0 → (∀ p ∈ P, isLoose U p.1 "halfeven" = false ∧ near p.1 U "halfeven" % 2 = 1 ∧ isLoose U p.2 "halfeven" = true) →
    runL U "halfeven" (P.flatMap fun p => [p.1, p.2]) s % 2 = 0 ∧ runL U "halfeven" (P.flatMap fun p => [p.1, p.2]) s = s + wsum (bsE U "halfeven") (ones (P.flatMap fun p => [p.1, p.2])) + wsum (evE U "halfeven") (ones (P.map fun p => p.2))
  | [], s, hs, _ => by
    refine ⟨hs, ?_⟩
    show s = s + 0 + 0
    omega
  | (z, y) :: P, s, hs, h => by
    obtain ⟨l, o, k⟩ := h (z, y) List.mem_cons_self
    dsimp only at l o k
    have s1 := stp_tight (s := s) hU (show ("halfeven" : Str) ∈ waysL by decide +kernel) l
    have s2 := stp_even hU k (stp U z "halfeven" s)
    have b1 : bsE U "halfeven" z = near z U "halfeven" := by unfold bsE; rw [if_neg (by rw [l]; decide)]
    have b2 : bsE U "halfeven" y = y / U := by unfold bsE; rw [if_pos k]
    have ev : evE U "halfeven" y = if y / U % 2 = 0 then 1 else 0 := by unfold evE; rw [k]; simp
    obtain ⟨a1, a2⟩ := even_pairs hU P (stp U y "halfeven" (stp U z "halfeven" s)) (by omega) fun p hp => h p (List.mem_cons_of_mem _ hp)
    have fm : ((z, y) :: P).flatMap (fun p => [p.1, p.2]) = z :: y :: P.flatMap (fun p => [p.1, p.2]) := rfl
    have mp : ((z, y) :: P).map (fun p => p.2) = y :: P.map (fun p => p.2) := rfl
    rw [fm, mp]
    rw [runL_cons, runL_cons, wsum_ones, wsum_ones, wsum_ones, b1, b2]
    refine ⟨a1, ?_⟩
    rw [a2, ev]
    split <;> omega
theorem even_loose (hU : 0 < U) : ∀ (L : List Int) (s : Int), s % 2 = 0 → (∀ y ∈ L, isLoose U y "halfeven" = true) →
    runL U "halfeven" L s % 2 = 0 ∧ runL U "halfeven" L s = s + wsum (bsE U "halfeven") (ones L) + wsum (odE U "halfeven") (ones L)
  | [], s, hs, _ => by
    refine ⟨hs, ?_⟩
    show s = s + 0 + 0
    omega
  | y :: L, s, hs, h => by
    have k := h y List.mem_cons_self
    have s2 := stp_even hU k s
    have b2 : bsE U "halfeven" y = y / U := by unfold bsE; rw [if_pos k]
    have od : odE U "halfeven" y = if y / U % 2 = 1 then 1 else 0 := by unfold odE; rw [k]; simp
    obtain ⟨a1, a2⟩ := even_loose hU L (stp U y "halfeven" s) (by omega) fun p hp => h p (List.mem_cons_of_mem _ hp)
    rw [runL_cons, wsum_ones, wsum_ones, b2]
    refine ⟨a1, ?_⟩
    rw [a2, od]
    split <;> omega
/-- pairs that turn, the other loose ones, the other settled ones -/
theorem even_best (hU : 0 < U) {P : List (Int × Int)} {L B : List Int} (hP : ∀ p ∈ P, isLoose U p.1 "halfeven" = false ∧ near p.1 U "halfeven" % 2 = 1 ∧ isLoose U p.2 "halfeven" = true) (hL : ∀ y ∈ L, isLoose U y "halfeven" = true) (hB : ∀ y ∈ B, isLoose U y "halfeven" = false) :
    runL U "halfeven" ((P.flatMap fun p => [p.1, p.2]) ++ L ++ B) 0 = wsum (bsE U "halfeven") (ones ((P.flatMap fun p => [p.1, p.2]) ++ L ++ B)) + wsum (evE U "halfeven") (ones (P.map fun p => p.2)) + wsum (odE U "halfeven") (ones L) := by
  obtain ⟨a1, a2⟩ := even_pairs hU P 0 rfl hP
  obtain ⟨b1, b2⟩ := even_loose hU L _ a1 hL
  rw [runL_app, runL_app, settled_run hU (by decide +kernel) B _ hB, b2, a2, ones_app, ones_app, wsum_app, wsum_app]
  omega
end
end Own

/-! own layer, of no law: OWO4: how far apart the ends are. -/
namespace Own
open PySem PySem.Spec PyProof.Rows L2 LamX NdefX
section
variable {U x s : Int} {t : Str} {dn : Bool}
theorem wsum_bits {f : Int → Int} (h : ∀ x, 0 ≤ f x ∧ f x ≤ 1) : ∀ ys : List Int, 0 ≤ wsum f (ones ys) ∧ wsum f (ones ys) ≤ ys.length
  | [] => ⟨Int.le_refl _, Int.le_refl _⟩
  | y :: r => by
    obtain ⟨a, b⟩ := wsum_bits h r
    obtain ⟨c, d⟩ := h y
    rw [wsum_ones, List.length_cons]
    omega
theorem ch_len {l : List (Int × Nat)} {n c : Int} (h : Ch l n c) : (∀ e ∈ l, e.2 = 1) → n ≤ l.length := by
  induction h with
  | nil => intro _; exact Int.le_refl _
  | more j h0 h1 r ih =>
    intro hl
    have a := ih fun e he => hl e (List.mem_cons_of_mem _ he)
    have b := hl _ List.mem_cons_self
    dsimp only at b
    rw [b] at h1
    rw [List.length_cons]
    omega
theorem hi_near {ys : List Int} {h : Int} (H : Hi dn U t (ones ys) h) : wsum (bsE U t) (ones ys) ≤ h ∧ h ≤ wsum (bsE U t) (ones ys) + 2 * ys.length := by
  obtain ⟨m, M, rfl⟩ := H
  obtain ⟨a, b⟩ := wsum_bits (f := lfE dn U t) (fun x => by unfold lfE; split <;> decide) ys
  have m0 := M.pos
  have ml : m ≤ ys.length := by
    by_cases z : roomR dn U t (ones ys) < 0
    · rw [M.1 z]; omega
    · obtain ⟨⟨c, _, ch⟩, _⟩ := M.2 (by omega)
      have h1 := ch_len ch fun e he => by
        obtain ⟨q, hq, rfl⟩ := List.mem_map.mp he
        obtain ⟨y, _, rfl⟩ := List.mem_map.mp (List.mem_filter.mp hq).1
        rfl
      have h2 : (csOf dn U t (ones ys)).length ≤ ys.length := by
        unfold csOf
        rw [List.length_map]
        exact Nat.le_trans (List.length_filter_le _ _) (by rw [ones, List.length_map]; exact Nat.le_refl _)
      omega
  omega
theorem run_near (hU : 0 < U) (ht : t ∈ cutW ∨ t ∈ awayW) : ∀ (ys : List Int) (s : Int), s + wsum (bsE U t) (ones ys) ≤ runL U t ys s ∧ runL U t ys s ≤ s + wsum (bsE U t) (ones ys) + ys.length
  | [], s => by
    rw [wsum_ones_nil]
    show s + 0 ≤ s ∧ s ≤ s + 0 + 0
    omega
  | x :: ys, s => by
    have hw : t ∈ waysL ∧ t ≠ "halfeven" := ht.elim cut_way away_way
    obtain ⟨a, b⟩ := run_near hU ht ys (stp U x t s)
    rw [runL_cons, wsum_ones, List.length_cons]
    by_cases l : isLoose U x t = true
    · have st := stp_side hU hw.1 l hw.2 s
      have e : bsE U t x = x / U := by unfold bsE; rw [if_pos l]
      have ad : addS (x / U) t (s + x / U) = x / U ∨ addS (x / U) t (s + x / U) = x / U + 1 := by
        rcases ht with h | h
        · rw [addS_cut h]; split <;> simp
        · rw [addS_away h]; split <;> simp
      rw [e]
      omega
    · have st := stp_tight (s := s) hU hw.1 (eq_false_of_ne_true l)
      have e : bsE U t x = near x U t := by unfold bsE; rw [if_neg l]
      rw [e]
      omega
theorem ends_near (hU : 0 < U) (ht : t ∈ waysL) {ys : List Int} {lo hi : Int} (h : Ends U t (ones ys) lo hi) : lo ≤ hi ∧ wsum (bsE U t) (ones ys) - 2 * ys.length ≤ lo ∧ hi ≤ wsum (bsE U t) (ones ys) + 2 * ys.length := by
  obtain ⟨x1, x2⟩ := ends_hold hU ht (List.Perm.refl ys) h
  refine ⟨by omega, ?_⟩
  obtain ⟨a1, a2, a3, a4⟩ := h
  have side : ∀ dn, (t ∈ cutW ∨ t ∈ awayW) → Hi dn U t (ones ys) hi → Hi dn U t (mir (ones ys)) (-lo) → wsum (bsE U t) (ones ys) - 2 * ys.length ≤ lo ∧ hi ≤ wsum (bsE U t) (ones ys) + 2 * ys.length := fun dn hs h1 h2 => by
    rw [mir_ones] at h2
    have b1 := hi_near h1
    have b2 := hi_near h2
    have r1 := run_near hU hs ys 0
    have r2 := run_near hU hs (negs ys) 0
    have rn := run_neg hU ht hs ys 0
    rw [show (-0 : Int) = 0 from rfl] at rn
    have nl : (negs ys).length = ys.length := List.length_map _
    rw [nl] at b2 r2
    omega
  rcases ways_parts ht with f | f | f | f
  · obtain ⟨y1, y2⟩ := a4 f
    omega
  · obtain ⟨y1, y2⟩ := a1 f
    have e1 := wsum_bits (f := evE U t) (fun x => by unfold evE; split <;> decide) ys
    have e2 := wsum_bits (f := odE U t) (fun x => by unfold odE; split <;> decide) ys
    have e3 := wsum_bits (f := kyE U t) (fun x => by unfold kyE; split <;> decide) ys
    omega
  · exact side true (.inl f) (a2 f).1 (a2 f).2
  · exact side false (.inr f) (a3 f).1 (a3 f).2
theorem wsum_abs {f : Int → Int} {M : Nat} : ∀ {ys : List Int}, (∀ y ∈ ys, (f y).natAbs ≤ M) → (wsum f (ones ys)).natAbs ≤ ys.length * M
  | [], _ => Nat.zero_le _
  | y :: r, h => by
    have a := h y List.mem_cons_self
    have b := wsum_abs (ys := r) fun z hz => h z (List.mem_cons_of_mem _ hz)
    rw [wsum_ones, List.length_cons, Nat.succ_mul]
    omega
end
end Own

set_option maxHeartbeats 1000000
/-! the ends are met by orders; the totals of all orders -/
namespace Own
open PySem
section
variable {U x s : Int} {t : Str}
theorem rise_ex (f : Int → Int) (L : List Int) : ∃ M : List Int, List.Perm M L ∧ Rise (M.map fun y => (f y, 1)) := by
  have key : ∀ L : List Int, ∃ M : List Int, List.Perm M L ∧ M.Pairwise fun a b => f a ≤ f b := by
    intro L
    induction L with
    | nil => exact ⟨[], .nil, .nil⟩
    | cons y L ih =>
      obtain ⟨M, p, sM⟩ := ih
      refine ⟨M.filter (fun z => decide (f z < f y)) ++ y :: M.filter (fun z => !decide (f z < f y)), ?_, ?_⟩
      · exact List.perm_middle.trans (((List.filter_append_perm _ M).trans p).cons y)
      · rw [List.pairwise_append]
        refine ⟨sM.filter _, List.pairwise_cons.mpr ⟨fun z hz => ?_, sM.filter _⟩, fun a ha b hb => ?_⟩
        · have := (List.mem_filter.mp hz).2
          simp only [Bool.not_eq_true', decide_eq_false_iff_not] at this
          omega
        · have h1 := of_decide_eq_true (List.mem_filter.mp ha).2
          rcases List.mem_cons.mp hb with rfl | hb
          · omega
          · have h2 := (List.mem_filter.mp hb).2
            simp only [Bool.not_eq_true', decide_eq_false_iff_not] at h2
            omega
  have rise_of : ∀ M : List Int, M.Pairwise (fun a b => f a ≤ f b) → Rise (M.map fun y => (f y, 1)) := by
    intro M
    induction M with
    | nil => exact fun _ => trivial
    | cons y M ih =>
      intro h
      obtain ⟨h1, h2⟩ := List.pairwise_cons.mp h
      refine ⟨fun e he => ?_, ih h2⟩
      obtain ⟨z, hz, rfl⟩ := List.mem_map.mp he
      exact h1 z hz
  obtain ⟨M, p, sM⟩ := key L
  exact ⟨M, p, rise_of M sM⟩
theorem wsum_same (f : Int → Int) {ys zs : List Int} (p : List.Perm ys zs) : wsum f (ones ys) = wsum f (ones zs) := wsum_perm f (p.map fun y => (y, 1))
theorem hi_met {dn : Bool} {ws zs : List Int} {h : Int} (p : List.Perm zs ws) (a : Hi dn U t (ones ws) h) (b : Hi dn U t (ones zs) (runL U t zs 0)) : runL U t zs 0 = h :=
  (b.alike (Alike.perm (p.map _))).one a
theorem three_parts (f g : Int → Bool) {L : List Int} (ws : List Int) (pL : List.Perm L ((ws.filter fun y => !f y).filter g)) : List.Perm (ws.filter f ++ L ++ (ws.filter fun y => !f y).filter fun y => !g y) ws := by
  rw [List.append_assoc]
  exact (((pL.append_right _).trans (List.filter_append_perm _ _)).append_left _).trans (List.filter_append_perm _ _)
theorem cut_met (hU : 0 < U) (ht : t ∈ cutW) (ws : List Int) {h : Int} (a : Hi true U t (ones ws) h) : ∃ zs, List.Perm zs ws ∧ runL U t zs 0 = h := by
  obtain ⟨L, pL, sL⟩ := rise_ex (szE true U) ((ws.filter fun y => !decide (y < 0)).filter fun y => isLoose U y t)
  have p := three_parts (fun y => decide (y < 0)) (fun y => isLoose U y t) ws pL
  refine ⟨_, p, hi_met p a (cut_best hU ht (fun y hy => of_decide_eq_true (List.mem_filter.mp hy).2) (fun y hy => ?_) sL (fun y hy => ?_))⟩
  · obtain ⟨h1, h2⟩ := List.mem_filter.mp (pL.mem_iff.mp hy)
    have h3 := (List.mem_filter.mp h1).2
    simp only [Bool.not_eq_true', decide_eq_false_iff_not] at h3
    exact ⟨h2, by omega⟩
  · obtain ⟨h1, h2⟩ := List.mem_filter.mp hy
    have h3 := (List.mem_filter.mp h1).2
    simp only [Bool.not_eq_true', decide_eq_false_iff_not] at h3
    exact ⟨by simpa using h2, by omega⟩
theorem loose_nil (hU : 0 < U) : isLoose U 0 t = false := by
  unfold isLoose
  rw [Int.zero_emod]
  have h1 : decide (2 * (0 : Int) = U) = false := decide_eq_false (by omega)
  rw [h1]
  simp
theorem away_met (hU : 0 < U) (ht : t ∈ awayW) (ws : List Int) {h : Int} (a : Hi false U t (ones ws) h) : ∃ zs, List.Perm zs ws ∧ runL U t zs 0 = h := by
  obtain ⟨L, pL, sL⟩ := rise_ex (szE false U) ((ws.filter fun y => !decide (0 < y)).filter fun y => isLoose U y t)
  have p := three_parts (fun y => decide (0 < y)) (fun y => isLoose U y t) ws pL
  refine ⟨_, p, hi_met p a (away_best hU ht (fun y hy => of_decide_eq_true (List.mem_filter.mp hy).2) (fun y hy => ?_) sL (fun y hy => ?_))⟩
  · obtain ⟨h1, h2⟩ := List.mem_filter.mp (pL.mem_iff.mp hy)
    have h3 := (List.mem_filter.mp h1).2
    simp only [Bool.not_eq_true', decide_eq_false_iff_not] at h3
    refine ⟨h2, ?_⟩
    rcases Int.lt_trichotomy y 0 with z | z | z
    · exact z
    · rw [z, loose_nil hU] at h2
      cases h2
    · omega
  · obtain ⟨h1, h2⟩ := List.mem_filter.mp hy
    have h3 := (List.mem_filter.mp h1).2
    simp only [Bool.not_eq_true', decide_eq_false_iff_not] at h3
    exact ⟨by simpa using h2, by omega⟩
theorem negs_negs (ws : List Int) : negs (negs ws) = ws := by
  unfold negs
  rw [List.map_map]
  exact (List.map_congr_left fun y _ => Int.neg_neg y).trans (List.map_id' _)
theorem low_met (hU : 0 < U) (ht : t ∈ cutW ∨ t ∈ awayW) {ws : List Int} {l : Int} (h : ∃ zs, List.Perm zs (negs ws) ∧ runL U t zs 0 = -l) : ∃ zs, List.Perm zs ws ∧ runL U t zs 0 = l := by
  obtain ⟨zs, p, e⟩ := h
  have hw : t ∈ waysL := ht.elim (fun z => (cut_way z).1) (fun z => (away_way z).1)
  refine ⟨negs zs, ?_, ?_⟩
  · have := p.map (fun y => -y)
    rw [show (negs ws).map (fun y => -y) = ws from negs_negs ws] at this
    exact this
  · have r := run_neg hU hw ht zs 0
    rw [show (-0 : Int) = 0 from rfl] at r
    omega
/-! ### by halves -/
theorem even_meet (hU : 0 < U) {X K L B : List Int} (hl : X.length = K.length) (hX : ∀ y ∈ X, isLoose U y "halfeven" = true) (hK : ∀ y ∈ K, isLoose U y "halfeven" = false ∧ near y U "halfeven" % 2 = 1) (hL : ∀ y ∈ L, isLoose U y "halfeven" = true) (hB : ∀ y ∈ B, isLoose U y "halfeven" = false) :
    ∃ zs, List.Perm zs (X ++ K ++ L ++ B) ∧ runL U "halfeven" zs 0 = wsum (bsE U "halfeven") (ones (X ++ K ++ L ++ B)) + wsum (evE U "halfeven") (ones X) + wsum (odE U "halfeven") (ones L) := by
  have flatP : ∀ {X K : List Int}, X.length = K.length → List.Perm ((K.zip X).flatMap fun p => [p.1, p.2]) (X ++ K) := by
    intro X
    induction X with
    | nil => intro K h; cases K with | nil => exact .nil | cons _ _ => cases h
    | cons x X ih =>
      intro K h
      cases K with
      | nil => cases h
      | cons k K =>
        have := ih (K := K) (by simpa using h)
        show List.Perm (k :: x :: ((K.zip X).flatMap fun p => [p.1, p.2])) (x :: (X ++ k :: K))
        exact (List.Perm.swap x k _).trans (((this.cons k).trans List.perm_middle.symm).cons x)
  have sndP : ∀ {X K : List Int}, X.length = K.length → (K.zip X).map (fun p => p.2) = X := by
    intro X
    induction X with
    | nil => intro K h; cases K with | nil => rfl | cons _ _ => cases h
    | cons x X ih =>
      intro K h
      cases K with
      | nil => cases h
      | cons k K =>
        show x :: (K.zip X).map (fun p => p.2) = x :: X
        rw [ih (by simpa using h)]
  have p : List.Perm (((K.zip X).flatMap fun p => [p.1, p.2]) ++ L ++ B) (X ++ K ++ L ++ B) := ((flatP hl).append_right L).append_right B
  refine ⟨_, p, ?_⟩
  rw [even_best hU (fun q hq => ?_) hL hB, sndP hl, wsum_same _ p]
  · obtain ⟨a, b⟩ := q
    obtain ⟨h1, h2⟩ := List.of_mem_zip hq
    exact ⟨(hK a h1).1, (hK a h1).2, hX b h2⟩
theorem wsum_len {f : Int → Int} {b : Int} : ∀ {ys : List Int}, (∀ y ∈ ys, f y = b) → wsum f (ones ys) = b * (ys.length : Int)
  | [], _ => (Int.mul_zero b).symm
  | y :: r, h => by
    rw [wsum_ones, h y List.mem_cons_self, wsum_len fun z hz => h z (List.mem_cons_of_mem _ hz), List.length_cons]
    show b + b * (r.length : Int) = b * ((r.length : Int) + 1)
    rw [Int.mul_add, Int.mul_one]
    omega
/-- the four kinds of entries by halfeven -/
structure Kinds (U : Int) (ws E O K B : List Int) : Prop where
  p : List.Perm (E ++ O ++ K ++ B) ws
  e : ∀ y ∈ E, isLoose U y "halfeven" = true ∧ y / U % 2 = 0
  o : ∀ y ∈ O, isLoose U y "halfeven" = true ∧ y / U % 2 = 1
  k : ∀ y ∈ K, isLoose U y "halfeven" = false ∧ near y U "halfeven" % 2 = 1
  b : ∀ y ∈ B, isLoose U y "halfeven" = false ∧ ¬ near y U "halfeven" % 2 = 1
theorem kinds_ex (U : Int) : ∀ ws : List Int, ∃ E O K B, Kinds U ws E O K B
  | [] => ⟨[], [], [], [], .nil, by simp, by simp, by simp, by simp⟩
  | y :: ws => by
    obtain ⟨E, O, K, B, c⟩ := kinds_ex U ws
    by_cases l : isLoose U y "halfeven" = true
    · rcases two_bits (a := y / U) with z | z
      · exact ⟨y :: E, O, K, B, c.p.cons y, List.forall_mem_cons.mpr ⟨⟨l, z⟩, c.e⟩, c.o, c.k, c.b⟩
      · refine ⟨E, y :: O, K, B, ?_, c.e, List.forall_mem_cons.mpr ⟨⟨l, z⟩, c.o⟩, c.k, c.b⟩
        refine List.Perm.trans ?_ (c.p.cons y)
        rw [List.append_assoc, List.append_assoc, List.append_assoc, List.append_assoc]
        exact List.perm_middle
    · have l : isLoose U y "halfeven" = false := by simpa using l
      by_cases z : near y U "halfeven" % 2 = 1
      · refine ⟨E, O, y :: K, B, ?_, c.e, c.o, List.forall_mem_cons.mpr ⟨⟨l, z⟩, c.k⟩, c.b⟩
        refine List.Perm.trans ?_ (c.p.cons y)
        rw [List.append_assoc, List.append_assoc (E ++ O) K B]
        exact List.perm_middle
      · refine ⟨E, O, K, y :: B, ?_, c.e, c.o, c.k, List.forall_mem_cons.mpr ⟨⟨l, z⟩, c.b⟩⟩
        exact List.perm_middle.trans (c.p.cons y)
theorem Kinds.sums {U : Int} {ws E O K B : List Int} (c : Kinds U ws E O K B) : wsum (evE U "halfeven") (ones ws) = E.length ∧ wsum (odE U "halfeven") (ones ws) = O.length ∧ wsum (kyE U "halfeven") (ones ws) = K.length := by
  have sp : ∀ f : Int → Int, wsum f (ones ws) = wsum f (ones E) + wsum f (ones O) + wsum f (ones K) + wsum f (ones B) := by
    intro f
    rw [← wsum_same f c.p]
    rw [ones_app, ones_app, ones_app, wsum_app, wsum_app, wsum_app]
  refine ⟨?_, ?_, ?_⟩
  · rw [sp, wsum_len (b := 1) fun y hy => by unfold evE; rw [(c.e y hy).1, (c.e y hy).2]; rfl, wsum_len (b := 0) fun y hy => by unfold evE; rw [(c.o y hy).1, (c.o y hy).2]; rfl, wsum_len (b := 0) fun y hy => by unfold evE; rw [(c.k y hy).1]; rfl, wsum_len (b := 0) fun y hy => by unfold evE; rw [(c.b y hy).1]; rfl]
    omega
  · rw [sp, wsum_len (b := 0) fun y hy => by unfold odE; rw [(c.e y hy).1, (c.e y hy).2]; rfl, wsum_len (b := 1) fun y hy => by unfold odE; rw [(c.o y hy).1, (c.o y hy).2]; rfl, wsum_len (b := 0) fun y hy => by unfold odE; rw [(c.k y hy).1]; rfl, wsum_len (b := 0) fun y hy => by unfold odE; rw [(c.b y hy).1]; rfl]
    omega
  · rw [sp, wsum_len (b := 0) fun y hy => by unfold kyE; rw [(c.e y hy).1]; rfl, wsum_len (b := 0) fun y hy => by unfold kyE; rw [(c.o y hy).1]; rfl, wsum_len (b := 1) fun y hy => by unfold kyE; rw [(c.k y hy).1, (c.k y hy).2]; rfl, wsum_len (b := 0) fun y hy => by unfold kyE; rw [(c.b y hy).1, decide_eq_false (c.b y hy).2]; rfl]
    omega
theorem even_side (hU : 0 < U) {ws X Y K B : List Int} (p : List.Perm (X ++ Y ++ K ++ B) ws) (hX : ∀ y ∈ X, isLoose U y "halfeven" = true) (hY : ∀ y ∈ Y, isLoose U y "halfeven" = true) (hK : ∀ y ∈ K, isLoose U y "halfeven" = false ∧ near y U "halfeven" % 2 = 1) (hB : ∀ y ∈ B, isLoose U y "halfeven" = false) :
    ∃ zs, List.Perm zs ws ∧ runL U "halfeven" zs 0 = wsum (bsE U "halfeven") (ones ws) + wsum (evE U "halfeven") (ones (X.take (min X.length K.length))) + wsum (odE U "halfeven") (ones (X.drop (min X.length K.length) ++ Y)) := by
  generalize hm : min X.length K.length = m
  have q : List.Perm (X.take m ++ K.take m ++ (X.drop m ++ Y) ++ (K.drop m ++ B)) ws := by
    refine List.Perm.trans ?_ p
    have e1 : X.take m ++ X.drop m = X := List.take_append_drop m X
    have e2 : K.take m ++ K.drop m = K := List.take_append_drop m K
    calc List.Perm (X.take m ++ K.take m ++ (X.drop m ++ Y) ++ (K.drop m ++ B)) (X.take m ++ (X.drop m ++ Y) ++ K.take m ++ (K.drop m ++ B)) := by
          refine List.Perm.append_right _ ?_
          rw [List.append_assoc, List.append_assoc]
          exact List.perm_append_comm.append_left _
      _ = X ++ Y ++ K ++ B := by
          rw [← List.append_assoc (X.take m), e1, List.append_assoc (X ++ Y), ← List.append_assoc (K.take m), e2, List.append_assoc (X ++ Y)]
      List.Perm _ _ := .refl _
  obtain ⟨zs, pz, ez⟩ := even_meet hU (X := X.take m) (K := K.take m) (L := X.drop m ++ Y) (B := K.drop m ++ B) (by rw [List.length_take, List.length_take]; omega) (fun y hy => hX y (List.mem_of_mem_take hy)) (fun y hy => hK y (List.mem_of_mem_take hy))
    (fun y hy => (List.mem_append.mp hy).elim (fun z => hX y (List.mem_of_mem_drop z)) (hY y)) (fun y hy => (List.mem_append.mp hy).elim (fun z => (hK y (List.mem_of_mem_drop z)).1) (hB y))
  refine ⟨zs, pz.trans q, ?_⟩
  rw [ez]
  have : wsum (bsE U "halfeven") (ones (X.take m ++ K.take m ++ (X.drop m ++ Y) ++ (K.drop m ++ B))) = wsum (bsE U "halfeven") (ones ws) := wsum_same _ q
  rw [this]
theorem even_met (hU : 0 < U) (ws : List Int) {lo hi : Int} (h1 : lo = wsum (bsE U "halfeven") (ones ws) + wsum (odE U "halfeven") (ones ws) - min (wsum (odE U "halfeven") (ones ws)) (wsum (kyE U "halfeven") (ones ws))) (h2 : hi = wsum (bsE U "halfeven") (ones ws) + wsum (odE U "halfeven") (ones ws) + min (wsum (evE U "halfeven") (ones ws)) (wsum (kyE U "halfeven") (ones ws))) :
    (∃ zs, List.Perm zs ws ∧ runL U "halfeven" zs 0 = lo) ∧ ∃ zs, List.Perm zs ws ∧ runL U "halfeven" zs 0 = hi := by
  obtain ⟨E, O, K, B, c⟩ := kinds_ex U ws
  obtain ⟨s1, s2, s3⟩ := c.sums
  have eE : ∀ y ∈ E, evE U "halfeven" y = 1 ∧ odE U "halfeven" y = 0 := fun y hy => by unfold evE odE; rw [(c.e y hy).1, (c.e y hy).2]; exact ⟨rfl, rfl⟩
  have eO : ∀ y ∈ O, evE U "halfeven" y = 0 ∧ odE U "halfeven" y = 1 := fun y hy => by unfold evE odE; rw [(c.o y hy).1, (c.o y hy).2]; exact ⟨rfl, rfl⟩
  constructor
  · obtain ⟨zs, pz, ez⟩ := even_side hU (X := O) (Y := E) (K := K) (B := B) ((((List.perm_append_comm (l₁ := O) (l₂ := E)).append_right K).append_right B).trans c.p) (fun y hy => (c.o y hy).1) (fun y hy => (c.e y hy).1) c.k fun y hy => (c.b y hy).1
    refine ⟨zs, pz, ?_⟩
    rw [ez, h1, s2, s3, wsum_len (b := 0) fun y hy => (eO y (List.mem_of_mem_take hy)).1, ones_app, wsum_app, wsum_len (b := 1) fun y hy => (eO y (List.mem_of_mem_drop hy)).2, wsum_len (b := 0) fun y hy => (eE y hy).2, List.length_drop]
    omega
  · obtain ⟨zs, pz, ez⟩ := even_side hU (X := E) (Y := O) (K := K) (B := B) c.p (fun y hy => (c.e y hy).1) (fun y hy => (c.o y hy).1) c.k fun y hy => (c.b y hy).1
    refine ⟨zs, pz, ?_⟩
    rw [ez, h2, s1, s2, s3, wsum_len (b := 1) fun y hy => (eE y (List.mem_of_mem_take hy)).1, ones_app, wsum_app, wsum_len (b := 0) fun y hy => (eE y (List.mem_of_mem_drop hy)).2, wsum_len (b := 1) fun y hy => (eO y hy).2, List.length_take]
    omega
/-- the ends are met -/
theorem ends_met (hU : 0 < U) (ht : t ∈ waysL) {ws : List Int} {lo hi : Int} (h : Ends U t (ones ws) lo hi) : (∃ zs, List.Perm zs ws ∧ runL U t zs 0 = lo) ∧ ∃ zs, List.Perm zs ws ∧ runL U t zs 0 = hi := by
  obtain ⟨h1, h2, h3, h4⟩ := h
  rcases ways_parts ht with f | rfl | c | a
  · obtain ⟨rfl, rfl⟩ := h4 f
    have e : runL U t ws 0 = wsum (bsE U t) (ones ws) := by rw [flat_run hU f]; omega
    exact ⟨⟨ws, .refl _, e⟩, ⟨ws, .refl _, e⟩⟩
  · obtain ⟨e1, e2⟩ := h1 rfl
    exact even_met hU ws e1 e2
  · obtain ⟨a1, a2⟩ := h2 c
    rw [mir_ones] at a2
    exact ⟨low_met hU (.inl c) (cut_met hU c _ a2), cut_met hU c _ a1⟩
  · obtain ⟨a1, a2⟩ := h3 a
    rw [mir_ones] at a2
    exact ⟨low_met hU (.inr a) (away_met hU a _ a2), away_met hU a _ a1⟩
/-! ### the totals of all orders -/
def totsL (U : Int) (t : Str) : Nat → List Int → Int → List Int
  | 0, _, s => [s]
  | n + 1, row, s => (List.range (n + 1)).flatMap fun i => totsL U t n (row.take i ++ row.drop (i + 1)) (stp U (row.getD i 0) t s)
theorem cut_one {row : List Int} {i : Nat} (h : i < row.length) : List.Perm (row.getD i 0 :: (row.take i ++ row.drop (i + 1))) row ∧ (row.take i ++ row.drop (i + 1)).length = row.length - 1 := by
  have e : row.take i ++ row.getD i 0 :: row.drop (i + 1) = row := by
    rw [List.getD_eq_getElem?_getD, List.getElem?_eq_getElem h]
    show row.take i ++ row[i] :: row.drop (i + 1) = row
    rw [← List.drop_eq_getElem_cons h, List.take_append_drop]
  have p : List.Perm (row.getD i 0 :: (row.take i ++ row.drop (i + 1))) row := by
    have := (List.perm_middle (l₁ := row.take i) (l₂ := row.drop (i + 1)) (a := row.getD i 0)).symm
    rwa [e] at this
  exact ⟨p, by have := p.length_eq; rw [List.length_cons] at this; omega⟩
theorem tots_mem (U : Int) (t : Str) : ∀ (n : Nat) (row : List Int) (s x : Int), row.length = n → (x ∈ totsL U t n row s ↔ ∃ zs, List.Perm zs row ∧ runL U t zs s = x)
  | 0, row, s, x, h => by
    obtain rfl := List.length_eq_zero_iff.mp h
    constructor
    · intro m
      obtain rfl := List.mem_singleton.mp m
      exact ⟨[], .nil, rfl⟩
    · rintro ⟨zs, p, rfl⟩
      obtain rfl := List.perm_nil.mp p
      exact List.mem_singleton.mpr rfl
  | n + 1, row, s, x, h => by
    unfold totsL
    rw [List.mem_flatMap]
    constructor
    · rintro ⟨i, hi, m⟩
      have hi := List.mem_range.mp hi
      obtain ⟨p, l⟩ := cut_one (row := row) (i := i) (by omega)
      obtain ⟨zs, pz, ez⟩ := (tots_mem U t n _ _ x (by omega)).mp m
      exact ⟨_, (pz.cons _).trans p, by rw [runL_cons]; exact ez⟩
    · rintro ⟨zs, pz, ez⟩
      cases zs with
      | nil => have := pz.length_eq; rw [List.length_nil] at this; omega
      | cons y zs =>
        obtain ⟨i, hi, ei⟩ := List.getElem_of_mem (pz.mem_iff.mp (List.mem_cons_self (a := y) (l := zs)))
        have g : row.getD i 0 = y := by rw [List.getD_eq_getElem?_getD, List.getElem?_eq_getElem hi]; exact ei
        obtain ⟨p, l⟩ := cut_one (row := row) (i := i) hi
        refine ⟨i, List.mem_range.mpr (by omega), (tots_mem U t n _ _ x (by omega)).mpr ⟨zs, ?_, ?_⟩⟩
        · rw [g] at p
          exact (pz.trans p.symm).cons_inv
        · rw [g, ← runL_cons]
          exact ez
theorem flat_len_le {α β : Type} {f : α → List β} {M : Nat} : ∀ {l : List α}, (∀ a ∈ l, (f a).length ≤ M) → (l.flatMap f).length ≤ l.length * M
  | [], _ => Nat.zero_le _
  | a :: l, h => by
    rw [List.flatMap_cons, List.length_append, List.length_cons, Nat.add_mul, Nat.one_mul]
    have h1 := h a List.mem_cons_self
    have h2 := flat_len_le (l := l) fun b hb => h b (List.mem_cons_of_mem _ hb)
    omega
theorem tots_len (U : Int) (t : Str) : ∀ (n : Nat) (row : List Int) (s : Int), n ≤ 5 → (totsL U t n row s).length ≤ 5 ^ n
  | 0, _, _, _ => Nat.le_refl _
  | n + 1, row, s, h => by
    have a := flat_len_le (l := List.range (n + 1)) (f := fun i => totsL U t n (row.take i ++ row.drop (i + 1)) (stp U (row.getD i 0) t s)) (M := 5 ^ n) fun i _ => tots_len U t n _ _ (by omega)
    rw [List.length_range] at a
    have b : (n + 1) * 5 ^ n ≤ 5 * 5 ^ n := Nat.mul_le_mul_right _ h
    rw [Nat.pow_succ]
    unfold totsL
    omega
theorem pow_small {n : Nat} (h : n ≤ 5) : 5 ^ n ≤ 3125 := Nat.pow_le_pow_right (by decide) h
end
end Own

set_option maxHeartbeats 4000000
/-! own layer, of no law: OWO6: list(range(a, b)) of wide bounds; a list beside the empty one. -/
namespace Own
open PySem PySem.Spec PyProof.Rows L2 LamX NdefX
/-- whether a list is the empty one -/
theorem op_eqNil {X : Cx} (hu : X.A.units + 64 < cLine) : OpR X (compareOp .Eq) (fun x y H Q => ∃ (l m : Addr) (xs : List V), x = .ref l ∧ y = .ref m ∧ SqL X.K H l xs ∧ SqL X.K H m [] ∧ Q (.bl (decide (xs = []))) H) := by
  intro pins s σ H x y v u Q I rx ry h
  obtain ⟨l, m, xs, rfl, rfl, h1, h2, q⟩ := h
  cases (show v = Value.ref l from rx)
  cases (show u = Value.ref m from ry)
  obtain ⟨us, r1, t1, _⟩ := I.list h1
  obtain ⟨ws, r2, t2, _⟩ := I.list h2
  have l1 := r1.length
  have l2 := r2.length
  cases xs with
  | nil =>
    have := SeqAt.RcAt.lists (A := X.A) (e := fun _ => true) t1.isList t2.isList (by simp at l1 l2 ⊢; omega) (by omega) (fun j j1 j2 => by simp at l1 j1; omega)
    have e : ((List.range us.toArray.size).all (fun _ => true)) = true := by simp
    rw [e] at this
    exact this X.prog X.w _ _ ⟨.bl true, H, I, rfl, q⟩
  | cons a r =>
    have := SeqAt.RcAt.lists_lengths (A := X.A) t1.isList t2.isList (by simp at l1 l2 ⊢; omega) (by omega)
    exact this X.prog X.w _ _ ⟨.bl false, H, I, rfl, q⟩
section
variable {prog : Program} {w : World} {A : Around} {E : Value → Shared → Prop} {s : Shared}
/-- a list is filled from a range whose bounds are wide -/
theorem long_fill {R : Result → Shared → Prop} {r L : Addr} {a b : Int} {ta tb tc : Tok} {n c0 : Nat} {res : Value} (free : A.handled = none) (hr : IsRange s.heap r a b 1 ta tb tc) (wide : Builtin.Range.small a b 1 = false) (many : Builtin.Range.rangeSize a b 1 = n) (few : n ≤ 2 ^ 24)
    (hL : s.heap.get? L = some { cls := .type "list", data := .seq #[] c0 })
    (go : ∀ hp tk ys c1, (∀ x o, x ≠ L → s.heap.get? x = some o → hp.get? x = some o) → hp.get? L = some { cls := .type "list", dict := none, data := .seq ys c1, slots := #[] } →
      ItemsOf (fun i y => ∃ t, y = .int (a + i * 1) t) ys n → R (.ok (.ret res)) { s with heap := hp, toks := tk }) :
    wpAny (model prog w) A.in1 (Builtin.List.listExtendWith (.ref L) (.ref r) res)
      (fun z s2 => match z with | .done f => R (.ok f) s2 | .again c => c.quiet = true ∧ codeAny (model prog w) A c R s2) (fun e s2 => R (.error e) s2) s := by
  have hn : n ≤ sizeLine := by rw [sizeLine_eq]; omega
  have ne : L ≠ r := by
    intro e
    rw [e, hr] at hL
    simp at hL
  have lt : L < s.heap.objs.size := Heap.lt_size hL
  have nI : L ≠ s.heap.objs.size := Nat.ne_of_lt lt
  have out : L ∉ [s.heap.objs.size] := fun z => nI (List.mem_singleton.mp z)
  have Wk := (Walks.longrange (prog := prog) (w := w) (A := A.in1) free s.heap.objs.size a 1 n).toS
  have loop : ∀ (hp : Heap) (c1 tk : Nat), IsLongIter hp s.heap.objs.size (a + ((0 : Nat) : Int) * 1) ((n : Int) - ((0 : Nat) : Int)) 1 → (∀ x o, x ≠ L → s.heap.get? x = some o → hp.get? x = some o) →
      hp.get? L = some { cls := .type "list", data := .seq #[] c1 } → codeAny (model prog w) A (.builtin "list.extend.loop" ⟨[.ref L, .ref s.heap.objs.size, res], []⟩) R { s with heap := hp, toks := tk } := by
    intro hp c1 tk it old hL1
    refine codeAny_extend_loopS Wk hn L out res n 0 _ #[] c1 rfl (Nat.zero_le _) it hL1 (ItemsOf.nil _) fun s2 ys c2 mv hL2 items => ?_
    rw [Moved.eq_with mv]
    refine go s2.heap s2.toks ys c2 (fun x o hx e => mv.heap x o (fun z => ?_) (old x o hx e)) hL2 items
    rcases List.mem_cons.mp z with z | z
    · exact hx z
    · rw [List.mem_singleton.mp z] at e
      exact absurd (Heap.lt_size e) (Nat.lt_irrefl _)
  unfold Builtin.List.listExtendWith
  refine wpAny_bind (wpAny_typeOf (T := "range") ⟨_, hr, rfl⟩ ?_)
  have k1 : Builtin.List.listSameRef (.ref L) (.ref r) = false := by
    simp [Builtin.List.listSameRef, ne]
  have k2 : ((Value.type "range" == Value.type "list") || (Value.type "range" == Value.type "tuple")) = false := by decide
  simp only [k1, k2, Bool.or_false, Bool.false_or, Bool.false_eq_true, if_false]
  refine wpAny_bind (wpAny_pyIter_longrange hr wide ?_)
  have it0 : IsLongIter (s.heap.push { cls := .type "longrange_iterator", data := .fields #[rawInt a, rawInt (Builtin.Range.rangeSize a b 1), rawInt 1] }) s.heap.objs.size a (Builtin.Range.rangeSize a b 1) 1 := Heap.get?_push_size _ rfl
  have hL1 := Heap.get?_push_of_some { cls := .type "longrange_iterator", data := .fields #[rawInt a, rawInt (Builtin.Range.rangeSize a b 1), rawInt 1] } hL
  have old1 : ∀ x o, s.heap.get? x = some o → (s.heap.push { cls := .type "longrange_iterator", data := .fields #[rawInt a, rawInt (Builtin.Range.rangeSize a b 1), rawInt 1] }).get? x = some o := fun x o e => Heap.get?_push_of_some _ e
  generalize s.heap.push { cls := .type "longrange_iterator", data := .fields #[rawInt a, rawInt (Builtin.Range.rangeSize a b 1), rawInt 1] } = h1 at it0 hL1 old1 ⊢
  refine wpAny_bind (wpAny_holding (wpAny_hint_range (n := n) (old1 _ _ hr) many few ?_))
  have it1 : IsLongIter h1 s.heap.objs.size (a + ((0 : Nat) : Int) * 1) ((n : Int) - ((0 : Nat) : Int)) 1 := by
    show IsLongIter _ _ _ _ _
    rw [many] at it0
    simpa using it0
  have quiet := plainId_quiet F.plain_extend_loop
  refine wpAny_ite_split (fun _ => ?_) (fun _ => wpAny_pure ⟨quiet _, loop h1 c0 _ it1 (fun x o _ e => old1 x o e) hL1⟩)
  refine wpAny_bind (wpAny_rule (wpAny_bind ?_))
  show wpAny _ _ (do updateSeq L (·.push .none); updateSeq L (·.pop)) _ _ _
  refine wpAny_bind (wpAny_updateSeq hL1 rfl ?_)
  have hL2 := Heap.get?_update_self (Obj.mapSeq (·.push Value.none)) hL1 rfl
  refine wpAny_updateSeq (hz := by seq_fits) hL2 rfl (wpAny_pure ⟨quiet _, loop _ _ _ ?_ (fun x o hx e => ?_) (Heap.get?_update_self (Obj.mapSeq (·.pop)) hL2 rfl)⟩)
  · rw [IsLongIter, Heap.get?_update_other _ _ nI, Heap.get?_update_other _ _ nI]
    exact it1
  · rw [Heap.get?_update_other _ _ (Ne.symm hx), Heap.get?_update_other _ _ (Ne.symm hx)]
    exact old1 x o e
/-- list(range(a, b)) of wide bounds -/
theorem long_list {Q : Value → Shared → Prop} {r : Addr} {a b : Int} {ta tb tc : Tok} {n : Nat} (free : A.handled = none) (hr : IsRange s.heap r a b 1 ta tb tc) (wide : Builtin.Range.small a b 1 = false) (many : Builtin.Range.rangeSize a b 1 = n) (few : n ≤ 2 ^ 24)
    (go : ∀ hp tk ys c1, (∀ x o, s.heap.get? x = some o → hp.get? x = some o) → hp.get? s.heap.objs.size = some { cls := .type "list", dict := none, data := .seq ys c1, slots := #[] } →
      ItemsOf (fun i y => ∃ t, y = .int (a + i * 1) t) ys n → Q (.ref s.heap.objs.size) { s with heap := hp, toks := tk }) :
    wpAny (model prog w) A (call (.type "list") [.ref r]) Q E s := by
  refine callType_codes (Q₁ := fun z s1 => z = .ref s.heap.objs.size ∧ s1 = { s with heap := s.heap.push { cls := .type "list", data := .seq #[] } }) F.called_list (F.typeCall_list_1 _)
    F.entry_list_init (code_list_new _ ⟨rfl, rfl⟩) ?_
  rintro z s1 ⟨rfl, rfl⟩
  have hL : (s.heap.push { cls := .type "list", data := .seq #[] }).get? s.heap.objs.size = some { cls := .type "list", data := .seq #[] } := Heap.get?_push_size _ rfl
  have nr : s.heap.objs.size ≠ r := (Nat.ne_of_lt (Heap.lt_size hr)).symm
  refine ⟨⟨_, hL, rfl⟩, F.args_list_init_2 _ _, ?_⟩
  show wpAny _ _ (do let old ← Builtin.List.listItems (.ref s.heap.objs.size); Builtin.List.listUpdate (.ref s.heap.objs.size) (fun _ => #[]); letGo old.toList.reverse; Builtin.List.listExtendWith (.ref s.heap.objs.size) (.ref r) .none) _ _ _
  refine wpAny_bind ?_
  unfold Builtin.List.listItems
  refine wpAny_bind (wpAny_seqItems hL rfl (wpAny_pure ?_))
  refine wpAny_bind (m := updateSeq s.heap.objs.size _) (wpAny_updateSeq hL rfl ?_)
  have hL2 := Heap.get?_update_self (Obj.mapSeq (fun _ => (#[] : Array Value))) hL rfl
  refine wpAny_bind (wpAny_letGo ?_)
  refine long_fill (A := A.in1) free ((Heap.get?_update_other _ _ nr).trans (Heap.get?_push_of_some _ hr)) wide many few (by exact hL2) fun hp tk ys c1 old hL3 items => ?_
  refine ⟨rfl, go hp tk ys c1 (fun x o e => ?_) hL3 items⟩
  have hx : x ≠ s.heap.objs.size := Nat.ne_of_lt (Heap.lt_size e)
  exact old x o hx ((Heap.get?_update_other _ _ hx.symm).trans (Heap.get?_push_of_some _ e))
end
section
variable {X : Cx} {e : Expr} {te : L2.St → Hp → (Int → Int → Hp → Prop) → Prop}
/-- list(range(a, b)): any bounds, few numbers -/
def tLstRgW (te : L2.St → Hp → (Int → Int → Hp → Prop) → Prop) : TE := fun σ H Q => te σ H fun a b H1 => (b - a).toNat ≤ 2 ^ 24 ∧ ∀ q, H1 q = none → Q (.ref q) (upd H1 q (.lst (rgV a b)))
theorem pe_listRgW {p pos : Pos} (hc : X.calm = true) (hg : Gl X "list") (hm : X.mg "list" = none) (he : PRg X e te) (na : starEach [e] X.env = (false, eval e X.env) :: starEach [] X.env := by rfl) : PE X (.Call (.Name "list" p) [e] [] pos) (tLstRgW te) := by
  refine ⟨fun pins s σ H Q I h => Call_ (ld_blt I hg hm boot_list (PyProof.Rows.callWith_type1 (args_cons (thn (he pins s σ H _ I h) ?_) na) na))⟩
  rintro x s1 ⟨r, a, b, t, u, v, H1, rfl, hr, I1, few, q⟩
  refine args_nil ?_
  have fin : ∀ (hp : Heap) (tk : Nat) (ys : Array Value) (c1 : Nat), (∀ x o, s1.heap.get? x = some o → hp.get? x = some o) → hp.get? s1.heap.objs.size = some { cls := .type "list", dict := none, data := .seq ys c1, slots := #[] } →
      ItemsOf (fun i y => ∃ t, y = .int (a + i * 1) t) ys (b - a).toNat → ∃ (y : V) (H2 : Hp), Inv X pins σ H2 { s1 with heap := hp, toks := tk } ∧ RelV y (.ref s1.heap.objs.size) ∧ Q y H2 := by
    intro hp tk ys c1 old hl items
    refine ⟨.ref s1.heap.objs.size, upd H1 s1.heap.objs.size (.lst (rgV a b)), I1.laid old (Nat.le_refl _) (show ObjOk X.prog X.w _ _ _ (.lst (rgV a b)) from ⟨?_, ys.toList, c1, vals_rg items, ?_⟩), rfl, q _ (I1.hok.fresh (Nat.le_refl _))⟩
    · rw [rgV_length, sizeLine_eq]
      omega
    · rw [Array.toArray_toList]
      exact hl
  by_cases sm : Builtin.Range.small a b 1 = true
  · exact call_list_range (n := (b - a).toNat) (I1.ok.hd hc) hr sm (rangeSize_nat a b) few fin
  · exact long_list (n := (b - a).toNat) (I1.ok.hd hc) hr (by simpa using sm) (rangeSize_nat a b) few fin
end
end Own

/-! k25: the pen's defs. -/
namespace K25
open PySem PySem.Spec PyProof.Rows L2 LamX NdefX Own
def topS (i : Nat) : Stmt := PySem.Challenge.pw_figurestay_k25_whole_least_whole_figures.main.body.getD i (.Pass ⟨0, 0, 0, 0⟩)
abbrev sBegin : Stmt := topS 8
abbrev sDraw : Stmt := topS 9
theorem un3 : Un3 "cells" "at" "rest" := by unfold Un3; decide +kernel
abbrev penK (p : Addr) (c l : Int) : List (Key × V) := penG "cells" "at" "rest" p c l
abbrev KeepP (d : Addr) (H H' : Hp) : Prop := KeepG "cells" "at" "rest" d H H'
/-- a tape stands at d: some cells, at most B draws begun -/
structure Pen (H : Hp) (d : Addr) (B : Int) : Prop where
  ex : ∃ (p : Addr) (ns : List Int) (m l : Int), H d = some (.dK (penK p m l)) ∧ H p = some (.lst (ns.map V.int)) ∧ 0 < ns.length ∧ ns.length ≤ 63 ∧ 0 ≤ m ∧ m ≤ B
section
variable {H H' : Hp} {d : Addr} {B B' : Int}
theorem Pen.mono (h : Pen H d B) (z : B ≤ B') : Pen H d B' := by
  obtain ⟨p, ns, m, l, e1, e2, e3, e4, f, g⟩ := h.ex
  exact ⟨p, ns, m, l, e1, e2, e3, e4, f, by omega⟩
theorem Pen.ext (h : Pen H d B) (s : ∀ x o, H x = some o → (∀ ps, o ≠ .tbl ps) → H' x = some o) : Pen H' d B := by
  obtain ⟨p, ns, m, l, e1, e2, e3, e4, f, g⟩ := h.ex
  exact ⟨p, ns, m, l, s _ _ e1 (fun ps z => by cases z), s _ _ e2 (fun ps z => by cases z), e3, e4, f, g⟩
theorem Pen.same (h : Pen H d B) (s : Same H H') : Pen H' d B := h.ext fun x o e _ => s x o e
theorem Pen.ne_lst {x : Addr} {xs : List V} (h : Pen H d B) (hx : H x = some (.lst xs)) : x ≠ d := by
  obtain ⟨p, ns, m, l, e1, _⟩ := h.ex
  exact ne_of hx e1 (by intro z; cases z)
theorem Pen.g (h : Pen H d B) : PenG "cells" "at" "rest" H d B := by
  obtain ⟨p, ns, m, l, e1, e2, e3, e4, f, g⟩ := h.ex
  exact ⟨p, ns, m, l, e1, e2, e4, f, g⟩
end
section
variable {P : Program} {w : World} {K : PySem.W.Frag} {mg : Str → Option Value} {base : Heap}
theorem scBegin : FnScope ["_law_script"] ["_law_script"] (defScope sBegin) := ⟨rfl, rfl, rfl, by decide +kernel, rfl, by decide +kernel, by decide +kernel⟩
theorem scDraw : FnScope ["_law_tape", "_law_limit", "_law_at", "_law_span", "_law_cell", "_law_mixed", "_law_found"] ["_law_tape", "_law_limit"] (defScope sDraw) := ⟨rfl, rfl, rfl, by decide +kernel, rfl, by decide +kernel, by decide +kernel⟩
/-- a number below the limit; the tape has begun one draw more -/
def spDraw : Sp := fun vs H Q _ => ∃ (d : Addr) (n B : Int), vs = [.ref d, .int n] ∧ Pen H d B ∧ B ≤ 1000000000 ∧ 0 < n ∧ n ≤ 100000000 ∧ ∀ (v : Int) (H' : Hp), 0 ≤ v → v < n → KeepP d H H' → Pen H' d (B + 1) → Q (.int v) H'
theorem ok_draw (A : At K mg "_law_draw" sDraw ["_law_tape", "_law_limit"]) (T : Blt mg) : DefOk P w K mg base CX0 "_law_draw" 1 ["_law_tape", "_law_limit"] spDraw := by
  refine A.ok fun f fd F => F.ok scDraw (fun vs H Q E h => ?_) (fun cdv A outer s H vs Q E hr h => ?_)
  · obtain ⟨d, n, B, rfl, _⟩ := h
    rfl
  · obtain ⟨d, n, B, rfl, hp, hB, h0, h1, q⟩ := h
    have hu := hu_of hr
    have nd := scDraw.nd
    refine ⟨_, C8.pss_cut (ps_if (pt_cmpR op_lt (pe_dget hu (pv 0) pe_str (fun _ _ => rfl)) (pv 1) (nomark _)) (pss_cons (ps_par (i := 2) (j := 3) (by rfl) nd rfl rfl (by decide) rfl rfl (pa_cons (pe_dget hu (pv 0) pe_str (fun _ _ => rfl)) (pa_cons (pe_callB call_len_seq (by rfl) T.len PySem.boot_len (pa_cons (pe_dget hu (pv 0) pe_str (fun _ _ => rfl)) pa_nil)) pa_nil)) (by rfl)) (pss_cons (ps_asg (pe_tup (pa_cons (pe_ix ix_list (pe_dget hu (pv 0) pe_str (fun _ _ => rfl)) (pe_op op_mod (pe_callTy call_int1 (by rfl) T.int (by decide +kernel) (pa_cons (pv 2) pa_nil)) (pv 3)) (fun _ _ => rfl)) (pa_cons (pe_op op_add (pv 2) pe_int) pa_nil))) (pg_tup rfl (pgs_cons (pg_name (i := 4) nd rfl (.inl rfl)) (pgs_cons (pg_sub (pv 0) pe_str (set_dict hu)) pgs_nil)))) (pss_cons (ps_set (i := 5) nd rfl (.inl rfl) (pe_op op_add (pe_op op_add (pe_op op_mul (pe_callTy call_int1 (by rfl) T.int (by decide +kernel) (pa_cons (pv 4) pa_nil)) pe_int) (pe_op op_mul (pe_op op_mul pe_int (pv 2)) (pv 2))) pe_int)) (pss_cons (ps_set (i := 5) nd rfl (.inl rfl) (pe_op op_mod (pe_callTy call_int1 (by rfl) T.int (by decide +kernel) (pa_cons (pv 5) pa_nil)) pe_int)) (pss_cons (ps_dput hu (pv 0) pe_str (pe_op op_mod (pe_callTy call_int1 (by rfl) T.int (by decide +kernel) (pa_cons (pe_op op_add (pe_op op_pow (pv 5) pe_int) (pe_op op_mul (pe_op op_mul (pe_op op_mul pe_int (pv 2)) (pv 5)) (pv 5))) pa_nil)) (pe_op op_add (pe_op op_pow pe_int pe_int) pe_int)) rfl) (pss_one (ps_if (PW.pt (pw_and (pt_cmpR op_ge (pv 4) (pe_op op_pow pe_int pe_int) (nomark _)) (pw_and1 (pt_cmpR op_lt (pv 2) (pv 3) (nomark _))))) (pss_one (ps_dput hu (pv 0) pe_str (pe_op op_sub (pv 4) (pe_op op_pow pe_int pe_int)) rfl)) pss_nil))))))) pss_nil)
      (pss_cons (ps_asg (pe_tup (pa_cons (pe_op op_mod (pe_callTy call_int1 (by rfl) T.int (by decide +kernel) (pa_cons (pe_dget hu (pv 0) pe_str (fun _ _ => rfl)) pa_nil)) (pv 1)) (pa_cons (pe_op op_fdiv (pe_dget hu (pv 0) pe_str (fun _ _ => rfl)) (pv 1)) pa_nil))) (pg_tup rfl (pgs_cons (pg_name (i := 6) nd rfl (.inl rfl)) (pgs_cons (pg_sub (pv 0) pe_str (set_dict hu)) pgs_nil))))
      (pss_one (ps_ret (pv 6)))), ?_⟩
    obtain ⟨p, ns, c, l, hd, hps, hn0, hns, hc0, hcB⟩ := hp.ex
    have npd : p ≠ d := ne_of hps hd (by intro z; cases z)
    have n0 : n ≠ 0 := by omega
    have nB : n < 1073741824 := by omega
    refine ⟨fun σ H2 => (∃ (y2 y3 y4 y5 : Option V) (c2 l2 : Int), σ = [some (.ref d), some (.int n), y2, y3, y4, y5, none] ∧ H2 d = some (.dK (penK p c2 l2)) ∧ 0 ≤ c2 ∧ c2 ≤ B + 1) ∧ H2 p = some (.lst (ns.map V.int)) ∧ KeepP d H H2, ?_, ?_⟩
    · refine ⟨_, rfl, d, .int l, rfl, gpen_c un3 hd, _, rfl, l, n, rfl, rfl, _, rfl, ite2 (fun hln => ?_) (fun hln => ⟨⟨_, _, _, _, c, l, rfl, hd, hc0, by omega⟩, hps, KeepG.refl⟩)⟩
      have hpos : (0 : Int) < ((ns.map V.int).length : Int) := by rw [List.length_map]; omega
      obtain ⟨j, hj⟩ : ∃ j : Nat, c % ((ns.map V.int).length : Int) = (j : Int) := ⟨(c % ((ns.map V.int).length : Int)).toNat, (Int.toNat_of_nonneg (Int.emod_nonneg _ (by omega))).symm⟩
      have hjl : j < ns.length := by
        have z := Int.emod_lt_of_pos c hpos
        rw [hj, List.length_map] at z
        omega
      refine ⟨_, rfl, d, .int c, rfl, gpen_b un3 hd, _, rfl, d, .ref p, rfl, gpen_a un3 hd, p, _, rfl, .inl (SqL.of hps), _, _, rfl, ?_⟩
      dsimp only [gName, List.set]
      refine ⟨_, rfl, d, .ref p, rfl, gpen_a un3 hd, _, rfl, .inl ⟨c, rfl, _, rfl, _, _, rfl, rfl, hpos, p, _, _, .int (ns[j]'hjl), rfl, rfl, SqL.of hps, L2.at_of hj (by rw [List.getElem?_map, List.getElem?_eq_getElem hjl]; rfl), ?_⟩⟩
      generalize ns[j]'hjl = x
      refine ⟨_, rfl, _, _, rfl, rfl, by show 2 ≤ sizeLine; decide, fun pt np => ?_⟩
      have s1 := same_new (o := HO.tup [.int x, .int (c + 1)]) np
      have et : upd H pt (HO.tup [.int x, .int (c + 1)]) pt = some (.tup [.int x, .int (c + 1)]) := upd_same
      have hd1 := s1 _ _ hd
      have hp1 := s1 _ _ hps
      have k1 : KeepP d H (upd H pt (HO.tup [.int x, .int (c + 1)])) := KeepG.same s1
      generalize upd H pt (HO.tup [.int x, .int (c + 1)]) = H1 at et hd1 hp1 k1 ⊢
      refine ⟨pt, _, rfl, SqT.of et, rfl, _, _, rfl, _, _, rfl, _, rfl, d, _, rfl, ppen_b un3 hd1, rfl, ?_⟩
      dsimp only [gName, List.set]
      have k2 := k1.trans (KeepG.put (m' := c + 1) (l' := l) hd1)
      have hd2 : upd H1 d (.dK (penK p (c + 1) l)) d = some (.dK (penK p (c + 1) l)) := upd_same
      have hp2 : upd H1 d (.dK (penK p (c + 1) l)) p = some (.lst (ns.map V.int)) := (upd_ne npd).trans hp1
      generalize upd H1 d (.dK (penK p (c + 1) l)) = H2 at k2 hd2 hp2 ⊢
      have hc64 : -(2 ^ 64) < c ∧ c < 2 ^ 64 := ⟨by omega, by omega⟩
      refine ⟨_, rfl, .inl ⟨x, rfl, _, _, rfl, rfl, .inr ⟨by decide, by decide⟩, ?_⟩⟩
      refine ⟨_, rfl, _, c, rfl, rfl, .inl ⟨by decide, by decide⟩, _, rfl, _, c, rfl, rfl, .inr hc64, _, _, rfl, rfl, _, _, rfl, rfl, ?_⟩
      dsimp only [gName, List.set]
      refine ⟨_, rfl, .inl ⟨_, rfl, _, _, rfl, rfl, (show (0 : Int) < 2305843009213693907 by decide), ?_⟩⟩
      dsimp only [gName, List.set]
      generalize hy : (x * 982451653 + 32452843 * c * c + 961748941) % 2305843009213693907 = y
      have y0 : 0 ≤ y := by rw [← hy]; exact Int.emod_nonneg _ (by decide)
      have y1 : y < 2305843009213693907 := by rw [← hy]; exact Int.emod_lt_of_pos _ (by decide)
      have y64 : -(2 ^ 64) < y ∧ y < 2 ^ 64 := ⟨by omega, by omega⟩
      have ybits : y.natAbs < 2 ^ 64 := by
        have : (2 : Nat) ^ 64 = 18446744073709551616 := by decide
        omega
      clear hy
      refine ⟨_, rfl, _, _, rfl, rfl, ⟨by decide, by decide, ybits⟩, _, rfl, _, c, rfl, rfl, .inl ⟨by decide, by decide⟩, _, rfl, _, y, rfl, rfl, .inr y64, _, rfl, _, y, rfl, rfl, .inr y64, _, _, rfl, rfl, .inl ⟨_, rfl, _, _, rfl, rfl, ⟨by decide, by decide, by decide⟩, _, _, rfl, rfl, _, _, rfl, rfl, (show (0 : Int) < 10 ^ Int.toNat 47 + 9 by decide), _, rfl, d, _, rfl, ppen_c un3 hd2, ?_⟩⟩
      generalize (y ^ Int.toNat 11 + 15485863 * c * y * y) % (10 ^ Int.toNat 47 + 9) = l3
      have k3 := k2.trans (KeepG.put (m' := c + 1) (l' := l3) hd2)
      have hd3 : upd H2 d (.dK (penK p (c + 1) l3)) d = some (.dK (penK p (c + 1) l3)) := upd_same
      have hp3 : upd H2 d (.dK (penK p (c + 1) l3)) p = some (.lst (ns.map V.int)) := (upd_ne npd).trans hp2
      generalize upd H2 d (.dK (penK p (c + 1) l3)) = H3 at k3 hd3 hp3 ⊢
      refine ⟨_, rfl, _, _, rfl, rfl, ⟨by decide, by decide, by decide⟩, _, _, rfl, rfl, _, rfl, ite2 (fun _ => ?_) (fun _ => ?_)⟩
      · refine ⟨_, rfl, _, rfl, _, _, rfl, rfl, _, rfl, ite2 (fun _ => ?_) (fun _ => ?_)⟩
        · refine ⟨_, rfl, _, _, rfl, rfl, ⟨by decide, by decide, by decide⟩, _, _, rfl, rfl, _, rfl, d, _, rfl, ppen_c un3 hd3, ?_⟩
          exact ⟨⟨_, _, _, _, _, _, rfl, upd_same, by omega, by omega⟩, (upd_ne npd).trans hp3, k3.trans (KeepG.put hd3)⟩
        · exact ⟨⟨_, _, _, _, _, _, rfl, hd3, by omega, by omega⟩, hp3, k3⟩
      · exact ⟨⟨_, _, _, _, _, _, rfl, hd3, by omega, by omega⟩, hp3, k3⟩
    · rintro σ H2 ⟨⟨y2, y3, y4, y5, c2, l2, rfl, hd2, a1, a2⟩, hp2, k2⟩
      refine ⟨_, rfl, d, .int l2, rfl, gpen_c un3 hd2, .inl ⟨l2, rfl, _, rfl, l2, n, rfl, rfl, h0, ?_⟩⟩
      refine ⟨_, rfl, d, .int l2, rfl, gpen_c un3 hd2, _, rfl, l2, n, rfl, rfl, ⟨h0, nB⟩, by show 2 ≤ sizeLine; decide, fun pt np => ?_⟩
      have s1 := same_new (o := HO.tup [.int (l2 % n), .int (l2 / n)]) np
      have et : upd H2 pt (HO.tup [.int (l2 % n), .int (l2 / n)]) pt = some (.tup [.int (l2 % n), .int (l2 / n)]) := upd_same
      have hd3 := s1 _ _ hd2
      have hp3 := s1 _ _ hp2
      have k3 := k2.trans (KeepG.same s1)
      generalize upd H2 pt (HO.tup [.int (l2 % n), .int (l2 / n)]) = H3 at et hd3 hp3 k3 ⊢
      refine ⟨pt, _, rfl, SqT.of et, rfl, _, _, rfl, _, _, rfl, _, rfl, d, _, rfl, ppen_c un3 hd3, rfl, ?_⟩
      dsimp only [gName, List.set]
      refine ⟨_, rfl, q _ _ (Int.emod_nonneg _ n0) (Int.emod_lt_of_pos _ h0) (k3.trans (KeepG.put hd3)) ⟨p, ns, c2, l2 / n, upd_same, (upd_ne npd).trans hp3, hn0, hns, a1, a2⟩⟩
def spBegin (K : PySem.W.Frag) : Sp := fun vs H Q _ => ∃ (a : Addr) (ns : List Int), vs = [.ref a] ∧ SqL K H a (ns.map V.int) ∧ ns.length ≤ 63 ∧ ∀ (d : Addr) (H' : Hp), H d = none → Same H H' → Pen H' d 0 → Q (.ref d) H'
theorem ok_begin (A : At K mg "_law_begin" sBegin ["_law_script"]) (T : Blt mg) : DefOk P w K mg base CX0 "_law_begin" 1 ["_law_script"] (spBegin K) := by
  refine A.ok fun f fd F => F.ok scBegin (fun vs H Q E h => ?_) (fun cdv A outer s H vs Q E hr h => ?_)
  · obtain ⟨a, ns, rfl, _⟩ := h
    rfl
  · obtain ⟨a, ns, rfl, hS, hl, q⟩ := h
    refine ⟨_, pss_one (ps_ret (pe_disp (pps_cons pe_str (pe_op op_cat (pe_callTy call_list_of (by rfl) T.list (by decide +kernel) (pa_cons (pe_slice sl_list (pv 0) po_none (po_some pe_int)) pa_nil)) (pe_op op_rep (pe_lst (pa_cons pe_int pa_nil)) (pe_callTy call_int1 (by rfl) T.int (by decide +kernel) (pa_cons (pe_cmpR op_eq (pe_callB call_len_seq (by rfl) T.len PySem.boot_len (pa_cons (pv 0) pa_nil)) pe_int (nomark _)) pa_nil)))) (pps_cons pe_str pe_int (pps_cons pe_str pe_int pps_nil))) (by rfl) (by rfl) (fun z => by cases z) (by decide))), ?_⟩
    intro d hd
    have s0 : Same H (upd H d (.dK [])) := same_new hd
    have e0 : upd H d (.dK []) d = some (.dK []) := upd_same
    generalize upd H d (.dK []) = H0 at s0 e0 ⊢
    refine ⟨_, rfl, 63, rfl, a, _, rfl, s0.seq hS, fun c hc => ?_⟩
    rw [cut63 _ (by rw [List.length_map]; exact hl)]
    have s1 := same_new (o := HO.lst (ns.map V.int)) hc
    have e1 : upd H0 c (.lst (ns.map V.int)) c = some (.lst (ns.map V.int)) := upd_same
    generalize upd H0 c (.lst (ns.map V.int)) = H1 at s1 e1 ⊢
    refine ⟨c, _, rfl, .inl (SqL.of e1), fun p hp => ?_⟩
    have s2 := same_new (o := HO.lst (ns.map V.int)) hp
    have e2 : upd H1 p (.lst (ns.map V.int)) p = some (.lst (ns.map V.int)) := upd_same
    generalize upd H1 p (.lst (ns.map V.int)) = H2 at s2 e2 ⊢
    refine ⟨by show 1 ≤ sizeLine; decide, fun z nz => ?_⟩
    have s3 := same_new (o := HO.lst [.int 0]) nz
    have e3 : upd H2 z (HO.lst [.int 0]) z = some (.lst [.int 0]) := upd_same
    generalize upd H2 z (HO.lst [.int 0]) = H3 at s3 e3 ⊢
    have S03 := s0.trans (s1.trans (s2.trans s3))
    refine ⟨_, rfl, a, _, rfl, .inl (S03.seq hS), rfl, .inr ⟨_, rfl, ?_⟩⟩
    obtain ⟨k, ek, kl⟩ : ∃ k : Nat, (if decide (V.int ((ns.map V.int).length : Nat) = V.int 0) = true then (1 : Int) else 0) = (k : Int) ∧ k ≤ 1 ∧ (ns = [] → k = 1) ∧ (ns ≠ [] → k = 0) := by
      by_cases e : ns = []
      · refine ⟨1, ?_, by omega, fun _ => rfl, fun h => absurd e h⟩
        subst e
        rfl
      · refine ⟨0, if_neg fun h => e ?_, by omega, fun h => absurd h e, fun _ => rfl⟩
        have := V.int.inj (of_decide_eq_true h)
        rw [List.length_map] at this
        exact List.length_eq_zero_iff.mp (by omega)
    rw [ek]
    have sz := sizeLine_eq
    refine ⟨z, _, _, rfl, rfl, e3, by omega, by omega, by rw [Int.toNat_natCast]; simp only [List.length_cons, List.length_nil]; omega, fun q2 n2 => ?_⟩
    rw [Int.toNat_natCast, List.flatten_replicate_singleton]
    have s4 := same_new (o := HO.lst (List.replicate k (V.int 0))) n2
    have e4 : upd H3 q2 (HO.lst (List.replicate k (V.int 0))) q2 = some (.lst (List.replicate k (V.int 0))) := upd_same
    have e2' := s4 _ _ (s3 _ _ e2)
    generalize upd H3 q2 (HO.lst (List.replicate k (V.int 0))) = H4 at s4 e4 e2' ⊢
    refine ⟨p, q2, _, _, rfl, rfl, e2', e4, by rw [List.length_map, List.length_replicate]; omega, fun q3 n3 => ?_⟩
    have s5 := same_new (o := HO.lst (ns.map V.int ++ List.replicate k (V.int 0))) n3
    have e5 : upd H4 q3 (HO.lst (ns.map V.int ++ List.replicate k (V.int 0))) q3 = some (.lst (ns.map V.int ++ List.replicate k (V.int 0))) := upd_same
    have ec : ns.map V.int ++ List.replicate k (V.int 0) = (ns ++ List.replicate k 0).map V.int := by rw [List.map_append, List.map_replicate]
    rw [ec] at e5 s5 ⊢
    have dn : q3 ≠ d := by
      intro y
      rw [y] at n3
      have := s4 _ _ ((s1.trans (s2.trans s3)) _ _ e0)
      rw [n3] at this
      cases this
    have edd : upd H4 q3 (HO.lst ((ns ++ List.replicate k 0).map V.int)) d = some (.dK []) := s5 _ _ (s4 _ _ ((s1.trans (s2.trans s3)) _ _ e0))
    have S05 : Same H (upd H4 q3 (HO.lst ((ns ++ List.replicate k 0).map V.int))) := S03.trans (s4.trans s5)
    generalize upd H4 q3 (HO.lst ((ns ++ List.replicate k 0).map V.int)) = H5 at e5 edd S05 ⊢
    refine ⟨edd, [(Sum.inr "cells", .ref q3), (Sum.inr "at", .int 0), (Sum.inr "rest", .int 0)], rfl, by show 3 ≤ 15; decide, ?_⟩
    rw [merge_pen un3]
    refine q d _ hd (fun b o e => ?_) ⟨q3, ns ++ List.replicate k 0, 0, 0, upd_same, (upd_ne dn).trans e5, ?_, ?_, by omega, by omega⟩
    · rw [upd_ne (ne_of_none e hd)]
      exact S05 _ _ e
    · rw [List.length_append, List.length_replicate]
      by_cases y : ns = []
      · rw [kl.2.1 y]
        omega
      · have := List.length_pos_iff.mpr y
        omega
    · rw [List.length_append, List.length_replicate]
      by_cases y : ns = []
      · rw [y, kl.2.1 y]
        decide
      · rw [kl.2.2 y]
        omega
end
end K25

/-! own layer, of no law: OWNP: properties of the program's classes, told by the top. -/
namespace Own
open PySem PySem.Spec PyProof.Rows L2 LamX NdefX
/-- the getter of a property: (class, its name) -/
def pgA (K : PySem.W.Frag) (p : Str × Option Str) : Addr := match PySem.W.findIn K (.ref (He.ga K p.1)) (p.2.getD "") with
  | some (some (.ref q)) => (match PySem.W.recIn K q "property" with
    | some (.ref g :: _) => g
    | _ => 0)
  | _ => 0
def fnWA (K : PySem.W.Frag) (a : Addr) : He.FnW := match K.lookup a with
  | some ⟨_, _, .func fd, _⟩ => some (fd.name, fd.qualname, fd.params, fd.body, fd.scope, fd.globals, fd.closure, fd.builtins)
  | _ => none
def okA (K : PySem.W.Frag) (a : Addr) (q : Str) : Bool := PySem.W.keepIn K (.ref a) && (match K.lookup a with
  | some ⟨_, _, .func fd, _⟩ => PySem.W.codeIn K fd.code q && (He.dflB K fd.defaults [] && He.kwdB K fd.kwdefaults [])
  | _ => false)
def propB (K : PySem.W.Frag) (p : Str × Option Str) (q : Str) : Bool := (match PySem.W.findIn K (.ref (He.ga K p.1)) (p.2.getD "") with
  | some (some (.ref r)) => decide (PySem.W.specialIn K (.ref r) "__get__" = some (some (.builtin "property.__get__"))) && (decide (PySem.W.takesIn K (.ref r) = some true) && (match PySem.W.recIn K r "property" with
    | some (.ref _ :: _) => true
    | _ => false))
  | _ => false) && okA K (pgA K p) q
theorem funD_at {K : PySem.W.Frag} {a : Addr} {d : He.DefD} (e : fnWA K a = d.val) (c : okA K a d.qual = true) : ∃ fd, FunD K d.name d.qual d.params d.body d.scope [] [] a fd := by
  obtain ⟨kp, c2⟩ := He.ba c
  unfold fnWA at e
  cases q : K.lookup a with
  | none =>
    rw [q] at c2
    cases c2
  | some o =>
    obtain ⟨oc, od, dt, osl⟩ := o
    rw [q] at c2 e
    cases dt with
    | func fd =>
      obtain ⟨n1, n2, n3, n4, n5, n6, n7, n8, n9, n10, n11, n12, n13, n14, n15⟩ := fd
      have e2 : (some (n1, n2, n3, n4, n5, n6, n7, n15) : He.FnW) = some (d.name, d.qual, d.params, .stmts d.body, d.scope, mainGlobals, [], builtinsNs) := e
      simp only [Option.some.injEq, Prod.mk.injEq] at e2
      obtain ⟨h1, h2, h3, h4, h5, h6, h7, h8⟩ := e2
      subst h1 h2 h3 h4 h5 h6 h7 h8
      have c3 : (PySem.W.codeIn K n13 d.qual && (He.dflB K n8 [] && He.kwdB K n9 [])) = true := c2
      obtain ⟨k1, k2⟩ := He.ba c3
      obtain ⟨k3, k4⟩ := He.ba k2
      exact ⟨_, ⟨oc, od, n8, n9, n10, n11, n12, n13, n14, osl, rfl, q, k1, He.dflB_ok k3, He.kwdB_ok k4⟩, kp⟩
    | _ => cases c2
theorem prop_ok {K : PySem.W.Frag} {C f : Str} {q : Str} (h : propB K (C, some f) q = true) : (∃ p, PropOf K (He.ga K C) f p (pgA K (C, some f))) ∧ okA K (pgA K (C, some f)) q = true := by
  obtain ⟨h1, h2⟩ := He.ba h
  refine ⟨?_, h2⟩
  have h1 : (match PySem.W.findIn K (.ref (He.ga K C)) f with
    | some (some (.ref r)) => decide (PySem.W.specialIn K (.ref r) "__get__" = some (some (.builtin "property.__get__"))) && (decide (PySem.W.takesIn K (.ref r) = some true) && (match PySem.W.recIn K r "property" with
      | some (.ref _ :: _) => true
      | _ => false))
    | _ => false) = true := h1
  have e : pgA K (C, some f) = (match PySem.W.findIn K (.ref (He.ga K C)) f with
    | some (some (.ref q)) => (match PySem.W.recIn K q "property" with
      | some (.ref g :: _) => g
      | _ => 0)
    | _ => 0) := rfl
  cases a : PySem.W.findIn K (.ref (He.ga K C)) f with
  | none => rw [a] at h1; cases h1
  | some a1 =>
    cases a1 with
    | none => rw [a] at h1; cases h1
    | some v =>
      cases v with
      | ref r =>
        rw [a] at h1 e
        obtain ⟨b1, b2⟩ := He.ba h1
        obtain ⟨b2, b3⟩ := He.ba b2
        have b3 : (match PySem.W.recIn K r "property" with
          | some (.ref _ :: _) => true
          | _ => false) = true := b3
        have e : pgA K (C, some f) = (match PySem.W.recIn K r "property" with
          | some (.ref g :: _) => g
          | _ => 0) := e
        refine ⟨r, a, of_decide_eq_true b1, of_decide_eq_true b2, ?_⟩
        cases c : PySem.W.recIn K r "property" with
        | none => rw [c] at b3; cases b3
        | some l =>
          cases l with
          | nil => rw [c] at b3; cases b3
          | cons x rest =>
            cases x with
            | ref g =>
              rw [c] at e
              have e : pgA K (C, some f) = g := e
              rw [e]
              exact ⟨rest, rfl⟩
            | _ => rw [c] at b3; cases b3
      | _ => rw [a] at h1; cases h1
/-- what is told: the getters' texts besides -/
structure SaysP (ps : List He.DefD) (K : PySem.W.Frag) : Prop where
  g : ps.map (fun d => fnWA K (pgA K d.at_)) = ps.map He.DefD.val
theorem SaysP.at_ {ps : List He.DefD} {K : PySem.W.Frag} (c : SaysP ps K) (i : Nat) {d : He.DefD} (h : ps[i]? = some d) : fnWA K (pgA K d.at_) = d.val := by
  have e : (ps.map fun d => fnWA K (pgA K d.at_))[i]? = (ps.map He.DefD.val)[i]? := by rw [c.g]
  rw [List.getElem?_map, List.getElem?_map, h] at e
  exact Option.some.inj e
abbrev AlP : Type := He.AlX × List He.FnW
def obsP (n : Nat) (fa : List He.Fa) (fn : List He.DefD) (ts : List He.Tab) (tf : List He.Defn) (ex : PySem.W.Frag → Bool) (ps : List He.DefD) (g : Addr → Option Obj) : AlP :=
  (He.obsX n fa fn ts tf ex g, ps.map fun d => fnWA (He.frT g (He.asD g n)) (pgA (He.frT g (He.asD g n)) d.at_))
def valP (fn : List He.DefD) (ts : List He.Tab) (ps : List He.DefD) (w : World) : AlP := (He.valX fn ts w, ps.map He.DefD.val)
def hookP (n : Nat) (fa : List He.Fa) (fn : List He.DefD) (ts : List He.Tab) (tf : List He.Defn) (ex : PySem.W.Frag → Bool) (ps : List He.DefD) : PySem.W.Hook where
  α := AlP
  obs := fun s => obsP n fa fn ts tf ex ps s.heap.get?
  val := fun w => valP fn ts ps w
  says := fun w h => ∃ K : PySem.W.Frag, K.In h ∧ He.SaysX fa fn ts tf ex w h K ∧ SaysP ps K
  of := fun _ _ e => ⟨_, He.frT_in, He.saysX_of (congrArg (fun z : AlP => z.1) e), ⟨congrArg (fun z : AlP => z.2) e⟩⟩
  keeps := fun _ _ _ ⟨K, hK, c, d⟩ k => ⟨K, PySem.W.Frag.In.keeps hK k, ⟨c.t, c.more, c.hd, c.out, fun p hp => k _ _ (c.empty p hp)⟩, d⟩
theorem obsP_eq {n : Nat} {fa : List He.Fa} {fn : List He.DefD} {ts : List He.Tab} {tf : List He.Defn} {ex : PySem.W.Frag → Bool} {ps : List He.DefD} {g : Addr → Option Obj} {s : Shared} (h : ∀ a, g a = s.heap.get? a) : obsP n fa fn ts tf ex ps g = (hookP n fa fn ts tf ex ps).obs s := by
  have e : g = s.heap.get? := funext h
  rw [e] <;> rfl
end Own

set_option maxHeartbeats 0
/-! k25: what the top leaves; the end. -/
namespace K25
open PySem PySem.Spec PyProof.Rows L2 LamX NdefX Own
def nm0 : Str × Option Str := ("_best_order", none)
def nm1 : Str × Option Str := ("_best_brackets", none)
def dfn (x : Str) (i : Nat) : He.DefD := ⟨(x, none), x, x, defArgs (topS i), defBody (topS i), defScope (topS i), [], []⟩
def dMk (x m : Str) (i j : Nat) (pd : List He.Dv) (kd : List (Str × He.Dv)) : He.DefD := ⟨(x, some m), m, x ++ "." ++ m, defArgs (inClass (topS i) j), defBody (inClass (topS i) j), defScope (inClass (topS i) j), pd, kd⟩
def fnL : List He.DefD := [dfn "least_whole" 1, dfn "joined" 2, dfn "least_whole_in_row" 3, dfn "joined_in_row" 4, dfn "_law_begin" 8, dfn "_law_draw" 9, dfn "_law_whole_is" 10, dfn "_law_indexes" 11, dfn "_law_figures_of" 12, dfn "_law_least" 13, dfn "_law_table" 14, dfn "_law_wholes" 15, dfn "_law_order_right" 16, dfn "_best_order" 5, dfn "_best_brackets" 6, dfn "law" 17]
def psL : List He.DefD := []
def gloL : List Str := ["least_whole", "joined", "least_whole_in_row", "joined_in_row", "_law_begin", "_law_draw", "_law_whole_is", "_law_indexes", "_law_figures_of", "_law_least", "_law_table", "_law_wholes", "_law_order_right", "_best_order", "_best_brackets", "law"]
def freeL : List Str := ["isinstance", "int", "bool", "len", "list", "range", "tuple", "all", "divmod", "min", "max", "str", "abs", "dict", "any", "enumerate", "sum", "sorted"]
def moreL : List He.Fa := []
def faL : List He.Fa := gloL.map He.Fa.glo ++ freeL.map He.Fa.free ++ moreL
def tsL : List He.Tab := []
/-- isinstance by the class -/
def wisB (K : PySem.W.Frag) (W : Addr) : Bool := (decide (PySem.W.findIn K (.ref W) "__class__" = some (some (.builtin "object.__class__"))) && (decide (PySem.W.specialIn K (.builtin "object.__class__") "__get__" = some (some (.builtin "getset_descriptor.__get__"))) &&
  (decide (PySem.W.takesIn K (.builtin "object.__class__") = some true) && (decide (PySem.W.mroIn K W (.type "object") = some true) && ((tys.all fun T => decide (PySem.W.kitOne K (.type T) (.ref W) = some false)))))))
def exL (K : PySem.W.Frag) : Bool := decide ((He.cT K nm0).2 ≠ (He.cT K nm1).2)
abbrev rowK : PySem.W.OpenRow := PySem.W.OpenLaw.row PySem.Challenge.rw_figurestay_k25_whole_least_whole_figures
abbrev hkL : PySem.W.Hook := hookP 6 faL fnL tsL [nm0, nm1] exL psL
def obL (s : PySem.W.SharedT) : AlP := obsP 6 faL fnL tsL [nm0, nm1] exL psL (HandSHeadRun.getT s)
theorem obL_eq (s : PySem.W.SharedT) : obL s = hkL.obs s.abs := obsP_eq (HandSHeadRun.getT_eq s)
def looseL : List Str := ["least_whole", "joined", "least_whole_in_row", "joined_in_row", "_law_begin", "_law_draw", "_law_whole_is", "_law_indexes", "_law_figures_of", "_law_least", "_law_table", "_law_wholes", "_law_order_right", "_best_order", "_best_brackets"]
end K25

/-! k25: what the top leaves; the end. -/
namespace K25
open PySem PySem.Spec PyProof.Rows L2 LamX NdefX Own
theorem runF (w : World) : HandSHeadRun.RunEq rowK (PySem.W.view rowK.prog [17]) hkL obL 4000 looseL (w.withFollow "special-get-raises" false) := by
  intro os
  kernel_rfl
theorem runT (w : World) : HandSHeadRun.RunEq rowK (PySem.W.view rowK.prog [17]) hkL obL 4000 looseL (w.withFollow "special-get-raises" true) := by
  intro os
  kernel_rfl
theorem runW (w : World) : HandSHeadRun.RunEq rowK (PySem.W.view rowK.prog [17]) hkL obL 4000 looseL w := PySem.W.byRow2 "special-get-raises" (P := fun w => HandSHeadRun.RunEq rowK (PySem.W.view rowK.prog [17]) hkL obL 4000 looseL w) runF runT w
end K25

set_option maxHeartbeats 1000000
/-! own layer, of no law: OWO9: sums of powers of two, brackets over terms. -/
namespace Own
open PySem
/-- the powers of two of these figures, added -/
def pw (ws : List Nat) : Nat := (ws.map fun w => 2 ^ w).sum
theorem pw_nil : pw [] = 0 := rfl
theorem pw_cons (w : Nat) (ws : List Nat) : pw (w :: ws) = 2 ^ w + pw ws := by simp [pw]
theorem pw_app (ws vs : List Nat) : pw (ws ++ vs) = pw ws + pw vs := by simp [pw]
theorem pw_perm {ws vs : List Nat} (h : List.Perm ws vs) : pw ws = pw vs := (h.map _).sum_nat
theorem two_pos (n : Nat) : 0 < 2 ^ n := Nat.pos_of_ne_zero (by simp)
theorem two_mono {a b : Nat} (h : a ≤ b) : 2 ^ a ≤ 2 ^ b := Nat.pow_le_pow_right (by decide) h
/-- the least figures of a list -/
def Lg (ws : List Nat) (W : Nat) : Prop := ∀ v, pw ws ≤ 2 ^ v ↔ W ≤ v
theorem Lg.one {ws : List Nat} {W V : Nat} (a : Lg ws W) (b : Lg ws V) : W = V := Nat.le_antisymm ((a V).mp ((b V).mpr (Nat.le_refl _))) ((b W).mp ((a W).mpr (Nat.le_refl _)))
theorem Lg.perm {ws vs : List Nat} {W : Nat} (a : Lg ws W) (h : List.Perm ws vs) : Lg vs W := fun v => by rw [← pw_perm h]; exact a v
theorem two_le_iff (a b : Nat) : 2 ^ a ≤ 2 ^ b ↔ a ≤ b := Nat.pow_le_pow_iff_right (by decide)
theorem lg_one (w : Nat) : Lg [w] w := fun v => by
  rw [pw_cons, pw_nil, Nat.add_zero]
  exact two_le_iff w v
/-- the two least ones joined: the same room -/
theorem pw_many {b : Nat} : ∀ {rs : List Nat}, (∀ r ∈ rs, b ≤ r) → ∃ m, pw rs = 2 ^ b * m
  | [], _ => ⟨0, rfl⟩
  | r :: rs, h => by
    obtain ⟨m, e⟩ := pw_many fun x hx => h x (List.mem_cons_of_mem _ hx)
    refine ⟨2 ^ (r - b) + m, ?_⟩
    rw [pw_cons, e, Nat.mul_add, ← Nat.pow_add, Nat.add_sub_cancel' (h r List.mem_cons_self)]
theorem join_two {a b : Nat} {rs : List Nat} (hab : a ≤ b) (hr : ∀ r ∈ rs, b ≤ r) (v : Nat) : pw (a :: b :: rs) ≤ 2 ^ v ↔ pw ((b + 1) :: rs) ≤ 2 ^ v := by
  rw [pw_cons, pw_cons, pw_cons]
  have e2 : 2 ^ (b + 1) = 2 ^ b + 2 ^ b := by rw [Nat.pow_succ]; omega
  have ha := two_mono hab
  constructor
  · intro h
    obtain ⟨m, e⟩ := pw_many hr
    have pa := two_pos a
    have pb := two_pos b
    rw [e] at h ⊢
    have bv : b < v := by
      rcases Nat.lt_or_ge b v with z | z
      · exact z
      · have := two_mono z
        omega
    have ev : 2 ^ v = 2 ^ b * 2 ^ (v - b) := by rw [← Nat.pow_add, Nat.add_sub_cancel' (Nat.le_of_lt bv)]
    rw [ev] at h ⊢
    have lt : 2 ^ b * (1 + m) < 2 ^ b * 2 ^ (v - b) := by rw [Nat.mul_add, Nat.mul_one]; omega
    have lt2 : 1 + m < 2 ^ (v - b) := Nat.lt_of_mul_lt_mul_left lt
    have le : 2 ^ b * (2 + m) ≤ 2 ^ b * 2 ^ (v - b) := Nat.mul_le_mul_left _ (by omega)
    rw [Nat.mul_add] at le
    omega
  · intro h
    omega
theorem lg_join {a b : Nat} {rs : List Nat} {W : Nat} (hab : a ≤ b) (hr : ∀ r ∈ rs, b ≤ r) : Lg (a :: b :: rs) W ↔ Lg ((b + 1) :: rs) W :=
  ⟨fun h v => (join_two hab hr v).symm.trans (h v), fun h v => (join_two hab hr v).trans (h v)⟩
/-! ### ones of a number -/
def pcF : Nat → Nat → Nat
  | 0, _ => 0
  | f + 1, n => n % 2 + pcF f (n / 2)
theorem pc_add : ∀ (f a k : Nat), pcF f (a + 2 ^ k) ≤ pcF f a + 1
  | 0, _, _ => Nat.zero_le _
  | f + 1, a, 0 => by
    show (a + 1) % 2 + pcF f ((a + 1) / 2) ≤ a % 2 + pcF f (a / 2) + 1
    rcases Nat.mod_two_eq_zero_or_one a with z | z
    · rw [show (a + 1) / 2 = a / 2 by omega]
      omega
    · have := pc_add f (a / 2) 0
      rw [Nat.pow_zero] at this
      rw [show (a + 1) / 2 = a / 2 + 1 by omega]
      omega
  | f + 1, a, k + 1 => by
    show (a + 2 ^ (k + 1)) % 2 + pcF f ((a + 2 ^ (k + 1)) / 2) ≤ a % 2 + pcF f (a / 2) + 1
    have := pc_add f (a / 2) k
    rw [Nat.pow_succ, show (a + 2 ^ k * 2) / 2 = a / 2 + 2 ^ k by omega]
    omega
theorem pc_zero : ∀ f, pcF f 0 = 0
  | 0 => rfl
  | f + 1 => by
    show 0 % 2 + pcF f (0 / 2) = 0
    rw [show 0 / 2 = 0 from rfl, pc_zero f]
theorem pc_pw (f : Nat) : ∀ ws : List Nat, pcF f (pw ws) ≤ ws.length
  | [] => by rw [pw_nil, pc_zero]; exact Nat.zero_le _
  | w :: ws => by
    have a := pc_pw f ws
    have b := pc_add f (pw ws) w
    rw [pw_cons, Nat.add_comm, List.length_cons]
    omega
theorem pc_full : ∀ f, pcF f (2 ^ f - 1) = f
  | 0 => rfl
  | f + 1 => by
    have p := two_pos f
    show (2 ^ (f + 1) - 1) % 2 + pcF f ((2 ^ (f + 1) - 1) / 2) = f + 1
    rw [Nat.pow_succ, show (2 ^ f * 2 - 1) / 2 = 2 ^ f - 1 by omega, pc_full f]
    omega
theorem pc_half (f n : Nat) : pcF f (n / 2) ≤ pcF (f + 1) n := by
  show pcF f (n / 2) ≤ n % 2 + pcF f (n / 2)
  omega
theorem pc_32 (f n : Nat) : pcF f (n / 32) ≤ pcF (f + 5) n := by
  have h1 := pc_half (f + 4) n
  have h2 := pc_half (f + 3) (n / 2)
  have h3 := pc_half (f + 2) (n / 2 / 2)
  have h4 := pc_half (f + 1) (n / 2 / 2 / 2)
  have h5 := pc_half f (n / 2 / 2 / 2 / 2)
  rw [show n / 32 = n / 2 / 2 / 2 / 2 / 2 by omega]
  exact Nat.le_trans h5 (Nat.le_trans h4 (Nat.le_trans h3 (Nat.le_trans h2 h1)))
/-- so few powers come not near a great one from below -/
theorem few_ones {ws : List Nat} {m : Nat} (hm : 5 ≤ m) (h1 : pw ws < 2 ^ m) (h2 : 2 ^ m ≤ pw ws + 32) : m ≤ ws.length + 5 := by
  have e : 2 ^ m = 2 ^ (m - 5) * 32 := by
    rw [show (32 : Nat) = 2 ^ 5 from rfl, ← Nat.pow_add, Nat.sub_add_cancel hm]
  have d : pw ws / 32 = 2 ^ (m - 5) - 1 := by omega
  have a := pc_32 (m - 5) (pw ws)
  have b := pc_pw (m - 5 + 5) ws
  rw [d, pc_full] at a
  omega
/-! ### what the law adds up -/
def bigs (base : Nat) (ws : List Nat) : List Nat := (ws.filter fun w => decide (base ≤ w)).map fun w => w - base
def smalls (base : Nat) (ws : List Nat) : List Nat := ws.filter fun w => !decide (base ≤ w)
theorem pw_parts (base : Nat) : ∀ ws : List Nat, pw ws = 2 ^ base * pw (bigs base ws) + pw (smalls base ws)
  | [] => by simp [bigs, smalls, pw]
  | w :: ws => by
    have ih := pw_parts base ws
    unfold bigs smalls at ih ⊢
    rw [pw_cons, List.filter_cons, List.filter_cons]
    by_cases h : base ≤ w
    · rw [if_pos (decide_eq_true h), if_neg (by simp [h]), List.map_cons, pw_cons, Nat.mul_add, ← Nat.pow_add, Nat.add_sub_cancel' h]
      omega
    · rw [if_neg (by simp [h]), if_pos (by simp [h]), pw_cons]
      omega
theorem pw_smalls {base : Nat} : ∀ {ws : List Nat}, (∀ w ∈ ws, w < base) → 2 * pw ws ≤ ws.length * 2 ^ base
  | [], _ => by simp [pw]
  | w :: ws, h => by
    have ih := pw_smalls fun x hx => h x (List.mem_cons_of_mem _ hx)
    have hw := h w List.mem_cons_self
    have e := two_mono (show w + 1 ≤ base from hw)
    rw [Nat.pow_succ] at e
    rw [pw_cons, List.length_cons, Nat.add_mul, Nat.one_mul]
    omega
theorem pw_pos {ws : List Nat} (h : ws ≠ []) : 0 < pw ws := by
  cases ws with
  | nil => exact absurd rfl h
  | cons w ws => rw [pw_cons]; have := two_pos w; omega
theorem pw_mem {ws : List Nat} {w : Nat} (h : w ∈ ws) : 2 ^ w ≤ pw ws := by
  induction ws with
  | nil => cases h
  | cons a ws ih =>
    rw [pw_cons]
    rcases List.mem_cons.mp h with rfl | h
    · omega
    · exact Nat.le_trans (ih h) (Nat.le_add_left _ _)
def lawTot (base : Nat) (ws : List Nat) : Nat := pw (bigs base ws) + (if smalls base ws = [] then 0 else 1)
theorem law_tot {ws : List Nat} {mx : Nat} (hl : ws.length ≤ 60) (hm : mx ∈ ws) (m : Nat) : lawTot (mx - 90) ws ≤ 2 ^ m ↔ pw ws ≤ 2 ^ (mx - 90 + m) := by
  have parts := pw_parts (mx - 90) ws
  have pb := two_pos (mx - 90)
  unfold lawTot
  by_cases h : smalls (mx - 90) ws = []
  · rw [if_pos h, parts, h, pw_nil, Nat.add_zero, Nat.add_zero, Nat.pow_add]
    exact (Nat.mul_le_mul_left_iff pb).symm
  rw [if_neg h]
  have sp := pw_pos h
  have bp : 90 < mx := by
    rcases Nat.lt_or_ge 90 mx with z | z
    · exact z
    · exfalso
      apply h
      rw [Nat.sub_eq_zero_of_le z]
      exact List.filter_eq_nil_iff.mpr fun w _ => by simp
  have big : 2 ^ 90 ≤ pw (bigs (mx - 90) ws) := by
    refine pw_mem (List.mem_map.mpr ⟨mx, List.mem_filter.mpr ⟨hm, decide_eq_true (by omega)⟩, ?_⟩)
    omega
  have few : 2 * pw (smalls (mx - 90) ws) ≤ 60 * 2 ^ (mx - 90) := by
    have a : ∀ w ∈ smalls (mx - 90) ws, w < mx - 90 := fun w hw => by
      have := (List.mem_filter.mp hw).2
      simp only [Bool.not_eq_true', decide_eq_false_iff_not] at this
      omega
    have b := pw_smalls a
    have c : (smalls (mx - 90) ws).length ≤ ws.length := List.length_filter_le _ _
    exact Nat.le_trans b (Nat.mul_le_mul_right _ (by omega))
  have nb : (bigs (mx - 90) ws).length ≤ 60 := by
    unfold bigs
    rw [List.length_map]
    exact Nat.le_trans (List.length_filter_le _ _) hl
  rw [parts, Nat.pow_add]
  constructor
  · intro le
    have m91 : 91 ≤ m := by
      rcases Nat.lt_or_ge m 91 with z | z
      · have := two_mono (show m ≤ 90 by omega)
        omega
      · exact z
    have far : pw (bigs (mx - 90) ws) + 32 ≤ 2 ^ m := by
      rcases Nat.lt_or_ge (2 ^ m) (pw (bigs (mx - 90) ws) + 32) with z | z
      · have := few_ones (ws := bigs (mx - 90) ws) (m := m) (by omega) (by omega) (by omega)
        omega
      · exact z
    have := Nat.mul_le_mul_left (2 ^ (mx - 90)) far
    rw [Nat.mul_add] at this
    omega
  · intro le
    have : 2 ^ (mx - 90) * pw (bigs (mx - 90) ws) < 2 ^ (mx - 90) * 2 ^ m := by omega
    have := Nat.lt_of_mul_lt_mul_left this
    omega
theorem lg_room {ws : List Nat} {mx W : Nat} (hl : ws.length ≤ 60) (hm : mx ∈ ws) (hx : ∀ w ∈ ws, w ≤ mx) (h : Lg ws W) : mx ≤ W ∧ W ≤ mx + 6 := by
  constructor
  · have a := Nat.le_trans (pw_mem hm) ((h W).mpr (Nat.le_refl _))
    exact (two_le_iff _ _).mp a
  · refine (h _).mp ?_
    have a : ∀ {vs : List Nat}, (∀ w ∈ vs, w ≤ mx) → pw vs ≤ vs.length * 2 ^ mx := by
      intro vs
      induction vs with
      | nil => intro _; simp [pw]
      | cons w vs ih =>
        intro hv
        have b := ih fun x hx => hv x (List.mem_cons_of_mem _ hx)
        have c := two_mono (hv w List.mem_cons_self)
        rw [pw_cons, List.length_cons, Nat.add_mul, Nat.one_mul]
        omega
    have b := a hx
    have c : ws.length * 2 ^ mx ≤ 64 * 2 ^ mx := Nat.mul_le_mul_right _ (by omega)
    rw [Nat.pow_add, show (2 : Nat) ^ 6 = 64 from rfl]
    omega
/-! ### brackets -/
inductive Tr where
  | leaf (i : Nat)
  | node (l r : Tr)
def Tr.idx : Tr → List Nat
  | .leaf i => [i]
  | .node l r => l.idx ++ r.idx
def Tr.figs (ws : List Nat) : Tr → Nat
  | .leaf i => ws.getD i 0
  | .node l r => max (l.figs ws) (r.figs ws) + 1
def Tr.deep : Tr → Nat
  | .leaf _ => 0
  | .node l r => max l.deep r.deep + 1
theorem Tr.idx_pos : ∀ T : Tr, 0 < T.idx.length
  | .leaf _ => Nat.one_pos
  | .node l r => by
    have := l.idx_pos
    show 0 < (l.idx ++ r.idx).length
    rw [List.length_append]
    omega
theorem Tr.deep_lt : ∀ T : Tr, T.deep < T.idx.length
  | .leaf _ => Nat.one_pos
  | .node l r => by
    have a := l.deep_lt
    have b := r.deep_lt
    show max l.deep r.deep + 1 < (l.idx ++ r.idx).length
    rw [List.length_append]
    omega
theorem Tr.pw_le (ws : List Nat) : ∀ T : Tr, pw (T.idx.map fun i => ws.getD i 0) ≤ 2 ^ T.figs ws
  | .leaf i => by
    show pw [ws.getD i 0] ≤ 2 ^ ws.getD i 0
    rw [pw_cons, pw_nil]
    exact Nat.le_refl _
  | .node l r => by
    have a := l.pw_le ws
    have b := r.pw_le ws
    have c := two_mono (Nat.le_max_left (l.figs ws) (r.figs ws))
    have d := two_mono (Nat.le_max_right (l.figs ws) (r.figs ws))
    show pw ((l.idx ++ r.idx).map fun i => ws.getD i 0) ≤ 2 ^ (max (l.figs ws) (r.figs ws) + 1)
    rw [List.map_append, pw_app, Nat.pow_succ]
    omega
theorem map_range_getD (ws : List Nat) : (List.range ws.length).map (fun i => ws.getD i 0) = ws := by
  refine List.ext_getElem (by simp) fun i h1 h2 => ?_
  simp [List.getD_eq_getElem?_getD, List.getElem?_eq_getElem h2]
theorem lg_under {ws : List Nat} {W : Nat} (h : Lg ws W) {T : Tr} (p : List.Perm T.idx (List.range ws.length)) : W ≤ T.figs ws := by
  refine (h _).mp ?_
  have a := T.pw_le ws
  rw [pw_perm (p.map fun i => ws.getD i 0), map_range_getD] at a
  exact a
/-- the least figures of brackets over a stretch -/
def Opt (ws : List Nat) (f s v : Nat) : Prop := (∃ T : Tr, T.idx = List.range' f s ∧ T.figs ws = v) ∧ ∀ T : Tr, T.idx = List.range' f s → v ≤ T.figs ws
theorem Opt.one {ws : List Nat} {f s v u : Nat} (a : Opt ws f s v) (b : Opt ws f s u) : v = u := by
  obtain ⟨⟨T, t1, t2⟩, t3⟩ := a
  obtain ⟨⟨S, s1, s2⟩, s3⟩ := b
  exact Nat.le_antisymm (by rw [← s2]; exact t3 S s1) (by rw [← t2]; exact s3 T t1)
theorem opt_leaf (ws : List Nat) (f : Nat) : Opt ws f 1 (ws.getD f 0) := by
  refine ⟨⟨.leaf f, rfl, rfl⟩, fun T h => ?_⟩
  cases T with
  | leaf i =>
    have : [i] = [f] := h
    rw [List.singleton_inj.mp this]
    exact Nat.le_refl _
  | node l r =>
    have a := congrArg List.length h
    have b := l.idx_pos
    have c := r.idx_pos
    rw [show (Tr.node l r).idx = l.idx ++ r.idx from rfl, List.length_append, List.length_range'] at a
    omega
theorem opt_node {ws : List Nat} {f s v : Nat} {a b : Nat → Nat} (hs : 2 ≤ s) (h : ∀ k, 1 ≤ k → k < s → Opt ws f k (a k) ∧ Opt ws (f + k) (s - k) (b k)) (h1 : ∃ k, 1 ≤ k ∧ k < s ∧ v = max (a k) (b k) + 1) (h2 : ∀ k, 1 ≤ k → k < s → v ≤ max (a k) (b k) + 1) : Opt ws f s v := by
  constructor
  · obtain ⟨k, k1, k2, rfl⟩ := h1
    obtain ⟨⟨⟨T, t1, t2⟩, _⟩, ⟨S, s1, s2⟩, _⟩ := h k k1 k2
    refine ⟨.node T S, ?_, ?_⟩
    · show T.idx ++ S.idx = _
      rw [t1, s1]
      have := List.range'_append_1 (s := f) (m := k) (n := s - k)
      rwa [Nat.add_sub_cancel' (Nat.le_of_lt k2)] at this
    · show max (T.figs ws) (S.figs ws) + 1 = _
      rw [t2, s2]
  · intro T hT
    cases T with
    | leaf i =>
      have a := congrArg List.length hT
      rw [List.length_range'] at a
      have : 1 = s := a
      omega
    | node l r =>
      have e : l.idx ++ r.idx = List.range' f s := hT
      have le := congrArg List.length e
      rw [List.length_append, List.length_range'] at le
      have lp := l.idx_pos
      have rp := r.idx_pos
      have el : List.range' f s = List.range' f l.idx.length ++ List.range' (f + l.idx.length) (s - l.idx.length) := by
        have := List.range'_append_1 (s := f) (m := l.idx.length) (n := s - l.idx.length)
        rw [Nat.add_sub_cancel' (by omega)] at this
        exact this.symm
      rw [el] at e
      obtain ⟨e1, e2⟩ := List.append_inj e (by rw [List.length_range'])
      obtain ⟨o1, o2⟩ := h l.idx.length lp (by omega)
      have a1 := o1.2 l e1
      have a2 := o2.2 r e2
      have a3 := h2 l.idx.length lp (by omega)
      show v ≤ max (l.figs ws) (r.figs ws) + 1
      omega
def Tr.mir (n : Nat) : Tr → Tr
  | .leaf i => .leaf (n - 1 - i)
  | .node l r => .node (r.mir n) (l.mir n)
theorem Tr.mir_idx (n : Nat) : ∀ T : Tr, (T.mir n).idx = (T.idx.map fun i => n - 1 - i).reverse
  | .leaf i => rfl
  | .node l r => by
    show (r.mir n).idx ++ (l.mir n).idx = ((l.idx ++ r.idx).map fun i => n - 1 - i).reverse
    rw [r.mir_idx, l.mir_idx, List.map_append, List.reverse_append]
theorem Tr.mir_figs (ws : List Nat) : ∀ T : Tr, (∀ i ∈ T.idx, i < ws.length) → (T.mir ws.length).figs ws.reverse = T.figs ws
  | .leaf i, h => by
    have hi := h i (List.mem_singleton.mpr rfl)
    show ws.reverse.getD (ws.length - 1 - i) 0 = ws.getD i 0
    rw [List.getD_eq_getElem?_getD, List.getD_eq_getElem?_getD, List.getElem?_reverse (by omega)]
    congr 2
    omega
  | .node l r, h => by
    show max ((r.mir ws.length).figs ws.reverse) ((l.mir ws.length).figs ws.reverse) + 1 = max (l.figs ws) (r.figs ws) + 1
    rw [r.mir_figs ws fun i hi => h i (List.mem_append_right _ hi), l.mir_figs ws fun i hi => h i (List.mem_append_left _ hi), Nat.max_comm]
theorem range_mir (n : Nat) : ((List.range n).map fun i => n - 1 - i).reverse = List.range n := by
  refine List.ext_getElem (by simp) fun i h1 h2 => ?_
  simp at h1 h2 ⊢
  omega
theorem opt_rev {ws : List Nat} {v u : Nat} (a : Opt ws 0 ws.length v) (b : Opt ws.reverse 0 ws.length u) : v = u := by
  have key : ∀ {vs : List Nat} {x y : Nat}, Opt vs 0 vs.length x → Opt vs.reverse 0 vs.length y → y ≤ x := by
    intro vs x y a b
    obtain ⟨⟨T, t1, t2⟩, _⟩ := a
    have r0 : List.range' 0 vs.length = List.range vs.length := List.range_eq_range'.symm
    have lt : ∀ i ∈ T.idx, i < vs.length := fun i hi => by
      rw [t1, r0] at hi
      exact List.mem_range.mp hi
    rw [← t2, ← T.mir_figs vs lt]
    refine b.2 _ ?_
    rw [T.mir_idx, t1, r0, range_mir]
  refine Nat.le_antisymm ?_ (key a b)
  have a' : Opt ws.reverse.reverse 0 ws.reverse.length v := by rw [List.reverse_reverse, List.length_reverse]; exact a
  have b' : Opt ws.reverse 0 ws.reverse.length u := by rw [List.length_reverse]; exact b
  exact key b' a'
end Own

set_option maxHeartbeats 4000000
/-! k25: the law: an integer is due; whole figures. -/
namespace K25
open PySem PySem.Spec PyProof.Rows L2 LamX NdefX Own
abbrev sWi : Stmt := topS 10
abbrev sWs : Stmt := topS 15
/-- whole figures as values -/
abbrev nV (w : Nat) : V := .int (w : Nat)
section
variable {P : Program} {w : World} {K : PySem.W.Frag} {mg : Str → Option Value} {base : Heap}
theorem scWi : FnScope ["_law_value", "_law_due"] ["_law_value", "_law_due"] (defScope sWi) := ⟨rfl, rfl, rfl, by decide +kernel, rfl, by decide +kernel, by decide +kernel⟩
def spWi : Sp := fun vs H Q _ => ∃ a b : Int, vs = [.int a, .int b] ∧ Q (.bl (decide (a = b))) H
theorem ok_wi (A : At K mg "_law_whole_is" sWi ["_law_value", "_law_due"]) (B : Blt mg) : DefOk P w K mg base CX0 "_law_whole_is" 1 ["_law_value", "_law_due"] spWi := by
  refine A.ok fun f fd F => F.ok scWi (fun vs H Q E h => ?_) (fun cdv A outer s0 H vs Q E hr h => ?_)
  · obtain ⟨a, b, rfl, _⟩ := h
    rfl
  · obtain ⟨a, b, rfl, q⟩ := h
    have nd := scWi.nd
    refine ⟨_, pss_one (ps_ret (pe_and (pe_callB call_isi (by rfl) B.isi (by decide +kernel) (pa_cons (pv 0) (pa_cons (pe_bltn (v := .ty "int") (by rfl) B.int (by decide +kernel) rfl) pa_nil))) (pe_and (pe_not (pe_callB call_isi (by rfl) B.isi (by decide +kernel) (pa_cons (pv 0) (pa_cons (pe_bltn (v := .ty "bool") (by rfl) B.bool (by decide +kernel) rfl) pa_nil)))) (pe_one (pe_cmpR op_eq (pv 0) (pv 1) (nomark _)))))), ?_⟩
    refine ⟨_, rfl, _, _, _, _, true, rfl, .ty _, .base (.int _), kit_ty (show kitB "int" "int" = some true by decide +kernel), _, rfl, iteT ?_⟩
    refine ⟨_, rfl, _, _, _, _, false, rfl, .ty _, .base (.int _), kit_ty (show kitB "int" "bool" = some false by decide +kernel), _, rfl, _, rfl, iteT ?_⟩
    refine ⟨_, rfl, _, rfl, rfl, ?_⟩
    rw [show decide (V.int a = V.int b) = decide (a = b) by
      by_cases z : a = b
      · subst z; simp
      · rw [decide_eq_false z, decide_eq_false fun y => z (V.int.inj y)]]
    exact q
theorem scWs : FnScope ["_law_tape", "_law_many", "_law_sort", "_law_found", "_law_base", "_law_step", "_law_k", "_law_whole"] ["_law_tape", "_law_many"] (defScope sWs) := ⟨rfl, rfl, rfl, by decide +kernel, rfl, by decide +kernel, by decide +kernel⟩
def spWs : Sp := fun vs H Q _ => ∃ (d : Addr) (n : Nat) (B : Int), vs = [.ref d, .int (n : Nat)] ∧ n ≤ 60 ∧ Pen H d B ∧ B ≤ 100000 ∧ ∀ (r : Addr) (ws : List Nat) (H' : Hp), ws.length = n → (∀ w ∈ ws, w ≤ 1000000) → H' r = some (.lst (ws.map nV)) → KeepP d H H' → Pen H' d (B + 1000) → Q (.ref r) H'
theorem ok_ws (A : At K mg "_law_wholes" sWs ["_law_tape", "_law_many"]) (B : Blt mg) (D1 : DefOk P w K mg base CX0 "_law_draw" 1 ["_law_tape", "_law_limit"] spDraw) : DefOk P w K mg base CX0 "_law_wholes" 2 ["_law_tape", "_law_many"] spWs := by
  refine A.ok fun f fd F => F.ok scWs (fun vs H Q E h => ?_) (fun cdv A outer s0 H vs Q E hr h => ?_)
  · obtain ⟨d, n, B, rfl, _⟩ := h
    rfl
  · obtain ⟨d, n, B0, rfl, hn, hp, hB, q⟩ := h
    have nd := scWs.nd
    refine ⟨_, pss_cons (ps_par (i := 2) (j := 3) (by rfl) nd rfl rfl (by decide) rfl rfl (pa_cons (pe_def D1 hr (by decide) (by rfl) pass0 (pa_cons (pv 0) (pa_cons pe_int pa_nil))) (pa_cons (pe_lst pa_nil) pa_nil)) (by rfl))
      (pss_cons (ps_par (i := 4) (j := 5) (by rfl) nd rfl rfl (by decide) rfl rfl (pa_cons (pe_def D1 hr (by decide) (by rfl) pass0 (pa_cons (pv 0) (pa_cons (pe_op op_pow pe_int pe_int) pa_nil))) (pa_cons (pe_def D1 hr (by decide) (by rfl) pass0 (pa_cons (pv 0) (pa_cons pe_int pa_nil))) pa_nil)) (by rfl))
      (pss_cons (ps_for PassesOwn.never rfl (pi_range1 (by rfl) B.range (pa_cons (pv 1) pa_nil)) (pg_name (i := 6) nd rfl (.inl rfl)) (pss_cons (ps_set (i := 7) nd rfl (.inl rfl) (pe_ix ix_list (pe_lst (pa_cons (pe_def D1 hr (by decide) (by rfl) pass0 (pa_cons (pv 0) (pa_cons pe_int pa_nil))) (pa_cons (pe_op op_add (pv 4) (pe_def D1 hr (by decide) (by rfl) pass0 (pa_cons (pv 0) (pa_cons pe_int pa_nil)))) (pa_cons (pe_op op_mul (pv 6) (pv 5)) (pa_cons (pe_op op_mul (pe_def D1 hr (by decide) (by rfl) pass0 (pa_cons (pv 0) (pa_cons pe_int pa_nil))) pe_int) (pa_cons (pe_def D1 hr (by decide) (by rfl) pass0 (pa_cons (pv 0) (pa_cons (pe_op op_add (pe_op op_pow pe_int pe_int) pe_int) pa_nil))) pa_nil)))))) (pv 2) (fun _ _ => rfl))) (pss_one (ps_expr (pe_bm PySem.F.plainAttrs_list PySem.F.slot_list_append PySem.F.type_list_append mt_append (pv 3) (pa_cons (pe_callB (call_min2 rfl) (by rfl) B.min (by decide +kernel) (pa_cons (pe_op op_pow pe_int pe_int) (pa_cons (pv 7) pa_nil))) pa_nil))))))
      (pss_one (ps_ret (pe_ifExp (pt_truth (pe_def D1 hr (by decide) (by rfl) pass0 (pa_cons (pv 0) (pa_cons pe_int pa_nil))) (fun _ => rfl)) (pe_revL (pv 3)) (pv 3)))))), ?_⟩
    refine ⟨_, rfl, d, 5, _, rfl, hp, by omega, by decide, by decide, fun sz H1 z0 z1 k1 p1 => ⟨by show 0 ≤ sizeLine; decide, fun lr nlr => ?_⟩⟩
    have s1 := same_new (o := HO.lst []) nlr
    have e1 : upd H1 lr (HO.lst []) lr = some (.lst []) := upd_same
    have p2 := p1.same s1
    have k2 : KeepP d H1 (upd H1 lr (HO.lst [])) := KeepG.new nlr
    have off2 : OffG "cells" "at" "rest" (upd H1 lr (HO.lst [])) d lr := (OffG.of p1.g nlr).at_ (by obtain ⟨pp, ns, cc, ll, ed, _⟩ := p1.ex; exact ne_of_none ed nlr)
    generalize upd H1 lr (HO.lst []) = H2 at s1 e1 p2 k2 off2 ⊢
    refine ⟨_, _, rfl, ?_⟩
    dsimp only [gName, List.set]
    refine ⟨_, rfl, _, _, rfl, rfl, ⟨by decide, by decide, by decide⟩, d, 10 ^ 6, _, rfl, p2, by omega, by decide, by decide, fun base H3 b0 b1 k3 p3 => ?_⟩
    refine ⟨_, rfl, d, 3, _, rfl, p3, by omega, by decide, by decide, fun step H4 t0 t1 k4 p4 => ⟨_, _, rfl, ?_⟩⟩
    have K4 := (k2.trans k3).trans k4
    have off4 := (off2.keep p2.g k3).keep p3.g k4
    have e4 := k4.lst p3.g (k3.lst p2.g e1)
    clear s1 e1 p2 k2 off2 k3 p3 k4
    dsimp only [gName, List.set]
    refine ⟨_, rfl, _, rfl, by omega, by omega, for_range (lo := 0) (n := n) (fun i σ H' => ∃ (y6 y7 : Option V) (ws : List Nat), σ = [some (.ref d), some (.int (n : Nat)), some (.int sz), some (.ref lr), some (.int base), some (.int step), y6, y7] ∧ ws.length = i ∧ (∀ w ∈ ws, w ≤ 1000000) ∧ H' lr = some (.lst (ws.map nV)) ∧ KeepP d H1 H' ∧ OffG "cells" "at" "rest" H' d lr ∧ Pen H' d (B0 + 3 + 4 * i))
      ⟨_, _, [], rfl, rfl, (fun w h => by cases h), e4, K4, off4, p4.mono (by omega)⟩ ?_ ?_⟩
    · rintro i σ G hi ⟨y6, y7, ws, rfl, wl, wb, hl, K, off, p⟩
      dsimp only [gName, List.set]
      refine ⟨_, rfl, d, 4, _, rfl, p, by omega, by decide, by decide, fun a G1 a0 a1 k1 p1 => ?_⟩
      refine ⟨_, rfl, _, rfl, d, 3, _, rfl, p1, by omega, by decide, by decide, fun b G2 b2 b3 k2 p2 => ⟨_, _, rfl, rfl, ?_⟩⟩
      refine ⟨_, rfl, _, rfl, _, _, rfl, rfl, .inr ⟨by omega, by omega⟩, ?_⟩
      refine ⟨_, rfl, d, 12, _, rfl, p2, by omega, by decide, by decide, fun c G3 c0 c1 k3 p3 => ⟨_, _, rfl, rfl, .inr ⟨by decide, by decide⟩, ?_⟩⟩
      refine ⟨_, rfl, _, _, rfl, rfl, ⟨by decide, by decide, by decide⟩, _, _, rfl, rfl, d, 10 ^ 6 + 1, _, rfl, p3, by omega, by decide, by decide, fun e G4 h0 h1 k4 p4 => ?_⟩
      have kk := ((k1.trans k2).trans k3).trans k4
      have K4 := K.trans kk
      have off4 := off.keep p.g kk
      have hl4 := kk.lst p.g hl
      clear k1 k2 k3 k4 kk K off hl p1 p2 p3
      have kst : 0 ≤ (0 + ((i : Nat) : Int)) * step := Int.mul_nonneg (by omega) t0
      refine ⟨by show 5 ≤ sizeLine; decide, fun g ng => ?_⟩
      dsimp only [gName, List.set] at ng ⊢
      generalize (0 + ((i : Nat) : Int)) * step = ks at kst ⊢
      have sg := same_new (o := HO.lst [.int a, .int (base + b), .int ks, .int (c * 60), .int e]) ng
      have eg : upd G4 g (HO.lst [.int a, .int (base + b), .int ks, .int (c * 60), .int e]) g = some (.lst [.int a, .int (base + b), .int ks, .int (c * 60), .int e]) := upd_same
      have p5 := p4.same sg
      have K5 := K4.trans (KeepG.same sg)
      have off5 := off4.keep p4.g (KeepG.same sg)
      have hl5 := sg _ _ hl4
      generalize upd G4 g (HO.lst [.int a, .int (base + b), .int ks, .int (c * 60), .int e]) = G5 at eg p5 K5 off5 hl5 ⊢
      clear sg K4 off4 hl4 p4
      obtain ⟨u, hu, hw⟩ : ∃ (u : Nat), u = sz.toNat ∧ ∃ w : Nat, [V.int a, .int (base + b), .int ks, .int (c * 60), .int e][u]? = some (.int (w : Nat)) := by
        refine ⟨_, rfl, ?_⟩
        rcases (show sz = 0 ∨ sz = 1 ∨ sz = 2 ∨ sz = 3 ∨ sz = 4 by omega) with z | z | z | z | z <;> subst z
        · exact ⟨a.toNat, by rw [Int.toNat_of_nonneg a0]; rfl⟩
        · exact ⟨(base + b).toNat, by rw [Int.toNat_of_nonneg (by omega)]; rfl⟩
        · exact ⟨ks.toNat, by rw [Int.toNat_of_nonneg kst]; rfl⟩
        · exact ⟨(c * 60).toNat, by rw [Int.toNat_of_nonneg (by omega)]; rfl⟩
        · exact ⟨e.toNat, by rw [Int.toNat_of_nonneg h0]; rfl⟩
      obtain ⟨w0, hw⟩ := hw
      refine ⟨_, rfl, g, _, sz, _, rfl, rfl, SqL.of eg, L2.at_of (by rw [hu, Int.toNat_of_nonneg z0]) hw, ?_⟩
      dsimp only [gName, List.set]
      refine ⟨_, rfl, .inl ⟨rfl, _, SqL.of hl5⟩, _, _, rfl, rfl, ⟨by decide, by decide, by decide⟩, _, rfl, _, _, rfl, ?_⟩
      have sz9 := sizeLine_eq
      have em : (if ((w0 : Nat) : Int) < 10 ^ Int.toNat 6 then ((w0 : Nat) : Int) else 10 ^ Int.toNat 6) = ((min 1000000 w0 : Nat) : Int) := by
        have : (10 : Int) ^ Int.toNat 6 = 1000000 := by decide
        rw [this]
        split <;> omega
      rw [em]
      refine ⟨lr, ws.map nV, nV (min 1000000 w0), rfl, rfl, hl5, by rw [List.length_map]; omega, ?_⟩
      have dl := (p5.ne_lst hl5).symm
      refine ⟨_, _, ws ++ [min 1000000 w0], rfl, by rw [List.length_append, wl]; rfl, fun x hx => ?_, by rw [List.map_append]; exact upd_same, K5.over nlr, off5.at_ dl, ?_⟩
      · rcases List.mem_append.mp hx with z | z
        · exact wb x z
        · rw [List.mem_singleton.mp z]
          exact Nat.min_le_left _ _
      · obtain ⟨pp, ns, m0, l0, z1, z2, z3, z4, z5, z6⟩ := p5.ex
        have ne : pp ≠ lr := off5 _ _ _ z1
        exact ⟨pp, ns, m0, l0, (upd_ne dl).trans z1, (upd_ne ne).trans z2, z3, z4, z5, by omega⟩
    · rintro σ G ⟨y6, y7, ws, rfl, wl, wb, hl, K, off, p⟩
      refine ⟨_, rfl, d, 2, _, rfl, p, by omega, by decide, by decide, fun x G1 x0 x1 k5 p5 => ⟨_, rfl, ite2 (fun _ => ?_) (fun _ => ?_)⟩⟩
      · have hl1 := k5.lst p.g hl
        refine ⟨_, rfl, lr, _, rfl, SqL.of hl1, fun r nr => ?_⟩
        have s9 := same_new (o := HO.lst (ws.map nV).reverse) nr
        refine q r ws.reverse _ (by rw [List.length_reverse, wl]) (fun w hw => wb w (List.mem_reverse.mp hw)) (by rw [List.map_reverse]; exact upd_same) (((k1.trans K).trans k5).trans (KeepG.same s9)) ((p5.same s9).mono (by omega))
      · exact ⟨_, rfl, q lr ws _ wl wb (k5.lst p.g hl) ((k1.trans K).trans k5) (p5.mono (by omega))⟩
end
end K25

/-! own layer, of no law: OWO8: a dict comprehension whose keys are tuples. -/
namespace Own
open PySem PySem.Spec PyProof.Rows L2 LamX NdefX
theorem d_setT {X : Cx} {pins : List (Addr × Obj)} {σ : L2.St} {H : Hp} {s : Shared} {E : Value → Shared → Prop} {D p : Addr} {kvs : List (List Key × V)} {k : List Key} {v : V} {u r : Value} {Q : Unit → Shared → Prop} (I : Inv X pins σ H s) (hu : X.A.units + 1 < cLine) (hD : H D = some (.dT kvs)) (hp : H p = some (.tup (k.map kV))) (hz : kvs.length < sizeLine)
    (ry : RelV (.ref p) u) (rv : RelV v r) (go : ∀ s', Inv X pins σ (upd H D (.dT (putK kvs k v))) s' → Q () s') : wpAny (model X.prog X.w) X.A (dictSet D u r) Q E s := by
  obtain rfl : u = Value.ref p := ry
  obtain ⟨len, hm, xs, kt, dd⟩ := dt_of I.hok hD
  have lx : xs.length ≤ sizeLine := by
    rw [← Paired.length kt]
    exact len
  have lp : (putK kvs k v).length ≤ sizeLine := by
    have := length_putK kvs k v
    omega
  refine wpAny_dictSet_heap (hsz := lx) (show X.A.units < cLine by omega) (key_of I.hok hp) dd fun h' dd2 sb => go _ ?_
  obtain ⟨q, es, ep, z1, z2, z3, z4, _, z5⟩ := dd2
  refine d_write I (by rw [hD]; trivial) sb ⟨q, z1⟩ ⟨lp, hm, _, KT.keeps (kt.put k hp rv) (fun c ys ec => ?_), q, es, ep, z1, z2, z3, z4, z5⟩
  have ne : c ≠ D := ne_of ec hD (by intro z; cases z)
  rw [upd_ne ne]
  exact ec
section
variable {X : Cx}
/-- {..: .. for target in iter}: keys that are tuples of ints and texts -/
def tDcT (wi : TI) (g : TG) (tk tv : TE) (vs : List Nat) : TE := fun σ H Q => wi σ H fun J H1 => ∀ D, H1 D = none → ∃ W : Nat → Nat → Hp → Prop, (∃ m, W 0 m (upd H1 D (.dT []))) ∧ ∀ i m H, W i m H →
  (J.stop i H ∧ Q (.ref D) H) ∨ (J.go i H ∧ ∃ Nx : Hp → Prop, (∀ H', Nx H' → ∃ m', m' < m ∧ W (i + 1) m' H') ∧ ∀ x H', J.yld i H x H' → g x (wipe σ vs) H' fun σ2 H2 => wipe σ2 vs = wipe σ vs ∧ tYes σ2 H2 fun b H3 =>
    if b = true then tk σ2 H3 fun y H4 => tv σ2 H4 fun z H5 => ∃ kvs k p, y = .ref p ∧ H5 D = some (.dT kvs) ∧ H5 p = some (.tup (k.map kV)) ∧ kvs.length < sizeLine ∧ Nx (upd H5 D (.dT (putK kvs k z))) else Nx H3)
theorem pe_dcT {kx vx tg iter : Expr} {scope : Scope} {own : List (Str × Nat)} {pos : Pos} {wi : TI} {g : TG} {tk tv : TE} (hc : X.calm = true) (hu : X.A.units + 1 < cLine) (hN : X.N.Nodup) (hi : PI X tg iter wi) (ok : BlkOk X.N X.env.scope scope own)
    (hg : ∀ (s : Shared) (H : Hp) (C : Addr) (cl : List (Str × Addr)) (fp : List Addr), PG (X.blk s H scope (compEnvC scope cl C X.env) fp) tg g)
    (hk : ∀ (s : Shared) (H : Hp) (C : Addr) (cl : List (Str × Addr)) (fp : List Addr), PE (X.blk s H scope (compEnvC scope cl C X.env) fp) kx tk)
    (he : ∀ (s : Shared) (H : Hp) (C : Addr) (cl : List (Str × Addr)) (fp : List Addr), PE (X.blk s H scope (compEnvC scope cl C X.env) fp) vx tv)
    (hs : ∀ x, foldedSetIterable iter X.env x = pure x := by intro _; rfl) : PE X (.DictComp kx vx [⟨tg, iter, [], 0⟩] scope pos) (tDcT wi g tk tv (own.map (·.2))) := by
  constructor
  intro pins s σ H Q I h
  have cap : ∀ y ∈ scope.names, y.2 = .free → ∃ c, X.env.cells.lookup y.1 = some c := fun y hy e => (ok.free y hy e).elim (fun z => I.ok.has _ (.inl z)) (fun z => I.ok.has _ (.inr z))
  rw [arm_eval_DictComp]
  refine wpAny_comprehension_free (use := none) rfl hs (closure_ok cap) ok.kind (fun y hy e => (ok.uniq y hy).trans (congrArg some e)) ?_
  refine thn (hi.run pins s σ H _ I h) fun itr sA hA => thn hA fun _ sB hB => ?_
  obtain ⟨it, fp, tn, J, HB, rfl, IB, T, tB, fB, q⟩ := hB
  have nD : HB sB.heap.objs.size = none := IB.hok.fresh (Nat.le_refl _)
  obtain ⟨W, ⟨m0, w0⟩, turn⟩ := q _ nD
  refine wpAny_newObj_type (newEnv_comp ?_) 
  have inSz : ∀ b ∈ fp, b < sB.heap.objs.size := fun b hb => (T.obj _ _ tB b hb).elim fun _ z => Heap.lt_size z.1
  -- the new list stands
  generalize hsC : ({ sB with heap := sB.heap.push { cls := .type "dict", data := .dict #[] } } : Shared) = sC
  have heapC : sC.heap = sB.heap.push { cls := .type "dict", data := .dict #[] } := by subst hsC; rfl
  have toC : ∀ b o, sB.heap.get? b = some o → sC.heap.get? b = some o := fun b o z => by rw [heapC]; exact Heap.get?_push_of_some _ z
  generalize hD : sB.heap.objs.size = D at nD w0 turn inSz
  have IC : Inv X pins σ (upd HB D (.dT [])) sC := by
    have z := IB.laid (a := D) (o := .dT []) (t' := sB.toks) (h' := sC.heap) toC (Nat.le_of_eq hD) (by rw [heapC, ← hD]; exact dt_empty sB.heap IB.big)
    subst hsC
    exact z
  generalize hHC : upd HB D (.dT []) = HC at IC w0
  have fC : ∀ b ∈ fp, FpOk X pins HC b ∧ b < sC.heap.objs.size := fun b hb => by
    have lt := inSz b hb
    refine ⟨⟨?_, (fB b hb).2⟩, ?_⟩
    · rw [← hHC, upd_ne (Nat.ne_of_lt lt)]
      exact (fB b hb).1
    · rw [heapC, Heap.size_push, hD]
      exact Nat.lt_succ_of_lt lt
  have tC : tn 0 sC.heap := T.keep _ _ _ tB fun b _ o z => toC b o z
  have blk := block_start IC ok hN fC
  generalize hcl : cellsFrom (sC.heap.objs.size + 1) scope.names (cloFrom X.env.cells scope.names []) = cells at blk ⊢
  have hgB := hg sC HC sC.heap.objs.size cells fp
  have hkB := hk sC HC sC.heap.objs.size cells fp
  have heB := he sC HC sC.heap.objs.size cells fp
  have htB : PTs (X.blk sC HC scope (compEnvC scope cells sC.heap.objs.size X.env) fp) [] tYes := pts_nil
  show codeAny _ _ (.compStart (.DictComp kx vx [⟨tg, iter, [], 0⟩] scope pos) 0 (.ref it) (.ref D) (compEnvC scope cells sC.heap.objs.size X.env)) (compPost (model X.prog X.w) X.A X.xe none (EP X pins σ Q) (.ref D) sC.heap.objs.size) { sC with heap := pushCells (sC.heap.push { cls := .type "dict", data := .dict #[] }) scope.names }
  generalize hce : compEnvC scope cells sC.heap.objs.size X.env = ce at blk hgB hkB heB htB ⊢
  have ceL : ce.locals = sC.heap.objs.size := by rw [← hce]; rfl
  generalize hsE : ({ sC with heap := pushCells (sC.heap.push { cls := .type "dict", data := .dict #[] }) scope.names } : Shared) = sE at blk ⊢
  have tE : tn 0 sE.heap := T.keep _ _ _ tC fun b _ o z => by rw [← hsE]; exact pushCells_keeps _ _ _ _ (Heap.get?_push_of_some _ z)
  -- the iterator's objects as the block sees them
  have seen : ∀ {σ' : L2.St} {H' : Hp} {s' : Shared}, Inv (X.blk sC HC scope ce fp) [] σ' H' s' → (∀ b ∈ fp, H' b = none) → ∀ b ∈ fp, FpOk (X.blk sC HC scope ce fp) [] H' b := fun {σ' H' s'} J' n b hb => by
    have z1 := J'.ok.exf b hb
    exact ⟨n b hb, z1.1, J'.ok.exfs b hb, .inl hb, z1.2, fun p hp => absurd (show p ∈ ([] : List (Addr × Obj)) ++ [] from hp) (by simp)⟩
  have whole : codeAny (model X.prog X.w) X.A (.compLoop (.DictComp kx vx [⟨tg, iter, [], 0⟩] scope pos) 0 (.ref it) (.ref D) ce) (compPost (model X.prog X.w) X.A X.xe none (EP X pins σ Q) (.ref D) sC.heap.objs.size) sE := by
    refine compLoop_anyD (fun n s' => ∃ (i : Nat) (H' : Hp), W i n H' ∧ (∀ b ∈ fp, H' b = none) ∧ tn i s'.heap ∧ Inv (X.blk sC HC scope ce fp) [] (wipe σ (own.map (·.2))) H' s') ?_ m0 ⟨0, HC, w0, fun b hb => (fC b hb).1.1, tE, blk⟩
    rintro n sF ⟨i, HF, wF, nF, tF, IF⟩
    rcases turn i n HF wF with ⟨hstop, hq⟩ | ⟨hgo, Nx, hNx, step⟩
    · have fin := T.done (X.blk sC HC scope ce fp) rfl rfl rfl hc i [] sF _ HF (fun _ _ => False) IF (seen IF nF) tF hstop
      refine thnF fin ?_
      rintro _ sG ⟨rfl, IG⟩
      have IX : Inv X pins σ HF sG := IC.call' (ch := fp) IG.os IG.base IG.hok IG.bare fun b hb => by
        obtain ⟨⟨_, a1, a2, a3, a4, a5⟩, _⟩ := fC b hb
        exact ⟨a3, a1, a4, a5⟩
      have free : HF sC.heap.objs.size = none := by
        have z : HF ce.locals = none := IG.free
        rw [← ceL]
        exact z
      obtain ⟨m, hn, _⟩ := IG.loc
      have hn : sG.heap.Ns ce.locals m := hn
      rw [ceL] at hn
      obtain ⟨f0, f1, f2, f3, f4, f5⟩ := IC.fpOk (H' := HF) (Nat.le_refl _) free
      exact ⟨m, hn, fun h2 sb => ⟨.ref D, HF, IX.turned (t' := sG.toks) (fun b o hb e => (sb.2 b hb).trans e) f0 f1 f3 f4 f5, rfl, hq⟩⟩
    · have nxt := T.item (X.blk sC HC scope ce fp) rfl rfl rfl hc i [] sF _ HF (fun _ _ => False) IF (seen IF nF) tF hgo
      refine thnF nxt ?_
      rintro _ sG ⟨u, rfl, hG⟩
      refine thnF hG ?_
      rintro _ sI ⟨x, HI, II, rI, yI, tI, nI⟩
      have pinned := II.pinned (seen II nI) (T.obj _ _ tI)
      refine thnF (hgB.run _ sI _ HI x u _ pinned rI (step x HI yI)) ?_
      rintro _ sJ ⟨σJ, HJ, IJ, hwJ, qJ⟩
      refine thnF (htB.run _ sJ σJ HJ _ IJ qJ) ?_
      rintro b sK ⟨HK, IK, qK⟩
      have again : ∀ {s' : Shared} {H' : Hp}, Inv (X.blk sC HC scope ce fp) ([] ++ pinsAt fp sI.heap) σJ H' s' → Nx H' → ∃ m, m < n ∧ ∃ (i : Nat) (H' : Hp), W i m H' ∧ (∀ b ∈ fp, H' b = none) ∧ tn i s'.heap ∧ Inv (X.blk sC HC scope ce fp) [] (wipe σ (own.map (·.2))) H' s' := fun {s' H'} J' hx => by
        obtain ⟨m', lt, w'⟩ := hNx H' hx
        have pn : ∀ b ∈ fp, ∀ o, sI.heap.get? b = some o → s'.heap.get? b = some o ∧ H' b = none := fun b hb o z => by
          have y := J'.pin (b, o) (List.mem_append_right _ (List.mem_append_right _ (mem_pinsAt hb z)))
          exact ⟨y.1, y.2.1⟩
        refine ⟨m', lt, i + 1, H', w', fun b hb => ?_, T.keep _ _ _ tI fun b hb o z => (pn b hb o z).1, ?_⟩
        · obtain ⟨o, z, _⟩ := T.obj _ _ tI b hb
          exact (pn b hb o z).2
        · refine (J'.unpinned (pins := [])).weak (by rw [← hwJ, wipe_length]) fun j v z => ?_
          rw [← hwJ] at z
          exact (wipe_some z).1
      cases b
      case false =>
        simp only [Bool.false_eq_true, if_false] at qK ⊢
        exact again IK qK
      case true =>
        simp only [if_true] at qK ⊢
        refine thnF (hkB.run _ sK σJ HK _ IK qK) ?_
        rintro z sL ⟨y, HL, IL, rL, qL⟩
        refine thnF (heB.run _ sL σJ HL _ IL qL) ?_
        rintro z2 sM ⟨y2, HM, IM, rM, kvs, k, p, rfl, hD5, hp5, hz5, hnx⟩
        exact d_setT (X := X.blk sC HC scope ce fp) IM hu hD5 hp5 hz5 rL rM fun sN IN => again IN hnx
  exact codeAny_compStart_dict whole (T.self X.A 0 _ _ _ tE whole)
end
end Own

/-! own layer, of no law: OWO10: enumerate(xs), xs a list or a tuple. -/
namespace Own
open PySem PySem.Spec PyProof.Rows L2 LamX NdefX
theorem enum_newT {t : Addr} {xs : Array Value} :
    Meets (Builtin.«enumerate.__new__» ⟨[.type "enumerate", .ref t], []⟩) (fun _ R s => s.heap.IsTuple t xs ∧
      R (.ok (.ret (.ref (s.heap.push { cls := .type "tuple_iterator", data := .fields #[.ref t, .int 0 0] }).objs.size)))
        { s with heap := (s.heap.push { cls := .type "tuple_iterator", data := .fields #[.ref t, .int 0 0] }).push { cls := .type "enumerate", data := .fields #[.none, .bool false, .ref s.heap.objs.size, rawInt 0, .none, .none] } }) :=
  Meets.of_wp fun prog w A R st hh => by
    obtain ⟨ht, go⟩ := hh
    obtain ⟨mem, gn, dr, ct, osv⟩ := st
    have subs := sub_enumerate
    have begins : ∀ {B : Around} {E : Value → Shared → Prop} {Q : Value → Shared → Prop}, Q (.ref mem.objs.size) ⟨mem.push { cls := .type "tuple_iterator", data := .fields #[.ref t, .int 0 0] }, gn, dr, ct, osv⟩ → wpAny (model prog w) B (pyIter (.ref t)) Q E ⟨mem, gn, dr, ct, osv⟩ :=
      fun z => (begins_tuple t xs).iter prog w _ _ ⟨mem, gn, dr, ct, osv⟩ _ ht z
    wp_walk using begins
    refine wpAny_stack_any fun sk => wpAny_pure ?_
    split
    · rename_i k _ _ _ _ _
      cases (k == Value.type "enumerate")
      all_goals
        wp_walk using begins
        exact ⟨_, rfl, go⟩
    · wp_walk using begins
      exact ⟨_, rfl, go⟩
section
variable {prog : Program} {w : World} {A : Around} {E : Value → Shared → Prop} {s : Shared}
theorem enum_callT {t : Addr} {xs : Array Value} {Q : Value → Shared → Prop} (ht : s.heap.IsTuple t xs)
    (go : ∀ mem, IsEnum mem (s.heap.objs.size + 1) s.heap.objs.size 0 .none → mem.IsTupleIter s.heap.objs.size t 0 → mem.objs.size = s.heap.objs.size + 2 →
      (∀ x o, s.heap.get? x = some o → mem.get? x = some o) → Q (.ref (s.heap.objs.size + 1)) { s with heap := mem }) : wpAny (model prog w) A (call (.type "enumerate") [.ref t]) Q E s := by
  refine callType_new F.called_enumerate (by decide) (F.typeCall_enumerate_1 _) (F.newCall_enumerate_1 _)
    (fun z => F.args_object_init_2 z _) F.entry_enumerate_new enum_newT ⟨ht, ?_⟩
  generalize eo : ({ cls := .type "tuple_iterator", data := .fields #[.ref t, .int 0 0] } : Obj) = o1
  have f1 : o1.isFreed = false := by subst eo; rfl
  have size1 : (s.heap.push o1).objs.size = s.heap.objs.size + 1 := Heap.size_push ..
  have top := Heap.get?_push_size (s.heap.push o1) (o := { cls := .type "enumerate", data := .fields #[.none, .bool false, .ref s.heap.objs.size, rawInt 0, .none, .none] }) rfl
  rw [size1] at top
  have below := Heap.get?_push_size s.heap (o := o1) f1
  show _ ∧ _
  rw [size1]
  refine ⟨⟨_, top, rfl⟩, go _ top ⟨_, Heap.get?_push_of_some _ below, by subst eo; exact ⟨rfl, rfl⟩⟩ (by rw [Heap.size_push, size1]) fun x o e => ?_⟩
  exact Heap.get?_push_of_some _ (Heap.get?_push_of_some _ e)
end
/-- the tuple at a, item by item, each in a new pair with its place -/
def IteT (K : PySem.W.Frag) (a : Addr) : It where
  go := fun i H => ∃ (xs : List V) (x : V), SqT K H a xs ∧ xs[i]? = some x
  yld := fun i H v H' => ∃ (T : Addr) (x : V), v = .ref T ∧ H T = none ∧ H' = upd H T (.tup [.int (i : Nat), x]) ∧ ∀ xs, SqT K H a xs → xs[i]? = some x
  stop := fun i H => ∃ xs : List V, SqT K H a xs ∧ xs.length = i
theorem apart_cls {h : Heap} {a b : Addr} {o u : Obj} (ha : h.get? a = some o) (hb : h.get? b = some u) (n : o.cls ≠ u.cls) : a ≠ b := by
  intro e
  rw [e, hb] at ha
  exact n (by rw [Option.some.inj ha])
theorem turn_enumT {P : Program} {w : World} {K : PySem.W.Frag} {ts : List Expr} {k : Nat} {tp : Pos} (a e it : Addr) :
    Turn P w K (.Tuple ts k tp) (IteT K a) [e, it] e (fun i h => (∃ was, IsEnum h e it ((i : Nat) : Int) was) ∧ h.IsTupleIter it a i ∧ e ≠ it) := by
  have two : ∀ {b : Addr}, b ∈ [e, it] → b = e ∨ b = it := fun hb => by simpa using hb
  constructor
  · exact List.mem_cons_self ..
  · rintro i h ⟨⟨was, e1⟩, ⟨o, o1, o2, o3⟩, _⟩ b hb
    rcases two hb with rfl | rfl
    · exact ⟨_, e1, fun v z => by cases z⟩
    · exact ⟨o, o1, fun v z => by rw [o3] at z; cases z⟩
  · rintro i h h' ⟨⟨was, e1⟩, hi, ne⟩ k
    exact ⟨⟨was, k e (by simp) _ e1⟩, hi.at fun o z => k it (by simp) o z, ne⟩
  · intro X pX wX kX calm i pins s σ H E I old st hg
    subst pX wX kX
    obtain ⟨⟨was, e1⟩, hit, ne⟩ := st
    obtain ⟨xs, x, hq, hx⟩ := hg
    obtain ⟨its, rv, ht, hz⟩ := I.tuple hq
    obtain ⟨u, hu, ru⟩ := rv.get hx
    have lt : i < its.length := (List.getElem?_eq_some_iff.mp hu).1
    obtain ⟨ot, ot1, ot2, nt, ot3⟩ := id ht
    obtain ⟨oi, oi1, oi2, oi3⟩ := id hit
    have na : a ≠ it := apart_cls ot1 oi1 (by rw [ot2, oi2]; simp)
    have ne2 : e ≠ a := apart_cls e1 ot1 (by rw [ot2]; simp)
    have le : e < s.heap.objs.size := Heap.lt_size e1
    have li : it < s.heap.objs.size := Heap.lt_size oi1
    refine wpAny_pyNext_enum_itemD (Draws.tuple (A := X.A.in1) (I.ok.hd calm) it a na its.toArray) e1 ⟨hit, ht⟩ (by simpa using lt) ne (by simp [ne, ne2]) fun y mem tk hy out st2 hT hsz same => ?_
    obtain rfl : y = u := by
      have : its[i]? = some y := by simpa using hy
      rw [hu] at this
      exact (Option.some.inj this).symm
    refine ⟨_, rfl, wpAny_letOwnedTupleGo_enum (s := { s with heap := mem, toks := tk + 1 }) out fun mem2 back sb => ?_⟩
    have pair : mem2.get? s.heap.objs.size = some { cls := .type "tuple", data := .seq #[.int i tk, y] } := (sb.2 _ (Nat.ne_of_gt le)).trans hT
    have I1 : Inv X pins σ (upd H s.heap.objs.size (.tup [.int (i : Nat), x])) { s with heap := mem2, toks := tk + 1 } := by
      refine I.turnedNew (ch := [e, it]) (fun b ob hb z => ?_) old (Nat.le_refl _) ⟨by show 2 ≤ sizeLine; decide, [.int i tk, y], .cons ⟨_, rfl⟩ (.cons ru .nil), ⟨_, pair, rfl, _, rfl⟩⟩
      have b1 : b ≠ e := fun y => hb (by simp [y])
      have b2 : b ≠ it := fun y => hb (by simp [y])
      exact (sb.2 b b1).trans (same b ob b1 b2 z)
    refine ⟨.ref s.heap.objs.size, _, I1, rfl, ⟨_, x, rfl, I.hok.fresh (Nat.le_refl _), rfl, fun zs hzs => ?_⟩, ⟨⟨y, ?_⟩, st2.1.at fun o z => (sb.2 it ne.symm).trans z, ne⟩, fun b hb => ?_⟩
    · rw [I.tuple_inj hzs hq]
      exact hx
    · have e9 : ((i + 1 : Nat) : Int) = (i : Int) + 1 := by omega
      rw [e9]
      exact back
    · have lb : b < s.heap.objs.size := by
        rcases two hb with rfl | rfl
        · exact le
        · exact li
      rw [upd_ne (Nat.ne_of_lt lb)]
      exact (old b hb).1
  · intro X pX wX kX calm i pins s σ H E I old st hg
    subst pX wX kX
    obtain ⟨⟨was, e1⟩, hit, ne⟩ := st
    obtain ⟨xs, hq, hx⟩ := hg
    obtain ⟨its, rv, ht, hz⟩ := I.tuple hq
    obtain ⟨ot, ot1, ot2, nt, ot3⟩ := id ht
    obtain ⟨oi, oi1, oi2, oi3⟩ := id hit
    have na : a ≠ it := apart_cls ot1 oi1 (by rw [ot2, oi2]; simp)
    obtain ⟨f0, f1, f2, f3, f4, f5⟩ := old it (by simp)
    have len := rv.length
    refine wpAny_pyNext_enum_endD (Draws.tuple (A := X.A.in1) (I.ok.hd calm) it a na its.toArray) e1 ⟨?_, ht⟩ fun mem out => ⟨rfl, I.turned (t' := s.toks) (fun b o hb z => out b o hb z) f0 f1 f3 f4 f5⟩
    rw [List.size_toArray, ← len, hx]
    exact hit
  · rintro A i s Q E ⟨⟨was, e1⟩, _⟩ q
    exact wpAny_pyIter_enum e1 q
/-- enumerate(xs), xs a list or a tuple -/
def iEnumA (K : PySem.W.Frag) (ta : TA) : TI := fun σ H R => ta σ H fun vs H1 => ∃ (a : Addr) (xs : List V), vs = [.ref a] ∧ ((SqL K H1 a xs ∧ R (Ite K a) H1) ∨ (SqT K H1 a xs ∧ R (IteT K a) H1))
theorem pi_enumA {X : Cx} {e : Expr} {ta : TA} {p pos tp : Pos} {ts : List Expr} {k : Nat} (hg : Gl X "enumerate") (hm : X.mg "enumerate" = none) (ha : PA X [e] ta) (hs : starEach [e] X.env = [(false, eval e X.env)] := by rfl) :
    PI X (.Tuple ts k tp) (.Call (.Name "enumerate" p) [e] [] pos) (iEnumA X.K ta) := by
  constructor
  intro pins s σ H R I h
  refine Call_ (ld_blt I hg hm boot_enumerate (PyProof.Rows.callWith_type1 (thn (ha.run pos pins s σ H _ I h) ?_) hs rfl))
  rintro us s1 ⟨vs, H1, I1, r1, a, xs, rfl, q⟩
  obtain rfl := Vals.ref1 r1
  have low : ∀ {b : Addr}, b ∈ [s1.heap.objs.size + 1, s1.heap.objs.size] → s1.heap.objs.size ≤ b := fun {b} hb => by
    rcases List.mem_cons.mp hb with rfl | hb
    · exact Nat.le_add_right _ _
    · rw [List.mem_singleton.mp hb]
      exact Nat.le_refl _
  rcases q with ⟨hq, q⟩ | ⟨hq, q⟩
  · obtain ⟨its, rv, ls, hz⟩ := I1.list hq
    refine call_enumerate_list ls.isList fun mem e1 it1 size old => wpAny_pyIter_enum e1 ⟨s1.heap.objs.size + 1, [s1.heap.objs.size + 1, s1.heap.objs.size], _, _, H1, rfl, I1.kept (t' := s1.toks) old, turn_enum a _ s1.heap.objs.size, ⟨⟨.none, e1⟩, it1, Nat.succ_ne_self _⟩, fun b hb => I1.fpOk (low hb) (I1.hok.fresh (low hb)), q⟩
  · obtain ⟨its, rv, tu, hz⟩ := I1.tuple hq
    refine enum_callT tu fun mem e1 it1 size old => wpAny_pyIter_enum e1 ⟨s1.heap.objs.size + 1, [s1.heap.objs.size + 1, s1.heap.objs.size], _, _, H1, rfl, I1.kept (t' := s1.toks) old, turn_enumT a _ s1.heap.objs.size, ⟨⟨.none, e1⟩, it1, Nat.succ_ne_self _⟩, fun b hb => I1.fpOk (low hb) (I1.hok.fresh (low hb)), q⟩
theorem walk_enumT {K : PySem.W.Frag} {a : Addr} {xs : List V} : Walk (IteT K a) xs.length (fun H => SqT K H a xs) (YPair (fun i => some (.int (i : Nat))) (fun i => xs[i]?)) := by
  refine ⟨fun i H hi q => ⟨xs, xs[i], q, by simp [hi]⟩, fun H q => ⟨xs, q, rfl⟩, fun i H v H' hi q y => ?_⟩
  obtain ⟨T, x, rfl, nT, rfl, z⟩ := y
  exact ⟨T, _, x, rfl, nT, rfl, rfl, z xs q⟩
/-- a dict comprehension, keys tuples, over any walk -/
theorem dcT_it {J : It} {n : Nat} {G : Hp → Prop} {Y : Nat → Hp → V → Hp → Prop} (w : Walk J n G Y) {g : TG} {tk tv : TE} {vs : List Nat} {σ : L2.St} {H1 : Hp} {D : Addr} {Z : Hp → Prop} (Pv : Nat → Hp → Prop) (start : Pv 0 (upd H1 D (.dT []))) (good : ∀ i H, i ≤ n → Pv i H → G H)
    (turn : ∀ i x H H', i < n → Pv i H → Y i H x H' → g x (wipe σ vs) H' fun σ2 H2 => wipe σ2 vs = wipe σ vs ∧ tYes σ2 H2 fun b H3 =>
      if b = true then tk σ2 H3 fun y H4 => tv σ2 H4 fun z H5 => ∃ kvs k p, y = .ref p ∧ H5 D = some (.dT kvs) ∧ H5 p = some (.tup (k.map kV)) ∧ kvs.length < sizeLine ∧ Pv (i + 1) (upd H5 D (.dT (putK kvs k z))) else Pv (i + 1) H3) (fin : ∀ H, Pv n H → Z H) :
    ∃ W : Nat → Nat → Hp → Prop, (∃ m, W 0 m (upd H1 D (.dT []))) ∧ ∀ i m H, W i m H →
      (J.stop i H ∧ Z H) ∨ (J.go i H ∧ ∃ Nx : Hp → Prop, (∀ H', Nx H' → ∃ m', m' < m ∧ W (i + 1) m' H') ∧ ∀ x H', J.yld i H x H' → g x (wipe σ vs) H' fun σ2 H2 => wipe σ2 vs = wipe σ vs ∧ tYes σ2 H2 fun b H3 =>
        if b = true then tk σ2 H3 fun y H4 => tv σ2 H4 fun z H5 => ∃ kvs k p, y = .ref p ∧ H5 D = some (.dT kvs) ∧ H5 p = some (.tup (k.map kV)) ∧ kvs.length < sizeLine ∧ Nx (upd H5 D (.dT (putK kvs k z))) else Nx H3) := by
  refine ⟨fun i m H => i ≤ n ∧ m + i = n ∧ Pv i H, ⟨n, Nat.zero_le _, rfl, start⟩, ?_⟩
  rintro i m H ⟨le, em, p⟩
  rcases Nat.lt_or_ge i n with lt | ge
  · refine .inr ⟨w.goes i H lt (good i H le p), Pv (i + 1), fun H' p' => ⟨n - (i + 1), by omega, lt, by omega, p'⟩, fun x H' y => ?_⟩
    exact turn i x H H' lt p (w.yields i H x H' lt (good i H le p) y)
  · obtain rfl : i = n := Nat.le_antisymm le ge
    exact .inl ⟨w.stops H (good i H le p), fin H p⟩
end Own

/-! own layer, of no law: OWNJ: min(xs, key=lambda x: x[0]), max likewise. -/
namespace Own
open PySem PySem.Spec PyProof.Rows L2 LamX NdefX
/-- a lambda of one name that gives the name's first part -/
structure FstL (F : NF) (b : Expr) (x : Str) : Prop where
  S : NScope [x] [x] [] F.scope
  eb : ∃ (p1 p2 p3 : Pos) (j : Nat), b = .Subscript (.Name x p1) (.Constant (.int 0) j p2) p3
  nd : (x == ("__debug__" : Str)) = false
  df : dInts F.params.defaults = []
  bind : ∀ (doc pm ctv : Value) (s : Shared) (u : Value), BindsTo s (lamFd F b .none doc pm ctv) ⟨[u], []⟩ [(x, u)]
theorem first_run {P : Program} {w : World} {A : Around} {s : Shared} {F : NF} {b : Expr} {doc pm ctv : Value} {f t : Addr} {x : Str} {items : Array Value} {it : Value} {Q E : Value → Shared → Prop} (hd : A.depth < recursionLimit)
    (ho : s.heap.get? f = some ({ cls := .type "function", data := .func (lamFd F b .none doc pm ctv) } : Obj)) (hc : s.heap.CodeRec (.ref F.c) F.qual) (lim : s.heap.NoLimit) (L : FstL F b x)
    (ht : IsTup s.heap t items) (h0 : items[0]? = some it) (hQ : ∀ h' tk, s.toks ≤ tk → (∀ b o, s.heap.get? b = some o → h'.get? b = some o) → Q it { s with heap := h', toks := tk }) : wpAny (model P w) A (call (.ref f) [.ref t]) Q E s := by
  refine wpAny_call (PySem.W.kla_callFunE hd ho rfl L.S.co L.S.gen rfl hc ?_)
  refine L.bind doc pm ctv s (.ref t) _ _ _ _ ?_
  refine wpAny_newFunctionEnv L.S.nocell (fun ⟨n, v⟩ hy => ?_) (fun h1 hns hsb => ⟨lim.fresh _ hsb, ?_⟩) L.S.kind
  · have e := List.mem_singleton.mp hy
    have e1 : n = x := congrArg Prod.fst e
    subst e1
    exact L.S.par _ (List.mem_singleton.mpr rfl)
  show codeAny _ _ (.expr b (envF F f s.heap.objs.size)) _ _
  have old : ∀ b o, s.heap.get? b = some o → h1.get? b = some o := fun b o e => hsb.extBut b o (Nat.ne_of_lt (Heap.lt_size e)) (Heap.get?_push_of_some _ e)
  obtain ⟨p1, p2, p3, j, eb⟩ := L.eb
  rw [eb]
  have t1 : IsTup h1 t items := by
    obtain ⟨o, z1, z2⟩ := ht
    exact ⟨o, old _ _ z1, z2⟩
  have kx : (envF F f s.heap.objs.size).kindOf x = some .local := L.S.par _ (List.mem_singleton.mpr rfl)
  refine PySem.W.kla_codeExpr (Subscript_ (wpAny_Name (wpAny_loadName_local L.S.kind kx hns (v := .ref t) ?_ ?_) L.nd))
  · simp
  refine wpAny_Constant_int ?_
  have sz : 0 < items.size := (Array.getElem?_eq_some_iff.mp h0).1
  refine subscriptTail_builtinR (x := it) t1.typeIs PySem.F.slot_tuple_getitem.lookup (getItem_tuple (j := 0) t1 (by decide) (by decide) ?_ h0 ⟨rfl, ?_⟩)
  · unfold seqIndex?
    simp [sz]
  · exact hQ _ _ (by show s.toks ≤ s.toks + 1 + 1; omega) old
/-- the key of a row -/
def KeyAt (H : Hp) (y : V) (k : Int) : Prop := ∃ (t : Addr) (r : List V), y = .ref t ∧ H t = some (.tup (.int k :: r))
/-- min or max by the first part: what is least, or greatest -/
def rBestKey (up : Bool) (F : NF) (b : Expr) (x : Str) : List V → List V → Hp → VK → Prop := fun vs zs H Q => ∃ (a f : Addr) (xs : List V) (ks : List Int), vs = [.ref a] ∧ zs = [.ref f] ∧ H a = some (.lst xs) ∧ LamAt H f F b ∧ H F.c = some (CodeO F.c F.qual) ∧ FstL F b x ∧ xs.length = ks.length ∧ 0 < xs.length ∧
  (∀ (i : Nat) (y : V) (k : Int), xs[i]? = some y → ks[i]? = some k → KeyAt H y k) ∧ ∀ (i : Nat) (y : V) (k : Int), xs[i]? = some y → ks[i]? = some k → (∀ k' ∈ ks, if up = true then k' ≤ k else k ≤ k') → Q y H
section
variable {X : Cx} {F : NF} {b : Expr} {x : Str}
theorem key_list {pins : List (Addr × Obj)} {σ : L2.St} {H : Hp} {s : Shared} {xs : List V} {ks : List Int} {its : List Value} (I : Inv X pins σ H s) (rv : Vals xs its) (hk : ∀ (i : Nat) (y : V) (k : Int), xs[i]? = some y → ks[i]? = some k → KeyAt H y k) {i : Nat} {v : Value} (hl : xs.length = ks.length) (hi : its[i]? = some v) :
    ∃ (k : Int) (t : Addr) (items : Array Value) (tok : Tok), ks[i]? = some k ∧ v = .ref t ∧ IsTup s.heap t items ∧ items[0]? = some (.int k tok) := by
  have li : i < its.length := (List.getElem?_eq_some_iff.mp hi).1
  have lx : i < xs.length := by rw [rv.length]; exact li
  have lk : i < ks.length := by omega
  obtain ⟨u, eu, ru⟩ := rv.get (List.getElem?_eq_getElem lx)
  obtain ⟨t, r, e1, e2⟩ := hk i _ _ (List.getElem?_eq_getElem lx) (List.getElem?_eq_getElem lk)
  rw [e1] at ru
  obtain rfl : u = Value.ref t := ru
  obtain ⟨ws, r2, t2, _⟩ := I.tuple (SqT.of e2)
  cases r2 with
  | cons h0 _ =>
    obtain ⟨tok, rfl⟩ := h0
    exact ⟨_, t, _, tok, List.getElem?_eq_getElem lk, (Option.some.inj (hi.symm.trans eu)), t2, rfl⟩
theorem best_run (up : Bool) {op : CmpOp} (hop : op = if up = true then .Gt else .Lt) (hc : X.calm = true) (hr : Room 1 X.A) {pins : List (Addr × Obj)} {s : Shared} {σ : L2.St} {H : Hp} {a f : Addr} {xs : List V} {ks : List Int} {its : List Value} (I : Inv X pins σ H s) (ha : H a = some (.lst xs)) (hf : LamAt H f F b) (hcd : H F.c = some (CodeO F.c F.qual)) (L : FstL F b x) (hl : xs.length = ks.length)
    (hk : ∀ (i : Nat) (y : V) (k : Int), xs[i]? = some y → ks[i]? = some k → KeyAt H y k) (rv : Vals xs its) (hli : s.heap.IsList a its.toArray) {Sx : Addr} (hS : Sx = s.heap.objs.size + 1) (key : Nat → Int) (hkey : ∀ i, i < ks.length → ks[i]? = some (key i)) :
    ∃ J : Shared → Prop, KeyRun X.prog X.w X.A.in1 (.ref f) op Sx [s.heap.objs.size] (fun a b => b = a) its.toArray.size (fun i v => its.toArray[i]? = some v) (fun i s' => s'.heap.IsListIter s.heap.objs.size a i ∧ s'.heap.IsList a its.toArray) J (fun i v _ => ∃ tok, v = .int (key i) tok) (if up = true then fun i j => decide (key i > key j) else fun i j => decide (key i < key j)) ∧
      J s ∧ (∀ s', J s' → ∀ h' tk, s'.toks ≤ tk → (∀ b o, b < s.heap.objs.size → s'.heap.get? b = some o → h'.get? b = some o) → J { s' with heap := h', toks := tk }) ∧ ∀ s', J s' → ∃ h' tk, s' = { s with heap := h', toks := tk } ∧ s.toks ≤ tk ∧ ∀ b o, s.heap.get? b = some o → h'.get? b = some o := by
  refine ⟨fun s' => ∃ h' tk, s' = { s with heap := h', toks := tk } ∧ s.toks ≤ tk ∧ ∀ b o, s.heap.get? b = some o → h'.get? b = some o, ?_, ⟨_, _, rfl, Nat.le_refl _, fun _ _ e => e⟩, ?_, fun _ h => h⟩
  · obtain ⟨dV, doc, pm, ctv, ho, us0, ru0, df0⟩ := lamO_at I.hok hf
    rw [L.df] at ru0
    cases ru0
    obtain rfl : dV = .none := by
      rcases df0 with ⟨_, z⟩ | ⟨n, _⟩
      · exact z
      · exact (n rfl).elim
    have lim0 := I.ok.mod.nolimit
    have cr := codeO_at I.hok hcd
    refine ⟨?_, ?_, ?_, ?_⟩
    · rintro s1 s2 ⟨h1, tk1, rfl, l1, k1⟩ m
      refine ⟨s2.heap, s2.toks, ?_, Nat.le_trans l1 m.toks, fun b o e => m.heap b o (fun hb => ?_) (k1 b o e)⟩
      · have e1 := m.gens
        have e2 := m.drawn
        have e3 := m.os
        cases s2
        simp only at e1 e2 e3
        subst e1 e2 e3
        rfl
      · have lt := Heap.lt_size e
        simp only [List.mem_cons, List.not_mem_nil, or_false] at hb
        rcases hb with z | z
        · exact Nat.lt_irrefl _ (Nat.lt_of_le_of_lt (Nat.le_succ _) (by rw [z, hS] at lt; exact lt))
        · exact Nat.lt_irrefl _ (by rw [z] at lt; exact lt)
    · exact fun i k s1 s2 h _ => h
    · rintro i v s1 o Q E hi hP ⟨h1, tk1, rfl, l1, k1⟩ hst hSo hQ
      have hi' : its[i]? = some v := by simpa using hP
      obtain ⟨k, t, items, tok, ek, rfl, tt, e0⟩ := key_list I rv hk hl hi'
      have ek2 : key i = k := by
        have lt : i < ks.length := (List.getElem?_eq_some_iff.mp ek).1
        exact Option.some.inj ((hkey i lt).symm.trans ek)
      subst ek2
      refine first_run (s := { s with heap := h1, toks := tk1 }) (hr.depth) (k1 _ _ ho) ?_ ?_ L (items := items) ?_ e0 fun h2 tk2 l2 k2 => ?_
      · obtain ⟨c0, oc, vs, tq, z1, z2, z3⟩ := cr
        exact ⟨c0, oc, vs, tq, z1, k1 _ _ z2, z3⟩
      · exact lim0.keeps fun b o e => k1 _ _ (I.env0.bs b o e).1
      · obtain ⟨o2, z1, z2⟩ := tt
        exact ⟨o2, k1 _ _ z1, z2⟩
      · refine hQ _ _ ⟨h2, tk2, rfl, Nat.le_trans l1 l2, fun b o e => k2 b o (k1 b o e)⟩ ⟨hst.1.at fun o e => k2 _ o e, hst.2.at fun o e => k2 _ o e⟩ (k2 _ _ hSo) ⟨tok, rfl⟩ fun j k' h => h
    · rintro i j ki kj s1 Q E _ ⟨t1, rfl⟩ ⟨t2, rfl⟩ q
      rw [hop]
      cases up with
      | true => exact gt_int q
      | false => exact lt_int q
  · rintro s1 ⟨h1, tk1, rfl, l1, k1⟩ h' tk l2 k2
    exact ⟨h', tk, rfl, Nat.le_trans l1 l2, fun b o e => k2 b o (Heap.lt_size e) (k1 b o e)⟩
theorem cr_bestKey (up : Bool) {id : String} (hid : id = if up = true then "max" else "min") (hc : X.calm = true) (hr : Room 1 X.A) : CallRK X (.builtin id) [Str.ofString "key"] (rBestKey up F b x) := by
  intro pins s σ H vs zs us ws Q I r rz h
  obtain ⟨a, f, xs, ks, rfl, rfl, ha, hf, hcd, L, hl, h0, hk, q⟩ := h
  obtain rfl := Vals.ref1 r
  obtain ⟨w1, rfl, e1⟩ := vals1 rz
  obtain rfl : w1 = Value.ref f := e1
  obtain ⟨its, rv, hli0, _⟩ := I.list (SqL.of ha)
  have hli := hli0.isList
  have hn : its.toArray.size = ks.length := by rw [List.size_toArray, ← rv.length, hl]
  have hkey : ∀ i, i < ks.length → ks[i]? = some ((fun i => ks.getD i 0) i) := fun i hi => by
    show ks[i]? = some (ks.getD i 0)
    rw [List.getD_eq_getElem?_getD, List.getElem?_eq_getElem hi]
    rfl
  generalize hkf : (fun i => ks.getD i 0) = key at hkey
  have lt_a : a < s.heap.objs.size := by
    obtain ⟨o, z, _⟩ := hli
    exact Heap.lt_size z
  have hsz : (s.heap.push ({ cls := .type "list_iterator", data := .fields #[.ref a, .int 0 0] } : Obj)).objs.size = s.heap.objs.size + 1 := by simp [Heap.push]
  have done : ∀ (bi : Nat) (v : Value) (s' : Shared) (J : Shared → Prop), (∀ s', J s' → ∃ h' tk, s' = { s with heap := h', toks := tk } ∧ s.toks ≤ tk ∧ ∀ b o, s.heap.get? b = some o → h'.get? b = some o) → bi < ks.length → (∀ j, j < ks.length → if up = true then key j ≤ key bi else key bi ≤ key j) → its.toArray[bi]? = some v → J s' → EP X pins σ Q v s' := by
    intro bi v s' J hJ hb best hv hj
    obtain ⟨h', tk, rfl, l, kp⟩ := hJ s' hj
    have lx : bi < xs.length := by omega
    obtain ⟨u, eu, ru⟩ := rv.get (List.getElem?_eq_getElem lx)
    have hv' : its[bi]? = some v := by simpa using hv
    obtain rfl : v = u := Option.some.inj (hv'.symm.trans eu)
    refine ⟨xs[bi], H, I.kept (t' := tk) kp, ru, q bi _ (key bi) (List.getElem?_eq_getElem lx) (hkey bi hb) fun k' hk' => ?_⟩
    obtain ⟨j, hj2⟩ := List.getElem?_of_mem hk'
    have lj : j < ks.length := (List.getElem?_eq_some_iff.mp hj2).1
    have ej : key j = k' := Option.some.inj ((hkey j lj).symm.trans hj2)
    rw [← ej]
    exact best j lj
  have hh := I.ok.hd hc
  obtain ⟨J, KR, Js, Jm, Je⟩ := best_run up (op := if up = true then .Gt else .Lt) rfl hc hr I ha hf hcd L hl hk rv hli (Sx := s.heap.objs.size + 1) rfl key hkey
  have p0 : (0 : Nat) < its.toArray.size := by rw [hn]; omega
  have Js2 : J { s with heap := s.heap.push ({ cls := .type "list_iterator", data := .fields #[.ref a, .int 0 0] } : Obj) } := Jm s Js _ s.toks (Nat.le_refl _) fun b o _ e => Heap.get?_push_of_some _ e
  show wpAny _ _ (call (.builtin id) [.ref a] [(Str.ofString "key", .ref f)]) _ _ _
  cases up with
  | false =>
    obtain rfl : id = "min" := hid
    refine call_min_walkK (wpAny_pyIter_list hli ⟨s.heap.objs.size, [s.heap.objs.size, a], [s.heap.objs.size], _, its.toArray.size, _, _, J, _, _, rfl, (Walks.list (A := X.A.in1) hh s.heap.objs.size a (Nat.ne_of_lt lt_a) its.toArray).toS, ⟨⟨_, Heap.get?_push_size _ rfl, rfl, rfl⟩, hli.push _⟩, fun b hb => ?_, p0, by rw [hsz]; exact KR, Js2, fun v s' hv hj => ?_⟩)
    · rw [hsz]
      simp only [List.mem_cons, List.not_mem_nil, or_false] at hb
      rcases hb with rfl | rfl
      · exact Nat.lt_succ_self _
      · exact Nat.lt_succ_of_lt lt_a
    · have ab := PySem.argBest_lt key (its.toArray.size - 1)
      exact done _ v s' J Je (by have := ab.1; omega) (fun j hj => ab.2 j (by omega)) hv hj
  | true =>
    obtain rfl : id = "max" := hid
    refine call_max_walkK (wpAny_pyIter_list hli ⟨s.heap.objs.size, [s.heap.objs.size, a], [s.heap.objs.size], _, its.toArray.size, _, _, J, _, _, rfl, (Walks.list (A := X.A.in1) hh s.heap.objs.size a (Nat.ne_of_lt lt_a) its.toArray).toS, ⟨⟨_, Heap.get?_push_size _ rfl, rfl, rfl⟩, hli.push _⟩, fun b hb => ?_, p0, by rw [hsz]; exact KR, Js2, fun v s' hv hj => ?_⟩)
    · rw [hsz]
      simp only [List.mem_cons, List.not_mem_nil, or_false] at hb
      rcases hb with rfl | rfl
      · exact Nat.lt_succ_self _
      · exact Nat.lt_succ_of_lt lt_a
    · have ab := PySem.argBest_gt key (its.toArray.size - 1)
      exact done _ v s' J Je (by have := ab.1; omega) (fun j hj => ab.2 j (by omega)) hv hj
end
end Own

/-! own layer, of no law: OWN18: sorted(xs, key=lambda x: x[0]) of rows. -/
namespace Own
open PySem PySem.Spec PyProof.Rows L2 LamX NdefX
def rSortBy (F : NF) (b : Expr) (x : Str) : List V → List V → Hp → VK → Prop := fun vs zs H Q => ∃ (a f : Addr) (β : Type) (val : β → V) (key : β → Int) (es : List β), vs = [.ref a] ∧ zs = [.ref f] ∧ H a = some (.lst (es.map val)) ∧ LamAt H f F b ∧ H F.c = some (CodeO F.c F.qual) ∧ FstL F b x ∧
  (∀ e ∈ es, KeyAt H (val e) (key e)) ∧ ∀ (fs : List β) (p : Addr), List.Perm es fs → List.Pairwise (fun e g => key e ≤ key g) fs → H p = none → Q (.ref p) (upd H p (.lst (fs.map val)))
section
variable {β : Type} {val : β → V}
theorem each_vals : ∀ {es : List β} {us : List Value}, Vals (es.map val) us → PySem.W.EachIs (fun u (e : β) => RelV (val e) u) us es
  | [], _, .nil => .nil
  | _ :: _, _, .cons r t => .cons r (each_vals t)
theorem vals_each : ∀ {us : List Value} {es : List β}, PySem.W.EachIs (fun u (e : β) => RelV (val e) u) us es → Vals (es.map val) us
  | _, _, .nil => .nil
  | _, _, .cons r t => .cons r (vals_each t)
end
section
variable {X : Cx} {F : NF} {b : Expr} {x : Str}
theorem cr_sortBy (hr : Room 1 X.A) : CallRK X (.builtin "sorted") [Str.ofString "key"] (rSortBy F b x) := by
  intro pins s σ H vs zs us ws Q I r rz h
  obtain ⟨a, f, β, val, key, es, rfl, rfl, ha, hf, hcd, L, hk, q⟩ := h
  obtain rfl := Vals.ref1 r
  obtain ⟨w1, rfl, e1⟩ := vals1 rz
  obtain rfl : w1 = Value.ref f := e1
  obtain ⟨its, rv, hli0, hlen⟩ := I.list (SqL.of ha)
  have hli := hli0.isList
  obtain ⟨dV, doc, pm, ctv, ho, us0, ru0, df0⟩ := lamO_at I.hok hf
  rw [L.df] at ru0
  cases ru0
  obtain rfl : dV = .none := by
    rcases df0 with ⟨_, z⟩ | ⟨n, _⟩
    · exact z
    · exact (n rfl).elim
  have lim0 := I.ok.mod.nolimit
  have cr := codeO_at I.hok hcd
  rw [List.length_map] at hlen
  show wpAny _ _ (call (.builtin "sorted") [.ref a] [(Str.ofString "key", .ref f)]) _ _ _
  refine PySem.W.sorted_key_data (b := false) (fun e : β => .int (key e)) hli (each_vals rv) (PySem.W.AllAlike.of fun _ _ => by simp [PySem.W.alike]) (.inr fun d hd => ?_) hlen (fun e _ => ?_) (PyProof.Rows.ksk_s1 _ _) (fun _ => PyProof.Rows.ksk_l1 _ _) (fun _ => PyProof.Rows.ksk_t1 _ _) (fun v e hR he h tk kp => ?_) fun out c h' tk kp fr nl hol hE => ?_
  · obtain ⟨e, _, rfl⟩ := List.mem_map.mp hd
    constructor
    · intro z
      cases z
    · intro xs z
      cases z
  · have := hr.units
    show X.A.units + 2 + 0 < cLine
    omega
  · obtain ⟨t, rr, e1, e2⟩ := hk e he
    rw [e1] at hR
    obtain rfl : v = Value.ref t := hR
    obtain ⟨items, ri, ti, _⟩ := I.tuple (SqT.of e2)
    obtain ⟨u0, tl, rfl⟩ : ∃ u0 tl, items = u0 :: tl := by
      cases ri with
      | cons h0 _ => exact ⟨_, _, rfl⟩
    cases ri with
    | cons h0 _ =>
      obtain ⟨tok, rfl⟩ := h0
      refine first_run (s := { s with heap := h, toks := tk }) (items := (Value.int (key e) tok :: tl).toArray) (it := .int (key e) tok) (hr.depth) (kp _ _ ho) ?_ ?_ L ?_ rfl fun h2 tk2 l2 k2 => ⟨h2, tk2, rfl, k2, .int _ _⟩
      · obtain ⟨c0, oc, vs, tq, z1, z2, z3⟩ := cr
        exact ⟨c0, oc, vs, tq, z1, kp _ _ z2, z3⟩
      · exact lim0.keeps fun b o e => kp _ _ (I.env0.bs b o e).1
      · obtain ⟨o2, z1, z2⟩ := ti
        exact ⟨o2, kp _ _ z1, z2⟩
  · rw [PySem.W.dataLe_int] at hE
    have pm' : List.Perm es (es.mergeSort fun a b => decide (key a ≤ key b)) := (List.mergeSort_perm _ _).symm
    have tr : ∀ a b c : β, decide (key a ≤ key b) = true → decide (key b ≤ key c) = true → decide (key a ≤ key c) = true := fun a b c h1 h2 => decide_eq_true (Int.le_trans (of_decide_eq_true h1) (of_decide_eq_true h2))
    have tot : ∀ a b : β, (decide (key a ≤ key b) || decide (key b ≤ key a)) = true := fun a b => by
      rcases Int.le_total (key a) (key b) with z | z
      · rw [decide_eq_true z]; rfl
      · rw [decide_eq_true z, Bool.or_true]
    have pw : List.Pairwise (fun e g : β => key e ≤ key g) (es.mergeSort fun a b => decide (key a ≤ key b)) :=
      (List.pairwise_mergeSort (le := fun a b : β => decide (key a ≤ key b)) tr tot es).imp fun h => of_decide_eq_true h
    have rv2 := vals_each hE
    exact ⟨.ref (s.heap.objs.size + 1), _, I.laid (a := s.heap.objs.size + 1) (o := .lst ((es.mergeSort fun a b => decide (key a ≤ key b)).map val)) (t' := tk) (h' := h') kp (Nat.le_succ _) ⟨by rw [List.length_map, List.length_mergeSort]; exact hlen, out, c, rv2, nl⟩, rfl, q _ _ pm' pw (I.hok.fresh (Nat.le_succ _))⟩
/-- F, b and x are told by the reading -/
theorem cr_sortE (hr : Room 1 X.A) : CallRK X (.builtin "sorted") [Str.ofString "key"] (fun vs zs H Q => ∃ (F : NF) (b : Expr) (x : Str), rSortBy F b x vs zs H Q) := by
  intro pins s σ H vs zs us ws Q I r rz h
  obtain ⟨F, b, x, h⟩ := h
  exact cr_sortBy hr pins s σ H vs zs us ws Q I r rz h
end
end Own

/-! own layer, of no law: OWNI: [e for x in xs for y in (a, b)]. -/
namespace Own
open PySem PySem.Spec PyProof.Rows L2 LamX NdefX
/-- the inner walk within a turn of the outer one -/
def InW (J1 : It) (H4 : Hp) (Nx : Hp → Prop) (g1 : TG) (tt1 : TT) (te : TE) (vs1 : List Nat) (σ2 : L2.St) (D : Addr) : Prop := ∃ W1 : Nat → Nat → Hp → Prop, (∃ m, W1 0 m H4) ∧ ∀ j k H, W1 j k H →
  (J1.stop j H ∧ Nx H) ∨ (J1.go j H ∧ ∃ Nx1 : Hp → Prop, (∀ H', Nx1 H' → ∃ k', k' < k ∧ W1 (j + 1) k' H') ∧ ∀ x H', J1.yld j H x H' → g1 x (wipe σ2 vs1) H' fun σ3 H5 => wipe σ3 vs1 = wipe σ2 vs1 ∧ tt1 σ3 H5 fun b H6 =>
    if b = true then te σ3 H6 fun y H7 => ∃ acc, H7 D = some (.lst acc) ∧ acc.length < sizeLine ∧ Nx1 (upd H7 D (.lst (acc ++ [y]))) else Nx1 H6)
/-- the outer walk, over a list -/
theorem lc2_list {K : PySem.W.Frag} {a : Addr} {xs : List V} {g g1 : TG} {tt tt1 : TT} {wi1 : TI} {te : TE} {vs vs1 : List Nat} {σ : L2.St} {H1 : Hp} {D : Addr} {Qd : Hp → Prop} (Pv : Nat → Hp → Prop) (h0 : Pv 0 (upd H1 D (.lst []))) (hl : ∀ i H, i ≤ xs.length → Pv i H → SqL K H a xs)
    (hs : ∀ i x H, xs[i]? = some x → Pv i H → g x (wipe σ vs) H fun σ2 H2 => wipe σ2 vs = wipe σ vs ∧ tt σ2 H2 fun b H3 =>
      if b = true then wi1 σ2 H3 fun J1 H4 => InW J1 H4 (Pv (i + 1)) g1 tt1 te vs1 σ2 D
      else Pv (i + 1) H3) (hd : ∀ H, Pv xs.length H → Qd H) :
    ∃ W : Nat → Nat → Hp → Prop, (∃ m, W 0 m (upd H1 D (.lst []))) ∧ ∀ i m H, W i m H →
      ((Itl K a).stop i H ∧ Qd H) ∨ ((Itl K a).go i H ∧ ∃ Nx : Hp → Prop, (∀ H', Nx H' → ∃ m', m' < m ∧ W (i + 1) m' H') ∧ ∀ x H', (Itl K a).yld i H x H' → g x (wipe σ vs) H' fun σ2 H2 => wipe σ2 vs = wipe σ vs ∧ tt σ2 H2 fun b H3 =>
        if b = true then wi1 σ2 H3 fun J1 H4 => ∃ W1 : Nat → Nat → Hp → Prop, (∃ m, W1 0 m H4) ∧ ∀ j k H, W1 j k H →
          (J1.stop j H ∧ Nx H) ∨ (J1.go j H ∧ ∃ Nx1 : Hp → Prop, (∀ H', Nx1 H' → ∃ k', k' < k ∧ W1 (j + 1) k' H') ∧ ∀ x H', J1.yld j H x H' → g1 x (wipe σ2 vs1) H' fun σ3 H5 => wipe σ3 vs1 = wipe σ2 vs1 ∧ tt1 σ3 H5 fun b H6 =>
            if b = true then te σ3 H6 fun y H7 => ∃ acc, H7 D = some (.lst acc) ∧ acc.length < sizeLine ∧ Nx1 (upd H7 D (.lst (acc ++ [y]))) else Nx1 H6)
        else Nx H3) := by
  refine ⟨fun i m H => m = xs.length - i ∧ i ≤ xs.length ∧ Pv i H, ⟨xs.length, by simp, Nat.zero_le _, h0⟩, ?_⟩
  rintro i m H ⟨rfl, hi, p⟩
  have q := hl i H hi p
  by_cases hlt : i < xs.length
  · refine .inr ⟨⟨xs, xs[i], q, by simp [hlt]⟩, Pv (i + 1), fun H' p' => ⟨xs.length - (i + 1), by omega, rfl, hlt, p'⟩, fun x H' y => ?_⟩
    obtain ⟨e, y⟩ := y
    subst e
    exact hs i x _ (y xs q) p
  · have e : i = xs.length := by omega
    subst e
    exact .inl ⟨⟨xs, q, Nat.le_refl _⟩, hd H p⟩
/-- the inner walk, over a tuple -/
theorem in_tup {K : PySem.W.Frag} {a : Addr} {ys : List V} {g1 : TG} {tt1 : TT} {te : TE} {vs1 : List Nat} {σ2 : L2.St} {H4 : Hp} {D : Addr} {Nx : Hp → Prop} (Pw : Nat → Hp → Prop) (h0 : Pw 0 H4) (hl : ∀ j H, j ≤ ys.length → Pw j H → SqT K H a ys)
    (hs : ∀ j x H, ys[j]? = some x → Pw j H → g1 x (wipe σ2 vs1) H fun σ3 H5 => wipe σ3 vs1 = wipe σ2 vs1 ∧ tt1 σ3 H5 fun b H6 =>
      if b = true then te σ3 H6 fun y H7 => ∃ acc, H7 D = some (.lst acc) ∧ acc.length < sizeLine ∧ Pw (j + 1) (upd H7 D (.lst (acc ++ [y]))) else Pw (j + 1) H6) (hd : ∀ H, Pw ys.length H → Nx H) :
    InW (Itt K a) H4 Nx g1 tt1 te vs1 σ2 D := by
  refine ⟨fun j k H => k = ys.length - j ∧ j ≤ ys.length ∧ Pw j H, ⟨ys.length, by simp, Nat.zero_le _, h0⟩, ?_⟩
  rintro j k H ⟨rfl, hj, p⟩
  have q := hl j H hj p
  by_cases hlt : j < ys.length
  · refine .inr ⟨⟨ys, ys[j], q, by simp [hlt]⟩, Pw (j + 1), fun H' p' => ⟨ys.length - (j + 1), by omega, rfl, hlt, p'⟩, fun x H' y => ?_⟩
    obtain ⟨e, y⟩ := y
    subst e
    exact hs j x _ (y ys q) p
  · have e : j = ys.length := by omega
    subst e
    exact .inl ⟨⟨ys, q, Nat.le_refl _⟩, hd H p⟩
/-- two rows side by side -/
inductive Ents {β : Type} (R : V → β → Prop) : List V → List β → Prop where
  | nil : Ents R [] []
  | cons {x : V} {e : β} {xs : List V} {es : List β} : R x e → Ents R xs es → Ents R (x :: xs) (e :: es)
section
variable {β : Type} {R R' : V → β → Prop} {xs : List V} {es : List β}
theorem Ents.mono (h : Ents R xs es) (f : ∀ x e, R x e → R' x e) : Ents R' xs es := by
  induction h with
  | nil => exact .nil
  | cons r _ ih => exact .cons (f _ _ r) ih
theorem Ents.len (h : Ents R xs es) : xs.length = es.length := by
  induction h with
  | nil => rfl
  | cons _ _ ih => rw [List.length_cons, List.length_cons, ih]
theorem Ents.app {ys : List V} {fs : List β} (h : Ents R xs es) (k : Ents R ys fs) : Ents R (xs ++ ys) (es ++ fs) := by
  induction h with
  | nil => exact k
  | cons r _ ih => exact .cons r ih
theorem Ents.snoc {x : V} {e : β} (h : Ents R xs es) (r : R x e) : Ents R (xs ++ [x]) (es ++ [e]) := h.app (.cons r .nil)
theorem Ents.get (h : Ents R xs es) : ∀ {i : Nat} {x : V}, xs[i]? = some x → ∃ e, es[i]? = some e ∧ R x e := by
  induction h with
  | nil => intro i x z; simp at z
  | cons r _ ih =>
    intro i x z
    cases i with
    | zero =>
      have z' := Option.some.inj z
      subst z'
      exact ⟨_, rfl, r⟩
    | succ i => exact ih z
end
end Own

/-! k25: the program: the best order. -/
namespace K25
open PySem PySem.Spec PyProof.Rows L2 LamX NdefX Own
def kwE : Expr → Expr
  | .Call _ _ (k :: _) _ => k.value
  | e => e
def lamArgs : Expr → Arguments
  | .Lambda a _ _ _ => a
  | _ => ⟨[], [], none, [], [], none, []⟩
def lamBody : Expr → Expr
  | .Lambda _ b _ _ => b
  | e => e
def lamScope : Expr → Scope
  | .Lambda _ _ s _ => s
  | _ => ⟨.function, [], false, false, []⟩
def inD (s : Stmt) (i : Nat) : Stmt := (defBody s).getD i (.Pass ⟨0, 0, 0, 0⟩)
def lpB (i : Nat) : Stmt → Stmt
  | .For _ _ b _ _ => b.getD i (.Pass ⟨0, 0, 0, 0⟩)
  | .While _ b _ _ => b.getD i (.Pass ⟨0, 0, 0, 0⟩)
  | s => s
def asgV : Stmt → Expr
  | .Assign _ v _ => v
  | .Return (some e) _ => e
  | _ => .Constant .none 0 ⟨0, 0, 0, 0⟩
def lcScope : Expr → Scope
  | .ListComp _ _ s _ => s
  | .DictComp _ _ _ s _ => s
  | _ => ⟨.function, [], false, false, []⟩
/-- an order as a value -/
def OrdAt (H : Hp) : Tr → V → Prop
  | .leaf i, v => v = nV i
  | .node l r, v => ∃ (p : Addr) (a b : V), v = .ref p ∧ H p = some (.tup [a, b]) ∧ OrdAt H l a ∧ OrdAt H r b
theorem OrdAt.ext {H H' : Hp} (x : ExtN H H') : ∀ {T : Tr} {v : V}, OrdAt H T v → OrdAt H' T v
  | .leaf _, _, h => h
  | .node l r, _, ⟨p, a, b, e1, e2, e3, e4⟩ => ⟨p, a, b, e1, x _ _ e2 (fun ps z => by cases z), OrdAt.ext x e3, OrdAt.ext x e4⟩
/-- figures beside an order -/
def PrAt (H : Hp) (v : V) (e : Nat × Tr) : Prop := ∃ (q : Addr) (o : V), v = .ref q ∧ H q = some (.tup [nV e.1, o]) ∧ OrdAt H e.2 o
theorem PrAt.ext {H H' : Hp} {v : V} {e : Nat × Tr} (h : PrAt H v e) (x : ExtN H H') : PrAt H' v e := by
  obtain ⟨q, o, e1, e2, e3⟩ := h
  exact ⟨q, o, e1, x _ _ e2 (fun ps z => by cases z), e3.ext x⟩
theorem OrdAt.put {H : Hp} {D : Addr} {xs : List V} {o : HO} (hD : H D = some (.lst xs)) : ∀ {T : Tr} {v : V}, OrdAt H T v → OrdAt (upd H D o) T v
  | .leaf _, _, h => h
  | .node l r, _, ⟨p, a, b, e1, e2, e3, e4⟩ => ⟨p, a, b, e1, (upd_ne (ne_of e2 hD (by intro z; cases z))).trans e2, OrdAt.put hD e3, OrdAt.put hD e4⟩
theorem PrAt.put {H : Hp} {v : V} {e : Nat × Tr} {D : Addr} {xs : List V} {o : HO} (h : PrAt H v e) (hD : H D = some (.lst xs)) : PrAt (upd H D o) v e := by
  obtain ⟨q, o, e1, e2, e3⟩ := h
  exact ⟨q, o, e1, (upd_ne (ne_of e2 hD (by intro z; cases z))).trans e2, e3.put hD⟩
/-- joined so far -/
structure Joined (ws : List Nat) (ps : List (Nat × Tr)) : Prop where
  fg : ∀ p ∈ ps, p.2.figs ws = p.1
  ix : List.Perm (ps.flatMap fun p => p.2.idx) (List.range ws.length)
  lg : ∀ v, pw ws ≤ 2 ^ v ↔ pw (ps.map fun p => p.1) ≤ 2 ^ v
theorem Joined.perm {ws : List Nat} {ps qs : List (Nat × Tr)} (h : Joined ws ps) (p : List.Perm ps qs) : Joined ws qs :=
  ⟨fun x hx => h.fg x (p.symm.subset hx), (p.symm.flatMap_right _).trans h.ix, fun v => by rw [← pw_perm (p.map fun p => p.1)]; exact h.lg v⟩
theorem Joined.step {ws : List Nat} {a b : Nat × Tr} {ps : List (Nat × Tr)} (h : Joined ws (a :: b :: ps)) (hab : a.1 ≤ b.1) (hb : ∀ p ∈ ps, b.1 ≤ p.1) : Joined ws ((b.1 + 1, .node a.2 b.2) :: ps) := by
  refine ⟨fun p hp => ?_, ?_, fun v => (h.lg v).trans ?_⟩
  · rcases List.mem_cons.mp hp with rfl | hp
    · have e1 := h.fg a (by simp)
      have e2 := h.fg b (by simp)
      show max (a.2.figs ws) (b.2.figs ws) + 1 = b.1 + 1
      omega
    · exact h.fg p (by simp [hp])
  · have := h.ix
    rw [List.flatMap_cons, List.flatMap_cons, ← List.append_assoc] at this
    exact this
  · exact join_two hab (fun r hr => by
      obtain ⟨p, hp, rfl⟩ := List.mem_map.mp hr
      exact hb p hp) v
def leaves (f : Nat) : List Nat → List (Nat × Tr)
  | [] => []
  | w :: ws => (w, .leaf f) :: leaves (f + 1) ws
theorem leaves_snoc : ∀ (ws : List Nat) (f w : Nat), leaves f (ws ++ [w]) = leaves f ws ++ [(w, .leaf (f + ws.length))]
  | [], f, w => rfl
  | x :: ws, f, w => by
    show (x, Tr.leaf f) :: leaves (f + 1) (ws ++ [w]) = (x, Tr.leaf f) :: (leaves (f + 1) ws ++ [(w, .leaf (f + (ws.length + 1)))])
    rw [leaves_snoc ws (f + 1) w, show f + 1 + ws.length = f + (ws.length + 1) by omega]
theorem same_seqT {K : PySem.W.Frag} {H H' : Hp} {a : Addr} {xs : List V} (e : Same H H') (h : SqT K H a xs) : SqT K H' a xs := by
  rcases h with (h | ⟨o, h⟩) | h
  · exact .inl (.inl (e _ _ h))
  · exact .inl (.inr ⟨o, e _ _ h⟩)
  · exact .inr h
theorem seq_asg {te : TE} {g : TG} {c : TS} {D : Ends} {σ : L2.St} {H : Hp} (h : te σ H fun x H1 => g x σ H1 (c D)) : tSeq (tAsg te g) c D σ H := h
theorem ents_zip {β : Type} {R : V → β → Prop} : ∀ {xs : List V} {es : List β}, Ents R xs es → (xs.zip es).map (·.1) = xs ∧ (xs.zip es).map (·.2) = es ∧ ∀ p ∈ xs.zip es, R p.1 p.2
  | _, _, .nil => ⟨rfl, rfl, fun _ h => by cases h⟩
  | _, _, .cons r t => by
    obtain ⟨a, b, c⟩ := ents_zip t
    refine ⟨by rw [List.zip_cons_cons, List.map_cons, a], by rw [List.zip_cons_cons, List.map_cons, b], fun p hp => ?_⟩
    rw [List.zip_cons_cons] at hp
    rcases List.mem_cons.mp hp with rfl | hp
    · exact r
    · exact c p hp
theorem cut_from {xs : List V} {k : Nat} (h : k ≤ xs.length) : cutV xs (some (k : Int)) none = xs.drop k := by
  unfold cutV
  have e1 : HT.sIx xs.length xs.length none = xs.length := rfl
  have e2 : HT.sIx xs.length 0 (some (k : Int)) = k := by
    unfold HT.sIx
    simp [show ¬ (k : Int) < 0 by omega]; omega
  rw [e1, e2]
  exact List.take_of_length_le (by rw [List.length_drop]; exact Nat.le_refl _)
theorem leaves_len : ∀ (ws : List Nat) (f : Nat), (leaves f ws).length = ws.length
  | [], _ => rfl
  | w :: ws, f => by
    show (leaves (f + 1) ws).length + 1 = ws.length + 1
    rw [leaves_len]
theorem leaves_ok (ws : List Nat) : Joined ws (leaves 0 ws) := by
  have key : ∀ (vs us : List Nat), us ++ vs = ws → (∀ p ∈ leaves us.length vs, p.2.figs ws = p.1) ∧ ((leaves us.length vs).flatMap fun p => p.2.idx) = List.range' us.length vs.length ∧ (leaves us.length vs).map (fun p => p.1) = vs := by
    intro vs
    induction vs with
    | nil => exact fun us _ => ⟨(fun p hp => by cases hp), rfl, rfl⟩
    | cons w vs ih =>
      intro us e
      obtain ⟨a, b, c⟩ := ih (us ++ [w]) (by rw [← e]; simp)
      rw [List.length_append, List.length_singleton] at a b c
      refine ⟨fun p hp => ?_, ?_, ?_⟩
      · rcases List.mem_cons.mp hp with rfl | hp
        · show ws.getD us.length 0 = w
          rw [← e, List.getD_eq_getElem?_getD, List.getElem?_append_right (Nat.le_refl _), Nat.sub_self]
          rfl
        · exact a p hp
      · show us.length :: ((leaves (us.length + 1) vs).flatMap fun p => p.2.idx) = us.length :: List.range' (us.length + 1) vs.length
        rw [b]
      · show w :: (leaves (us.length + 1) vs).map (fun p => p.1) = w :: vs
        rw [c]
  obtain ⟨a, b, c⟩ := key ws [] rfl
  refine ⟨a, ?_, fun v => ?_⟩
  · rw [show (leaves 0 ws).flatMap (fun p => p.2.idx) = List.range' 0 ws.length from b, List.range_eq_range']
  · rw [show (leaves 0 ws).map (fun p => p.1) = ws from c]
abbrev pBo : Stmt := topS 5
abbrev nBo : List Str := ["wholes", "left", "whole", "index"]
abbrev lx1 : Expr := kwE (asgV (lpB 0 (inD pBo 1)))
theorem blk1 : BlkOk nBo (defScope pBo) (lcScope (asgV (inD pBo 0))) [("index", 3), ("whole", 2)] := blkOk_by (by decide +kernel)
theorem ns1 : NScope ["told"] ["told"] [] (lamScope lx1) := nscope_by (by decide +kernel)
theorem fr1 : ∀ y ∈ (lamScope lx1).names, y.2 = .free → (defScope pBo).names.lookup y.1 = some .cell ∨ (defScope pBo).names.lookup y.1 = some .free := by decide +kernel
def q1 : Str := (envOfC "_best_order" (defScope pBo) 0 0 .none).qual ++ "<lambda>"
section
variable {X : Cx}
theorem fst1 {c' : Addr} : FstL (lamF X (lamArgs lx1) (lamScope lx1) c') (lamBody lx1) "told" := ⟨ns1, ⟨_, _, _, _, rfl⟩, by decide +kernel, rfl, fun doc pm ctv s u => .of_eq rfl⟩
end
/-- the tables of code -/
abbrev Tbs (Pa Pb : Addr) (qb : Str) : List (Addr × Str) := [(Pa, q1), (Pb, qb)]
section
variable {P : Program} {w : World} {K : PySem.W.Frag} {mg : Str → Option Value} {base : Heap} {Pa Pb : Addr} {qb : Str}
theorem scBo : FnScope nBo ["wholes"] (defScope pBo) := ⟨rfl, rfl, rfl, by decide +kernel, rfl, by decide +kernel, by decide +kernel⟩
theorem lc_leaves {a : Addr} {ws : List Nat} {H : Hp} {Q : VK} (hq : SqL K H a (ws.map nV) ∨ SqT K H a (ws.map nV)) (hlen : ws.length ≤ 60) (next : ∀ (D : Addr) (acc : List V) (H1 : Hp), Same H H1 → H1 D = some (.lst acc) → Ents (PrAt H1) acc (leaves 0 ws) → Q (.ref D) H1) :
    tLc (iEnumA K (tCons (tVar 0) tNil)) (gTup K 2 (gCons (gName 3) (gCons (gName 2) gNil))) tYes (tTup (tCons (tVar 2) (tCons (tVar 3) tNil))) [3, 2] [some (.ref a), none, none, none] H Q := by
  refine ⟨_, rfl, a, ws.map nV, rfl, ?_⟩
  rcases hq with hq | hq
  · refine .inl ⟨hq, fun D nD => lc_it walk_enum (fun i H' => Same H H' ∧ H D = none ∧ ∃ acc, H' D = some (.lst acc) ∧ Ents (PrAt H') acc (leaves 0 (ws.take i))) ⟨same_new nD, nD, [], upd_same, .nil⟩ (fun i H' _ z => z.1.seq hq) ?_ ?_⟩
    · rintro i x H1 H2 hi ⟨sH, nD, acc, hD, hA⟩ ⟨T, x0, y, rfl, nT, rfl, e1, e2⟩
      obtain rfl := Option.some.inj e1
      dsimp only at e2
      rw [List.getElem?_map] at e2
      obtain ⟨w0, hw, rfl⟩ := Option.map_eq_some_iff.mp e2
      have il : i < ws.length := (List.getElem?_eq_some_iff.mp hw).1
      refine ⟨T, _, rfl, SqT.of upd_same, rfl, _, _, rfl, _, _, rfl, rfl, ?_⟩
      dsimp only [gName, List.set]
      refine ⟨rfl, ?_⟩
      unfold tYes
      dsimp only
      rw [if_pos rfl]
      refine ⟨_, rfl, _, rfl, by show 2 ≤ sizeLine; decide, fun p np => ?_⟩
      have s1 := same_new (o := HO.tup [.int (i : Nat), nV w0]) nT
      have s2 := s1.trans (same_new (o := HO.tup [nV w0, .int (i : Nat)]) np)
      have ep : upd (upd H1 T (.tup [.int (i : Nat), nV w0])) p (HO.tup [nV w0, .int (i : Nat)]) p = some (.tup [nV w0, .int (i : Nat)]) := upd_same
      generalize upd (upd H1 T (.tup [.int (i : Nat), nV w0])) p (HO.tup [nV w0, .int (i : Nat)]) = H3 at s2 ep ⊢
      have hD3 := s2 _ _ hD
      have al := hA.len
      have ll : (leaves 0 (ws.take i)).length = i := by rw [leaves_len, List.length_take]; omega
      have sz := sizeLine_eq
      have lst : ws.take (i + 1) = ws.take i ++ [w0] := by rw [List.take_succ, hw]; rfl
      refine ⟨acc, hD3, by omega, fun b o z => ?_, nD, acc ++ [.ref p], upd_same, ?_⟩
      · rw [upd_ne (ne_of_none z nD)]
        exact s2 _ _ (sH _ _ z)
      · rw [lst, leaves_snoc]
        refine Ents.snoc (hA.mono fun _ _ z => (z.ext (ExtN.same s2)).put hD3) (PrAt.put ⟨p, _, rfl, ep, ?_⟩ hD3)
        show V.int (i : Nat) = nV (0 + (ws.take i).length)
        rw [List.length_take, Nat.min_eq_left (Nat.le_of_lt il), Nat.zero_add]
    · rintro H1 ⟨sH, nD, acc, hD, hA⟩
      rw [List.length_map, List.take_length] at hA
      exact next D acc H1 sH hD hA
  · refine .inr ⟨hq, fun D nD => lc_it walk_enumT (fun i H' => Same H H' ∧ H D = none ∧ ∃ acc, H' D = some (.lst acc) ∧ Ents (PrAt H') acc (leaves 0 (ws.take i))) ⟨same_new nD, nD, [], upd_same, .nil⟩ (fun i H' _ z => same_seqT z.1 hq) ?_ ?_⟩
    · rintro i x H1 H2 hi ⟨sH, nD, acc, hD, hA⟩ ⟨T, x0, y, rfl, nT, rfl, e1, e2⟩
      obtain rfl := Option.some.inj e1
      dsimp only at e2
      rw [List.getElem?_map] at e2
      obtain ⟨w0, hw, rfl⟩ := Option.map_eq_some_iff.mp e2
      have il : i < ws.length := (List.getElem?_eq_some_iff.mp hw).1
      refine ⟨T, _, rfl, SqT.of upd_same, rfl, _, _, rfl, _, _, rfl, rfl, ?_⟩
      dsimp only [gName, List.set]
      refine ⟨rfl, ?_⟩
      unfold tYes
      dsimp only
      rw [if_pos rfl]
      refine ⟨_, rfl, _, rfl, by show 2 ≤ sizeLine; decide, fun p np => ?_⟩
      have s1 := same_new (o := HO.tup [.int (i : Nat), nV w0]) nT
      have s2 := s1.trans (same_new (o := HO.tup [nV w0, .int (i : Nat)]) np)
      have ep : upd (upd H1 T (.tup [.int (i : Nat), nV w0])) p (HO.tup [nV w0, .int (i : Nat)]) p = some (.tup [nV w0, .int (i : Nat)]) := upd_same
      generalize upd (upd H1 T (.tup [.int (i : Nat), nV w0])) p (HO.tup [nV w0, .int (i : Nat)]) = H3 at s2 ep ⊢
      have hD3 := s2 _ _ hD
      have al := hA.len
      have ll : (leaves 0 (ws.take i)).length = i := by rw [leaves_len, List.length_take]; omega
      have sz := sizeLine_eq
      have lst : ws.take (i + 1) = ws.take i ++ [w0] := by rw [List.take_succ, hw]; rfl
      refine ⟨acc, hD3, by omega, fun b o z => ?_, nD, acc ++ [.ref p], upd_same, ?_⟩
      · rw [upd_ne (ne_of_none z nD)]
        exact s2 _ _ (sH _ _ z)
      · rw [lst, leaves_snoc]
        refine Ents.snoc (hA.mono fun _ _ z => (z.ext (ExtN.same s2)).put hD3) (PrAt.put ⟨p, _, rfl, ep, ?_⟩ hD3)
        show V.int (i : Nat) = nV (0 + (ws.take i).length)
        rw [List.length_take, Nat.min_eq_left (Nat.le_of_lt il), Nat.zero_add]
    · rintro H1 ⟨sH, nD, acc, hD, hA⟩
      rw [List.length_map, List.take_length] at hA
      exact next D acc H1 sH hD hA
/-- the loop, m pairs left -/
def BoW (a : Addr) (ws : List Nat) (H : Hp) (L : List (Addr × Str)) (m : Nat) (σ : L2.St) (H' : Hp) : Prop :=
  ∃ (y2 : Option V) (lr : Addr) (vs : List V) (ps : List (Nat × Tr)), σ = [some (.ref a), some (.ref lr), y2, none] ∧ m = ps.length ∧ ExtN H H' ∧ Tabs L H' ∧ H' lr = some (.lst vs) ∧ Ents (PrAt H') vs ps ∧ Joined ws ps ∧ 0 < ps.length ∧ ps.length ≤ 60
/-- figures beside an order, for terms -/
def Gives (H : Hp) (r : Addr) (W : Nat) (T : Tr) : Prop := PrAt H (.ref r) (W, T)
def spBo (K : PySem.W.Frag) (Pa Pb : Addr) (qb : Str) : Sp := fun vs H Q _ => ∃ (a : Addr) (ws : List Nat), vs = [.ref a] ∧ (SqL K H a (ws.map nV) ∨ SqT K H a (ws.map nV)) ∧ 0 < ws.length ∧ ws.length ≤ 60 ∧ Tabs (Tbs Pa Pb qb) H ∧
  ∀ (r : Addr) (W : Nat) (T : Tr) (H' : Hp), ExtN H H' → Tabs (Tbs Pa Pb qb) H' → Gives H' r W T → Joined ws [(W, T)] → Q (.ref r) H'
theorem ok_bo {c0 : Addr} (A : AtC K mg "_best_order" pBo ["wholes"] c0) (TB : TabB base mg c0 Pa) (nP : Pa ≠ Pb) (B : Blt mg) (mE : mg "enumerate" = none) (mSt : mg "sorted" = none) : DefOk P w K mg base CX0 "_best_order" 3 ["wholes"] (spBo K Pa Pb qb) := by
  obtain ⟨g, oc, od0, kV, doc, pm, an, ct, osl, lk, hcd, gm, kp, bd⟩ := A.ex
  refine ⟨g, _, fn_of lk hcd scBo (fun vs H Q E h => ?_) (fun A outer s0 H vs Q E hr h => ?_), gm, kp, bd⟩
  · obtain ⟨a, ws, rfl, _⟩ := h
    rfl
  · obtain ⟨a, ws, rfl, hq, hpos, hlen, hT, q⟩ := h
    have nd := scBo.nd
    have hm : (Pa, q1) ∈ Tbs Pa Pb qb := List.mem_cons_self
    have hu : ∀ p ∈ Tbs Pa Pb qb, p.1 = Pa → p.2 = q1 := fun p hp e => by
      rcases List.mem_cons.mp hp with rfl | hp
      · rfl
      · obtain rfl := List.mem_singleton.mp hp
        exact absurd e.symm nP
    refine ⟨_, pss_cons (ps_setLc (i := 1) (own := [("index", 3), ("whole", 2)]) (g := gTup K 2 (gCons (gName 3) (gCons (gName 2) gNil))) (te := tTup (tCons (tVar 2) (tCons (tVar 3) tNil))) rfl nd rfl rfl rfl (pi_enumA (by rfl) mE (pa_cons (pv 0) pa_nil)) blk1 (fun _ _ _ _ _ => by exact (pg_tup rfl (pgs_cons (pg_name (i := 3) nd rfl (.inl rfl)) (pgs_cons (pg_name (i := 2) nd rfl (.inl rfl)) pgs_nil)))) (fun _ _ _ _ _ => pts_nil) (fun _ _ _ _ _ => by exact (pe_tup (pa_cons (pv 2) (pa_cons (pv 3) pa_nil)))))
      (pss_cons (ps_while (passes_of rfl) (pt_cmpR op_gt (pe_callB call_len_seq (by rfl) B.len PySem.boot_len (pa_cons (pv 1) pa_nil)) pe_int (nomark _)) (pss_cons (ps_set (i := 1) nd rfl (.inl rfl) (pe_callBK (cr_sortE (hr.mono (by decide))) (by rfl) mSt (by decide +kernel) (pa_cons (pv 1) pa_nil) (pk_cons (pe_lamV TB rfl hm hu rfl rfl fr1) pk_nil))) (pss_cons (ps_set (i := 2) nd rfl (.inl rfl) (pe_op op_add (pe_ix ix_tup (pe_ix ix_list (pv 1) pe_int (fun _ _ => rfl)) pe_int (fun _ _ => rfl)) pe_int)) (pss_one (ps_set (i := 1) nd rfl (.inl rfl) (pe_op op_cat (pe_lst (pa_cons (pe_tup (pa_cons (pv 2) (pa_cons (pe_tup (pa_cons (pe_ix ix_tup (pe_ix ix_list (pv 1) pe_int (fun _ _ => rfl)) pe_int (fun _ _ => rfl)) (pa_cons (pe_ix ix_tup (pe_ix ix_list (pv 1) pe_int (fun _ _ => rfl)) pe_int (fun _ _ => rfl)) pa_nil))) pa_nil))) pa_nil)) (pe_slice sl_list (pv 1) (po_some pe_int) po_none)))))))
      (pss_one (ps_ret (pe_ix ix_list (pv 1) pe_int (fun _ _ => rfl))))), ?_⟩
    refine seq_asg (lc_leaves hq hlen fun D acc H1 s1 hD hA => ?_)
    dsimp only [gName, List.set]
    refine ⟨BoW a ws H (Tbs Pa Pb qb), ⟨_, none, D, acc, leaves 0 ws, rfl, rfl, ExtN.same s1, hT.ext s1, hD, hA, leaves_ok ws, by rw [leaves_len]; exact hpos, by rw [leaves_len]; exact hlen⟩, ?_⟩
    rintro m σ H2 ⟨y2, lr, vs, ps, rfl, rfl, x2, T2, hl, hE, J, p0, p60⟩
    have vl := hE.len
    refine ⟨_, rfl, lr, vs, rfl, .inl (SqL.of hl), _, _, rfl, rfl, _, rfl, ?_⟩
    refine ite2 (fun e => ?_) (fun e => ?_)
    rotate_left
    · -- one is left
      have e1 : ¬ (1 : Int) < (vs.length : Int) := fun z => e (decide_eq_true z)
      obtain ⟨p, rfl⟩ : ∃ p, ps = [p] := List.length_eq_one_iff.mp (by omega)
      cases hE with
      | cons r t =>
        cases t
        obtain ⟨q0, o, rfl, e2, e3⟩ := r
        exact ⟨_, rfl, lr, _, 0, _, rfl, rfl, SqL.of hl, atI_nat (j := 0) rfl, q q0 p.1 p.2 H2 x2 T2 ⟨q0, o, rfl, e2, e3⟩ J⟩
    have e1 : (1 : Int) < (vs.length : Int) := of_decide_eq_true e
    refine ⟨fun σ' H' => ∃ m', m' < ps.length ∧ BoW a ws H (Tbs Pa Pb qb) m' σ' H', fun _ _ z => z, ?_⟩
    obtain ⟨z1, z2, z3⟩ := ents_zip hE
    refine ⟨_, rfl, T2, fun f1 c1 H3 x3 T3 _ l1 d1 => ⟨_, _, _, lr, f1, V × Nat × Tr, (·.1), fun z => ((z.2.1 : Nat) : Int), vs.zip ps, rfl, rfl, by rw [z1]; exact x3 _ _ hl (fun ps z => by cases z), l1, d1, fst1, fun p hp => ?_, fun fs p hperm hpw np => ?_⟩⟩
    · obtain ⟨q0, o, e2, e3, _⟩ := z3 p hp
      exact ⟨q0, [o], e2, x3 _ _ e3 (fun ps z => by cases z)⟩
    have flen : fs.length = ps.length := by
      rw [← hperm.length_eq, List.length_zip]
      omega
    obtain ⟨⟨v0, w0, T0⟩, ⟨v1, w1, T1⟩, fr, rfl⟩ : ∃ a b r, fs = a :: b :: r := by
      rcases fs with _ | ⟨a, _ | ⟨b, r⟩⟩
      · rw [List.length_nil] at flen; omega
      · rw [List.length_singleton] at flen; omega
      · exact ⟨a, b, r, rfl⟩
    have hP : List.Perm ps ((w0, T0) :: (w1, T1) :: fr.map (·.2)) := by
      have := hperm.map (·.2)
      rwa [z2] at this
    rw [List.pairwise_cons, List.pairwise_cons] at hpw
    obtain ⟨pw0, pw1, _⟩ := hpw
    have sN := same_new (o := HO.lst ((((v0, w0, T0) :: (v1, w1, T1) :: fr) : List (V × Nat × Tr)).map (·.1))) np
    have el : upd H3 p (HO.lst ((((v0, w0, T0) :: (v1, w1, T1) :: fr) : List (V × Nat × Tr)).map (·.1))) p = some (.lst (v0 :: v1 :: fr.map (·.1))) := upd_same
    have xA : ExtN H2 (upd H3 p (HO.lst ((((v0, w0, T0) :: (v1, w1, T1) :: fr) : List (V × Nat × Tr)).map (·.1)))) := x3.trans (ExtN.same sN)
    have TA := T3.ext sN
    have rows : ∀ q ∈ (((v0, w0, T0) :: (v1, w1, T1) :: fr) : List (V × Nat × Tr)), PrAt (upd H3 p (HO.lst ((((v0, w0, T0) :: (v1, w1, T1) :: fr) : List (V × Nat × Tr)).map (·.1)))) q.1 q.2 := fun q hq => (z3 q (hperm.symm.subset hq)).ext xA
    generalize upd H3 p (HO.lst ((((v0, w0, T0) :: (v1, w1, T1) :: fr) : List (V × Nat × Tr)).map (·.1))) = H4 at el xA TA rows ⊢
    clear sN np x3 T3 l1 d1 hperm z1 z2 z3 hl hE T2
    obtain ⟨q0, o0, rfl, e0, f0⟩ := rows _ List.mem_cons_self
    obtain ⟨q1', o1, rfl, e1', f1'⟩ := rows _ (List.mem_cons_of_mem _ List.mem_cons_self)
    have rest : ∀ q ∈ fr, PrAt H4 q.1 q.2 := fun q hq => rows q (List.mem_cons_of_mem _ (List.mem_cons_of_mem _ hq))
    clear rows
    dsimp only at e0 f0 e1' f1'
    dsimp only [gName, List.set]
    refine ⟨_, rfl, p, _, 1, _, rfl, rfl, SqL.of el, atI_nat (j := 1) rfl, q1', _, 0, _, rfl, rfl, SqT.of e1', rfl, _, _, rfl, rfl, ?_⟩
    dsimp only [gName, List.set]
    rw [show ((w1 : Nat) : Int) + 1 = ((w1 + 1 : Nat) : Int) by omega]
    refine ⟨_, rfl, _, rfl, p, _, 0, _, rfl, rfl, SqL.of el, atI_nat (j := 0) rfl, q0, _, 1, _, rfl, rfl, SqT.of e0, rfl, _, rfl, p, _, 1, _, rfl, rfl, SqL.of el, atI_nat (j := 1) rfl, q1', _, 1, _, rfl, rfl, SqT.of e1', rfl, by show 2 ≤ sizeLine; decide, fun a1 n1 => ?_⟩
    have t1 := same_new (o := HO.tup [o0, o1]) n1
    have g1 : upd H4 a1 (HO.tup [o0, o1]) a1 = some (.tup [o0, o1]) := upd_same
    have o1At : OrdAt (upd H4 a1 (HO.tup [o0, o1])) (.node T0 T1) (.ref a1) := ⟨a1, o0, o1, rfl, g1, f0.ext (ExtN.same t1), f1'.ext (ExtN.same t1)⟩
    generalize upd H4 a1 (HO.tup [o0, o1]) = H5 at t1 g1 o1At ⊢
    refine ⟨by show 2 ≤ sizeLine; decide, fun a2 n2 => ?_⟩
    have t2 := same_new (o := HO.tup [nV (w1 + 1), .ref a1]) n2
    have new : PrAt (upd H5 a2 (HO.tup [nV (w1 + 1), .ref a1])) (.ref a2) (w1 + 1, .node T0 T1) := ⟨a2, _, rfl, upd_same, o1At.ext (ExtN.same t2)⟩
    generalize upd H5 a2 (HO.tup [nV (w1 + 1), .ref a1]) = H6 at t2 new ⊢
    refine ⟨by show 1 ≤ sizeLine; decide, fun a3 n3 => ?_⟩
    have t3 := same_new (o := HO.lst [.ref a2]) n3
    have g3 : upd H6 a3 (HO.lst [.ref a2]) a3 = some (.lst [.ref a2]) := upd_same
    generalize upd H6 a3 (HO.lst [.ref a2]) = H7 at t3 g3 ⊢
    have el7 := (t1.trans (t2.trans t3)) _ _ el
    refine ⟨_, rfl, 2, rfl, p, _, rfl, SqL.of el7, fun a4 n4 => ?_⟩
    rw [show cutV (V.ref q0 :: V.ref q1' :: fr.map (·.1)) (some 2) none = fr.map (·.1) from cut_from (k := 2) (by simp only [List.length_cons]; omega)]
    have t4 := same_new (o := HO.lst (fr.map (·.1))) n4
    have g4 : upd H7 a4 (HO.lst (fr.map (·.1))) a4 = some (.lst (fr.map (·.1))) := upd_same
    generalize upd H7 a4 (HO.lst (fr.map (·.1))) = H8 at t4 g4 ⊢
    have frl : fr.length + 2 = ps.length := by
      rw [← flen]
      rfl
    have sz := sizeLine_eq
    refine ⟨a3, a4, _, _, rfl, rfl, t4 _ _ g3, g4, by rw [List.length_map, List.length_singleton]; omega, fun a5 n5 => ?_⟩
    have t5 := same_new (o := HO.lst ([.ref a2] ++ fr.map (·.1))) n5
    have x45 : ExtN H4 (upd H8 a5 (HO.lst ([.ref a2] ++ fr.map (·.1)))) := ExtN.same ((t1.trans (t2.trans t3)).trans (t4.trans t5))
    have T8 := TA.ext ((t1.trans (t2.trans t3)).trans (t4.trans t5))
    dsimp only [gName, List.set]
    refine ⟨ps.length - 1, by omega, _, a5, _, (w1 + 1, .node T0 T1) :: fr.map (·.2), rfl, by rw [List.length_cons, List.length_map]; omega, (x2.trans xA).trans x45, T8, upd_same, .cons (new.ext (ExtN.same (t3.trans (t4.trans t5)))) ?_, (J.perm hP).step (by have := pw0 (V.ref q1', w1, T1) List.mem_cons_self; dsimp only at this; omega) fun r hr => ?_, by rw [List.length_cons]; omega, by rw [List.length_cons, List.length_map]; omega⟩
    · have all : ∀ l : List (V × Nat × Tr), (∀ q ∈ l, PrAt H4 q.1 q.2) → Ents (PrAt (upd H8 a5 (HO.lst ([.ref a2] ++ fr.map (·.1))))) (l.map (·.1)) (l.map (·.2)) := by
        intro l
        induction l with
        | nil => exact fun _ => .nil
        | cons z l ih => exact fun hl => .cons ((hl z List.mem_cons_self).ext x45) (ih fun y hy => hl y (List.mem_cons_of_mem _ hy))
      exact all fr rest
    · obtain ⟨z, hz, rfl⟩ := List.mem_map.mp hr
      have := pw1 z hz
      dsimp only at this
      omega
end
end K25

/-! k25: the program: the best brackets. -/
namespace K25
open PySem PySem.Spec PyProof.Rows L2 LamX NdefX Own
def rMx : List V → Hp → VK → Prop := fun xs H Q => ∃ i j, xs = [.int i, .int j] ∧ Q (.int (if i < j then j else i)) H
section
variable {X : Cx}
theorem cr_bestE (up : Bool) {id : String} (hid : id = if up = true then "max" else "min") (hc : X.calm = true) (hr : Room 1 X.A) : CallRK X (.builtin id) [Str.ofString "key"] (fun vs zs H Q => ∃ (F : NF) (b : Expr) (x : Str), rBestKey up F b x vs zs H Q) := by
  intro pins s σ H vs zs us ws Q I r rz h
  obtain ⟨F, b, x, h⟩ := h
  exact cr_bestKey up hid hc hr pins s σ H vs zs us ws Q I r rz h
end
theorem lc_ent {β γ : Type} {K : PySem.W.Frag} {a D : Addr} {rs : List V} {es : List β} {R : Hp → V → β → Prop} {S : Hp → V → γ → Prop} {out : β → γ} {cnd : β → Bool} {g : TG} {tt : TT} {te : TE} {vs : List Nat} {σ : L2.St} {H1 : Hp} {Qd : Hp → Prop}
    (hl : H1 a = some (.lst rs)) (hE : Ents (R H1) rs es) (nD : H1 D = none) (hlen : es.length ≤ 1000)
    (Rm : ∀ H H' x e, R H x e → Same H H' → R H' x e) (Sm : ∀ H H' x e, S H x e → Same H H' → S H' x e) (Sp : ∀ H x e (o : HO) (l : List V), S H x e → H D = some (.lst l) → S (upd H D o) x e)
    (step : ∀ x e H' (Nx : V → Hp → Prop) (No : Hp → Prop), e ∈ es → Same H1 H' → R H' x e → (cnd e = true → ∀ y H2, Same H' H2 → S H2 y (out e) → Nx y H2) → (cnd e = false → No H') →
      g x (wipe σ vs) H' fun σ2 H2 => wipe σ2 vs = wipe σ vs ∧ tt σ2 H2 fun b H3 => if b = true then te σ2 H3 Nx else No H3)
    (q : ∀ H' ys, Same H1 H' → H' D = some (.lst ys) → Ents (S H') ys ((es.filter cnd).map out) → Qd H') :
    ∃ W : Nat → Nat → Hp → Prop, (∃ m, W 0 m (upd H1 D (.lst []))) ∧ ∀ i m H, W i m H →
      ((Itl K a).stop i H ∧ Qd H) ∨ ((Itl K a).go i H ∧ ∃ Nx : Hp → Prop, (∀ H', Nx H' → ∃ m', m' < m ∧ W (i + 1) m' H') ∧ ∀ x H', (Itl K a).yld i H x H' → g x (wipe σ vs) H' fun σ2 H2 => wipe σ2 vs = wipe σ vs ∧ tt σ2 H2 fun b H3 =>
        if b = true then te σ2 H3 fun y H4 => ∃ acc, H4 D = some (.lst acc) ∧ acc.length < sizeLine ∧ Nx (upd H4 D (.lst (acc ++ [y]))) else Nx H3) := by
  have len := hE.len
  have small : ∀ i, ((es.take i).filter cnd).length ≤ 1000 := fun i => by
    have := List.length_filter_le cnd (es.take i)
    rw [List.length_take] at this
    omega
  refine lc_list (fun i H' => Same H1 H' ∧ ∃ ys, H' D = some (.lst ys) ∧ Ents (S H') ys (((es.take i).filter cnd).map out)) ⟨same_new nD, [], upd_same, by rw [List.take_zero]; exact .nil⟩ (fun i H' _ z => SqL.of (z.1 _ _ hl)) ?_ ?_
  · rintro i x H' hx ⟨s1, ys, hD, hA⟩
    obtain ⟨e, he, r⟩ := hE.get hx
    have tk : es.take (i + 1) = es.take i ++ [e] := by rw [List.take_succ, he]; rfl
    refine step x e H' _ _ (List.mem_of_getElem? he) s1 (Rm _ _ _ _ r s1) (fun hc y H2 s2 hs => ?_) fun hc => ⟨s1, ys, hD, ?_⟩
    · have hD2 := s2 _ _ hD
      refine ⟨ys, hD2, ?_, ?_, ys ++ [y], upd_same, ?_⟩
      · have h1 := hA.len
        rw [List.length_map] at h1
        have := small i
        have := sizeLine_eq
        omega
      · intro b u eb
        rw [upd_ne (ne_of_none eb nD)]
        exact s2 _ _ (s1 _ _ eb)
      · rw [tk, List.filter_append, List.filter_cons, hc, if_pos rfl, List.map_append]
        exact Ents.snoc (hA.mono fun _ _ z => Sp _ _ _ _ _ (Sm _ _ _ _ z s2) hD2) (Sp _ _ _ _ _ hs hD2)
    · rw [tk, List.filter_append, List.filter_cons, hc, if_neg (by decide), List.filter_nil, List.append_nil]
      exact hA
  · rintro H' ⟨s1, ys, hD, hA⟩
    rw [show es.take rs.length = es by rw [len]; exact List.take_length] at hA
    exact q H' ys s1 hD hA
/-- two orders side by side, with their figures -/
def TwoAt (H : Hp) (v : V) (e : (Nat × Tr) × Nat × Tr) : Prop := ∃ (p q1 q2 : Addr), v = .ref p ∧ H p = some (.tup [.ref q1, .ref q2]) ∧ PrAt H (.ref q1) e.1 ∧ PrAt H (.ref q2) e.2
theorem TwoAt.ext {H H' : Hp} {v : V} {e : (Nat × Tr) × Nat × Tr} (h : TwoAt H v e) (x : ExtN H H') : TwoAt H' v e := by
  obtain ⟨p, q1, q2, e1, e2, e3, e4⟩ := h
  exact ⟨p, q1, q2, e1, x _ _ e2 (fun ps z => by cases z), e3.ext x, e4.ext x⟩
theorem TwoAt.put {H : Hp} {v : V} {e : (Nat × Tr) × Nat × Tr} {D : Addr} {xs : List V} {o : HO} (h : TwoAt H v e) (hD : H D = some (.lst xs)) : TwoAt (upd H D o) v e := by
  obtain ⟨p, q1, q2, e1, e2, e3, e4⟩ := h
  exact ⟨p, q1, q2, e1, (upd_ne (ne_of e2 hD (by intro z; cases z))).trans e2, e3.put hD, e4.put hD⟩
theorem OrdAt.dic {H : Hp} {D : Addr} {kvs : List (List Key × V)} {o : HO} (hD : H D = some (.dT kvs)) : ∀ {T : Tr} {v : V}, OrdAt H T v → OrdAt (upd H D o) T v
  | .leaf _, _, h => h
  | .node l r, _, ⟨p, a, b, e1, e2, e3, e4⟩ => ⟨p, a, b, e1, (upd_ne (ne_of e2 hD (by intro z; cases z))).trans e2, OrdAt.dic hD e3, OrdAt.dic hD e4⟩
theorem PrAt.dic {H : Hp} {v : V} {e : Nat × Tr} {D : Addr} {kvs : List (List Key × V)} {o : HO} (h : PrAt H v e) (hD : H D = some (.dT kvs)) : PrAt (upd H D o) v e := by
  obtain ⟨q, o, e1, e2, e3⟩ := h
  exact ⟨q, o, e1, (upd_ne (ne_of e2 hD (by intro z; cases z))).trans e2, e3.dic hD⟩
abbrev kI (i : Nat) : Key := Sum.inl ((i : Nat) : Int)
/-- the best brackets of a stretch -/
structure Best (ws : List Nat) (f s : Nat) (e : Nat × Tr) : Prop where
  ix : e.2.idx = List.range' f s
  fg : e.2.figs ws = e.1
  op : Opt ws f s e.1
theorem best_leaf {ws : List Nat} {f w : Nat} (h : ws[f]? = some w) : Best ws f 1 (w, .leaf f) := by
  have e : ws.getD f 0 = w := by rw [List.getD_eq_getElem?_getD, h]; rfl
  refine ⟨rfl, e, ?_⟩
  have := opt_leaf ws f
  rwa [e] at this
/-- which stretches the dict holds -/
def Holds (ws : List Nat) (H : Hp) (D : Addr) (C : Nat) (done : Nat → Nat → Prop) : Prop := ∃ kvs : List (List Key × V), H D = some (.dT kvs) ∧ kvs.length ≤ C ∧
  ∀ f s, 1 ≤ s → f + s ≤ ws.length → done f s → ∃ (q : Addr) (e : Nat × Tr), valV kvs [kI f, kI (f + s - 1)] = some (.ref q) ∧ PrAt H (.ref q) e ∧ Best ws f s e
theorem Holds.ext {ws : List Nat} {H H' : Hp} {D : Addr} {C : Nat} {done : Nat → Nat → Prop} (h : Holds ws H D C done) (x : ExtN H H') : Holds ws H' D C done := by
  obtain ⟨kvs, hD, hl, hk⟩ := h
  refine ⟨kvs, x _ _ hD (fun ps z => by cases z), hl, fun f s h1 h2 h3 => ?_⟩
  obtain ⟨q, e, e1, e2, e3⟩ := hk f s h1 h2 h3
  exact ⟨q, e, e1, e2.ext x, e3⟩
theorem Holds.less {ws : List Nat} {H : Hp} {D : Addr} {C C' : Nat} {done done' : Nat → Nat → Prop} (h : Holds ws H D C done) (hc : C ≤ C') (hd : ∀ f s, 1 ≤ s → f + s ≤ ws.length → done' f s → done f s) : Holds ws H D C' done' := by
  obtain ⟨kvs, hD, hl, hk⟩ := h
  exact ⟨kvs, hD, by omega, fun f s h1 h2 h3 => hk f s h1 h2 (hd f s h1 h2 h3)⟩
theorem Holds.put {ws : List Nat} {H : Hp} {D q : Addr} {C f s : Nat} {done : Nat → Nat → Prop} {kvs : List (List Key × V)} {e : Nat × Tr} (h : Holds ws H D C done) (hD : H D = some (.dT kvs)) (hq : PrAt H (.ref q) e) (hb : Best ws f s e) (s1 : 1 ≤ s) :
    Holds ws (upd H D (.dT (putK kvs [kI f, kI (f + s - 1)] (.ref q)))) D (C + 1) (fun f' s' => done f' s' ∨ (f' = f ∧ s' = s)) := by
  obtain ⟨kvs2, hD2, hl, hk⟩ := h
  rw [hD] at hD2
  cases hD2
  refine ⟨_, upd_same, by have := length_putK kvs [kI f, kI (f + s - 1)] (.ref q); omega, fun f' s' h1 h2 h3 => ?_⟩
  rw [valV_put]
  by_cases z : [kI f', kI (f' + s' - 1)] = [kI f, kI (f + s - 1)]
  · rw [if_pos z]
    have z1 : f' = f := by
      have := Sum.inl.inj (List.cons.inj z).1
      omega
    have z2 : s' = s := by
      have := Sum.inl.inj (List.cons.inj (List.cons.inj z).2).1
      omega
    rw [z1, z2]
    exact ⟨q, e, rfl, hq.dic hD, hb⟩
  · rw [if_neg z]
    rcases h3 with h3 | ⟨rfl, rfl⟩
    · obtain ⟨q', e', e1, e2, e3⟩ := hk f' s' h1 h2 h3
      exact ⟨q', e', e1, e2.dic hD, e3⟩
    · exact absurd rfl z
theorem best_node {ws : List Nat} {f L i0 : Nat} {es : List ((Nat × Tr) × Nat × Tr)} {e0 : (Nat × Tr) × Nat × Tr} (hes : es.length = L) (h : ∀ m, m < L → ∃ e, es[m]? = some e ∧ Best ws f (m + 1) e.1 ∧ Best ws (f + m + 1) (L - m) e.2) (h0 : es[i0]? = some e0) (hmin : ∀ e ∈ es, max e0.1.1 e0.2.1 ≤ max e.1.1 e.2.1) :
    Best ws f (L + 1) (max e0.1.1 e0.2.1 + 1, .node e0.1.2 e0.2.2) := by
  have i0L : i0 < L := by
    have := (List.getElem?_eq_some_iff.mp h0).1
    omega
  obtain ⟨e, he, b1, b2⟩ := h i0 i0L
  rw [h0] at he
  obtain rfl := Option.some.inj he
  refine ⟨?_, ?_, ?_⟩
  · show e0.1.2.idx ++ e0.2.2.idx = List.range' f (L + 1)
    rw [b1.ix, b2.ix]
    have := List.range'_append_1 (s := f) (m := i0 + 1) (n := L - i0)
    rw [show i0 + 1 + (L - i0) = L + 1 by omega] at this
    exact this
  · show max (e0.1.2.figs ws) (e0.2.2.figs ws) + 1 = max e0.1.1 e0.2.1 + 1
    rw [b1.fg, b2.fg]
  · refine opt_node (a := fun k => (es[k - 1]?).elim 0 fun e => e.1.1) (b := fun k => (es[k - 1]?).elim 0 fun e => e.2.1) (by omega) (fun k k1 k2 => ?_) ⟨i0 + 1, by omega, by omega, ?_⟩ fun k k1 k2 => ?_
    · obtain ⟨e, he, c1, c2⟩ := h (k - 1) (by omega)
      try dsimp only
      rw [he]
      have o1 := c1.op
      have o2 := c2.op
      rw [show k - 1 + 1 = k by omega] at o1
      rw [show f + (k - 1) + 1 = f + k by omega, show L - (k - 1) = L + 1 - k by omega] at o2
      exact ⟨o1, o2⟩
    · try dsimp only
      rw [show i0 + 1 - 1 = i0 by omega, h0]
      rfl
    · obtain ⟨e, he, c1, c2⟩ := h (k - 1) (by omega)
      try dsimp only
      rw [he]
      exact Nat.succ_le_succ (hmin e (List.mem_of_getElem? he))
theorem seq_extN {K : PySem.W.Frag} {H H' : Hp} {a : Addr} {xs : List V} (x : ExtN H H') (h : SqL K H a xs) : SqL K H' a xs := by
  rcases h with (h | ⟨o, h⟩) | h
  · exact .inl (.inl (x _ _ h (by intro ps z; cases z)))
  · exact .inl (.inr ⟨o, x _ _ h (by intro ps z; cases z)⟩)
  · exact .inr h
theorem tabs_dic {T : List (Addr × Str)} {H : Hp} {D : Addr} {kvs : List (List Key × V)} {o : HO} (h : Tabs T H) (hD : H D = some (.dT kvs)) : Tabs T (upd H D o) := fun p hq => by
  obtain ⟨ps, h1, h2, h3⟩ := h p hq
  refine ⟨ps, (upd_ne (ne_of h1 hD (by intro z; cases z))).trans h1, h2, fun pos cv hc => ?_⟩
  obtain ⟨c, e1, e2⟩ := h3 pos cv hc
  exact ⟨c, e1, (upd_ne (ne_of e2 hD (by unfold CodeO; intro z; cases z))).trans e2⟩
theorem ext_over {H H' : Hp} {D : Addr} {o : HO} (x : ExtN H H') (n : H D = none) : ExtN H (upd H' D o) := fun b u e t => by
  rw [upd_ne (ne_of_none e n)]
  exact x b u e t
theorem dget_at {H : Hp} {D p q : Addr} {kvs : List (List Key × V)} {a b : Nat} {x y : Int} (hD : H D = some (.dT kvs)) (hp : H p = some (.tup [.int x, .int y])) (ex : x = (a : Nat)) (ey : y = (b : Nat)) (hv : valV kvs [kI a, kI b] = some (.ref q)) : DGet H D (.ref p) (some (.ref q)) := by
  subst ex ey
  have z := DGet.t (k := [kI a, kI b]) hD hp
  rwa [hv] at z
abbrev pBb : Stmt := topS 6
abbrev nBb : List Str := ["wholes", "best", "longer", "first", "last", "pairs", "orders", "index", "whole", "middle", "one", "other"]
def dputV : Stmt → Expr
  | .Assign _ v _ => v
  | _ => .Constant .none 0 ⟨0, 0, 0, 0⟩
abbrev lx2 : Expr := kwE (dputV (lpB 3 (lpB 0 (inD pBb 1))))
theorem blk2 : BlkOk nBb (defScope pBb) (lcScope (asgV (inD pBb 0))) [("index", 7), ("whole", 8)] := blkOk_by (by decide +kernel)
theorem blk3 : BlkOk nBb (defScope pBb) (lcScope (asgV (lpB 1 (lpB 0 (inD pBb 1))))) [("middle", 9)] := blkOk_by (by decide +kernel)
theorem blk4 : BlkOk nBb (defScope pBb) (lcScope (asgV (lpB 2 (lpB 0 (inD pBb 1))))) [("one", 10), ("other", 11)] := blkOk_by (by decide +kernel)
theorem ns2 : NScope ["told"] ["told"] [] (lamScope lx2) := nscope_by (by decide +kernel)
theorem fr2 : ∀ y ∈ (lamScope lx2).names, y.2 = .free → (defScope pBb).names.lookup y.1 = some .cell ∨ (defScope pBb).names.lookup y.1 = some .free := by decide +kernel
def q2 : Str := (envOfC "_best_brackets" (defScope pBb) 0 0 .none).qual ++ "<lambda>"
section
variable {X : Cx}
theorem fst2 {c' : Addr} : FstL (lamF X (lamArgs lx2) (lamScope lx2) c') (lamBody lx2) "told" := ⟨ns2, ⟨_, _, _, _, rfl⟩, by decide +kernel, rfl, fun doc pm ctv s u => .of_eq rfl⟩
end
section
variable {P : Program} {w : World} {K : PySem.W.Frag} {mg : Str → Option Value} {base : Heap} {Pa Pb : Addr}
theorem scBb : FnScope nBb ["wholes"] (defScope pBb) := ⟨rfl, rfl, rfl, by decide +kernel, rfl, by decide +kernel, by decide +kernel⟩
def spBb (K : PySem.W.Frag) (Pa Pb : Addr) : Sp := fun vs H Q _ => ∃ (a : Addr) (ws : List Nat), vs = [.ref a] ∧ SqL K H a (ws.map nV) ∧ 0 < ws.length ∧ ws.length ≤ 60 ∧ Tabs (Tbs Pa Pb q2) H ∧
  ∀ (r : Addr) (W : Nat) (T : Tr) (H' : Hp), ExtN H H' → Tabs (Tbs Pa Pb q2) H' → Gives H' r W T → Best ws 0 ws.length (W, T) → Q (.ref r) H'
theorem ok_bb {c0 : Addr} (A : AtC K mg "_best_brackets" pBb ["wholes"] c0) (TB : TabB base mg c0 Pb) (nP : Pa ≠ Pb) (B : Blt mg) (mE : mg "enumerate" = none) : DefOk P w K mg base CX0 "_best_brackets" 3 ["wholes"] (spBb K Pa Pb) := by
  obtain ⟨g, oc, od0, kV, doc, pm, an, ct, osl, lk, hcd, gm, kp, bd⟩ := A.ex
  refine ⟨g, _, fn_of lk hcd scBb (fun vs H Q E h => ?_) (fun A outer s0 H vs Q E hr h => ?_), gm, kp, bd⟩
  · obtain ⟨a, ws, rfl, _⟩ := h
    rfl
  · obtain ⟨a, ws, rfl, hq, hpos, hlen, hT, q⟩ := h
    have nd := scBb.nd
    have hu := hu_of hr
    have hm : (Pb, q2) ∈ Tbs Pa Pb q2 := List.mem_of_getElem? (i := 1) rfl
    have hu2 : ∀ p ∈ Tbs Pa Pb q2, p.1 = Pb → p.2 = q2 := fun p hp e => by
      rcases List.mem_cons.mp hp with rfl | hp
      · exact absurd e nP
      · obtain rfl := List.mem_singleton.mp hp
        rfl
    refine ⟨_, pss_cons (ps_set (i := 1) nd rfl (.inr rfl) (pe_dcT (own := [("index", 7), ("whole", 8)]) (g := gTup K 2 (gCons (gName 7) (gCons (gName 8) gNil))) (tk := tTup (tCons (tVar 7) (tCons (tVar 7) tNil))) (tv := tTup (tCons (tVar 8) (tCons (tVar 7) tNil))) rfl hu nd (pi_enumA (by rfl) mE (pa_cons (pv 0) pa_nil)) blk2 (fun _ _ _ _ _ => by exact (pg_tup rfl (pgs_cons (pg_name (i := 7) nd rfl (.inl rfl)) (pgs_cons (pg_name (i := 8) nd rfl (.inl rfl)) pgs_nil)))) (fun _ _ _ _ _ => by exact (pe_tup (pa_cons (pv 7) (pa_cons (pv 7) pa_nil)))) (fun _ _ _ _ _ => by exact (pe_tup (pa_cons (pv 8) (pa_cons (pv 7) pa_nil))))))
      (pss_cons (ps_for (passes_of rfl) rfl (pi_range2 (by rfl) B.range (pa_cons pe_int (pa_cons (pe_callB call_len_seq (by rfl) B.len PySem.boot_len (pa_cons (pv 0) pa_nil)) pa_nil))) (pg_name (i := 2) nd rfl (.inl rfl)) (pss_one (ps_for (passes_of rfl) rfl (pi_range1 (by rfl) B.range (pa_cons (pe_op op_sub (pe_callB call_len_seq (by rfl) B.len PySem.boot_len (pa_cons (pv 0) pa_nil)) (pv 2)) pa_nil)) (pg_name (i := 3) nd rfl (.inr rfl)) (pss_cons (ps_set (i := 4) nd rfl (.inr rfl) (pe_op op_add (pv 3) (pv 2))) (pss_cons (ps_setLc (i := 5) (own := [("middle", 9)]) (te := tTup (tCons (tDGet (tVar 1) (tTup (tCons (tVar 3) (tCons (tVar 9) tNil)))) (tCons (tDGet (tVar 1) (tTup (tCons (tOp (rI0 fun i j => .int (i + j)) (tVar 9) (tC (.int 1))) (tCons (tVar 4) tNil)))) tNil))) rfl nd rfl rfl rfl (pi_range2 (by rfl) B.range (pa_cons (pv 3) (pa_cons (pv 4) pa_nil))) blk3 (fun _ _ _ _ _ => (pg_name (i := 9) nd rfl (.inl rfl))) (fun _ _ _ _ _ => pts_nil) (fun _ _ _ _ _ => by exact (pe_tup (pa_cons (pe_dget hu (pv 1) (pe_tup (pa_cons (pv 3) (pa_cons (pv 9) pa_nil))) (fun _ _ => rfl)) (pa_cons (pe_dget hu (pv 1) (pe_tup (pa_cons (pe_op op_add (pv 9) pe_int) (pa_cons (pv 4) pa_nil))) (fun _ _ => rfl)) pa_nil))))) (pss_cons (ps_setLc (i := 6) (own := [("one", 10), ("other", 11)]) (g := gTup K 2 (gCons (gName 10) (gCons (gName 11) gNil))) (te := tTup (tCons (tOp (rI0 fun i j => .int (i + j)) (tCB rMx (tCons (tOp (rIxT K) (tVar 10) (tC (.int 0))) (tCons (tOp (rIxT K) (tVar 11) (tC (.int 0))) tNil))) (tC (.int 1))) (tCons (tTup (tCons (tOp (rIxT K) (tVar 10) (tC (.int 1))) (tCons (tOp (rIxT K) (tVar 11) (tC (.int 1))) tNil))) tNil))) rfl nd rfl rfl rfl (pi_list (pv 5)) blk4 (fun _ _ _ _ _ => by exact (pg_tup rfl (pgs_cons (pg_name (i := 10) nd rfl (.inl rfl)) (pgs_cons (pg_name (i := 11) nd rfl (.inl rfl)) pgs_nil)))) (fun _ _ _ _ _ => pts_nil) (fun _ _ _ _ _ => by exact (pe_tup (pa_cons (pe_op op_add (pe_callB (call_max2 rfl) (by rfl) B.max (by decide +kernel) (pa_cons (pe_ix ix_tup (pv 10) pe_int (fun _ _ => rfl)) (pa_cons (pe_ix ix_tup (pv 11) pe_int (fun _ _ => rfl)) pa_nil))) pe_int) (pa_cons (pe_tup (pa_cons (pe_ix ix_tup (pv 10) pe_int (fun _ _ => rfl)) (pa_cons (pe_ix ix_tup (pv 11) pe_int (fun _ _ => rfl)) pa_nil))) pa_nil))))) (pss_one (ps_dput hu (pv 1) (pe_tup (pa_cons (pv 3) (pa_cons (pv 4) pa_nil))) (pe_callBK (cr_bestE false rfl rfl (hr.mono (by decide))) (by rfl) B.min (by decide +kernel) (pa_cons (pv 6) pa_nil) (pk_cons (pe_lamV TB rfl hm hu2 rfl rfl fr2) pk_nil)) rfl))))))))
      (pss_one (ps_ret (pe_dget hu (pv 1) (pe_tup (pa_cons pe_int (pa_cons (pe_op op_sub (pe_callB call_len_seq (by rfl) B.len PySem.boot_len (pa_cons (pv 0) pa_nil)) pe_int) pa_nil))) (fun _ _ => rfl))))), ?_⟩
    have sz := sizeLine_eq
    -- the terms by themselves
    refine ⟨_, rfl, a, _, rfl, .inl ⟨hq, fun D nD => dcT_it walk_enum (fun i H' => Same H H' ∧ H D = none ∧ Holds ws H' D i (fun f s => s = 1 ∧ f < i)) ⟨same_new nD, nD, [], upd_same, Nat.le_refl _, fun f s _ _ z => absurd z.2 (by omega)⟩ (fun i H' _ z => z.1.seq hq) ?_ ?_⟩⟩
    · rintro i x H1 H2 hi ⟨sH, nD, hh⟩ ⟨T, x0, y, rfl, nT, rfl, e1, e2⟩
      obtain rfl := Option.some.inj e1
      dsimp only at e2
      rw [List.getElem?_map] at e2
      obtain ⟨w0, hw, rfl⟩ := Option.map_eq_some_iff.mp e2
      refine ⟨T, _, rfl, SqT.of upd_same, rfl, _, _, rfl, _, _, rfl, rfl, ?_⟩
      dsimp only [gName, List.set]
      refine ⟨rfl, ?_⟩
      unfold tYes
      dsimp only
      rw [if_pos rfl]
      refine ⟨_, rfl, _, rfl, by show 2 ≤ sizeLine; decide, fun kp nk => ?_⟩
      have s1 := same_new (o := HO.tup [.int (i : Nat), nV w0]) nT
      have s2 := s1.trans (same_new (o := HO.tup [.int (i : Nat), .int (i : Nat)]) nk)
      have ek : upd (upd H1 T (.tup [.int (i : Nat), nV w0])) kp (HO.tup [.int (i : Nat), .int (i : Nat)]) kp = some (.tup [.int (i : Nat), .int (i : Nat)]) := upd_same
      generalize upd (upd H1 T (.tup [.int (i : Nat), nV w0])) kp (HO.tup [.int (i : Nat), .int (i : Nat)]) = H3 at s2 ek ⊢
      refine ⟨_, rfl, _, rfl, by show 2 ≤ sizeLine; decide, fun vp nv => ?_⟩
      have s3 := same_new (o := HO.tup [nV w0, .int (i : Nat)]) nv
      have ev : PrAt (upd H3 vp (HO.tup [nV w0, .int (i : Nat)])) (.ref vp) (w0, .leaf i) := ⟨vp, _, rfl, upd_same, rfl⟩
      have ek2 := s3 _ _ ek
      generalize upd H3 vp (HO.tup [nV w0, .int (i : Nat)]) = H4 at s3 ev ek2 ⊢
      have h4 := hh.ext (ExtN.same (s2.trans s3))
      obtain ⟨kvs, hD, hl, hk⟩ := id h4
      have p := h4.put hD ev (best_leaf hw) (Nat.le_refl 1)
      rw [show i + 1 - 1 = i by omega] at p
      rw [List.length_map] at hi
      refine ⟨kvs, [kI i, kI i], kp, rfl, hD, ek2, by omega, fun b o z => ?_, nD, p.less (Nat.le_refl _) fun f s _ _ z => ?_⟩
      · rw [upd_ne (ne_of_none z nD)]
        exact (s2.trans s3) _ _ (sH _ _ z)
      · obtain ⟨rfl, z⟩ := z
        rcases Nat.lt_or_ge f i with y | y
        · exact .inl ⟨rfl, y⟩
        · exact .inr ⟨by omega, rfl⟩
    rintro H1 ⟨s1, nD, hh⟩
    rw [List.length_map] at hh
    have T1 := hT.ext s1
    dsimp only [gName, List.set]
    have hq1 := s1.seq hq
    -- longer ones
    refine ⟨_, rfl, a, _, rfl, .inl hq1, 1, _, rfl, ⟨by decide, by decide, by rw [List.length_map]; omega, by rw [List.length_map]; omega⟩, for_range (lo := 1) (n := ((((ws.map nV).length : Nat) : Int) - 1).toNat) (fun i σ H' => (∃ y2 y3 y4 y5 y6 : Option V, σ = [some (.ref a), some (.ref D), y2, y3, y4, y5, y6, none, none, none, none, none]) ∧ ExtN H H' ∧ Tabs (Tbs Pa Pb q2) H' ∧ Holds ws H' D (ws.length + ws.length * i) (fun f s => s ≤ 1 + i)) ⟨⟨_, _, _, _, _, rfl⟩, ExtN.same s1, T1, hh.less (by omega) fun f s h1 h2 h3 => ⟨by omega, by omega⟩⟩ ?_ ?_⟩
    · rintro i σ H2 hi ⟨⟨y2, y3, y4, y5, y6, rfl⟩, x2, T2, h2⟩
      rw [List.length_map] at hi
      dsimp only [gName, List.set]
      rw [show (1 : Int) + ((i : Nat) : Int) = ((1 + i : Nat) : Int) by omega]
      generalize hL : 1 + i = L at *
      have hq2 := seq_extN x2 hq
      refine ⟨_, rfl, a, _, rfl, .inl hq2, _, rfl, _, _, rfl, rfl, _, rfl, by rw [List.length_map]; omega, by rw [List.length_map]; omega, for_range (lo := 0) (n := ((((ws.map nV).length : Nat) : Int) - ((L : Nat) : Int)).toNat) (fun j σ H' => (∃ y3 y4 y5 y6 : Option V, σ = [some (.ref a), some (.ref D), some (.int (L : Nat)), y3, y4, y5, y6, none, none, none, none, none]) ∧ ExtN H H' ∧ Tabs (Tbs Pa Pb q2) H' ∧ Holds ws H' D (ws.length + ws.length * i + j) (fun f s => s ≤ L ∨ (s = L + 1 ∧ f < j))) ⟨⟨_, _, _, _, rfl⟩, x2, T2, h2.less (by omega) fun f s h1 h2 h3 => h3.elim id fun z => absurd z.2 (by omega)⟩ ?_ ?_⟩
      · rintro f σ H3 hf ⟨⟨z3, z4, z5, z6, rfl⟩, x3, T3, h3⟩
        rw [List.length_map] at hf
        have fL : f + L < ws.length := by omega
        have L1 : 1 ≤ L := by omega
        dsimp only [gName, List.set]
        rw [show (0 : Int) + ((f : Nat) : Int) = ((f : Nat) : Int) by omega]
        refine ⟨_, rfl, _, rfl, _, _, rfl, rfl, ?_⟩
        dsimp only [gName, List.set]
        rw [show ((f : Nat) : Int) + ((L : Nat) : Int) = ((f + L : Nat) : Int) by omega]
        -- the pairs
        refine ⟨_, rfl, _, rfl, _, _, rfl, ⟨by omega, by omega, by omega, by omega⟩, fun D2 nD2 => lc_range (lo := ((f : Nat) : Int)) (n := (((f + L : Nat) : Int) - ((f : Nat) : Int)).toNat) (fun k H' => Same H3 H' ∧ H3 D2 = none ∧ ∃ acc es, H' D2 = some (.lst acc) ∧ Ents (TwoAt H') acc es ∧ es.length = k ∧ ∀ m, m < k → ∃ e, es[m]? = some e ∧ Best ws f (m + 1) e.1 ∧ Best ws (f + m + 1) (L - m) e.2) ⟨same_new nD2, nD2, [], [], upd_same, .nil, rfl, fun m h => absurd h (by omega)⟩ ?_ ?_⟩
        · rintro m H4 hm4 ⟨s4, nD2, acc, es, hD2, hA, el, eb⟩
          have mL : m < L := by omega
          dsimp only [gName, List.set]
          refine ⟨rfl, ?_⟩
          unfold tYes
          dsimp only
          rw [if_pos rfl]
          have h4 := h3.ext (ExtN.same s4)
          obtain ⟨kvs, hD, hl, hk⟩ := h4
          obtain ⟨q1, e1, v1, p1, b1⟩ := hk f (m + 1) (by omega) (by omega) (.inl (by omega))
          obtain ⟨q2', e2, v2, p2, b2⟩ := hk (f + m + 1) (L - m) (by omega) (by omega) (.inl (by omega))
          rw [show ((f : Nat) : Int) + ((m : Nat) : Int) = ((f + m : Nat) : Int) by omega]
          refine ⟨_, rfl, _, rfl, _, rfl, by show 2 ≤ sizeLine; decide, fun k1 n1 => ?_⟩
          have t1 := same_new (o := HO.tup [.int (f : Nat), .int ((f + m : Nat) : Int)]) n1
          refine ⟨D, .ref q1, rfl, dget_at (t1 _ _ hD) upd_same rfl rfl (by rw [← v1, show f + (m + 1) - 1 = f + m by omega]), ?_⟩
          generalize upd H4 k1 (HO.tup [.int (f : Nat), .int ((f + m : Nat) : Int)]) = H5 at t1 ⊢
          refine ⟨_, rfl, _, rfl, _, _, rfl, rfl, _, rfl, by show 2 ≤ sizeLine; decide, fun k2 n2 => ?_⟩
          have t2 := same_new (o := HO.tup [.int (((f + m : Nat) : Int) + 1), .int ((f + L : Nat) : Int)]) n2
          refine ⟨D, .ref q2', rfl, dget_at (t2 _ _ (t1 _ _ hD)) upd_same (a := f + m + 1) (b := f + L) (by omega) rfl (by rw [← v2, show f + m + 1 + (L - m) - 1 = f + L by omega]), ?_⟩
          generalize upd H5 k2 (HO.tup [.int (((f + m : Nat) : Int) + 1), .int ((f + L : Nat) : Int)]) = H6 at t2 ⊢
          refine ⟨by show 2 ≤ sizeLine; decide, fun k3 n3 => ?_⟩
          have t3 := same_new (o := HO.tup [.ref q1, .ref q2']) n3
          have g3 : upd H6 k3 (HO.tup [.ref q1, .ref q2']) k3 = some (.tup [.ref q1, .ref q2']) := upd_same
          have t13 := t1.trans (t2.trans t3)
          generalize upd H6 k3 (HO.tup [.ref q1, .ref q2']) = H7 at g3 t13 ⊢
          have hD7 := t13 _ _ hD2
          have al := hA.len
          refine ⟨acc, hD7, by omega, fun b o z => ?_, nD2, acc ++ [.ref k3], es ++ [(e1, e2)], upd_same, ?_, by rw [List.length_append, el]; rfl, fun m' hm' => ?_⟩
          · rw [upd_ne (ne_of_none z nD2)]
            exact t13 _ _ (s4 _ _ z)
          · exact Ents.snoc (hA.mono fun _ _ z => (z.ext (ExtN.same t13)).put hD7) (TwoAt.put ⟨k3, q1, q2', rfl, g3, p1.ext (ExtN.same t13), p2.ext (ExtN.same t13)⟩ hD7)
          · rcases Nat.lt_or_ge m' m with y | y
            · obtain ⟨e, he, b⟩ := eb m' y
              exact ⟨e, by rw [List.getElem?_append_left (by omega)]; exact he, b⟩
            · obtain rfl : m' = m := by omega
              exact ⟨(e1, e2), by rw [← el, List.getElem?_append_right (Nat.le_refl _), Nat.sub_self]; rfl, b1, b2⟩
        rintro H4 ⟨s4, _, ac1, es, hD2, hA, el, eb⟩
        rw [show (((f + L : Nat) : Int) - ((f : Nat) : Int)).toNat = L by omega] at el eb
        have x4 := x3.trans (ExtN.same s4)
        have T4 := T3.ext s4
        have h4 := h3.ext (ExtN.same s4)
        clear s4 nD2 x3 T3 h3
        dsimp only [gName, List.set]
        -- the orders
        refine ⟨_, rfl, D2, rfl, ⟨_, SqL.of hD2⟩, fun D3 nD3 => lc_ent (R := TwoAt) (S := PrAt) (cnd := fun _ => true) (out := fun e : (Nat × Tr) × Nat × Tr => ((max e.1.1 e.2.1 + 1, Tr.node e.1.2 e.2.2) : Nat × Tr)) hD2 hA nD3 (by omega) (fun _ _ _ _ h z => h.ext (ExtN.same z)) (fun _ _ _ _ h z => h.ext (ExtN.same z)) (fun _ _ _ _ _ h hD => h.put hD) (fun r e H' Nx No he s1 hr nx no => ?_) fun H5 ys s5 hD3 hI => ?_⟩
        · obtain ⟨p, q1, q2', rfl, e2, ⟨_, o1, r1, f1, g1⟩, ⟨_, o2, r2, f2, g2⟩⟩ := hr
          cases r1
          cases r2
          refine ⟨p, _, rfl, SqT.of e2, rfl, _, _, rfl, _, _, rfl, rfl, ?_⟩
          dsimp only [gName, List.set]
          refine ⟨rfl, ?_⟩
          unfold tYes
          dsimp only
          rw [if_pos rfl]
          refine ⟨_, rfl, q1, _, 0, _, rfl, rfl, SqT.of f1, rfl, _, rfl, q2', _, 0, _, rfl, rfl, SqT.of f2, rfl, _, _, rfl, _, _, rfl, rfl, ?_⟩
          dsimp only [gName, List.set]
          rw [show (if ((e.1.1 : Nat) : Int) < ((e.2.1 : Nat) : Int) then ((e.2.1 : Nat) : Int) else ((e.1.1 : Nat) : Int)) + 1 = ((max e.1.1 e.2.1 + 1 : Nat) : Int) by split <;> omega]
          refine ⟨_, rfl, q1, _, 1, _, rfl, rfl, SqT.of f1, rfl, _, rfl, q2', _, 1, _, rfl, rfl, SqT.of f2, rfl, by show 2 ≤ sizeLine; decide, fun a1 n1 => ⟨by show 2 ≤ sizeLine; decide, fun a2 n2 => ?_⟩⟩
          have t1 := same_new (o := HO.tup [o1, o2]) n1
          have t2 := same_new (o := HO.tup [.int ((max e.1.1 e.2.1 + 1 : Nat) : Int), .ref a1]) n2
          refine nx rfl _ _ (t1.trans t2) ⟨a2, .ref a1, rfl, upd_same, a1, o1, o2, rfl, t2 _ _ upd_same, g1.ext (ExtN.same (t1.trans t2)), g2.ext (ExtN.same (t1.trans t2))⟩
        rw [List.filter_eq_self.mpr (fun _ _ => rfl)] at hI
        have x5 := x4.trans (ExtN.same s5)
        have T5 := T4.ext s5
        have h5 := h4.ext (ExtN.same s5)
        clear s5 hD2 hA x4 T4 h4
        have ylen := hI.len
        rw [List.length_map] at ylen
        dsimp only [gName, List.set]
        -- the best of them
        refine ⟨_, rfl, T5, fun f1 c1 H6 x6 T6 _ l1 d1 => ⟨_, _, _, D3, f1, ys, es.map fun e => ((max e.1.1 e.2.1 + 1 : Nat) : Int), rfl, rfl, x6 _ _ hD3 (fun ps z => by cases z), l1, d1, fst2, by rw [List.length_map]; exact ylen, by omega, fun i0 y k hy hk => ?_, fun i0 y k hy hk hmin => ?_⟩⟩
        · rw [List.getElem?_map] at hk
          obtain ⟨e, he, rfl⟩ := Option.map_eq_some_iff.mp hk
          obtain ⟨e', he', r⟩ := hI.get hy
          rw [List.getElem?_map, he] at he'
          obtain rfl := Option.some.inj he'
          obtain ⟨q0, o, rfl, e2, _⟩ := r
          exact ⟨q0, [o], rfl, x6 _ _ e2 (fun ps z => by cases z)⟩
        rw [List.getElem?_map] at hk
        obtain ⟨e0, he, rfl⟩ := Option.map_eq_some_iff.mp hk
        obtain ⟨e', he', r⟩ := hI.get hy
        rw [List.getElem?_map, he] at he'
        obtain rfl := Option.some.inj he'
        have r6 := PrAt.ext r x6
        obtain ⟨q0, o, rfl, _⟩ := id r6
        have bn := best_node el eb he fun e hem => by
          have := hmin ((max e.1.1 e.2.1 + 1 : Nat) : Int) (List.mem_map.mpr ⟨e, hem, rfl⟩)
          rw [if_neg (by decide)] at this
          omega
        have h6 := h5.ext x6
        refine ⟨_, rfl, _, rfl, _, rfl, by show 2 ≤ sizeLine; decide, fun kp nk => ?_⟩
        have s7 := same_new (o := HO.tup [.int (f : Nat), .int ((f + L : Nat) : Int)]) nk
        have gk : upd H6 kp (HO.tup [.int (f : Nat), .int ((f + L : Nat) : Int)]) kp = some (.tup [.int (f : Nat), .int ((f + L : Nat) : Int)]) := upd_same
        generalize upd H6 kp (HO.tup [.int (f : Nat), .int ((f + L : Nat) : Int)]) = H7 at s7 gk ⊢
        have h7 := h6.ext (ExtN.same s7)
        obtain ⟨kvs, hD, hl, hk⟩ := id h7
        have p := h7.put hD (r6.ext (ExtN.same s7)) bn (by omega)
        rw [show f + (L + 1) - 1 = f + L by omega] at p
        have kl : ws.length * i ≤ 60 * 60 := Nat.mul_le_mul hlen (by omega)
        refine ⟨D, _, rfl, DPut.t (k := [kI f, kI (f + L)]) hD gk (by omega), ⟨_, _, _, _, rfl⟩, ?_, ?_, p.less (by omega) fun f' s' h1 h2 h3 => ?_⟩
        · exact ext_over ((x5.trans x6).trans (ExtN.same s7)) nD
        · exact tabs_dic (T6.ext s7) hD
        · rcases h3 with h3 | ⟨h3, h4⟩
          · exact .inl (.inl h3)
          · rcases Nat.lt_or_ge f' f with y | y
            · exact .inl (.inr ⟨h3, y⟩)
            · exact .inr ⟨by omega, h3⟩
      · rintro σ H3 ⟨⟨z3, z4, z5, z6, rfl⟩, x3, T3, h3⟩
        refine ⟨⟨_, _, _, _, _, rfl⟩, x3, T3, h3.less ?_ fun f s h1 h2 h3 => ?_⟩
        · rw [List.length_map]
          have : ws.length * (i + 1) = ws.length * i + ws.length := by rw [Nat.mul_add, Nat.mul_one]
          omega
        · rw [List.length_map]
          omega
    · rintro σ H2 ⟨⟨y2, y3, y4, y5, y6, rfl⟩, x2, T2, h2⟩
      rw [List.length_map] at h2
      have hq2 : SqL K H2 a (ws.map nV) := seq_extN x2 hq
      obtain ⟨kvs, hD, hl, hk⟩ := id h2
      obtain ⟨r, ⟨W, T⟩, e1, e2, e3⟩ := hk 0 ws.length hpos (by omega) (by omega)
      refine ⟨_, rfl, _, rfl, a, _, rfl, .inl hq2, _, _, rfl, rfl, by show 2 ≤ sizeLine; decide, fun kp nk => ?_⟩
      have s3 := same_new (o := HO.tup [.int 0, .int (((ws.map nV).length : Nat) - 1)]) nk
      refine ⟨D, .ref r, rfl, dget_at (s3 _ _ hD) upd_same rfl (by rw [List.length_map]; omega) e1, q r W T _ (x2.trans (ExtN.same s3)) (T2.ext s3) (e2.ext (ExtN.same s3)) e3⟩
end
end K25

/-! k25: the program: what is told. -/
namespace K25
open PySem PySem.Spec PyProof.Rows L2 LamX NdefX Own
theorem joined_lg {ws : List Nat} {W : Nat} {T : Tr} (J : Joined ws [(W, T)]) : Lg ws W ∧ T.figs ws = W ∧ List.Perm T.idx (List.range ws.length) := by
  refine ⟨fun v => (J.lg v).trans (lg_one W v), J.fg _ List.mem_cons_self, ?_⟩
  have := J.ix
  rw [List.flatMap_cons, List.flatMap_nil, List.append_nil] at this
  exact this
section
variable {P : Program} {w : World} {K : PySem.W.Frag} {mg : Str → Option Value} {base : Heap} {Pa Pb : Addr}
abbrev pLw : Stmt := topS 1
theorem scLw : FnScope ["wholes", "whole", "_"] ["wholes"] (defScope pLw) := ⟨rfl, rfl, rfl, by decide +kernel, rfl, by decide +kernel, by decide +kernel⟩
def spLw (K : PySem.W.Frag) (Pa Pb : Addr) : Sp := fun vs H Q _ => ∃ (a : Addr) (ws : List Nat), vs = [.ref a] ∧ (SqL K H a (ws.map nV) ∨ SqT K H a (ws.map nV)) ∧ 0 < ws.length ∧ ws.length ≤ 60 ∧ Tabs (Tbs Pa Pb q2) H ∧ ∀ (W : Nat) (H' : Hp), ExtN H H' → Tabs (Tbs Pa Pb q2) H' → Lg ws W → Q (.int (W : Nat)) H'
theorem ok_Lw (A : At K mg "least_whole" pLw ["wholes"]) (DB : DefOk P w K mg base CX0 "_best_order" 3 ["wholes"] (spBo K Pa Pb q2)) : DefOk P w K mg base CX0 "least_whole" 4 ["wholes"] (spLw K Pa Pb) := by
  refine A.ok fun f fd F => F.ok scLw (fun vs H Q E h => ?_) (fun cdv A outer s0 H vs Q E hr h => ?_)
  · obtain ⟨a, ws, rfl, _⟩ := h
    rfl
  · obtain ⟨a, ws, rfl, hq, hpos, hlen, hT, q⟩ := h
    have nd := scLw.nd
    refine ⟨_, pss_cons (ps_asg (pe_def DB hr (by decide) (by rfl) pass0 (pa_cons (pv 0) pa_nil)) (pg_tup rfl (pgs_cons (pg_name (i := 1) nd rfl (.inl rfl)) (pgs_cons (pg_name (i := 2) nd rfl (.inl rfl)) pgs_nil))))
      (pss_one (ps_ret (pv 1))), ?_⟩
    refine ⟨_, rfl, a, ws, rfl, hq, hpos, hlen, hT, fun r W T H1 x1 T1 G J => ?_⟩
    obtain ⟨_, o, e1, e2, e3⟩ := G
    cases e1
    refine ⟨r, _, rfl, SqT.of e2, rfl, _, _, rfl, _, _, rfl, rfl, ?_⟩
    dsimp only [gName, List.set]
    exact ⟨_, rfl, q W _ x1 T1 (joined_lg J).1⟩
abbrev pJo : Stmt := topS 2
theorem scJo : FnScope ["wholes", "_", "order"] ["wholes"] (defScope pJo) := ⟨rfl, rfl, rfl, by decide +kernel, rfl, by decide +kernel, by decide +kernel⟩
def spJo (K : PySem.W.Frag) (Pa Pb : Addr) : Sp := fun vs H Q _ => ∃ (a : Addr) (ws : List Nat), vs = [.ref a] ∧ (SqL K H a (ws.map nV) ∨ SqT K H a (ws.map nV)) ∧ 0 < ws.length ∧ ws.length ≤ 60 ∧ Tabs (Tbs Pa Pb q2) H ∧ ∀ (o : V) (W : Nat) (T : Tr) (H' : Hp), ExtN H H' → Tabs (Tbs Pa Pb q2) H' → Lg ws W → T.figs ws = W → List.Perm T.idx (List.range ws.length) → OrdAt H' T o → Q o H'
theorem ok_Jo (A : At K mg "joined" pJo ["wholes"]) (DB : DefOk P w K mg base CX0 "_best_order" 3 ["wholes"] (spBo K Pa Pb q2)) : DefOk P w K mg base CX0 "joined" 4 ["wholes"] (spJo K Pa Pb) := by
  refine A.ok fun f fd F => F.ok scJo (fun vs H Q E h => ?_) (fun cdv A outer s0 H vs Q E hr h => ?_)
  · obtain ⟨a, ws, rfl, _⟩ := h
    rfl
  · obtain ⟨a, ws, rfl, hq, hpos, hlen, hT, q⟩ := h
    have nd := scJo.nd
    refine ⟨_, pss_cons (ps_asg (pe_def DB hr (by decide) (by rfl) pass0 (pa_cons (pv 0) pa_nil)) (pg_tup rfl (pgs_cons (pg_name (i := 1) nd rfl (.inl rfl)) (pgs_cons (pg_name (i := 2) nd rfl (.inl rfl)) pgs_nil))))
      (pss_one (ps_ret (pv 2))), ?_⟩
    refine ⟨_, rfl, a, ws, rfl, hq, hpos, hlen, hT, fun r W T H1 x1 T1 G J => ?_⟩
    obtain ⟨_, o, e1, e2, e3⟩ := G
    cases e1
    refine ⟨r, _, rfl, SqT.of e2, rfl, _, _, rfl, _, _, rfl, rfl, ?_⟩
    dsimp only [gName, List.set]
    exact ⟨_, rfl, q o W T _ x1 T1 (joined_lg J).1 (joined_lg J).2.1 (joined_lg J).2.2 e3⟩
abbrev pLr : Stmt := topS 3
theorem scLr : FnScope ["wholes", "whole", "_"] ["wholes"] (defScope pLr) := ⟨rfl, rfl, rfl, by decide +kernel, rfl, by decide +kernel, by decide +kernel⟩
def spLr (K : PySem.W.Frag) (Pa Pb : Addr) : Sp := fun vs H Q _ => ∃ (a : Addr) (ws : List Nat), vs = [.ref a] ∧ SqL K H a (ws.map nV) ∧ 0 < ws.length ∧ ws.length ≤ 60 ∧ Tabs (Tbs Pa Pb q2) H ∧ ∀ (W : Nat) (H' : Hp), ExtN H H' → Tabs (Tbs Pa Pb q2) H' → Opt ws 0 ws.length W → Q (.int (W : Nat)) H'
theorem ok_Lr (A : At K mg "least_whole_in_row" pLr ["wholes"]) (DB : DefOk P w K mg base CX0 "_best_brackets" 3 ["wholes"] (spBb K Pa Pb)) : DefOk P w K mg base CX0 "least_whole_in_row" 4 ["wholes"] (spLr K Pa Pb) := by
  refine A.ok fun f fd F => F.ok scLr (fun vs H Q E h => ?_) (fun cdv A outer s0 H vs Q E hr h => ?_)
  · obtain ⟨a, ws, rfl, _⟩ := h
    rfl
  · obtain ⟨a, ws, rfl, hq, hpos, hlen, hT, q⟩ := h
    have nd := scLr.nd
    refine ⟨_, pss_cons (ps_asg (pe_def DB hr (by decide) (by rfl) pass0 (pa_cons (pv 0) pa_nil)) (pg_tup rfl (pgs_cons (pg_name (i := 1) nd rfl (.inl rfl)) (pgs_cons (pg_name (i := 2) nd rfl (.inl rfl)) pgs_nil))))
      (pss_one (ps_ret (pv 1))), ?_⟩
    refine ⟨_, rfl, a, ws, rfl, hq, hpos, hlen, hT, fun r W T H1 x1 T1 G J => ?_⟩
    obtain ⟨_, o, e1, e2, e3⟩ := G
    cases e1
    refine ⟨r, _, rfl, SqT.of e2, rfl, _, _, rfl, _, _, rfl, rfl, ?_⟩
    dsimp only [gName, List.set]
    exact ⟨_, rfl, q W _ x1 T1 J.op⟩
abbrev pJr : Stmt := topS 4
theorem scJr : FnScope ["wholes", "_", "order"] ["wholes"] (defScope pJr) := ⟨rfl, rfl, rfl, by decide +kernel, rfl, by decide +kernel, by decide +kernel⟩
def spJr (K : PySem.W.Frag) (Pa Pb : Addr) : Sp := fun vs H Q _ => ∃ (a : Addr) (ws : List Nat), vs = [.ref a] ∧ SqL K H a (ws.map nV) ∧ 0 < ws.length ∧ ws.length ≤ 60 ∧ Tabs (Tbs Pa Pb q2) H ∧ ∀ (o : V) (W : Nat) (T : Tr) (H' : Hp), ExtN H H' → Tabs (Tbs Pa Pb q2) H' → Best ws 0 ws.length (W, T) → OrdAt H' T o → Q o H'
theorem ok_Jr (A : At K mg "joined_in_row" pJr ["wholes"]) (DB : DefOk P w K mg base CX0 "_best_brackets" 3 ["wholes"] (spBb K Pa Pb)) : DefOk P w K mg base CX0 "joined_in_row" 4 ["wholes"] (spJr K Pa Pb) := by
  refine A.ok fun f fd F => F.ok scJr (fun vs H Q E h => ?_) (fun cdv A outer s0 H vs Q E hr h => ?_)
  · obtain ⟨a, ws, rfl, _⟩ := h
    rfl
  · obtain ⟨a, ws, rfl, hq, hpos, hlen, hT, q⟩ := h
    have nd := scJr.nd
    refine ⟨_, pss_cons (ps_asg (pe_def DB hr (by decide) (by rfl) pass0 (pa_cons (pv 0) pa_nil)) (pg_tup rfl (pgs_cons (pg_name (i := 1) nd rfl (.inl rfl)) (pgs_cons (pg_name (i := 2) nd rfl (.inl rfl)) pgs_nil))))
      (pss_one (ps_ret (pv 2))), ?_⟩
    refine ⟨_, rfl, a, ws, rfl, hq, hpos, hlen, hT, fun r W T H1 x1 T1 G J => ?_⟩
    obtain ⟨_, o, e1, e2, e3⟩ := G
    cases e1
    refine ⟨r, _, rfl, SqT.of e2, rfl, _, _, rfl, _, _, rfl, rfl, ?_⟩
    dsimp only [gName, List.set]
    exact ⟨_, rfl, q o W T _ x1 T1 J e3⟩
end
end K25

/-! k25: the law: what an order comes to. -/
namespace K25
open PySem PySem.Spec PyProof.Rows L2 LamX NdefX Own
abbrev sIx : Stmt := topS 11
abbrev sFo : Stmt := topS 12
theorem OrdAt.same {H H' : Hp} {T : Tr} {v : V} (h : OrdAt H T v) (s : Same H H') : OrdAt H' T v := h.ext (ExtN.same s)
section
variable {P : Program} {w : World} {K : PySem.W.Frag} {mg : Str → Option Value} {base : Heap}
theorem scIx : FnScope ["_law_order", "_law_left", "_law_right"] ["_law_order"] (defScope sIx) := ⟨rfl, rfl, rfl, by decide +kernel, rfl, by decide +kernel, by decide +kernel⟩
def spIx (n : Nat) : Sp := fun vs H Q _ => ∃ (o : V) (T : Tr), vs = [o] ∧ OrdAt H T o ∧ T.deep ≤ n ∧ T.idx.length ≤ 1000 ∧ ∀ (r : Addr) (H' : Hp), Same H H' → H' r = some (.lst (T.idx.map nV)) → Q (.ref r) H'
def spNo : Sp := fun _ _ _ _ => False
theorem ix_step (A : At K mg "_law_indexes" sIx ["_law_order"]) (B : Blt mg) (DW : DefOk P w K mg base CX0 "_law_whole_is" 1 ["_law_value", "_law_due"] spWi) (N k : Nat) (sp : Sp) (hk : 2 ≤ k) (DT : DefOk P w K mg base CX0 "_law_indexes" k ["_law_order"] sp) (hs : ∀ m, m + 1 ≤ N → ∀ vs H Q E, spIx m vs H Q E → sp vs H Q E) :
    DefOk P w K mg base CX0 "_law_indexes" (k + 1) ["_law_order"] (spIx N) := by
  refine A.ok fun f fd F => F.ok scIx (fun vs H Q E h => ?_) (fun cdv A outer s0 H vs Q E hr h => ?_)
  · obtain ⟨o, T, rfl, _⟩ := h
    rfl
  · obtain ⟨o, T, rfl, hO, hd, hl, q⟩ := h
    have nd := scIx.nd
    have sz := sizeLine_eq
    refine ⟨_, pss_cons (ps_if (pt_val (pe_callB call_isi (by rfl) B.isi (by decide +kernel) (pa_cons (pv 0) (pa_cons (pe_bltn (v := .ty "tuple") (by rfl) B.tuple (by decide +kernel) rfl) pa_nil)))) (pss_cons (ps_if (pt_cmpR op_ne (pe_callB call_len_seq (by rfl) B.len PySem.boot_len (pa_cons (pv 0) pa_nil)) pe_int (nomark _)) (pss_one (ps_ret pe_non)) pss_nil) (pss_cons (ps_par (i := 1) (j := 2) (by rfl) nd rfl rfl (by decide) rfl rfl (pa_cons (pe_def DT hr (Nat.le_refl _) (by rfl) pass0 (pa_cons (pe_ix ix_tup (pv 0) pe_int (fun _ _ => rfl)) pa_nil)) (pa_cons (pe_def DT hr (Nat.le_refl _) (by rfl) pass0 (pa_cons (pe_ix ix_tup (pv 0) pe_int (fun _ _ => rfl)) pa_nil)) pa_nil)) (by rfl)) (pss_one (ps_ret (pe_ifExp (PW.pt (pw_or (pt_cmpR op_isN (pv 1) pe_non (nomark _)) (pw_or1 (pt_cmpR op_isN (pv 2) pe_non (nomark _))))) pe_non (pe_op op_cat (pv 1) (pv 2))))))) pss_nil)
      (pss_one (ps_ret (pe_ifExp (pt_val (pe_def DW hr (by omega) (by rfl) pass0 (pa_cons (pv 0) (pa_cons (pv 0) pa_nil)))) (pe_lst (pa_cons (pv 0) pa_nil)) pe_non))), ?_⟩
    cases T with
    | leaf i =>
      obtain rfl : o = nV i := hO
      refine ⟨_, rfl, _, _, _, _, false, rfl, .ty _, .base (.int _), kit_ty (show kitB "int" "tuple" = some false by decide +kernel), _, rfl, iteF ?_⟩
      refine ⟨_, rfl, _, rfl, _, _, rfl, _, rfl, ?_⟩
      rw [decide_eq_true rfl]
      refine iteT ⟨_, rfl, by show 1 ≤ sizeLine; decide, fun p np => q p _ (same_new np) upd_same⟩
    | node l r =>
      obtain ⟨p, a, b, rfl, e2, ha, hb⟩ := hO
      have hd : max l.deep r.deep + 1 ≤ N := hd
      have hl : (l.idx ++ r.idx).length ≤ 1000 := hl
      rw [List.length_append] at hl
      refine ⟨_, rfl, _, _, _, _, true, rfl, .ty _, .base (.tup e2), kit_ty (show kitB "tuple" "tuple" = some true by decide +kernel), _, rfl, iteT ?_⟩
      refine ⟨_, rfl, p, _, rfl, .inr (SqT.of e2), rfl, _, rfl, iteF ?_⟩
      refine ⟨_, rfl, p, _, 0, _, rfl, rfl, SqT.of e2, rfl, hs (max l.deep r.deep) hd _ _ _ _ ⟨a, l, rfl, ha, Nat.le_max_left _ _, by omega, fun r1 H1 s1 g1 => ?_⟩⟩
      refine ⟨_, rfl, p, _, 1, _, rfl, rfl, SqT.of (s1 _ _ e2), rfl, hs (max l.deep r.deep) hd _ _ _ _ ⟨b, r, rfl, hb.same s1, Nat.le_max_right _ _, by omega, fun r2 H2 s2 g2 => ⟨_, _, rfl, ?_⟩⟩⟩
      dsimp only [gName, List.set]
      refine ⟨_, rfl, rfl, _, rfl, ?_⟩
      rw [show decide (V.ref r1 = V.non) = false from decide_eq_false (by intro z; cases z)]
      refine iteF ⟨_, rfl, rfl, _, rfl, ?_⟩
      rw [show decide (V.ref r2 = V.non) = false from decide_eq_false (by intro z; cases z)]
      refine iteF ⟨_, rfl, _, rfl, r1, r2, _, _, rfl, rfl, s2 _ _ g1, g2, by rw [List.length_map, List.length_map]; omega, fun p2 n2 => ?_⟩
      refine q p2 _ ((s1.trans s2).trans (same_new n2)) ?_
      rw [← List.map_append]
      exact upd_same
theorem ok_ix (A : At K mg "_law_indexes" sIx ["_law_order"]) (B : Blt mg) (DW : DefOk P w K mg base CX0 "_law_whole_is" 1 ["_law_value", "_law_due"] spWi) : ∀ N, DefOk P w K mg base CX0 "_law_indexes" (N + 3) ["_law_order"] (spIx N)
  | 0 => ix_step A B DW 0 2 spNo (by omega) (A.ok fun f fd F => ⟨fun _ _ _ _ z => z.elim, fun _ _ _ _ _ _ _ _ _ _ _ _ _ z => z.elim⟩) (fun m z => by omega)
  | N + 1 => ix_step A B DW (N + 1) (N + 3) (spIx N) (by omega) (ok_ix A B DW N) (fun m z vs H Q E x => by
    obtain ⟨o, T, x1, x2, x3, x4, x5⟩ := x
    exact ⟨o, T, x1, x2, by omega, x4, x5⟩)
theorem scFo : FnScope ["_law_order", "_law_wholes_here"] ["_law_order", "_law_wholes_here"] (defScope sFo) := ⟨rfl, rfl, rfl, by decide +kernel, rfl, by decide +kernel, by decide +kernel⟩
def spFo (n : Nat) : Sp := fun vs H Q _ => ∃ (o : V) (T : Tr) (l : Addr) (ws : List Nat), vs = [o, .ref l] ∧ H l = some (.lst (ws.map nV)) ∧ OrdAt H T o ∧ T.deep ≤ n ∧ (∀ i ∈ T.idx, i < ws.length) ∧ Q (.int (T.figs ws : Nat)) H
theorem fo_step (A : At K mg "_law_figures_of" sFo ["_law_order", "_law_wholes_here"]) (B : Blt mg) (N k : Nat) (sp : Sp) (hk : 2 ≤ k) (DT : DefOk P w K mg base CX0 "_law_figures_of" k ["_law_order", "_law_wholes_here"] sp) (hs : ∀ m, m + 1 ≤ N → ∀ vs H Q E, spFo m vs H Q E → sp vs H Q E) :
    DefOk P w K mg base CX0 "_law_figures_of" (k + 1) ["_law_order", "_law_wholes_here"] (spFo N) := by
  refine A.ok fun f fd F => F.ok scFo (fun vs H Q E h => ?_) (fun cdv A outer s0 H vs Q E hr h => ?_)
  · obtain ⟨o, T, l, ws, rfl, _⟩ := h
    rfl
  · obtain ⟨o, T, lw, ws, rfl, hw, hO, hd, hi, q⟩ := h
    have nd := scFo.nd
    refine ⟨_, pss_cons (ps_if (pt_val (pe_callB call_isi (by rfl) B.isi (by decide +kernel) (pa_cons (pv 0) (pa_cons (pe_bltn (v := .ty "tuple") (by rfl) B.tuple (by decide +kernel) rfl) pa_nil)))) (pss_one (ps_ret (pe_op op_add (pe_callB (call_max2 rfl) (by rfl) B.max (by decide +kernel) (pa_cons (pe_def DT hr (Nat.le_refl _) (by rfl) pass0 (pa_cons (pe_ix ix_tup (pv 0) pe_int (fun _ _ => rfl)) (pa_cons (pv 1) pa_nil))) (pa_cons (pe_def DT hr (Nat.le_refl _) (by rfl) pass0 (pa_cons (pe_ix ix_tup (pv 0) pe_int (fun _ _ => rfl)) (pa_cons (pv 1) pa_nil))) pa_nil))) pe_int))) pss_nil)
      (pss_one (ps_ret (pe_ix ix_list (pv 1) (pv 0) (fun _ _ => rfl)))), ?_⟩
    cases T with
    | leaf i =>
      obtain rfl : o = nV i := hO
      have il := hi i (List.mem_singleton.mpr rfl)
      refine ⟨_, rfl, _, _, _, _, false, rfl, .ty _, .base (.int _), kit_ty (show kitB "int" "tuple" = some false by decide +kernel), _, rfl, iteF ?_⟩
      refine ⟨_, rfl, _, rfl, lw, _, (i : Nat), _, rfl, rfl, SqL.of hw, atI_nat (j := i) (v := nV (ws.getD i 0)) ?_, q⟩
      rw [List.getElem?_map, List.getElem?_eq_getElem il, List.getD_eq_getElem?_getD, List.getElem?_eq_getElem il]
      rfl
    | node l r =>
      obtain ⟨p, a, b, rfl, e2, ha, hb⟩ := hO
      have hd : max l.deep r.deep + 1 ≤ N := hd
      refine ⟨_, rfl, _, _, _, _, true, rfl, .ty _, .base (.tup e2), kit_ty (show kitB "tuple" "tuple" = some true by decide +kernel), _, rfl, iteT ?_⟩
      refine ⟨_, rfl, p, _, 0, _, rfl, rfl, SqT.of e2, rfl, _, rfl, hs (max l.deep r.deep) hd _ _ _ _ ⟨a, l, lw, ws, rfl, hw, ha, Nat.le_max_left _ _, fun i h => hi i (List.mem_append_left _ h), ?_⟩⟩
      refine ⟨_, rfl, p, _, 1, _, rfl, rfl, SqT.of e2, rfl, _, rfl, hs (max l.deep r.deep) hd _ _ _ _ ⟨b, r, lw, ws, rfl, hw, hb, Nat.le_max_right _ _, fun i h => hi i (List.mem_append_right _ h), ?_⟩⟩
      refine ⟨_, _, rfl, _, _, rfl, rfl, ?_⟩
      dsimp only [gName, List.set]
      rw [show (if ((l.figs ws : Nat) : Int) < ((r.figs ws : Nat) : Int) then ((r.figs ws : Nat) : Int) else ((l.figs ws : Nat) : Int)) + 1 = ((max (l.figs ws) (r.figs ws) + 1 : Nat) : Int) by split <;> omega]
      exact q
theorem ok_fo (A : At K mg "_law_figures_of" sFo ["_law_order", "_law_wholes_here"]) (B : Blt mg) : ∀ N, DefOk P w K mg base CX0 "_law_figures_of" (N + 3) ["_law_order", "_law_wholes_here"] (spFo N)
  | 0 => fo_step A B 0 2 spNo (by omega) (A.ok fun f fd F => ⟨fun _ _ _ _ z => z.elim, fun _ _ _ _ _ _ _ _ _ _ _ _ _ z => z.elim⟩) (fun m z => by omega)
  | N + 1 => fo_step A B (N + 1) (N + 3) (spFo N) (by omega) (ok_fo A B N) (fun m z vs H Q E x => by
    obtain ⟨o, T, l, ws, x1, x2, x3, x4, x5⟩ := x
    exact ⟨o, T, l, ws, x1, x2, x3, by omega, x5⟩)
end
end K25

/-! k25: the law: the least figures. -/
namespace K25
open PySem PySem.Spec PyProof.Rows L2 LamX NdefX Own
def rSh : R2 := fun x y H Q => ∃ k : Nat, x = .int 1 ∧ y = .int (k : Int) ∧ k ≤ 134217727 ∧ Q (.int (2 ^ k)) H
abbrev sLe : Stmt := topS 13
abbrev nLe : List Str := ["_law_wholes_here", "_law_base", "_law_total", "_law_more", "_law_whole"]
def arg0 : Expr → Expr
  | .Call _ (a :: _) _ _ => a
  | e => e
def binR : Expr → Expr
  | .BinOp _ _ r _ => r
  | e => e
theorem blk5 : BlkOk nLe (defScope sLe) (lcScope (arg0 (asgV (inD sLe 1)))) [("_law_whole", 4)] := blkOk_by (by decide +kernel)
theorem blk6 : BlkOk nLe (defScope sLe) (lcScope (arg0 (arg0 (binR (asgV (inD sLe 2)))))) [("_law_whole", 4)] := blkOk_by (by decide +kernel)
theorem least_of (P : Nat → Prop) : ∀ v, P v → ∃ w, P w ∧ ∀ u, u < w → ¬ P u := by
  intro v
  induction v using Nat.strongRecOn with
  | ind v ih =>
    intro hv
    by_cases h : ∃ u, u < v ∧ P u
    · obtain ⟨u, h1, h2⟩ := h
      exact ih u h1 h2
    · exact ⟨v, hv, fun u hu pu => h ⟨u, hu, pu⟩⟩
theorem lg_ex (ws : List Nat) : ∃ W, Lg ws W := by
  obtain ⟨W, h1, h2⟩ := least_of (fun v => pw ws ≤ 2 ^ v) (pw ws) (Nat.le_of_lt Nat.lt_two_pow_self)
  refine ⟨W, fun v => ⟨fun h => ?_, fun h => Nat.le_trans h1 (two_mono h)⟩⟩
  rcases Nat.lt_or_ge v W with z | z
  · exact absurd h (h2 v z)
  · exact z
/-- a whole number as a value -/
def IsN (_ : Hp) (r : V) (w : Nat) : Prop := r = nV w
def IsZ (_ : Hp) (r : V) (x : Int) : Prop := r = .int x
def IsB (_ : Hp) (r : V) (b : Bool) : Prop := r = .bl b
theorem n_ents {H : Hp} : ∀ ws : List Nat, Ents (IsN H) (ws.map nV) ws
  | [] => .nil
  | _ :: r => .cons rfl (n_ents r)
theorem ents_z {H : Hp} : ∀ {ys : List V} {xs : List Int}, Ents (IsZ H) ys xs → ys = xs.map V.int
  | _, _, .nil => rfl
  | _, _, .cons r t => by rw [r, ents_z t]; rfl
theorem ents_b {H : Hp} : ∀ {ys : List V} {xs : List Bool}, Ents (IsB H) ys xs → ys = xs.map V.bl
  | _, _, .nil => rfl
  | _, _, .cons r t => by rw [r, ents_b t]; rfl
theorem n_int (ws : List Nat) : ws.map nV = (ws.map fun w => ((w : Nat) : Int)).map V.int := by
  rw [List.map_map]
  rfl
theorem sum_big (base : Nat) : ∀ ws : List Nat, ((ws.filter fun w => decide (base ≤ w)).map fun w => (2 : Int) ^ (w - base)).sum = ((pw (bigs base ws) : Nat) : Int)
  | [] => rfl
  | w :: ws => by
    have ih := sum_big base ws
    unfold bigs at ih ⊢
    rw [List.filter_cons]
    by_cases h : base ≤ w
    · rw [if_pos (decide_eq_true h), List.map_cons, List.sum_cons, ih, List.map_cons, pw_cons]
      push_cast
      rfl
    · rw [if_neg (by simp [h])]
      exact ih
theorem any_small (base : Nat) (ws : List Nat) : (ws.map fun w => decide (w < base)).any id = decide (smalls base ws ≠ []) := by
  rw [Bool.eq_iff_iff, List.any_eq_true, decide_eq_true_eq]
  unfold smalls
  constructor
  · rintro ⟨b, hb, e⟩ z
    obtain ⟨w, hw, rfl⟩ := List.mem_map.mp hb
    have h1 : w < base := of_decide_eq_true e
    have := List.filter_eq_nil_iff.mp z w hw
    simp at this
    omega
  · intro h
    obtain ⟨w, hw⟩ := List.exists_mem_of_ne_nil _ h
    obtain ⟨h1, h2⟩ := List.mem_filter.mp hw
    simp at h2
    exact ⟨true, List.mem_map.mpr ⟨w, h1, decide_eq_true h2⟩, rfl⟩
section
variable {P : Program} {w : World} {K : PySem.W.Frag} {mg : Str → Option Value} {base : Heap}
theorem scLe : FnScope nLe ["_law_wholes_here"] (defScope sLe) := ⟨rfl, rfl, rfl, by decide +kernel, rfl, by decide +kernel, by decide +kernel⟩
def spLe : Sp := fun vs H Q _ => ∃ (l : Addr) (ws : List Nat) (W : Nat), vs = [.ref l] ∧ H l = some (.lst (ws.map nV)) ∧ 0 < ws.length ∧ ws.length ≤ 60 ∧ (∀ w ∈ ws, w ≤ 1000000) ∧ Lg ws W ∧ ∀ H', Same H H' → Q (.int (W : Nat)) H'
theorem ok_le (A : At K mg "_law_least" sLe ["_law_wholes_here"]) (B : Blt mg) (mS : mg "sum" = none) : DefOk P w K mg base CX0 "_law_least" 1 ["_law_wholes_here"] spLe := by
  refine A.ok fun f fd F => F.ok scLe (fun vs H Q E h => ?_) (fun cdv A outer s0 H vs Q E hr h => ?_)
  · obtain ⟨l, ws, W, rfl, _⟩ := h
    rfl
  · obtain ⟨l, ws, W, rfl, hl, hpos, hlen, hb, hW, q⟩ := h
    have nd := scLe.nd
    have hl2 : H l = some (.lst ((ws.map fun w => ((w : Nat) : Int)).map V.int)) := by rw [← n_int]; exact hl
    refine ⟨_, pss_cons (ps_set (i := 1) nd rfl (.inr rfl) (pe_callB (call_max2 rfl) (by rfl) B.max (by decide +kernel) (pa_cons pe_int (pa_cons (pe_op op_sub (pe_callB (cr_max rfl) (by rfl) B.max (by decide +kernel) (pa_cons (pv 0) pa_nil)) pe_int) pa_nil))))
      (pss_cons (ps_set (i := 2) nd rfl (.inl rfl) (pe_callB (cr_sum rfl) (by rfl) mS (by decide +kernel) (pa_cons (pe_lc (own := [("_law_whole", 4)]) (tt := tTest (tOp (rI0 fun i j => .bl (decide (j ≤ i))) (tVar 4) (tVar 1))) (te := tOp rSh (tC (.int 1)) (tOp (rI0 fun i j => .int (i - j)) (tVar 4) (tVar 1))) rfl nd (pi_list (pv 0)) blk5 (fun _ _ _ _ _ => (pg_name (i := 4) nd rfl (.inl rfl))) (fun _ _ _ _ _ => by exact (pts_one (pt_cmpR op_ge (pv 4) (pv 1) (nomark _)))) (fun _ _ _ _ _ => by exact (pe_op op_oneShl pe_int (pe_op op_sub (pv 4) (pv 1))))) pa_nil)))
      (pss_cons (ps_set (i := 2) nd rfl (.inl rfl) (pe_op op_add (pv 2) (pe_callTy call_int1 (by rfl) B.int (by decide +kernel) (pa_cons (pe_callB (cr_any rfl) (by rfl) B.any PyProof.Rows.boot_any (pa_cons (pe_lc (own := [("_law_whole", 4)]) (te := tOp (rI0 fun i j => .bl (decide (i < j))) (tVar 4) (tVar 1)) rfl nd (pi_list (pv 0)) blk6 (fun _ _ _ _ _ => (pg_name (i := 4) nd rfl (.inl rfl))) (fun _ _ _ _ _ => pts_nil) (fun _ _ _ _ _ => by exact (pe_cmpR op_lt (pv 4) (pv 1) (nomark _)))) pa_nil)) pa_nil))))
      (pss_cons (ps_for PassesOwn.never rfl (pi_range1 (by rfl) B.range (pa_cons pe_int pa_nil)) (pg_name (i := 3) nd rfl (.inl rfl)) (pss_one (ps_if (pt_cmpR op_le (pv 2) (pe_op op_oneShl pe_int (pv 3)) (nomark _)) (pss_one (ps_ret (pe_op op_add (pv 1) (pv 3)))) pss_nil)))
      (pss_one (ps_ret pe_non))))), ?_⟩
    refine ⟨_, rfl, l, _, rfl, SqL.of hl2, by rw [List.length_map]; exact hpos, fun mz h1 h2 => ⟨_, _, rfl, rfl, _, _, rfl, ?_⟩⟩
    obtain ⟨mx, hmx, rfl⟩ := List.mem_map.mp h1
    have mxl : ∀ w ∈ ws, w ≤ mx := fun w hw => by
      have := h2 _ (List.mem_map.mpr ⟨w, hw, rfl⟩)
      omega
    clear h1 h2
    rw [show (if (0 : Int) < ((mx : Nat) : Int) - 90 then ((mx : Nat) : Int) - 90 else 0) = ((mx - 90 : Nat) : Int) by split <;> omega]
    generalize hbs : mx - 90 = bs
    dsimp only [gName, List.set]
    -- the great ones
    refine ⟨_, rfl, l, rfl, ⟨_, SqL.of hl⟩, fun D nD => lc_ent (R := IsN) (S := IsZ) (cnd := fun w : Nat => decide (bs ≤ w)) (out := fun w : Nat => (2 : Int) ^ (w - bs)) hl (n_ents ws) nD (by omega) (fun _ _ _ _ h _ => h) (fun _ _ _ _ h _ => h) (fun _ _ _ _ _ h _ => h) (fun r u H' Nx No hu s1 hr nx no => ?_) fun H1 ys s1 hD hA => ?_⟩
    · cases hr
      dsimp only [gName, List.set]
      refine ⟨rfl, _, rfl, _, rfl, _, _, rfl, rfl, _, rfl, ?_⟩
      by_cases h : bs ≤ u
      · rw [show decide (((bs : Nat) : Int) ≤ ((u : Nat) : Int)) = true from decide_eq_true (by omega)]
        have ub := hb u hu
        refine iteT ⟨_, rfl, _, rfl, _, _, rfl, rfl, u - bs, rfl, ?_, by omega, nx (decide_eq_true h) _ _ (Same.refl _) rfl⟩
        dsimp only
        rw [show ((u : Nat) : Int) - ((bs : Nat) : Int) = ((u - bs : Nat) : Int) by omega]
      · rw [show decide (((bs : Nat) : Int) ≤ ((u : Nat) : Int)) = false from decide_eq_false (by omega)]
        exact iteF (no (decide_eq_false h))
    have hD2 : H1 D = some (.lst (((ws.filter fun w => decide (bs ≤ w)).map fun w => (2 : Int) ^ (w - bs)).map V.int)) := by rw [← ents_z hA]; exact hD
    refine ⟨D, _, rfl, SqL.of hD2, ?_⟩
    rw [sum_big]
    dsimp only [gName, List.set]
    have hl1 := s1 _ _ hl
    -- the small ones
    refine ⟨_, rfl, _, rfl, l, rfl, ⟨_, SqL.of hl1⟩, fun D2 nD2 => lc_ent (R := IsN) (S := IsB) (cnd := fun _ : Nat => true) (out := fun w : Nat => decide (w < bs)) hl1 (n_ents ws) nD2 (by omega) (fun _ _ _ _ h _ => h) (fun _ _ _ _ h _ => h) (fun _ _ _ _ _ h _ => h) (fun r u H' Nx No hu s1 hr nx no => ?_) fun H2 ys2 s2 hD3 hA2 => ?_⟩
    · cases hr
      dsimp only [gName, List.set]
      refine ⟨rfl, ?_⟩
      unfold tYes
      dsimp only
      rw [if_pos rfl]
      refine ⟨_, rfl, _, rfl, _, _, rfl, rfl, ?_⟩
      dsimp only
      rw [show decide (((u : Nat) : Int) < ((bs : Nat) : Int)) = decide (u < bs) by
        by_cases h : u < bs
        · rw [decide_eq_true h, decide_eq_true (by omega)]
        · rw [decide_eq_false h, decide_eq_false (by omega)]]
      exact nx rfl _ _ (Same.refl _) rfl
    rw [List.filter_eq_self.mpr (fun _ _ => rfl)] at hA2
    have hD4 : H2 D2 = some (.lst ((ws.map fun w => decide (w < bs)).map V.bl)) := by rw [← ents_b hA2]; exact hD3
    refine ⟨D2, _, rfl, SqL.of hD4, .inr ⟨_, rfl, _, _, rfl, rfl, ?_⟩⟩
    rw [any_small]
    have et : ((pw (bigs bs ws) : Nat) : Int) + (if decide (smalls bs ws ≠ []) = true then 1 else 0) = ((lawTot bs ws : Nat) : Int) := by
      unfold lawTot
      by_cases h : smalls bs ws = []
      · rw [if_pos h, decide_eq_false (by simp [h]), if_neg (by decide)]
        omega
      · rw [if_neg h, decide_eq_true h, if_pos rfl]
        omega
    have s12 := s1.trans s2
    dsimp only [gName, List.set]
    try dsimp only [gName, List.set]
    rw [et]
    obtain ⟨w1, w2⟩ := lg_room hlen hmx mxl hW
    have tot : ∀ m, lawTot bs ws ≤ 2 ^ m ↔ W ≤ bs + m := fun m => by
      rw [← hbs]
      exact (law_tot hlen hmx m).trans (hW _)
    refine ⟨_, rfl, by decide, by decide, for_range (lo := 0) (n := 100) (fun i σ H' => (∃ y3 : Option V, σ = [some (.ref l), some (.int (bs : Nat)), some (.int ((lawTot bs ws : Nat) : Int)), y3, none]) ∧ H' = H2 ∧ ∀ j, j < i → ¬ lawTot bs ws ≤ 2 ^ j) ⟨⟨_, rfl⟩, rfl, fun j h => absurd h (by omega)⟩ ?_ ?_⟩
    · rintro i σ H3 hi ⟨⟨y3, rfl⟩, rfl, nj⟩
      dsimp only [gName, List.set]
      rw [show (0 : Int) + ((i : Nat) : Int) = ((i : Nat) : Int) by omega]
      refine ⟨_, rfl, _, rfl, i, rfl, rfl, by omega, _, _, rfl, rfl, _, rfl, ite2 (fun e => ?_) (fun e => ?_)⟩
      · have le : lawTot bs ws ≤ 2 ^ i := by
          have := of_decide_eq_true e
          exact_mod_cast this
        have W1 := (tot i).mp le
        have W2 : W = bs + i := by
          rcases Nat.lt_or_ge W (bs + i) with z | z
          · exact absurd ((tot (W - bs)).mpr (by omega)) (nj (W - bs) (by omega))
          · omega
        refine ⟨_, rfl, _, rfl, _, _, rfl, rfl, ?_⟩
        dsimp only
        rw [show ((bs : Nat) : Int) + ((i : Nat) : Int) = ((W : Nat) : Int) by omega]
        exact q H3 s12
      · refine ⟨⟨_, rfl⟩, rfl, fun j hj le => ?_⟩
        rcases Nat.lt_or_ge j i with y | y
        · exact nj j y le
        · obtain rfl : j = i := by omega
          refine e (decide_eq_true ?_)
          exact_mod_cast le
    · rintro σ H3 ⟨⟨y3, rfl⟩, rfl, nj⟩
      exfalso
      exact nj (W - bs) (by show W - bs < 100; omega) ((tot (W - bs)).mpr (by omega))
end
end K25

/-! k25: the law: the table of stretches. -/
namespace K25
open PySem PySem.Spec PyProof.Rows L2 LamX NdefX Own
abbrev sTb : Stmt := topS 14
abbrev nTb : List Str := ["_law_wholes_here", "_law_found", "_law_span", "_law_first", "_law_ways", "_law_k"]
theorem blk7 : BlkOk nTb (defScope sTb) (lcScope (asgV (lpB 0 (lpB 0 (inD sTb 1))))) [("_law_k", 5)] := blkOk_by (by decide +kernel)
/-- which stretches the table holds -/
def Tabd (ws : List Nat) (H : Hp) (D : Addr) (C : Nat) (done : Nat → Nat → Prop) : Prop := ∃ kvs : List (List Key × V), H D = some (.dT kvs) ∧ kvs.length ≤ C ∧
  ∀ f s, 1 ≤ s → f + s ≤ ws.length → done f s → ∃ v : Nat, valV kvs [kI f, kI s] = some (nV v) ∧ Opt ws f s v
theorem Tabd.same {ws : List Nat} {H H' : Hp} {D : Addr} {C : Nat} {done : Nat → Nat → Prop} (h : Tabd ws H D C done) (x : Same H H') : Tabd ws H' D C done := by
  obtain ⟨kvs, hD, hl, hk⟩ := h
  exact ⟨kvs, x _ _ hD, hl, hk⟩
theorem Tabd.less {ws : List Nat} {H : Hp} {D : Addr} {C C' : Nat} {done done' : Nat → Nat → Prop} (h : Tabd ws H D C done) (hc : C ≤ C') (hd : ∀ f s, 1 ≤ s → f + s ≤ ws.length → done' f s → done f s) : Tabd ws H D C' done' := by
  obtain ⟨kvs, hD, hl, hk⟩ := h
  exact ⟨kvs, hD, by omega, fun f s h1 h2 h3 => hk f s h1 h2 (hd f s h1 h2 h3)⟩
theorem Tabd.put {ws : List Nat} {H : Hp} {D : Addr} {C f s v : Nat} {done : Nat → Nat → Prop} {kvs : List (List Key × V)} (h : Tabd ws H D C done) (hD : H D = some (.dT kvs)) (hb : Opt ws f s v) :
    Tabd ws (upd H D (.dT (putK kvs [kI f, kI s] (nV v)))) D (C + 1) (fun f' s' => done f' s' ∨ (f' = f ∧ s' = s)) := by
  obtain ⟨kvs2, hD2, hl, hk⟩ := h
  rw [hD] at hD2
  cases hD2
  refine ⟨_, upd_same, by have := length_putK kvs [kI f, kI s] (nV v); omega, fun f' s' h1 h2 h3 => ?_⟩
  rw [valV_put]
  by_cases z : [kI f', kI s'] = [kI f, kI s]
  · rw [if_pos z]
    have z1 : f' = f := by
      have := Sum.inl.inj (List.cons.inj z).1
      omega
    have z2 : s' = s := by
      have := Sum.inl.inj (List.cons.inj (List.cons.inj z).2).1
      omega
    rw [z1, z2]
    exact ⟨v, rfl, hb⟩
  · rw [if_neg z]
    rcases h3 with h3 | ⟨rfl, rfl⟩
    · exact hk f' s' h1 h2 h3
    · exact absurd rfl z
theorem dget_v {H : Hp} {D p : Addr} {kvs : List (List Key × V)} {a b v : Nat} {x y : Int} (hD : H D = some (.dT kvs)) (hp : H p = some (.tup [.int x, .int y])) (ex : x = (a : Nat)) (ey : y = (b : Nat)) (hv : valV kvs [kI a, kI b] = some (nV v)) : DGet H D (.ref p) (some (nV v)) := by
  subst ex ey
  have z := DGet.t (k := [kI a, kI b]) hD hp
  rwa [hv] at z
/-- the ways to part a stretch, and the best of them -/
theorem opt_ways {ws : List Nat} {f s v : Nat} {as bs : List Nat} (hs : 2 ≤ s) (la : as.length = s - 1) (lb : bs.length = s - 1) (h : ∀ m, m < s - 1 → Opt ws f (m + 1) (as.getD m 0) ∧ Opt ws (f + (m + 1)) (s - (m + 1)) (bs.getD m 0))
    (h1 : ∃ m, m < s - 1 ∧ v = max (as.getD m 0) (bs.getD m 0) + 1) (h2 : ∀ m, m < s - 1 → v ≤ max (as.getD m 0) (bs.getD m 0) + 1) : Opt ws f s v := by
  refine opt_node (a := fun k => as.getD (k - 1) 0) (b := fun k => bs.getD (k - 1) 0) hs (fun k k1 k2 => ?_) ?_ fun k k1 k2 => h2 (k - 1) (by omega)
  · have := h (k - 1) (by omega)
    rwa [show k - 1 + 1 = k by omega] at this
  · obtain ⟨m, m1, m2⟩ := h1
    exact ⟨m + 1, by omega, by omega, m2⟩
section
variable {P : Program} {w : World} {K : PySem.W.Frag} {mg : Str → Option Value} {base : Heap}
theorem scTb : FnScope nTb ["_law_wholes_here"] (defScope sTb) := ⟨rfl, rfl, rfl, by decide +kernel, rfl, by decide +kernel, by decide +kernel⟩
def spTb : Sp := fun vs H Q _ => ∃ (l : Addr) (ws : List Nat), vs = [.ref l] ∧ H l = some (.lst (ws.map nV)) ∧ 0 < ws.length ∧ ws.length ≤ 60 ∧ ∀ (W : Nat) (H' : Hp), Opt ws 0 ws.length W → Same H H' → Q (.int (W : Nat)) H'
theorem ok_tb (A : At K mg "_law_table" sTb ["_law_wholes_here"]) (B : Blt mg) : DefOk P w K mg base CX0 "_law_table" 1 ["_law_wholes_here"] spTb := by
  refine A.ok fun f fd F => F.ok scTb (fun vs H Q E h => ?_) (fun cdv A outer s0 H vs Q E hr h => ?_)
  · obtain ⟨l, ws, rfl, _⟩ := h
    rfl
  · obtain ⟨l, ws, rfl, hl, hpos, hlen, q⟩ := h
    have nd := scTb.nd
    have hu := hu_of hr
    have sz := sizeLine_eq
    refine ⟨_, pss_cons (ps_set (i := 1) nd rfl (.inr rfl) pe_dnewT)
      (pss_cons (ps_for PassesOwn.never rfl (pi_range2 (by rfl) B.range (pa_cons pe_int (pa_cons (pe_op op_add (pe_callB call_len_seq (by rfl) B.len PySem.boot_len (pa_cons (pv 0) pa_nil)) pe_int) pa_nil))) (pg_name (i := 2) nd rfl (.inr rfl)) (pss_one (ps_for PassesOwn.never rfl (pi_range1 (by rfl) B.range (pa_cons (pe_op op_add (pe_op op_sub (pe_callB call_len_seq (by rfl) B.len PySem.boot_len (pa_cons (pv 0) pa_nil)) (pv 2)) pe_int) pa_nil)) (pg_name (i := 3) nd rfl (.inr rfl)) (pss_cons (ps_setLc (i := 4) (own := [("_law_k", 5)]) (te := tOp (rI0 fun i j => .int (i + j)) (tCB rMx (tCons (tDGet (tVar 1) (tTup (tCons (tVar 3) (tCons (tVar 5) tNil)))) (tCons (tDGet (tVar 1) (tTup (tCons (tOp (rI0 fun i j => .int (i + j)) (tVar 3) (tVar 5)) (tCons (tOp (rI0 fun i j => .int (i - j)) (tVar 2) (tVar 5)) tNil)))) tNil))) (tC (.int 1))) rfl nd rfl rfl rfl (pi_range2 (by rfl) B.range (pa_cons pe_int (pa_cons (pv 2) pa_nil))) blk7 (fun _ _ _ _ _ => (pg_name (i := 5) nd rfl (.inl rfl))) (fun _ _ _ _ _ => pts_nil) (fun _ _ _ _ _ => by exact (pe_op op_add (pe_callB (call_max2 rfl) (by rfl) B.max (by decide +kernel) (pa_cons (pe_dget hu (pv 1) (pe_tup (pa_cons (pv 3) (pa_cons (pv 5) pa_nil))) (fun _ _ => rfl)) (pa_cons (pe_dget hu (pv 1) (pe_tup (pa_cons (pe_op op_add (pv 3) (pv 5)) (pa_cons (pe_op op_sub (pv 2) (pv 5)) pa_nil))) (fun _ _ => rfl)) pa_nil))) pe_int))) (pss_one (ps_dput hu (pv 1) (pe_tup (pa_cons (pv 3) (pa_cons (pv 2) pa_nil))) (pe_ifExp (pt_truth (pv 4) (fun _ => rfl)) (pe_callB (cr_min rfl) (by rfl) B.min (by decide +kernel) (pa_cons (pv 4) pa_nil)) (pe_ix ix_list (pv 0) (pv 3) (fun _ _ => rfl))) rfl))))))
      (pss_one (ps_ret (pe_dget hu (pv 1) (pe_tup (pa_cons pe_int (pa_cons (pe_callB call_len_seq (by rfl) B.len PySem.boot_len (pa_cons (pv 0) pa_nil)) pa_nil))) (fun _ _ => rfl))))), ?_⟩
    intro D nD
    have s1 := same_new (o := HO.dT []) nD
    have h0 : Tabd ws (upd H D (.dT [])) D 0 (fun _ _ => False) := ⟨[], upd_same, Nat.le_refl _, fun f s _ _ z => z.elim⟩
    generalize upd H D (.dT []) = H1 at s1 h0 ⊢
    dsimp only [gName, List.set]
    have hl1 := s1 _ _ hl
    refine ⟨_, rfl, l, _, rfl, .inl (SqL.of hl1), _, _, rfl, rfl, 1, _, rfl, ⟨by decide, by decide, by rw [List.length_map]; omega, by rw [List.length_map]; omega⟩, for_range (lo := 1) (n := ((((ws.map nV).length : Nat) : Int) + 1 - 1).toNat) (fun i σ H' => (∃ y2 y3 y4 : Option V, σ = [some (.ref l), some (.ref D), y2, y3, y4, none]) ∧ Same H H' ∧ Tabd ws H' D (60 * i) (fun f s => s ≤ i)) ⟨⟨_, _, _, rfl⟩, s1, h0.less (by omega) fun f s h1 h2 h3 => by omega⟩ ?_ ?_⟩
    · rintro i σ H2 hi ⟨⟨y2, y3, y4, rfl⟩, s2, h2⟩
      rw [List.length_map] at hi
      dsimp only [gName, List.set]
      rw [show (1 : Int) + ((i : Nat) : Int) = ((1 + i : Nat) : Int) by omega]
      generalize hs : 1 + i = s at *
      have hl2 := s2 _ _ hl
      refine ⟨_, rfl, l, _, rfl, .inl (SqL.of hl2), _, rfl, _, _, rfl, rfl, _, _, rfl, rfl, _, rfl, by rw [List.length_map]; omega, by rw [List.length_map]; omega, for_range (lo := 0) (n := ((((ws.map nV).length : Nat) : Int) - ((s : Nat) : Int) + 1).toNat) (fun j σ H' => (∃ y3 y4 : Option V, σ = [some (.ref l), some (.ref D), some (.int (s : Nat)), y3, y4, none]) ∧ Same H H' ∧ Tabd ws H' D (60 * i + j) (fun f s' => s' ≤ i ∨ (s' = s ∧ f < j))) ⟨⟨_, _, rfl⟩, s2, h2.less (by omega) fun f s h1 h2 h3 => h3.elim id fun z => absurd z.2 (by omega)⟩ ?_ ?_⟩
      · rintro f σ H3 hf ⟨⟨z3, z4, rfl⟩, s3, h3⟩
        rw [List.length_map] at hf
        have fs : f + s ≤ ws.length := by omega
        dsimp only [gName, List.set]
        rw [show (0 : Int) + ((f : Nat) : Int) = ((f : Nat) : Int) by omega]
        have hl3 := s3 _ _ hl
        -- the ways
        refine ⟨_, rfl, 1, _, rfl, ⟨by decide, by decide, by omega, by omega⟩, fun D2 nD2 => lc_range (lo := 1) (n := (((s : Nat) : Int) - 1).toNat) (fun k H' => Same H3 H' ∧ H3 D2 = none ∧ ∃ as bs : List Nat, as.length = k ∧ bs.length = k ∧ H' D2 = some (.lst ((List.range k).map fun m => nV (max (as.getD m 0) (bs.getD m 0) + 1))) ∧ ∀ m, m < k → Opt ws f (m + 1) (as.getD m 0) ∧ Opt ws (f + (m + 1)) (s - (m + 1)) (bs.getD m 0)) ⟨same_new nD2, nD2, [], [], rfl, rfl, upd_same, fun m h => absurd h (by omega)⟩ ?_ ?_⟩
        · rintro m H4 hm4 ⟨s4, nD2, as, bs, la, lb, hD2, eb⟩
          have mL : m + 1 < s := by omega
          dsimp only [gName, List.set]
          refine ⟨rfl, ?_⟩
          unfold tYes
          dsimp only
          rw [if_pos rfl]
          obtain ⟨kvs, hD, hkl, hk⟩ := h3.same s4
          obtain ⟨v1, e1, b1⟩ := hk f (m + 1) (by omega) (by omega) (.inl (by omega))
          obtain ⟨v2, e2, b2⟩ := hk (f + (m + 1)) (s - (m + 1)) (by omega) (by omega) (.inl (by omega))
          rw [show (1 : Int) + ((m : Nat) : Int) = ((m + 1 : Nat) : Int) by omega]
          refine ⟨_, rfl, _, rfl, _, rfl, by show 2 ≤ sizeLine; decide, fun k1 n1 => ?_⟩
          have t1 := same_new (o := HO.tup [.int (f : Nat), .int ((m + 1 : Nat) : Int)]) n1
          refine ⟨D, nV v1, rfl, dget_v (t1 _ _ hD) upd_same rfl rfl e1, ?_⟩
          generalize upd H4 k1 (HO.tup [.int (f : Nat), .int ((m + 1 : Nat) : Int)]) = H5 at t1 ⊢
          refine ⟨_, rfl, _, rfl, _, rfl, _, _, rfl, rfl, _, rfl, _, rfl, _, _, rfl, rfl, by show 2 ≤ sizeLine; decide, fun k2 n2 => ?_⟩
          have t2 := same_new (o := HO.tup [.int (((f : Nat) : Int) + ((m + 1 : Nat) : Int)), .int (((s : Nat) : Int) - ((m + 1 : Nat) : Int))]) n2
          refine ⟨D, nV v2, rfl, dget_v (t2 _ _ (t1 _ _ hD)) upd_same (a := f + (m + 1)) (b := s - (m + 1)) (by omega) (by omega) e2, ?_⟩
          generalize upd H5 k2 (HO.tup [.int (((f : Nat) : Int) + ((m + 1 : Nat) : Int)), .int (((s : Nat) : Int) - ((m + 1 : Nat) : Int))]) = H6 at t2 ⊢
          have t12 := t1.trans t2
          refine ⟨_, _, rfl, _, _, rfl, rfl, ?_⟩
          dsimp only
          rw [show (if ((v1 : Nat) : Int) < ((v2 : Nat) : Int) then ((v2 : Nat) : Int) else ((v1 : Nat) : Int)) + 1 = ((max v1 v2 + 1 : Nat) : Int) by split <;> omega]
          have hD6 := t12 _ _ hD2
          have ga : ∀ (xs : List Nat) (x m' : Nat), m' < xs.length → (xs ++ [x]).getD m' 0 = xs.getD m' 0 := fun xs x m' h => by
            rw [List.getD_eq_getElem?_getD, List.getD_eq_getElem?_getD, List.getElem?_append_left h]
          have gl : ∀ (xs : List Nat) (x : Nat), (xs ++ [x]).getD xs.length 0 = x := fun xs x => by
            rw [List.getD_eq_getElem?_getD, List.getElem?_append_right (Nat.le_refl _), Nat.sub_self]
            rfl
          have gla : (as ++ [v1]).getD m 0 = v1 := by rw [← la]; exact gl as v1
          have glb : (bs ++ [v2]).getD m 0 = v2 := by rw [← lb]; exact gl bs v2
          refine ⟨_, hD6, by rw [List.length_map, List.length_range]; omega, fun b o z => ?_, nD2, as ++ [v1], bs ++ [v2], by rw [List.length_append, la]; rfl, by rw [List.length_append, lb]; rfl, ?_, fun m' hm' => ?_⟩
          · rw [upd_ne (ne_of_none z nD2)]
            exact t12 _ _ (s4 _ _ z)
          · refine upd_same.trans ?_
            rw [List.range_succ, List.map_append, List.map_singleton, gla, glb]
            refine congrArg (fun z => some (HO.lst (z ++ [nV (max v1 v2 + 1)]))) ?_
            refine List.map_congr_left fun m' hm' => ?_
            have := List.mem_range.mp hm'
            rw [ga as v1 m' (by omega), ga bs v2 m' (by omega)]
          · rcases Nat.lt_or_ge m' m with y | y
            · rw [ga as v1 m' (by omega), ga bs v2 m' (by omega)]
              exact eb m' y
            · obtain rfl : m' = m := by omega
              rw [gla, glb]
              exact ⟨b1, b2⟩
        rintro H4 ⟨s4, _, as, bs, la, lb, hD2, eb⟩
        rw [show (((s : Nat) : Int) - 1).toNat = s - 1 by omega] at la lb hD2 eb
        have h4 := h3.same s4
        have s34 := s3.trans s4
        have hl4 := s34 _ _ hl
        dsimp only [gName, List.set]
        refine ⟨_, rfl, _, .inl ⟨_, SqL.of hD2, rfl⟩, ?_⟩
        by_cases e1 : s = 1
        · rw [show (!(List.map (fun m => nV (max (as.getD m 0) (bs.getD m 0) + 1)) (List.range (s - 1))).isEmpty) = false by rw [e1]; rfl]
          refine iteF ⟨_, rfl, _, rfl, l, _, (f : Nat), _, rfl, rfl, SqL.of hl4, atI_nat (j := f) (v := nV (ws.getD f 0)) ?_, ?_⟩
          · rw [List.getElem?_map, List.getElem?_eq_getElem (show f < ws.length by omega), List.getD_eq_getElem?_getD, List.getElem?_eq_getElem (show f < ws.length by omega)]
            rfl
          refine ⟨_, rfl, _, rfl, _, rfl, by show 2 ≤ sizeLine; decide, fun kp nk => ?_⟩
          have s7 := same_new (o := HO.tup [.int (f : Nat), .int (s : Nat)]) nk
          have gk : upd H4 kp (HO.tup [.int (f : Nat), .int (s : Nat)]) kp = some (.tup [.int (f : Nat), .int (s : Nat)]) := upd_same
          generalize upd H4 kp (HO.tup [.int (f : Nat), .int (s : Nat)]) = H7 at s7 gk ⊢
          have h7 := h4.same s7
          obtain ⟨kvs, hD, hkl, hk⟩ := id h7
          have p := h7.put hD (show Opt ws f s (ws.getD f 0) by rw [e1]; exact opt_leaf ws f)
          refine ⟨D, _, rfl, DPut.t (k := [kI f, kI s]) hD gk (by omega), ⟨_, _, rfl⟩, fun b o z => ?_, p.less (by omega) fun f' s' h1 h2 h3 => ?_⟩
          · rw [upd_ne (ne_of_none z nD)]
            exact s7 _ _ (s34 _ _ z)
          · rcases h3 with h3 | ⟨h3, y⟩
            · exact .inl (.inl h3)
            · rcases Nat.lt_or_ge f' f with y2 | y2
              · exact .inl (.inr ⟨h3, y2⟩)
              · exact .inr ⟨by omega, h3⟩
        · have s2' : 2 ≤ s := by omega
          rw [show (!(List.map (fun m => nV (max (as.getD m 0) (bs.getD m 0) + 1)) (List.range (s - 1))).isEmpty) = true by
            obtain ⟨k, rfl⟩ : ∃ k, s = k + 2 := ⟨s - 2, by omega⟩
            rw [show k + 2 - 1 = k + 1 by omega, List.range_succ, List.map_append]
            simp]
          have hDi : H4 D2 = some (.lst (((List.range (s - 1)).map fun m => ((max (as.getD m 0) (bs.getD m 0) + 1 : Nat) : Int)).map V.int)) := by
            rw [List.map_map]
            exact hD2
          refine iteT ⟨_, rfl, D2, _, rfl, SqL.of hDi, by rw [List.length_map, List.length_range]; omega, fun mn g1 g2 => ?_⟩
          obtain ⟨m0, hm0, rfl⟩ := List.mem_map.mp g1
          have hm0 := List.mem_range.mp hm0
          have best : Opt ws f s (max (as.getD m0 0) (bs.getD m0 0) + 1) := opt_ways s2' la lb eb ⟨m0, hm0, rfl⟩ fun m hm => by
            have := g2 _ (List.mem_map.mpr ⟨m, List.mem_range.mpr hm, rfl⟩)
            omega
          refine ⟨_, rfl, _, rfl, _, rfl, by show 2 ≤ sizeLine; decide, fun kp nk => ?_⟩
          have s7 := same_new (o := HO.tup [.int (f : Nat), .int (s : Nat)]) nk
          have gk : upd H4 kp (HO.tup [.int (f : Nat), .int (s : Nat)]) kp = some (.tup [.int (f : Nat), .int (s : Nat)]) := upd_same
          generalize upd H4 kp (HO.tup [.int (f : Nat), .int (s : Nat)]) = H7 at s7 gk ⊢
          have h7 := h4.same s7
          obtain ⟨kvs, hD, hkl, hk⟩ := id h7
          have p := h7.put hD best
          refine ⟨D, _, rfl, DPut.t (k := [kI f, kI s]) hD gk (by omega), ⟨_, _, rfl⟩, fun b o z => ?_, p.less (by omega) fun f' s' h1 h2 h3 => ?_⟩
          · rw [upd_ne (ne_of_none z nD)]
            exact s7 _ _ (s34 _ _ z)
          · rcases h3 with h3 | ⟨h3, y⟩
            · exact .inl (.inl h3)
            · rcases Nat.lt_or_ge f' f with y2 | y2
              · exact .inl (.inr ⟨h3, y2⟩)
              · exact .inr ⟨by omega, h3⟩
      · rintro σ H3 ⟨⟨z3, z4, rfl⟩, s3, h3⟩
        refine ⟨⟨_, _, _, rfl⟩, s3, h3.less ?_ fun f s' h1 h2 h3 => ?_⟩
        · rw [List.length_map]
          omega
        · rw [List.length_map]
          omega
    · rintro σ H2 ⟨⟨y2, y3, y4, rfl⟩, s2, h2⟩
      rw [List.length_map] at h2
      have hl2 := s2 _ _ hl
      obtain ⟨kvs, hD, hkl, hk⟩ := id h2
      obtain ⟨v, e1, b1⟩ := hk 0 ws.length hpos (by omega) (by omega)
      refine ⟨_, rfl, _, rfl, l, _, rfl, .inl (SqL.of hl2), by show 2 ≤ sizeLine; decide, fun kp nk => ?_⟩
      have s3 := same_new (o := HO.tup [.int 0, .int ((ws.map nV).length : Nat)]) nk
      exact ⟨D, nV v, rfl, dget_v (s3 _ _ hD) upd_same rfl (by rw [List.length_map]) e1, q v _ b1 (s2.trans s3)⟩
end
end K25

/-! k25: the law. -/
namespace K25
open PySem PySem.Spec PyProof.Rows L2 LamX NdefX Own
abbrev sOr : Stmt := topS 16
abbrev sLaw : Stmt := topS 17
theorem sorted_one : ∀ {a b : List Int}, a.Perm b → a.Pairwise (· ≤ ·) → b.Pairwise (· ≤ ·) → a = b := fun p h1 h2 => List.Perm.eq_of_pairwise (fun a b _ _ x y => Int.le_antisymm x y) h1 h2 p
theorem rg_nat (n : Nat) : rgV 0 ((n : Nat) : Int) = ((List.range n).map fun k => ((k : Nat) : Int)).map V.int := by
  unfold rgV
  rw [Int.sub_zero, Int.toNat_natCast, List.map_map]
  refine List.map_congr_left fun i _ => ?_
  show V.int (0 + ((i : Nat) : Int)) = V.int ((i : Nat) : Int)
  rw [Int.zero_add]
theorem range_up (n : Nat) : ((List.range n).map fun k => ((k : Nat) : Int)).Pairwise (· ≤ ·) := by
  rw [List.pairwise_map]
  exact List.Pairwise.imp (fun {a b} h => by omega) List.pairwise_lt_range
theorem eq_self (ns : List Int) : PyData.eqv (.list (ns.map PyData.int)) (.list (ns.map PyData.int)) = true := SeqAt.eqv_refl _ (SeqAt.canLay_of_shaped (shG_ints ns))
theorem tabs_keep {T : List (Addr × Str)} {H H' : Hp} {d : Addr} {B : Int} (h : Tabs T H) (hp : Pen H d B) (k : KeepP d H H') : Tabs T H' := fun p hq => by
  obtain ⟨pp, ns, cc, ll, ed, _⟩ := hp.ex
  obtain ⟨ps, h1, h2, h3⟩ := h p hq
  refine ⟨ps, k.k _ _ (ne_of h1 ed (by intro z; cases z)) h1, h2, fun pos cv hc => ?_⟩
  obtain ⟨c, e1, e2⟩ := h3 pos cv hc
  exact ⟨c, e1, k.k _ _ (ne_of e2 ed (by intro z; cases z)) e2⟩
theorem cut_up (xs : List V) (k : Nat) : cutV xs none (some (k : Int)) = xs.take k := by
  unfold cutV
  rw [HT.sIx_none, show HT.sIx xs.length xs.length (some (k : Int)) = min k xs.length from HT.sIx_nat xs.length xs.length k, List.drop_zero, Nat.sub_zero]
  rcases Nat.lt_or_ge k xs.length with h | h
  · rw [Nat.min_eq_left (Nat.le_of_lt h)]
  · rw [Nat.min_eq_right h, List.take_length, List.take_of_length_le h]
section
variable {P : Program} {w : World} {K : PySem.W.Frag} {mg : Str → Option Value} {base : Heap} {Pa Pb : Addr}
theorem scOr : FnScope ["_law_order", "_law_wholes_here", "_law_due", "_law_indexes_here"] ["_law_order", "_law_wholes_here", "_law_due"] (defScope sOr) := ⟨rfl, rfl, rfl, by decide +kernel, rfl, by decide +kernel, by decide +kernel⟩
def spOr : Sp := fun vs H Q _ => ∃ (o : V) (T : Tr) (l : Addr) (ws : List Nat) (W : Nat), vs = [o, .ref l, .int (W : Nat)] ∧ OrdAt H T o ∧ H l = some (.lst (ws.map nV)) ∧ ws.length ≤ 60 ∧ List.Perm T.idx (List.range ws.length) ∧ T.figs ws = W ∧ ∀ H', Same H H' → Q (.bl true) H'
theorem ok_or (A : At K mg "_law_order_right" sOr ["_law_order", "_law_wholes_here", "_law_due"]) (B : Blt mg) (mSt : mg "sorted" = none) (DI : DefOk P w K mg base CX0 "_law_indexes" 63 ["_law_order"] (spIx 60)) (DF : DefOk P w K mg base CX0 "_law_figures_of" 63 ["_law_order", "_law_wholes_here"] (spFo 60)) : DefOk P w K mg base CX0 "_law_order_right" 64 ["_law_order", "_law_wholes_here", "_law_due"] spOr := by
  refine A.ok fun f fd F => F.ok scOr (fun vs H Q E h => ?_) (fun cdv A outer s0 H vs Q E hr h => ?_)
  · obtain ⟨o, T, l, ws, W, rfl, _⟩ := h
    rfl
  · obtain ⟨o, T, l, ws, W, rfl, hO, hl, hn, pT, fT, q⟩ := h
    have nd := scOr.nd
    refine ⟨_, pss_cons (ps_set (i := 3) nd rfl (.inl rfl) (pe_def DI hr (by decide) (by rfl) pass0 (pa_cons (pv 0) pa_nil)))
      (pss_cons (ps_if (PW.pt (pw_or (pt_cmpR op_isN (pv 3) pe_non (nomark _)) (pw_or1 (pt_cmpR (op_neD hr.units) (pe_callB cr_sortedI (by rfl) mSt (by decide +kernel) (pa_cons (pv 3) pa_nil)) (pe_listRgW rfl (by rfl) B.list (prg_1 (by rfl) B.range (pe_callB call_len_seq (by rfl) B.len PySem.boot_len (pa_cons (pv 1) pa_nil)))) (nomark _))))) (pss_one (ps_ret pe_bl)) pss_nil)
      (pss_one (ps_ret (pe_cmpR op_eq (pe_def DF hr (by decide) (by rfl) pass0 (pa_cons (pv 0) (pa_cons (pv 1) pa_nil))) (pv 2) (nomark _))))), ?_⟩
    have il : T.idx.length = ws.length := by rw [pT.length_eq, List.length_range]
    have dp := T.deep_lt
    refine ⟨_, rfl, o, T, rfl, hO, by omega, by omega, fun r H1 s1 g1 => ?_⟩
    dsimp only [gName, List.set]
    refine ⟨_, rfl, rfl, _, rfl, ?_⟩
    rw [show decide (V.ref r = V.non) = false from decide_eq_false (by intro z; cases z)]
    have g1' : H1 r = some (.lst ((T.idx.map fun k => ((k : Nat) : Int)).map V.int)) := by rw [← n_int]; exact g1
    refine iteF ⟨_, rfl, r, _, rfl, SqL.of g1', fun ns p pn sn np => ?_⟩
    have es : ns = (List.range ws.length).map fun k => ((k : Nat) : Int) := sorted_one (pn.trans (pT.map _)) sn (range_up _)
    subst es
    have s2 := same_new (o := HO.lst (((List.range ws.length).map fun k => ((k : Nat) : Int)).map V.int)) np
    have e2 : upd H1 p (HO.lst (((List.range ws.length).map fun k => ((k : Nat) : Int)).map V.int)) p = some (.lst (((List.range ws.length).map fun k => ((k : Nat) : Int)).map V.int)) := upd_same
    generalize upd H1 p (HO.lst (((List.range ws.length).map fun k => ((k : Nat) : Int)).map V.int)) = H2 at s2 e2 ⊢
    have hl2 := (s1.trans s2) _ _ hl
    refine ⟨_, rfl, l, _, rfl, .inl (SqL.of hl2), _, rfl, ?_, fun z nz => ?_⟩
    · rw [List.length_map]
      have : (2 : Nat) ^ 24 = 16777216 := by decide
      omega
    rw [List.length_map, rg_nat]
    have s3 := same_new (o := HO.lst (((List.range ws.length).map fun k => ((k : Nat) : Int)).map V.int)) nz
    refine ⟨_, _, .lst (SqL.of (s3 _ _ e2)) (dpG_ints _), .lst (SqL.of upd_same) (dpG_ints _), shG_ints _, shG_ints _, _, rfl, ?_⟩
    rw [eq_self]
    have s13 := s1.trans (s2.trans s3)
    refine iteF ?_
    refine ⟨_, rfl, _, rfl, o, T, l, ws, rfl, s13 _ _ hl, hO.same s13, by omega, fun i hi => List.mem_range.mp (pT.mem_iff.mp hi), ?_⟩
    refine ⟨_, rfl, rfl, ?_⟩
    rw [fT, decide_eq_true rfl]
    exact q _ s13
theorem scLaw : FnScope ["_law_script", "_law_tape", "_law_wholes_here", "_law_passed", "_law_due", "_law_row", "_law_order"] ["_law_script"] (defScope sLaw) := ⟨rfl, rfl, rfl, by decide +kernel, rfl, by decide +kernel, by decide +kernel⟩
def spLaw (K : PySem.W.Frag) (Pa Pb : Addr) : Sp := fun vs H Q _ => ∃ (a : Addr) (ns : List Int), vs = [.ref a] ∧ SqL K H a (ns.map V.int) ∧ ns.length ≤ 63 ∧ Tabs (Tbs Pa Pb q2) H ∧ ∀ H', Q (.bl true) H'
theorem ok_law {f : Addr} {fd : FuncData} (F : Fun K "law" "law" sLaw f fd) (B : Blt mg) (D0 : DefOk P w K mg base CX0 "_law_begin" 1 ["_law_script"] (spBegin K)) (D1 : DefOk P w K mg base CX0 "_law_draw" 1 ["_law_tape", "_law_limit"] spDraw) (D2 : DefOk P w K mg base CX0 "_law_wholes" 2 ["_law_tape", "_law_many"] spWs) (DL : DefOk P w K mg base CX0 "_law_least" 1 ["_law_wholes_here"] spLe) (DT : DefOk P w K mg base CX0 "_law_table" 1 ["_law_wholes_here"] spTb)
    (DW : DefOk P w K mg base CX0 "_law_whole_is" 1 ["_law_value", "_law_due"] spWi) (DI : DefOk P w K mg base CX0 "_law_indexes" 63 ["_law_order"] (spIx 60)) (DO : DefOk P w K mg base CX0 "_law_order_right" 64 ["_law_order", "_law_wholes_here", "_law_due"] spOr) (DA : DefOk P w K mg base CX0 "least_whole" 4 ["wholes"] (spLw K Pa Pb)) (DJ : DefOk P w K mg base CX0 "joined" 4 ["wholes"] (spJo K Pa Pb)) (DR : DefOk P w K mg base CX0 "least_whole_in_row" 4 ["wholes"] (spLr K Pa Pb)) (DS : DefOk P w K mg base CX0 "joined_in_row" 4 ["wholes"] (spJr K Pa Pb)) : FnOk P w K mg base CX0 65 f fd ["_law_script"] (spLaw K Pa Pb) := by
  refine F.ok scLaw (fun vs H Q E h => ?_) (fun cdv A outer s0 H vs Q E hr h => ?_)
  · obtain ⟨a, ns, rfl, _⟩ := h
    rfl
  · obtain ⟨a, ns, rfl, hs, hl, hT, q⟩ := h
    have nd := scLaw.nd
    refine ⟨_, pss_cons (ps_set (i := 1) nd rfl (.inl rfl) (pe_def D0 hr (by decide) (by rfl) pass0 (pa_cons (pv 0) pa_nil)))
      (pss_cons (ps_set (i := 2) nd rfl (.inl rfl) (pe_def D2 hr (by decide) (by rfl) pass0 (pa_cons (pv 1) (pa_cons (pe_op op_add pe_int (pe_def D1 hr (by decide) (by rfl) pass0 (pa_cons (pv 1) (pa_cons pe_int pa_nil)))) pa_nil))))
      (pss_cons (ps_par (i := 3) (j := 4) (by rfl) nd rfl rfl (by decide) rfl rfl (pa_cons (pe_callTy call_list_of (by rfl) B.list (by decide +kernel) (pa_cons (pv 2) pa_nil)) (pa_cons (pe_def DL hr (by decide) (by rfl) pass0 (pa_cons (pv 2) pa_nil)) pa_nil)) (by rfl))
      (pss_cons (ps_if (PW.pt (pw_or (pt_not (pt_val (pe_def DW hr (by decide) (by rfl) pass0 (pa_cons (pe_def DA hr (by decide) (by rfl) pass0 (pa_cons (pv 3) pa_nil)) (pa_cons (pv 4) pa_nil))))) (pw_or (pt_not (pt_val (pe_def DO hr (by decide) (by rfl) pass0 (pa_cons (pe_def DJ hr (by decide) (by rfl) pass0 (pa_cons (pv 3) pa_nil)) (pa_cons (pv 2) (pa_cons (pv 4) pa_nil)))))) (pw_or1 (pt_cmpR (op_neD hr.units) (pv 3) (pv 2) (nomark _)))))) (pss_one (ps_ret pe_bl)) pss_nil)
      (pss_cons (ps_if (PW.pt (pw_or (pt_not (pt_val (pe_def DW hr (by decide) (by rfl) pass0 (pa_cons (pe_def DA hr (by decide) (by rfl) pass0 (pa_cons (pe_revL (pv 2)) pa_nil)) (pa_cons (pv 4) pa_nil))))) (pw_or1 (pt_not (pt_val (pe_def DW hr (by decide) (by rfl) pass0 (pa_cons (pe_def DA hr (by decide) (by rfl) pass0 (pa_cons (pe_callTy call_tuple_of (by rfl) B.tuple (by decide +kernel) (pa_cons (pv 2) pa_nil)) pa_nil)) (pa_cons (pv 4) pa_nil)))))))) (pss_one (ps_ret pe_bl)) pss_nil)
      (pss_cons (ps_set (i := 5) nd rfl (.inl rfl) (pe_slice sl_list (pv 2) po_none (po_some (pe_op op_add pe_int (pe_def D1 hr (by decide) (by rfl) pass0 (pa_cons (pv 1) (pa_cons pe_int pa_nil)))))))
      (pss_cons (ps_par (i := 3) (j := 4) (by rfl) nd rfl rfl (by decide) rfl rfl (pa_cons (pe_callTy call_list_of (by rfl) B.list (by decide +kernel) (pa_cons (pv 5) pa_nil)) (pa_cons (pe_def DT hr (by decide) (by rfl) pass0 (pa_cons (pv 5) pa_nil)) pa_nil)) (by rfl))
      (pss_cons (ps_if (PW.pt (pw_or (pt_not (pt_val (pe_def DW hr (by decide) (by rfl) pass0 (pa_cons (pe_def DR hr (by decide) (by rfl) pass0 (pa_cons (pv 3) pa_nil)) (pa_cons (pv 4) pa_nil))))) (pw_or1 (pt_cmpR op_lt (pv 4) (pe_def DA hr (by decide) (by rfl) pass0 (pa_cons (pv 5) pa_nil)) (nomark _))))) (pss_one (ps_ret pe_bl)) pss_nil)
      (pss_cons (ps_set (i := 6) nd rfl (.inl rfl) (pe_def DS hr (by decide) (by rfl) pass0 (pa_cons (pv 3) pa_nil)))
      (pss_cons (ps_if (PW.pt (pw_or (pt_not (pt_val (pe_def DO hr (by decide) (by rfl) pass0 (pa_cons (pv 6) (pa_cons (pv 5) (pa_cons (pv 4) pa_nil)))))) (pw_or1 (pt_cmpR (op_neD hr.units) (pe_def DI hr (by decide) (by rfl) pass0 (pa_cons (pv 6) pa_nil)) (pe_listRgW rfl (by rfl) B.list (prg_1 (by rfl) B.range (pe_callB call_len_seq (by rfl) B.len PySem.boot_len (pa_cons (pv 5) pa_nil)))) (nomark _))))) (pss_one (ps_ret pe_bl)) pss_nil)
      (pss_one (ps_ret (pe_and (pe_cmpR (op_eqD hr.units) (pv 3) (pv 5) (nomark _)) (pe_one (pe_cmpR op_eq (pe_def DR hr (by decide) (by rfl) pass0 (pa_cons (pe_revL (pv 5)) pa_nil)) (pv 4) (nomark _))))))))))))))), ?_⟩
    refine ⟨_, rfl, a, ns, rfl, hs, hl, fun d H1 nd1 s1 p1 => ?_⟩
    have T1 := hT.ext s1
    dsimp only [gName, List.set]
    refine ⟨_, rfl, _, rfl, d, 60, _, rfl, p1, by omega, by decide, by decide, fun xz H2 x0 x1 k2 p2 => ⟨_, _, rfl, rfl, ?_⟩⟩
    obtain ⟨x, rfl⟩ : ∃ n : Nat, xz = (n : Int) := ⟨xz.toNat, (Int.toNat_of_nonneg x0).symm⟩
    try dsimp only [tNil]
    rw [show (1 : Int) + (x : Int) = ((1 + x : Nat) : Int) by omega]
    have T2 := tabs_keep T1 p1 k2
    refine ⟨d, 1 + x, _, rfl, by omega, p2, by omega, fun lw ws H3 wl wb hw k3 p3 => ?_⟩
    have T3 := tabs_keep T2 p2 k3
    have wpos : 0 < ws.length := by omega
    have w60 : ws.length ≤ 60 := by omega
    clear T1 T2 k2 k3 p1 p2 s1 nd1 hT hs
    dsimp only [gName, List.set]
    obtain ⟨W, hW⟩ := lg_ex ws
    -- passed, due
    refine ⟨_, rfl, lw, _, rfl, .inl (SqL.of hw), fun pl npl => ?_⟩
    have s4 := same_new (o := HO.lst (ws.map nV)) npl
    have e4 : upd H3 pl (HO.lst (ws.map nV)) pl = some (.lst (ws.map nV)) := upd_same
    have hw4 := s4 _ _ hw
    have p4 := p3.same s4
    have T4 := T3.ext s4
    generalize upd H3 pl (HO.lst (ws.map nV)) = H4 at e4 hw4 p4 T4 ⊢
    refine ⟨_, rfl, lw, ws, W, rfl, hw4, wpos, w60, wb, hW, fun H5 s5 => ⟨_, _, rfl, ?_⟩⟩
    have e5 := s5 _ _ e4
    have hw5 := s5 _ _ hw4
    have p5 := p4.same s5
    have T5 := T4.ext s5
    clear s4 e4 hw4 p4 T4 s5 p3 T3 hw npl
    dsimp only [gName, List.set]
    -- over all orders
    refine ⟨_, rfl, pl, ws, rfl, .inl (SqL.of e5), wpos, w60, T5, fun W2 H6 x6 T6 h2 => ⟨_, rfl, _, _, rfl, _, rfl, ?_⟩⟩
    obtain rfl : W = W2 := hW.one h2
    rw [decide_eq_true rfl]
    refine iteF ?_
    have e6 := x6 _ _ e5 (fun ps z => by cases z)
    have hw6 := x6 _ _ hw5 (fun ps z => by cases z)
    have p6 := p5.ext x6
    clear x6 e5 hw5 p5 T5
    refine ⟨_, rfl, pl, ws, rfl, .inl (SqL.of e6), wpos, w60, T6, fun o W3 T H7 x7 T7 h3 f3 i3 o3 => ?_⟩
    obtain rfl : W = W3 := hW.one h3
    have e7 := x7 _ _ e6 (fun ps z => by cases z)
    have hw7 := x7 _ _ hw6 (fun ps z => by cases z)
    have p7 := p6.ext x7
    clear x7 e6 hw6 p6 T6
    refine ⟨_, rfl, _, rfl, o, T, lw, ws, W, rfl, o3, hw7, w60, i3, f3, fun H8 s8 => ⟨_, rfl, iteF ?_⟩⟩
    have e8 := s8 _ _ e7
    have hw8 := s8 _ _ hw7
    have p8 := p7.same s8
    have T8 := T7.ext s8
    clear s8 e7 hw7 p7 T7 o3
    have e8' : H8 pl = some (.lst ((ws.map fun k => ((k : Nat) : Int)).map V.int)) := by rw [← n_int]; exact e8
    have hw8' : H8 lw = some (.lst ((ws.map fun k => ((k : Nat) : Int)).map V.int)) := by rw [← n_int]; exact hw8
    refine ⟨_, rfl, _, rfl, _, _, .lst (SqL.of e8') (dpG_ints _), .lst (SqL.of hw8') (dpG_ints _), shG_ints _, shG_ints _, _, rfl, ?_⟩
    rw [eq_self]
    refine iteF ?_
    clear e8' hw8' e8
    -- from the other end, a tuple
    refine ⟨_, rfl, lw, _, rfl, SqL.of hw8, fun rv nrv => ?_⟩
    have s9 := same_new (o := HO.lst (ws.map nV).reverse) nrv
    have e9 : upd H8 rv (HO.lst (ws.map nV).reverse) rv = some (.lst (ws.reverse.map nV)) := by rw [List.map_reverse]; exact upd_same
    have hw9 := s9 _ _ hw8
    have p9 := p8.same s9
    have T9 := T8.ext s9
    generalize upd H8 rv (HO.lst (ws.map nV).reverse) = H9 at e9 hw9 p9 T9 ⊢
    refine ⟨rv, ws.reverse, rfl, .inl (SqL.of e9), by rw [List.length_reverse]; exact wpos, by rw [List.length_reverse]; exact w60, T9, fun W2 H10 x10 T10 h2 => ⟨_, rfl, _, _, rfl, _, rfl, ?_⟩⟩
    obtain rfl : W = W2 := (hW.perm (List.reverse_perm ws).symm).one h2
    rw [decide_eq_true rfl]
    refine iteF ?_
    have hw10 := x10 _ _ hw9 (fun ps z => by cases z)
    have p10 := p9.ext x10
    clear x10 s9 e9 hw9 p9 T9 hw8 p8 T8 nrv
    refine ⟨_, rfl, lw, _, rfl, .inl ⟨SqL.of hw10, fun tp ntp => ?_⟩⟩
    have s11 := same_new (o := HO.tup (ws.map nV)) ntp
    have e11 : upd H10 tp (HO.tup (ws.map nV)) tp = some (.tup (ws.map nV)) := upd_same
    have hw11 := s11 _ _ hw10
    have p11 := p10.same s11
    have T11 := T10.ext s11
    generalize upd H10 tp (HO.tup (ws.map nV)) = H11 at e11 hw11 p11 T11 ⊢
    refine ⟨tp, ws, rfl, .inr (SqT.of e11), wpos, w60, T11, fun W2 H12 x12 T12 h2 => ⟨_, rfl, _, _, rfl, _, rfl, ?_⟩⟩
    obtain rfl : W = W2 := hW.one h2
    rw [decide_eq_true rfl]
    refine iteF ?_
    have hw12 := x12 _ _ hw11 (fun ps z => by cases z)
    have p12 := p11.ext x12
    clear x12 s11 e11 hw11 p11 T11 hw10 p10 T10 ntp
    -- the row
    refine ⟨_, rfl, _, rfl, d, 18, _, rfl, p12, by omega, by decide, by decide, fun yz H13 y0 y1 k13 p13 => ⟨_, _, rfl, rfl, _, rfl, lw, _, rfl, SqL.of (k13.lst p12.g hw12), fun lr nlr => ?_⟩⟩
    have T13 := tabs_keep T12 p12 k13
    obtain ⟨y, rfl⟩ : ∃ n : Nat, yz = (n : Int) := ⟨yz.toNat, (Int.toNat_of_nonneg y0).symm⟩
    rw [show (1 : Int) + (y : Int) = ((1 + y : Nat) : Int) by omega, cut_up, ← List.map_take]
    obtain ⟨rs, hrs, rpos, r60⟩ : ∃ rs, ws.take (1 + y) = rs ∧ 0 < rs.length ∧ rs.length ≤ 60 := ⟨_, rfl, by rw [List.length_take]; omega, by rw [List.length_take]; omega⟩
    rw [hrs]
    have s14 := same_new (o := HO.lst (rs.map nV)) nlr
    have er14 : upd H13 lr (HO.lst (rs.map nV)) lr = some (.lst (rs.map nV)) := upd_same
    have T14 := T13.ext s14
    generalize upd H13 lr (HO.lst (rs.map nV)) = H14 at er14 T14 ⊢
    clear s14 nlr k13 p13 T13 p12 T12 hw12 hrs hW wb
    dsimp only [gName, List.set]
    refine ⟨_, rfl, lr, _, rfl, .inl (SqL.of er14), fun pr npr => ?_⟩
    have s15 := same_new (o := HO.lst (rs.map nV)) npr
    have ep15 : upd H14 pr (HO.lst (rs.map nV)) pr = some (.lst (rs.map nV)) := upd_same
    have er15 := s15 _ _ er14
    have T15 := T14.ext s15
    generalize upd H14 pr (HO.lst (rs.map nV)) = H15 at ep15 er15 T15 ⊢
    refine ⟨_, rfl, lr, rs, rfl, er15, rpos, r60, fun V1 H16 hV s16 => ⟨_, _, rfl, ?_⟩⟩
    have ep16 := s16 _ _ ep15
    have er16 := s16 _ _ er15
    have T16 := T15.ext s16
    clear s15 s16 er14 T14 ep15 er15 T15 npr
    dsimp only [gName, List.set]
    -- in their order
    refine ⟨_, rfl, pr, rs, rfl, SqL.of ep16, rpos, r60, T16, fun V2 H17 x17 T17 h2 => ⟨_, rfl, _, _, rfl, _, rfl, ?_⟩⟩
    obtain rfl : V1 = V2 := hV.one h2
    rw [decide_eq_true rfl]
    refine iteF ?_
    have ep17 := x17 _ _ ep16 (fun ps z => by cases z)
    have er17 := x17 _ _ er16 (fun ps z => by cases z)
    refine ⟨_, rfl, _, rfl, lr, rs, rfl, .inl (SqL.of er17), rpos, r60, T17, fun W2 H18 x18 T18 h3 => ⟨_, _, rfl, rfl, _, rfl, ?_⟩⟩
    have under : W2 ≤ V1 := by
      obtain ⟨⟨T0, t1, t2⟩, _⟩ := hV
      rw [← t2]
      refine lg_under h3 ?_
      rw [t1, List.range_eq_range']
    rw [show decide (((V1 : Nat) : Int) < ((W2 : Nat) : Int)) = false from decide_eq_false (by omega)]
    refine iteF ?_
    have ep18 := x18 _ _ ep17 (fun ps z => by cases z)
    have er18 := x18 _ _ er17 (fun ps z => by cases z)
    clear x17 x18 ep16 er16 T16 ep17 er17 T17 h2 h3
    refine ⟨_, rfl, pr, rs, rfl, SqL.of ep18, rpos, r60, T18, fun o W3 T H19 x19 T19 hB hO => ?_⟩
    obtain rfl : V1 = W3 := hV.one hB.op
    have ep19 := x19 _ _ ep18 (fun ps z => by cases z)
    have er19 := x19 _ _ er18 (fun ps z => by cases z)
    clear x19 ep18 er18 T18
    dsimp only [gName, List.set]
    have ti : T.idx = List.range rs.length := by rw [List.range_eq_range']; exact hB.ix
    have tf : T.figs rs = V1 := hB.fg
    refine ⟨_, rfl, _, rfl, _, rfl, o, T, lr, rs, V1, rfl, hO, er19, r60, by rw [ti], tf, fun H20 s20 => ⟨_, rfl, iteF ?_⟩⟩
    have dp := T.deep_lt
    rw [ti, List.length_range] at dp
    have ep20 := s20 _ _ ep19
    have er20 := s20 _ _ er19
    have T20 := T19.ext s20
    refine ⟨_, rfl, o, T, rfl, hO.same s20, by omega, by rw [ti, List.length_range]; omega, fun ix H21 s21 g21 => ?_⟩
    have ep21 := s21 _ _ ep20
    have er21 := s21 _ _ er20
    have T21 := T20.ext s21
    rw [ti] at g21
    refine ⟨_, rfl, lr, _, rfl, .inl (SqL.of er21), _, rfl, ?_, fun z nz => ?_⟩
    · rw [List.length_map]
      have : (2 : Nat) ^ 24 = 16777216 := by decide
      omega
    rw [List.length_map, rg_nat]
    have s22 := same_new (o := HO.lst (((List.range rs.length).map fun k => ((k : Nat) : Int)).map V.int)) nz
    have g21' : H21 ix = some (.lst (((List.range rs.length).map fun k => ((k : Nat) : Int)).map V.int)) := by rw [← n_int]; exact g21
    refine ⟨_, _, .lst (SqL.of (s22 _ _ g21')) (dpG_ints _), .lst (SqL.of upd_same) (dpG_ints _), shG_ints _, shG_ints _, _, rfl, ?_⟩
    rw [eq_self]
    refine iteF ?_
    have ep22 := s22 _ _ ep21
    have er22 := s22 _ _ er21
    have T22 := T21.ext s22
    generalize upd H21 z (HO.lst (((List.range rs.length).map fun k => ((k : Nat) : Int)).map V.int)) = H22 at ep22 er22 T22 ⊢
    clear s20 s21 s22 ep19 er19 T19 ep20 er20 T20 ep21 er21 T21 g21 g21' hO nz
    have ep' : H22 pr = some (.lst ((rs.map fun k => ((k : Nat) : Int)).map V.int)) := by rw [← n_int]; exact ep22
    have er' : H22 lr = some (.lst ((rs.map fun k => ((k : Nat) : Int)).map V.int)) := by rw [← n_int]; exact er22
    -- the end
    refine ⟨_, rfl, _, rfl, _, _, .lst (SqL.of ep') (dpG_ints _), .lst (SqL.of er') (dpG_ints _), shG_ints _, shG_ints _, ?_⟩
    rw [eq_self]
    refine ⟨_, rfl, iteT ?_⟩
    refine ⟨_, rfl, lr, _, rfl, SqL.of er22, fun rv nrv => ?_⟩
    have s23 := same_new (o := HO.lst (rs.map nV).reverse) nrv
    have e23 : upd H22 rv (HO.lst (rs.map nV).reverse) rv = some (.lst (rs.reverse.map nV)) := by rw [List.map_reverse]; exact upd_same
    refine ⟨rv, rs.reverse, rfl, SqL.of e23, by rw [List.length_reverse]; exact rpos, by rw [List.length_reverse]; exact r60, T22.ext s23, fun V2 H24 x24 T24 h2 => ?_⟩
    rw [List.length_reverse] at h2
    obtain rfl : V1 = V2 := opt_rev hV h2
    refine ⟨_, rfl, rfl, ?_⟩
    rw [decide_eq_true rfl]
    exact q H24
end
end K25

set_option maxHeartbeats 0
/-! k25: what the top leaves; the end. -/
namespace K25
open PySem PySem.Spec PyProof.Rows L2 LamX NdefX Own
section
variable {P : Program} {w : World} {K : PySem.W.Frag} {mg : Str → Option Value} {h : Heap}
theorem gloF (X : K.In h) (G : h.Ns mainGlobals mg) (d : He.SaysD faL fnL K) {x : Str} (hx : x ∈ gloL) : mg x = some (.ref (He.ga K x)) :=
  He.glo_ok X G (d.facts (List.mem_append_left _ (List.mem_append_left _ (List.mem_map.mpr ⟨x, hx, rfl⟩))))
theorem freeF (X : K.In h) (G : h.Ns mainGlobals mg) (d : He.SaysD faL fnL K) {x : Str} (hx : x ∈ freeL) : mg x = none :=
  He.free_ok X G (d.facts (List.mem_append_left _ (List.mem_append_right _ (List.mem_map.mpr ⟨x, hx, rfl⟩))))
theorem moreF (d : He.SaysD faL fnL K) {f : He.Fa} (hf : f ∈ moreL) : f.ok K = true := d.facts (List.mem_append_right _ hf)
theorem law_at {fa : Addr} (X : K.In h) (G : h.Ns mainGlobals mg) (hfa : mg "law" = some (.ref fa)) (c : He.SaysX faL fnL tsL [nm0, nm1] exL w h K) (cp : SaysP psL K) : LawAtS PySem.Challenge.rw_figurestay_k25_whole_least_whole_figures w K CX0 65 63 "_law_script" mg fa h := by
  have d := c.t.d
  have neT := c.more
  obtain ⟨fd_least_whole, F_least_whole⟩ := d.def_ 0 (d := dfn "least_whole" 1) rfl
  have A_least_whole : At K mg "least_whole" (topS 1) ["wholes"] := at_of F_least_whole (gloF X G d (by decide +kernel)) fun _ _ _ _ _ _ us hl => match us, hl with | [_], _ => rfl
  obtain ⟨fd_joined, F_joined⟩ := d.def_ 1 (d := dfn "joined" 2) rfl
  have A_joined : At K mg "joined" (topS 2) ["wholes"] := at_of F_joined (gloF X G d (by decide +kernel)) fun _ _ _ _ _ _ us hl => match us, hl with | [_], _ => rfl
  obtain ⟨fd_least_whole_in_row, F_least_whole_in_row⟩ := d.def_ 2 (d := dfn "least_whole_in_row" 3) rfl
  have A_least_whole_in_row : At K mg "least_whole_in_row" (topS 3) ["wholes"] := at_of F_least_whole_in_row (gloF X G d (by decide +kernel)) fun _ _ _ _ _ _ us hl => match us, hl with | [_], _ => rfl
  obtain ⟨fd_joined_in_row, F_joined_in_row⟩ := d.def_ 3 (d := dfn "joined_in_row" 4) rfl
  have A_joined_in_row : At K mg "joined_in_row" (topS 4) ["wholes"] := at_of F_joined_in_row (gloF X G d (by decide +kernel)) fun _ _ _ _ _ _ us hl => match us, hl with | [_], _ => rfl
  obtain ⟨fd__law_begin, F__law_begin⟩ := d.def_ 4 (d := dfn "_law_begin" 8) rfl
  have A__law_begin : At K mg "_law_begin" (topS 8) ["_law_script"] := at_of F__law_begin (gloF X G d (by decide +kernel)) fun _ _ _ _ _ _ us hl => match us, hl with | [_], _ => rfl
  obtain ⟨fd__law_draw, F__law_draw⟩ := d.def_ 5 (d := dfn "_law_draw" 9) rfl
  have A__law_draw : At K mg "_law_draw" (topS 9) ["_law_tape", "_law_limit"] := at_of F__law_draw (gloF X G d (by decide +kernel)) fun _ _ _ _ _ _ us hl => match us, hl with | [_, _], _ => rfl
  obtain ⟨fd__law_whole_is, F__law_whole_is⟩ := d.def_ 6 (d := dfn "_law_whole_is" 10) rfl
  have A__law_whole_is : At K mg "_law_whole_is" (topS 10) ["_law_value", "_law_due"] := at_of F__law_whole_is (gloF X G d (by decide +kernel)) fun _ _ _ _ _ _ us hl => match us, hl with | [_, _], _ => rfl
  obtain ⟨fd__law_indexes, F__law_indexes⟩ := d.def_ 7 (d := dfn "_law_indexes" 11) rfl
  have A__law_indexes : At K mg "_law_indexes" (topS 11) ["_law_order"] := at_of F__law_indexes (gloF X G d (by decide +kernel)) fun _ _ _ _ _ _ us hl => match us, hl with | [_], _ => rfl
  obtain ⟨fd__law_figures_of, F__law_figures_of⟩ := d.def_ 8 (d := dfn "_law_figures_of" 12) rfl
  have A__law_figures_of : At K mg "_law_figures_of" (topS 12) ["_law_order", "_law_wholes_here"] := at_of F__law_figures_of (gloF X G d (by decide +kernel)) fun _ _ _ _ _ _ us hl => match us, hl with | [_, _], _ => rfl
  obtain ⟨fd__law_least, F__law_least⟩ := d.def_ 9 (d := dfn "_law_least" 13) rfl
  have A__law_least : At K mg "_law_least" (topS 13) ["_law_wholes_here"] := at_of F__law_least (gloF X G d (by decide +kernel)) fun _ _ _ _ _ _ us hl => match us, hl with | [_], _ => rfl
  obtain ⟨fd__law_table, F__law_table⟩ := d.def_ 10 (d := dfn "_law_table" 14) rfl
  have A__law_table : At K mg "_law_table" (topS 14) ["_law_wholes_here"] := at_of F__law_table (gloF X G d (by decide +kernel)) fun _ _ _ _ _ _ us hl => match us, hl with | [_], _ => rfl
  obtain ⟨fd__law_wholes, F__law_wholes⟩ := d.def_ 11 (d := dfn "_law_wholes" 15) rfl
  have A__law_wholes : At K mg "_law_wholes" (topS 15) ["_law_tape", "_law_many"] := at_of F__law_wholes (gloF X G d (by decide +kernel)) fun _ _ _ _ _ _ us hl => match us, hl with | [_, _], _ => rfl
  obtain ⟨fd__law_order_right, F__law_order_right⟩ := d.def_ 12 (d := dfn "_law_order_right" 16) rfl
  have A__law_order_right : At K mg "_law_order_right" (topS 16) ["_law_order", "_law_wholes_here", "_law_due"] := at_of F__law_order_right (gloF X G d (by decide +kernel)) fun _ _ _ _ _ _ us hl => match us, hl with | [_, _, _], _ => rfl
  obtain ⟨fdR0, FR0⟩ := d.def_ 13 (d := dfn "_best_order" 5) rfl
  obtain ⟨fdR1, FR1⟩ := d.def_ 14 (d := dfn "_best_brackets" 6) rfl
  obtain ⟨fdL, FL⟩ := d.def_ 15 (d := dfn "law" 17) rfl
  have e := hfa.symm.trans (gloF X G d (x := "law") (by decide +kernel))
  cases e
  have FL' : Fun K "law" "law" sLaw _ fdL := fun_of FL
  have FR0' : Fun K "_best_order" "_best_order" pBo _ fdR0 := fun_of FR0
  have AR0 : AtC K mg "_best_order" pBo ["wholes"] (He.cT K nm0).1 := by
    have bR := FR0'.binds (ps := ["wholes"]) fun _ _ _ _ _ _ us hl => match us, hl with | [_], _ => rfl
    have gR := gloF X G d (x := "_best_order") (by decide +kernel)
    have kR := FR0'.kp
    obtain ⟨oc, od, kV, doc, pm, an, cdv, ct, osl, rfl, lk, hcd⟩ := FR0'.ex
    obtain ⟨cc, rfl⟩ := He.codeIn_ref hcd
    have ec : He.codeOf K nm0 = cc := He.codeOf_eq lk rfl
    refine ⟨_, oc, od, kV, doc, pm, an, ct, osl, ?_, ?_, gR, kR, ?_⟩
    · show K.lookup _ = some ⟨oc, od, .func (PySem.W.fnOf _ _ _ _ _ .none kV doc pm an (.ref (He.codeOf K nm0)) ct), osl⟩
      rw [ec]
      exact lk
    · show PySem.W.codeIn K (.ref (He.codeOf K nm0)) _ = true
      rw [ec]
      exact hcd
    · show Binds K (PySem.W.fnOf _ _ _ _ _ .none kV doc pm an (.ref (He.codeOf K nm0)) ct) _ []
      rw [ec]
      exact bR
  have FR1' : Fun K "_best_brackets" "_best_brackets" pBb _ fdR1 := fun_of FR1
  have AR1 : AtC K mg "_best_brackets" pBb ["wholes"] (He.cT K nm1).1 := by
    have bR := FR1'.binds (ps := ["wholes"]) fun _ _ _ _ _ _ us hl => match us, hl with | [_], _ => rfl
    have gR := gloF X G d (x := "_best_brackets") (by decide +kernel)
    have kR := FR1'.kp
    obtain ⟨oc, od, kV, doc, pm, an, cdv, ct, osl, rfl, lk, hcd⟩ := FR1'.ex
    obtain ⟨cc, rfl⟩ := He.codeIn_ref hcd
    have ec : He.codeOf K nm1 = cc := He.codeOf_eq lk rfl
    refine ⟨_, oc, od, kV, doc, pm, an, ct, osl, ?_, ?_, gR, kR, ?_⟩
    · show K.lookup _ = some ⟨oc, od, .func (PySem.W.fnOf _ _ _ _ _ .none kV doc pm an (.ref (He.codeOf K nm1)) ct), osl⟩
      rw [ec]
      exact lk
    · show PySem.W.codeIn K (.ref (He.codeOf K nm1)) _ = true
      rw [ec]
      exact hcd
    · show Binds K (PySem.W.fnOf _ _ _ _ _ .none kV doc pm an (.ref (He.codeOf K nm1)) ct) _ []
      rw [ec]
      exact bR
  have hL : ∀ (s : Shared) (u : Value), BindsTo s fdL ⟨[u], []⟩ [("_law_script", u)] := by
    obtain ⟨oc, od, kV, doc, pm, an, cdv, ct, osl, rfl, lk, hcd⟩ := FL'.ex
    exact fun s u => .of_eq rfl
  have i0 : nm0 ∈ [nm0, nm1] := List.mem_of_getElem? (i := 0) rfl
  have j0 : He.cT K nm0 ∈ [He.cT K nm0, He.cT K nm1] := List.mem_of_getElem? (i := 0) rfl
  have i1 : nm1 ∈ [nm0, nm1] := List.mem_of_getElem? (i := 1) rfl
  have j1 : He.cT K nm1 ∈ [He.cT K nm0, He.cT K nm1] := List.mem_of_getElem? (i := 1) rfl
  refine ⟨fdL, [He.cT K nm0, He.cT K nm1], spLaw K (He.cT K nm0).2 (He.cT K nm1).2, fun p hp => ?_, fun p hp => ?_, fun p hp => ?_, hL, fun H a ns hl _ hT hs => ⟨a, ns, rfl, hs, hl, fun p hp => ?_, fun _ => rfl⟩, fun base XB GB TBs => ?_⟩
  · simp only [List.mem_cons, List.not_mem_nil, or_false] at hp
    rcases hp with rfl | rfl
    · exact c.empty nm0 i0
    · exact c.empty nm1 i1
  · simp only [List.mem_cons, List.not_mem_nil, or_false] at hp
    rcases hp with rfl | rfl
    · exact c.out nm0 i0
    · exact c.out nm1 i1
  · simp only [List.mem_cons, List.not_mem_nil, or_false] at hp
    rcases hp with rfl | rfl
    · exact PySem.W.codeHd_of_K X (c.hd nm0 i0)
    · exact PySem.W.codeHd_of_K X (c.hd nm1 i1)
  · rcases List.mem_cons.mp hp with rfl | hp
    · exact TabS.nil (hT (He.cT K nm0) j0)
    rw [List.mem_singleton.mp hp]
    exact TabS.nil (hT (He.cT K nm1) j1)
  · have TB0 := TBs (He.cT K nm0) j0
    have TB1 := TBs (He.cT K nm1) j1
    have B : Blt mg := { isi := freeF X G d (by decide +kernel), int := freeF X G d (by decide +kernel), bool := freeF X G d (by decide +kernel), len := freeF X G d (by decide +kernel), list := freeF X G d (by decide +kernel), range := freeF X G d (by decide +kernel), tuple := freeF X G d (by decide +kernel), all := freeF X G d (by decide +kernel), dm := freeF X G d (by decide +kernel), min := freeF X G d (by decide +kernel), max := freeF X G d (by decide +kernel), str := freeF X G d (by decide +kernel), abs := freeF X G d (by decide +kernel), dict := freeF X G d (by decide +kernel), any := freeF X G d (by decide +kernel) }
    have nP : (He.cT K nm0).2 ≠ (He.cT K nm1).2 := of_decide_eq_true neT
    have mS : mg "sum" = none := freeF X G d (by decide +kernel)
    have mSt : mg "sorted" = none := freeF X G d (by decide +kernel)
    have mE : mg "enumerate" = none := freeF X G d (by decide +kernel)
    have P1 := ok_bo (P := PySem.Challenge.rw_figurestay_k25_whole_least_whole_figures.prog) (w := w) (qb := q2) AR0 TB0 nP B mE mSt
    have P2 := ok_bb (P := PySem.Challenge.rw_figurestay_k25_whole_least_whole_figures.prog) (w := w) AR1 TB1 nP B mE
    have P3 := ok_Lw A_least_whole P1
    have P4 := ok_Jo A_joined P1
    have P5 := ok_Lr A_least_whole_in_row P2
    have P6 := ok_Jr A_joined_in_row P2
    have L0 := ok_begin (P := PySem.Challenge.rw_figurestay_k25_whole_least_whole_figures.prog) (w := w) (base := base) A__law_begin B
    have L1 := ok_draw (P := PySem.Challenge.rw_figurestay_k25_whole_least_whole_figures.prog) (w := w) (base := base) A__law_draw B
    have L2 := ok_ws A__law_wholes B L1
    have L3 := ok_wi (P := PySem.Challenge.rw_figurestay_k25_whole_least_whole_figures.prog) (w := w) (base := base) A__law_whole_is B
    have L4 := ok_ix A__law_indexes B L3 60
    have L5 := ok_fo (P := PySem.Challenge.rw_figurestay_k25_whole_least_whole_figures.prog) (w := w) (base := base) A__law_figures_of B 60
    have L6 := ok_le (P := PySem.Challenge.rw_figurestay_k25_whole_least_whole_figures.prog) (w := w) (base := base) A__law_least B mS
    have L7 := ok_tb (P := PySem.Challenge.rw_figurestay_k25_whole_least_whole_figures.prog) (w := w) (base := base) A__law_table B
    have L8 := ok_or A__law_order_right B mSt L4 L5
    exact ok_law FL' B L0 L1 L2 L6 L7 L3 L4 L8 P3 P4 P5 P6
end
end K25
open PySem PySem.W PySem.Calls PyProof.Rows
theorem PySem.Challenge.cw_figurestay_k25_whole_least_whole_figures_holds : PySem.Challenge.rw_figurestay_k25_whole_least_whole_figures.Holds := by
  w_on; o_law
  refine HandSHeadRun.head_any (r := OpenLaw.row PySem.Challenge.rw_figurestay_k25_whole_least_whole_figures) (q := view (OpenLaw.row PySem.Challenge.rw_figurestay_k25_whole_least_whole_figures).prog [17]) (H := K25.hkL) (ob := K25.obL) (M := 4000) (loose := K25.looseL)
    (d := HandSHeadRun.topDef (OpenLaw.row PySem.Challenge.rw_figurestay_k25_whole_least_whole_figures).prog 17) (kwd := []) K25.obL_eq
    (by kernel_rfl) (fun s => by kernel_rfl) K25.runW (by kernel_rfl) (by kernel_rfl) (by kernel_rfl) (by rfl) (by first | assumption | decide +kernel) (by decide +kernel) ⟨rfl, rfl, rfl, rfl, rfl, by decide +kernel⟩ ?hw ?hc
  case hw => w_witness2
  case hc =>
    refine LamX.walk_ofTsE (l := PySem.Challenge.rw_figurestay_k25_whole_least_whole_figures) (n := 63) (k := 65) (x := "_law_script") (CX := fun _ => L2.CX0) rfl (by decide) (by kernel_rfl) ⟨rfl, by decide, by decide⟩ ?F (fun _ _ _ _ _ z => z)
    intro w mg fa h Y G hmg0
    obtain ⟨K, KX, c, cp⟩ := Y
    have hmg : mg ("law" : PySem.Str) = some (.ref fa) := by
      have e : (HandSHeadRun.topDef (OpenLaw.row PySem.Challenge.rw_figurestay_k25_whole_least_whole_figures).prog 17).name = ("law" : PySem.Str) := by kernel_rfl
      rw [← e]
      exact hmg0
    exact ⟨K, KX, K25.law_at KX G hmg c cp⟩
