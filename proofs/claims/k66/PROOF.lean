import PyProof.Rows.All
import Wide.All
import OpenK.AllK
import Wide.FinOn
import HandS.ForMost
import HandS.ForExc
import HandS.Wide
import HandS.WideBits
import HandS.IsInst
import HandS.ExcInit
import HandS.ExcField
import HandS.Nested
import HandS.Deep
import HandS.More
import HandS.Codes
import HandS.Lambda
import KE.KDflt
import KE.IntTextLaws
import HandS.ExcOwn
import HandS.WordsExc
import KE.KStateDown
import HandS.Head0
import HandS.Head1
import HandS.Head2
import HandS.HeadEnd
import HandS.HeadHook1
import HandS.HeadHook2
import HandS.HeadHook3
import HandS.HeadHook4
import HandS.HeadWalk
import KE.KOpsOwn
import HandS.OwnEq
import PyProof.Rows.RuleN_abs
import PyProof.InstNe
import HandS.ExcIs
import KE.KExcIs
import PyProof.NeKinds
import HandS.TryMany
import HandS.Conv
import PyProof.ListRange
import PyProof.LongRange
import HandS.Small
import PySem.Challenge.RW_figurestay_k66_products_spread
import HandS.Property
import HandS.Comp
import Wide.Once
import KE.DataEq
import HandS.DictComp
import HandS.DictTup
import HandS.Iter
import HandS.Walk
import KE.GoesEnum
import HandS.TupAny
import HandS.Defaults
import HandS.Style
import HandS.StrMore
import HandS.Text
import HandS.TryOnly
import PyProof.ReprDict
import PyProof.ReprHeadsTuple
import PyProof.ReprHeadsEmpty
import PyProof.StrHeap
import HandS.RaiseMore
set_option Elab.async false
set_option linter.all false
set_option maxRecDepth 100000
set_option maxHeartbeats 4000000
/-! own layer, of no law: OWN -/
namespace Own
open PySem PySem.Spec PyProof.Rows L2
/-! ### heaps -/
/-- all but what stands at d is as it was -/
def Keep (d : Addr) (H H' : Hp) : Prop := ∀ b o, b ≠ d → H b = some o → H' b = some o
theorem Keep.refl {d : Addr} {H : Hp} : Keep d H H := fun _ _ _ e => e
theorem Keep.trans {d : Addr} {H H1 H2 : Hp} (a : Keep d H H1) (b : Keep d H1 H2) : Keep d H H2 := fun c o n e => b c o n (a c o n e)
theorem Keep.new {d p : Addr} {o : HO} {H : Hp} (h : H p = none) : Keep d H (upd H p o) := fun b u _ e => by
  rw [upd_ne (ne_of_none e h)]
  exact e
theorem Keep.at {d : Addr} {o : HO} {H : Hp} : Keep d H (upd H d o) := fun b u n e => by
  rw [upd_ne n]
  exact e
theorem Keep.same {d : Addr} {H H' : Hp} (s : Same H H') : Keep d H H' := fun b u _ e => s b u e
theorem same_new {H : Hp} {p : Addr} {o : HO} (h : H p = none) : Same H (upd H p o) := fun b u e => by
  rw [upd_ne (ne_of_none e h)]
  exact e
theorem ne_txt : ¬ (("cells" : Str) = "count") ∧ ¬ (("cells" : Str) = "left") ∧ ¬ (("count" : Str) = "left") ∧ ¬ (("count" : Str) = "cells") ∧ ¬ (("left" : Str) = "cells") ∧ ¬ (("left" : Str) = "count") := by decide +kernel
/-- what the pen's dict holds -/
def penK (p : Addr) (c l : Int) : List (Key × V) := [(Sum.inr "cells", V.ref p), (Sum.inr "count", V.int c), (Sum.inr "left", V.int l)]
theorem pen_cells (p : Addr) (c l : Int) : valV (penK p c l) (Sum.inr "cells" : Key) = some (.ref p) := valV_pos rfl
theorem pen_count (p : Addr) (c l : Int) : valV (penK p c l) (Sum.inr "count" : Key) = some (.int c) := by
  unfold penK
  rw [valV_neg (fun e => ne_txt.1 (Sum.inr.inj e)), valV_pos rfl]
theorem pen_left (p : Addr) (c l : Int) : valV (penK p c l) (Sum.inr "left" : Key) = some (.int l) := by
  unfold penK
  rw [valV_neg (fun e => ne_txt.2.1 (Sum.inr.inj e)), valV_neg (fun e => ne_txt.2.2.1 (Sum.inr.inj e)), valV_pos rfl]
theorem key_dec {a b : Str} (h : ¬ a = b) : decide ((Sum.inr a : Key) = Sum.inr b) = false := decide_eq_false fun e => h (Sum.inr.inj e)
theorem put_count (p : Addr) (c l c' : Int) : putK (penK p c l) (Sum.inr "count" : Key) (.int c') = penK p c' l := by
  unfold penK putK
  simp [key_dec ne_txt.1, key_dec ne_txt.2.2.1, key_dec ne_txt.2.2.2.2.2, ne_txt]
theorem put_left (p : Addr) (c l l' : Int) : putK (penK p c l) (Sum.inr "left" : Key) (.int l') = penK p c l' := by
  unfold penK putK
  simp [key_dec ne_txt.2.1, key_dec ne_txt.2.2.1, ne_txt]
/-- the pen stands at d: at most B draws were begun -/
structure Pen (H : Hp) (d : Addr) (B : Int) : Prop where
  ex : ∃ (p : Addr) (ns : List Int) (c l : Int), H d = some (.dK (penK p c l)) ∧ H p = some (.lst (ns.map V.int)) ∧ ns.length ≤ 63 ∧ 0 ≤ c ∧ c ≤ B
theorem Pen.mono {H : Hp} {d : Addr} {B B' : Int} (h : Pen H d B) (z : B ≤ B') : Pen H d B' := by
  obtain ⟨p, ns, c, l, a, b, e, f, g⟩ := h.ex
  exact ⟨p, ns, c, l, a, b, e, f, by omega⟩
theorem Pen.same {H H' : Hp} {d : Addr} {B : Int} (h : Pen H d B) (s : Same H H') : Pen H' d B := by
  obtain ⟨p, ns, c, l, a, b, e, f, g⟩ := h.ex
  exact ⟨p, ns, c, l, s _ _ a, s _ _ b, e, f, g⟩
end Own

/-! from L06 -/
namespace Own
open PySem PySem.Spec PyProof.Rows L2 LamX NdefX
/-- the integers that stand as defaults -/
def dInts : List Expr → List Int
  | .Constant (.int i) _ _ :: r => i :: dInts r
  | _ => []
/-- the tuple of defaults -/
def DfV (H : Hp) (dV : Value) (ds : List Int) : Prop := (ds = [] ∧ dV = .none) ∨ (ds ≠ [] ∧ ∃ T : Addr, dV = .ref T ∧ H T = some (.tup (ds.map V.int)))
def DfIn (h : Heap) (dV : Value) (us : List Value) : Prop := (us = [] ∧ dV = .none) ∨ (us ≠ [] ∧ ∃ T : Addr, dV = .ref T ∧ IsTup h T us.toArray)
/-- a lambda's words in F (its body apart), its defaults dV -/
abbrev lamFd (F : NF) (b : Expr) (dV doc pm ctv : Value) : FuncData := PySem.W.kdv_fn F.name F.qual F.params (.expr b) F.scope F.cl dV doc pm (.ref F.c) ctv
def LamO (f : Addr) (F : NF) (b : Expr) (dV : Value) : HO := .ext fun h => ∃ doc pm ctv : Value, h.get? f = some ({ cls := .type "function", data := .func (lamFd F b dV doc pm ctv) } : Obj)
/-- at f stands the lambda F, whose body is b -/
def LamAt (H : Hp) (f : Addr) (F : NF) (b : Expr) : Prop := ∃ dV : Value, H f = some (LamO f F b dV) ∧ DfV H dV (dInts F.params.defaults)
theorem lamO_ne {f : Addr} {F : NF} {b : Expr} {dV : Value} (ps : Array Value) : LamO f F b dV ≠ .tbl ps := fun z => by
  unfold LamO at z
  cases z
theorem LamAt.ext {H H' : Hp} {f : Addr} {F : NF} {b : Expr} (h : LamAt H f F b) (e : ExtN H H') : LamAt H' f F b := by
  obtain ⟨dV, h1, h2⟩ := h
  refine ⟨dV, e _ _ h1 lamO_ne, ?_⟩
  rcases h2 with z | ⟨n, T, z, q⟩
  · exact .inl z
  · exact .inr ⟨n, T, z, e _ _ q fun ps z => by cases z⟩
theorem lamO_at {P : Program} {w : World} {H : Hp} {h : Heap} {f : Addr} {F : NF} {b : Expr} (hok : HOk P w H h) (e : LamAt H f F b) :
    ∃ dV doc pm ctv : Value, h.get? f = some ({ cls := .type "function", data := .func (lamFd F b dV doc pm ctv) } : Obj) ∧ ∃ us : List Value, Vals ((dInts F.params.defaults).map V.int) us ∧ DfIn h dV us := by
  obtain ⟨dV, h1, h2⟩ := e
  obtain ⟨doc, pm, ctv, z⟩ := (hok f _ h1).1
  refine ⟨dV, doc, pm, ctv, z, ?_⟩
  rcases h2 with ⟨n, z⟩ | ⟨n, T, z, q⟩
  · rw [n]
    exact ⟨[], .nil, .inl ⟨rfl, z⟩⟩
  · obtain ⟨_, its, r, p⟩ := hok T _ q
    refine ⟨its, r, .inr ⟨fun z => ?_, T, z, p⟩⟩
    rw [z] at r
    cases hd : dInts F.params.defaults with
    | nil => exact n hd
    | cons a l =>
      rw [hd] at r
      cases r
section
variable {X : Cx} {pins : List (Addr × Obj)} {σ : L2.St} {H : Hp} {s : Shared}
theorem lam_laid {F : NF} {b : Expr} {dV doc pm ctv : Value} {t' : Nat} (I : Inv X pins σ H s) :
    Inv X pins σ (upd H s.heap.objs.size (LamO s.heap.objs.size F b dV)) { s with heap := s.heap.push ({ cls := .type "function", data := .func (lamFd F b dV doc pm ctv) } : Obj), toks := t' } := by
  have e : (s.heap.push ({ cls := .type "function", data := .func (lamFd F b dV doc pm ctv) } : Obj)).get? s.heap.objs.size = some ({ cls := .type "function", data := .func (lamFd F b dV doc pm ctv) } : Obj) := Heap.get?_push_size _ rfl
  exact I.laid (fun _ _ z => Heap.get?_push_of_some _ z) (Nat.le_refl _) ⟨⟨doc, pm, ctv, e⟩, ⟨_, e⟩, fun _ _ ⟨d, p, c, z⟩ k => ⟨d, p, c, k _ z⟩⟩
/-- the words of the lambda that X makes: c' its code object -/
abbrev lamF (X : Cx) (params : Arguments) (scope : Scope) (c' : Addr) : NF := ⟨"<lambda>", X.env.qual ++ "<lambda>", params, [], scope, cloFrom X.env.cells scope.names [], c'⟩
/-- a lambda made, its defaults laid, and known from now on -/
theorem lam_tail {T : List (Addr × Str)} {c P : Addr} {params : Arguments} {body : Expr} {scope : Scope} {pos : Pos} {fl : Nat} {dV : Value} {E Q : Value → Shared → Prop} (I : Inv X pins σ H s) (TB : TabB X.base X.mg c P) (hcode : X.env.code = .ref c)
    (hm : (P, X.env.qual ++ "<lambda>") ∈ T) (hu : ∀ p ∈ T, p.1 = P → p.2 = X.env.qual ++ "<lambda>") (hT : Tabs T H) (hfree : ∀ y ∈ scope.names, y.2 = .free → ∃ c, X.env.cells.lookup y.1 = some c)
    (k : ∀ (f c' : Addr) (H1 : Hp) (s' : Shared), Inv X pins σ H1 s' → ExtN H H1 → Tabs T H1 → H f = none → H1 f = some (LamO f (lamF X params scope c') body dV) → H1 c' = some (CodeO c' (X.env.qual ++ "<lambda>")) → Q (.ref f) s') :
    wpAny (model X.prog X.w) X.A (makeTail "<lambda>" (X.env.qual ++ "<lambda>") params (.expr body) scope X.env dV .none none pos fl) Q E s := by
  have hTP := hT (P, X.env.qual ++ "<lambda>") hm
  obtain ⟨ps, hP, trip, among⟩ := hTP
  have oP : s.heap.get? P = some { cls := .none, data := .fields ps } := I.hok P _ hP
  have bl := TB.bm.keeps I.bk
  have gl := I.mod.glob.keeps I.bk
  have cd := TB.code.keeps I.bk
  rcases hc : codeAmong pos ps.toList with _ | cv
  · refine PySem.W.kdv_makeTail (closure_ok hfree) I.ok.glob gl hcode cd oP trip hc TB.gP bl ?_
    intro c' ctv doc h' tk hx hge hlt hrec htb
    obtain ⟨c0, oc, vs, t, hc0, hoc, hdc, hvc⟩ := hrec
    obtain rfl : c0 = c' := (Value.ref.inj hc0).symm
    have fresh : H c0 = none := I.hok.fresh hge
    have I1 := inv_table (t' := tk) (q := X.env.qual ++ "<lambda>") (h' := h') I hP (fun b o n e => hx b o n e) htb hge ⟨oc, vs, t, hoc, hdc, hvc⟩
    generalize eH1 : upd (upd H P (.tbl (ps ++ #[rawInt pos.line, rawInt pos.col, .ref c0]))) c0 (CodeO c0 (X.env.qual ++ "<lambda>")) = H1 at I1
    have at1 : H1 c0 = some (CodeO c0 (X.env.qual ++ "<lambda>")) := by rw [← eH1]; exact upd_same
    have ext1 : ExtN H H1 := fun b o e n => by
      have b1 : b ≠ c0 := ne_of_none e fresh
      have b2 : b ≠ P := fun z => n ps (Option.some.inj (e.symm.trans (z ▸ hP)))
      rw [← eH1, upd_ne b1, upd_ne b2]
      exact e
    have tabs1 : Tabs T H1 := fun p hp => by
      by_cases hb : p.1 = P
      · have hq := hu p hp hb
        rw [hq, hb]
        refine ⟨ps ++ #[rawInt pos.line, rawInt pos.col, .ref c0], ?_, ?_, fun p' cv hcv => ?_⟩
        · rw [← eH1, upd_ne (ne_of_none hP fresh), upd_same]
        · rw [Array.toList_append]
          exact PySem.TriplesOk_snoc _ _ _ _ trip
        · rw [Array.toList_append] at hcv
          rcases among_app _ trip hcv with z | z
          · obtain ⟨c1, a1, a2⟩ := among p' cv z
            exact ⟨c1, a1, ext1 _ _ a2 codeO_ne⟩
          · exact ⟨c0, z, at1⟩
      · obtain ⟨qs, a1, a2, a3⟩ := hT p hp
        refine ⟨qs, ?_, a2, fun p' cv hcv => ?_⟩
        · rw [← eH1, upd_ne (ne_of_none a1 fresh), upd_ne hb]
          exact a1
        · obtain ⟨c1, b1, b2⟩ := a3 p' cv hcv
          exact ⟨c1, b1, ext1 _ _ b2 codeO_ne⟩
    have nf1 : H1 h'.objs.size = none := I1.hok.fresh (Nat.le_refl _)
    have I2 := lam_laid (F := lamF X params scope c0) (b := body) (dV := dV) (doc := doc) (pm := (X.mg "__name__").getD .none) (ctv := ctv) (t' := tk) I1
    have up : ∀ b o, H1 b = some o → upd H1 h'.objs.size (LamO h'.objs.size (lamF X params scope c0) body dV) b = some o := fun b o e => (upd_ne (ne_of_none e nf1)).trans e
    exact k _ c0 _ _ I2 (ext1.trans (ExtN.of up)) (tabs1.ext up) (I.hok.fresh (Nat.le_trans hge (Nat.le_of_lt hlt))) upd_same (up _ _ at1)
  · obtain ⟨c', rfl, at0⟩ := among pos cv hc
    refine PySem.W.kdv_makeTailHit (closure_ok hfree) I.ok.glob gl hcode cd oP trip hc bl ?_
    intro ctv doc h' tk hx hsz
    have I1 : Inv X pins σ H { s with heap := h', toks := tk } := I.kept hx
    have nf1 : H h'.objs.size = none := I1.hok.fresh (Nat.le_refl _)
    have I2 := lam_laid (F := lamF X params scope c') (b := body) (dV := dV) (doc := doc) (pm := (X.mg "__name__").getD .none) (ctv := ctv) (t' := tk) I1
    have up : ∀ b o, H b = some o → upd H h'.objs.size (LamO h'.objs.size (lamF X params scope c') body dV) b = some o := fun b o e => (upd_ne (ne_of_none e nf1)).trans e
    exact k _ c' _ _ I2 (ExtN.of up) (hT.ext up) nf1 upd_same (up _ _ at0)
/-- the reading of a lambda as a value -/
def tLamV (X : Cx) (T : List (Addr × Str)) (params : Arguments) (body : Expr) (scope : Scope) : TE := fun _ H Q => Tabs T H ∧ ∀ (f c' : Addr) (H1 : Hp), ExtN H H1 → Tabs T H1 → H f = none →
  LamAt H1 f (lamF X params scope c') body → H1 c' = some (CodeO c' (X.env.qual ++ "<lambda>")) → Q (.ref f) H1
theorem pe_lamV {T : List (Addr × Str)} {c P : Addr} {params : Arguments} {body : Expr} {scope : Scope} {pos : Pos} (TB : TabB X.base X.mg c P) (hcode : X.env.code = .ref c) (hm : (P, X.env.qual ++ "<lambda>") ∈ T)
    (hu : ∀ p ∈ T, p.1 = P → p.2 = X.env.qual ++ "<lambda>") (hdef : params.defaults = []) (hkd : params.kw_defaults = []) (hfr : ∀ y ∈ scope.names, y.2 = .free → X.env.scope.names.lookup y.1 = some .cell ∨ X.env.scope.names.lookup y.1 = some .free) :
    PE X (.Lambda params body scope pos) (tLamV X T params body scope) := by
  refine ⟨fun pins s σ H Q I h => PySem.W.kla_eval ?_ ?_⟩
  · rw [defaultsOf_eq, hdef, hkd]
    rfl
  rw [makeFunction_eq]
  simp only [List.zip_nil_right, List.filterMap_nil, List.isEmpty_nil, if_true, pure_bind]
  refine lam_tail I TB hcode hm hu h.1 (fun y hy e => ?_) fun f c' H1 s' I1 e1 t1 n1 a1 b1 => ⟨.ref f, H1, I1, rfl, h.2 f c' H1 e1 t1 n1 ⟨.none, a1, .inl ⟨by show dInts params.defaults = []; rw [hdef] <;> rfl, rfl⟩⟩ b1⟩
  rcases hfr y hy e with z | z
  · exact I.ok.has _ (.inl z)
  · exact I.ok.has _ (.inr z)
/-- .. with one integer as default -/
theorem pe_lamV1 {T : List (Addr × Str)} {c P : Addr} {params : Arguments} {body : Expr} {scope : Scope} {pos p1 : Pos} {i : Int} {j : Nat} (TB : TabB X.base X.mg c P) (hcode : X.env.code = .ref c) (hm : (P, X.env.qual ++ "<lambda>") ∈ T)
    (hu : ∀ p ∈ T, p.1 = P → p.2 = X.env.qual ++ "<lambda>") (hdef : params.defaults = [.Constant (.int i) j p1]) (hkd : params.kw_defaults = []) (hfr : ∀ y ∈ scope.names, y.2 = .free → X.env.scope.names.lookup y.1 = some .cell ∨ X.env.scope.names.lookup y.1 = some .free) :
    PE X (.Lambda params body scope pos) (tLamV X T params body scope) := by
  refine ⟨fun pins s σ H Q I h => PySem.W.kdv_lam (by rw [hdef]; rfl) hkd ?_⟩
  rw [hdef]
  refine PySem.W.kdv_all1 (thn ((pe_int (X := X) (i := i) (j := j) (pos := p1)).run pins s σ H (fun v H1 => v = .int i ∧ H1 = H) I ⟨rfl, rfl⟩) ?_)
  rintro u s1 ⟨v, H1, I1, r1, rfl, rfl⟩
  refine PySem.W.kdv_all0 ?_
  rw [makeFunction_eq]
  simp only [List.zip_nil_right, List.filterMap_nil, List.isEmpty_nil, List.isEmpty_cons, if_true, pure_bind, Bool.false_eq_true, if_false]
  refine wpAny_bind (wpAny_newTextTuple ?_)
  have nT : H1 s1.heap.objs.size = none := I1.hok.fresh (Nat.le_refl _)
  have I2 : Inv X pins σ (upd H1 s1.heap.objs.size (.tup [.int i])) { s1 with heap := s1.heap.push { cls := .type "tuple", data := .seq [u].toArray } } :=
    I1.laid (t' := s1.toks) (fun _ _ z => Heap.get?_push_of_some _ z) (Nat.le_refl _) ⟨by show 1 ≤ sizeLine; decide, [u], .cons r1 .nil, IsTup.new s1.heap _⟩
  have up : ∀ b o, H1 b = some o → upd H1 s1.heap.objs.size (HO.tup [V.int i]) b = some o := fun b o e => (upd_ne (ne_of_none e nT)).trans e
  refine lam_tail I2 TB hcode hm hu (h.1.ext up) (fun y hy e => ?_) fun f c' H2 s' I3 e1 t1 n1 a1 b1 => ⟨.ref f, H2, I3, rfl, h.2 f c' H2 ((ExtN.of up).trans e1) t1 ?_ ⟨_, a1, .inr ⟨?_, _, rfl, ?_⟩⟩ b1⟩
  · rcases hfr y hy e with z | z
    · exact I.ok.has _ (.inl z)
    · exact I.ok.has _ (.inr z)
  · cases q : H1 f with
    | none => rfl
    | some o => exact (Option.some_ne_none _ ((up _ _ q).symm.trans n1)).elim
  · show dInts params.defaults ≠ []
    rw [hdef]
    simp [dInts]
  · show H2 s1.heap.objs.size = some (.tup ((dInts params.defaults).map V.int))
    rw [hdef]
    exact e1 _ _ upd_same fun ps z => by cases z
end
/-! ### what a lambda promises -/
structure LOk (P : Program) (w : World) (K : PySem.W.Frag) (mg : Str → Option Value) (base : Heap) (CX : CXT) (k : Nat) (f : Addr) (F : NF) (b : Expr) (fr : List Str) (sp : List (Option V) → Hp → VK → XK → Prop) : Prop where
  run : ∀ (A : Around) (outer : List Env) (s : Shared) (H : Hp) (ws : List (Option V)) (Q : VK) (E : XK), Room k A → Env0 P w K mg base A outer s H → LamAt H f F b → H F.c = some (CodeO F.c F.qual) →
    CellsAt F.cl fr ws s.heap H → sp ws H Q E → codeAny (model P w) A (.call (.ref f) ⟨[], []⟩) (CR CX outer P w H s Q E) s
section
variable {CX : CXT} {P : Program} {w : World} {K : PySem.W.Frag} {mg : Str → Option Value} {base : Heap} {N ps fr : List Str} {F : NF} {b : Expr} {f : Addr} {k : Nat} {sp : List (Option V) → Hp → VK → XK → Prop}
theorem lok_of (S : NScope N ps fr F.scope) (hl : (dInts F.params.defaults).length = ps.length)
    (hb : ∀ (dV doc pm ctv : Value) (s : Shared) (us : List Value), us.length = ps.length → DfIn s.heap dV us → BindsTo s (lamFd F b dV doc pm ctv) ⟨[], []⟩ (ps.zip us))
    (hbody : ∀ (A : Around) (outer : List Env) (s : Shared) (H : Hp) (ws : List (Option V)) (Q : VK) (E : XK), Room k (A.deeper (envF F f s.heap.objs.size)) → ws.length = fr.length → sp ws H Q E →
      ∃ t, PE (ncx CX P w K mg base N F f A outer s H E) b t ∧ t (startF N ((dInts F.params.defaults).map V.int) ws) H Q) : LOk P w K mg base CX (k + 1) f F b fr sp := by
  refine ⟨fun A outer s H ws Q E hr e0 hf hc C hsp => ?_⟩
  have lim : s.heap.NoLimit := e0.mod.nolimit.keeps fun b o e => (e0.bs b o e).1
  obtain ⟨dV, doc, pm, ctv, ho, us, rus, hd⟩ := lamO_at e0.hok hf
  have hlu : us.length = ps.length := by rw [← rus.length, List.length_map, hl]
  refine PySem.W.kla_callFunE hr.depth ho rfl S.co S.gen rfl (codeO_at e0.hok hc) ?_
  refine hb dV doc pm ctv s us hlu hd _ _ _ _ ?_
  refine wpAny_newFunctionEnv S.nocell (fun ⟨n, v⟩ hy => S.par n (List.of_mem_zip hy).1) (fun h₁ hns hsb => ⟨lim.fresh _ hsb, ?_⟩) S.kind
  show codeAny _ _ (.expr b (envF F f s.heap.objs.size)) _ _
  obtain ⟨t, ht, hq⟩ := hbody A outer s H ws Q E (hr.deeper _) C.len hsp
  have old : ∀ b o, s.heap.get? b = some o → h₁.get? b = some o := fun b o e => hsb.extBut b o (Nat.ne_of_lt (Heap.lt_size e)) (Heap.get?_push_of_some _ e)
  have I := inv_startN (CX := CX) (N := N) (F := F) (f := f) (E := E) (us := us) (vs := (dInts F.params.defaults).map V.int) (tk := s.toks + (ps.zip us).length) S hr.hd e0 (by rw [List.length_map, hl]) rus C hns old
  refine PySem.W.kla_codeExpr (wpAny_mono (ht.run [] _ _ H Q I hq) (fun v s' q => ?_) fun e s' q => q)
  obtain ⟨x, H', J, rx, q⟩ := q
  exact ⟨x, H', J.os, J.bare, J.base, J.hok, rx, q⟩
end
end Own

/-! from M06 -/
namespace Own
open PySem PySem.Spec PyProof.Rows L2 LamX NdefX
section
variable {X : Cx} {pins : List (Addr × Obj)} {σ : L2.St} {H : Hp} {s : Shared} {cl : List (Str × Addr)} {fr : List Str} {ws : List (Option V)}
/-- what captured cells held at the entry they hold still -/
theorem cells_still (C : CellsAt cl fr ws X.s_0.heap X.H_0) (hx : ∀ b, b ∉ X.ex ∨ ∀ y, cl.lookup y ≠ some b) (I : Inv X pins σ H s) : CellsAt cl fr ws s.heap H := by
  have nx : ∀ {y c}, cl.lookup y = some c → c ∉ X.ex := fun {y c} e => (hx c).elim id fun z => absurd e (z y)
  have still : ∀ {y c v}, cl.lookup y = some c → X.s_0.heap.IsCell c v → s.heap.IsCell c v := fun {y c v} e ⟨o, ho, hd⟩ => by
    obtain ⟨sl, z⟩ := I.base.any ho (C.all y c e).1 (nx e)
    exact ⟨_, z, hd⟩
  constructor
  · exact C.len
  · intro y c e
    obtain ⟨n, v, z⟩ := C.all y c e
    obtain ⟨o, ho, _⟩ := id z
    exact ⟨I.base.free c o ho n (nx e), v, still e z⟩
  · exact C.inj
  · intro i y e
    obtain ⟨c, hc, hv⟩ := C.has i y e
    refine ⟨c, hc, fun v ev => ?_⟩
    obtain ⟨u, r, z⟩ := hv v ev
    exact ⟨u, r, still hc z⟩
/-- the call of a made lambda -/
theorem run_lam {CX : CXT} {k : Nat} {f : Addr} {F : NF} {b : Expr} {sp : List (Option V) → Hp → VK → XK → Prop} {Q : VK} {E : XK} (G : LOk X.prog X.w X.K X.mg X.base CX k f F b fr sp) (hr : Room k X.A) (hx : Passes CX X E) (I : Inv X pins σ H s)
    (hf : LamAt H f F b) (hc : H F.c = some (CodeO F.c F.qual)) (C : CellsAt F.cl fr ws s.heap H) (q : sp ws H Q E) : wpAny (model X.prog X.w) X.A (call (.ref f) []) (EP X pins σ Q) X.xe s := by
  refine wpAny_call (codeAny_mono (G.run _ _ _ _ _ _ _ hr I.env0 hf hc C q) fun r s' z => ?_)
  rcases r with e | fl
  · exact hx pins σ H s e s' I z
  · cases fl
    case ret u => exact I.after z
    all_goals exact False.elim z
/-- deed(), deed a name whose slot holds a lambda; what it captured is known at the entry of this very def -/
theorem pe_deed {CX : CXT} {k i : Nat} {f : Addr} {F : NF} {b : Expr} {sp : List (Option V) → Hp → VK → XK → Prop} {E : XK} {a : Str} {p1 p2 : Pos} (C : CellsAt F.cl fr ws X.s_0.heap X.H_0) (hex : X.ex = []) (G : LOk X.prog X.w X.K X.mg X.base CX k f F b fr sp) (hr : Room k X.A)
    (hx : Passes CX X E) (hN : X.N[i]? = some a) (hv : Vis X.env.scope a) (hd : (a == ("__debug__" : Str)) = false := by decide) (hcd : (a == ("__classdict__" : Str)) = false := by decide) :
    PE X (.Call (.Name a p1) [] [] p2) (fun σ H Q => σ[i]? = some (some (.ref f)) ∧ LamAt H f F b ∧ H F.c = some (CodeO F.c F.qual) ∧ sp ws H Q E) := by
  constructor
  intro pins s σ H Q I h
  obtain ⟨hs, hf, hc, q⟩ := h
  refine wpAny_Call_Name_kw (thn ((pe_var (pos := p1) hN hv hd hcd).run pins s σ H (fun v H1 => v = .ref f ∧ H1 = H) I ⟨.ref f, hs, rfl, rfl⟩) ?_)
  rintro u s1 ⟨v, H1, I1, r1, rfl, rfl⟩
  obtain rfl : u = Value.ref f := r1
  obtain ⟨dV, doc, pm, ctv, ho, _⟩ := lamO_at I1.hok hf
  refine PySem.W.callWith_F0 ⟨_, _, _, _, ho⟩ ?_
  exact run_lam G hr hx I1 hf hc (cells_still C (fun _ => .inl (by rw [hex]; simp)) I1) q
end
section
variable {X : Cx}
/-- a list comprehension's reading, the element's depending on the def's slots as the block begins -/
def tLcD (wi : TI) (g : TG) (te : L2.St → TE) (vs : List Nat) : TE := fun σ H Q => tLc wi g tYes (te σ) vs σ H Q
theorem pe_lcD {elt tg iter : Expr} {scope : Scope} {own : List (Str × Nat)} {pos : Pos} {wi : TI} {g : TG} {te : L2.St → TE} (hc : X.calm = true) (hN : X.N.Nodup) (hi : PI X tg iter wi) (ok : BlkOk X.N X.env.scope scope own)
    (hg : ∀ (s : Shared) (H : Hp) (C : Addr) (cl : List (Str × Addr)) (fp : List Addr), PG (X.blk s H scope (compEnvC scope cl C X.env) fp) tg g)
    (he : ∀ (pins : List (Addr × Obj)) (σ : L2.St) (s : Shared) (H : Hp) (C : Addr) (cl : List (Str × Addr)) (fp : List Addr), Inv X pins σ H s → (∀ b ∈ fp, FpOk X pins H b) → PE (X.blk s H scope (compEnvC scope cl C X.env) fp) elt (te σ))
    (hs : ∀ x, foldedSetIterable iter X.env x = pure x := by intro _; rfl) : PE X (.ListComp elt [⟨tg, iter, [], 0⟩] scope pos) (tLcD wi g te (own.map (·.2))) := by
  constructor
  intro pins s σ H Q I h
  have cap : ∀ y ∈ scope.names, y.2 = .free → ∃ c, X.env.cells.lookup y.1 = some c := fun y hy e => (ok.free y hy e).elim (fun z => I.ok.has _ (.inl z)) (fun z => I.ok.has _ (.inr z))
  rw [eval_ListComp]
  refine wpAny_comprehension_free (use := none) rfl hs (closure_ok cap) ok.kind (fun y hy e => (ok.uniq y hy).trans (congrArg some e)) ?_
  refine thn (hi.run pins s σ H _ I h) fun itr sA hA => thn hA fun _ sB hB => ?_
  obtain ⟨it, fp, tn, J, HB, rfl, IB, T, tB, fB, q⟩ := hB
  have nD : HB sB.heap.objs.size = none := IB.hok.fresh (Nat.le_refl _)
  obtain ⟨W, ⟨m0, w0⟩, turn⟩ := q _ nD
  refine wpAny_newObj_type (newEnv_comp ?_) (by show 0 ≤ sizeLine; decide)
  have inSz : ∀ b ∈ fp, b < sB.heap.objs.size := fun b hb => (T.obj _ _ tB b hb).elim fun _ z => Heap.lt_size z.1
  -- the new list stands
  generalize hsC : ({ sB with heap := sB.heap.push { cls := .type "list", data := .seq ([] : List Value).toArray } } : Shared) = sC
  have heapC : sC.heap = sB.heap.push { cls := .type "list", data := .seq ([] : List Value).toArray } := by subst hsC; rfl
  have toC : ∀ b o, sB.heap.get? b = some o → sC.heap.get? b = some o := fun b o z => by rw [heapC]; exact Heap.get?_push_of_some _ z
  generalize hD : sB.heap.objs.size = D at nD w0 turn inSz
  have IC : Inv X pins σ (upd HB D (.lst [])) sC := by
    have z := IB.laid (a := D) (o := .lst []) (t' := sB.toks) (h' := sC.heap) toC (Nat.le_of_eq hD) ⟨Nat.zero_le _, [], 0, .nil, by rw [heapC, ← hD]; exact Heap.get?_push_size _ rfl⟩
    subst hsC
    exact z
  generalize hHC : upd HB D (.lst []) = HC at IC w0
  have fC : ∀ b ∈ fp, FpOk X pins HC b ∧ b < sC.heap.objs.size := fun b hb => by
    have lt := inSz b hb
    refine ⟨⟨?_, (fB b hb).2⟩, ?_⟩
    · rw [← hHC, upd_ne (Nat.ne_of_lt lt)]
      exact (fB b hb).1
    · rw [heapC, Heap.size_push, hD]
      exact Nat.lt_succ_of_lt lt
  have tC : tn 0 sC.heap := T.keep _ _ _ tB fun b _ o z => toC b o z
  have blk := block_start IC ok hN fC
  generalize hcl : cellsFrom (sC.heap.objs.size + 1) scope.names (cloFrom X.env.cells scope.names []) = cells at blk ⊢
  have hgB := hg sC HC sC.heap.objs.size cells fp
  have heB := he pins σ sC HC sC.heap.objs.size cells fp IC (fun b hb => (fC b hb).1)
  have htB : PTs (X.blk sC HC scope (compEnvC scope cells sC.heap.objs.size X.env) fp) [] tYes := pts_nil
  show codeAny _ _ (.compStart (.ListComp elt [⟨tg, iter, [], 0⟩] scope pos) 0 (.ref it) (.ref D) (compEnvC scope cells sC.heap.objs.size X.env)) (compPost (model X.prog X.w) X.A X.xe none (EP X pins σ Q) (.ref D) sC.heap.objs.size) { sC with heap := pushCells (sC.heap.push { cls := .type "dict", data := .dict #[] }) scope.names }
  generalize hce : compEnvC scope cells sC.heap.objs.size X.env = ce at blk hgB heB htB ⊢
  have ceL : ce.locals = sC.heap.objs.size := by rw [← hce]; rfl
  generalize hsE : ({ sC with heap := pushCells (sC.heap.push { cls := .type "dict", data := .dict #[] }) scope.names } : Shared) = sE at blk ⊢
  have tE : tn 0 sE.heap := T.keep _ _ _ tC fun b _ o z => by rw [← hsE]; exact pushCells_keeps _ _ _ _ (Heap.get?_push_of_some _ z)
  -- the iterator's objects as the block sees them
  have seen : ∀ {σ' : L2.St} {H' : Hp} {s' : Shared}, Inv (X.blk sC HC scope ce fp) [] σ' H' s' → (∀ b ∈ fp, H' b = none) → ∀ b ∈ fp, FpOk (X.blk sC HC scope ce fp) [] H' b := fun {σ' H' s'} J' n b hb => by
    have z1 := J'.ok.exf b hb
    exact ⟨n b hb, z1.1, J'.ok.exfs b hb, .inl hb, z1.2, fun p hp => absurd (show p ∈ ([] : List (Addr × Obj)) ++ [] from hp) (by simp)⟩
  have whole : codeAny (model X.prog X.w) X.A (.compLoop (.ListComp elt [⟨tg, iter, [], 0⟩] scope pos) 0 (.ref it) (.ref D) ce) (compPost (model X.prog X.w) X.A X.xe none (EP X pins σ Q) (.ref D) sC.heap.objs.size) sE := by
    refine compLoop_any (fun n s' => ∃ (i : Nat) (H' : Hp), W i n H' ∧ (∀ b ∈ fp, H' b = none) ∧ tn i s'.heap ∧ Inv (X.blk sC HC scope ce fp) [] (wipe σ (own.map (·.2))) H' s') ?_ m0 ⟨0, HC, w0, fun b hb => (fC b hb).1.1, tE, blk⟩
    rintro n sF ⟨i, HF, wF, nF, tF, IF⟩
    rcases turn i n HF wF with ⟨hstop, hq⟩ | ⟨hgo, Nx, hNx, step⟩
    · have fin := T.done (X.blk sC HC scope ce fp) rfl rfl rfl hc i [] sF _ HF (fun _ _ => False) IF (seen IF nF) tF hstop
      refine thnF fin ?_
      rintro _ sG ⟨rfl, IG⟩
      have IX : Inv X pins σ HF sG := IC.call' (ch := fp) IG.os IG.base IG.hok IG.bare fun b hb => by
        obtain ⟨⟨_, a1, a2, a3, a4, a5⟩, _⟩ := fC b hb
        exact ⟨a3, a1, a4, a5⟩
      have free : HF sC.heap.objs.size = none := by
        have z : HF ce.locals = none := IG.free
        rw [← ceL]
        exact z
      obtain ⟨m, hn, _⟩ := IG.loc
      have hn : sG.heap.Ns ce.locals m := hn
      rw [ceL] at hn
      obtain ⟨f0, f1, f2, f3, f4, f5⟩ := IC.fpOk (H' := HF) (Nat.le_refl _) free
      exact ⟨m, hn, fun h2 sb => ⟨.ref D, HF, IX.turned (t' := sG.toks) (fun b o hb e => (sb.2 b hb).trans e) f0 f1 f3 f4 f5, rfl, hq⟩⟩
    · have nxt := T.item (X.blk sC HC scope ce fp) rfl rfl rfl hc i [] sF _ HF (fun _ _ => False) IF (seen IF nF) tF hgo
      refine thnF nxt ?_
      rintro _ sG ⟨u, rfl, hG⟩
      refine thnF hG ?_
      rintro _ sI ⟨x, HI, II, rI, yI, tI, nI⟩
      have pinned := II.pinned (seen II nI) (T.obj _ _ tI)
      refine thnF (hgB.run _ sI _ HI x u _ pinned rI (step x HI yI)) ?_
      rintro _ sJ ⟨σJ, HJ, IJ, hwJ, qJ⟩
      refine thnF (htB.run _ sJ σJ HJ _ IJ qJ) ?_
      rintro b sK ⟨HK, IK, qK⟩
      have again : ∀ {s' : Shared} {H' : Hp}, Inv (X.blk sC HC scope ce fp) ([] ++ pinsAt fp sI.heap) σJ H' s' → Nx H' → ∃ m, m < n ∧ ∃ (i : Nat) (H' : Hp), W i m H' ∧ (∀ b ∈ fp, H' b = none) ∧ tn i s'.heap ∧ Inv (X.blk sC HC scope ce fp) [] (wipe σ (own.map (·.2))) H' s' := fun {s' H'} J' hx => by
        obtain ⟨m', lt, w'⟩ := hNx H' hx
        have pn : ∀ b ∈ fp, ∀ o, sI.heap.get? b = some o → s'.heap.get? b = some o ∧ H' b = none := fun b hb o z => by
          have y := J'.pin (b, o) (List.mem_append_right _ (List.mem_append_right _ (mem_pinsAt hb z)))
          exact ⟨y.1, y.2.1⟩
        refine ⟨m', lt, i + 1, H', w', fun b hb => ?_, T.keep _ _ _ tI fun b hb o z => (pn b hb o z).1, ?_⟩
        · obtain ⟨o, z, _⟩ := T.obj _ _ tI b hb
          exact (pn b hb o z).2
        · refine (J'.unpinned (pins := [])).weak (by rw [← hwJ, wipe_length]) fun j v z => ?_
          rw [← hwJ] at z
          exact (wipe_some z).1
      cases b
      case false =>
        simp only [Bool.false_eq_true, if_false] at qK ⊢
        exact again IK qK
      case true =>
        simp only [if_true] at qK ⊢
        refine thnF (heB.run _ sK σJ HK _ IK qK) ?_
        rintro z sL ⟨y, HL, IL, rL, acc, hacc, hlen, hnx⟩
        exact app_ok (X := X.blk sC HC scope ce fp) IL hacc hlen rL fun sM IM => again IM hnx
  exact codeAny_compStart_list whole (T.self X.A 0 _ _ _ tE whole)
end
end Own

/-! from N06 -/
namespace Own
open PySem PySem.Spec PyProof.Rows L2 LamX NdefX
/-- a def of the text as its callers know it -/
structure DefOk (P : Program) (w : World) (K : PySem.W.Frag) (mg : Str → Option Value) (base : Heap) (CX : CXT) (x : Str) (k : Nat) (ps : List Str) (sp : Sp) : Prop where
  ex : ∃ (f : Addr) (fd : FuncData), FnOk P w K mg base CX k f fd ps sp ∧ mg x = some (.ref f) ∧ PySem.W.keepIn K (.ref f) = true ∧ Binds K fd ps []
/-- .. as the top has left it -/
structure At (K : PySem.W.Frag) (mg : Str → Option Value) (x : Str) (st : Stmt) (ps : List Str) : Prop where
  ex : ∃ (f : Addr) (fd : FuncData), Fun K x x st f fd ∧ mg x = some (.ref f) ∧ Binds K fd ps []
theorem At.ok {P : Program} {w : World} {K : PySem.W.Frag} {mg : Str → Option Value} {base : Heap} {CX : CXT} {x : Str} {st : Stmt} {k : Nat} {ps : List Str} {sp : Sp} (a : At K mg x st ps) (h : ∀ (f : Addr) (fd : FuncData), Fun K x x st f fd → FnOk P w K mg base CX k f fd ps sp) :
    DefOk P w K mg base CX x k ps sp := by
  obtain ⟨f, fd, F, g, b⟩ := a.ex
  exact ⟨f, fd, h f fd F, g, F.kp, b⟩
section
variable {X : Cx} {CX : CXT} {k j : Nat} {ps : List Str} {sp : Sp} {E : XK} {x : Str} {p pos : Pos} {e : Expr} {es : List Expr} {t : TA}
theorem pe_def (D : DefOk X.prog X.w X.K X.mg X.base CX x k ps sp) (hr : Room j X.A) (hj : k ≤ j) (hg : Gl X x) (hx : Passes CX X E) (ha : PA X (e :: es) t) (hdb : (x == ("__debug__" : Str)) = false := by decide)
    (he : starEach (e :: es) X.env = (false, eval e X.env) :: starEach es X.env := by rfl) (hpl : (backTo pos (starEach es X.env)).any (·.1) = false := by rfl) : PE X (.Call (.Name x p) (e :: es) [] pos) (tCall sp [] E t) := by
  obtain ⟨f, fd, F, g, kp, b⟩ := D.ex
  exact pe_call F (hr.mono hj) hg g kp b .nil hx ha hdb he hpl
theorem pe_def0 (D : DefOk X.prog X.w X.K X.mg X.base CX x k ps sp) (hr : Room j X.A) (hj : k ≤ j) (hg : Gl X x) (hx : Passes CX X E) (hdb : (x == ("__debug__" : Str)) = false := by decide) : PE X (.Call (.Name x p) [] [] pos) (tCall sp [] E tNil) := by
  obtain ⟨f, fd, F, g, kp, b⟩ := D.ex
  exact pe_call0 F (hr.mono hj) hg g kp b .nil hx hdb
end
/-- a def whose first argument is a lambda; sp: what it makes of the lambda's promise and of the other arguments -/
structure LamDef (P : Program) (w : World) (K : PySem.W.Frag) (mg : Str → Option Value) (base : Heap) (g : Addr) (k : Nat) (sp : (Hp → VK → XK → Prop) → List V → Hp → VK → Prop) : Prop where
  run : ∀ (A : Around) (outer : List Env) (s : Shared) (H : Hp) (us : List Value) (f : Addr) (vs : List V) (F : NF) (b : Expr) (fr : List Str) (ws : List (Option V)) (spl : List (Option V) → Hp → VK → XK → Prop) (kl : Nat) (Q : VK), Room k A → kl < k → Env0 P w K mg base A outer s H →
    Vals (.ref f :: vs) us → LOk P w K mg base (L2.CX P w) kl f F b fr spl → LamAt H f F b → H F.c = some (CodeO F.c F.qual) → CellsAt F.cl fr ws s.heap H → sp (spl ws) vs H Q →
    codeAny (model P w) A (.call (.ref g) ⟨us, []⟩) (CR CX0 outer P w H s Q E0) s
structure LamDefAt (P : Program) (w : World) (K : PySem.W.Frag) (mg : Str → Option Value) (base : Heap) (x : Str) (k : Nat) (sp : (Hp → VK → XK → Prop) → List V → Hp → VK → Prop) : Prop where
  ex : ∃ g : Addr, LamDef P w K mg base g k sp ∧ mg x = some (.ref g) ∧ PySem.W.keepIn K (.ref g) = true
/-- one of several lambdas: its words by its code object's address, its body, the captured names and their values, its promise -/
structure Lam where
  nf : Addr → NF
  b : Expr
  fr : List Str
  ws : List (Option V)
  sp : List (Option V) → Hp → VK → XK → Prop
def tLamCall {ι : Type} (L : ι → Lam) (sp : (Hp → VK → XK → Prop) → List V → Hp → VK → Prop) (t : TA) : TE := fun σ H Q => t σ H fun vs H1 => ∃ (i : ι) (f c' : Addr) (rest : List V), vs = .ref f :: rest ∧ LamAt H1 f ((L i).nf c') (L i).b ∧
  H1 ((L i).nf c').c = some (CodeO ((L i).nf c').c ((L i).nf c').qual) ∧ sp ((L i).sp (L i).ws) rest H1 Q
theorem pe_lamcall {ι : Type} {X : Cx} {L : ι → Lam} {k kl j : Nat} {sp : (Hp → VK → XK → Prop) → List V → Hp → VK → Prop} {x : Str} {p pos : Pos} {e : Expr} {es : List Expr} {t : TA} (D : LamDefAt X.prog X.w X.K X.mg X.base x k sp) (hkl : kl < k) (hr : Room j X.A) (hj : k ≤ j)
    (G : ∀ (i : ι) (f c' : Addr), LOk X.prog X.w X.K X.mg X.base (L2.CX X.prog X.w) kl f ((L i).nf c') (L i).b (L i).fr (L i).sp) (C : ∀ (i : ι) (c' : Addr), CellsAt ((L i).nf c').cl (L i).fr (L i).ws X.s_0.heap X.H_0) (hxc : ∀ (i : ι) (c' b : Addr), b ∉ X.ex ∨ ∀ y, ((L i).nf c').cl.lookup y ≠ some b)
    (hg : Gl X x) (ha : PA X (e :: es) t) (hdb : (x == ("__debug__" : Str)) = false := by decide) (he : starEach (e :: es) X.env = (false, eval e X.env) :: starEach es X.env := by rfl) (hpl : (backTo pos (starEach es X.env)).any (·.1) = false := by rfl) :
    PE X (.Call (.Name x p) (e :: es) [] pos) (tLamCall L sp t) := by
  obtain ⟨g, R, gm, kp⟩ := D.ex
  constructor
  intro pins s σ H Q I h
  refine wpAny_Call_Name_kw (ld_glob I hg gm ?_ hdb)
  refine PySem.W.callWith_K (h₀ := X.base) I.ok.mod.kin kp (thn (ha.run pos pins s σ H _ I h) ?_) he hpl
  rintro us s1 ⟨vs, H1, I1, r, i, f, c', rest, rfl, hf, hc, q⟩
  refine ⟨I1.kIn, wpAny_call (codeAny_mono (R.run X.A X.stack s1 H1 us f rest _ _ _ _ _ kl Q (hr.mono hj) hkl I1.env0 r (G i f c') hf hc (cells_still (C i c') (hxc i c') I1) q) fun z s' hz => ?_)⟩
  rcases z with er | fl
  · exact (show False from hz).elim
  · cases fl
    case ret u => exact I1.after hz
    all_goals exact False.elim hz
/-- what the def's own cells hold, told to a block that begins -/
theorem cells_blk {X : Cx} {pins : List (Addr × Obj)} {σ : L2.St} {H : Hp} {s : Shared} {scope : Scope} {fr : List Str} {js : List Nat} (I : Inv X pins σ H s) (hfree : ∀ y ∈ scope.names, y.2 = .free → X.env.scope.names.lookup y.1 = some .cell ∨ X.env.scope.names.lookup y.1 = some .free)
    (hfr : ∀ y ∈ fr, (y, NameKind.free) ∈ scope.names) (hjs : js.map (fun j => X.N[j]?) = fr.map some) : CellsAt (cloFrom X.env.cells scope.names []) fr (js.map (slotAt σ)) s.heap H := cells_of I (Caps.made I.ok hfree hfr hjs)
theorem cells_fp {X : Cx} {pins : List (Addr × Obj)} {σ : L2.St} {H : Hp} {s : Shared} {scope : Scope} {fp : List Addr} (I : Inv X pins σ H s) (hfree : ∀ y ∈ scope.names, y.2 = .free → X.env.scope.names.lookup y.1 = some .cell ∨ X.env.scope.names.lookup y.1 = some .free)
    (hfp : ∀ b ∈ fp, FpOk X pins H b) (b : Addr) : b ∉ fp ∨ ∀ y, (cloFrom X.env.cells scope.names []).lookup y ≠ some b := by
  by_cases hb : b ∈ fp
  · refine .inr fun y z => ?_
    have hf : ∀ y ∈ scope.names, y.2 = .free → ∃ c, X.env.cells.lookup y.1 = some c := fun y hy e => (hfree y hy e).elim (fun z => I.ok.has _ (.inl z)) fun z => I.ok.has _ (.inr z)
    exact (hfp b hb).2.2.2.2.1 y b (clo_cm hf z) rfl
  · exact .inl hb
end Own

/-! from S06 -/
namespace PySem.SeqAt
open AutoSeq1 (wpAny_loadPart')
open MeetsSeq
theorem own_str_dict0 (b : Str) (u : Tok) (l : Addr) (es : Array DictEntry) (ep : Nat) :
    Meets (Builtin.«str.__eq__» ⟨[.str b u, .ref l], []⟩) (fun _ R s => s.heap.get? l = some ({ cls := .type "dict", dict := none, data := .dict es ep, slots := #[] } : Obj) ∧ R (.ok (.ret .notImplemented)) s) :=
  .of_wp fun prog w A R s h => by
    obtain ⟨hp, g, d, tk, os⟩ := s
    obtain ⟨hl, h⟩ := h
    wp_walk using wpAny_loadPart' hl, wpAny_load hl
    exact ⟨_, rfl, h⟩
theorem own_dict_str0 (b : Str) (u : Tok) (l : Addr) (es : Array DictEntry) (ep : Nat) :
    Meets (Builtin.«dict.__eq__» ⟨[.ref l, .str b u], []⟩) (fun _ R s => s.heap.get? l = some ({ cls := .type "dict", dict := none, data := .dict es ep, slots := #[] } : Obj) ∧ R (.ok (.ret .notImplemented)) s) :=
  .of_wp fun prog w A R s h => by
    obtain ⟨hp, g, d, tk, os⟩ := s
    obtain ⟨hl, h⟩ := h
    have f1 := F.sub_str_dict
    wp_walk using wpAny_loadPart' hl, wpAny_load hl
    exact ⟨_, rfl, h⟩
theorem own_rc_str_dict {A : Around} {s : Shared} {l : Addr} {es : Array DictEntry} {ep : Nat} (b : Str) (u : Tok) (ho : s.heap.get? l = some ({ cls := .type "dict", dict := none, data := .dict es ep, slots := #[] } : Obj)) (hu : A.units < cLine) : RcAt A s (.str b u) (.ref l) false :=
  fun prog w E Q h => by
    refine rc_eq_decline_or (k := false) (typeIs_str s b u) ⟨_, ho, rfl⟩ (by decide) F.sub_dict_str F.slot_str_eq F.slot_dict_eq_refl ?_ ?_ ?_ (.inr hu) h
    · exact fun _ hq => call_meets F.slot_str_eq (typeIs_str s b u) F.entry_str_eq (F.args_str_eq_2 _ _) (own_str_dict0 b u l es ep) ⟨ho, hq⟩
    · exact fun _ hq => call_meets F.slot_dict_eq_refl ⟨_, ho, rfl⟩ F.entry_dict_eq (F.args_dict_eq_2 _ _) (own_dict_str0 b u l es ep) ⟨ho, hq⟩
    · exact fun _ hq => wpAny_of_eq (rfl : isSame (.str b u) (.ref l) = pure false) hq
theorem own_eq_str_dict {A : Around} {s : Shared} {l : Addr} {es : Array DictEntry} {ep : Nat} (b : Str) (u : Tok) (ho : s.heap.get? l = some ({ cls := .type "dict", dict := none, data := .dict es ep, slots := #[] } : Obj)) (hu : A.units < cLine) : EqAt A s (.str b u) (.ref l) false :=
  fun prog w E Q h => by
    unfold eqBool
    refine wpAny_holding (wpAny_ite_split (fun z => absurd (eq_of_beq z) nofun) fun _ => ?_)
    exact wpAny_bind (own_rc_str_dict b u ho hu prog w E _ (wpAny_truthy_bool h))
end PySem.SeqAt
namespace Own
open PySem PySem.Spec PyProof.Rows L2
/-- a value that is no text, and no number with a text's place -/
inductive NoTxt (H : Hp) : V → Prop where
  | non : NoTxt H .non
  | bl (b : Bool) : NoTxt H (.bl b)
  | int (i : Int) : NoTxt H (.int i)
  | lst {a : Addr} {xs : List V} (e : H a = some (.lst xs)) : NoTxt H (.ref a)
  | tup {a : Addr} {xs : List V} (e : H a = some (.tup xs)) : NoTxt H (.ref a)
  | dct {a : Addr} {kvs : List (Key × V)} (e : H a = some (.dK kvs)) : NoTxt H (.ref a)
theorem NoTxt.ne {X : Cx} {pins : List (Addr × Obj)} {σ : L2.St} {H : Hp} {s : Shared} {x : V} {v : Value} (I : Inv X pins σ H s) (h : NoTxt H x) (r : RelV x v) {A : Around} (hu : A.units < cLine) (z : Str) (t : Tok) : SeqAt.EqAt A s (.str z t) v false := by
  cases h with
  | non => cases r; exact SeqAt.EqAt.str_none z t
  | bl b => cases r; exact SeqAt.EqAt.str_bool z t b
  | int i =>
    obtain ⟨u, rfl⟩ := r
    exact SeqAt.EqAt.str_int z t i u
  | lst e =>
    cases r
    obtain ⟨its, _, pl, _⟩ := I.list (SqL.of e)
    exact SeqAt.EqAt.str_list z t pl.isList hu
  | tup e =>
    cases r
    obtain ⟨its, _, pl, _⟩ := I.tuple (SqT.of e)
    exact SeqAt.EqAt.str_tuple z t pl hu
  | dct e =>
    cases r
    obtain ⟨_, _, vs, _, ⟨⟨c, dd, da, sl⟩, es, ep, ho, hx, hd, _⟩⟩ := (show ObjOk X.prog X.w H s.heap _ (.dK _) from I.hok _ _ e)
    obtain ⟨rfl, rfl, rfl⟩ := hx
    obtain rfl : da = .dict es ep := hd
    exact SeqAt.own_eq_str_dict z t ho hu
def rNotInW (K : PySem.W.Frag) : R2 := fun x y H Q => ∃ (p : Addr) (zs : List Str), y = .ref p ∧ SqT K H p (zs.map V.str) ∧ NoTxt H x ∧ Q (.bl true) H
theorem op_notInW {X : Cx} (hu : X.A.units + 1 < cLine) : OpR X (compareOp .NotIn) (rNotInW X.K) := by
  intro pins s σ H x y v u Q I rx ry h
  obtain ⟨p, zs, rfl, hq, nt, q⟩ := h
  cases ry
  obtain ⟨its, r, pl, hz⟩ := I.tuple hq
  have txts : ∀ w ∈ its, ∃ (z : Str) (t : Tok), w = .str z t := fun w hw => by
    obtain ⟨i, hi⟩ := List.mem_iff_getElem?.mp hw
    have hlt : i < (zs.map V.str).length := by
      rw [Paired.length r]
      exact (List.getElem?_eq_some_iff.mp hi).1
    obtain ⟨u', h1, h2⟩ := r.get (List.getElem?_eq_getElem hlt)
    rw [hi] at h1
    cases h1
    rw [List.getElem_map] at h2
    obtain ⟨t, z⟩ := h2
    exact ⟨_, t, z⟩
  have hu0 : X.A.units < cLine := Nat.lt_of_le_of_lt (Nat.le_succ _) hu
  have hu' : X.A.in1.units < cLine := by first | exact hu0 | exact hu
  refine SeqAt.notIn_tupleAt (fun _ => false) pl (fun w hw => ?_) ⟨.bl _, H, I, rfl, ?_⟩
  · obtain ⟨z, t, rfl⟩ := txts w (by simpa using hw)
    exact nt.ne I rx hu' z t
  · have e : its.toArray.any (fun _ => false) = false := by simp
    rw [e]
    exact q
end Own


/-! from P06 -/
namespace Own
open PySem PySem.Spec PyProof.Rows L2
inductive Thing (H : Hp) : V → Prop where
  | non : Thing H .non
  | bl (b : Bool) : Thing H (.bl b)
  | int (i : Int) : Thing H (.int i)
  | str (z : Str) : Thing H (.str z)
  | lst {a : Addr} {xs : List V} (e : H a = some (.lst xs)) : Thing H (.ref a)
  | tup {a : Addr} {xs : List V} (e : H a = some (.tup xs)) : Thing H (.ref a)
  | dct {a : Addr} {kvs : List (Key × V)} (e : H a = some (.dK kvs)) : Thing H (.ref a)
theorem Thing.same {H H' : Hp} {x : V} (h : Thing H x) (s : Same H H') : Thing H' x := by
  cases h with
  | non => exact .non
  | bl b => exact .bl b
  | int i => exact .int i
  | str z => exact .str z
  | lst e => exact .lst (s _ _ e)
  | tup e => exact .tup (s _ _ e)
  | dct e => exact .dct (s _ _ e)
def isInt : V → Bool
  | .int _ => true
  | _ => false
def isBl : V → Bool
  | .bl _ => true
  | _ => false
/-- isinstance(x, int), isinstance(x, bool) -/
theorem Thing.isi {K : PySem.W.Frag} {H : Hp} {x : V} (h : Thing H x) : ∃ t : Value, TyX K H x t ∧ PySem.W.kitOne K t (.type "int") = some (isInt x || isBl x) ∧ PySem.W.kitOne K t (.type "bool") = some (isBl x) := by
  cases h with
  | non => exact ⟨_, .base .non, kit_ty (show kitB "NoneType" "int" = some false by decide +kernel), kit_ty (show kitB "NoneType" "bool" = some false by decide +kernel)⟩
  | bl b => exact ⟨_, .base (.bl b), kit_ty (show kitB "bool" "int" = some true by decide +kernel), kit_ty (show kitB "bool" "bool" = some true by decide +kernel)⟩
  | int i => exact ⟨_, .base (.int i), kit_ty (show kitB "int" "int" = some true by decide +kernel), kit_ty (show kitB "int" "bool" = some false by decide +kernel)⟩
  | str z => exact ⟨_, .base (.str z), kit_ty (show kitB "str" "int" = some false by decide +kernel), kit_ty (show kitB "str" "bool" = some false by decide +kernel)⟩
  | lst e => exact ⟨_, .base (.lst e), kit_ty (show kitB "list" "int" = some false by decide +kernel), kit_ty (show kitB "list" "bool" = some false by decide +kernel)⟩
  | tup e => exact ⟨_, .base (.tup e), kit_ty (show kitB "tuple" "int" = some false by decide +kernel), kit_ty (show kitB "tuple" "bool" = some false by decide +kernel)⟩
  | dct e => exact ⟨_, .base (.dK e), kit_ty (show kitB "dict" "int" = some false by decide +kernel), kit_ty (show kitB "dict" "bool" = some false by decide +kernel)⟩
theorem Thing.noTxt {H : Hp} {x : V} (h : Thing H x) : NoTxt H x ∨ ∃ z, x = .str z := by
  cases h with
  | non => exact .inl .non
  | bl b => exact .inl (.bl b)
  | int i => exact .inl (.int i)
  | str z => exact .inr ⟨z, rfl⟩
  | lst e => exact .inl (.lst e)
  | tup e => exact .inl (.tup e)
  | dct e => exact .inl (.dct e)
/-- what a written dict says at a text -/
def KGet (K : PySem.W.Frag) (d : Addr) (z : Str) (r : Option V) : Prop := ∃ ro : Option Value, PySem.W.nsIn K d z = some ro ∧ RelO r ro
section
variable {X : Cx} {d : Addr} {es : Array DictEntry} {n : Nat} {o e f : Expr} {apos cpos : Pos} {td ty tx : TE}
theorem pe_kget2 (D : KDict X.K X.w d es n) (ho : PE X o td) (he : PE X e ty) (hf : PE X f tx) (m : M2 X o "get" apos e f cpos) :
    PE X (.Call (.Attribute o "get" apos) [e, f] [] cpos) (fun σ H Q => td σ H fun x H1 => x = .ref d ∧ ty σ H1 fun y H2 => tx σ H2 fun z H3 => ∃ (t : Str) (r : Option V), y = .str t ∧ KGet X.K d t r ∧ Q (r.getD z) H3) := by
  constructor
  intro pins s σ H Q I h
  refine wpAny_Call_method m.base m.few m.line PySem.F.plainAttrs_dict PySem.F.slot_dict_get PySem.F.type_dict_get (thn (ho.run pins s σ H _ I h) ?_)
  rintro u s1 ⟨x, H1, I1, rx, rfl, q1⟩
  obtain rfl : u = Value.ref d := rx
  refine ⟨kd_type D I1, fun b q => ?_, ?_⟩
  · cases q
    exact ⟨_, I1.kIn _ _ D.at_, rfl⟩
  rw [m.trees]
  refine Calls.callWith_builtin rfl (Calls.evalArgs_plain (Calls.spliced_cons (thn (he.run pins s1 σ H1 _ I1 q1) ?_)))
  rintro iv s2 ⟨y, H2, I2, ry, q2⟩
  refine Calls.spliced_cons (thn (hf.run pins s2 σ H2 _ I2 q2) ?_)
  rintro fv s3 ⟨z, H3, I3, rz, t, r, rfl, ⟨ro, hk, rr⟩, q3⟩
  refine Calls.spliced_nil ?_
  obtain ⟨tk, rfl⟩ := ry
  show wpAny _ _ (call (.builtin "dict.get") [.ref d, .str t tk, fv]) _ _ _
  refine call_meetsIn PySem.F.slot_dict_get (kd_type D I3) PySem.F.entry_dict_get (PySem.F.args_dict_get_3 _ _ _) (meets_dict_get_default (strKind X.prog X.w) d (strKind_is X.prog X.w t tk) D.low fv) ⟨_, PySem.W.mapOf_K (prog := X.prog) I3.kIn D.at_ D.lit, ?_⟩
  rw [PySem.W.find_K D.at_ hk]
  refine ⟨r.getD z, H3, I3.tok _, ?_, q3⟩
  cases r with
  | none =>
    cases ro with
    | none => exact rz
    | some u => exact rr.elim
  | some v =>
    cases ro with
    | none => exact rr.elim
    | some u => exact rr
end
/-! ### an error class whose __init__ keeps one field -/
structure ErrC (P : Program) (w : World) (K : PySem.W.Frag) (mg : Str → Option Value) (base : Heap) (x fld : Str) (k : Nat) (C : Addr) (sp : Sp) : Prop where
  g : mg x = some (.ref C)
  oex : OexC K C
  ini : ∃ (fI : Addr) (fd : FuncData), PySem.W.findIn K (.ref C) "__init__" = some (some (.ref fI)) ∧ PySem.W.typeIn K (.ref fI) = some (.type "function") ∧ FnOk P w K mg base CX0 k fI fd ["self", fld] sp ∧ Binds K fd ["self", fld] []
  xf : XfC K C
  te : PySem.W.exmOne K (.ref C) (.ref C) = some true
  noV : PySem.W.findIn K (.ref C) fld = some none
def spErr (C : Addr) (fld : Str) : Sp := fun vs H Q _ => ∃ (a : Addr) (y : V), vs = [.ref a, y] ∧ H a = some (exo a C none) ∧ ∀ dx, H dx = none → dx ≠ a → Q .non (upd (upd H dx (exd dx [(fld, y)])) a (exo a C (some dx)))
/-- such an error leaves: its value x -/
def Bad (C : Addr) (fld : Str) (x : V) (H : Hp) (E : XK) : Prop := ∀ (d : Addr) (H' : Hp), Same H H' → H d = none → H' d = some (.xd [(fld, x)]) → E (.ref C) (some d) H'
theorem Bad.same {C : Addr} {fld : Str} {x : V} {H H1 : Hp} {E : XK} (h : Bad C fld x H E) (s : Same H H1) : Bad C fld x H1 E := fun d H' s' n e => h d H' (s.trans s') (s.free n) e
section
variable {X : Cx} {x fld : Str} {k j : Nat} {C : Addr} {e : Expr} {te : TE} {p pos : Pos}
theorem pmk_err (D : ErrC X.prog X.w X.K X.mg X.base x fld k C (spErr C fld)) (hr : Room j X.A) (hj : k + 1 ≤ j) (hg : Gl X x) (he : PE X e te) (hdb : (x == ("__debug__" : Str)) = false := by decide)
    (hst : starEach (e :: []) X.env = (false, eval e X.env) :: starEach [] X.env := by rfl) (hpl : (backTo pos (starEach [] X.env)).any (·.1) = false := by rfl) :
    PMk X (.Call (.Name x p) [e] [] pos) (tMkO C (spErr C fld) [] (tCons te tNil)) := by
  obtain ⟨fI, fd, iC, tI, F1, b⟩ := D.ini
  exact pmk_oex D.oex iC tI F1 (hr.mono hj) b .nil (fun _ _ _ _ _ _ _ z => z.elim) hg D.g (pa_cons he pa_nil hst) hdb hst hpl
end
/-- the end of such a making -/
theorem bad_mk {C : Addr} {fld : Str} {y : V} {H : Hp} {Q : XK} (h : Bad C fld y H Q) : [y].length ≤ 1000 ∧ ∀ a, H a = none → spErr C fld (.ref a :: ([y] ++ [])) (upd H a (exo a C none))
    (fun v H2 => v = .non ∧ ∃ (d : Addr) (fs : List (Str × V)), H2 a = some (exo a C (some d)) ∧ H2 d = some (exd d fs) ∧ H d = none ∧ Q (.ref C) (some d) (upd (del H2 a) d (.xd fs))) (fun _ _ _ => False) := by
  refine ⟨by show 1 ≤ 1000; decide, fun a na => ⟨a, y, rfl, upd_same, fun dx ndx ne => ⟨rfl, dx, [(fld, y)], upd_same, ?_, ?_, ?_⟩⟩⟩
  · rw [upd_ne ne, upd_same]
  · rw [upd_ne ne] at ndx
    exact ndx
  · have nd : H dx = none := by
      rw [upd_ne ne] at ndx
      exact ndx
    refine h dx _ (fun b o e => ?_) nd upd_same
    have b1 : b ≠ a := ne_of_none e na
    have b2 : b ≠ dx := ne_of_none e nd
    rw [upd_ne b2, del_ne b1, upd_ne b1, upd_ne b2, upd_ne b1]
    exact e
end Own

/-! from U06 -/
namespace Own
open PySem PySem.Spec PyProof.Rows L2
theorem op_mulS {X : Cx} : OpR X (binaryOp .Mult) (fun x y H Q => ∃ (z : Str) (n : Int), x = .str z ∧ y = .int n ∧ MulOk z n ∧ Q (.str (Txt.mul z n)) H) := by
  intro pins s σ H x y v u Q I rx ry h
  obtain ⟨z, n, rfl, rfl, ok, q⟩ := h
  obtain ⟨t, rfl⟩ := rx
  obtain ⟨t', rfl⟩ := ry
  exact SB.mul ok fun t2 k => ⟨.str _, H, I.tok _, ⟨_, rfl⟩, q⟩
theorem zeros_fold : ∀ (n : Nat) (acc : Array Nat), ((List.replicate n #[48]).foldl (· ++ ·) acc).toList = acc.toList ++ List.replicate n 48
  | 0, acc => by simp
  | n + 1, acc => by
    rw [List.replicate_succ, List.foldl_cons, zeros_fold n, Array.toList_append, List.replicate_succ, List.append_assoc]
    rfl
theorem zero_cps : ("0" : Str).cps = #[48] := by decide +kernel
theorem one_cps : ("1" : Str).cps = #[49] := by decide +kernel
theorem zeros (n : Nat) : (Txt.mul "0" (n : Int)).cps.toList = List.replicate n 48 := by
  unfold Txt.mul
  by_cases h0 : n = 0
  · subst h0
    rw [if_pos (by omega)]
    rfl
  · rw [if_neg (by omega)]
    by_cases h1 : n = 1
    · subst h1
      rw [if_pos (by simp), zero_cps]
      rfl
    · have e : ¬ (((n : Int) == 1 || ("0" : Str).length == 0) = true) := by
        have l : ("0" : Str).length = 1 := by decide +kernel
        rw [l]
        simp
        omega
      rw [if_neg e]
      show ((List.replicate (n : Int).toNat ("0" : Str).cps).foldl (· ++ ·) #[]).toList = _
      rw [zero_cps, Int.toNat_natCast, zeros_fold]
      rfl
/-- '1' + '0' * n -/
def tenS (n : Nat) : Str := ("1" : Str) ++ Txt.mul "0" (n : Int)
theorem tenS_list (n : Nat) : (tenS n).cps.toList = 49 :: List.replicate n 48 := by
  have e : (tenS n).cps = ("1" : Str).cps ++ (Txt.mul "0" (n : Int)).cps := rfl
  rw [e, Array.toList_append, zeros, one_cps]
  rfl
theorem tens_val : ∀ (n a : Nat), (List.replicate n 48).foldl (fun acc c => acc * 10 + (c - 48)) a = a * 10 ^ n
  | 0, a => by simp
  | n + 1, a => by
    rw [List.replicate_succ, List.foldl_cons, tens_val n]
    show (a * 10 + 0) * 10 ^ n = a * 10 ^ (n + 1)
    rw [Nat.add_zero, Nat.pow_succ, Nat.mul_assoc, Nat.mul_comm 10]
theorem str_len (x : Str) : x.length = x.cps.toList.length := by
  cases x
  rfl
theorem tenS_len (n : Nat) : (tenS n).length = n + 1 := by
  rw [str_len, tenS_list, List.length_cons, List.length_replicate]
theorem ten_text {n : Nat} (h : n ≤ 600) : PySem.intText? (tenS n) = some ((10 : Int) ^ n) := by
  have e := PySem.intText_digits (x := tenS n) (fun c hc => by
      rw [tenS_list] at hc
      rcases List.mem_cons.mp hc with rfl | hc
      · exact ⟨by decide, by decide⟩
      · have := (List.mem_replicate.mp hc).2
        omega) (by rw [tenS_list]; simp) (by rw [tenS_len]; omega)
  rw [e]
  have z : NumText.digitsVal (tenS n).cps.toList = 10 ^ n := by
    rw [tenS_list]
    unfold NumText.digitsVal
    rw [List.foldl_cons, tens_val]
    simp
  rw [z]
  simp
theorem mulOk0 {n : Nat} (h : n ≤ 600) : MulOk "0" (n : Int) := by
  have l : ("0" : Str).length = 1 := by decide +kernel
  refine ⟨?_, fun h1 h2 => ?_, fun h1 h2 => ?_⟩
  · rw [Bool.or_eq_false_iff]
    exact ⟨decide_eq_false (by omega), decide_eq_false (by omega)⟩
  · rw [l]
    have z := Int.le_ediv_of_mul_le (c := (n : Int)) (a := 1) (b := 2 ^ 63 - 1) (by omega) (by omega)
    omega
  · rw [l, Nat.one_mul, Int.toNat_natCast]
    exact decide_eq_false (by have := sizeLine_eq; omega)
end Own

/-! from V06 -/
namespace Own
theorem ten_pos (n : Nat) : (0 : Int) < (10 : Int) ^ n := Int.pow_pos (by decide)
theorem ten_mono {m n : Nat} (h : m ≤ n) : (10 : Int) ^ m ≤ (10 : Int) ^ n := by
  obtain ⟨k, rfl⟩ := Nat.le.dest h
  rw [Int.pow_add]
  have a := ten_pos m
  have b : (1 : Int) ≤ (10 : Int) ^ k := ten_pos k
  have := Int.mul_le_mul_of_nonneg_left b (Int.le_of_lt a)
  omega
theorem ten_nat (n : Nat) : ((10 : Int) ^ n).natAbs = 10 ^ n := by
  rw [Int.natAbs_pow]
  rfl
theorem ten_lt (n : Nat) : ((10 : Int) ^ n).natAbs < 2 ^ (4 * n + 1) := by
  rw [ten_nat, Nat.pow_succ, Nat.pow_mul]
  have a : 10 ^ n ≤ (2 ^ 4) ^ n := Nat.pow_le_pow_left (by decide) n
  have b : 0 < (2 ^ 4) ^ n := Nat.pow_pos (by decide)
  omega
theorem lt_two {i j : Int} {k : Nat} (h0 : 0 ≤ i) (h1 : i ≤ j) (h : j.natAbs < 2 ^ k) : i.natAbs < 2 ^ k := Nat.lt_of_le_of_lt (by omega) h
end Own

/-! from W06 -/
namespace Own
open PySem PySem.Spec PyProof.Rows L2
theorem merge_app : ∀ (kvs acc : List (Key × V)), ((acc ++ kvs).map (·.1)).Nodup → mergeK acc kvs = acc ++ kvs
  | [], acc, _ => by simp [mergeK]
  | p :: r, acc, h => by
    have hn : valV acc p.1 = none := by
      cases e : valV acc p.1 with
      | none => rfl
      | some v =>
        have m := valV_in e
        rw [List.map_append, List.nodup_append] at h
        exact absurd rfl (h.2.2 p.1 m p.1 (by simp))
    have z := merge_app r (acc ++ [p]) (by
      rw [List.append_assoc]
      exact h)
    show mergeK (putK acc p.1 p.2) r = acc ++ p :: r
    rw [putK_new _ hn, z, List.append_assoc]
    rfl
theorem merge_new {kvs : List (Key × V)} (h : (kvs.map (·.1)).Nodup) : mergeK [] kvs = kvs := merge_app kvs [] h
/-- a dict of texts -/
def txK (l : List (Str × V)) : List (Key × V) := l.map fun p => (Sum.inr p.1, p.2)
theorem txK_val : ∀ (l : List (Str × V)) (z : Str), valV (txK l) (Sum.inr z : Key) = l.lookup z
  | [], z => rfl
  | p :: r, z => by
    obtain ⟨a, v⟩ := p
    by_cases h : a = z
    · subst h
      rw [show txK ((a, v) :: r) = (Sum.inr a, v) :: txK r from rfl, valV_pos rfl]
      simp [List.lookup]
    · rw [show txK ((a, v) :: r) = (Sum.inr a, v) :: txK r from rfl, valV_neg (fun e => h (Sum.inr.inj e)), txK_val r z]
      have hb : (z == a) = false := by simpa using fun e : z = a => h e.symm
      simp [List.lookup, hb]
theorem DGet.tx {H : Hp} {a : Addr} {l : List (Str × V)} (z : Str) (e : H a = some (.dK (txK l))) : DGet H a (.str z) (l.lookup z) := by
  have q := DGet.k (k := (Sum.inr z : Key)) e
  rw [txK_val] at q
  exact q
end Own

/-! from Y06 -/
namespace Own
open PySem PySem.Spec PyProof.Rows L2
/-- a flat value's datum -/
def datV : V → PyData
  | .bl b => .bool b
  | .int i => .int i
  | .str z => .str z
  | _ => .none
def okF : V → Bool
  | .non => true
  | .bl _ => true
  | .int _ => true
  | .str z => PyData.strOk z
  | _ => false
/-- a value handed in that is equal to itself -/
inductive Odd (H : Hp) : V → Prop where
  | flat {x : V} (h : okF x = true) : Odd H x
  | lst {a : Addr} {xs : List V} (e : H a = some (.lst xs)) (f : xs.all okF = true) : Odd H (.ref a)
  | tup {a : Addr} {xs : List V} (e : H a = some (.tup xs)) (f : xs.all okF = true) : Odd H (.ref a)
  | dct {a : Addr} {kvs : List (Key × V)} (e : H a = some (.dK kvs)) (n : (kvs.map (·.1)).Nodup) (f : ∀ p ∈ kvs, flatB p.2 = true) : Odd H (.ref a)
theorem Odd.same {H H' : Hp} {x : V} (h : Odd H x) (s : Same H H') : Odd H' x := by
  cases h with
  | flat h => exact .flat h
  | lst e f => exact .lst (s _ _ e) f
  | tup e f => exact .tup (s _ _ e) f
  | dct e n f => exact .dct (s _ _ e) n f
theorem Odd.thing {H : Hp} {x : V} (h : Odd H x) : Thing H x := by
  cases h with
  | flat h =>
    cases x <;> first | exact .non | exact .bl _ | exact .int _ | exact .str _ | (simp [okF] at h)
  | lst e f => exact .lst e
  | tup e f => exact .tup e
  | dct e n f => exact .dct e
theorem dp_flat {K : PySem.W.Frag} {H : Hp} {x : V} (h : okF x = true) : Dp K H x (datV x) ∧ (datV x).canLay0 = true ∧ (datV x).depth = 0 := by
  cases x <;> first
    | exact ⟨.non, by simp [datV, PyData.canLay0], by simp [datV, PyData.depth]⟩
    | exact ⟨.bl _, by simp [datV, PyData.canLay0], by simp [datV, PyData.depth]⟩
    | exact ⟨.int _, by simp [datV, PyData.canLay0], by simp [datV, PyData.depth]⟩
    | exact ⟨.str _, by simpa [datV, PyData.canLay0, okF] using h, by simp [datV, PyData.depth]⟩
    | (simp [okF] at h)
theorem dp_flats {K : PySem.W.Frag} {H : Hp} : ∀ {xs : List V}, xs.all okF = true → DpAll K H xs (xs.map datV) ∧ PyData.canLayAll0 (xs.map datV) = true ∧ PyData.depthAll (xs.map datV) = 0
  | [], _ => ⟨.nil, by simp [PyData.canLayAll0], by simp [PyData.depthAll]⟩
  | x :: r, h => by
    rw [List.all_cons, Bool.and_eq_true] at h
    obtain ⟨a1, a2, a3⟩ := dp_flat (K := K) (H := H) h.1
    obtain ⟨b1, b2, b3⟩ := dp_flats (K := K) (H := H) h.2
    exact ⟨.cons a1 b1, by simp [PyData.canLayAll0, a2, b2], by simp [PyData.depthAll, a3, b3]⟩
/-- x == x of such a value: the three rules -/
theorem op_eqOdd {X : Cx} (hu : X.A.units + 64 < cLine) : OpR X (compareOp .Eq) (fun x y H Q => (∃ a b : Int, x = .int a ∧ y = .int b ∧ Q (.bl (decide (a = b))) H) ∨ (Odd H x ∧ y = x ∧ Q (.bl true) H)) := by
  intro pins s σ H x y v u Q I rx ry h
  rcases h with ⟨a, b, rfl, rfl, q⟩ | ⟨od, rfl, q⟩
  · refine op_eq pins s σ H _ _ v u Q I rx ry ⟨rfl, ?_⟩
    have e : decide (V.int a = V.int b) = decide (a = b) := by simp
    rw [e]
    exact q
  · cases od with
    | flat h =>
      obtain ⟨a1, a2, a3⟩ := dp_flat (K := X.K) (H := H) h
      have sh : SeqAt.shaped (datV y) = true := by
        unfold SeqAt.shaped
        rw [a2, a3]
        rfl
      refine op_eqD hu pins s σ H _ _ v u Q I rx ry ⟨_, _, a1, a1, sh, sh, ?_⟩
      rw [SeqAt.eqv_refl _ (SeqAt.canLay_of_shaped sh)]
      exact q
    | @lst a xs e f =>
      obtain ⟨a1, a2, a3⟩ := dp_flats (K := X.K) (H := H) f
      have sh : SeqAt.shaped (.list (xs.map datV)) = true := by
        unfold SeqAt.shaped
        simp [PyData.canLay0, PyData.depth, a2, a3]
      have d : Dp X.K H (.ref a) (.list (xs.map datV)) := .lst (SqL.of e) a1
      refine op_eqD hu pins s σ H _ _ v u Q I rx ry ⟨_, _, d, d, sh, sh, ?_⟩
      rw [SeqAt.eqv_refl _ (SeqAt.canLay_of_shaped sh)]
      exact q
    | @tup a xs e f =>
      obtain ⟨a1, a2, a3⟩ := dp_flats (K := X.K) (H := H) f
      have sh : SeqAt.shaped (.tuple (xs.map datV)) = true := by
        unfold SeqAt.shaped
        simp [PyData.canLay0, PyData.depth, a2, a3]
      have d : Dp X.K H (.ref a) (.tuple (xs.map datV)) := .tup (SqT.of e) a1
      refine op_eqD hu pins s σ H _ _ v u Q I rx ry ⟨_, _, d, d, sh, sh, ?_⟩
      rw [SeqAt.eqv_refl _ (SeqAt.canLay_of_shaped sh)]
      exact q
    | @dct a kvs e n f => exact op_eq_dict (by omega) pins s σ H _ _ v u Q I rx ry ⟨a, a, kvs, rfl, rfl, e, e, n, f, q⟩
end Own

/-! from AA06 -/
namespace Own
open PySem PySem.Spec PyProof.Rows L2 LamX NdefX
section
variable {X : Cx} {cl : List (Str × Addr)} {fr : List Str} {ws : List (Option V)}
/-- as pe_deed, what it may let out told by the slots -/
theorem pe_deedS {CX : CXT} {k i : Nat} {f : Addr} {F : NF} {b : Expr} {sp : List (Option V) → Hp → VK → XK → Prop} {E : L2.St → XK} {a : Str} {p1 p2 : Pos} (C : CellsAt F.cl fr ws X.s_0.heap X.H_0) (hex : X.ex = []) (G : LOk X.prog X.w X.K X.mg X.base CX k f F b fr sp) (hr : Room k X.A)
    (hx : ∀ σ, PassesAt CX X σ (E σ)) (hN : X.N[i]? = some a) (hv : Vis X.env.scope a) (hd : (a == ("__debug__" : Str)) = false := by decide) (hcd : (a == ("__classdict__" : Str)) = false := by decide) :
    PE X (.Call (.Name a p1) [] [] p2) (fun σ H Q => σ[i]? = some (some (.ref f)) ∧ LamAt H f F b ∧ H F.c = some (CodeO F.c F.qual) ∧ sp ws H Q (E σ)) := by
  constructor
  intro pins s σ H Q I h
  obtain ⟨hs, hf, hc, q⟩ := h
  refine wpAny_Call_Name_kw (thn ((pe_var (pos := p1) hN hv hd hcd).run pins s σ H (fun v H1 => v = .ref f ∧ H1 = H) I ⟨.ref f, hs, rfl, rfl⟩) ?_)
  rintro u s1 ⟨v, H1, I1, r1, rfl, rfl⟩
  obtain rfl : u = Value.ref f := r1
  obtain ⟨dV, doc, pm, ctv, ho, _⟩ := lamO_at I1.hok hf
  refine PySem.W.callWith_F0 ⟨_, _, _, _, ho⟩ ?_
  have C' := cells_still C (fun _ => .inl (by rw [hex]; simp)) I1
  refine wpAny_call (codeAny_mono (G.run _ _ _ _ _ _ _ hr I1.env0 hf hc C' q) fun r s' z => ?_)
  rcases r with e | fl
  · exact hx σ pins _ _ e s' I1 z
  · cases fl
    case ret u => exact I1.after z
    all_goals exact False.elim z
end
end Own

/-! from CC06 -/
namespace Own
open PySem PySem.Spec PyProof.Rows L2 LamX NdefX
/-- at q stands the pair of a lambda and v -/
def RowAt (H : Hp) (nf : Addr → NF) (b : Expr) (v : V) (q : Addr) : Prop := ∃ f c' : Addr, H q = some (.tup [.ref f, v]) ∧ LamAt H f (nf c') b ∧ H (nf c').c = some (CodeO (nf c').c (nf c').qual)
section
variable {H H' : Hp} {nf : Addr → NF} {b : Expr} {v x : V} {q r : Addr} {l : List V} {o : HO}
theorem RowAt.ext (h : RowAt H nf b v q) (e : ExtN H H') : RowAt H' nf b v q := by
  obtain ⟨f, c', h1, h2, h3⟩ := h
  exact ⟨f, c', e _ _ h1 (fun ps z => by cases z), h2.ext e, e _ _ h3 codeO_ne⟩
theorem LamAt.put {f : Addr} {F : NF} (h : LamAt H f F b) (hr : H r = some (.lst l)) : LamAt (upd H r o) f F b := by
  obtain ⟨dV, h1, h2⟩ := h
  have a : f ≠ r := ne_of h1 hr (by unfold LamO; intro z; cases z)
  refine ⟨dV, (upd_ne a).trans h1, ?_⟩
  rcases h2 with z | ⟨n, T, z, q⟩
  · exact .inl z
  · have a : T ≠ r := ne_of q hr (by intro z; cases z)
    exact .inr ⟨n, T, z, (upd_ne a).trans q⟩
theorem RowAt.put (h : RowAt H nf b v q) (hr : H r = some (.lst l)) : RowAt (upd H r o) nf b v q := by
  obtain ⟨f, c', h1, h2, h3⟩ := h
  have a : q ≠ r := ne_of h1 hr (by intro z; cases z)
  have c : (nf c').c ≠ r := ne_of h3 hr (by unfold CodeO; intro z; cases z)
  exact ⟨f, c', (upd_ne a).trans h1, h2.put hr, (upd_ne c).trans h3⟩
theorem Odd.ext (h : Odd H x) (e : ExtN H H') : Odd H' x := by
  cases h with
  | flat h => exact .flat h
  | lst e' f => exact .lst (e _ _ e' (fun ps z => by cases z)) f
  | tup e' f => exact .tup (e _ _ e' (fun ps z => by cases z)) f
  | dct e' n f => exact .dct (e _ _ e' (fun ps z => by cases z)) n f
theorem Odd.off (h : Odd H x) (n : H r = none) : x ≠ .ref r := by
  cases h with
  | flat h => intro z; rw [z] at h; cases h
  | lst e f => intro z; rw [V.ref.inj z, n] at e; cases e
  | tup e f => intro z; rw [V.ref.inj z, n] at e; cases e
  | dct e n' f => intro z; rw [V.ref.inj z, n] at e; cases e
theorem Odd.put (h : Odd H x) (n : x ≠ .ref r) : Odd (upd H r o) x := by
  cases h with
  | flat h => exact .flat h
  | lst e f => exact .lst ((upd_ne (fun z => n (by rw [z]))).trans e) f
  | tup e f => exact .tup ((upd_ne (fun z => n (by rw [z]))).trans e) f
  | dct e n' f => exact .dct ((upd_ne (fun z => n (by rw [z]))).trans e) n' f
theorem tabs_put {T : List (Addr × Str)} (h : Tabs T H) (hr : H r = some (.lst l)) : Tabs T (upd H r o) := fun p hp => by
  obtain ⟨ps, h1, h2, h3⟩ := h p hp
  have a : p.1 ≠ r := ne_of h1 hr (by intro z; cases z)
  refine ⟨ps, (upd_ne a).trans h1, h2, fun pos cv hc => ?_⟩
  obtain ⟨c, e1, e2⟩ := h3 pos cv hc
  have b : c ≠ r := ne_of e2 hr (by unfold CodeO; intro z; cases z)
  exact ⟨c, e1, (upd_ne b).trans e2⟩
theorem extN_new (h : H r = none) : ExtN H (upd H r o) := ExtN.of fun b u e => (upd_ne (ne_of_none e h)).trans e
theorem ExtN.same (s : Same H H') : ExtN H H' := ExtN.of s
end
theorem Pen_odd {d : Addr} {B : Int} (h : Pen H d B) (o : Odd H x) : x ≠ .ref d := by
  obtain ⟨p, ns, c, l, e, _⟩ := h.ex
  intro z
  rw [z] at o
  cases o with
  | flat h => cases h
  | lst e' f => rw [e] at e'; cases e'
  | tup e' f => rw [e] at e'; cases e'
  | dct e' n f =>
    rw [e] at e'
    cases e'
    have := f _ (List.mem_cons_self ..)
    cases this
theorem Odd.keep {d : Addr} (h : Odd H x) (n : x ≠ .ref d) (k : Keep d H H') : Odd H' x := by
  cases h with
  | flat h => exact .flat h
  | lst e f => exact .lst (k _ _ (fun z => n (by rw [z])) e) f
  | tup e f => exact .tup (k _ _ (fun z => n (by rw [z])) e) f
  | dct e n' f => exact .dct (k _ _ (fun z => n (by rw [z])) e) n' f
theorem tabs_keep {T : List (Addr × Str)} {d : Addr} {B : Int} (h : Tabs T H) (hp : Pen H d B) (k : Keep d H H') : Tabs T H' := fun p hq => by
  obtain ⟨pp, ns, cc, ll, ed, _⟩ := hp.ex
  obtain ⟨ps, h1, h2, h3⟩ := h p hq
  have a : p.1 ≠ d := ne_of h1 ed (by intro z; cases z)
  refine ⟨ps, k _ _ a h1, h2, fun pos cv hc => ?_⟩
  obtain ⟨c, e1, e2⟩ := h3 pos cv hc
  have b : c ≠ d := ne_of e2 ed (by unfold CodeO; intro z; cases z)
  exact ⟨c, e1, k _ _ b e2⟩
/-- a list at r of pairs of a lambda and a value; x, y: two odd values -/
structure Bag {ι : Type} (nf : ι → Addr → NF) (bf : ι → Expr) (H : Hp) (r : Addr) (R : List (ι × V × Addr)) (x y : V) : Prop where
  l : H r = some (.lst (R.map fun p => .ref p.2.2))
  rows : ∀ p ∈ R, RowAt H (nf p.1) (bf p.1) p.2.1 p.2.2
  ox : Odd H x
  oy : Odd H y
  xr : x ≠ .ref r
  yr : y ≠ .ref r
theorem Bag.ext {ι : Type} {nf : ι → Addr → NF} {bf : ι → Expr} {R : List (ι × V × Addr)} {y : V} (h : Bag nf bf H r R x y) (e : ExtN H H') : Bag nf bf H' r R x y :=
  ⟨e _ _ h.l (fun ps z => by cases z), fun p hp => (h.rows p hp).ext e, h.ox.ext e, h.oy.ext e, h.xr, h.yr⟩
theorem Bag.set {ι : Type} {nf : ι → Addr → NF} {bf : ι → Expr} {R : List (ι × V × Addr)} {y : V} {D : Addr} {zs : List V} (h : Bag nf bf H r R x y) (hD : H D = some (.lst zs)) (n : D ≠ r) (nx : x ≠ .ref D) (ny : y ≠ .ref D) : Bag nf bf (upd H D o) r R x y :=
  ⟨(upd_ne n.symm).trans h.l, fun p hp => (h.rows p hp).put hD, h.ox.put nx, h.oy.put ny, h.xr, h.yr⟩
theorem Bag.add {ι : Type} {nf : ι → Addr → NF} {bf : ι → Expr} {R : List (ι × V × Addr)} {y v : V} {H1 : Hp} {i : ι} {f c' q : Addr} (h : Bag nf bf H r R x y) (e : ExtN H H1) (a : LamAt H1 f (nf i c') (bf i)) (c : H1 (nf i c').c = some (CodeO (nf i c').c (nf i c').qual)) (nq : H1 q = none) :
    upd H1 q (.tup [.ref f, v]) r = some (.lst (R.map fun p => .ref p.2.2)) ∧ Bag nf bf (upd (upd H1 q (.tup [.ref f, v])) r (.lst (R.map (fun p => .ref p.2.2) ++ [.ref q]))) r (R ++ [(i, v, q)]) x y := by
  have g := (h.ext e).ext (extN_new (o := .tup [.ref f, v]) nq)
  have e2 := extN_new (o := HO.tup [.ref f, v]) nq
  refine ⟨g.l, by rw [upd_same, List.map_append]; rfl, fun p hp => ?_, g.ox.put g.xr, g.oy.put g.yr, g.xr, g.yr⟩
  rcases List.mem_append.mp hp with hp | hp
  · exact (g.rows p hp).put g.l
  · rw [List.mem_singleton.mp hp]
    exact RowAt.put ⟨f, c', upd_same, a.ext e2, e2 _ _ c codeO_ne⟩ g.l
/-- a def of the text and its code object -/
structure AtC (K : PySem.W.Frag) (mg : Str → Option Value) (x : Str) (st : Stmt) (ps : List Str) (c : Addr) : Prop where
  ex : ∃ (f : Addr) (oc : Value) (od : Option Addr) (kV doc pm : Value) (an : Option Addr) (ct : Value) (osl : Array (Option Value)), K.lookup f = some ⟨oc, od, .func (PySem.W.fnOf x x (defArgs st) (defBody st) (defScope st) .none kV doc pm an (.ref c) ct), osl⟩ ∧ PySem.W.codeIn K (.ref c) x = true ∧
    mg x = some (.ref f) ∧ PySem.W.keepIn K (.ref f) = true ∧ Binds K (PySem.W.fnOf x x (defArgs st) (defBody st) (defScope st) .none kV doc pm an (.ref c) ct) ps []
end Own

namespace Own
open PySem PySem.Spec PyProof.Rows L2 LamX NdefX
theorem log2_lt {n k : Nat} (h : n < 2 ^ k) (hk : 0 < k) : n.log2 < k := by
  by_cases h0 : n = 0
  · subst h0
    simpa using hk
  · exact (Nat.log2_lt h0).mpr h
theorem dm_ok {n d : Int} (h0 : 0 < d) (h : d.natAbs < 2 ^ 1000) : CDivP n d := by
  refine ⟨h0, ?_⟩
  have a := log2_lt h (by decide)
  unfold Builtin.divisionGoesByPylong
  have e : ¬ (d == 0) = true := by simp; omega
  have z : ¬ (d.natAbs.log2 / 30 + 1 > 300) := by omega
  simp only [e, Bool.false_eq_true, if_false]
  rw [decide_eq_false z]
  rfl
theorem up_two {n a b : Nat} (h : n < 2 ^ a) (l : a ≤ b) : n < 2 ^ b := Nat.lt_of_lt_of_le h (Nat.pow_le_pow_right (by decide) l)
theorem add_lt {i j : Int} {a : Nat} (hi : i.natAbs < 2 ^ a) (hj : j.natAbs < 2 ^ a) : (i + j).natAbs < 2 ^ (a + 1) := by
  rw [Nat.pow_succ]
  omega
end Own

namespace Own
open PySem PySem.Spec PyProof.Rows L2 LamX NdefX
/-- what the law leans on of an error's class -/
def oexB (K : PySem.W.Frag) (C : Addr) : Bool := (match K.lookup C with
  | some ⟨.type t, _, .cls cd, sl⟩ => decide (t = "type") && (cd.hasDict && (!cd.hasDel && ((match cd.mro with
    | .ref D :: bm => decide (D = C) && PySem.HandSPX.refsVE bm
    | _ => false) && (match sl.toList with
    | [_, _, _, _, some (.builtin n), _] => decide (n = "ValueError.__new__")
    | _ => false))))
  | _ => false) && (decide (PySem.W.findIn K (.ref C) "__setattr__" = some (some (.builtin "object.__setattr__"))) && (decide (PySem.W.subIn K (.ref C) (.type "BaseException") = some true) && (decide (PySem.W.typeIn K (.ref C) = some (.type "type")) && PySem.W.keepIn K (.ref C))))
theorem oexB_ok {K : PySem.W.Frag} {C : Addr} (h : oexB K C = true) : OexC K C := by
  obtain ⟨h0, h⟩ := He.ba h
  obtain ⟨h1, h⟩ := He.ba h
  obtain ⟨h2, h⟩ := He.ba h
  obtain ⟨h3, h4⟩ := He.ba h
  refine ⟨?_, of_decide_eq_true h1, of_decide_eq_true h2, of_decide_eq_true h3, h4⟩
  cases q : K.lookup C with
  | none => rw [q] at h0; cases h0
  | some o =>
    rw [q] at h0
    obtain ⟨oc, od, dt, ⟨sl⟩⟩ := o
    cases oc with
    | type t =>
      cases dt with
      | cls cd =>
        obtain ⟨nm, bs, mro, ns, qn, hd, sn, sub, ab, col, del⟩ := cd
        obtain ⟨a1, a⟩ := He.ba h0
        obtain ⟨a2, a⟩ := He.ba a
        obtain ⟨a3, a⟩ := He.ba a
        obtain ⟨a4, a5⟩ := He.ba a
        have e1 : t = "type" := of_decide_eq_true a1
        have e2 : hd = true := a2
        have e3 : del = false := by
          have z : (!del) = true := a3
          simpa using z
        subst e1 e2 e3
        cases mro with
        | nil => cases a4
        | cons m bm =>
          cases m with
          | ref D =>
            obtain ⟨b1, b2⟩ := He.ba (show (decide (D = C) && PySem.HandSPX.refsVE bm) = true from a4)
            have e4 : D = C := of_decide_eq_true b1
            subst e4
            match sl, a5 with
            | [k0, k1, k2, k3, some (.builtin n), k5], z =>
              have e5 : n = "ValueError.__new__" := of_decide_eq_true z
              subst e5
              exact ⟨_, _, _, _, _, _, _, _, _, _, _, _, _, _, _, rfl, b2⟩
          | _ => cases a4
      | _ => cases h0
    | _ => cases dt <;> cases h0
def isTup (K : PySem.W.Frag) (a : Addr) : Bool := match K.lookup a with
  | some ⟨.type c, _, _, _⟩ => decide (c = "tuple")
  | _ => false
theorem isTup_ok {K : PySem.W.Frag} {a : Addr} (h : isTup K a = true) : ∃ o : Obj, K.lookup a = some o ∧ o.cls = .type "tuple" := by
  unfold isTup at h
  cases q : K.lookup a with
  | none => rw [q] at h; cases h
  | some o =>
    rw [q] at h
    obtain ⟨oc, od, dt, sl⟩ := o
    cases oc with
    | type c => exact ⟨_, rfl, congrArg Value.type (of_decide_eq_true h)⟩
    | _ => cases h
section
variable {P : Program} {w : World} {K : PySem.W.Frag} {mg : Str → Option Value} {h : Heap}
theorem fun_of {x qual : Str} {st : Stmt} {f : Addr} {fd : FuncData} (F : FunD K x qual (defArgs st) (defBody st) (defScope st) [] [] f fd) : Fun K x qual st f fd := by
  obtain ⟨oc, od, dV, kV, doc, pm, an, cdv, ct, osl, rfl, lk, hcd, hD, _⟩ := F.ex
  rcases hD with ⟨_, rfl⟩ | ⟨n, _⟩
  · exact ⟨⟨oc, od, kV, doc, pm, an, cdv, ct, osl, rfl, lk, hcd⟩, F.kp⟩
  · exact absurd rfl n
theorem at_of {x : Str} {st : Stmt} {ps : List Str} {f : Addr} {fd : FuncData} (F : FunD K x x (defArgs st) (defBody st) (defScope st) [] [] f fd) (g : mg x = some (.ref f))
    (b : ∀ (kV doc pm : Value) (an : Option Addr) (cdv ct : Value) (us : List Value), us.length = ps.length → bindArgs (PySem.W.fnOf x x (defArgs st) (defBody st) (defScope st) .none kV doc pm an cdv ct) ⟨us, []⟩ = pure (ps.zip us)) : At K mg x st ps :=
  ⟨f, fd, fun_of F, g, (fun_of F).binds b⟩
end
end Own
namespace Own
/-- built-in names that no module takes -/
structure Blt (mg : PySem.Str → Option PySem.Value) : Prop where
  isi : mg "isinstance" = none
  int : mg "int" = none
  bool : mg "bool" = none
  len : mg "len" = none
  list : mg "list" = none
  range : mg "range" = none
  tuple : mg "tuple" = none
  all : mg "all" = none
  dm : mg "divmod" = none
  min : mg "min" = none
  max : mg "max" = none
  str : mg "str" = none
  abs : mg "abs" = none
  dict : mg "dict" = none
  any : mg "any" = none
end Own

/-! own layer, of no law: OWNQ: a pen with any names for its cells, its count and what is left. -/
namespace Own
open PySem PySem.Spec PyProof.Rows L2 LamX NdefX
def penG (a b c : Str) (p : Addr) (m l : Int) : List (Key × V) := [(Sum.inr a, V.ref p), (Sum.inr b, V.int m), (Sum.inr c, V.int l)]
/-- the three names are unlike -/
def Un3 (a b c : Str) : Prop := ¬ a = b ∧ ¬ a = c ∧ ¬ b = c
section
variable {a b c : Str} {p d : Addr} {m l m' l' : Int} {H H' : Hp} {B B' : Int}
theorem gpen_a (u : Un3 a b c) (h : H d = some (.dK (penG a b c p m l))) : DGet H d (V.str a) (some (.ref p)) := by
  have z := DGet.k (k := (Sum.inr a : Key)) h
  have e : valV (penG a b c p m l) (Sum.inr a : Key) = some (.ref p) := valV_pos rfl
  rw [e] at z
  exact z
theorem gpen_b (u : Un3 a b c) (h : H d = some (.dK (penG a b c p m l))) : DGet H d (V.str b) (some (.int m)) := by
  have z := DGet.k (k := (Sum.inr b : Key)) h
  have e : valV (penG a b c p m l) (Sum.inr b : Key) = some (.int m) := by
    unfold penG
    rw [valV_neg (fun e => u.1 (Sum.inr.inj e)), valV_pos rfl]
  rw [e] at z
  exact z
theorem gpen_c (u : Un3 a b c) (h : H d = some (.dK (penG a b c p m l))) : DGet H d (V.str c) (some (.int l)) := by
  have z := DGet.k (k := (Sum.inr c : Key)) h
  have e : valV (penG a b c p m l) (Sum.inr c : Key) = some (.int l) := by
    unfold penG
    rw [valV_neg (fun e => u.2.1 (Sum.inr.inj e)), valV_neg (fun e => u.2.2 (Sum.inr.inj e)), valV_pos rfl]
  rw [e] at z
  exact z
theorem ppen_b (u : Un3 a b c) (h : H d = some (.dK (penG a b c p m l))) : DPut H d (V.str b) (.int m') (upd H d (.dK (penG a b c p m' l))) := by
  have z := DPut.k (k := (Sum.inr b : Key)) (v := .int m') h (by show 3 < sizeLine; decide)
  have e : putK (penG a b c p m l) (Sum.inr b : Key) (.int m') = penG a b c p m' l := by
    unfold penG putK
    simp [key_dec u.1, key_dec (show ¬ c = b from fun e => u.2.2 e.symm), u.1, u.2.2, show ¬ c = b from fun e => u.2.2 e.symm]
  rw [e] at z
  exact z
theorem ppen_c (u : Un3 a b c) (h : H d = some (.dK (penG a b c p m l))) : DPut H d (V.str c) (.int l') (upd H d (.dK (penG a b c p m l'))) := by
  have z := DPut.k (k := (Sum.inr c : Key)) (v := .int l') h (by show 3 < sizeLine; decide)
  have e : putK (penG a b c p m l) (Sum.inr c : Key) (.int l') = penG a b c p m l' := by
    unfold penG putK
    simp [key_dec u.2.1, key_dec u.2.2, u.2.1, u.2.2]
  rw [e] at z
  exact z
/-- the pen stands at d: at most B draws were begun -/
structure PenG (a b c : Str) (H : Hp) (d : Addr) (B : Int) : Prop where
  ex : ∃ (p : Addr) (ns : List Int) (m l : Int), H d = some (.dK (penG a b c p m l)) ∧ H p = some (.lst (ns.map V.int)) ∧ ns.length ≤ 63 ∧ 0 ≤ m ∧ m ≤ B
theorem PenG.mono (h : PenG a b c H d B) (z : B ≤ B') : PenG a b c H d B' := by
  obtain ⟨p, ns, m, l, e1, e2, e3, f, g⟩ := h.ex
  exact ⟨p, ns, m, l, e1, e2, e3, f, by omega⟩
theorem PenG.same (h : PenG a b c H d B) (s : Same H H') : PenG a b c H' d B := by
  obtain ⟨p, ns, m, l, e1, e2, e3, f, g⟩ := h.ex
  exact ⟨p, ns, m, l, s _ _ e1, s _ _ e2, e3, f, g⟩
theorem PenG.at_ (h : PenG a b c H d B) : ∃ kvs, H d = some (.dK kvs) ∧ ∃ q ∈ kvs, flatB q.2 = false := by
  obtain ⟨p, ns, m, l, e, _⟩ := h.ex
  exact ⟨_, e, _, List.mem_cons_self, rfl⟩
theorem PenG.odd {x : V} (h : PenG a b c H d B) (o : Odd H x) : x ≠ .ref d := by
  obtain ⟨kvs, e, q, hq, f⟩ := h.at_
  intro z
  rw [z] at o
  cases o with
  | flat h => cases h
  | lst e' f => rw [e] at e'; cases e'
  | tup e' f => rw [e] at e'; cases e'
  | dct e' n g =>
    rw [e] at e'
    cases e'
    rw [g _ hq] at f
    cases f
theorem tabs_keepG {T : List (Addr × Str)} (h : Tabs T H) (hp : PenG a b c H d B) (k : Keep d H H') : Tabs T H' := fun p hq => by
  obtain ⟨kvs, ed, _⟩ := hp.at_
  obtain ⟨ps, h1, h2, h3⟩ := h p hq
  have a : p.1 ≠ d := ne_of h1 ed (by intro z; cases z)
  refine ⟨ps, k _ _ a h1, h2, fun pos cv hc => ?_⟩
  obtain ⟨c, e1, e2⟩ := h3 pos cv hc
  have b : c ≠ d := ne_of e2 ed (by unfold CodeO; intro z; cases z)
  exact ⟨c, e1, k _ _ b e2⟩
end
/-- the dict that begins a pen, written out -/
theorem merge_pen {a b c : Str} (u : Un3 a b c) (p : Addr) (m l : Int) : mergeK [] [(Sum.inr a, V.ref p), (Sum.inr b, V.int m), (Sum.inr c, V.int l)] = penG a b c p m l := by
  unfold mergeK
  rw [List.foldl_cons, putK_new _ valV_nil, List.foldl_cons, putK_new _ (by
    rw [List.nil_append, valV_neg (fun e => u.1 (Sum.inr.inj e)), valV_nil]), List.foldl_cons, putK_new _ (by
    show valV [_, _] _ = none
    rw [valV_neg (fun e => u.2.1 (Sum.inr.inj e)), valV_neg (fun e => u.2.2 (Sum.inr.inj e)), valV_nil])]
  rfl
theorem cut63 (xs : List V) (h : xs.length ≤ 63) : cutV xs none (some 63) = xs := by
  unfold cutV
  rw [HT.sIx_none, show HT.sIx xs.length xs.length (some 63) = min 63 xs.length from HT.sIx_nat xs.length xs.length 63, List.drop_zero, Nat.min_eq_right h, Nat.sub_zero, List.take_length]
theorem neG_nil {xs : List Int} : PyData.eqv (.list (xs.map PyData.int)) (.list []) = decide (xs = []) := by
  cases xs with
  | nil => rfl
  | cons a r => rfl
theorem dpG_ints {K : PySem.W.Frag} {H : Hp} : ∀ ns : List Int, DpAll K H (ns.map V.int) (ns.map PyData.int)
  | [] => .nil
  | a :: r => .cons (.int a) (dpG_ints r)
theorem layG_ints : ∀ ns : List Int, PyData.canLayAll0 (ns.map PyData.int) = true
  | [] => by simp only [List.map_nil, PyData.canLayAll0]
  | a :: r => by simp only [List.map_cons, PyData.canLayAll0, PyData.canLay0, layG_ints r, Bool.and_self]
theorem depG_ints : ∀ ns : List Int, PyData.depthAll (ns.map PyData.int) ≤ 1
  | [] => by simp [PyData.depthAll]
  | a :: r => by
    have z := depG_ints r
    simp only [List.map_cons, PyData.depthAll, PyData.depth]
    omega
theorem shG_ints (ns : List Int) : SeqAt.shaped (.list (ns.map PyData.int)) = true := by
  have a := layG_ints ns
  have b := depG_ints ns
  have z : (PyData.list (ns.map PyData.int)).depth ≤ 64 := by
    simp only [PyData.depth]
    omega
  unfold SeqAt.shaped
  rw [Bool.and_eq_true]
  exact ⟨by simpa [PyData.canLay0] using a, decide_eq_true z⟩
end Own

/-! own layer, of no law: OWNY: what drawing keeps, the pen's list among it. -/
namespace Own
open PySem PySem.Spec PyProof.Rows L2 LamX NdefX
/-- all but the pen's dict is as it was; its list is the same one -/
structure KeepG (a b c : Str) (d : Addr) (H H' : Hp) : Prop where
  k : ∀ x o, x ≠ d → H x = some o → H' x = some o
  c : ∀ p m l, H d = some (.dK (penG a b c p m l)) → ∃ m' l', H' d = some (.dK (penG a b c p m' l'))
instance {a b c : Str} {d : Addr} {H H' : Hp} : CoeFun (KeepG a b c d H H') (fun _ => ∀ x o, x ≠ d → H x = some o → H' x = some o) := ⟨KeepG.k⟩
section
variable {a b c : Str} {d p x : Addr} {o : HO} {H H' H1 H2 : Hp} {m l m' l' : Int}
theorem penG_inj {p p' : Addr} {m m' l l' : Int} (h : penG a b c p m l = penG a b c p' m' l') : p = p' := by
  unfold penG at h
  have z := (List.cons.inj h).1
  exact V.ref.inj (Prod.mk.inj z).2
theorem KeepG.refl : KeepG a b c d H H := ⟨fun _ _ _ e => e, fun _ m l e => ⟨m, l, e⟩⟩
theorem KeepG.trans (h : KeepG a b c d H H1) (k : KeepG a b c d H1 H2) : KeepG a b c d H H2 :=
  ⟨fun x o n e => k.k x o n (h.k x o n e), fun p m l e => by
    obtain ⟨m1, l1, e1⟩ := h.c p m l e
    exact k.c p m1 l1 e1⟩
theorem KeepG.same (s : Same H H') : KeepG a b c d H H' := ⟨fun x o _ e => s x o e, fun p m l e => ⟨m, l, s _ _ e⟩⟩
theorem KeepG.new (h : H p = none) : KeepG a b c d H (upd H p o) := KeepG.same (same_new h)
theorem KeepG.put (hd : H d = some (.dK (penG a b c p m l))) : KeepG a b c d H (upd H d (.dK (penG a b c p m' l'))) :=
  ⟨fun x o n e => (upd_ne n).trans e, fun p' m1 l1 e => by
    have z := e.symm.trans hd
    have y := penG_inj (HO.dK.inj (Option.some.inj z))
    rw [y]
    exact ⟨m', l', upd_same⟩⟩
/-- x is not the pen's list -/
def OffG (a b c : Str) (H : Hp) (d x : Addr) : Prop := ∀ p m l, H d = some (.dK (penG a b c p m l)) → p ≠ x
theorem OffG.of {B : Int} (hp : PenG a b c H d B) (h : H x = none) : OffG a b c H d x := fun p m l e => by
  obtain ⟨p0, ns, m0, l0, e0, e1, _⟩ := hp.ex
  have y := penG_inj (HO.dK.inj (Option.some.inj (e.symm.trans e0)))
  rw [y]
  exact ne_of_none e1 h
theorem OffG.keep {B : Int} (h : OffG a b c H d x) (hp : PenG a b c H d B) (k : KeepG a b c d H H') : OffG a b c H' d x := fun p m l e => by
  obtain ⟨p0, ns, m0, l0, e0, _⟩ := hp.ex
  obtain ⟨m1, l1, e1⟩ := k.c p0 m0 l0 e0
  have y := penG_inj (HO.dK.inj (Option.some.inj (e.symm.trans e1)))
  rw [y]
  exact h p0 m0 l0 e0
theorem OffG.at_ {y : Addr} (h : OffG a b c H d x) (n : d ≠ y) : OffG a b c (upd H y o) d x := fun p m l e => h p m l ((upd_ne n).symm.trans e)
/-- a list that is not the pen's is stored anew -/
theorem PenG.put {B : Int} {xs : List V} (hp : PenG a b c H d B) (hx : H x = some (.lst xs)) (f : OffG a b c H d x) : PenG a b c (upd H x o) d B := by
  obtain ⟨p, ns, m, l, e1, e2, e3, e4, e5⟩ := hp.ex
  have n1 : d ≠ x := ne_of e1 hx (by intro z; cases z)
  exact ⟨p, ns, m, l, (upd_ne n1).trans e1, (upd_ne (f p m l e1)).trans e2, e3, e4, e5⟩
theorem PenG.ne_lst {B : Int} {xs : List V} (hp : PenG a b c H d B) (hx : H x = some (.lst xs)) : d ≠ x := by
  obtain ⟨p, ns, m, l, e1, _⟩ := hp.ex
  exact ne_of e1 hx (by intro z; cases z)
/-- .. and over what was not there at first -/
theorem KeepG.over (k : KeepG a b c d H H') (n : H x = none) : KeepG a b c d H (upd H' x o) :=
  ⟨fun y u m e => (upd_ne (ne_of_none e n)).trans (k.k y u m e), fun p m l e => by
    obtain ⟨m1, l1, e1⟩ := k.c p m l e
    exact ⟨m1, l1, (upd_ne (ne_of_none e n)).trans e1⟩⟩
theorem KeepG.lst {B : Int} {xs : List V} (k : KeepG a b c d H H') (hp : PenG a b c H d B) (h : H x = some (.lst xs)) : H' x = some (.lst xs) := k.k _ _ (hp.ne_lst h).symm h
end
end Own

/-! own layer, of no law: OWN2: operators by an own class. -/
namespace Own
open PySem PySem.Spec PyProof.Rows L2 LamX NdefX
section
variable {X : Cx} {pins : List (Addr × Obj)} {σ : L2.St} {H : Hp} {s : Shared}
theorem back_of {Q : VK} {A : Around} {c : Sem Value} (h : wpAny (model X.prog X.w) A c (EP X pins σ Q) X.xe s) : wpAny (model X.prog X.w) A c (PySem.W.CmpBack (EP X pins σ Q)) X.xe s := by
  refine wpAny_mono h (fun v s' q => ?_) fun _ _ e => e
  obtain ⟨y, H', I', r, q'⟩ := q
  cases v with
  | notImplemented => cases y <;> first | exact (nomatch r) | (obtain ⟨_, z⟩ := r; cases z)
  | _ => exact ⟨y, H', I', r, q'⟩
variable {CX : CXT} {n : Nat} {C f : Addr} {fd : FuncData} {ps : List Str} {sp : Sp} {E : XK} {op : Operator}
/-- x op y, both of the class at C, whose own method takes them -/
theorem op_own (F : FnOk X.prog X.w X.K X.mg X.base CX n f fd ps sp) (hr : Room n X.A) (hc : PySem.W.selfFirst X.K C = true) (hs : PySem.W.findIn X.K (.ref C) (PySem.dunder op.info.2) = some (some (.ref f))) (hf : PySem.W.isFn X.K (.ref f) = true) (hb : Binds X.K fd ps []) (hx : Passes CX X E) :
    OpR X (binaryOp op) (fun x y H Q => ∃ a b dx dy fs gs, x = V.ref a ∧ y = V.ref b ∧ H a = some (.ins C dx fs) ∧ H b = some (.ins C dy gs) ∧ sp [.ref a, .ref b] H Q E) := by
  intro pins s σ H x y v u Q I rx ry h
  obtain ⟨a, b, dx, dy, fs, gs, rfl, rfl, ha, hb', q⟩ := h
  cases rx
  cases ry
  obtain ⟨mA, J, _⟩ := ins_get I.hok ha
  obtain ⟨mB, J', _⟩ := ins_get I.hok hb'
  obtain ⟨od, J, _⟩ := J.look
  obtain ⟨od', J', _⟩ := J'.look
  obtain ⟨m, hF⟩ := I.fr
  exact PySem.W.binop_K hF I.ok.mod.kin J J'.type hc hs hf (back_of (run_fn F hr hb .nil hx I (.cons (show L2.RelV (V.ref a) (Value.ref a) from rfl) (.cons (show L2.RelV (V.ref b) (Value.ref b) from rfl) .nil)) q))
/-- -x of the class at C -/
theorem un_own (F : FnOk X.prog X.w X.K X.mg X.base CX n f fd ps sp) (hr : Room n X.A) (hs : PySem.W.findIn X.K (.ref C) "__neg__" = some (some (.ref f))) (hf : PySem.W.isFn X.K (.ref f) = true) (hb : Binds X.K fd ps []) (hx : Passes CX X E) :
    UnR X (unaryOp .USub) (fun x H Q => ∃ a dx fs, x = V.ref a ∧ H a = some (.ins C dx fs) ∧ sp [.ref a] H Q E) := by
  intro pins s σ H x v Q I rx h
  obtain ⟨a, dx, fs, rfl, ha, q⟩ := h
  cases rx
  obtain ⟨mA, J, _⟩ := ins_get I.hok ha
  obtain ⟨od, J, _⟩ := J.look
  obtain ⟨m, hF⟩ := I.fr
  exact PySem.W.ksp_neg hF I.ok.mod.kin J hs hf (run_fn F hr hb .nil hx I (.cons (show L2.RelV (V.ref a) (Value.ref a) from rfl) .nil) q)
end
end Own

/-! own layer, of no law: OWN3: an own class and a built-in value, on either side. -/
namespace Own
open PySem PySem.Spec PySem.Calls PyProof.Rows
section
variable {prog : Program} {w : World} {A : Around} {E : Value → Shared → Prop} {s : Shared} {K : PySem.W.Frag} {x C f : Addr} {ox : Obj} {od : Option Obj} {T : String}
open PySem.W in
/-- own op built-in -/
theorem own_left {op : Operator} {b : Value} {r : Bool} {back ours : Option Value} {Q : Value → Shared → Prop} (KX : K.In s.heap) (J : InstAt s.heap x ox C od) (tb : Looks (model prog w) s.heap (typeOf b) (.type T)) (one : selfFirst K C = true)
    (me : findIn K (.ref C) (PySem.dunder op.info.2) = some (some (.ref f))) (fn : isFn K (.ref f) = true) (mr : findIn K (.ref C) (dunderR op.info.2) = some ours) (mp : ours = none ∨ ∃ g : Addr, ours = some (.ref g))
    (slot : fillsNumberSlot (.type T) op.info.2 = pure r) (their : typeLookup (.type T) (dunderR op.info.2) = pure back) (nosub : subIn K (.type T) (.ref C) = some false)
    (go : wpAny (model prog w) A (call (.ref f) [.ref x, b]) (PySem.W.CmpBack Q) E s) : wpAny (model prog w) A (binaryOp op (.ref x) b) Q E s := by
  obtain ⟨cd, tl, c1, c2⟩ := ksp_first one
  obtain ⟨sy, nm, e⟩ : ∃ sy nm, op.info = (sy, nm) := ⟨_, _, rfl⟩
  rw [e] at me mr slot their
  have did := ksp_try KX J me fn go
  obtain ⟨hp, gs, dr, tk, os⟩ := s
  have q1 : Looks (model prog w) hp (typeOf (.ref x)) (.ref C) := J.type
  have q3 : Looks (model prog w) hp (fillsNumberSlot (.ref C) nm) true := fills_K KX c1 c2 me
  have q4 : Looks (model prog w) hp (fillsNumberSlot (.type T) nm) r := Looks.of_pure slot
  have q5 : Looks (model prog w) hp (isSubtype (.type T) (.ref C)) false := looks_subIn KX nosub
  have q6 : Looks (model prog w) hp (numberSlotInPython (.ref C) nm) true := ksp_inPy KX me mr mp
  have q7 : Looks (model prog w) hp (numberSlotInPython (.type T) nm) false := Looks.of_pure rfl
  have q8 : Looks (model prog w) hp (typeLookup (.type T) (dunderR nm)) back := Looks.of_pure their
  have ne : (Value.ref C == Value.type T) = false := by rw [beq_eq_false_iff_ne]; intro z; cases z
  unfold binaryOp
  rw [e]
  dsimp only
  refine wpAny_holding (wpAny_bind ?_)
  unfold binaryOp1
  refine wpAny_bind (q1.at (wpAny_bind (tb.at (wpAny_bind (q3.at ?_)))))
  rw [ne]
  simp only [Bool.false_eq_true, if_false]
  cases r
  · ksp_lk
    refine wpAny_mono did (fun u s' z => ?_) fun _ _ z => z
    obtain ⟨v, rfl, hv⟩ := z
    ksp_lk
    exact hv
  · ksp_lk
    refine wpAny_mono did (fun u s' z => ?_) fun _ _ z => z
    obtain ⟨v, rfl, hv⟩ := z
    ksp_lk
    exact hv
open PySem.W in
/-- built-in op own: the built-in's own slot stands off, the class's reflected method takes them -/
theorem own_right {op : Operator} {a : Value} {l : Bool} {Q : Value → Shared → Prop} (KX : K.In s.heap) (J : InstAt s.heap x ox C od) (ta : ∀ s' : Shared, (∀ b o, s.heap.get? b = some o → s'.heap.get? b = some o) → Looks (model prog w) s'.heap (typeOf a) (.type T)) (one : selfFirst K C = true)
    (mr : findIn K (.ref C) (dunderR op.info.2) = some (some (.ref f))) (fn : isFn K (.ref f) = true) (fills : ∀ h : Heap, K.In h → Looks (model prog w) h (fillsNumberSlot (.ref C) op.info.2) true)
    (slot : fillsNumberSlot (.type T) op.info.2 = pure l) (nosub : subIn K (.ref C) (.type T) = some false)
    (off : l = true → ∀ {R : Option Value → Shared → Prop} {s' : Shared}, (∀ b o, s.heap.get? b = some o → s'.heap.get? b = some o) → (∀ t : Tok, R none { s' with toks := t }) → wpAny (model prog w) A (tryMethod a (PySem.dunder op.info.2) (.ref x)) R E s')
    (go : ∀ t : Tok, wpAny (model prog w) A (call (.ref f) [.ref x, a]) (PySem.W.CmpBack Q) E { s with toks := t }) : wpAny (model prog w) A (binaryOp op a (.ref x)) Q E s := by
  obtain ⟨sy, nm, e⟩ : ∃ sy nm, op.info = (sy, nm) := ⟨_, _, rfl⟩
  rw [e] at mr slot fills off
  have did : ∀ t : Tok, wpAny (model prog w) A (tryMethod (.ref x) (dunderR nm) a) (fun u s' => ∃ v, u = some v ∧ Q v s') E { s with toks := t } := fun t => ksp_try (s := { s with toks := t }) KX J mr fn (go t)
  have here := ta s fun _ _ z => z
  have q3 := fills s.heap KX
  obtain ⟨hp, gs, dr, tk, os⟩ := s
  have q1 : Looks (model prog w) hp (typeOf (.ref x)) (.ref C) := J.type
  have q2 : Looks (model prog w) hp (typeOf a) (.type T) := here
  have q4 : Looks (model prog w) hp (fillsNumberSlot (.type T) nm) l := Looks.of_pure slot
  have q5 : Looks (model prog w) hp (isSubtype (.ref C) (.type T)) false := looks_subIn KX nosub
  have q6 : Looks (model prog w) hp (fillsNumberSlot (.ref C) nm) true := q3
  have q7 : Looks (model prog w) hp (numberSlotInPython (.type T) nm) false := Looks.of_pure rfl
  have ne : (Value.type T == Value.ref C) = false := by rw [beq_eq_false_iff_ne]; intro z; cases z
  unfold binaryOp
  rw [e]
  dsimp only
  refine wpAny_holding (wpAny_bind ?_)
  unfold binaryOp1
  refine wpAny_bind (q2.at (wpAny_bind (q1.at (wpAny_bind (q4.at ?_)))))
  rw [ne]
  simp only [Bool.false_eq_true, if_false]
  refine wpAny_bind (q6.at ?_)
  cases l
  · ksp_lk
    refine wpAny_mono (did tk) (fun u s' z => ?_) fun _ _ z => z
    obtain ⟨v, rfl, hv⟩ := z
    ksp_lk
    exact hv
  · ksp_lk
    refine off rfl (fun _ _ z => z) fun t => ?_
    ksp_lk
    refine wpAny_mono (did t) (fun u s' z => ?_) fun _ _ z => z
    obtain ⟨v, rfl, hv⟩ := z
    ksp_lk
    exact hv
end
end Own

/-! own layer, of no law: OWN4. -/
namespace Own
open PySem PySem.Spec PySem.Calls PyProof.Rows AutoSeq1
def tys : List String := ["NoneType", "bool", "int", "str", "list", "tuple", "dict"]
theorem fill_add : ∀ T ∈ tys, fillsNumberSlot (.type T) "add" = pure (T == "int" || T == "bool") := by
  intro T hT
  simp only [tys, List.mem_cons, List.not_mem_nil, or_false] at hT
  rcases hT with rfl | rfl | rfl | rfl | rfl | rfl | rfl <;> kernel_rfl
theorem fill_sub : ∀ T ∈ tys, fillsNumberSlot (.type T) "sub" = pure (T == "int" || T == "bool") := by
  intro T hT
  simp only [tys, List.mem_cons, List.not_mem_nil, or_false] at hT
  rcases hT with rfl | rfl | rfl | rfl | rfl | rfl | rfl <;> kernel_rfl
theorem fill_mul : ∀ T ∈ tys, fillsNumberSlot (.type T) "mul" = pure (T == "int" || T == "bool") := by
  intro T hT
  simp only [tys, List.mem_cons, List.not_mem_nil, or_false] at hT
  rcases hT with rfl | rfl | rfl | rfl | rfl | rfl | rfl <;> kernel_rfl
theorem refl_add : ∀ T ∈ tys, typeLookup (.type T) (dunderR "add") = pure (if (T == "int" || T == "bool") = true then some (.builtin "int.__radd__") else none) := by
  intro T hT
  simp only [tys, List.mem_cons, List.not_mem_nil, or_false] at hT
  rcases hT with rfl | rfl | rfl | rfl | rfl | rfl | rfl <;> (rw [typeLookup_type, builtinLookup_eq_fast]; kernel_rfl)
theorem refl_sub : ∀ T ∈ tys, typeLookup (.type T) (dunderR "sub") = pure (if (T == "int" || T == "bool") = true then some (.builtin "int.__rsub__") else none) := by
  intro T hT
  simp only [tys, List.mem_cons, List.not_mem_nil, or_false] at hT
  rcases hT with rfl | rfl | rfl | rfl | rfl | rfl | rfl <;> (rw [typeLookup_type, builtinLookup_eq_fast]; kernel_rfl)
theorem refl_mul : ∀ T ∈ tys, typeLookup (.type T) (dunderR "mul") = pure (if (T == "int" || T == "bool") = true then some (.builtin "int.__rmul__") else if T == "str" then some (.builtin "str.__rmul__") else if T == "list" then some (.builtin "list.__rmul__") else if T == "tuple" then some (.builtin "tuple.__rmul__") else none) := by
  intro T hT
  simp only [tys, List.mem_cons, List.not_mem_nil, or_false] at hT
  rcases hT with rfl | rfl | rfl | rfl | rfl | rfl | rfl <;> (rw [typeLookup_type, builtinLookup_eq_fast]; kernel_rfl)
/-- an int's own slot stands off an object that is no int -/
theorem off_meets {nm : String} {x : Addr} {v : Value} {i : Int} {g : Int → Int → Sem Fin} (hv : (∃ t, v = .int i t) ∨ ∃ b, v = .bool b) : Meets (Builtin.Int.intBinary nm g false ⟨[v, .ref x], []⟩) (fun _ R s => ∃ o, s.heap.get? x = some o ∧ o.data = .plain ∧ R (.ok (.ret .notImplemented)) s) := by
  intro prog w A R s h
  obtain ⟨o, e, d, q⟩ := h
  obtain ⟨hp, gs, dr, tk, os⟩ := s
  rcases hv with ⟨t, rfl⟩ | ⟨b, rfl⟩
  · unfold Builtin.Int.intBinary
    wp_walk using wpAny_loadPart' e
    rw [d]
    exact wpAny_pure (wpAny_bind (wpAny_rule (wpAny_pure q)))
  · unfold Builtin.Int.intBinary
    wp_walk using wpAny_loadPart' e
    rw [d]
    exact wpAny_pure (wpAny_bind (wpAny_rule (wpAny_pure q)))
section
variable {prog : Program} {w : World} {A : Around} {E : Value → Shared → Prop} {s : Shared} {x : Addr} {o : Obj} {v : Value} {i : Int}
/-- .. so its method gives none -/
theorem off_try {T id : String} {nm : String} {nb : String} {g : Int → Int → Sem PySem.Fin} {R : Option Value → Shared → Prop} (hv : (∃ t, v = .int i t) ∨ ∃ b, v = .bool b) (ho : s.heap.get? x = some o) (hd : o.data = .plain) (hT : s.TypeIs v T) (slot : Slot T (dunder nm) id)
    (entry : entryFor table id = some (Builtin.Int.intBinary nb g false)) (args : argsOk id ⟨[v, .ref x], []⟩) (h : R none s) : wpAny (model prog w) A (tryMethod v (dunder nm) (.ref x)) R E s := by
  unfold tryMethod
  exact wpAny_bind (wpAny_callSpecial?_slot hT slot (call_meets slot hT entry args (off_meets hv) ⟨o, ho, hd, wpAny_pure h⟩))
theorem off_add {R : Option Value → Shared → Prop} (ho : s.heap.get? x = some o) (hd : o.data = .plain) (h : R none s) : (∀ t, v = .int i t → wpAny (model prog w) A (tryMethod v (dunder "add") (.ref x)) R E s) ∧ (∀ b, v = .bool b → wpAny (model prog w) A (tryMethod v (dunder "add") (.ref x)) R E s) := by
  refine ⟨fun t e => ?_, fun b e => ?_⟩
  · exact off_try (T := "int") (i := i) (.inl ⟨t, e⟩) ho hd (by rw [e]; exact rfl) F.slot_int_add F.entry_int_add (F.args_int_add_2 _ _) h
  · exact off_try (T := "bool") (i := i) (.inr ⟨b, e⟩) ho hd (by rw [e]; exact rfl) F.slot_bool_add F.entry_int_add (F.args_int_add_2 _ _) h
end
end Own

/-! own layer, of no law: OWN5: rules for an own class's operators with what is handed in. -/
namespace Own
open PySem PySem.Spec PyProof.Rows L2 LamX NdefX
/-- what an operator's built-in slots say -/
structure OpB (op : Operator) : Prop where
  fill : ∀ T ∈ tys, fillsNumberSlot (.type T) op.info.2 = pure (T == "int" || T == "bool")
  back : ∀ T ∈ tys, ∃ r, typeLookup (.type T) (dunderR op.info.2) = pure r
  off : ∀ {prog : Program} {w : World} {A : Around} {E : Value → Shared → Prop} {s : Shared} {x : Addr} {o : Obj} {v : Value} {i : Int} {R : Option Value → Shared → Prop}, s.heap.get? x = some o → o.data = .plain → ((∃ t, v = .int i t) ∨ ∃ b, v = .bool b) → R none s →
    wpAny (model prog w) A (tryMethod v (PySem.dunder op.info.2) (.ref x)) R E s
theorem opb_add : OpB .Add := ⟨fill_add, fun T h => ⟨_, refl_add T h⟩, fun {prog w A E s x o v i R} ho hd hv h => by
  rcases hv with ⟨t, e⟩ | ⟨b, e⟩
  · exact off_try (T := "int") (i := i) (.inl ⟨t, e⟩) ho hd (by rw [e]; exact rfl) F.slot_int_add F.entry_int_add (F.args_int_add_2 _ _) h
  · exact off_try (T := "bool") (i := i) (.inr ⟨b, e⟩) ho hd (by rw [e]; exact rfl) F.slot_bool_add F.entry_int_add (F.args_int_add_2 _ _) h⟩
theorem opb_sub : OpB .Sub := ⟨fill_sub, fun T h => ⟨_, refl_sub T h⟩, fun {prog w A E s x o v i R} ho hd hv h => by
  rcases hv with ⟨t, e⟩ | ⟨b, e⟩
  · exact off_try (T := "int") (i := i) (.inl ⟨t, e⟩) ho hd (by rw [e]; exact rfl) F.slot_int_sub F.entry_int_sub (F.args_int_sub_2 _ _) h
  · exact off_try (T := "bool") (i := i) (.inr ⟨b, e⟩) ho hd (by rw [e]; exact rfl) F.slot_bool_sub F.entry_int_sub (F.args_int_sub_2 _ _) h⟩
theorem opb_mul : OpB .Mult := ⟨fill_mul, fun T h => ⟨_, refl_mul T h⟩, fun {prog w A E s x o v i R} ho hd hv h => by
  rcases hv with ⟨t, e⟩ | ⟨b, e⟩
  · exact off_try (T := "int") (i := i) (.inl ⟨t, e⟩) ho hd (by rw [e]; exact rfl) F.slot_int_mul F.entry_int_mul (F.args_int_mul_2 _ _) h
  · exact off_try (T := "bool") (i := i) (.inr ⟨b, e⟩) ho hd (by rw [e]; exact rfl) F.slot_bool_mul F.entry_int_mul (F.args_int_mul_2 _ _) h⟩
section
variable {X : Cx} {pins : List (Addr × Obj)} {σ : L2.St} {H : Hp} {s : Shared}
/-- of which built-in type a thing is -/
theorem thing_ty {x : V} {v : Value} (I : Inv X pins σ H s) (t : Thing H x) (r : RelV x v) : ∃ T ∈ tys, PySem.W.Looks (model X.prog X.w) s.heap (typeOf v) (.type T) ∧ ((T == "int" || T == "bool") = true → ∃ i : Int, (∃ t, v = .int i t) ∨ ∃ b, v = .bool b) := by
  cases t with
  | non =>
    obtain rfl : v = .none := r
    exact ⟨"NoneType", by simp [tys], .of_pure rfl, fun z => absurd z (by decide)⟩
  | bl b =>
    obtain rfl : v = .bool b := r
    exact ⟨"bool", by simp [tys], .of_pure rfl, fun _ => ⟨0, .inr ⟨b, rfl⟩⟩⟩
  | int i =>
    obtain ⟨t, rfl⟩ := r
    exact ⟨"int", by simp [tys], .of_pure rfl, fun _ => ⟨i, .inl ⟨t, rfl⟩⟩⟩
  | str z =>
    obtain ⟨t, rfl⟩ := r
    exact ⟨"str", by simp [tys], .of_pure rfl, fun z => absurd z (by decide)⟩
  | @lst a xs e =>
    obtain rfl : v = .ref a := r
    obtain ⟨_, its, n, _, ho⟩ := I.hok a _ e
    exact ⟨"list", by simp [tys], fun A Q E s' k q => wpAny_typeOf_ref (k _ _ ho) q, fun z => absurd z (by decide)⟩
  | @tup a xs e =>
    obtain rfl : v = .ref a := r
    obtain ⟨_, its, _, o, ho, hc, _⟩ := I.hok a _ e
    exact ⟨"tuple", by simp [tys], fun A Q E s' k q => wpAny_typeOf_ref (k _ _ ho) (by rw [hc]; exact q), fun z => absurd z (by decide)⟩
  | @dct a kvs e =>
    obtain rfl : v = .ref a := r
    obtain ⟨_, _, vs, _, o, es, ep, ho, hc, _⟩ := I.hok a _ e
    exact ⟨"dict", by simp [tys], fun A Q E s' k q => wpAny_typeOf_ref (k _ _ ho) (by rw [hc.1]; exact q), fun z => absurd z (by decide)⟩
variable {CX : CXT} {n : Nat} {C f g : Addr} {fd : FuncData} {ps : List Str} {sp : Sp} {E : XK} {op : Operator}
/-- own op thing -/
theorem op_ownL (B : OpB op) (F : FnOk X.prog X.w X.K X.mg X.base CX n f fd ps sp) (hr : Room n X.A) (hc : PySem.W.selfFirst X.K C = true) (hs : PySem.W.findIn X.K (.ref C) (PySem.dunder op.info.2) = some (some (.ref f))) (hf : PySem.W.isFn X.K (.ref f) = true)
    (hm : PySem.W.findIn X.K (.ref C) (dunderR op.info.2) = some (some (.ref g))) (hsub : ∀ T ∈ tys, PySem.W.subIn X.K (.type T) (.ref C) = some false) (hb : Binds X.K fd ps []) (hx : Passes CX X E) :
    OpR X (binaryOp op) (fun x y H Q => ∃ a dx fs, x = V.ref a ∧ H a = some (.ins C dx fs) ∧ Thing H y ∧ sp [.ref a, y] H Q E) := by
  intro pins s σ H x y v u Q I rx ry h
  obtain ⟨a, dx, fs, rfl, ha, ty, q⟩ := h
  cases rx
  obtain ⟨mA, J, _⟩ := ins_get I.hok ha
  obtain ⟨od, J, _⟩ := J.look
  obtain ⟨T, hT, lk, _⟩ := thing_ty I ty ry
  obtain ⟨r, hbk⟩ := B.back T hT
  exact own_left I.kIn J lk hc hs hf hm (.inr ⟨g, rfl⟩) (B.fill T hT) hbk (hsub T hT) (back_of (run_fn F hr hb .nil hx I (.cons (show L2.RelV (V.ref a) (Value.ref a) from rfl) (.cons ry .nil)) q))
/-- thing op own -/
theorem op_ownR (B : OpB op) (F : FnOk X.prog X.w X.K X.mg X.base CX n f fd ps sp) (hr : Room n X.A) (hc : PySem.W.selfFirst X.K C = true) (hs : PySem.W.findIn X.K (.ref C) (PySem.dunder op.info.2) = some (some (.ref g))) (hf : PySem.W.isFn X.K (.ref f) = true)
    (hm : PySem.W.findIn X.K (.ref C) (dunderR op.info.2) = some (some (.ref f))) (hsub : ∀ T ∈ tys, PySem.W.subIn X.K (.ref C) (.type T) = some false) (hb : Binds X.K fd ps []) (hx : Passes CX X E) :
    OpR X (binaryOp op) (fun x y H Q => ∃ b dy fs, y = V.ref b ∧ H b = some (.ins C dy fs) ∧ Thing H x ∧ sp [.ref b, x] H Q E) := by
  intro pins s σ H x y v u Q I rx ry h
  obtain ⟨b, dy, fs, rfl, hb', tx, q⟩ := h
  cases ry
  obtain ⟨mB, J, _⟩ := ins_get I.hok hb'
  obtain ⟨od, J, _⟩ := J.look
  obtain ⟨T, hT, lk, num⟩ := thing_ty I tx rx
  obtain ⟨cd, tl, c1, c2⟩ := PySem.W.ksp_first hc
  refine own_right I.kIn J (fun s' k => lk.keeps k) hc hm hf (fun h K' => PySem.W.fills_K K' c1 c2 hs) (B.fill T hT) (hsub T hT) (fun z R s' k hR => ?_) fun t => ?_
  · obtain ⟨i, hi⟩ := num z
    obtain ⟨_, _, _, ho, _⟩ := I.hok b _ hb'
    exact B.off (k _ _ ho) rfl hi (hR s'.toks)
  · exact back_of (run_fn F hr hb .nil hx (I.tok t) (.cons (show L2.RelV (V.ref b) (Value.ref b) from rfl) (.cons rx .nil)) q)
end
end Own

/-! own layer, of no law: OWN6: == and abs of an own class. -/
namespace Own
open PySem PySem.Spec PyProof.Rows L2 LamX NdefX
section
variable {X : Cx} {pins : List (Addr × Obj)} {σ : L2.St} {H : Hp} {s : Shared}
variable {CX : CXT} {n : Nat} {C f : Addr} {fd : FuncData} {ps : List Str} {sp : Sp} {E : XK}
/-- own == anything -/
theorem op_ownEq (F : FnOk X.prog X.w X.K X.mg X.base CX n f fd ps sp) (hr : Room n X.A) (hs : PySem.W.findIn X.K (.ref C) "__eq__" = some (some (.ref f))) (hf : PySem.W.isFn X.K (.ref f) = true) (hsub : ∀ T ∈ tys, PySem.W.subIn X.K (.type T) (.ref C) = some false) (hb : Binds X.K fd ps []) (hx : Passes CX X E) :
    OpR X (compareOp .Eq) (fun x y H Q => ∃ a dx fs, x = V.ref a ∧ H a = some (.ins C dx fs) ∧ ((∃ b dy gs, y = V.ref b ∧ H b = some (.ins C dy gs)) ∨ Thing H y) ∧ sp [.ref a, y] H Q E) := by
  intro pins s σ H x y v u Q I rx ry h
  obtain ⟨a, dx, fs, rfl, ha, ty, q⟩ := h
  cases rx
  obtain ⟨mA, J, _⟩ := ins_get I.hok ha
  obtain ⟨od, J, _⟩ := J.look
  obtain ⟨m, hF⟩ := I.fr
  have un : X.A.units < cLine := by
    have := hr.units
    omega
  show wpAny (model X.prog X.w) X.A (richCompare .Eq (.ref a) u) (EP X pins σ Q) X.xe s
  have call := back_of (run_fn F hr hb .nil hx I (.cons (show L2.RelV (V.ref a) (Value.ref a) from rfl) (.cons ry .nil)) q)
  rcases ty with ⟨b, dy, gs, rfl, hb'⟩ | ty
  · cases ry
    obtain ⟨mB, J', _⟩ := ins_get I.hok hb'
    obtain ⟨od', J', _⟩ := J'.look
    exact PySem.W.cmp_K (op := .Eq) (tb := .ref C) un hF I.ok.mod.kin J J'.type (by simp [PySem.W.notFirst]) hs hf call
  · obtain ⟨T, hT, lk, _⟩ := thing_ty I ty ry
    exact PySem.W.cmp_K (op := .Eq) (tb := .type T) un hF I.ok.mod.kin J lk (by unfold PySem.W.notFirst; rw [hsub T hT]; simp) hs hf call
/-- abs(own) -/
theorem call_absOwn (F : FnOk X.prog X.w X.K X.mg X.base CX n f fd ps sp) (hr : Room (n + 1) X.A) (hs : PySem.W.findIn X.K (.ref C) "__abs__" = some (some (.ref f))) (hf : PySem.W.isFn X.K (.ref f) = true) (hb : Binds X.K fd ps []) (hx : Passes CX X E) :
    CallR X (.builtin "abs") (fun xs H Q => ∃ a dx fs, xs = [V.ref a] ∧ H a = some (.ins C dx fs) ∧ sp [.ref a] H Q E) := by
  intro pins s σ H xs us Q I rs h
  obtain ⟨a, dx, fs, rfl, ha, q⟩ := h
  obtain ⟨u, rfl, rx⟩ := vals1 rs
  cases rx
  obtain ⟨mA, J, _⟩ := ins_get I.hok ha
  obtain ⟨od, J, _⟩ := J.look
  have A1 : Room n X.A.in1 := hr.in1
  refine PySem.Calls.call_function_entry kind_abs plain_abs entry_abs (args_abs _) ?_
  unfold Builtin.«abs»
  refine wpAny_bind (m := oneArg "abs" _) (wpAny_pure ?_)
  refine wpAny_bind (m := callSpecial? (.ref a) (Str.ofString "__abs__")) (PySem.W.special_fn I.kIn J hs (beq_iff_eq.mp hf) ?_)
  have e0 : Env0 X.prog X.w X.K X.mg X.base X.A.in1 X.stack s H := by
    have e := I.env0
    exact ⟨e.frames, e.mod, e.bs, e.bsz, e.funs, e.frf, e.hok, e.bare⟩
  have r1 : Vals [V.ref a] [Value.ref a] := .cons (show L2.RelV (V.ref a) (Value.ref a) from rfl) .nil
  have hl := F.len _ _ _ _ q
  refine wpAny_call (codeAny_mono (F.run X.A.in1 X.stack s H ⟨[.ref a], []⟩ [.ref a] [.ref a] Q E A1 e0 (by
    have z := hb s [.ref a] I.kIn (by simpa using hl)
    simpa using z) r1 q) fun r s' hq => ?_)
  cases r with
  | error e => exact hx pins σ H s e s' I hq
  | ok fl =>
    cases fl with
    | ret w => exact wpAny_pure ⟨_, rfl, I.after hq⟩
    | next => exact False.elim hq
    | brk => exact False.elim hq
    | cont => exact False.elim hq
end
end Own

/-! own layer, of no law: OWN7: != of an own class that has == alone. -/
namespace Own
open PySem PySem.Spec PySem.Calls PyProof.Rows
section
variable {prog : Program} {w : World} {A : Around} {E : Value → Shared → Prop} {s : Shared} {K : PySem.W.Frag} {x C f : Addr} {ox : Obj} {od : Option Obj}
open PySem.W in
theorem ne_body {b : Value} {Q : Fin → Shared → Prop} (un : A.units < cLine) (KX : K.In s.heap) (J : InstAt s.heap x ox C od) (eq : findIn K (.ref C) "__eq__" = some (some (.ref f))) (fn : isFn K (.ref f) = true)
    (go : wpAny (model prog w) A (call (.ref f) [.ref x, b]) (fun v s' => ∃ c, v = .bool c ∧ Q (.done (.ret (.bool (!c)))) s') E s) : wpAny (model prog w) A (Builtin.«object.__ne__» ⟨[.ref x, b], []⟩) Q E s := by
  unfold Builtin.«object.__ne__»
  refine wpAny_bind (m := slotArgs "__ne__" 1 _) (wpAny_pure ?_)
  dsimp only
  refine wpAny_bind (wpAny_cRoomFor un ?_)
  refine wpAny_bind (m := callSpecialIfBound? (.ref x) (Str.ofString "__eq__") [b]) (ifBound_K KX J eq fn (wpAny_mono go (fun v s' z => ?_) fun _ _ e => e))
  obtain ⟨c, rfl, q⟩ := z
  exact wpAny_bind (wpAny_truthy_bool (wpAny_pure q))
theorem ne_args (a b : Value) : argsOk "object.__ne__" ⟨[a, b], []⟩ := F.cmpArgs_ne a b
theorem ne_bind (self : Value) : bindSpecial (.builtin "object.__ne__") self = pure (.builtin "object.__ne__", [self]) :=
  (Slot.of (T := "object") (name := "__ne__") (owner := "object") (n := "__ne__") (by rw [typeLookup_type, builtinLookup_eq_fast]; kernel_rfl) (by decide +kernel) (by decide +kernel) (by decide +kernel) (.inl (by decide +kernel)) (by rw [isSubtype_type]; kernel_rfl)).bind self
open PySem.W in
theorem ne_try {b : Value} {Q : Option Value → Shared → Prop} (un : A.units + 1 < cLine) (KX : K.In s.heap) (J : InstAt s.heap x ox C od) (ne : findIn K (.ref C) "__ne__" = some (some (.builtin "object.__ne__"))) (obj : subIn K (.ref C) (.type "object") = some true) (eq : findIn K (.ref C) "__eq__" = some (some (.ref f))) (fn : isFn K (.ref f) = true)
    (go : wpAny (model prog w) A.in1 (call (.ref f) [.ref x, b]) (fun v s' => ∃ c, v = .bool c ∧ Q (some (.bool (!c))) s') E s) : wpAny (model prog w) A (tryCompare (.ref x) "__ne__" b) Q E s := by
  have isO : Looks (model prog w) s.heap (isInstance (.ref x) (.type "object")) true := J.type.andThen (looks_subIn KX obj)
  have run : wpAny (model prog w) A (call (.builtin "object.__ne__") [.ref x, b]) (fun v s' => ∃ c : Bool, v = .bool c ∧ Q (some (.bool c)) s') E s := by
    refine wpAny_call (codeAny_call_builtin (by decide +kernel) F.cmpEntry_ne (check_slot F.cmpKind_ne F.cmpSplit_ne isO (ne_args _ _) (ne_body (A := A.in1) (by exact un) KX J eq fn (wpAny_mono go (fun v s' z => ?_) fun _ _ e => e))))
    obtain ⟨c, rfl, q⟩ := z
    exact ⟨c, rfl, ⟨!c, rfl, q⟩⟩
  have fin : wpAny (model prog w) A (call (.builtin "object.__ne__") ([.ref x] ++ [b]) >>= fun v => pure (some v)) (fun r s' => ∃ c : Bool, r = some (.bool c) ∧ Q (some (.bool c)) s') E s := wpAny_bind (wpAny_mono run (fun v s' z => by
    obtain ⟨c, rfl, q⟩ := z
    exact wpAny_pure ⟨c, rfl, q⟩) fun _ _ e => e)
  have whole : wpAny (model prog w) A (callSpecialIfBound? (.ref x) "__ne__" [b]) (fun r s' => ∃ c : Bool, r = some (.bool c) ∧ Q (some (.bool c)) s') E s := by
    simp only [callSpecialIfBound?, bindSpecialIfBound?]
    refine wpAny_holding (wpAny_bind (wpAny_bind (wpAny_bind (J.type.here ((looks_findIn KX ne).here ?_)))))
    refine wpAny_bind (wpAny_askSetting (wpAny_ite ?_))
    split
    · rw [ne_bind]
      exact wpAny_bind (wpAny_pure (wpAny_pure fin))
    · rw [ne_bind]
      exact wpAny_tryCatch (wpAny_bind (wpAny_pure (wpAny_pure fin)))
  unfold tryCompare
  refine wpAny_bind (wpAny_mono whole (fun r s' z => ?_) fun _ _ e => e)
  obtain ⟨c, rfl, q⟩ := z
  exact wpAny_pure q
open PySem.W in
/-- own != b -/
theorem own_ne {b tb : Value} {Q : Value → Shared → Prop} (un : A.units + 1 < cLine) (KX : K.In s.heap) (J : InstAt s.heap x ox C od) (lk : Looks (model prog w) s.heap (typeOf b) tb) (nf : notFirst K C tb = true) (ne : findIn K (.ref C) "__ne__" = some (some (.builtin "object.__ne__"))) (obj : subIn K (.ref C) (.type "object") = some true)
    (eq : findIn K (.ref C) "__eq__" = some (some (.ref f))) (fn : isFn K (.ref f) = true) (go : wpAny (model prog w) A.in1 (call (.ref f) [.ref x, b]) (fun v s' => ∃ c, v = .bool c ∧ Q (.bool (!c)) s') E s) : wpAny (model prog w) A (richCompare .NotEq (.ref x) b) Q E s := by
  have one : wpAny (model prog w) A (tryCompare (.ref x) "__ne__" b) (fun r s' => ∃ v, r = some v ∧ Q v s') E s := ne_try un KX J ne obj eq fn (wpAny_mono go (fun v s' z => by
    obtain ⟨c, rfl, q⟩ := z
    exact ⟨c, rfl, _, rfl, q⟩) fun _ _ e => e)
  unfold richCompare
  simp only [oneThing_ref]
  refine wpAny_holding (wpAny_bind (wpAny_cRoomFor (Nat.lt_of_succ_lt un) ?_))
  refine wpAny_bind (J.type.here (wpAny_bind (lk.here ?_)))
  split
  · rename_i hd
    have sb : subIn K tb (.ref C) = some false := by
      unfold notFirst at nf
      rcases Bool.or_eq_true_iff.mp nf with z | z
      · rw [beq_iff_eq.mp z] at hd
        simp at hd
      · exact beq_iff_eq.mp z
    refine wpAny_bind ((looks_subIn KX sb).here ?_)
    rw [if_neg Bool.false_ne_true]
    refine wpAny_bind (wpAny_mono one (fun r s' z => ?_) fun _ _ z => z)
    obtain ⟨v, rfl, hv⟩ := z
    exact wpAny_pure hv
  · refine wpAny_bind (wpAny_pure ?_)
    rw [if_neg Bool.false_ne_true]
    refine wpAny_bind (wpAny_mono one (fun r s' z => ?_) fun _ _ z => z)
    obtain ⟨v, rfl, hv⟩ := z
    exact wpAny_pure hv
end
end Own

/-! own layer, of no law: OWN8: the rule of !=. -/
namespace Own
open PySem PySem.Spec PyProof.Rows L2 LamX NdefX
section
variable {X : Cx} {pins : List (Addr × Obj)} {σ : L2.St} {H : Hp} {s : Shared}
variable {CX : CXT} {n : Nat} {C f : Addr} {fd : FuncData} {ps : List Str} {sp : Sp} {E : XK}
/-- a def's run one call deeper -/
theorem run_in1 {us : List Value} {vs : List V} {Q : VK} {R : Value → Shared → Prop} (F : FnOk X.prog X.w X.K X.mg X.base CX n f fd ps sp) (hr : Room (n + 1) X.A) (hb : Binds X.K fd ps []) (hx : Passes CX X E) (I : Inv X pins σ H s) (r : Vals vs us) (q : sp vs H Q E)
    (k : ∀ v s', EP X pins σ Q v s' → R v s') : wpAny (model X.prog X.w) X.A.in1 (call (.ref f) us) R X.xe s := by
  have e0 : Env0 X.prog X.w X.K X.mg X.base X.A.in1 X.stack s H := by
    have e := I.env0
    exact ⟨e.frames, e.mod, e.bs, e.bsz, e.funs, e.frf, e.hok, e.bare⟩
  have hl := F.len _ _ _ _ q
  have bt : BindsTo s fd ⟨us, []⟩ (ps.zip us) := by
    have z := hb s us I.kIn (by rw [List.append_nil, ← r.length]; exact hl)
    rw [List.append_nil] at z
    exact z
  refine wpAny_call (codeAny_mono (F.run X.A.in1 X.stack s H ⟨us, []⟩ us vs Q E hr.in1 e0 bt r q) fun r s' hq => ?_)
  cases r with
  | error e => exact hx pins σ H s e s' I hq
  | ok fl =>
    cases fl with
    | ret w => exact k _ _ (I.after hq)
    | next => exact False.elim hq
    | brk => exact False.elim hq
    | cont => exact False.elim hq
/-- own != anything -/
theorem op_ownNe (F : FnOk X.prog X.w X.K X.mg X.base CX n f fd ps sp) (hr : Room (n + 1) X.A) (ne : PySem.W.findIn X.K (.ref C) "__ne__" = some (some (.builtin "object.__ne__"))) (obj : PySem.W.subIn X.K (.ref C) (.type "object") = some true) (hs : PySem.W.findIn X.K (.ref C) "__eq__" = some (some (.ref f))) (hf : PySem.W.isFn X.K (.ref f) = true)
    (hsub : ∀ T ∈ tys, PySem.W.subIn X.K (.type T) (.ref C) = some false) (hb : Binds X.K fd ps []) (hx : Passes CX X E) :
    OpR X (compareOp .NotEq) (fun x y H Q => ∃ a dx fs, x = V.ref a ∧ H a = some (.ins C dx fs) ∧ ((∃ b dy gs, y = V.ref b ∧ H b = some (.ins C dy gs)) ∨ Thing H y) ∧ sp [.ref a, y] H (fun v H' => ∃ c, v = .bl c ∧ Q (.bl (!c)) H') E) := by
  intro pins s σ H x y v u Q I rx ry h
  obtain ⟨a, dx, fs, rfl, ha, ty, q⟩ := h
  cases rx
  obtain ⟨mA, J, _⟩ := ins_get I.hok ha
  obtain ⟨od, J, _⟩ := J.look
  have un : X.A.units + 1 < cLine := by
    have := hr.un
    omega
  show wpAny (model X.prog X.w) X.A (richCompare .NotEq (.ref a) u) (EP X pins σ Q) X.xe s
  have go : wpAny (model X.prog X.w) X.A.in1 (call (.ref f) [.ref a, u]) (fun v s' => ∃ c, v = .bool c ∧ EP X pins σ Q (.bool (!c)) s') X.xe s := run_in1 F hr hb hx I (.cons (show L2.RelV (V.ref a) (Value.ref a) from rfl) (.cons ry .nil)) q fun v s' z => by
    obtain ⟨z, H', I', rz, c, rfl, q'⟩ := z
    obtain rfl : v = .bool c := rz
    exact ⟨c, rfl, .bl (!c), H', I', rfl, q'⟩
  rcases ty with ⟨b, dy, gs, rfl, hb'⟩ | ty
  · cases ry
    obtain ⟨mB, J', _⟩ := ins_get I.hok hb'
    obtain ⟨od', J', _⟩ := J'.look
    exact own_ne un I.kIn J J'.type (by simp [PySem.W.notFirst]) ne obj hs hf go
  · obtain ⟨T, hT, lk, _⟩ := thing_ty I ty ry
    exact own_ne un I.kIn J lk (by unfold PySem.W.notFirst; rw [hsub T hT]; simp) ne obj hs hf go
end
end Own

/-! own layer, of no law: OWN9: an attribute as one of several targets. -/
namespace Own
open PySem PySem.Spec PyProof.Rows L2 LamX NdefX
section
variable {X : Cx} {o : Expr} {ta : TE} {f : Str} {pos : Pos}
def gFld (K : PySem.W.Frag) (ta : TE) (f : Str) : TG := fun y σ H Q => ta σ H fun x H2 => ∃ a C dx fs, x = V.ref a ∧ H2 a = some (.ins C dx fs) ∧ Cls K C ∧ NoAttr K C f ∧ fs.length < 1000 ∧ Q σ (upd H2 a (.ins C dx (putF f y fs)))
theorem pg_fld (ha : PE X o ta) : PG X (.Attribute o f pos) (gFld X.K ta f) := by
  refine ⟨fun pins s σ H v u Q I r h => ?_⟩
  have e : assign (.Attribute o f pos) X.env u = (do
      let ov ← holding [u] (eval o X.env)
      standAt pos.atName
      holding [u, ov] (setAttr ov f u)
      PySem.release [u, ov] []) := rfl
  rw [e]
  refine wpAny_bind (wpAny_holding (thn (ha.run pins s σ H _ I h) fun ov s1 z => ?_))
  obtain ⟨x, H1, I1, rx, a, C, dx, fs, rfl, ea, c, n, l, q⟩ := z
  obtain rfl : ov = Value.ref a := rx
  refine wpAny_bind (wpAny_standAt (wpAny_bind (wpAny_holding (setattr_ok I1 ea c n l r fun s3 I3 => ?_))))
  exact wpAny_release ⟨σ, _, I3, q⟩
end
end Own

/-! own layer, of no law: OWNW: the nine ways, their mathematics. -/
namespace Own
open PySem PySem.Spec PyProof.Rows L2 LamX NdefX
def waysL : List Str := ["floor", "ceiling", "cut", "away", "halfup", "halfdown", "halfeven", "halfaway", "halfcut"]
def mirrL : List (Str × Str) := [("floor", "ceiling"), ("ceiling", "floor"), ("halfup", "halfdown"), ("halfdown", "halfup")]
def halvL : List (Str × Str) := [("halfup", "ceiling"), ("halfdown", "floor"), ("halfeven", "even"), ("halfaway", "away"), ("halfcut", "cut")]
def baseUp (w : Str) (b : Int) : Bool := if w = "even" then decide (b % 2 = 1) else if w = "cut" then decide (b < 0) else if w = "away" then decide (0 ≤ b) else decide (w = "ceiling")
def goesUp (w : Str) (b p : Int) : Bool := match halvL.lookup w with
  | some h => if p = 0 then baseUp h b else decide (0 < p)
  | none => baseUp w b
def near (n d : Int) (w : Str) : Int := if n % d = 0 then n / d else if goesUp w (n / d) (2 * (n % d) - d) = true then n / d + 1 else n / d
def mirr (w : Str) : Str := (mirrL.lookup w).getD w
theorem dec_int (a b : Int) : decide (V.int a = V.int b) = decide (a = b) := by simp
theorem dec_str (a b : Str) : decide (V.str a = V.str b) = decide (a = b) := by simp
/-- what the walk asks of the top: the names of built-ins are free; the tables -/
structure Txt (P : Program) (w : World) (K : PySem.W.Frag) (mg : Str → Option Value) (base : Heap) (C aW aM aH : Addr) (eM : Array DictEntry) (nM : Nat) (eH : Array DictEntry) (nH : Nat) : Prop where
  isi : mg "isinstance" = none
  int : mg "int" = none
  bool : mg "bool" = none
  len : mg "len" = none
  list : mg "list" = none
  range : mg "range" = none
  tuple : mg "tuple" = none
  all : mg "all" = none
  dm : mg "divmod" = none
  err : ErrC P w K mg base "BadValue" "value" 1 C (spErr C "value")
  gW : mg "WAYS" = some (.ref aW)
  ways : ∀ H : Hp, SqT K H aW (waysL.map V.str)
  gM : mg "MIRRORS" = some (.ref aM)
  dM : KDict K w aM eM nM
  mirr : ∀ z ∈ waysL, KGet K aM z ((mirrL.lookup z).map V.str)
  gH : mg "HALVES" = some (.ref aH)
  dH : KDict K w aH eH nH
  halv : ∀ z ∈ waysL, KGet K aH z ((halvL.lookup z).map V.str)
def isWay : V → Bool
  | .str z => decide (z ∈ waysL)
  | _ => false
theorem isWay_str {x : V} (h : isWay x = true) : ∃ z ∈ waysL, x = .str z := by
  cases x with
  | str z => exact ⟨z, by simpa [isWay] using h, rfl⟩
  | _ => simp [isWay] at h
theorem way_cases {z : Str} (h : z ∈ waysL) : z = "floor" ∨ z = "ceiling" ∨ z = "cut" ∨ z = "away" ∨ z = "halfup" ∨ z = "halfdown" ∨ z = "halfeven" ∨ z = "halfaway" ∨ z = "halfcut" := by
  simpa [waysL] using h
def baseK (z : Str) : Nat := if z = "even" then 0 else if z = "cut" then 1 else if z = "away" then 2 else if z = "ceiling" then 3 else 4
def kUp : Nat → Int → Bool
  | 0, b => decide (b % 2 = 1)
  | 1, b => decide (b < 0)
  | 2, b => decide (0 ≤ b)
  | 3, _ => true
  | _, _ => false
theorem base_k (z : Str) (b : Int) : baseUp z b = kUp (baseK z) b := by
  unfold baseUp baseK
  by_cases h1 : z = "even"
  · rw [if_pos h1, if_pos h1]
    rfl
  rw [if_neg h1, if_neg h1]
  by_cases h2 : z = "cut"
  · rw [if_pos h2, if_pos h2]
    rfl
  rw [if_neg h2, if_neg h2]
  by_cases h3 : z = "away"
  · rw [if_pos h3, if_pos h3]
    rfl
  rw [if_neg h3, if_neg h3]
  by_cases h4 : z = "ceiling"
  · rw [if_pos h4, decide_eq_true h4]
    rfl
  · rw [if_neg h4, decide_eq_false h4]
    rfl
theorem goes_none {z : Str} {k : Nat} (h : halvL.lookup z = none) (hk : baseK z = k) (b p : Int) : goesUp z b p = kUp k b := by
  unfold goesUp
  rw [h, ← hk]
  exact base_k z b
theorem goes_some {z y : Str} {k : Nat} (h : halvL.lookup z = some y) (hk : baseK y = k) (b p : Int) : goesUp z b p = if p = 0 then kUp k b else decide (0 < p) := by
  unfold goesUp
  rw [h, ← hk, ← base_k]
theorem mirr_of {z y : Str} (h : (mirrL.lookup z).getD z = y) : mirr z = y := h
theorem goes_mirr {z : Str} (hz : z ∈ waysL) (b p : Int) : goesUp (mirr z) (-b - 1) (-p) = !goesUp z b p := by
  rcases way_cases hz with rfl | rfl | rfl | rfl | rfl | rfl | rfl | rfl | rfl
  · rw [mirr_of (y := "ceiling") (by decide +kernel), goes_none (k := 3) (by decide +kernel) (by decide +kernel), goes_none (k := 4) (by decide +kernel) (by decide +kernel)]
    rfl
  · rw [mirr_of (y := "floor") (by decide +kernel), goes_none (k := 4) (by decide +kernel) (by decide +kernel), goes_none (k := 3) (by decide +kernel) (by decide +kernel)]
    rfl
  · rw [mirr_of (y := "cut") (by decide +kernel), goes_none (k := 1) (by decide +kernel) (by decide +kernel), goes_none (k := 1) (by decide +kernel) (by decide +kernel)]
    show decide (-b - 1 < 0) = !decide (b < 0)
    by_cases h : b < 0
    · rw [decide_eq_true h, decide_eq_false (by omega)]; rfl
    · rw [decide_eq_false h, decide_eq_true (by omega)]; rfl
  · rw [mirr_of (y := "away") (by decide +kernel), goes_none (k := 2) (by decide +kernel) (by decide +kernel), goes_none (k := 2) (by decide +kernel) (by decide +kernel)]
    show decide (0 ≤ -b - 1) = !decide (0 ≤ b)
    by_cases h : 0 ≤ b
    · rw [decide_eq_true h, decide_eq_false (by omega)]; rfl
    · rw [decide_eq_false h, decide_eq_true (by omega)]; rfl
  · rw [mirr_of (y := "halfdown") (by decide +kernel), goes_some (k := 4) (y := "floor") (by decide +kernel) (by decide +kernel), goes_some (k := 3) (y := "ceiling") (by decide +kernel) (by decide +kernel)]
    by_cases h : p = 0
    · rw [if_pos h, if_pos (by omega)]; rfl
    · rw [if_neg h, if_neg (by omega)]
      by_cases h : 0 < p
      · rw [decide_eq_true h, decide_eq_false (by omega)]; rfl
      · rw [decide_eq_false h, decide_eq_true (by omega)]; rfl
  · rw [mirr_of (y := "halfup") (by decide +kernel), goes_some (k := 3) (y := "ceiling") (by decide +kernel) (by decide +kernel), goes_some (k := 4) (y := "floor") (by decide +kernel) (by decide +kernel)]
    by_cases h : p = 0
    · rw [if_pos h, if_pos (by omega)]; rfl
    · rw [if_neg h, if_neg (by omega)]
      by_cases h : 0 < p
      · rw [decide_eq_true h, decide_eq_false (by omega)]; rfl
      · rw [decide_eq_false h, decide_eq_true (by omega)]; rfl
  · rw [mirr_of (y := "halfeven") (by decide +kernel), goes_some (k := 0) (y := "even") (by decide +kernel) (by decide +kernel), goes_some (k := 0) (y := "even") (by decide +kernel) (by decide +kernel)]
    by_cases h : p = 0
    · rw [if_pos h, if_pos (by omega)]
      show decide ((-b - 1) % 2 = 1) = !decide (b % 2 = 1)
      by_cases h : b % 2 = 1
      · rw [decide_eq_true h, decide_eq_false (by omega)]; rfl
      · rw [decide_eq_false h, decide_eq_true (by omega)]; rfl
    · rw [if_neg h, if_neg (by omega)]
      by_cases h : 0 < p
      · rw [decide_eq_true h, decide_eq_false (by omega)]; rfl
      · rw [decide_eq_false h, decide_eq_true (by omega)]; rfl
  · rw [mirr_of (y := "halfaway") (by decide +kernel), goes_some (k := 2) (y := "away") (by decide +kernel) (by decide +kernel), goes_some (k := 2) (y := "away") (by decide +kernel) (by decide +kernel)]
    by_cases h : p = 0
    · rw [if_pos h, if_pos (by omega)]
      show decide (0 ≤ -b - 1) = !decide (0 ≤ b)
      by_cases h : 0 ≤ b
      · rw [decide_eq_true h, decide_eq_false (by omega)]; rfl
      · rw [decide_eq_false h, decide_eq_true (by omega)]; rfl
    · rw [if_neg h, if_neg (by omega)]
      by_cases h : 0 < p
      · rw [decide_eq_true h, decide_eq_false (by omega)]; rfl
      · rw [decide_eq_false h, decide_eq_true (by omega)]; rfl
  · rw [mirr_of (y := "halfcut") (by decide +kernel), goes_some (k := 1) (y := "cut") (by decide +kernel) (by decide +kernel), goes_some (k := 1) (y := "cut") (by decide +kernel) (by decide +kernel)]
    by_cases h : p = 0
    · rw [if_pos h, if_pos (by omega)]
      show decide (-b - 1 < 0) = !decide (b < 0)
      by_cases h : b < 0
      · rw [decide_eq_true h, decide_eq_false (by omega)]; rfl
      · rw [decide_eq_false h, decide_eq_true (by omega)]; rfl
    · rw [if_neg h, if_neg (by omega)]
      by_cases h : 0 < p
      · rw [decide_eq_true h, decide_eq_false (by omega)]; rfl
      · rw [decide_eq_false h, decide_eq_true (by omega)]; rfl
theorem mirr_mem {z : Str} (hz : z ∈ waysL) : mirr z ∈ waysL := by
  rcases way_cases hz with rfl | rfl | rfl | rfl | rfl | rfl | rfl | rfl | rfl <;> decide +kernel
theorem near_mirr {n d : Int} {z : Str} (h0 : 0 < d) (hz : z ∈ waysL) : near (-n) d (mirr z) = -near n d z := by
  have r0 := Int.emod_nonneg n (show d ≠ 0 by omega)
  have r1 := Int.emod_lt_of_pos n h0
  have em := Int.emod_add_mul_ediv n d
  unfold near
  by_cases h : n % d = 0
  · have e1 : (-n) % d = 0 := Int.emod_eq_zero_of_dvd ((Int.dvd_neg).mpr (Int.dvd_of_emod_eq_zero h))
    rw [if_pos h, if_pos e1, Int.neg_ediv_of_dvd (Int.dvd_of_emod_eq_zero h)]
  · have e3 : -n = (d - n % d) + d * (-(n / d) - 1) := by
      rw [Int.mul_sub, Int.mul_neg]
      omega
    have e1 : (-n) % d = d - n % d := by
      rw [e3, Int.add_mul_emod_self_left, Int.emod_eq_of_lt (by omega) (by omega)]
    have e2 : (-n) / d = -(n / d) - 1 := by
      rw [e3, Int.add_mul_ediv_left _ _ (by omega), Int.ediv_eq_zero_of_lt (by omega) (by omega)]
      omega
    rw [if_neg h, e1, e2, if_neg (by omega)]
    have e4 : 2 * (d - n % d) - d = -(2 * (n % d) - d) := by omega
    rw [e4, goes_mirr hz]
    cases goesUp z (n / d) (2 * (n % d) - d)
    · show (if true = true then -(n / d) - 1 + 1 else _) = -(if false = true then _ else n / d)
      rw [if_pos rfl, if_neg (by decide)]
      omega
    · show (if false = true then _ else -(n / d) - 1) = -(if true = true then n / d + 1 else _)
      rw [if_pos rfl, if_neg (by decide)]
      omega
end Own

/-! own layer, of no law: OWNE: an error class whose __init__ keeps nothing. -/
namespace Own
open PySem PySem.Spec PyProof.Rows L2 LamX NdefX
section
variable {X : Cx}
theorem del_new {H : Hp} {a : Addr} {o : HO} (h : H a = none) : del (upd H a o) a = H := by
  funext b
  by_cases e : b = a
  · rw [e, del_same, h]
  · rw [del_ne e, upd_ne e]
theorem mk_endN {pins : List (Addr × Obj)} {σ : L2.St} {H1 H2 : Hp} {Q : XK} {hp hp2 h2 : Heap} {g1 g2 : Array GenState} {d1 d2 : Drawn} {t1 t2 : Nat} {os1 os2 : OsState} {a C : Addr} (T : Raises X (.ref C)) (I1 : Inv X pins σ H1 ⟨hp, g1, d1, t1, os1⟩)
    (ha : hp.objs.size ≤ a) (k : ∀ b o, hp.get? b = some o → hp2.get? b = some o) (un : Un (frs X.stack) [] (upd H1 a (exo a C none)) H2 hp2 h2) (hok : HOk X.prog X.w H2 h2) (ho : os2 = os1) (hb : AllBare g2)
    (ea : H2 a = some (exo a C none)) (q : Q (.ref C) none (del H2 a)) : MkP X pins σ Q (.ref a) ⟨h2, g2, d2, t2, os2⟩ := by
  obtain ⟨t0, hoe⟩ := exo_at hok ea
  have hn : H1 a = none := I1.hok.fresh ha
  obtain ⟨G, g1', g2'⟩ := restrict h2 fun b => decide (b ≠ a)
  have gk : ∀ b, b ≠ a → G.get? b = h2.get? b := fun b hb => g1' b (decide_eq_true hb)
  have ge : G.get? a = none := g2' a (by simp)
  have nha : ∀ {b : Addr} {o : Obj}, hp.get? b = some o → b ≠ a := fun {b o} z => Nat.ne_of_lt (Nat.lt_of_lt_of_le (Heap.lt_size z) ha)
  have up : ∀ {b : Addr}, b ≠ a → H1 b = none → upd H1 a (exo a C none) b = none := fun {b} hb n => by rw [upd_ne hb]; exact n
  have U : Un (frs X.stack) [] H1 (del H2 a) hp G := {
    keep := fun b o z n hf hx => by
      rw [gk b (nha z)]
      exact un.keep b o (k b o z) (up (nha z) n) hf hx
    slot := fun b o z n hf hx => by
      rw [gk b (nha z)]
      exact un.slot b o (k b o z) (up (nha z) n) hf hx
    free := fun b o z n hx => by
      rw [del_ne (nha z)]
      exact un.free b o (k b o z) (up (nha z) n) hx
    there := fun b o z hx => by
      rw [gk b (nha z)]
      exact un.there b o (k b o z) hx
    tups := fun b xs z => by
      rw [del_ne (ne_of_none z hn)]
      exact un.tups b xs (by rw [upd_ne (ne_of_none z hn)]; exact z)
    frzs := fun b o v z => by
      rw [del_ne (ne_of_none z hn)]
      exact un.frzs b o v (by rw [upd_ne (ne_of_none z hn)]; exact z)
    tbls := fun b ps z => by
      rw [del_ne (ne_of_none z hn)]
      exact un.tbls b ps (by rw [upd_ne (ne_of_none z hn)]; exact z) }
  have hok3 : HOk X.prog X.w (del H2 a) G := fun b o z => by
    have hba : b ≠ a := fun e => by
      rw [e, del_same] at z
      cases z
    rw [del_ne hba] at z
    have noa : ∀ {c : Addr}, H2 c = some (.own b) → c ≠ a := fun {c} hc => at_ne ea hc exo_own
    exact (hok b o z).stay (fun c v hc y => by
        have hca : c ≠ a := by
          rcases hc with hc | hc
          · rw [hc]
            exact hba
          · exact noa hc
        rw [gk c hca]
        exact y)
      (fun c hc => by rw [del_ne (noa hc)]; exact hc) (fun c xs hc => by rw [del_ne (at_ne ea hc exo_tup)]; exact hc)
  have J : Inv X pins σ (del H2 a) ⟨G, g2, d2, t2, os2⟩ := I1.call' (ch := []) ho U hok3 hb (fun b z => absurd z (by simp))
  refine ⟨a, _, _, ⟨G, g2, d2, t2, os2⟩, _, .ref C, none, rfl, J, fun b o z => ?_, ge, hoe, ⟨rfl, rfl⟩, rfl, rfl, del_same, rfl, hb, T, q⟩
  by_cases hba : b = a
  · rw [hba, ge] at z
    cases z
  · exact (gk b hba).symm.trans z
/-- C(), an own error class whose __init__ takes self alone and does nothing -/
theorem pmk_oex0 {x : Str} {C fI : Addr} {k : Nat} {fd : FuncData} {sp : Sp} {p pos : Pos} (T : OexC X.K C) (iC : PySem.W.findIn X.K (.ref C) "__init__" = some (some (.ref fI))) (tI : PySem.W.typeIn X.K (.ref fI) = some (.type "function"))
    (F1 : FnOk X.prog X.w X.K X.mg X.base CX0 k fI fd ["self"] sp) (hr : Room (k + 1) X.A) (hb : Binds X.K fd ["self"] []) (hg : Gl X x) (hm : X.mg x = some (.ref C)) (hdb : (x == ("__debug__" : Str)) = false := by decide) :
    PMk X (.Call (.Name x p) [] [] pos) (fun _ H Q => ∀ a, H a = none → sp [.ref a] (upd H a (exo a C none)) (fun v H2 => v = .non ∧ H2 a = some (exo a C none) ∧ Q (.ref C) none (del H2 a)) (fun _ _ _ => False)) := by
  intro pins s σ H Q I h
  obtain ⟨nm, q, N, bs, bm, sn, sub, ab, col, dd, k0, k1, k2, k3, k5, hC, hbm⟩ := T.cls
  refine wpAny_Call_Name_kw (ld_glob I hg hm ?_ hdb)
  refine PySem.W.callWith_K0 I.kIn T.kC ?_
  show wpAny _ _ (call (.ref C) []) _ _ _
  obtain ⟨hp, g, dr, tk, os⟩ := s
  have hsz : hp.objs.size ≤ hp.objs.size + 1 := Nat.le_succ _
  have hq := h (hp.objs.size + 1) (I.hok.fresh hsz)
  have kk : ∀ b o, hp.get? b = some o → ((hp.push (PySem.W.kdv_tup [])).push (PySem.HandSPX.excO C hp.objs.size)).get? b = some o := fun b o e => Heap.get?_push_of_some _ (Heap.get?_push_of_some _ e)
  have hget : ((hp.push (PySem.W.kdv_tup [])).push (PySem.HandSPX.excO C hp.objs.size)).get? (hp.objs.size + 1) = some (PySem.HandSPX.excO C hp.objs.size) := by heap_get
  have I2 : Inv X pins σ (upd H (hp.objs.size + 1) (exo (hp.objs.size + 1) C none)) ⟨(hp.push (PySem.W.kdv_tup [])).push (PySem.HandSPX.excO C hp.objs.size), g, dr, tk, os⟩ :=
    I.laid (t' := tk) (a := hp.objs.size + 1) (o := exo (hp.objs.size + 1) C none) (h' := (hp.push (PySem.W.kdv_tup [])).push (PySem.HandSPX.excO C hp.objs.size)) kk hsz (exo_ok hget)
  have r2 : Vals [V.ref (hp.objs.size + 1)] [Value.ref (hp.objs.size + 1)] := .cons rfl .nil
  refine wpAny_call (PySem.HandSPX.call_own F.excBase_ValueError (fun Y => PySem.HandSPX.refsVE_contains Y bm hbm) (I.kIn _ _ hC) (PySem.W.looks_findIn I.kIn iC) (fun self => PySem.W.bind_fn I.kIn self tI) (by show 0 ≤ sizeLine; exact Nat.zero_le _)
    (codeAny_mono (F1.run _ X.stack _ _ ⟨[Value.ref (hp.objs.size + 1)], []⟩ [Value.ref (hp.objs.size + 1)] _ _ (fun _ _ _ => False) (hr.make C [] []) (I2.env0.make C [] []) (hb _ [Value.ref (hp.objs.size + 1)] I2.kIn rfl) r2 hq) fun r s' hq' => ?_))
  cases r with
  | error er => exact False.elim hq'
  | ok fl =>
    cases fl with
    | ret u =>
      obtain ⟨v, H2, os2, bare2, un2, hok2, rv, ev, ea, q2⟩ := hq'
      subst ev
      obtain ⟨h2, g2, d2, t2, os'⟩ := s'
      exact ⟨rv, mk_endN (raises_own T.exC T.tyC) I hsz kk un2 hok2 os2 bare2 ea q2⟩
    | next => exact False.elim hq'
    | brk => exact False.elim hq'
    | cont => exact False.elim hq'
end
/-- an error class without fields -/
structure ErrN (P : Program) (w : World) (K : PySem.W.Frag) (mg : Str → Option Value) (base : Heap) (x : Str) (C : Addr) : Prop where
  g : mg x = some (.ref C)
  oex : OexC K C
  ini : ∃ (fI : Addr) (fd : FuncData), PySem.W.findIn K (.ref C) "__init__" = some (some (.ref fI)) ∧ PySem.W.typeIn K (.ref fI) = some (.type "function") ∧ FnOk P w K mg base CX0 1 fI fd ["self"] (fun vs H Q _ => ∃ a : Addr, vs = [.ref a] ∧ Q .non H) ∧ Binds K fd ["self"] []
section
variable {X : Cx} {x : Str} {j : Nat} {C : Addr} {p pos : Pos}
theorem pmk_errN (D : ErrN X.prog X.w X.K X.mg X.base x C) (hr : Room j X.A) (hj : 2 ≤ j) (hg : Gl X x) (hdb : (x == ("__debug__" : Str)) = false := by decide) : PMk X (.Call (.Name x p) [] [] pos) (fun _ H Q => Q (.ref C) none H) := by
  obtain ⟨fI, fd, iC, tI, F1, b⟩ := D.ini
  intro pins s σ H Q I h
  exact pmk_oex0 D.oex iC tI F1 (hr.mono hj) b hg D.g hdb pins s σ H Q I fun a na => ⟨a, rfl, rfl, upd_same, by rw [del_new na]; exact h⟩
end
end Own

/-! own layer, of no law: OWNN: rounding as a fraction's. -/
namespace Own
open PySem PySem.Spec PyProof.Rows L2 LamX NdefX
theorem near_lo {n d : Int} (t : Str) : n / d ≤ near n d t := by
  unfold near
  split
  · exact Int.le_refl _
  · split <;> omega
theorem near_hi {n d : Int} (t : Str) : near n d t ≤ n / d + 1 := by
  unfold near
  split
  · omega
  · split <;> omega
theorem near_mul {k d : Int} (h : 0 < d) (t : Str) : near (k * d) d t = k := by
  unfold near
  rw [if_pos (Int.mul_emod_left k d), Int.mul_ediv_cancel _ (by omega)]
theorem goes_up_mono {z : Str} {b p p' : Int} (h : p ≤ p') (g : goesUp z b p = true) : goesUp z b p' = true := by
  unfold goesUp at g ⊢
  cases e : halvL.lookup z with
  | none =>
    rw [e] at g
    exact g
  | some y =>
    rw [e] at g
    dsimp only at g ⊢
    by_cases h1 : p = 0
    · rw [if_pos h1] at g
      by_cases h2 : p' = 0
      · rw [if_pos h2]
        exact g
      · rw [if_neg h2]
        exact decide_eq_true (by omega)
    · rw [if_neg h1] at g
      have h3 : 0 < p := of_decide_eq_true g
      rw [if_neg (by omega)]
      exact decide_eq_true (by omega)
/-- what goesUp asks of p is its sign alone -/
theorem goes_scale {z : Str} {b p c : Int} (hc : 0 < c) : goesUp z b (p * c) = goesUp z b p := by
  unfold goesUp
  cases e : halvL.lookup z with
  | none => rfl
  | some y =>
    dsimp only
    by_cases h : p = 0
    · subst h
      simp
    · have h1 : p * c ≠ 0 := Int.mul_ne_zero h (by omega)
      rw [if_neg h, if_neg h1]
      by_cases h2 : 0 < p
      · rw [decide_eq_true h2, decide_eq_true (Int.mul_pos h2 hc)]
      · have h3 : p * c < 0 := Int.mul_neg_of_neg_of_pos (by omega) hc
        rw [decide_eq_false h2, decide_eq_false (by omega)]
theorem near_scale {n d c : Int} (hd : 0 < d) (hc : 0 < c) (t : Str) : near (n * c) (d * c) t = near n d t := by
  have e1 : n * c / (d * c) = n / d := Int.mul_ediv_mul_of_pos_left n d hc
  have e2 : n * c % (d * c) = n % d * c := by
    rw [Int.emod_def, e1, Int.emod_def, Int.sub_mul]
    congr 1
    simp only [Int.mul_assoc, Int.mul_comm, Int.mul_left_comm]
  unfold near
  rw [e1, e2]
  by_cases h : n % d = 0
  · rw [if_pos h, if_pos (by rw [h, Int.zero_mul])]
  · rw [if_neg h, if_neg (Int.mul_ne_zero h (by omega))]
    have e3 : 2 * (n % d * c) - d * c = (2 * (n % d) - d) * c := by rw [Int.sub_mul, Int.mul_assoc]
    rw [e3, goes_scale hc]
/-- it hangs on the fraction alone -/
theorem near_ratio {n d n' d' : Int} (hd : 0 < d) (hd' : 0 < d') (h : n * d' = n' * d) (t : Str) : near n d t = near n' d' t := by
  rw [← near_scale (n := n) (d := d) hd hd' t, h, Int.mul_comm d d', near_scale hd' hd t]
theorem near_mono0 {n n' d : Int} (hd : 0 < d) (h : n ≤ n') (t : Str) : near n d t ≤ near n' d t := by
  have a : n / d ≤ n' / d := Int.ediv_le_ediv hd h
  by_cases e : n / d = n' / d
  · have r0 := Int.emod_nonneg n (show d ≠ 0 by omega)
    have r1 := Int.emod_lt_of_pos n hd
    have m := Int.emod_add_mul_ediv n d
    have m' := Int.emod_add_mul_ediv n' d
    rw [← e] at m'
    have hr : n % d ≤ n' % d := by omega
    by_cases h0 : n % d = 0
    · have z : near n d t = n / d := by
        unfold near
        rw [if_pos h0]
      rw [z, e]
      exact near_lo t
    · have hx : ¬ n' % d = 0 := by omega
      unfold near
      rw [if_neg h0, if_neg hx, ← e]
      by_cases g : goesUp t (n / d) (2 * (n % d) - d) = true
      · rw [if_pos g, if_pos (goes_up_mono (by omega) g)]
        exact Int.le_refl _
      · rw [if_neg g]
        split <;> omega
  · have z1 := near_hi (n := n) (d := d) t
    have z2 := near_lo (n := n') (d := d) t
    omega
theorem near_mono {n d n' d' : Int} (hd : 0 < d) (hd' : 0 < d') (h : n * d' ≤ n' * d) (t : Str) : near n d t ≤ near n' d' t := by
  rw [← near_scale (n := n) (d := d) hd hd' t, ← near_scale (n := n') (d := d') hd' hd t, Int.mul_comm d' d]
  exact near_mono0 (Int.mul_pos hd hd') h t
theorem near_nat {n d : Int} (hd : 0 < d) (t : Str) : (near n d t).natAbs ≤ n.natAbs + 1 := by
  have a := near_lo (n := n) (d := d) t
  have b := near_hi (n := n) (d := d) t
  have c := Int.natAbs_ediv_le_natAbs n d
  omega
/-- what a rounded number keeps to -/
def absZ (u : Int) : Int := if u < 0 then -u else u
def keepP (off : Int) (nr fr : Bool) : List (Str × V) := [("floor", .bl (decide (off < 0))), ("ceiling", .bl (decide (off > 0))), ("cut", .bl nr), ("away", .bl fr)]
def keepH (off : Int) (nr fr ev : Bool) : List (Str × V) := [("halfup", .bl (decide (off > 0))), ("halfdown", .bl (decide (off < 0))), ("halfeven", .bl ev), ("halfaway", .bl fr), ("halfcut", .bl nr)]
theorem keep_ok {n d : Int} (h0 : 0 < d) (hr : n % d ≠ 0) {z : Str} (hz : z ∈ waysL) : absZ (near n d z * d - n) < d ∧
    (∀ v, (keepP (near n d z * d - n) (decide (absZ (near n d z) * d < absZ n)) (decide (absZ (near n d z) * d > absZ n))).lookup z = some v → v = .bl true) ∧
    ((keepP (near n d z * d - n) (decide (absZ (near n d z) * d < absZ n)) (decide (absZ (near n d z) * d > absZ n))).lookup z = none → (2 * absZ (near n d z * d - n) ≠ d → 2 * absZ (near n d z * d - n) < d) ∧
      (2 * absZ (near n d z * d - n) = d → (keepH (near n d z * d - n) (decide (absZ (near n d z) * d < absZ n)) (decide (absZ (near n d z) * d > absZ n)) (decide (near n d z % 2 = 0))).lookup z = some (.bl true))) := by
  have r0 := Int.emod_nonneg n (show d ≠ 0 by omega)
  have r1 := Int.emod_lt_of_pos n h0
  have em := Int.emod_add_mul_ediv n d
  have eu : near n d z = if goesUp z (n / d) (2 * (n % d) - d) = true then n / d + 1 else n / d := by
    unfold near
    rw [if_neg hr]
  rw [eu]
  generalize n / d = q at em ⊢
  generalize n % d = r at hr r0 r1 em ⊢
  have em2 : q * d = n - r := by rw [Int.mul_comm]; omega
  have e1 : (q + 1) * d = n - r + d := by rw [Int.add_mul, em2, Int.one_mul]
  have e2 : -q * d = r - n := by rw [Int.neg_mul, em2]; omega
  have e3 : -(q + 1) * d = r - n - d := by rw [Int.neg_mul, e1]; omega
  have sg : (0 ≤ q ∧ 0 < n) ∨ (q < 0 ∧ n < 0) := by
    by_cases h : 0 ≤ q
    · have := Int.mul_nonneg h (Int.le_of_lt h0)
      exact .inl ⟨h, by omega⟩
    · have h2 : (q + 1) * d ≤ 0 := by
        have := Int.mul_nonneg (show 0 ≤ -(q + 1) by omega) (Int.le_of_lt h0)
        rw [Int.neg_mul] at this
        omega
      exact .inr ⟨by omega, by omega⟩
  -- the four numbers, up or not
  have up1 : ∀ b : Bool, (if b = true then q + 1 else q) * d - n = if b = true then d - r else -r := fun b => by cases b <;> simp <;> omega
  have up2 : ∀ b : Bool, absZ (if b = true then d - r else -r) = if b = true then d - r else r := fun b => by
    unfold absZ
    cases b <;> simp <;> omega
  have up3 : ∀ b : Bool, decide (absZ (if b = true then q + 1 else q) * d < absZ n) = (if b = true then decide (q < 0) else decide (0 ≤ q)) ∧ decide (absZ (if b = true then q + 1 else q) * d > absZ n) = (if b = true then decide (0 ≤ q) else decide (q < 0)) := fun b => by
    unfold absZ
    rcases sg with ⟨a, c⟩ | ⟨a, c⟩
    · cases b
      · simp only [Bool.false_eq_true, if_false]
        rw [if_neg (by omega), if_neg (by omega), em2, decide_eq_true (show n - r < n by omega), decide_eq_false (show ¬ n - r > n by omega), decide_eq_true a, decide_eq_false (by omega)]
        exact ⟨rfl, rfl⟩
      · simp only [if_true]
        rw [if_neg (by omega), if_neg (by omega), e1, decide_eq_false (show ¬ n - r + d < n by omega), decide_eq_true (show n - r + d > n by omega), decide_eq_true a, decide_eq_false (by omega)]
        exact ⟨rfl, rfl⟩
    · cases b
      · simp only [Bool.false_eq_true, if_false]
        rw [if_pos a, if_pos c, e2, decide_eq_false (show ¬ r - n < -n by omega), decide_eq_true (show r - n > -n by omega), decide_eq_true a, decide_eq_false (by omega)]
        exact ⟨rfl, rfl⟩
      · simp only [if_true]
        have e4 : (if q + 1 < 0 then -(q + 1) else q + 1) * d = r - n - d := by
          split
          · exact e3
          · have : q + 1 = 0 := by omega
            rw [this] at e1 ⊢
            omega
        rw [if_pos c, e4, decide_eq_true (show r - n - d < -n by omega), decide_eq_false (show ¬ r - n - d > -n by omega), decide_eq_true a, decide_eq_false (by omega)]
        exact ⟨rfl, rfl⟩
  generalize hb : goesUp z q (2 * r - d) = b
  rw [up1, (up3 b).1, (up3 b).2, up2]
  clear up1 up2 up3 eu e1 e2 e3 em em2
  refine ⟨by cases b <;> simp <;> omega, ?_⟩
  rcases way_cases hz with rfl | rfl | rfl | rfl | rfl | rfl | rfl | rfl | rfl
  · rw [goes_none (k := 4) (by decide +kernel) (by decide +kernel)] at hb
    subst hb
    refine ⟨fun v e => ?_, fun e => by cases (show some _ = none from e)⟩
    have e' := Option.some.inj e
    rw [← e']
    simp [kUp]
    omega
  · rw [goes_none (k := 3) (by decide +kernel) (by decide +kernel)] at hb
    subst hb
    refine ⟨fun v e => ?_, fun e => by cases (show some _ = none from e)⟩
    have e' := Option.some.inj e
    rw [← e']
    simp [kUp]
    omega
  · rw [goes_none (k := 1) (by decide +kernel) (by decide +kernel)] at hb
    subst hb
    refine ⟨fun v e => ?_, fun e => by cases (show some _ = none from e)⟩
    have e' := Option.some.inj e
    rw [← e']
    rcases sg with ⟨a, c⟩ | ⟨a, c⟩
    all_goals (simp [kUp] <;> omega)
  · rw [goes_none (k := 2) (by decide +kernel) (by decide +kernel)] at hb
    subst hb
    refine ⟨fun v e => ?_, fun e => by cases (show some _ = none from e)⟩
    have e' := Option.some.inj e
    rw [← e']
    rcases sg with ⟨a, c⟩ | ⟨a, c⟩
    all_goals (simp [kUp] <;> omega)
  · rw [goes_some (y := "ceiling") (k := 3) (by decide +kernel) (by decide +kernel)] at hb
    refine ⟨fun v e => (by cases (show none = some v from e)), fun _ => ⟨fun hn => ?_, fun he => ?_⟩⟩
    · by_cases g : 2 * r - d = 0
      · exact absurd (show 2 * (if b = true then d - r else r) = d by cases b <;> simp <;> omega) hn
      · rw [if_neg g] at hb
        subst hb
        by_cases g2 : 0 < 2 * r - d
        · rw [decide_eq_true g2, if_pos rfl]
          omega
        · rw [decide_eq_false g2, if_neg (by decide)]
          omega
    · have g : 2 * r - d = 0 := by cases b <;> simp at he <;> omega
      rw [if_pos g] at hb
      subst hb
      refine congrArg some (congrArg V.bl ?_)
      simp only [kUp]
      rcases sg with ⟨a, c⟩ | ⟨a, c⟩
      all_goals (simp <;> (repeat split) <;> omega)
  · rw [goes_some (y := "floor") (k := 4) (by decide +kernel) (by decide +kernel)] at hb
    refine ⟨fun v e => (by cases (show none = some v from e)), fun _ => ⟨fun hn => ?_, fun he => ?_⟩⟩
    · by_cases g : 2 * r - d = 0
      · exact absurd (show 2 * (if b = true then d - r else r) = d by cases b <;> simp <;> omega) hn
      · rw [if_neg g] at hb
        subst hb
        by_cases g2 : 0 < 2 * r - d
        · rw [decide_eq_true g2, if_pos rfl]
          omega
        · rw [decide_eq_false g2, if_neg (by decide)]
          omega
    · have g : 2 * r - d = 0 := by cases b <;> simp at he <;> omega
      rw [if_pos g] at hb
      subst hb
      refine congrArg some (congrArg V.bl ?_)
      simp only [kUp]
      rcases sg with ⟨a, c⟩ | ⟨a, c⟩
      all_goals (simp <;> (repeat split) <;> omega)
  · rw [goes_some (y := "even") (k := 0) (by decide +kernel) (by decide +kernel)] at hb
    refine ⟨fun v e => (by cases (show none = some v from e)), fun _ => ⟨fun hn => ?_, fun he => ?_⟩⟩
    · by_cases g : 2 * r - d = 0
      · exact absurd (show 2 * (if b = true then d - r else r) = d by cases b <;> simp <;> omega) hn
      · rw [if_neg g] at hb
        subst hb
        by_cases g2 : 0 < 2 * r - d
        · rw [decide_eq_true g2, if_pos rfl]
          omega
        · rw [decide_eq_false g2, if_neg (by decide)]
          omega
    · have g : 2 * r - d = 0 := by cases b <;> simp at he <;> omega
      rw [if_pos g] at hb
      subst hb
      refine congrArg some (congrArg V.bl ?_)
      simp only [kUp]
      rcases sg with ⟨a, c⟩ | ⟨a, c⟩
      all_goals (simp <;> (repeat split) <;> omega)
  · rw [goes_some (y := "away") (k := 2) (by decide +kernel) (by decide +kernel)] at hb
    refine ⟨fun v e => (by cases (show none = some v from e)), fun _ => ⟨fun hn => ?_, fun he => ?_⟩⟩
    · by_cases g : 2 * r - d = 0
      · exact absurd (show 2 * (if b = true then d - r else r) = d by cases b <;> simp <;> omega) hn
      · rw [if_neg g] at hb
        subst hb
        by_cases g2 : 0 < 2 * r - d
        · rw [decide_eq_true g2, if_pos rfl]
          omega
        · rw [decide_eq_false g2, if_neg (by decide)]
          omega
    · have g : 2 * r - d = 0 := by cases b <;> simp at he <;> omega
      rw [if_pos g] at hb
      subst hb
      refine congrArg some (congrArg V.bl ?_)
      simp only [kUp]
      rcases sg with ⟨a, c⟩ | ⟨a, c⟩
      all_goals (simp <;> (repeat split) <;> omega)
  · rw [goes_some (y := "cut") (k := 1) (by decide +kernel) (by decide +kernel)] at hb
    refine ⟨fun v e => (by cases (show none = some v from e)), fun _ => ⟨fun hn => ?_, fun he => ?_⟩⟩
    · by_cases g : 2 * r - d = 0
      · exact absurd (show 2 * (if b = true then d - r else r) = d by cases b <;> simp <;> omega) hn
      · rw [if_neg g] at hb
        subst hb
        by_cases g2 : 0 < 2 * r - d
        · rw [decide_eq_true g2, if_pos rfl]
          omega
        · rw [decide_eq_false g2, if_neg (by decide)]
          omega
    · have g : 2 * r - d = 0 := by cases b <;> simp at he <;> omega
      rw [if_pos g] at hb
      subst hb
      refine congrArg some (congrArg V.bl ?_)
      simp only [kUp]
      rcases sg with ⟨a, c⟩ | ⟨a, c⟩
      all_goals (simp <;> (repeat split) <;> omega)
end Own

/-! own layer, of no law: OWNS: running totals that are rounded at each step. -/
namespace Own
open PySem PySem.Spec PyProof.Rows L2 LamX NdefX
/-- the running total behind one entry of x parts: U parts are a unit -/
def stp (U x : Int) (t : Str) (s : Int) : Int := near (s * U + x) U t
/-- behind so many of them -/
def run (U x : Int) (t : Str) : Nat → Int → Int
  | 0, s => s
  | n + 1, s => run U x t n (stp U x t s)
theorem run_snoc (U x : Int) (t : Str) : ∀ (n : Nat) (s : Int), run U x t (n + 1) s = stp U x t (run U x t n s)
  | 0, _ => rfl
  | n + 1, s => run_snoc U x t n (stp U x t s)
theorem run_add (U x : Int) (t : Str) : ∀ (m n : Nat) (s : Int), run U x t (m + n) s = run U x t n (run U x t m s)
  | 0, n, s => by rw [Nat.zero_add]; rfl
  | m + 1, n, s => by
    rw [show m + 1 + n = (m + n) + 1 by omega]
    exact run_add U x t m n (stp U x t s)
/-- whether what an entry adds hangs on the total -/
def looseL1 : List Str := ["cut", "away"]
def looseL2 : List Str := ["halfeven", "halfaway", "halfcut"]
def isLoose (U x : Int) (t : Str) : Bool := (decide (t ∈ looseL1) && decide (x % U ≠ 0)) || (decide (t ∈ looseL2) && decide (2 * (x % U) = U))
section
variable {U x s : Int} {t : Str}
theorem stp_div (h : 0 < U) : (s * U + x) / U = s + x / U := by
  rw [Int.add_comm (s * U) x, Int.add_mul_ediv_right _ _ (by omega)]
  omega
theorem stp_mod : (s * U + x) % U = x % U := by
  rw [Int.add_comm (s * U) x, Int.add_mul_emod_self_right]
theorem stp_eq (h : 0 < U) : stp U x t s = if x % U = 0 then s + x / U else if goesUp t (s + x / U) (2 * (x % U) - U) = true then s + x / U + 1 else s + x / U := by
  unfold stp near
  rw [stp_mod, stp_div h]
/-- one that is not loose adds its own rounded worth -/
theorem stp_tight (h : 0 < U) (ht : t ∈ waysL) (n : isLoose U x t = false) : stp U x t s = s + near x U t := by
  rw [stp_eq h]
  unfold near
  by_cases r : x % U = 0
  · rw [if_pos r, if_pos r]
  rw [if_neg r, if_neg r]
  have tie : t ∈ looseL2 → 2 * (x % U) - U ≠ 0 := fun m z => by
    unfold isLoose at n
    rw [decide_eq_true m, decide_eq_true (show 2 * (x % U) = U by omega)] at n
    simp at n
  have same : goesUp t (s + x / U) (2 * (x % U) - U) = goesUp t (x / U) (2 * (x % U) - U) := by
    have big : 2 * (x % U) = U ∨ 2 * (x % U) - U ≠ 0 := by omega
    rcases way_cases ht with rfl | rfl | rfl | rfl | rfl | rfl | rfl | rfl | rfl
    · rw [goes_none (k := 4) (by decide +kernel) (by decide +kernel), goes_none (k := 4) (by decide +kernel) (by decide +kernel)]; rfl
    · rw [goes_none (k := 3) (by decide +kernel) (by decide +kernel), goes_none (k := 3) (by decide +kernel) (by decide +kernel)]; rfl
    · exfalso
      have e : isLoose U x "cut" = true := by
        unfold isLoose
        rw [decide_eq_true (show ("cut" : Str) ∈ looseL1 by decide +kernel), decide_eq_true r]
        rfl
      rw [e] at n
      cases n
    · exfalso
      have e : isLoose U x "away" = true := by
        unfold isLoose
        rw [decide_eq_true (show ("away" : Str) ∈ looseL1 by decide +kernel), decide_eq_true r]
        rfl
      rw [e] at n
      cases n
    · rw [goes_some (k := 3) (y := "ceiling") (by decide +kernel) (by decide +kernel), goes_some (k := 3) (y := "ceiling") (by decide +kernel) (by decide +kernel)]; rfl
    · rw [goes_some (k := 4) (y := "floor") (by decide +kernel) (by decide +kernel), goes_some (k := 4) (y := "floor") (by decide +kernel) (by decide +kernel)]; rfl
    all_goals have z : 2 * (x % U) - U ≠ 0 := tie (by decide +kernel)
    · rw [goes_some (k := 0) (y := "even") (by decide +kernel) (by decide +kernel), goes_some (k := 0) (y := "even") (by decide +kernel) (by decide +kernel), if_neg z, if_neg z]
    · rw [goes_some (k := 2) (y := "away") (by decide +kernel) (by decide +kernel), goes_some (k := 2) (y := "away") (by decide +kernel) (by decide +kernel), if_neg z, if_neg z]
    · rw [goes_some (k := 1) (y := "cut") (by decide +kernel) (by decide +kernel), goes_some (k := 1) (y := "cut") (by decide +kernel) (by decide +kernel), if_neg z, if_neg z]
  rw [same]
  split <;> omega
theorem run_tight (h : 0 < U) (ht : t ∈ waysL) (n : isLoose U x t = false) : ∀ (m : Nat) (s : Int), run U x t m s = s + near x U t * m
  | 0, s => by show s = _; simp
  | m + 1, s => by
    rw [run_snoc, run_tight h ht n m s, stp_tight h ht n]
    rw [show ((m + 1 : Nat) : Int) = (m : Int) + 1 by omega, Int.mul_add, Int.mul_one]
    omega
/-! ### halfeven -/
theorem loose_even (l : isLoose U x "halfeven" = true) : 2 * (x % U) = U := by
  unfold isLoose at l
  by_cases z : 2 * (x % U) = U
  · exact z
  · rw [decide_eq_false z, decide_eq_false (show ¬ ("halfeven" : Str) ∈ looseL1 by decide +kernel)] at l
    simp at l
theorem stp_even (h : 0 < U) (l : isLoose U x "halfeven" = true) (s : Int) : stp U x "halfeven" s = s + x / U + (s + x / U) % 2 := by
  have z := loose_even l
  rw [stp_eq h, if_neg (by omega), goes_some (k := 0) (y := "even") (by decide +kernel) (by decide +kernel), if_pos (show 2 * (x % U) - U = 0 by omega)]
  show (if decide ((s + x / U) % 2 = 1) = true then _ else _) = _
  by_cases e : (s + x / U) % 2 = 1
  · rw [if_pos (decide_eq_true e)]
    omega
  · rw [if_neg (fun y => e (of_decide_eq_true y))]
    omega
theorem run_even (h : 0 < U) (l : isLoose U x "halfeven" = true) : ∀ (m : Nat) (s : Int), run U x "halfeven" (m + 1) s = s + x / U + (s + x / U) % 2 + (x / U + x / U % 2) * m ∧ run U x "halfeven" (m + 1) s % 2 = 0
  | 0, s => by
    have e : run U x "halfeven" (0 + 1) s = s + x / U + (s + x / U) % 2 := stp_even h l s
    rw [e]
    refine ⟨by simp, by omega⟩
  | m + 1, s => by
    obtain ⟨a, b⟩ := run_even h l m s
    rw [run_snoc, stp_even h l]
    have e : (x / U + x / U % 2) * ((m + 1 : Nat) : Int) = (x / U + x / U % 2) * (m : Int) + (x / U + x / U % 2) := by
      rw [show ((m + 1 : Nat) : Int) = (m : Int) + 1 by omega, Int.mul_add, Int.mul_one]
    rw [e]
    generalize run U x "halfeven" (m + 1) s = r at a b
    generalize (x / U + x / U % 2) * (m : Int) = y at a
    refine ⟨by omega, by omega⟩
/-! ### cut, away, halfaway, halfcut -/
/-- what such an entry adds, ahead of where the total would be if it were rounded down -/
def addS (F : Int) (t : Str) (ahead : Int) : Int := if decide (0 ≤ ahead) = decide (t = "cut" ∨ t = "halfcut") then F else F + 1
theorem addS_cong {F a b : Int} {t : Str} (h : 0 ≤ a ↔ 0 ≤ b) : addS F t a = addS F t b := by
  unfold addS
  rw [decide_eq_decide.mpr h]
theorem stp_side (h : 0 < U) (ht : t ∈ waysL) (l : isLoose U x t = true) (ne : t ≠ "halfeven") (s : Int) : stp U x t s = s + addS (x / U) t (s + x / U) := by
  have r : x % U ≠ 0 := by
    intro z
    unfold isLoose at l
    rw [z] at l
    simp at l
    omega
  rw [stp_eq h, if_neg r]
  generalize x / U = F
  have fin : ∀ (up : Bool), up = !decide (decide (0 ≤ s + F) = decide (t = "cut" ∨ t = "halfcut")) → (if up = true then s + F + 1 else s + F) = s + addS F t (s + F) := fun up e => by
    unfold addS
    by_cases c : decide (0 ≤ s + F) = decide (t = "cut" ∨ t = "halfcut")
    · rw [if_pos c, e, decide_eq_true c, if_neg (by decide)]
    · rw [if_neg c, e, decide_eq_false c, if_pos (by decide)]
      omega
  have bool : ∀ a b : Bool, (!decide (a = b)) = (a != b) := by decide
  have neg : decide (s + F < 0) = !decide (0 ≤ s + F) := by
    by_cases c : s + F < 0
    · rw [decide_eq_true c, decide_eq_false (by omega)]; rfl
    · rw [decide_eq_false c, decide_eq_true (by omega)]; rfl
  have half : t ∈ looseL2 → 2 * (x % U) - U = 0 := fun m => by
    have n1 : ¬ t ∈ looseL1 := by
      intro y
      simp only [looseL1, looseL2, List.mem_cons, List.not_mem_nil, or_false] at y m
      rcases y with rfl | rfl <;> revert m <;> decide +kernel
    unfold isLoose at l
    rw [decide_eq_false n1] at l
    by_cases z : 2 * (x % U) = U
    · omega
    · rw [decide_eq_false z] at l
      simp at l
  have none : ¬ t ∈ looseL1 → ¬ t ∈ looseL2 → False := fun a b => by
    unfold isLoose at l
    rw [decide_eq_false a, decide_eq_false b] at l
    simp at l
  refine fin _ ?_
  rw [bool]
  rcases way_cases ht with rfl | rfl | rfl | rfl | rfl | rfl | rfl | rfl | rfl
  · exact (none (by decide +kernel) (by decide +kernel)).elim
  · exact (none (by decide +kernel) (by decide +kernel)).elim
  · rw [goes_none (k := 1) (by decide +kernel) (by decide +kernel)]
    show decide (s + F < 0) = _
    rw [neg, decide_eq_true (show ("cut" : Str) = "cut" ∨ ("cut" : Str) = "halfcut" from .inl rfl)]
    cases decide (0 ≤ s + F) <;> rfl
  · rw [goes_none (k := 2) (by decide +kernel) (by decide +kernel)]
    show decide (0 ≤ s + F) = _
    rw [decide_eq_false (show ¬ (("away" : Str) = "cut" ∨ ("away" : Str) = "halfcut") by decide +kernel)]
    cases decide (0 ≤ s + F) <;> rfl
  · exact (none (by decide +kernel) (by decide +kernel)).elim
  · exact (none (by decide +kernel) (by decide +kernel)).elim
  · exact absurd rfl ne
  · rw [goes_some (k := 2) (y := "away") (by decide +kernel) (by decide +kernel), if_pos (half (by decide +kernel))]
    show decide (0 ≤ s + F) = _
    rw [decide_eq_false (show ¬ (("halfaway" : Str) = "cut" ∨ ("halfaway" : Str) = "halfcut") by decide +kernel)]
    cases decide (0 ≤ s + F) <;> rfl
  · rw [goes_some (k := 1) (y := "cut") (by decide +kernel) (by decide +kernel), if_pos (half (by decide +kernel))]
    show decide (s + F < 0) = _
    rw [neg, decide_eq_true (show ("halfcut" : Str) = "cut" ∨ ("halfcut" : Str) = "halfcut" from .inr rfl)]
    cases decide (0 ≤ s + F) <;> rfl
/-- how many steps stay on one side -/
def sideN (ahead added times : Int) : Int :=
  if 0 ≤ ahead then (if 0 ≤ added then times else ahead / (-added) + 1) else (if added ≤ 0 then times else (added - 1 - ahead) / added)
theorem side_pos {ahead added times : Int} (h : 0 < times) : 0 < sideN ahead added times := by
  unfold sideN
  split
  · split
    · exact h
    · have := Int.ediv_nonneg (show 0 ≤ ahead by assumption) (show 0 ≤ -added by omega)
      omega
  · split
    · exact h
    · have a0 : 0 < added := by omega
      have e : (added - 1 - ahead) = (-1 - ahead) + 1 * added := by omega
      rw [e, Int.add_mul_ediv_right _ _ (by omega)]
      have := Int.ediv_nonneg (show 0 ≤ -1 - ahead by omega) (show 0 ≤ added by omega)
      omega
/-- so many steps as sideN tells, each adds the same -/
theorem side_stays {ahead added times : Int} {j : Nat} (h : (j : Int) < sideN ahead added times) : (0 ≤ ahead + added * j ↔ 0 ≤ ahead) := by
  unfold sideN at h
  have j0 : (0 : Int) ≤ j := by omega
  split at h
  · rename_i a
    split at h
    · rename_i b
      have := Int.mul_nonneg b j0
      constructor <;> intro _ <;> omega
    · rename_i b
      have z : (j : Int) ≤ ahead / (-added) := by omega
      have y := (Int.le_ediv_iff_mul_le (show 0 < -added by omega)).mp z
      rw [Int.mul_neg, Int.mul_comm] at y
      constructor <;> intro _ <;> omega
  · rename_i a
    split at h
    · rename_i b
      have := Int.mul_nonneg (show 0 ≤ -added by omega) j0
      rw [Int.neg_mul] at this
      constructor <;> intro _ <;> omega
    · rename_i b
      have z : (j : Int) + 1 ≤ (added - 1 - ahead) / added := by omega
      have y := (Int.le_ediv_iff_mul_le (show 0 < added by omega)).mp z
      rw [Int.add_mul, Int.one_mul, Int.mul_comm] at y
      constructor <;> intro _ <;> omega
theorem run_side (h : 0 < U) (ht : t ∈ waysL) (l : isLoose U x t = true) (ne : t ≠ "halfeven") (s : Int) : ∀ m : Nat, ((m : Int) ≤ sideN (s + x / U) (addS (x / U) t (s + x / U)) m ∨ ∃ T, (m : Int) ≤ sideN (s + x / U) (addS (x / U) t (s + x / U)) T) →
    run U x t m s = s + addS (x / U) t (s + x / U) * m
  | 0, _ => by show s = _; simp
  | m + 1, hm => by
    have hT : ∃ T, ((m + 1 : Nat) : Int) ≤ sideN (s + x / U) (addS (x / U) t (s + x / U)) T := hm.elim (fun z => ⟨_, z⟩) id
    obtain ⟨T, hT⟩ := hT
    have ih := run_side h ht l ne s m (.inr ⟨T, by omega⟩)
    rw [run_snoc, ih, stp_side h ht l ne]
    have st := side_stays (j := m) (show (m : Int) < sideN (s + x / U) (addS (x / U) t (s + x / U)) T by omega)
    have e : addS (x / U) t (s + addS (x / U) t (s + x / U) * (m : Int) + x / U) = addS (x / U) t (s + x / U) := addS_cong (by
      rw [show s + addS (x / U) t (s + x / U) * (m : Int) + x / U = s + x / U + addS (x / U) t (s + x / U) * (m : Int) by omega]
      exact st)
    rw [e, show ((m + 1 : Nat) : Int) = (m : Int) + 1 by omega, Int.mul_add, Int.mul_one]
    omega
end
end Own

/-! own layer, of no law: OWNU: what rounding comes to, way by way. -/
namespace Own
open PySem PySem.Spec PyProof.Rows L2 LamX NdefX
theorem low_neg {n d : Int} (h : 0 < d) (r : n % d ≠ 0) : (n / d < 0 ↔ n < 0) ∧ (0 ≤ n / d ↔ ¬ n < 0) := by
  have e := Int.emod_add_mul_ediv n d
  have r0 := Int.emod_nonneg n (show d ≠ 0 by omega)
  have r1 := Int.emod_lt_of_pos n h
  have a : n / d < 0 → n < 0 := fun z => Int.lt_of_not_ge fun y => by
    have := Int.ediv_nonneg y (Int.le_of_lt h)
    omega
  have b : 0 ≤ n / d → ¬ n < 0 := fun z => by
    have y := Int.mul_nonneg (Int.le_of_lt h) z
    omega
  constructor
  · exact ⟨a, fun z => Int.lt_of_not_ge fun y => b y z⟩
  · exact ⟨b, fun z => Int.le_of_not_gt fun y => z (a y)⟩
theorem near_zero {n d : Int} {t : Str} (r : n % d = 0) : near n d t = n / d := by
  unfold near
  rw [if_pos r]
theorem near_up {n d : Int} {t : Str} (r : n % d ≠ 0) : near n d t = n / d + (if goesUp t (n / d) (2 * (n % d) - d) = true then 1 else 0) := by
  unfold near
  rw [if_neg r]
  split <;> omega
theorem near_down {n d : Int} : near n d "floor" = n / d := by
  by_cases r : n % d = 0
  · exact near_zero r
  · rw [near_up r, goes_none (k := 4) (by decide +kernel) (by decide +kernel)]
    show n / d + (if false = true then 1 else 0) = n / d
    rw [if_neg (by decide)]
    omega
theorem near_ceil {n d : Int} (r : n % d ≠ 0) : near n d "ceiling" = n / d + 1 := by
  rw [near_up r, goes_none (k := 3) (by decide +kernel) (by decide +kernel)]
  rfl
/-- 1 where the two are alike, as int() tells it -/
def alk (a b : Bool) : Int := if (decide (a = b)) = true then 1 else 0
theorem near_side {n d : Int} {t : Str} (h : 0 < d) (r : n % d ≠ 0) (ht : t = "cut" ∨ t = "away") : near n d t = n / d + alk (decide (n < 0)) (decide (t = "cut")) := by
  obtain ⟨a, b⟩ := low_neg h r
  rw [near_up r]
  rcases ht with rfl | rfl
  · rw [goes_none (k := 1) (by decide +kernel) (by decide +kernel), decide_eq_true (rfl : ("cut" : Str) = "cut")]
    show n / d + (if decide (n / d < 0) = true then 1 else 0) = _
    rw [decide_eq_decide.mpr a]
    unfold alk
    cases decide (n < 0) <;> rfl
  · rw [goes_none (k := 2) (by decide +kernel) (by decide +kernel), decide_eq_false (show ¬ ("away" : Str) = "cut" by decide +kernel)]
    show n / d + (if decide (0 ≤ n / d) = true then 1 else 0) = _
    rw [decide_eq_decide.mpr b]
    unfold alk
    by_cases z : n < 0
    · rw [decide_eq_true z, decide_eq_false (fun y => y z)]
      rfl
    · rw [decide_eq_false z, decide_eq_true z]
      rfl
theorem near_off {n d : Int} {t : Str} (r : n % d ≠ 0) (ht : t ∈ waysL) (h1 : t ≠ "floor") (h2 : t ≠ "ceiling") (h3 : ¬ (t = "cut" ∨ t = "away")) (p : 2 * (n % d) ≠ d) : near n d t = n / d + (if decide (2 * (n % d) > d) = true then 1 else 0) := by
  obtain ⟨y, hy⟩ : ∃ y, halvL.lookup t = some y := by
    rcases way_cases ht with rfl | rfl | rfl | rfl | rfl | rfl | rfl | rfl | rfl
    · exact absurd rfl h1
    · exact absurd rfl h2
    · exact absurd (.inl rfl) h3
    · exact absurd (.inr rfl) h3
    all_goals exact ⟨_, rfl⟩
  rw [near_up r, goes_some (k := baseK y) hy rfl, if_neg (show ¬ 2 * (n % d) - d = 0 by omega), decide_eq_decide.mpr (show 0 < 2 * (n % d) - d ↔ 2 * (n % d) > d by omega)]
theorem near_even {n d : Int} (r : n % d ≠ 0) (p : 2 * (n % d) = d) : near n d "halfeven" = n / d + n / d % 2 := by
  rw [near_up r, goes_some (k := 0) (y := "even") (by decide +kernel) (by decide +kernel), if_pos (show 2 * (n % d) - d = 0 by omega)]
  show n / d + (if decide (n / d % 2 = 1) = true then 1 else 0) = _
  by_cases y : n / d % 2 = 1
  · rw [decide_eq_true y, if_pos rfl]
    omega
  · rw [decide_eq_false y, if_neg (by decide)]
    omega
theorem near_updn {n d : Int} {t : Str} (r : n % d ≠ 0) (p : 2 * (n % d) = d) (ht : t = "halfup" ∨ t = "halfdown") : near n d t = n / d + (if decide (t = "halfup") = true then 1 else 0) := by
  have z : 2 * (n % d) - d = 0 := by omega
  rw [near_up r]
  rcases ht with rfl | rfl
  · rw [goes_some (k := 3) (y := "ceiling") (by decide +kernel) (by decide +kernel), if_pos z, decide_eq_true (rfl : ("halfup" : Str) = "halfup")]
    rfl
  · rw [goes_some (k := 4) (y := "floor") (by decide +kernel) (by decide +kernel), if_pos z, decide_eq_false (show ¬ ("halfdown" : Str) = "halfup" by decide +kernel)]
    rfl
theorem near_tied {n d : Int} {t : Str} (h : 0 < d) (r : n % d ≠ 0) (p : 2 * (n % d) = d) (ht : t = "halfcut" ∨ t = "halfaway") : near n d t = n / d + alk (decide (n < 0)) (decide (t = "halfcut")) := by
  obtain ⟨a, b⟩ := low_neg h r
  have z : 2 * (n % d) - d = 0 := by omega
  rw [near_up r]
  rcases ht with rfl | rfl
  · rw [goes_some (k := 1) (y := "cut") (by decide +kernel) (by decide +kernel), if_pos z, decide_eq_true (rfl : ("halfcut" : Str) = "halfcut")]
    show n / d + (if decide (n / d < 0) = true then 1 else 0) = _
    rw [decide_eq_decide.mpr a]
    unfold alk
    cases decide (n < 0) <;> rfl
  · rw [goes_some (k := 2) (y := "away") (by decide +kernel) (by decide +kernel), if_pos z, decide_eq_false (show ¬ ("halfaway" : Str) = "halfcut" by decide +kernel)]
    show n / d + (if decide (0 ≤ n / d) = true then 1 else 0) = _
    rw [decide_eq_decide.mpr b]
    unfold alk
    by_cases z : n < 0
    · rw [decide_eq_true z, decide_eq_false (fun y => y z)]
      rfl
    · rw [decide_eq_false z, decide_eq_true z]
      rfl
theorem last_two {t : Str} (ht : t ∈ waysL) (h1 : t ≠ "floor") (h2 : t ≠ "ceiling") (h3 : ¬ (t = "cut" ∨ t = "away")) (h4 : t ≠ "halfeven") (h5 : ¬ (t = "halfup" ∨ t = "halfdown")) : t = "halfcut" ∨ t = "halfaway" := by
  rcases way_cases ht with rfl | rfl | rfl | rfl | rfl | rfl | rfl | rfl | rfl
  · exact absurd rfl h1
  · exact absurd rfl h2
  · exact absurd (.inl rfl) h3
  · exact absurd (.inr rfl) h3
  · exact absurd (.inl rfl) h5
  · exact absurd (.inr rfl) h5
  · exact absurd rfl h4
  · exact .inr rfl
  · exact .inl rfl
/-- single entries, one behind the other -/
def runL (U : Int) (t : Str) (xs : List Int) (s : Int) : Int := xs.foldl (fun s x => stp U x t s) s
theorem runL_app (U : Int) (t : Str) (xs ys : List Int) (s : Int) : runL U t (xs ++ ys) s = runL U t ys (runL U t xs s) := by
  unfold runL
  rw [List.foldl_append]
theorem runL_rep (U x : Int) (t : Str) : ∀ (k : Nat) (s : Int), runL U t (List.replicate k x) s = run U x t k s
  | 0, _ => rfl
  | k + 1, s => runL_rep U x t k (stp U x t s)
theorem stp_zero {U s : Int} {t : Str} (h : 0 < U) : stp U 0 t s = s := by
  rw [stp_eq h, Int.zero_emod, if_pos rfl, Int.zero_ediv]
  omega
theorem run_zero {U : Int} {t : Str} (h : 0 < U) : ∀ (k : Nat) (s : Int), run U 0 t k s = s
  | 0, _ => rfl
  | k + 1, s => by
    show run U 0 t k (stp U 0 t s) = s
    rw [stp_zero h]
    exact run_zero h k s
end Own

/-! own layer, of no law: OWNG: how far a running total is from the total of what is rounded alone. -/
namespace Own
open PySem PySem.Spec PyProof.Rows L2 LamX NdefX
theorem dm_of {x U q r : Int} (h : 0 < U) (e : x = q * U + r) (h0 : 0 ≤ r) (h1 : r < U) : x / U = q ∧ x % U = r :=
  (Int.ediv_emod_unique h).mpr ⟨by rw [e, Int.mul_comm q U]; omega, h0, h1⟩
/-- the running total less what is added alone, from s on -/
def gapS (U : Int) (t : Str) (xs : List Int) (s : Int) : Int := runL U t xs s - s - (xs.map fun x => near x U t).sum
theorem gapS_nil (U : Int) (t : Str) (s : Int) : gapS U t [] s = 0 := by
  show s - s - 0 = 0
  omega
theorem gapS_cons (U : Int) (t : Str) (x : Int) (xs : List Int) (s : Int) : gapS U t (x :: xs) s = (stp U x t s - s - near x U t) + gapS U t xs (stp U x t s) := by
  unfold gapS
  rw [List.map_cons, List.sum_cons]
  show runL U t xs (stp U x t s) - s - _ = _
  omega
theorem runL_cons (U : Int) (t : Str) (x : Int) (xs : List Int) (s : Int) : runL U t (x :: xs) s = runL U t xs (stp U x t s) := rfl
theorem gapS_app (U : Int) (t : Str) : ∀ (xs ys : List Int) (s : Int), gapS U t (xs ++ ys) s = gapS U t xs s + gapS U t ys (runL U t xs s)
  | [], ys, s => by
    rw [gapS_nil]
    show gapS U t ys s = 0 + gapS U t ys s
    omega
  | x :: xs, ys, s => by
    rw [List.cons_append, gapS_cons, gapS_cons, gapS_app U t xs ys, runL_cons]
    omega
/-- what is kept from step to step -/
theorem gap_inv {U : Int} {t : Str} (Φ : Nat → Int → Int → Prop) : ∀ (xs : List Int) (k : Nat) (g s : Int), (∀ k g s x, x ∈ xs → Φ k g s → Φ (k + 1) (g + (stp U x t s - s - near x U t)) (stp U x t s)) → Φ k g s → Φ (k + xs.length) (g + gapS U t xs s) (runL U t xs s)
  | [], k, g, s, _, h => by
    rw [gapS_nil, Int.add_zero]
    exact h
  | x :: xs, k, g, s, st, h => by
    have z := gap_inv Φ xs (k + 1) _ _ (fun k g s y hy => st k g s y (List.mem_cons_of_mem _ hy)) (st k g s x (List.mem_cons_self ..) h)
    rw [gapS_cons, runL_cons]
    rw [show k + (x :: xs).length = k + 1 + xs.length by rw [List.length_cons]; omega]
    rw [show g + (stp U x t s - s - near x U t + gapS U t xs (stp U x t s)) = g + (stp U x t s - s - near x U t) + gapS U t xs (stp U x t s) by omega]
    exact z
def flatW : List Str := ["floor", "ceiling", "halfup", "halfdown"]
theorem near_stp (x U : Int) (t : Str) : near x U t = stp U x t 0 := by
  unfold stp
  rw [Int.zero_mul, Int.zero_add]
theorem loose_no {U x : Int} {t : Str} (h : t ∈ flatW) : isLoose U x t = false := by
  unfold isLoose
  have a : ¬ t ∈ looseL1 := by
    simp only [flatW, List.mem_cons, List.not_mem_nil, or_false] at h
    rcases h with rfl | rfl | rfl | rfl <;> decide +kernel
  have b : ¬ t ∈ looseL2 := by
    simp only [flatW, List.mem_cons, List.not_mem_nil, or_false] at h
    rcases h with rfl | rfl | rfl | rfl <;> decide +kernel
  rw [decide_eq_false a, decide_eq_false b]
  rfl
theorem loose_1 {U x : Int} {t : Str} (h : t ∈ looseL1) : isLoose U x t = decide (x % U ≠ 0) := by
  unfold isLoose
  have b : ¬ t ∈ looseL2 := by
    simp only [looseL1, List.mem_cons, List.not_mem_nil, or_false] at h
    rcases h with rfl | rfl <;> decide +kernel
  rw [decide_eq_true h, decide_eq_false b]
  simp
theorem loose_2 {U x : Int} {t : Str} (h : t ∈ looseL2) : isLoose U x t = decide (2 * (x % U) = U) := by
  unfold isLoose
  have b : ¬ t ∈ looseL1 := by
    simp only [looseL2, List.mem_cons, List.not_mem_nil, or_false] at h
    rcases h with rfl | rfl | rfl <;> decide +kernel
  rw [decide_eq_true h, decide_eq_false b]
  simp
section
variable {U x s : Int} {t : Str}
/-- what one step gains -/
theorem gain_tight (h : 0 < U) (ht : t ∈ waysL) (n : isLoose U x t = false) : stp U x t s - s - near x U t = 0 := by
  rw [stp_tight h ht n]
  omega
theorem near_evenL (h : 0 < U) (l : isLoose U x "halfeven" = true) : near x U "halfeven" = x / U + x / U % 2 := by
  rw [near_stp, stp_even h l, Int.zero_add]
theorem near_sideL (h : 0 < U) (ht : t ∈ waysL) (l : isLoose U x t = true) (ne : t ≠ "halfeven") : near x U t = addS (x / U) t (x / U) := by
  rw [near_stp, stp_side h ht l ne, Int.zero_add, Int.zero_add]
def cutW : List Str := ["cut", "halfcut"]
def awayW : List Str := ["away", "halfaway"]
theorem addS_cut {F a : Int} (h : t ∈ cutW) : addS F t a = if 0 ≤ a then F else F + 1 := by
  have e : t = "cut" ∨ t = "halfcut" := by simpa [cutW] using h
  unfold addS
  by_cases z : 0 ≤ a
  · simp [z, e]
  · simp [z, e]
theorem addS_away {F a : Int} (h : t ∈ awayW) : addS F t a = if 0 ≤ a then F + 1 else F := by
  have e : ¬ (t = "cut" ∨ t = "halfcut") := by
    simp only [awayW, List.mem_cons, List.not_mem_nil, or_false] at h
    rcases h with rfl | rfl <;> decide +kernel
  unfold addS
  by_cases z : 0 ≤ a
  · simp [z, e]
  · simp [z, e]
theorem cut_way (h : t ∈ cutW) : t ∈ waysL ∧ t ≠ "halfeven" := by
  simp only [cutW, List.mem_cons, List.not_mem_nil, or_false] at h
  rcases h with rfl | rfl <;> exact ⟨by decide +kernel, by decide +kernel⟩
theorem away_way (h : t ∈ awayW) : t ∈ waysL ∧ t ≠ "halfeven" := by
  simp only [awayW, List.mem_cons, List.not_mem_nil, or_false] at h
  rcases h with rfl | rfl <;> exact ⟨by decide +kernel, by decide +kernel⟩
theorem ways_parts (h : t ∈ waysL) : t ∈ flatW ∨ t = "halfeven" ∨ t ∈ cutW ∨ t ∈ awayW := by
  rcases way_cases h with rfl | rfl | rfl | rfl | rfl | rfl | rfl | rfl | rfl
  · exact .inl (by decide +kernel)
  · exact .inl (by decide +kernel)
  · exact .inr (.inr (.inl (by decide +kernel)))
  · exact .inr (.inr (.inr (by decide +kernel)))
  · exact .inl (by decide +kernel)
  · exact .inl (by decide +kernel)
  · exact .inr (.inl rfl)
  · exact .inr (.inr (.inr (by decide +kernel)))
  · exact .inr (.inr (.inl (by decide +kernel)))
/-- the figures that a unit of the way takes: P units at most -/
def shareOf (t : Str) (P : Int) : Int := P + if t = "halfcut" then 1 else 0
theorem near_small (hU : 1 < U) {P : Int} (hP : 0 < P) (h : t ∈ cutW) (h1 : -(P * U - 1) ≤ x) (h2 : x ≤ P * U - 1) : -(shareOf t P - 1) ≤ near x U t ∧ near x U t ≤ shareOf t P - 1 := by
  have U0 : 0 < U := by omega
  have em := Int.emod_add_mul_ediv x U
  have r0 := Int.emod_nonneg x (show U ≠ 0 by omega)
  have r1 := Int.emod_lt_of_pos x U0
  have qu : x / U ≤ P - 1 := by
    have z : x / U < P := Int.ediv_lt_of_lt_mul U0 (by omega)
    omega
  have ql : -P ≤ x / U := by
    refine (Int.le_ediv_iff_mul_le U0).mpr ?_
    rw [Int.neg_mul]
    omega
  have lo := near_lo (n := x) (d := U) t
  have hi := near_hi (n := x) (d := U) t
  have e : t = "cut" ∨ t = "halfcut" := by simpa [cutW] using h
  unfold shareOf
  rcases e with rfl | rfl
  · rw [if_neg (by decide +kernel)]
    by_cases r : x % U = 0
    · rw [near_zero r]
      refine ⟨?_, by omega⟩
      have nz : x / U ≠ -P := fun z => by
        rw [z, r, Int.mul_neg, Int.mul_comm] at em
        omega
      omega
    · have l : isLoose U x "cut" = true := by rw [loose_1 (by decide +kernel)]; exact decide_eq_true r
      rw [near_sideL U0 (by decide +kernel) l (by decide +kernel), addS_cut (by decide +kernel)]
      split <;> omega
  · rw [if_pos rfl]
    omega
end
/-! ### no gap is greater -/
section
variable {U P : Int} {t : Str}
theorem gap_flat (h : 0 < U) (ht : t ∈ flatW) (xs : List Int) (s : Int) : gapS U t xs s = 0 := by
  have hw : t ∈ waysL := by
    simp only [flatW, List.mem_cons, List.not_mem_nil, or_false] at ht
    rcases ht with rfl | rfl | rfl | rfl <;> decide +kernel
  have z := gap_inv (U := U) (t := t) (fun _ g _ => g = 0) xs 0 0 s (fun k g s x _ hg => by
    try dsimp only at hg ⊢
    rw [gain_tight h hw (loose_no ht)]
    omega) rfl
  try dsimp only at z
  omega
theorem gap_even (h : 0 < U) (xs : List Int) : 2 * gapS U "halfeven" xs 0 ≤ xs.length ∧ -(xs.length : Int) ≤ 2 * gapS U "halfeven" xs 0 := by
  have z := gap_inv (U := U) (t := "halfeven") (fun k g s => 2 * g + s % 2 ≤ k ∧ s % 2 - 2 * g ≤ k) xs 0 0 0 (fun k g s x _ hg => by
    try dsimp only at hg ⊢
    by_cases l : isLoose U x "halfeven" = true
    · rw [stp_even h l, near_evenL h l]
      omega
    · have l : isLoose U x "halfeven" = false := by simpa using l
      rw [gain_tight h (by decide +kernel) l]
      omega) (by simp)
  try dsimp only at z
  omega
/-- .. where all parts are less than a unit -/
theorem gap_even0 (h : 0 < U) (xs : List Int) (hx : ∀ x ∈ xs, 0 ≤ x ∧ x < U) : 0 ≤ gapS U "halfeven" xs 0 := by
  have z := gap_inv (U := U) (t := "halfeven") (fun k g s => 0 ≤ g) xs 0 0 0 (fun k g s x m hg => by
    try dsimp only at hg ⊢
    obtain ⟨x0, x1⟩ := hx x m
    have q : x / U = 0 := Int.ediv_eq_zero_of_lt x0 x1
    by_cases l : isLoose U x "halfeven" = true
    · rw [stp_even h l, near_evenL h l, q]
      omega
    · have l : isLoose U x "halfeven" = false := by simpa using l
      rw [gain_tight h (by decide +kernel) l]
      omega) (by simp)
  try dsimp only at z
  omega
theorem gap_side0 (h : 0 < U) (ht : t ∈ cutW ∨ t ∈ awayW) (xs : List Int) (hx : ∀ x ∈ xs, 0 ≤ x) : gapS U t xs 0 = 0 := by
  have hw : t ∈ waysL ∧ t ≠ "halfeven" := ht.elim cut_way away_way
  have z := gap_inv (U := U) (t := t) (fun k g s => g = 0 ∧ 0 ≤ s) xs 0 0 0 (fun k g s x m hg => by
    try dsimp only at hg ⊢
    have q : 0 ≤ x / U := Int.ediv_nonneg (hx x m) (by omega)
    by_cases l : isLoose U x t = true
    · rw [near_sideL h hw.1 l hw.2, stp_side h hw.1 l hw.2]
      rcases ht with ht | ht
      · rw [addS_cut ht, addS_cut ht, if_pos q, if_pos (by omega)]
        omega
      · rw [addS_away ht, addS_away ht, if_pos q, if_pos (by omega)]
        omega
    · have l : isLoose U x t = false := by simpa using l
      have e := near_lo (n := x) (d := U) t
      rw [stp_tight h hw.1 l]
      omega) ⟨rfl, by omega⟩
  try dsimp only at z
  omega
theorem gap_away (h : 0 < U) (ht : t ∈ awayW) (xs : List Int) (ne : xs ≠ []) : gapS U t xs 0 ≤ xs.length - 1 ∧ -((xs.length : Int) - 1) ≤ gapS U t xs 0 := by
  have hw := away_way ht
  have z := gap_inv (U := U) (t := t) (fun k g s => (k = 0 → g = 0 ∧ s = 0) ∧ (0 < k → g ≤ k - 1 ∧ -((k : Int) - 1) ≤ g)) xs 0 0 0 (fun k g s x m hg => by
    try dsimp only at hg ⊢
    refine ⟨fun z => by omega, fun _ => ?_⟩
    by_cases l : isLoose U x t = true
    · rw [near_sideL h hw.1 l hw.2, stp_side h hw.1 l hw.2, addS_away ht, addS_away ht]
      by_cases k0 : k = 0
      · obtain ⟨rfl, rfl⟩ := hg.1 k0
        rw [Int.zero_add]
        omega
      · have := hg.2 (by omega)
        split <;> split <;> omega
    · have l : isLoose U x t = false := by simpa using l
      rw [gain_tight h hw.1 l]
      by_cases k0 : k = 0
      · obtain ⟨rfl, rfl⟩ := hg.1 k0
        omega
      · have := hg.2 (by omega)
        omega) ⟨fun _ => ⟨rfl, rfl⟩, fun z => by omega⟩
  try dsimp only at z
  have l : 0 < xs.length := List.length_pos_iff.mpr ne
  have := z.2 (by omega)
  omega
theorem gap_cut (hU : 1 < U) (hP : 0 < P) (ht : t ∈ cutW) (xs : List Int) (hx : ∀ x ∈ xs, -(P * U - 1) ≤ x ∧ x ≤ P * U - 1) :
    gapS U t xs 0 ≤ xs.length + -(xs.length : Int) / shareOf t P ∧ -((xs.length : Int) + -(xs.length : Int) / shareOf t P) ≤ gapS U t xs 0 := by
  have hw := cut_way ht
  have h : 0 < U := by omega
  have S0 : 0 < shareOf t P := by unfold shareOf; split <;> omega
  generalize hM : shareOf t P = S at S0
  have z := gap_inv (U := U) (t := t) (fun k g s => (0 ≤ S * (k - g) - k ∧ 0 ≤ S * (k - g) - k + s) ∧ (0 ≤ S * (k + g) - k ∧ 0 ≤ S * (k + g) - k - s)) xs 0 0 0 (fun k g s x m hg => by
    try dsimp only at hg ⊢
    obtain ⟨n1, n2⟩ := near_small hU hP ht (hx x m).1 (hx x m).2
    rw [hM] at n1 n2
    have kk : ((k + 1 : Nat) : Int) = (k : Int) + 1 := by omega
    have A0 : S * ((k : Int) + 1 - (g + 0)) = S * ((k : Int) - g) + S := by rw [show (k : Int) + 1 - (g + 0) = ((k : Int) - g) + 1 by omega, Int.mul_add, Int.mul_one]
    have A1 : S * ((k : Int) + 1 - (g + 1)) = S * ((k : Int) - g) := by rw [show (k : Int) + 1 - (g + 1) = ((k : Int) - g) by omega]
    have A2 : S * ((k : Int) + 1 - (g + -1)) = S * ((k : Int) - g) + 2 * S := by rw [show (k : Int) + 1 - (g + -1) = ((k : Int) - g) + 2 by omega, Int.mul_add, Int.mul_comm S 2]
    have B0 : S * ((k : Int) + 1 + (g + 0)) = S * ((k : Int) + g) + S := by rw [show (k : Int) + 1 + (g + 0) = ((k : Int) + g) + 1 by omega, Int.mul_add, Int.mul_one]
    have B1 : S * ((k : Int) + 1 + (g + 1)) = S * ((k : Int) + g) + 2 * S := by rw [show (k : Int) + 1 + (g + 1) = ((k : Int) + g) + 2 by omega, Int.mul_add, Int.mul_comm S 2]
    have B2 : S * ((k : Int) + 1 + (g + -1)) = S * ((k : Int) + g) := by rw [show (k : Int) + 1 + (g + -1) = ((k : Int) + g) by omega]
    generalize S * ((k : Int) - g) = a at *
    generalize S * ((k : Int) + g) = b at *
    rw [kk]
    by_cases l : isLoose U x t = true
    · rw [near_sideL h hw.1 l hw.2, addS_cut ht] at n1 n2
      rw [near_sideL h hw.1 l hw.2, stp_side h hw.1 l hw.2, addS_cut ht, addS_cut ht]
      by_cases c1 : 0 ≤ x / U
      · rw [if_pos c1] at n1 n2 ⊢
        by_cases c2 : 0 ≤ s + x / U
        · rw [if_pos c2, show s + x / U - s - x / U = 0 by omega, A0, B0]
          omega
        · rw [if_neg c2, show s + (x / U + 1) - s - x / U = 1 by omega, A1, B1]
          omega
      · rw [if_neg c1] at n1 n2 ⊢
        by_cases c2 : 0 ≤ s + x / U
        · rw [if_pos c2, show s + x / U - s - (x / U + 1) = -1 by omega, A2, B2]
          omega
        · rw [if_neg c2, show s + (x / U + 1) - s - (x / U + 1) = 0 by omega, A0, B0]
          omega
    · have l : isLoose U x t = false := by simpa using l
      rw [gain_tight h hw.1 l, stp_tight h hw.1 l, A0, B0]
      omega) (by simp)
  try dsimp only at z
  obtain ⟨⟨z1, _⟩, ⟨z2, _⟩⟩ := z
  rw [Int.zero_add, Nat.zero_add] at z1 z2
  generalize gapS U t xs 0 = g at z1 z2 ⊢
  have e1 : g - (xs.length : Int) ≤ -(xs.length : Int) / S := by
    refine (Int.le_ediv_iff_mul_le S0).mpr ?_
    rw [Int.mul_comm]
    have : S * (g - (xs.length : Int)) = -(S * ((xs.length : Int) - g)) := by rw [← Int.mul_neg]; congr 1; omega
    omega
  have e2 : -g - (xs.length : Int) ≤ -(xs.length : Int) / S := by
    refine (Int.le_ediv_iff_mul_le S0).mpr ?_
    rw [Int.mul_comm]
    have : S * (-g - (xs.length : Int)) = -(S * ((xs.length : Int) + g)) := by rw [← Int.mul_neg]; congr 1; omega
    omega
  omega
end
end Own

/-! own layer, of no law: OWO1: running totals over all orders: how far they reach. -/
namespace Own
open PySem PySem.Spec PyProof.Rows L2 LamX NdefX
/-! ### sums over entries -/
def wsum (f : Int → Int) : List (Int × Nat) → Int
  | [] => 0
  | e :: r => f e.1 * e.2 + wsum f r
theorem wsum_app (f : Int → Int) : ∀ es fs : List (Int × Nat), wsum f (es ++ fs) = wsum f es + wsum f fs
  | [], fs => by simp [wsum]
  | e :: r, fs => by
    show f e.1 * e.2 + wsum f (r ++ fs) = f e.1 * e.2 + wsum f r + wsum f fs
    rw [wsum_app f r fs]
    omega
theorem wsum_perm (f : Int → Int) {es fs : List (Int × Nat)} (h : List.Perm es fs) : wsum f es = wsum f fs := by
  induction h with
  | nil => rfl
  | cons x _ ih => show _ + _ = _ + _; rw [ih]
  | swap x y l => show _ + (_ + _) = _ + (_ + _); omega
  | trans _ _ a b => exact a.trans b
/-- one entry each -/
def ones (ys : List Int) : List (Int × Nat) := ys.map fun y => (y, 1)
theorem wsum_ones_nil (f : Int → Int) : wsum f (ones []) = 0 := rfl
theorem wsum_ones (f : Int → Int) (y : Int) (ys : List Int) : wsum f (ones (y :: ys)) = f y + wsum f (ones ys) := by
  show f y * ((1 : Nat) : Int) + wsum f (ones ys) = _
  omega
/-! ### how many of some sizes are within a room -/
/-- n of the sizes are taken, which come to c -/
inductive Ch : List (Int × Nat) → Int → Int → Prop where
  | nil : Ch [] 0 0
  | more {s : Int} {k : Nat} {l : List (Int × Nat)} {n c : Int} (j : Int) (h0 : 0 ≤ j) (h1 : j ≤ k) (r : Ch l n c) : Ch ((s, k) :: l) (j + n) (j * s + c)
theorem Ch.to {s : Int} {k : Nat} {l : List (Int × Nat)} {n c n' c' : Int} (j : Int) (h0 : 0 ≤ j) (h1 : j ≤ k) (r : Ch l n c) (e1 : n' = j + n) (e2 : c' = j * s + c) : Ch ((s, k) :: l) n' c' := by
  rw [e1, e2]
  exact .more j h0 h1 r
theorem Ch.zero : ∀ l : List (Int × Nat), Ch l 0 0
  | [] => .nil
  | (s, k) :: l => .to 0 (Int.le_refl _) (by omega) (Ch.zero l) (by omega) (by omega)
theorem Ch.pos {l : List (Int × Nat)} {n c : Int} (h : Ch l n c) : 0 ≤ n ∧ ((∀ e ∈ l, 0 ≤ e.1) → 0 ≤ c) := by
  induction h with
  | nil => exact ⟨Int.le_refl _, fun _ => Int.le_refl _⟩
  | @more s k l n c j h0 h1 r ih =>
    refine ⟨by omega, fun hl => ?_⟩
    have a := ih.2 fun e he => hl e (List.mem_cons_of_mem _ he)
    have b := Int.mul_nonneg h0 (show 0 ≤ s from hl (s, k) List.mem_cons_self)
    omega
theorem Ch.perm {l l' : List (Int × Nat)} (p : List.Perm l l') : ∀ {n c : Int}, Ch l n c → Ch l' n c := by
  induction p with
  | nil => exact fun h => h
  | cons x _ ih =>
    intro n c h
    cases h with
    | more j h0 h1 r => exact .more j h0 h1 (ih r)
  | swap x y l =>
    intro n c h
    cases h with
    | more j h0 h1 r =>
      cases r with
      | more i g0 g1 r => exact .to i g0 g1 (.more j h0 h1 r) (by omega) (by omega)
  | trans _ _ a b => exact fun h => b (a h)
/-- a size told in two parts -/
theorem Ch.join {s : Int} {a b : Nat} {l : List (Int × Nat)} {n c : Int} : Ch ((s, a) :: (s, b) :: l) n c ↔ Ch ((s, a + b) :: l) n c := by
  constructor
  · intro h
    cases h with
    | more j h0 h1 r =>
      cases r with
      | more i g0 g1 r => exact .to (j + i) (by omega) (by omega) r (by omega) (by rw [Int.add_mul]; omega)
  · intro h
    cases h with
    | more j h0 h1 r =>
      by_cases z : j ≤ a
      · exact .to j h0 z (.more 0 (by omega) (by omega) r) (by omega) (by omega)
      · refine .to (a : Int) (by omega) (by omega) (.more (j - a) (by omega) (by omega) r) (by omega) ?_
        rw [Int.sub_mul]
        omega
/-- with one size in front -/
theorem Ch.cons_iff {x : Int × Nat} {l l' : List (Int × Nat)} (h : ∀ n c, Ch l n c ↔ Ch l' n c) (n c : Int) : Ch (x :: l) n c ↔ Ch (x :: l') n c := by
  constructor
  · intro z
    cases z with
    | more j h0 h1 r => exact .more j h0 h1 ((h _ _).mp r)
  · intro z
    cases z with
    | more j h0 h1 r => exact .more j h0 h1 ((h _ _).mpr r)
/-- the most of the sizes that are within a room -/
def Mst (l : List (Int × Nat)) (r m : Int) : Prop := (r < 0 → m = 0) ∧ (0 ≤ r → (∃ c, c ≤ r ∧ Ch l m c) ∧ ∀ n c, Ch l n c → c ≤ r → n ≤ m)
theorem Mst.one {l : List (Int × Nat)} {r m m' : Int} (a : Mst l r m) (b : Mst l r m') : m = m' := by
  by_cases z : 0 ≤ r
  · obtain ⟨⟨c, h1, h2⟩, h3⟩ := a.2 z
    obtain ⟨⟨c', g1, g2⟩, g3⟩ := b.2 z
    have := h3 _ _ g2 g1
    have := g3 _ _ h2 h1
    omega
  · rw [a.1 (by omega), b.1 (by omega)]
theorem Mst.pos {l : List (Int × Nat)} {r m : Int} (a : Mst l r m) : 0 ≤ m := by
  by_cases z : 0 ≤ r
  · obtain ⟨⟨c, h1, h2⟩, _⟩ := a.2 z
    exact h2.pos.1
  · rw [a.1 (by omega)]
    exact Int.le_refl _
theorem Mst.iff {l l' : List (Int × Nat)} {r m : Int} (h : ∀ n c, Ch l n c ↔ Ch l' n c) : Mst l r m ↔ Mst l' r m := by
  constructor
  · intro a
    refine ⟨a.1, fun z => ?_⟩
    obtain ⟨⟨c, h1, h2⟩, h3⟩ := a.2 z
    exact ⟨⟨c, h1, (h _ _).mp h2⟩, fun n c x y => h3 n c ((h _ _).mpr x) y⟩
  · intro a
    refine ⟨a.1, fun z => ?_⟩
    obtain ⟨⟨c, h1, h2⟩, h3⟩ := a.2 z
    exact ⟨⟨c, h1, (h _ _).mpr h2⟩, fun n c x y => h3 n c ((h _ _).mp x) y⟩
/-- the least sizes first -/
def gre : List (Int × Nat) → Int → Int
  | [], _ => 0
  | (s, k) :: l, r => (if s = 0 then (k : Int) else min (k : Int) (r / s)) + gre l (r - (if s = 0 then (k : Int) else min (k : Int) (r / s)) * s)
def Rise : List (Int × Nat) → Prop
  | [] => True
  | (s, k) :: l => (∀ e ∈ l, s ≤ e.1) ∧ Rise l
theorem fit_le {s r : Int} {k : Nat} (hs : 0 ≤ s) (hr : 0 ≤ r) : 0 ≤ (if s = 0 then (k : Int) else min (k : Int) (r / s)) ∧ (if s = 0 then (k : Int) else min (k : Int) (r / s)) ≤ k ∧ (if s = 0 then (k : Int) else min (k : Int) (r / s)) * s ≤ r ∧
    ((if s = 0 then (k : Int) else min (k : Int) (r / s)) < k → 0 < s ∧ r - (if s = 0 then (k : Int) else min (k : Int) (r / s)) * s < s) := by
  by_cases z : s = 0
  · rw [if_pos z]
    exact ⟨by omega, Int.le_refl _, by rw [z, Int.mul_zero]; exact hr, fun y => absurd y (Int.lt_irrefl _)⟩
  · rw [if_neg z]
    have s0 : 0 < s := by omega
    have d0 := Int.ediv_nonneg hr hs
    have e := Int.emod_add_mul_ediv r s
    have r0 := Int.emod_nonneg r z
    have r1 := Int.emod_lt_of_pos r s0
    have dm : r / s * s ≤ r := by rw [Int.mul_comm]; omega
    by_cases y : (k : Int) ≤ r / s
    · rw [Int.min_eq_left y]
      have := Int.mul_le_mul_of_nonneg_right y hs
      exact ⟨by omega, Int.le_refl _, by omega, fun w => absurd w (Int.lt_irrefl _)⟩
    · rw [Int.min_eq_right (by omega)]
      exact ⟨d0, by omega, dm, fun _ => ⟨s0, by rw [Int.mul_comm]; omega⟩⟩
theorem gre_ch : ∀ (l : List (Int × Nat)) (r : Int), (∀ e ∈ l, 0 ≤ e.1) → 0 ≤ r → ∃ c, c ≤ r ∧ Ch l (gre l r) c
  | [], r, _, hr => ⟨0, hr, .nil⟩
  | (s, k) :: l, r, hl, hr => by
    obtain ⟨f0, f1, f2, _⟩ := fit_le (k := k) (show 0 ≤ s from hl (s, k) List.mem_cons_self) hr
    unfold gre
    generalize (if s = 0 then (k : Int) else min (k : Int) (r / s)) = f at f0 f1 f2 ⊢
    obtain ⟨c, hc, h⟩ := gre_ch l (r - f * s) (fun e he => hl e (List.mem_cons_of_mem _ he)) (by omega)
    exact ⟨f * s + c, by omega, .more f f0 f1 h⟩
theorem gre_most : ∀ (l : List (Int × Nat)) (s0 r d n c : Int), Rise l → (∀ e ∈ l, s0 ≤ e.1) → 0 ≤ s0 → 0 ≤ r → 0 ≤ d → Ch l n c → c ≤ r + d * s0 → n ≤ gre l r + d
  | [], s0, r, d, n, c, _, _, _, _, hd, h, _ => by
    cases h
    show 0 ≤ 0 + d
    omega
  | (s, k) :: l, s0, r, d, n, c, hR, hl, h0, hr, hd, h, hc => by
    have ss : s0 ≤ s := hl (s, k) List.mem_cons_self
    obtain ⟨f0, f1, f2, f3⟩ := fit_le (k := k) (show 0 ≤ s by omega) hr
    unfold gre
    generalize (if s = 0 then (k : Int) else min (k : Int) (r / s)) = f at f0 f1 f2 f3 ⊢
    have dd : d * s0 ≤ d * s := Int.mul_le_mul_of_nonneg_left ss hd
    cases h with
    | @more _ _ _ n' c' j j0 j1 t =>
      by_cases z : j ≤ f
      · have e : (f - j + d) * s = f * s - j * s + d * s := by rw [Int.add_mul, Int.sub_mul]
        have := gre_most l s (r - f * s) (f - j + d) n' c' hR.2 hR.1 (by omega) (by omega) (by omega) t (by omega)
        omega
      · obtain ⟨g0, g1⟩ := f3 (by omega)
        have e : (d - (j - f)) * s = d * s - (j * s - f * s) := by rw [Int.sub_mul, Int.sub_mul]
        have cp := t.pos.2 fun e he => Int.le_trans (by omega) (hR.1 e he)
        have dj : 0 ≤ d - (j - f) := by
          refine Int.le_of_not_gt fun y => ?_
          have : (d - (j - f)) * s ≤ -1 * s := Int.mul_le_mul_of_nonneg_right (by omega) (by omega)
          omega
        have := gre_most l s (r - f * s) (d - (j - f)) n' c' hR.2 hR.1 (by omega) (by omega) dj t (by omega)
        omega
theorem gre_is {l : List (Int × Nat)} {r : Int} (hR : Rise l) (hl : ∀ e ∈ l, 0 ≤ e.1) (hr : 0 ≤ r) : Mst l r (gre l r) :=
  ⟨fun z => absurd z (by omega), fun _ => ⟨gre_ch l r hl hr, fun n c h hc => by
    have := gre_most l 0 r 0 n c hR hl (Int.le_refl _) hr (Int.le_refl _) h (by omega)
    omega⟩⟩
/-- behind one size that does not fit whole none fits -/
theorem gre_out {s r : Int} (h0 : 0 ≤ r) (h1 : r < s) : ∀ l : List (Int × Nat), (∀ e ∈ l, s ≤ e.1) → gre l r = 0
  | [], _ => rfl
  | (a, k) :: l, h => by
    have ha : s ≤ a := h (a, k) List.mem_cons_self
    unfold gre
    have z : a ≠ 0 := by omega
    rw [if_neg z, Int.ediv_eq_zero_of_lt h0 (by omega), Int.min_eq_right (by omega), Int.zero_mul, Int.sub_zero, gre_out h0 h1 l fun e he => h e (List.mem_cons_of_mem _ he)]
    rfl
/-- the most of some sizes, in any order -/
theorem gre_perm {l l' : List (Int × Nat)} {r : Int} (hp : List.Perm l l') (hR : Rise l') (hl : ∀ e ∈ l, 0 ≤ e.1) (hr : 0 ≤ r) : Mst l r (gre l' r) :=
  (Mst.iff fun n c => ⟨Ch.perm hp, Ch.perm hp.symm⟩).mpr (gre_is hR (fun e he => hl e (hp.symm.subset he)) hr)
end Own

/-! own layer, of no law: OWNX: isinstance of a caught error with a field; a def called with a lambda written there. -/
namespace Own
open PySem PySem.Spec PyProof.Rows L2 LamX NdefX
/-- isinstance(e, c), e the exception with a dict that the suite holds -/
theorem call_isED {X : Cx} {a D : Addr} {oe : Obj} {cls : Value} {d : Option Addr} {pn : List (Addr × Obj)} (C : ExcC X.K D) (hz : Zc cls d oe) (hf : ∃ vs, oe.data = .fields vs) : CallR (X.suite a ((a, oe) :: pn)) (.builtin "isinstance")
    (fun xs H Q => ∃ (c : V) (cv : Value) (b : Bool) (dd : Addr) (fs : List (Str × V)), xs = [.ref a, c] ∧ cls = .ref D ∧ d = some dd ∧ H dd = some (.xd fs) ∧ ClsV c cv ∧ PySem.W.kitOne X.K (.ref D) cv = some b ∧ Q (.bl b) H) := by
  intro pins s σ H xs us Q I r h
  obtain ⟨c, cv, b, dd, fs, rfl, rfl, rfl, ea, hcv, e, q⟩ := h
  obtain ⟨u1, u2, rfl, r1, r2⟩ := vals2 r
  have ec := hcv.eq r2
  subst ec
  cases (show u1 = Value.ref a from r1)
  obtain ⟨hget, _⟩ := I.pin (a, oe) (List.mem_append.mpr (.inl List.mem_cons_self))
  obtain ⟨vs, hv⟩ := hf
  have hx : ObjOk X.prog X.w H s.heap dd (.xd fs) := I.hok dd _ ea
  obtain ⟨mA, hns, hr⟩ := hx
  obtain ⟨od, ho, hl⟩ := lookIn_ns hns
  have J : PySem.W.InstAt s.heap a oe D (some od) := ⟨hget, hz.1, by unfold PySem.W.notCls; rw [hv] <;> rfl, by rw [hz.2]; exact ho⟩
  obtain ⟨cd, hc, _⟩ := PySem.W.any_some C.hd
  exact PySem.W.kia_one (PySem.W.kitx_exc (by rw [hc]; rfl) C.hg C.hk C.hs C.ha C.hn C.ht C.hm) I.kIn J e (fun z => nomatch z) fun tk => ⟨.bl b, H, I.kept (t' := tk) fun _ _ z => z, rfl, q⟩
/-- x(lambda: ..), the lambda without parameters -/
def tLamDir (X : Cx) (T : List (Addr × Str)) (params : Arguments) (body : Expr) (scope : Scope) (js : List Nat) (sp : (Hp → VK → XK → Prop) → List V → Hp → VK → Prop) (spl : List (Option V) → Hp → VK → XK → Prop) : TE :=
  fun σ H Q => tCons (tLamV X T params body scope) tNil σ H fun vs H1 => ∃ f c' : Addr, vs = [.ref f] ∧ LamAt H1 f (lamF X params scope c') body ∧ H1 c' = some (CodeO c' (X.env.qual ++ "<lambda>")) ∧ sp (spl (js.map (slotAt σ))) [] H1 Q
theorem pe_lamdir {X : Cx} {T : List (Addr × Str)} {params : Arguments} {body : Expr} {scope : Scope} {js : List Nat} {fr : List Str} {k kl j : Nat} {sp : (Hp → VK → XK → Prop) → List V → Hp → VK → Prop} {spl : List (Option V) → Hp → VK → XK → Prop} {x : Str} {p pos lpos : Pos}
    (D : LamDefAt X.prog X.w X.K X.mg X.base x k sp) (hkl : kl < k) (hr : Room j X.A) (hj : k ≤ j) (G : ∀ (f c' : Addr), LOk X.prog X.w X.K X.mg X.base (L2.CX X.prog X.w) kl f (lamF X params scope c') body fr spl)
    (hl : PE X (.Lambda params body scope lpos) (tLamV X T params body scope))
    (hfree : ∀ y ∈ scope.names, y.2 = .free → X.env.scope.names.lookup y.1 = some .cell ∨ X.env.scope.names.lookup y.1 = some .free) (hfr : ∀ y ∈ fr, (y, NameKind.free) ∈ scope.names) (hjs : js.map (fun j => X.N[j]?) = fr.map some)
    (hg : Gl X x) (hdb : (x == ("__debug__" : Str)) = false := by decide) (he : starEach [.Lambda params body scope lpos] X.env = (false, eval (.Lambda params body scope lpos) X.env) :: starEach [] X.env := by rfl) (hpl : (backTo pos (starEach [] X.env)).any (·.1) = false := by rfl) :
    PE X (.Call (.Name x p) [.Lambda params body scope lpos] [] pos) (tLamDir X T params body scope js sp spl) := by
  obtain ⟨g, R, gm, kp⟩ := D.ex
  have ha := pa_cons hl pa_nil
  constructor
  intro pins s σ H Q I h
  refine wpAny_Call_Name_kw (ld_glob I hg gm ?_ hdb)
  refine PySem.W.callWith_K (h₀ := X.base) I.ok.mod.kin kp (thn (ha.run pos pins s σ H _ I h) ?_) he hpl
  rintro us s1 ⟨vs, H1, I1, r, f, c', rfl, hf, hc, q⟩
  refine ⟨I1.kIn, wpAny_call (codeAny_mono (R.run X.A X.stack s1 H1 us f [] _ _ _ _ _ kl Q (hr.mono hj) hkl I1.env0 r (G f c') hf hc (cells_blk I1 hfree hfr hjs) q) fun z s' hz => ?_)⟩
  rcases z with er | fl
  · exact (show False from hz).elim
  · cases fl
    case ret u => exact I1.after hz
    all_goals exact False.elim hz
/-- x is flat, or an object -/
def Selfy (x : V) : Prop := flatV x = true ∨ ∃ a, x = .ref a
theorem Odd.selfy {H : Hp} {x : V} (h : Odd H x) : Selfy x := by
  cases h with
  | flat h => exact .inl (by cases x <;> first | rfl | (simp [okF] at h))
  | lst e f => exact .inr ⟨_, rfl⟩
  | tup e f => exact .inr ⟨_, rfl⟩
  | dct e n f => exact .inr ⟨_, rfl⟩
theorem eqV_self {x : V} (h : flatV x = true) : eqV x x = true := by
  cases x <;> first | (cases h; done) | rfl | (simp [eqV]; done)
theorem selfy_at {A : Around} {s : Shared} {x : V} {u v : Value} (h : Selfy x) (ru : RelV x u) (rv : RelV x v) : SeqAt.EqAt A s u v true := by
  rcases h with h | ⟨a, rfl⟩
  · have z := eqAt_V (A := A) (s := s) ru rv h h
    rw [eqV_self h] at z
    exact z
  · cases (show u = Value.ref a from ru)
    cases (show v = Value.ref a from rv)
    exact SeqAt.EqAt.same _
/-- [x] == [x], [x] != [x] -/
def rOne (K : PySem.W.Frag) (b : Bool) : R2 := fun x y H Q => ∃ (l m : Addr) (z : V), x = .ref l ∧ y = .ref m ∧ SqL K H l [z] ∧ SqL K H m [z] ∧ Selfy z ∧ Q (.bl b) H
section
variable {X : Cx}
theorem one_at {pins : List (Addr × Obj)} {σ : L2.St} {H : Hp} {s : Shared} {l m : Addr} {z : V} (I : Inv X pins σ H s) (h1 : SqL X.K H l [z]) (h2 : SqL X.K H m [z]) (hz : Selfy z) : ∃ i1 i2 : Value, s.heap.IsList l #[i1] ∧ s.heap.IsList m #[i2] ∧ ∀ A : Around, SeqAt.EqAt A s i1 i2 true := by
  obtain ⟨its1, r1, l1, _⟩ := I.list h1
  obtain ⟨its2, r2, l2, _⟩ := I.list h2
  obtain ⟨v1, rfl, q1⟩ := r1.one
  obtain ⟨v2, rfl, q2⟩ := r2.one
  exact ⟨v1, v2, l1.isList, l2.isList, fun A => selfy_at hz q1 q2⟩
theorem op_eqOne (hu : X.A.units + 64 < cLine) : OpR X (compareOp .Eq) (rOne X.K true) := by
  intro pins s σ H x y v u Q I rx ry h
  obtain ⟨l, m, z, rfl, rfl, h1, h2, hz, q⟩ := h
  cases (show v = Value.ref l from rx)
  cases (show u = Value.ref m from ry)
  obtain ⟨i1, i2, e1, e2, at_⟩ := one_at I h1 h2 hz
  have := SeqAt.RcAt.lists (A := X.A) (e := fun _ => true) e1 e2 rfl (by omega) (fun j j1 j2 => by
    have a : j = 0 := by have : j < 1 := j1; omega
    subst a
    exact at_ _)
  exact this X.prog X.w _ _ ⟨.bl true, H, I, rfl, q⟩
theorem op_neOne (hu : X.A.units + 64 < cLine) : OpR X (compareOp .NotEq) (rOne X.K false) := by
  intro pins s σ H x y v u Q I rx ry h
  obtain ⟨l, m, z, rfl, rfl, h1, h2, hz, q⟩ := h
  cases (show v = Value.ref l from rx)
  cases (show u = Value.ref m from ry)
  obtain ⟨i1, i2, e1, e2, at_⟩ := one_at I h1 h2 hz
  have := SeqAt.RcNeAt.lists (A := X.A) (e := fun _ => true) e1 e2 rfl (by omega) (fun j j1 j2 => by
    have a : j = 0 := by have : j < 1 := j1; omega
    subst a
    exact at_ _)
  exact this X.prog X.w _ _ ⟨.bl false, H, I, rfl, q⟩
end
end Own

/-! own layer, of no law: OWNK: a try with any number of except clauses that have a name. -/
namespace Own
open PySem PySem.Spec PyProof.Rows L2
/-- a clause: the class that it names, the slot of its name, what its suite asks -/
structure Cl where
  c : Value
  i : Nat
  ts : Addr → Value → Option Addr → TS
/-- the wish of the clauses, one behind the other -/
def wEach (K : PySem.W.Frag) (Wout : WX) (D : Ends) : List Cl → WX
  | [] => Wout
  | q :: r => wAs K q.c q.i q.ts (wEach K Wout D r) D
/-- the clauses as they are written, beside what they ask -/
inductive ClsOk (X : Cx) : List ExceptHandler → List Cl → Prop
  | none : ClsOk X [] []
  | more {x n : Str} {q : Cl} {b : Stmt} {bs : List Stmt} {p p' : Pos} {hds : List ExceptHandler} {l : List Cl} (named : Names X x q.c) (slot : X.N[q.i]? = some n) (loc : X.env.kindOf n = some .local)
      (su : ∀ (a : Addr) (o : Obj) (cls : Value) (d : Option Addr) (pn : List (Addr × Obj)), Zc cls d o → (∃ vs, o.data = .fields vs) → PSs (X.suite a ((a, o) :: pn)) (b :: bs) (q.ts a cls d)) (rest : ClsOk X hds l) :
      ClsOk X (.ExceptHandler (some (.Name x p)) (some n) (b :: bs) p' :: hds) (q :: l)
/-- the exception at a is caught: sI is the state without it, s the one with it -/
structure Caught (X : Cx) (pins : List (Addr × Obj)) (σ : L2.St) (H : Hp) (sI s : Shared) (B : Heap) (a : Addr) (cls : Value) (d : Option Addr) : Prop where
  I : Inv X pins σ H sI
  nb : ∀ b o, sI.heap.get? b = some o → b ∉ frs X.stack → B.get? b = some o
  up : sI.heap.UpToSlots s.heap
  fl : HandSPX.FlyingZ B (X.env :: X.outer) a (Zc cls d) s.heap
  na : H a = none
  os : s.os = sI.os
  ag : AllBare s.gens
section
variable {X : Cx} {pins : List (Addr × Obj)} {σ : L2.St} {H : Hp} {sI s : Shared} {B : Heap} {a : Addr} {cls : Value} {d : Option Addr}
theorem Caught.inv (c : Caught X pins σ H sI s B a cls d) : Inv X pins σ H s := c.I.landed c.nb c.fl.1 c.up c.os c.ag
theorem Caught.on (c : Caught X pins σ H sI s B a cls d) {h' : Heap} (f : HandSPX.FlyingZ B (X.env :: X.outer) a (Zc cls d) h') (u : s.heap.UpToSlots h') : Caught X pins σ H sI { s with heap := h' } B a cls d :=
  ⟨c.I, c.nb, c.up.trans u, f, c.na, c.os, c.ag⟩
/-- the record of the exception, and the state of a suite -/
theorem Caught.record (c : Caught X pins σ H sI s B a cls d) (hf : X.env.frame = some X.env.locals) : ∃ o : Obj, s.heap.get? a = some o ∧ Zc cls d o ∧ (∃ vs, o.data = .fields vs) ∧ Inv (X.suite a ((a, o) :: (X.pn ++ pins))) [] σ H s := by
  obtain ⟨o, vs, eo, z, dt⟩ := c.fl.there
  have off : a ∉ frs (X.env :: X.outer) := fun hm => by
    obtain ⟨_, o2, e2, hn⟩ := c.fl.2.2.1.mem hm
    rw [eo] at e2
    obtain rfl := Option.some.inj e2
    exact hn _ dt
  have n1 : a ≠ X.env.locals := by
    intro z
    refine off (List.mem_filterMap.mpr ⟨X.env, List.mem_cons_self, ?_⟩)
    rw [hf, z]
  have n2 : a ∉ X.fs := by
    intro hm
    obtain ⟨e, he, q⟩ := List.mem_filterMap.mp hm
    exact off (List.mem_filterMap.mpr ⟨e, List.mem_cons_of_mem _ he, q⟩)
  exact ⟨o, eo, z, ⟨vs, dt⟩, c.inv.suite eo dt c.na n1 n2⟩
/-- no clause is left: it goes on -/
theorem caught_out {D : Ends} {W : WX} (hs : X.stack = X.env :: X.outer) (hf : X.env.frame = some X.env.locals) (tk : Takes X W) (c : Caught X pins σ H sI s B a cls d) (w : W cls d σ H) :
    wpAny (model X.prog X.w) X.A (handleBy (.ref a) X.env []) (SP X pins D) X.xe s := by
  refine wpAny_handleBy_nil ?_
  have air := c.fl
  obtain ⟨_, _, _, o, vs, T, _, _, eo, _, dt, tb, _⟩ := c.fl
  unfold PySem.passOn
  refine wpAny_bind (wpAny_field eo dt tb ?_)
  rw [if_neg (show ¬ ((Value.ref T == Value.none) = true) by simp)]
  have z : wpAny (model X.prog X.w) X.A (setFlight (.ref a) X.env.frame) (fun _ t => wpAny (model X.prog X.w) X.A (throw (.ref a) : Sem Flow) (SP X pins D) X.xe t) X.xe s := by
    rw [hf]
    refine HandSPX.setFlight_upZ air fun h' held u => wpAny_throw (tk _ _ ⟨a, B, sI, pins, σ, H, cls, d, rfl, c.I, c.nb, c.up.trans u, ?_, c.na, c.os, c.ag, w⟩)
    rw [hs]
    exact .inr (.inr held)
  first
    | exact wpAny_bind z
    | exact wpAny_bind (wpAny_pure (wpAny_bind z))
/-- the suite of a clause with a name, its name gone behind it -/
theorem caught_suite {D : Ends} {n : Str} {q : Cl} {b : Stmt} {bs : List Stmt} {p' : Pos} (hf : X.env.frame = some X.env.locals) (hN : X.N.Nodup) (slot : X.N[q.i]? = some n) (loc : X.env.kindOf n = some .local)
    (su : ∀ (a : Addr) (o : Obj) (cls : Value) (d : Option Addr) (pn : List (Addr × Obj)), Zc cls d o → (∃ vs, o.data = .fields vs) → PSs (X.suite a ((a, o) :: pn)) (b :: bs) (q.ts a cls d)) (c : Caught X pins σ H sI s B a cls d)
    (h : q.ts a cls d { nx := fun σ' H' => D.nx (σ'.set q.i none) H', rt := D.rt, bk := fun σ' H' => D.bk (σ'.set q.i none) H', ct := fun σ' H' => D.ct (σ'.set q.i none) H' } (σ.set q.i (some (.ref a))) H) :
    codeAny (model X.prog X.w) (X.A.mark (some (.ref a))) (.handlers (.ref a) [.ExceptHandler none (some n) (b :: bs) p'] X.env) (fun r s2 => match r with
      | .ok f => wpAny (model X.prog X.w) X.A (do bindName X.env n .none; unbindBehindTheSuite X.env n p') (fun _ s3 => SP X pins D f s3) X.xe s2
      | .error x => cameBackBy (model X.prog X.w) X.A X.env X.xe x s2) s := by
  have ok := c.I.ok
  refine codeAny_handlers_suite_as (HandSPX.lands_againZ c.fl fun h4 f4 u4 => ?_)
  obtain ⟨o, _, z, dt, S⟩ := (c.on f4 u4).record hf
  refine store_ok (X := X.suite a ((a, o) :: (X.pn ++ pins))) (v := .ref a) S hN slot (.inl loc) rfl (fun s5 S5 => ?_) (.inr loc)
  refine wpAny_mono ((su a o cls d _ z dt).run [] s5 _ H _ S5 h) (fun f s6 g => ?_) fun _ _ y => y.elim
  cases f with
  | ret u =>
    obtain ⟨v, σ6, H6, S6, r, g⟩ := g
    exact gone_ok (S6.unsuite ok) hN slot loc fun s7 J => ⟨v, _, _, J, r, g⟩
  | next =>
    obtain ⟨σ6, H6, S6, g⟩ := g
    exact gone_ok (S6.unsuite ok) hN slot loc fun s7 J => ⟨_, _, J, g⟩
  | cont =>
    obtain ⟨σ6, H6, S6, g⟩ := g
    exact gone_ok (S6.unsuite ok) hN slot loc fun s7 J => ⟨_, _, J, g⟩
  | brk =>
    obtain ⟨σ6, H6, S6, g⟩ := g
    exact gone_ok (S6.unsuite ok) hN slot loc fun s7 J => ⟨_, _, J, g⟩
/-- the clauses, one behind the other -/
theorem caught_each {D : Ends} {W : WX} (hs : X.stack = X.env :: X.outer) (hf : X.env.frame = some X.env.locals) (hN : X.N.Nodup) (tk : Takes X W) {hds : List ExceptHandler} {l : List Cl} (k : ClsOk X hds l)
    (c : Caught X pins σ H sI s B a cls d) (w : wEach X.K W D l cls d σ H) : wpAny (model X.prog X.w) X.A (handleBy (.ref a) X.env hds) (SP X pins D) X.xe s := by
  induction k with
  | none => exact caught_out hs hf tk c w
  | @more x n q b bs p p' hds l named slot loc su rest ih =>
    obtain ⟨yes, hyes, w1, w0⟩ := w
    obtain ⟨o, eo, z, _, S⟩ := c.record hf
    refine wpAny_handleBy_cons (codeAny_handlers_test ?_) (fun q => nomatch q)
    have look : PySem.W.Looks (model X.prog X.w) s.heap (typeOf (.ref a)) cls := fun A Q E t k y => wpAny_typeOf_ref (k _ _ eo) (by rw [z.1]; exact y)
    have meets := PySem.W.exm_one (M := model X.prog X.w) (c.inv.kIn) look hyes
    have asked : ∀ {Q E : Value → Shared → Prop}, Q q.c s → wpAny (model X.prog X.w) (X.A.mark (some (.ref a))) (eval (.Name x p) X.env) Q E s := fun {Q E} y => by
      obtain ⟨hg, nd, hm | ⟨hm, hv, nn⟩⟩ := named
      · exact ld_glob (X := X.suite a ((a, o) :: (X.pn ++ pins))) S hg hm y nd
      · exact ld_blt (X := X.suite a ((a, o) :: (X.pn ++ pins))) S hg hm hv y nn nd
    refine asked (meets.here ?_)
    cases yes with
    | false => exact ih (w0 rfl)
    | true => exact caught_suite hf hN slot loc su c (w1 rfl a c.na)
end
/-- try: body, except x as n: suite, except y as m: suite, .. -/
theorem ps_try_each {X : Cx} {body : List Stmt} {h0 : ExceptHandler} {hds : List ExceptHandler} {l : List Cl} {pos : Pos} {tb : WX → TS} {Wout : WX} (hs : X.stack = X.env :: X.outer) (hf : X.env.frame = some X.env.locals) (hN : X.N.Nodup) (tk : Takes X Wout)
    (hb : ∀ (W : WX) (pn : List (Addr × Obj)) (xe : Value → Shared → Prop), Takes (X.tr pn xe) W → PassesOwn (model X.prog X.w) X.A X.env xe → PSs (X.tr pn xe) body (tb W)) (k : ClsOk X (h0 :: hds) l) :
    PS X (.Try body (h0 :: hds) [] [] pos) (fun D σ H => tb (wEach X.K Wout D l) D σ H) := by
  constructor
  intro pins s σ H D I h
  have ok := I.ok
  refine wpAny_Try_except (wpAny_mono ((hb (wEach X.K Wout D l) (X.pn ++ pins) _ ?_ PassesOwn.looking).run [] s σ H D (I.toTry _) h) ?_ fun e t z => z)
  · rintro u t ⟨a, B, sI, pins', σ', H', cls, d, rfl, J, nb, up, sky, na, os, ag, w⟩
    rw [show (X.tr (X.pn ++ pins) _).stack = X.env :: X.outer from hs] at sky
    refine Sky.land Zc.steady (by rw [ok.frames, hs]) hf sky fun h3 f3 u3 => ?_
    exact caught_each hs hf hN tk k ⟨J.ofTry ok, nb, up.trans u3, f3, na, os, ag⟩ w
  · intro f t g
    cases f with
    | ret u =>
      obtain ⟨v, σ', H', J, r, g⟩ := g
      exact ⟨v, σ', H', J.ofTry ok, r, g⟩
    | next =>
      obtain ⟨σ', H', J, g⟩ := g
      exact wpAny_execs_nil ⟨σ', H', J.ofTry ok, g⟩
    | cont =>
      obtain ⟨σ', H', J, g⟩ := g
      exact ⟨σ', H', J.ofTry ok, g⟩
    | brk =>
      obtain ⟨σ', H', J, g⟩ := g
      exact ⟨σ', H', J.ofTry ok, g⟩
end Own

namespace Own
open PySem PySem.Spec PyProof.Rows L2
/-- two tuples of the same values, whatever these are -/
def rTwo (K : PySem.W.Frag) (b : Bool) : R2 := fun x y H Q => ∃ (l m : Addr) (zs : List V), x = .ref l ∧ y = .ref m ∧ SqT K H l zs ∧ SqT K H m zs ∧ (∀ z ∈ zs, Selfy z) ∧ Q (.bl b) H
section
variable {X : Cx}
theorem vals_alike {A : Around} {s : Shared} {zs : List V} {us ws : List Value} (h : ∀ z ∈ zs, Selfy z) (ru : Vals zs us) (rw' : Vals zs ws) : ∀ (j : Nat) (h1 : j < us.toArray.size) (h2 : j < ws.toArray.size), SeqAt.EqAt A s us.toArray[j] ws.toArray[j] true := by
  intro j h1 h2
  have l1 := ru.length
  have l2 := rw'.length
  simp only [List.size_toArray] at h1 h2
  simp only [List.getElem_toArray]
  have hz : j < zs.length := by omega
  obtain ⟨a, ea, ra⟩ := ru.get (List.getElem?_eq_getElem hz)
  obtain ⟨b, eb, rb⟩ := rw'.get (List.getElem?_eq_getElem hz)
  rw [(List.getElem?_eq_some_iff.mp ea).2, (List.getElem?_eq_some_iff.mp eb).2]
  exact selfy_at (h _ (List.getElem_mem hz)) ra rb
theorem op_eqTwo (hu : X.A.units + 64 < cLine) : OpR X (compareOp .Eq) (rTwo X.K true) := by
  intro pins s σ H x y v u Q I rx ry h
  obtain ⟨l, m, zs, rfl, rfl, h1, h2, hz, q⟩ := h
  cases (show v = Value.ref l from rx)
  cases (show u = Value.ref m from ry)
  obtain ⟨us, r1, t1, _⟩ := I.tuple h1
  obtain ⟨ws, r2, t2, _⟩ := I.tuple h2
  have := SeqAt.RcAt.tuples (A := X.A) (e := fun _ => true) t1 t2 (by omega) (vals_alike hz r1 r2)
  have e : ((List.range (min us.toArray.size ws.toArray.size)).all (fun _ => true) && us.toArray.size == ws.toArray.size) = true := by
    have l1 := r1.length
    have l2 := r2.length
    simp
    omega
  rw [e] at this
  exact this X.prog X.w _ _ ⟨.bl true, H, I, rfl, q⟩
theorem op_neTwo (hu : X.A.units + 64 < cLine) : OpR X (compareOp .NotEq) (rTwo X.K false) := by
  intro pins s σ H x y v u Q I rx ry h
  obtain ⟨l, m, zs, rfl, rfl, h1, h2, hz, q⟩ := h
  cases (show v = Value.ref l from rx)
  cases (show u = Value.ref m from ry)
  obtain ⟨us, r1, t1, _⟩ := I.tuple h1
  obtain ⟨ws, r2, t2, _⟩ := I.tuple h2
  have := SeqAt.RcNeAt.tuples (A := X.A) (e := fun _ => true) t1 t2 (by omega) (vals_alike hz r1 r2)
  have e : (!((List.range (min us.toArray.size ws.toArray.size)).all (fun _ => true) && us.toArray.size == ws.toArray.size)) = false := by
    have l1 := r1.length
    have l2 := r2.length
    simp
    omega
  rw [e] at this
  exact this X.prog X.w _ _ ⟨.bl false, H, I, rfl, q⟩
end
/-! ### called with what may be refused: two kinds of error -/
/-- told back: nothing, or the value of the one error or of the other behind its word -/
def spTold2 (C1 C2 : Addr) (f1 f2 t1 t2 : Str) : (Hp → VK → XK → Prop) → List V → Hp → VK → Prop := fun tl rest H Q => rest = [] ∧ ∀ (p : Addr) (H0 : Hp), Same H H0 → H0 p = some (.tup []) →
  (((∀ (Q' : VK) (E' : XK), (∀ (v : V) (H1 : Hp), Same H0 H1 → Q' v H1) → tl H0 Q' E') ∧ ∀ H1, Same H0 H1 → Q (.ref p) H1) ∨
  (∃ v : V, (∀ (Q' : VK) (E' : XK), Bad C1 f1 v H0 E' → tl H0 Q' E') ∧ ∀ (r : Addr) (H1 : Hp), Same H0 H1 → H1 r = some (.tup [.str t1, v]) → Q (.ref r) H1) ∨
  (∃ v : V, (∀ (Q' : VK) (E' : XK), Bad C2 f2 v H0 E' → tl H0 Q' E') ∧ ∀ (r : Addr) (H1 : Hp), Same H0 H1 → H1 r = some (.tup [.str t2, v]) → Q (.ref r) H1))
end Own

/-! own layer, of no law: OWO2: the least and the greatest running total over all orders: none is beyond. -/
namespace Own
open PySem PySem.Spec PyProof.Rows L2 LamX NdefX
/-! ### what an entry brings -/
def bsE (U : Int) (t : Str) (x : Int) : Int := if isLoose U x t = true then x / U else near x U t
def evE (U : Int) (t : Str) (x : Int) : Int := if (isLoose U x t && decide (x / U % 2 = 0)) = true then 1 else 0
def odE (U : Int) (t : Str) (x : Int) : Int := if (isLoose U x t && decide (x / U % 2 = 1)) = true then 1 else 0
def kyE (U : Int) (t : Str) (x : Int) : Int := if (!isLoose U x t && decide (near x U t % 2 = 1)) = true then 1 else 0
/-- whether it is one of those that come first -/
def inL (dn : Bool) (U x : Int) : Bool := decide (decide (x / U < 0) = dn)
def lfE (dn : Bool) (U : Int) (t : Str) (x : Int) : Int := if (inL dn U x && isLoose U x t) = true then 1 else 0
def vlE (U : Int) (t : Str) (x : Int) : Int := if isLoose U x t = true then x / U + 1 else near x U t
def rmE (dn : Bool) (U : Int) (t : Str) (x : Int) : Int := if inL dn U x = true then (if dn = true then -vlE U t x else vlE U t x) else 0
def szE (dn : Bool) (U x : Int) : Int := if dn = true then x / U + 1 else -(x / U) - 1
def csC (dn : Bool) (U : Int) (t : Str) (x : Int) : Bool := isLoose U x t && !inL dn U x
def csOf (dn : Bool) (U : Int) (t : Str) (es : List (Int × Nat)) : List (Int × Nat) := (es.filter fun e => csC dn U t e.1).map fun e => (szE dn U e.1, e.2)
def roomR (dn : Bool) (U : Int) (t : Str) (es : List (Int × Nat)) : Int := wsum (rmE dn U t) es - (if dn = true then 0 else 1)
/-- the greatest running total, by [29] -/
def Hi (dn : Bool) (U : Int) (t : Str) (es : List (Int × Nat)) (h : Int) : Prop := ∃ m, Mst (csOf dn U t es) (roomR dn U t es) m ∧ h = wsum (bsE U t) es + wsum (lfE dn U t) es + m
theorem Hi.one {dn : Bool} {U : Int} {t : Str} {es : List (Int × Nat)} {h h' : Int} (a : Hi dn U t es h) (b : Hi dn U t es h') : h = h' := by
  obtain ⟨m, h1, h2⟩ := a
  obtain ⟨m', g1, g2⟩ := b
  rw [h2, g2, h1.one g1]
section
variable {U x s : Int} {t : Str} {dn : Bool}
theorem cs_cons (e : Int × Nat) (es : List (Int × Nat)) : csOf dn U t (e :: es) = if csC dn U t e.1 = true then (szE dn U e.1, e.2) :: csOf dn U t es else csOf dn U t es := by
  unfold csOf
  rw [List.filter_cons]
  split <;> rfl
theorem cs_ones (y : Int) (ys : List Int) : csOf dn U t (ones (y :: ys)) = if csC dn U t y = true then (szE dn U y, 1) :: csOf dn U t (ones ys) else csOf dn U t (ones ys) := cs_cons _ _
theorem cs_perm {es fs : List (Int × Nat)} (h : List.Perm es fs) : List.Perm (csOf dn U t es) (csOf dn U t fs) := (h.filter _).map _
theorem near_two : near x U t = x / U ∨ near x U t = x / U + 1 := by
  unfold near
  split
  · exact .inl rfl
  · split
    · exact .inr rfl
    · exact .inl rfl
theorem inL_pos : inL true U x = decide (x / U < 0) := by
  unfold inL
  by_cases h : x / U < 0 <;> simp [h]
theorem inL_neg : inL false U x = decide (0 ≤ x / U) := by
  unfold inL
  by_cases h : x / U < 0
  · rw [decide_eq_true h]
    simp
    omega
  · rw [decide_eq_false h]
    simp
    omega
/-- of the sizes none is below what is told -/
theorem cs_low (hU : 0 < U) {es : List (Int × Nat)} : ∀ e ∈ csOf dn U t es, (if dn = true then (1 : Int) else 0) ≤ e.1 := by
  intro e he
  obtain ⟨q, hq, rfl⟩ := List.mem_map.mp he
  have c := (List.mem_filter.mp hq).2
  show _ ≤ szE dn U q.1
  unfold csC at c
  cases dn with
  | true =>
    rw [inL_pos] at c
    have : ¬ q.1 / U < 0 := by
      intro z
      rw [decide_eq_true z] at c
      simp at c
    show (1 : Int) ≤ q.1 / U + 1
    omega
  | false =>
    rw [inL_neg] at c
    have : ¬ 0 ≤ q.1 / U := by
      intro z
      rw [decide_eq_true z] at c
      simp at c
    show (0 : Int) ≤ -(q.1 / U) - 1
    omega
/-! ### cut, halfcut -/
theorem cut_run (hU : 0 < U) (ht : t ∈ cutW) : ∀ (ys : List Int) (s N P : Int), P ≤ N → P - N ≤ s → ∃ p c u : Int, Ch (csOf true U t (ones ys)) p c ∧ 0 ≤ u ∧ runL U t ys s = s + wsum (bsE U t) (ones ys) + (wsum (lfE true U t) (ones ys) - u) + p ∧ P + c ≤ N + wsum (rmE true U t) (ones ys) + u
  | [], s, N, P, h1, h2 => ⟨0, 0, 0, .nil, Int.le_refl _, by rw [wsum_ones_nil, wsum_ones_nil]; show s = _; omega, by rw [wsum_ones_nil]; omega⟩
  | x :: ys, s, N, P, h1, h2 => by
    obtain ⟨hw, hne⟩ := cut_way ht
    rw [runL_cons, wsum_ones, wsum_ones, wsum_ones, cs_ones]
    by_cases l : isLoose U x t = true
    · have st := stp_side hU hw l hne s
      rw [addS_cut ht] at st
      have b : bsE U t x = x / U := by unfold bsE; rw [if_pos l]
      have v : vlE U t x = x / U + 1 := by unfold vlE; rw [if_pos l]
      by_cases f : x / U < 0
      · have i : inL true U x = true := by rw [inL_pos, decide_eq_true f]
        have lf : lfE true U t x = 1 := by unfold lfE; rw [i, l]; rfl
        have rm : rmE true U t x = -(x / U + 1) := by unfold rmE; rw [if_pos i, if_pos rfl, v]
        have cc : csC true U t x = false := by unfold csC; rw [i]; simp
        rw [if_neg (by rw [cc]; decide)]
        by_cases g : 0 ≤ s + x / U
        · rw [if_pos g] at st
          obtain ⟨p, c, u, a1, a2, a3, a4⟩ := cut_run hU ht ys (stp U x t s) (N - x / U) P (by omega) (by omega)
          exact ⟨p, c, u + 1, a1, by omega, by omega, by omega⟩
        · rw [if_neg g] at st
          obtain ⟨p, c, u, a1, a2, a3, a4⟩ := cut_run hU ht ys (stp U x t s) (N - (x / U + 1)) P (by omega) (by omega)
          exact ⟨p, c, u, a1, by omega, by omega, by omega⟩
      · have i : inL true U x = false := by rw [inL_pos, decide_eq_false f]
        have lf : lfE true U t x = 0 := by unfold lfE; rw [i]; rfl
        have rm : rmE true U t x = 0 := by unfold rmE; rw [i]; rfl
        have cc : csC true U t x = true := by unfold csC; rw [i, l]; rfl
        rw [if_pos cc]
        have sz : szE true U x = x / U + 1 := rfl
        by_cases g : 0 ≤ s + x / U
        · rw [if_pos g] at st
          obtain ⟨p, c, u, a1, a2, a3, a4⟩ := cut_run hU ht ys (stp U x t s) N P h1 (by omega)
          exact ⟨p, c, u, .to 0 (Int.le_refl _) (by decide) a1 (by omega) (by omega), by omega, by omega, by omega⟩
        · rw [if_neg g] at st
          obtain ⟨p, c, u, a1, a2, a3, a4⟩ := cut_run hU ht ys (stp U x t s) N (P + (x / U + 1)) (by omega) (by omega)
          exact ⟨1 + p, (x / U + 1) + c, u, .to 1 (by decide) (by decide) a1 rfl (by omega), by omega, by omega, by omega⟩
    · have l' : isLoose U x t = false := eq_false_of_ne_true l
      have st := stp_tight (s := s) hU hw l'
      have b : bsE U t x = near x U t := by unfold bsE; rw [if_neg l]
      have v : vlE U t x = near x U t := by unfold vlE; rw [if_neg l]
      have lf : lfE true U t x = 0 := by unfold lfE; rw [l']; simp
      have cc : csC true U t x = false := by unfold csC; rw [l']; rfl
      rw [if_neg (by rw [cc]; decide)]
      have two := near_two (x := x) (U := U) (t := t)
      by_cases f : x / U < 0
      · have i : inL true U x = true := by rw [inL_pos, decide_eq_true f]
        have rm : rmE true U t x = -near x U t := by unfold rmE; rw [if_pos i, if_pos rfl, v]
        obtain ⟨p, c, u, a1, a2, a3, a4⟩ := cut_run hU ht ys (stp U x t s) (N - near x U t) P (by omega) (by omega)
        exact ⟨p, c, u, a1, by omega, by omega, by omega⟩
      · have i : inL true U x = false := by rw [inL_pos, decide_eq_false f]
        have rm : rmE true U t x = 0 := by unfold rmE; rw [i]; rfl
        obtain ⟨p, c, u, a1, a2, a3, a4⟩ := cut_run hU ht ys (stp U x t s) N P h1 (by omega)
        exact ⟨p, c, u, a1, by omega, by omega, by omega⟩
/-- one of the sizes is put back -/
theorem Ch.less {l : List (Int × Nat)} {n c : Int} (h : Ch l n c) : (∀ e ∈ l, 1 ≤ e.1) → 0 < n → ∃ c', c' ≤ c - 1 ∧ Ch l (n - 1) c' := by
  induction h with
  | nil => exact fun _ z => absurd z (by omega)
  | @more s k l n c j h0 h1 r ih =>
    intro hl hn
    have hs : 1 ≤ s := hl (s, k) List.mem_cons_self
    by_cases z : 0 < j
    · have e : (j - 1) * s = j * s - 1 * s := Int.sub_mul j 1 s
      exact ⟨(j - 1) * s + c, by omega, .to (j - 1) (by omega) (by omega) r (by omega) rfl⟩
    · obtain ⟨c', a, b⟩ := ih (fun e he => hl e (List.mem_cons_of_mem _ he)) (by omega)
      exact ⟨j * s + c', by omega, .to j h0 h1 b (by omega) rfl⟩
theorem Ch.drop {l : List (Int × Nat)} (hl : ∀ e ∈ l, 1 ≤ e.1) : ∀ (u : Nat) {n c r : Int}, Ch l n c → c ≤ r + u → 0 ≤ r → ∃ n' c', Ch l n' c' ∧ n - u ≤ n' ∧ c' ≤ r
  | 0, n, c, r, h, hc, _ => ⟨n, c, h, by omega, by omega⟩
  | u + 1, n, c, r, h, hc, hr => by
    by_cases z : 0 < n
    · obtain ⟨c1, a, b⟩ := h.less hl z
      obtain ⟨n', c', q1, q2, q3⟩ := Ch.drop hl u b (show c1 ≤ r + u by omega) hr
      exact ⟨n', c', q1, by omega, q3⟩
    · have := h.pos.1
      exact ⟨0, 0, Ch.zero l, by omega, hr⟩
theorem wsum_ones_ge {f : Int → Int} {b : Int} (h : ∀ x, 0 ≤ f x) : ∀ ys : List Int, 0 ≤ wsum f (ones ys)
  | [] => Int.le_refl _
  | y :: ys => by
    rw [wsum_ones]
    have := h y
    have := wsum_ones_ge (b := b) h ys
    omega
theorem rm_pos_cut (hU : 0 < U) : 0 ≤ rmE true U t x := by
  unfold rmE
  split
  · rename_i i
    rw [inL_pos] at i
    have f := of_decide_eq_true i
    rw [if_pos rfl]
    unfold vlE
    have two := near_two (x := x) (U := U) (t := t)
    split <;> omega
  · exact Int.le_refl _
theorem cut_high (hU : 0 < U) (ht : t ∈ cutW) {ys : List Int} {h : Int} (H : Hi true U t (ones ys) h) : runL U t ys 0 ≤ h := by
  obtain ⟨m, M, rfl⟩ := H
  obtain ⟨p, c, u, a1, a2, a3, a4⟩ := cut_run hU ht ys 0 0 0 (Int.le_refl _) (by omega)
  have e : roomR true U t (ones ys) = wsum (rmE true U t) (ones ys) := by
    show wsum (rmE true U t) (ones ys) - 0 = _
    omega
  rw [e] at M
  have r0 := wsum_ones_ge (b := 0) (fun x => rm_pos_cut (t := t) (x := x) hU) ys
  obtain ⟨n', c', q1, q2, q3⟩ := Ch.drop (fun e he => cs_low (dn := true) hU e he) u.toNat (r := wsum (rmE true U t) (ones ys)) a1 (by omega) r0
  have := (M.2 r0).2 n' c' q1 q3
  omega
/-! ### away, halfaway -/
theorem away_run (hU : 0 < U) (ht : t ∈ awayW) : ∀ (ys : List Int) (s N P : Int), s ≤ N - P → ∃ p c u : Int, Ch (csOf false U t (ones ys)) p c ∧ 0 ≤ u ∧ runL U t ys s = s + wsum (bsE U t) (ones ys) + (wsum (lfE false U t) (ones ys) - u) + p ∧ ((p = 0 ∧ c = 0) ∨ P + c + 1 ≤ N + wsum (rmE false U t) (ones ys) - u) ∧ 0 ≤ wsum (rmE false U t) (ones ys) - u
  | [], s, N, P, h1 => ⟨0, 0, 0, .nil, Int.le_refl _, by rw [wsum_ones_nil, wsum_ones_nil]; show s = _; omega, .inl ⟨rfl, rfl⟩, by rw [wsum_ones_nil]; omega⟩
  | x :: ys, s, N, P, h1 => by
    obtain ⟨hw, hne⟩ := away_way ht
    rw [runL_cons, wsum_ones, wsum_ones, wsum_ones, cs_ones]
    by_cases l : isLoose U x t = true
    · have st := stp_side hU hw l hne s
      rw [addS_away ht] at st
      have b : bsE U t x = x / U := by unfold bsE; rw [if_pos l]
      have v : vlE U t x = x / U + 1 := by unfold vlE; rw [if_pos l]
      by_cases f : 0 ≤ x / U
      · have i : inL false U x = true := by rw [inL_neg, decide_eq_true f]
        have lf : lfE false U t x = 1 := by unfold lfE; rw [i, l]; rfl
        have rm : rmE false U t x = x / U + 1 := by unfold rmE; rw [if_pos i, if_neg (by decide), v]
        have cc : csC false U t x = false := by unfold csC; rw [i]; simp
        rw [if_neg (by rw [cc]; decide)]
        by_cases g : 0 ≤ s + x / U
        · rw [if_pos g] at st
          obtain ⟨p, c, u, a1, a2, a3, a4, a5⟩ := away_run hU ht ys (stp U x t s) (N + (x / U + 1)) P (by omega)
          exact ⟨p, c, u, a1, by omega, by omega, a4.imp id fun _ => by omega, by omega⟩
        · rw [if_neg g] at st
          obtain ⟨p, c, u, a1, a2, a3, a4, a5⟩ := away_run hU ht ys (stp U x t s) (N + x / U) P (by omega)
          exact ⟨p, c, u + 1, a1, by omega, by omega, a4.imp id fun _ => by omega, by omega⟩
      · have i : inL false U x = false := by rw [inL_neg, decide_eq_false f]
        have lf : lfE false U t x = 0 := by unfold lfE; rw [i]; rfl
        have rm : rmE false U t x = 0 := by unfold rmE; rw [i]; rfl
        have cc : csC false U t x = true := by unfold csC; rw [i, l]; rfl
        rw [if_pos cc]
        have sz : szE false U x = -(x / U) - 1 := rfl
        by_cases g : 0 ≤ s + x / U
        · rw [if_pos g] at st
          obtain ⟨p, c, u, a1, a2, a3, a4, a5⟩ := away_run hU ht ys (stp U x t s) N (P + (-(x / U) - 1)) (by omega)
          have c0 := a1.pos
          refine ⟨1 + p, (-(x / U) - 1) + c, u, .to 1 (by decide) (by decide) a1 rfl (by omega), by omega, by omega, .inr ?_, by omega⟩
          rcases a4 with ⟨rfl, rfl⟩ | a4
          · omega
          · omega
        · rw [if_neg g] at st
          obtain ⟨p, c, u, a1, a2, a3, a4, a5⟩ := away_run hU ht ys (stp U x t s) N P (by omega)
          exact ⟨p, c, u, .to 0 (Int.le_refl _) (by decide) a1 (by omega) (by omega), by omega, by omega, a4.imp id fun _ => by omega, by omega⟩
    · have l' : isLoose U x t = false := eq_false_of_ne_true l
      have st := stp_tight (s := s) hU hw l'
      have b : bsE U t x = near x U t := by unfold bsE; rw [if_neg l]
      have v : vlE U t x = near x U t := by unfold vlE; rw [if_neg l]
      have lf : lfE false U t x = 0 := by unfold lfE; rw [l']; simp
      have cc : csC false U t x = false := by unfold csC; rw [l']; rfl
      rw [if_neg (by rw [cc]; decide)]
      have two := near_two (x := x) (U := U) (t := t)
      by_cases f : 0 ≤ x / U
      · have i : inL false U x = true := by rw [inL_neg, decide_eq_true f]
        have rm : rmE false U t x = near x U t := by unfold rmE; rw [if_pos i, if_neg (by decide), v]
        obtain ⟨p, c, u, a1, a2, a3, a4, a5⟩ := away_run hU ht ys (stp U x t s) (N + near x U t) P (by omega)
        exact ⟨p, c, u, a1, by omega, by omega, a4.imp id fun _ => by omega, by omega⟩
      · have i : inL false U x = false := by rw [inL_neg, decide_eq_false f]
        have rm : rmE false U t x = 0 := by unfold rmE; rw [i]; rfl
        obtain ⟨p, c, u, a1, a2, a3, a4, a5⟩ := away_run hU ht ys (stp U x t s) N P (by omega)
        exact ⟨p, c, u, a1, by omega, by omega, a4.imp id fun _ => by omega, by omega⟩
theorem away_high (hU : 0 < U) (ht : t ∈ awayW) {ys : List Int} {h : Int} (H : Hi false U t (ones ys) h) : runL U t ys 0 ≤ h := by
  obtain ⟨m, M, rfl⟩ := H
  obtain ⟨p, c, u, a1, a2, a3, a4, a5⟩ := away_run hU ht ys 0 0 0 (by omega)
  have e : roomR false U t (ones ys) = wsum (rmE false U t) (ones ys) - 1 := rfl
  rw [e] at M
  have m0 := M.pos
  rcases a4 with ⟨rfl, rfl⟩ | a4
  · omega
  · have c0 := a1.pos.2 fun e he => cs_low (dn := false) hU e he
    have := (M.2 (by omega)).2 p c a1 (by omega)
    omega
/-! ### halfeven -/
theorem two_bits {a : Int} : a % 2 = 0 ∨ a % 2 = 1 := by omega
theorem even_run (hU : 0 < U) : ∀ (ys : List Int) (s : Int), ∃ le uo : Int, 0 ≤ le ∧ le ≤ wsum (evE U "halfeven") (ones ys) ∧ 0 ≤ uo ∧ uo ≤ wsum (odE U "halfeven") (ones ys) ∧
    runL U "halfeven" ys s = s + wsum (bsE U "halfeven") (ones ys) + le + wsum (odE U "halfeven") (ones ys) - uo ∧ le + uo + runL U "halfeven" ys s % 2 ≤ wsum (kyE U "halfeven") (ones ys) + s % 2
  | [], s => ⟨0, 0, Int.le_refl _, Int.le_refl _, Int.le_refl _, Int.le_refl _, by rw [wsum_ones_nil, wsum_ones_nil]; show s = _; omega, by rw [wsum_ones_nil]; show 0 + 0 + s % 2 ≤ _; omega⟩
  | x :: ys, s => by
    rw [runL_cons, wsum_ones, wsum_ones, wsum_ones, wsum_ones]
    by_cases l : isLoose U x "halfeven" = true
    · have st := stp_even hU l s
      have b : bsE U "halfeven" x = x / U := by unfold bsE; rw [if_pos l]
      have ky : kyE U "halfeven" x = 0 := by unfold kyE; rw [l]; rfl
      have ev : evE U "halfeven" x = if x / U % 2 = 0 then 1 else 0 := by unfold evE; rw [l]; simp
      have od : odE U "halfeven" x = if x / U % 2 = 1 then 1 else 0 := by unfold odE; rw [l]; simp
      obtain ⟨le, uo, a1, a2, a3, a4, a5, a6⟩ := even_run hU ys (stp U x "halfeven" s)
      generalize runL U "halfeven" ys (stp U x "halfeven" s) = R at a5 a6 ⊢
      generalize stp U x "halfeven" s = S at *
      generalize x / U = F at *
      rw [b, ky]
      by_cases f : F % 2 = 0
      · rw [if_pos f] at ev
        rw [if_neg (by omega)] at od
        rw [ev, od]
        by_cases g : s % 2 = 0
        · exact ⟨le, uo, a1, by omega, a3, by omega, by omega, by omega⟩
        · exact ⟨le + 1, uo, by omega, by omega, a3, by omega, by omega, by omega⟩
      · rw [if_neg f] at ev
        rw [if_pos (by omega)] at od
        rw [ev, od]
        by_cases g : s % 2 = 0
        · exact ⟨le, uo, a1, by omega, a3, by omega, by omega, by omega⟩
        · exact ⟨le, uo + 1, a1, by omega, by omega, by omega, by omega, by omega⟩
    · have l' : isLoose U x "halfeven" = false := eq_false_of_ne_true l
      have st := stp_tight (s := s) hU (show ("halfeven" : Str) ∈ waysL by decide +kernel) l'
      have b : bsE U "halfeven" x = near x U "halfeven" := by unfold bsE; rw [if_neg l]
      have ky : kyE U "halfeven" x = if near x U "halfeven" % 2 = 1 then 1 else 0 := by unfold kyE; rw [l']; simp
      have ev : evE U "halfeven" x = 0 := by unfold evE; rw [l']; rfl
      have od : odE U "halfeven" x = 0 := by unfold odE; rw [l']; rfl
      obtain ⟨le, uo, a1, a2, a3, a4, a5, a6⟩ := even_run hU ys (stp U x "halfeven" s)
      generalize runL U "halfeven" ys (stp U x "halfeven" s) = R at a5 a6 ⊢
      generalize stp U x "halfeven" s = S at *
      generalize near x U "halfeven" = F at *
      rw [b, ky, ev, od]
      refine ⟨le, uo, a1, by omega, a3, by omega, by omega, ?_⟩
      split <;> omega
/-! ### the others -/
theorem flat_run (hU : 0 < U) (ht : t ∈ flatW) : ∀ (ys : List Int) (s : Int), runL U t ys s = s + wsum (bsE U t) (ones ys)
  | [], s => by
    rw [wsum_ones_nil]
    show s = _
    omega
  | x :: ys, s => by
    have hw : t ∈ waysL := by
      simp only [flatW, List.mem_cons, List.not_mem_nil, or_false] at ht
      rcases ht with rfl | rfl | rfl | rfl <;> decide +kernel
    have l := loose_no (U := U) (x := x) ht
    have st := stp_tight (s := s) hU hw l
    have b : bsE U t x = near x U t := by unfold bsE; rw [l]; rfl
    rw [runL_cons, wsum_ones, flat_run hU ht ys, st, b]
    omega
/-! ### the negatives -/
theorem mirr_self (ht : t ∈ cutW ∨ t ∈ awayW) : mirr t = t := by
  rcases ht with h | h
  · simp only [cutW, List.mem_cons, List.not_mem_nil, or_false] at h
    rcases h with rfl | rfl <;> decide +kernel
  · simp only [awayW, List.mem_cons, List.not_mem_nil, or_false] at h
    rcases h with rfl | rfl <;> decide +kernel
theorem neg_dm (hU : 0 < U) (r : x % U ≠ 0) : -x / U = -(x / U) - 1 ∧ -x % U = U - x % U := by
  have e := Int.emod_add_mul_ediv x U
  have r0 := Int.emod_nonneg x (show U ≠ 0 by omega)
  have r1 := Int.emod_lt_of_pos x hU
  exact dm_of hU (q := -(x / U) - 1) (r := U - x % U) (by rw [Int.sub_mul, Int.neg_mul, Int.mul_comm (x / U)]; omega) (by omega) (by omega)
theorem near_neg (hU : 0 < U) (hw : t ∈ waysL) (ht : t ∈ cutW ∨ t ∈ awayW) : near (-x) U t = -near x U t := by
  by_cases r : x % U = 0
  · have e := Int.emod_add_mul_ediv x U
    have := dm_of (x := -x) (q := -(x / U)) (r := 0) hU (by rw [Int.neg_mul, Int.mul_comm (x / U)]; omega) (Int.le_refl _) hU
    rw [near_zero r, near_zero this.2, this.1]
  · obtain ⟨e1, e2⟩ := neg_dm hU r
    have r1 := Int.emod_lt_of_pos x hU
    have g := goes_mirr hw (x / U) (2 * (x % U) - U)
    rw [mirr_self ht] at g
    rw [near_up r, near_up (by rw [e2]; omega), e1, e2, show 2 * (U - x % U) - U = -(2 * (x % U) - U) by omega, g]
    cases goesUp t (x / U) (2 * (x % U) - U)
    · show -(x / U) - 1 + 1 = -(x / U + 0)
      omega
    · show -(x / U) - 1 + 0 = -(x / U + 1)
      omega
def negs (ys : List Int) : List Int := ys.map fun y => -y
theorem run_neg (hU : 0 < U) (hw : t ∈ waysL) (ht : t ∈ cutW ∨ t ∈ awayW) : ∀ (ys : List Int) (s : Int), runL U t (negs ys) (-s) = -runL U t ys s
  | [], s => rfl
  | y :: ys, s => by
    show runL U t (negs ys) (stp U (-y) t (-s)) = -runL U t ys (stp U y t s)
    have e : stp U (-y) t (-s) = -stp U y t s := by
      show near (-s * U + -y) U t = -near (s * U + y) U t
      rw [show -s * U + -y = -(s * U + y) by rw [Int.neg_mul]; omega]
      exact near_neg hU hw ht
    rw [e, run_neg hU hw ht ys]
/-- the entries with their signs changed -/
def mir (es : List (Int × Nat)) : List (Int × Nat) := es.map fun e => (-e.1, e.2)
theorem mir_ones (ys : List Int) : mir (ones ys) = ones (negs ys) := by
  unfold mir ones negs
  rw [List.map_map, List.map_map]
  rfl
/-! ### the range -/
/-- the least and the greatest one -/
def Ends (U : Int) (t : Str) (es : List (Int × Nat)) (lo hi : Int) : Prop :=
  (t = "halfeven" → lo = wsum (bsE U t) es + wsum (odE U t) es - min (wsum (odE U t) es) (wsum (kyE U t) es) ∧ hi = wsum (bsE U t) es + wsum (odE U t) es + min (wsum (evE U t) es) (wsum (kyE U t) es)) ∧
  (t ∈ cutW → Hi true U t es hi ∧ Hi true U t (mir es) (-lo)) ∧ (t ∈ awayW → Hi false U t es hi ∧ Hi false U t (mir es) (-lo)) ∧ (t ∈ flatW → lo = wsum (bsE U t) es ∧ hi = wsum (bsE U t) es)
theorem Ends.one {es : List (Int × Nat)} {lo hi lo' hi' : Int} (ht : t ∈ waysL) (a : Ends U t es lo hi) (b : Ends U t es lo' hi') : lo = lo' ∧ hi = hi' := by
  obtain ⟨a1, a2, a3, a4⟩ := a
  obtain ⟨b1, b2, b3, b4⟩ := b
  rcases ways_parts ht with h | h | h | h
  · obtain ⟨x1, x2⟩ := a4 h
    obtain ⟨y1, y2⟩ := b4 h
    exact ⟨x1.trans y1.symm, x2.trans y2.symm⟩
  · obtain ⟨x1, x2⟩ := a1 h
    obtain ⟨y1, y2⟩ := b1 h
    exact ⟨x1.trans y1.symm, x2.trans y2.symm⟩
  · obtain ⟨x1, x2⟩ := a2 h
    obtain ⟨y1, y2⟩ := b2 h
    have := x2.one y2
    exact ⟨by omega, x1.one y1⟩
  · obtain ⟨x1, x2⟩ := a3 h
    obtain ⟨y1, y2⟩ := b3 h
    have := x2.one y2
    exact ⟨by omega, x1.one y1⟩
/-- entries of the same weight -/
structure Alike (U : Int) (t : Str) (es fs : List (Int × Nat)) : Prop where
  w : ∀ f : Int → Int, wsum f es = wsum f fs
  c : ∀ (dn : Bool) (n c : Int), Ch (csOf dn U t es) n c ↔ Ch (csOf dn U t fs) n c
theorem Alike.perm {es fs : List (Int × Nat)} (h : List.Perm es fs) : Alike U t es fs := ⟨fun f => wsum_perm f h, fun dn n c => ⟨Ch.perm (cs_perm h), Ch.perm (cs_perm h.symm)⟩⟩
theorem Alike.trans {es fs gs : List (Int × Nat)} (a : Alike U t es fs) (b : Alike U t fs gs) : Alike U t es gs := ⟨fun f => (a.w f).trans (b.w f), fun dn n c => (a.c dn n c).trans (b.c dn n c)⟩
theorem Alike.symm {es fs : List (Int × Nat)} (a : Alike U t es fs) : Alike U t fs es := ⟨fun f => (a.w f).symm, fun dn n c => (a.c dn n c).symm⟩
theorem Alike.cons {es fs : List (Int × Nat)} (a : Alike U t es fs) (e : Int × Nat) : Alike U t (e :: es) (e :: fs) := by
  refine ⟨fun f => ?_, fun dn n c => ?_⟩
  · show _ + _ = _ + _
    rw [a.w f]
  · rw [cs_cons, cs_cons]
    split
    · exact Ch.cons_iff (a.c dn) n c
    · exact a.c dn n c
theorem Alike.join {x : Int} {a b : Nat} {es : List (Int × Nat)} : Alike U t ((x, a) :: (x, b) :: es) ((x, a + b) :: es) := by
  refine ⟨fun f => ?_, fun dn n c => ?_⟩
  · show f x * (a : Int) + (f x * (b : Int) + wsum f es) = f x * ((a + b : Nat) : Int) + wsum f es
    rw [Int.natCast_add, Int.mul_add]
    omega
  · rw [cs_cons, cs_cons, cs_cons]
    by_cases h : csC dn U t x = true
    · rw [if_pos h, if_pos h, if_pos h]
      exact Ch.join
    · rw [if_neg h, if_neg h, if_neg h]
theorem Hi.alike {es fs : List (Int × Nat)} {h : Int} (a : Alike U t es fs) (H : Hi dn U t es h) : Hi dn U t fs h := by
  obtain ⟨m, M, e⟩ := H
  refine ⟨m, ?_, by rw [← a.w, ← a.w]; exact e⟩
  have r : roomR dn U t fs = roomR dn U t es := by
    unfold roomR
    rw [a.w]
  rw [r]
  exact (Mst.iff (a.c dn)).mp M
theorem Alike.of_mir {es fs : List (Int × Nat)} (p : List.Perm es fs) : Alike U t (mir es) (mir fs) := Alike.perm (p.map _)
theorem Ends.alike {es fs : List (Int × Nat)} {lo hi : Int} (a : Alike U t es fs) (b : Alike U t (mir es) (mir fs)) (h : Ends U t es lo hi) : Ends U t fs lo hi := by
  obtain ⟨a1, a2, a3, a4⟩ := h
  refine ⟨fun z => ?_, fun z => ⟨(a2 z).1.alike a, (a2 z).2.alike b⟩, fun z => ⟨(a3 z).1.alike a, (a3 z).2.alike b⟩, fun z => ?_⟩
  · rw [← a.w, ← a.w, ← a.w, ← a.w]
    exact a1 z
  · rw [← a.w]
    exact a4 z
/-- no order is beyond -/
theorem ends_hold (hU : 0 < U) (ht : t ∈ waysL) {ys zs : List Int} (p : List.Perm ys zs) {lo hi : Int} (h : Ends U t (ones ys) lo hi) : lo ≤ runL U t zs 0 ∧ runL U t zs 0 ≤ hi := by
  have q : List.Perm (ones ys) (ones zs) := p.map _
  obtain ⟨a1, a2, a3, a4⟩ := h.alike (Alike.perm q) (Alike.of_mir q)
  rcases ways_parts ht with f | f | f | f
  · obtain ⟨x1, x2⟩ := a4 f
    rw [flat_run hU f, x1, x2]
    omega
  · subst f
    obtain ⟨x1, x2⟩ := a1 rfl
    obtain ⟨le, uo, b1, b2, b3, b4, b5, b6⟩ := even_run hU zs 0
    have r := Int.emod_nonneg (runL U "halfeven" zs 0) (show (2 : Int) ≠ 0 by decide)
    rw [Int.min_def] at x1 x2
    split at x1 <;> split at x2 <;> omega
  · obtain ⟨x1, x2⟩ := a2 f
    refine ⟨?_, cut_high hU f x1⟩
    rw [mir_ones] at x2
    have := cut_high hU f x2
    have e := run_neg hU ht (.inl f) zs 0
    rw [show (-0 : Int) = 0 from rfl] at e
    omega
  · obtain ⟨x1, x2⟩ := a3 f
    refine ⟨?_, away_high hU f x1⟩
    rw [mir_ones] at x2
    have := away_high hU f x2
    have e := run_neg hU ht (.inr f) zs 0
    rw [show (-0 : Int) = 0 from rfl] at e
    omega
end
end Own

/-! own layer, of no law: OWO3: orders that reach what is asked: the greatest one, every one between, by halves. -/
namespace Own
open PySem PySem.Spec PyProof.Rows L2 LamX NdefX
section
variable {U x s : Int} {t : Str} {dn : Bool}
theorem cs_app (es fs : List (Int × Nat)) : csOf dn U t (es ++ fs) = csOf dn U t es ++ csOf dn U t fs := by
  unfold csOf
  rw [List.filter_append, List.map_append]
theorem ones_app (ys zs : List Int) : ones (ys ++ zs) = ones ys ++ ones zs := List.map_append
theorem cs_none : ∀ {ys : List Int}, (∀ y ∈ ys, csC dn U t y = false) → csOf dn U t (ones ys) = []
  | [], _ => rfl
  | y :: r, h => by
    rw [cs_ones, if_neg (by rw [h y List.mem_cons_self]; decide), cs_none fun z hz => h z (List.mem_cons_of_mem _ hz)]
theorem cs_all : ∀ {ys : List Int}, (∀ y ∈ ys, csC dn U t y = true) → csOf dn U t (ones ys) = ys.map fun y => (szE dn U y, 1)
  | [], _ => rfl
  | y :: r, h => by
    rw [cs_ones, if_pos (h y List.mem_cons_self), cs_all fun z hz => h z (List.mem_cons_of_mem _ hz)]
    rfl
theorem wsum_none {f : Int → Int} : ∀ {ys : List Int}, (∀ y ∈ ys, f y = 0) → wsum f (ones ys) = 0
  | [], _ => rfl
  | y :: r, h => by
    rw [wsum_ones, h y List.mem_cons_self, wsum_none fun z hz => h z (List.mem_cons_of_mem _ hz)]
    rfl
theorem div_neg (hU : 0 < U) (h : x < 0) : x / U < 0 := Int.ediv_neg_of_neg_of_pos h hU
theorem div_pos' (hU : 0 < U) (h : 0 ≤ x) : 0 ≤ x / U := Int.ediv_nonneg h (by omega)
theorem near_nil (hU : 0 < U) : near 0 U t = 0 := by
  unfold near
  simp
/-! ### settled ones -/
theorem settled_run (hU : 0 < U) (hw : t ∈ waysL) : ∀ (B : List Int) (s : Int), (∀ y ∈ B, isLoose U y t = false) → runL U t B s = s + wsum (bsE U t) (ones B)
  | [], s, _ => by rw [wsum_ones_nil]; show s = _; omega
  | x :: B, s, h => by
    have l := h x List.mem_cons_self
    have b : bsE U t x = near x U t := by unfold bsE; rw [if_neg (by rw [l]; decide)]
    rw [runL_cons, settled_run hU hw B _ fun y hy => h y (List.mem_cons_of_mem _ hy), stp_tight hU hw l, wsum_ones, b]
    omega
/-! ### cut: the greatest -/
theorem cut_ahead (hU : 0 < U) (ht : t ∈ cutW) : ∀ (A : List Int) (s : Int), (∀ y ∈ A, y < 0) → s ≤ 0 → runL U t A s = s - wsum (rmE true U t) (ones A) ∧ runL U t A s = s + wsum (bsE U t) (ones A) + wsum (lfE true U t) (ones A) ∧ 0 ≤ wsum (rmE true U t) (ones A)
  | [], s, _, hs => by
    rw [wsum_ones_nil, wsum_ones_nil, wsum_ones_nil]
    refine ⟨?_, ?_, Int.le_refl _⟩
    · show s = _; omega
    · show s = _; omega
  | x :: A, s, h, hs => by
    obtain ⟨hw, hne⟩ := cut_way ht
    have f := div_neg hU (h x List.mem_cons_self)
    have i : inL true U x = true := by rw [inL_pos, decide_eq_true f]
    rw [runL_cons, wsum_ones, wsum_ones, wsum_ones]
    by_cases l : isLoose U x t = true
    · have st := stp_side hU hw l hne s
      rw [addS_cut ht, if_neg (by omega)] at st
      have b : bsE U t x = x / U := by unfold bsE; rw [if_pos l]
      have v : vlE U t x = x / U + 1 := by unfold vlE; rw [if_pos l]
      have lf : lfE true U t x = 1 := by unfold lfE; rw [i, l]; rfl
      have rm : rmE true U t x = -(x / U + 1) := by unfold rmE; rw [if_pos i, if_pos rfl, v]
      obtain ⟨a1, a2, a3⟩ := cut_ahead hU ht A (stp U x t s) (fun y hy => h y (List.mem_cons_of_mem _ hy)) (by omega)
      exact ⟨by omega, by omega, by omega⟩
    · have l' : isLoose U x t = false := eq_false_of_ne_true l
      have st := stp_tight (s := s) hU hw l'
      have b : bsE U t x = near x U t := by unfold bsE; rw [if_neg l]
      have v : vlE U t x = near x U t := by unfold vlE; rw [if_neg l]
      have lf : lfE true U t x = 0 := by unfold lfE; rw [l']; simp
      have rm : rmE true U t x = -near x U t := by unfold rmE; rw [if_pos i, if_pos rfl, v]
      have two := near_two (x := x) (U := U) (t := t)
      obtain ⟨a1, a2, a3⟩ := cut_ahead hU ht A (stp U x t s) (fun y hy => h y (List.mem_cons_of_mem _ hy)) (by omega)
      exact ⟨by omega, by omega, by omega⟩
theorem cut_above (hU : 0 < U) (ht : t ∈ cutW) : ∀ (L : List Int) (s : Int), (∀ y ∈ L, isLoose U y t = true ∧ 0 ≤ y) → 0 ≤ s → runL U t L s = s + wsum (bsE U t) (ones L)
  | [], s, _, hs => by rw [wsum_ones_nil]; show s = _; omega
  | x :: L, s, h, hs => by
    obtain ⟨hw, hne⟩ := cut_way ht
    obtain ⟨l, hx⟩ := h x List.mem_cons_self
    have f := div_pos' hU hx
    have st := stp_side hU hw l hne s
    rw [addS_cut ht, if_pos (by omega)] at st
    have b : bsE U t x = x / U := by unfold bsE; rw [if_pos l]
    rw [runL_cons, wsum_ones, cut_above hU ht L _ (fun y hy => h y (List.mem_cons_of_mem _ hy)) (by omega), st, b]
    omega
theorem cut_loose (hU : 0 < U) (ht : t ∈ cutW) : ∀ (L : List Int) (s : Int), (∀ y ∈ L, isLoose U y t = true ∧ 0 ≤ y) → Rise (L.map fun y => (szE true U y, 1)) → s ≤ 0 → runL U t L s = s + wsum (bsE U t) (ones L) + gre (L.map fun y => (szE true U y, 1)) (-s)
  | [], s, _, _, hs => by
    rw [wsum_ones_nil]
    show s = s + 0 + 0
    omega
  | x :: L, s, h, hR, hs => by
    obtain ⟨hw, hne⟩ := cut_way ht
    obtain ⟨l, hx⟩ := h x List.mem_cons_self
    have f := div_pos' hU hx
    have hL := fun y hy => h y (List.mem_cons_of_mem x hy)
    have st := stp_side hU hw l hne s
    rw [addS_cut ht] at st
    have b : bsE U t x = x / U := by unfold bsE; rw [if_pos l]
    have c : szE true U x = x / U + 1 := rfl
    rw [runL_cons, wsum_ones, b, List.map_cons]
    show _ = _ + ((if szE true U x = 0 then ((1 : Nat) : Int) else min ((1 : Nat) : Int) (-s / szE true U x)) + gre _ (-s - (if szE true U x = 0 then ((1 : Nat) : Int) else min ((1 : Nat) : Int) (-s / szE true U x)) * szE true U x))
    rw [c, if_neg (by omega)]
    by_cases g : 0 ≤ s + x / U
    · rw [if_pos g] at st
      have d0 : -s / (x / U + 1) = 0 := Int.ediv_eq_zero_of_lt (by omega) (by omega)
      rw [d0, Int.min_eq_right (by decide), Int.zero_mul, Int.sub_zero]
      rw [gre_out (s := x / U + 1) (by omega) (by omega) _ hR.1, cut_above hU ht L _ hL (by omega), st]
      omega
    · rw [if_neg g] at st
      have d1 : 1 ≤ -s / (x / U + 1) := (Int.le_ediv_iff_mul_le (by omega)).mpr (by omega)
      rw [Int.min_eq_left (by omega), cut_loose hU ht L _ hL hR.2 (by omega), st]
      rw [show -(s + (x / U + 1)) = -s - ((1 : Nat) : Int) * (x / U + 1) by omega]
      omega
/-- ahead the ones below nothing, then the loose ones by size, then the rest: the greatest -/
theorem cut_best (hU : 0 < U) (ht : t ∈ cutW) {A L B : List Int} (hA : ∀ y ∈ A, y < 0) (hL : ∀ y ∈ L, isLoose U y t = true ∧ 0 ≤ y) (hR : Rise (L.map fun y => (szE true U y, 1))) (hB : ∀ y ∈ B, isLoose U y t = false ∧ 0 ≤ y) : Hi true U t (ones (A ++ L ++ B)) (runL U t (A ++ L ++ B) 0) := by
  obtain ⟨hw, hne⟩ := cut_way ht
  obtain ⟨a1, a2, a3⟩ := cut_ahead hU ht A 0 hA (Int.le_refl _)
  have iL : ∀ y, 0 ≤ y → inL true U y = false := fun y hy => by
    rw [inL_pos]
    have := div_pos' hU hy
    simp
    omega
  have iA : ∀ y, y < 0 → inL true U y = true := fun y hy => by rw [inL_pos, decide_eq_true (div_neg hU hy)]
  have e : csOf true U t (ones (A ++ L ++ B)) = L.map fun y => (szE true U y, 1) := by
    rw [ones_app, ones_app, cs_app, cs_app, cs_none (ys := A), cs_none (ys := B), cs_all (ys := L), List.nil_append, List.append_nil]
    · intro y hy
      unfold csC
      rw [(hL y hy).1, iL y (hL y hy).2]
      rfl
    · intro y hy
      unfold csC
      rw [(hB y hy).1]
      rfl
    · intro y hy
      unfold csC
      rw [iA y (hA y hy), Bool.not_true, Bool.and_false]
  have r : wsum (rmE true U t) (ones (A ++ L ++ B)) = wsum (rmE true U t) (ones A) := by
    rw [ones_app, ones_app, wsum_app, wsum_app, wsum_none (ys := L), wsum_none (ys := B)]
    · omega
    · intro y hy
      unfold rmE
      rw [iL y (hB y hy).2]
      rfl
    · intro y hy
      unfold rmE
      rw [iL y (hL y hy).2]
      rfl
  have lf : wsum (lfE true U t) (ones (A ++ L ++ B)) = wsum (lfE true U t) (ones A) := by
    rw [ones_app, ones_app, wsum_app, wsum_app, wsum_none (ys := L), wsum_none (ys := B)]
    · omega
    · intro y hy
      unfold lfE
      rw [iL y (hB y hy).2]
      rfl
    · intro y hy
      unfold lfE
      rw [iL y (hL y hy).2]
      rfl
  refine ⟨gre (L.map fun y => (szE true U y, 1)) (wsum (rmE true U t) (ones A)), ?_, ?_⟩
  · rw [e]
    have ro : roomR true U t (ones (A ++ L ++ B)) = wsum (rmE true U t) (ones A) := by
      unfold roomR
      rw [r, if_pos rfl]
      omega
    rw [ro]
    refine gre_is hR (fun q hq => ?_) a3
    obtain ⟨y, hy, rfl⟩ := List.mem_map.mp hq
    have := div_pos' hU (hL y hy).2
    show 0 ≤ y / U + 1
    omega
  · rw [lf, runL_app, runL_app, settled_run hU hw B _ fun y hy => (hB y hy).1, cut_loose hU ht L _ hL hR (by omega)]
    have ws : wsum (bsE U t) (ones (A ++ L ++ B)) = wsum (bsE U t) (ones A) + wsum (bsE U t) (ones L) + wsum (bsE U t) (ones B) := by rw [ones_app, ones_app, wsum_app, wsum_app]
    rw [ws, show -runL U t A 0 = wsum (rmE true U t) (ones A) by omega]
    omega
/-! ### away: the greatest -/
theorem away_ahead (hU : 0 < U) (ht : t ∈ awayW) : ∀ (A : List Int) (s : Int), (∀ y ∈ A, 0 < y) → 0 ≤ s → runL U t A s = s + wsum (rmE false U t) (ones A) ∧ runL U t A s = s + wsum (bsE U t) (ones A) + wsum (lfE false U t) (ones A) ∧ 0 ≤ wsum (rmE false U t) (ones A)
  | [], s, _, hs => by
    rw [wsum_ones_nil, wsum_ones_nil, wsum_ones_nil]
    refine ⟨?_, ?_, Int.le_refl _⟩
    · show s = _; omega
    · show s = _; omega
  | x :: A, s, h, hs => by
    obtain ⟨hw, hne⟩ := away_way ht
    have f := div_pos' hU (Int.le_of_lt (h x List.mem_cons_self))
    have i : inL false U x = true := by rw [inL_neg, decide_eq_true f]
    rw [runL_cons, wsum_ones, wsum_ones, wsum_ones]
    by_cases l : isLoose U x t = true
    · have st := stp_side hU hw l hne s
      rw [addS_away ht, if_pos (by omega)] at st
      have b : bsE U t x = x / U := by unfold bsE; rw [if_pos l]
      have v : vlE U t x = x / U + 1 := by unfold vlE; rw [if_pos l]
      have lf : lfE false U t x = 1 := by unfold lfE; rw [i, l]; rfl
      have rm : rmE false U t x = x / U + 1 := by unfold rmE; rw [if_pos i, if_neg (by decide), v]
      obtain ⟨a1, a2, a3⟩ := away_ahead hU ht A (stp U x t s) (fun y hy => h y (List.mem_cons_of_mem _ hy)) (by omega)
      exact ⟨by omega, by omega, by omega⟩
    · have l' : isLoose U x t = false := eq_false_of_ne_true l
      have st := stp_tight (s := s) hU hw l'
      have b : bsE U t x = near x U t := by unfold bsE; rw [if_neg l]
      have v : vlE U t x = near x U t := by unfold vlE; rw [if_neg l]
      have lf : lfE false U t x = 0 := by unfold lfE; rw [l']; simp
      have rm : rmE false U t x = near x U t := by unfold rmE; rw [if_pos i, if_neg (by decide), v]
      have two := near_two (x := x) (U := U) (t := t)
      obtain ⟨a1, a2, a3⟩ := away_ahead hU ht A (stp U x t s) (fun y hy => h y (List.mem_cons_of_mem _ hy)) (by omega)
      exact ⟨by omega, by omega, by omega⟩
theorem away_below (hU : 0 < U) (ht : t ∈ awayW) : ∀ (L : List Int) (s : Int), (∀ y ∈ L, isLoose U y t = true ∧ y < 0) → s ≤ 0 → runL U t L s = s + wsum (bsE U t) (ones L)
  | [], s, _, hs => by rw [wsum_ones_nil]; show s = _; omega
  | x :: L, s, h, hs => by
    obtain ⟨hw, hne⟩ := away_way ht
    obtain ⟨l, hx⟩ := h x List.mem_cons_self
    have f := div_neg hU hx
    have st := stp_side hU hw l hne s
    rw [addS_away ht, if_neg (by omega)] at st
    have b : bsE U t x = x / U := by unfold bsE; rw [if_pos l]
    rw [runL_cons, wsum_ones, away_below hU ht L _ (fun y hy => h y (List.mem_cons_of_mem _ hy)) (by omega), st, b]
    omega
theorem away_loose (hU : 0 < U) (ht : t ∈ awayW) : ∀ (L : List Int) (s : Int), (∀ y ∈ L, isLoose U y t = true ∧ y < 0) → Rise (L.map fun y => (szE false U y, 1)) → 1 ≤ s → runL U t L s = s + wsum (bsE U t) (ones L) + gre (L.map fun y => (szE false U y, 1)) (s - 1)
  | [], s, _, _, hs => by
    rw [wsum_ones_nil]
    show s = s + 0 + 0
    omega
  | x :: L, s, h, hR, hs => by
    obtain ⟨hw, hne⟩ := away_way ht
    obtain ⟨l, hx⟩ := h x List.mem_cons_self
    have f := div_neg hU hx
    have hL := fun y hy => h y (List.mem_cons_of_mem x hy)
    have st := stp_side hU hw l hne s
    rw [addS_away ht] at st
    have b : bsE U t x = x / U := by unfold bsE; rw [if_pos l]
    have c : szE false U x = -(x / U) - 1 := rfl
    rw [runL_cons, wsum_ones, b, List.map_cons]
    show _ = _ + ((if szE false U x = 0 then ((1 : Nat) : Int) else min ((1 : Nat) : Int) ((s - 1) / szE false U x)) + gre _ ((s - 1) - (if szE false U x = 0 then ((1 : Nat) : Int) else min ((1 : Nat) : Int) ((s - 1) / szE false U x)) * szE false U x))
    rw [c]
    by_cases g : 0 ≤ s + x / U
    · rw [if_pos g] at st
      have one : (if -(x / U) - 1 = 0 then ((1 : Nat) : Int) else min ((1 : Nat) : Int) ((s - 1) / (-(x / U) - 1))) = 1 := by
        by_cases z : -(x / U) - 1 = 0
        · rw [if_pos z]
          rfl
        · rw [if_neg z]
          have d1 : 1 ≤ (s - 1) / (-(x / U) - 1) := (Int.le_ediv_iff_mul_le (by omega)).mpr (by omega)
          exact Int.min_eq_left d1
      rw [one, away_loose hU ht L _ hL hR.2 (by omega), st]
      rw [show s + (x / U + 1) - 1 = s - 1 - 1 * (-(x / U) - 1) by omega]
      omega
    · rw [if_neg g] at st
      have d0 : (s - 1) / (-(x / U) - 1) = 0 := Int.ediv_eq_zero_of_lt (by omega) (by omega)
      rw [if_neg (show ¬ -(x / U) - 1 = 0 by omega), d0, Int.min_eq_right (by decide), Int.zero_mul, Int.sub_zero]
      rw [gre_out (s := -(x / U) - 1) (by omega) (by omega) _ hR.1, away_below hU ht L _ hL (by omega), st]
      omega
theorem away_best (hU : 0 < U) (ht : t ∈ awayW) {A L B : List Int} (hA : ∀ y ∈ A, 0 < y) (hL : ∀ y ∈ L, isLoose U y t = true ∧ y < 0) (hR : Rise (L.map fun y => (szE false U y, 1))) (hB : ∀ y ∈ B, isLoose U y t = false ∧ y ≤ 0) : Hi false U t (ones (A ++ L ++ B)) (runL U t (A ++ L ++ B) 0) := by
  obtain ⟨hw, hne⟩ := away_way ht
  obtain ⟨a1, a2, a3⟩ := away_ahead hU ht A 0 hA (Int.le_refl _)
  have iL : ∀ y, y < 0 → inL false U y = false := fun y hy => by
    rw [inL_neg]
    have := div_neg hU hy
    simp
    omega
  have iA : ∀ y, 0 < y → inL false U y = true := fun y hy => by rw [inL_neg, decide_eq_true (div_pos' hU (Int.le_of_lt hy))]
  have e : csOf false U t (ones (A ++ L ++ B)) = L.map fun y => (szE false U y, 1) := by
    rw [ones_app, ones_app, cs_app, cs_app, cs_none (ys := A), cs_none (ys := B), cs_all (ys := L), List.nil_append, List.append_nil]
    · intro y hy
      unfold csC
      rw [(hL y hy).1, iL y (hL y hy).2]
      rfl
    · intro y hy
      unfold csC
      rw [(hB y hy).1]
      rfl
    · intro y hy
      unfold csC
      rw [iA y (hA y hy), Bool.not_true, Bool.and_false]
  have r : wsum (rmE false U t) (ones (A ++ L ++ B)) = wsum (rmE false U t) (ones A) := by
    rw [ones_app, ones_app, wsum_app, wsum_app, wsum_none (ys := L), wsum_none (ys := B)]
    · omega
    · intro y hy
      obtain ⟨l, h0⟩ := hB y hy
      by_cases z : y < 0
      · unfold rmE
        rw [iL y z]
        rfl
      · obtain rfl : y = 0 := by omega
        unfold rmE vlE
        rw [if_neg (show ¬ isLoose U 0 t = true by rw [l]; decide), near_nil hU]
        split <;> rfl
    · intro y hy
      unfold rmE
      rw [iL y (hL y hy).2]
      rfl
  have lf : wsum (lfE false U t) (ones (A ++ L ++ B)) = wsum (lfE false U t) (ones A) := by
    rw [ones_app, ones_app, wsum_app, wsum_app, wsum_none (ys := L), wsum_none (ys := B)]
    · omega
    · intro y hy
      unfold lfE
      rw [(hB y hy).1, Bool.and_false]
      rfl
    · intro y hy
      unfold lfE
      rw [iL y (hL y hy).2]
      rfl
  have ro : roomR false U t (ones (A ++ L ++ B)) = wsum (rmE false U t) (ones A) - 1 := by
    unfold roomR
    rw [r]
    rfl
  have ws : wsum (bsE U t) (ones (A ++ L ++ B)) = wsum (bsE U t) (ones A) + wsum (bsE U t) (ones L) + wsum (bsE U t) (ones B) := by rw [ones_app, ones_app, wsum_app, wsum_app]
  have low : ∀ q ∈ L.map fun y => (szE false U y, 1), (0 : Int) ≤ q.1 := fun q hq => by
    obtain ⟨y, hy, rfl⟩ := List.mem_map.mp hq
    have := div_neg hU (hL y hy).2
    show 0 ≤ -(y / U) - 1
    omega
  by_cases z : wsum (rmE false U t) (ones A) = 0
  · refine ⟨0, ?_, ?_⟩
    · rw [ro, z]
      exact ⟨fun _ => rfl, fun y => absurd y (by omega)⟩
    · rw [lf, runL_app, runL_app, settled_run hU hw B _ fun y hy => (hB y hy).1, away_below hU ht L _ hL (by omega), ws]
      omega
  · refine ⟨gre (L.map fun y => (szE false U y, 1)) (wsum (rmE false U t) (ones A) - 1), ?_, ?_⟩
    · rw [e, ro]
      exact gre_is hR low (by omega)
    · rw [lf, runL_app, runL_app, settled_run hU hw B _ fun y hy => (hB y hy).1, away_loose hU ht L _ hL hR (by omega), ws, show runL U t A 0 - 1 = wsum (rmE false U t) (ones A) - 1 by omega]
      omega
/-! ### cut: one beside the other -/
theorem cut_step (hU : 0 < U) (ht : t ∈ cutW) {s s' : Int} (h0 : s ≤ s') (h1 : s' ≤ s + 1) : stp U x t s ≤ stp U x t s' ∧ stp U x t s' ≤ stp U x t s + 1 := by
  obtain ⟨hw, hne⟩ := cut_way ht
  by_cases l : isLoose U x t = true
  · have a := stp_side hU hw l hne s
    have b := stp_side hU hw l hne s'
    rw [addS_cut ht] at a b
    rw [a, b]
    split <;> split <;> omega
  · have l' : isLoose U x t = false := eq_false_of_ne_true l
    rw [stp_tight hU hw l', stp_tight hU hw l']
    omega
theorem cut_lip (hU : 0 < U) (ht : t ∈ cutW) : ∀ (ys : List Int) {s s' : Int}, s ≤ s' → s' ≤ s + 1 → runL U t ys s ≤ runL U t ys s' ∧ runL U t ys s' ≤ runL U t ys s + 1
  | [], s, s', h0, h1 => ⟨h0, h1⟩
  | y :: ys, s, s', h0, h1 => by
    obtain ⟨a, b⟩ := cut_step (x := y) hU ht h0 h1
    rw [runL_cons, runL_cons]
    exact cut_lip hU ht ys a b
theorem cut_two (hU : 0 < U) (ht : t ∈ cutW) (x y s : Int) : stp U y t (stp U x t s) ≤ stp U x t (stp U y t s) + 1 := by
  obtain ⟨hw, hne⟩ := cut_way ht
  by_cases l : isLoose U x t = true <;> by_cases k : isLoose U y t = true
  · have a1 := stp_side hU hw l hne s
    have a2 := stp_side hU hw k hne (stp U x t s)
    have b1 := stp_side hU hw k hne s
    have b2 := stp_side hU hw l hne (stp U y t s)
    rw [addS_cut ht] at a1 a2 b1 b2
    rw [a2, b2]
    generalize x / U = X at *
    generalize y / U = Y at *
    generalize stp U x t s = S1 at *
    generalize stp U y t s = S2 at *
    by_cases g : 0 ≤ s + X <;> by_cases h : 0 ≤ s + Y <;> simp only [g, h, if_true, if_false] at a1 b1 <;> (split <;> split <;> omega)
  · have k' : isLoose U y t = false := eq_false_of_ne_true k
    have a1 := stp_side hU hw l hne s
    have b2 := stp_side hU hw l hne (stp U y t s)
    have b1 := stp_tight (s := s) hU hw k'
    rw [addS_cut ht] at a1 b2
    rw [stp_tight hU hw k', b2, a1, b1]
    split <;> split <;> omega
  · have l' : isLoose U x t = false := eq_false_of_ne_true l
    have a2 := stp_side hU hw k hne (stp U x t s)
    have b1 := stp_side hU hw k hne s
    have a1 := stp_tight (s := s) hU hw l'
    rw [addS_cut ht] at a2 b1
    rw [a2, stp_tight hU hw l', stp_tight hU hw l', b1]
    split <;> split <;> omega
  · have k' : isLoose U y t = false := eq_false_of_ne_true k
    have l' : isLoose U x t = false := eq_false_of_ne_true l
    rw [stp_tight hU hw k', stp_tight hU hw l', stp_tight hU hw l', stp_tight hU hw k']
    omega
/-- two beside each other change places: no more than one is lost -/
theorem cut_swap (hU : 0 < U) (ht : t ∈ cutW) (a b : List Int) (x y : Int) : runL U t (a ++ x :: y :: b) 0 ≤ runL U t (a ++ y :: x :: b) 0 + 1 := by
  rw [runL_app, runL_app, runL_cons, runL_cons, runL_cons, runL_cons]
  generalize runL U t a 0 = s
  have d1 := cut_two hU ht x y s
  have d2 := cut_two hU ht y x s
  by_cases z : stp U y t (stp U x t s) ≤ stp U x t (stp U y t s)
  · have := (cut_lip hU ht b z (by omega)).1
    omega
  · exact (cut_lip hU ht b (show stp U x t (stp U y t s) ≤ stp U y t (stp U x t s) by omega) (by omega)).2
/-! ### by halves -/
theorem even_pairs (hU : 0 < U) : ∀ (P : List (Int × Int)) (s : Int), s % 2 = 0 → (∀ p ∈ P, isLoose U p.1 "halfeven" = false ∧ near p.1 U "halfeven" % 2 = 1 ∧ isLoose U p.2 "halfeven" = true) →
    runL U "halfeven" (P.flatMap fun p => [p.1, p.2]) s % 2 = 0 ∧ runL U "halfeven" (P.flatMap fun p => [p.1, p.2]) s = s + wsum (bsE U "halfeven") (ones (P.flatMap fun p => [p.1, p.2])) + wsum (evE U "halfeven") (ones (P.map fun p => p.2))
  | [], s, hs, _ => by
    refine ⟨hs, ?_⟩
    show s = s + 0 + 0
    omega
  | (z, y) :: P, s, hs, h => by
    obtain ⟨l, o, k⟩ := h (z, y) List.mem_cons_self
    dsimp only at l o k
    have s1 := stp_tight (s := s) hU (show ("halfeven" : Str) ∈ waysL by decide +kernel) l
    have s2 := stp_even hU k (stp U z "halfeven" s)
    have b1 : bsE U "halfeven" z = near z U "halfeven" := by unfold bsE; rw [if_neg (by rw [l]; decide)]
    have b2 : bsE U "halfeven" y = y / U := by unfold bsE; rw [if_pos k]
    have ev : evE U "halfeven" y = if y / U % 2 = 0 then 1 else 0 := by unfold evE; rw [k]; simp
    obtain ⟨a1, a2⟩ := even_pairs hU P (stp U y "halfeven" (stp U z "halfeven" s)) (by omega) fun p hp => h p (List.mem_cons_of_mem _ hp)
    have fm : ((z, y) :: P).flatMap (fun p => [p.1, p.2]) = z :: y :: P.flatMap (fun p => [p.1, p.2]) := rfl
    have mp : ((z, y) :: P).map (fun p => p.2) = y :: P.map (fun p => p.2) := rfl
    rw [fm, mp]
    rw [runL_cons, runL_cons, wsum_ones, wsum_ones, wsum_ones, b1, b2]
    refine ⟨a1, ?_⟩
    rw [a2, ev]
    split <;> omega
theorem even_loose (hU : 0 < U) : ∀ (L : List Int) (s : Int), s % 2 = 0 → (∀ y ∈ L, isLoose U y "halfeven" = true) →
    runL U "halfeven" L s % 2 = 0 ∧ runL U "halfeven" L s = s + wsum (bsE U "halfeven") (ones L) + wsum (odE U "halfeven") (ones L)
  | [], s, hs, _ => by
    refine ⟨hs, ?_⟩
    show s = s + 0 + 0
    omega
  | y :: L, s, hs, h => by
    have k := h y List.mem_cons_self
    have s2 := stp_even hU k s
    have b2 : bsE U "halfeven" y = y / U := by unfold bsE; rw [if_pos k]
    have od : odE U "halfeven" y = if y / U % 2 = 1 then 1 else 0 := by unfold odE; rw [k]; simp
    obtain ⟨a1, a2⟩ := even_loose hU L (stp U y "halfeven" s) (by omega) fun p hp => h p (List.mem_cons_of_mem _ hp)
    rw [runL_cons, wsum_ones, wsum_ones, b2]
    refine ⟨a1, ?_⟩
    rw [a2, od]
    split <;> omega
/-- pairs that turn, the other loose ones, the other settled ones -/
theorem even_best (hU : 0 < U) {P : List (Int × Int)} {L B : List Int} (hP : ∀ p ∈ P, isLoose U p.1 "halfeven" = false ∧ near p.1 U "halfeven" % 2 = 1 ∧ isLoose U p.2 "halfeven" = true) (hL : ∀ y ∈ L, isLoose U y "halfeven" = true) (hB : ∀ y ∈ B, isLoose U y "halfeven" = false) :
    runL U "halfeven" ((P.flatMap fun p => [p.1, p.2]) ++ L ++ B) 0 = wsum (bsE U "halfeven") (ones ((P.flatMap fun p => [p.1, p.2]) ++ L ++ B)) + wsum (evE U "halfeven") (ones (P.map fun p => p.2)) + wsum (odE U "halfeven") (ones L) := by
  obtain ⟨a1, a2⟩ := even_pairs hU P 0 rfl hP
  obtain ⟨b1, b2⟩ := even_loose hU L _ a1 hL
  rw [runL_app, runL_app, settled_run hU (by decide +kernel) B _ hB, b2, a2, ones_app, ones_app, wsum_app, wsum_app]
  omega
end
end Own

/-! own layer, of no law: OWO4: how far apart the ends are. -/
namespace Own
open PySem PySem.Spec PyProof.Rows L2 LamX NdefX
section
variable {U x s : Int} {t : Str} {dn : Bool}
theorem wsum_bits {f : Int → Int} (h : ∀ x, 0 ≤ f x ∧ f x ≤ 1) : ∀ ys : List Int, 0 ≤ wsum f (ones ys) ∧ wsum f (ones ys) ≤ ys.length
  | [] => ⟨Int.le_refl _, Int.le_refl _⟩
  | y :: r => by
    obtain ⟨a, b⟩ := wsum_bits h r
    obtain ⟨c, d⟩ := h y
    rw [wsum_ones, List.length_cons]
    omega
theorem ch_len {l : List (Int × Nat)} {n c : Int} (h : Ch l n c) : (∀ e ∈ l, e.2 = 1) → n ≤ l.length := by
  induction h with
  | nil => intro _; exact Int.le_refl _
  | more j h0 h1 r ih =>
    intro hl
    have a := ih fun e he => hl e (List.mem_cons_of_mem _ he)
    have b := hl _ List.mem_cons_self
    dsimp only at b
    rw [b] at h1
    rw [List.length_cons]
    omega
theorem hi_near {ys : List Int} {h : Int} (H : Hi dn U t (ones ys) h) : wsum (bsE U t) (ones ys) ≤ h ∧ h ≤ wsum (bsE U t) (ones ys) + 2 * ys.length := by
  obtain ⟨m, M, rfl⟩ := H
  obtain ⟨a, b⟩ := wsum_bits (f := lfE dn U t) (fun x => by unfold lfE; split <;> decide) ys
  have m0 := M.pos
  have ml : m ≤ ys.length := by
    by_cases z : roomR dn U t (ones ys) < 0
    · rw [M.1 z]; omega
    · obtain ⟨⟨c, _, ch⟩, _⟩ := M.2 (by omega)
      have h1 := ch_len ch fun e he => by
        obtain ⟨q, hq, rfl⟩ := List.mem_map.mp he
        obtain ⟨y, _, rfl⟩ := List.mem_map.mp (List.mem_filter.mp hq).1
        rfl
      have h2 : (csOf dn U t (ones ys)).length ≤ ys.length := by
        unfold csOf
        rw [List.length_map]
        exact Nat.le_trans (List.length_filter_le _ _) (by rw [ones, List.length_map]; exact Nat.le_refl _)
      omega
  omega
theorem run_near (hU : 0 < U) (ht : t ∈ cutW ∨ t ∈ awayW) : ∀ (ys : List Int) (s : Int), s + wsum (bsE U t) (ones ys) ≤ runL U t ys s ∧ runL U t ys s ≤ s + wsum (bsE U t) (ones ys) + ys.length
  | [], s => by
    rw [wsum_ones_nil]
    show s + 0 ≤ s ∧ s ≤ s + 0 + 0
    omega
  | x :: ys, s => by
    have hw : t ∈ waysL ∧ t ≠ "halfeven" := ht.elim cut_way away_way
    obtain ⟨a, b⟩ := run_near hU ht ys (stp U x t s)
    rw [runL_cons, wsum_ones, List.length_cons]
    by_cases l : isLoose U x t = true
    · have st := stp_side hU hw.1 l hw.2 s
      have e : bsE U t x = x / U := by unfold bsE; rw [if_pos l]
      have ad : addS (x / U) t (s + x / U) = x / U ∨ addS (x / U) t (s + x / U) = x / U + 1 := by
        rcases ht with h | h
        · rw [addS_cut h]; split <;> simp
        · rw [addS_away h]; split <;> simp
      rw [e]
      omega
    · have st := stp_tight (s := s) hU hw.1 (eq_false_of_ne_true l)
      have e : bsE U t x = near x U t := by unfold bsE; rw [if_neg l]
      rw [e]
      omega
theorem ends_near (hU : 0 < U) (ht : t ∈ waysL) {ys : List Int} {lo hi : Int} (h : Ends U t (ones ys) lo hi) : lo ≤ hi ∧ wsum (bsE U t) (ones ys) - 2 * ys.length ≤ lo ∧ hi ≤ wsum (bsE U t) (ones ys) + 2 * ys.length := by
  obtain ⟨x1, x2⟩ := ends_hold hU ht (List.Perm.refl ys) h
  refine ⟨by omega, ?_⟩
  obtain ⟨a1, a2, a3, a4⟩ := h
  have side : ∀ dn, (t ∈ cutW ∨ t ∈ awayW) → Hi dn U t (ones ys) hi → Hi dn U t (mir (ones ys)) (-lo) → wsum (bsE U t) (ones ys) - 2 * ys.length ≤ lo ∧ hi ≤ wsum (bsE U t) (ones ys) + 2 * ys.length := fun dn hs h1 h2 => by
    rw [mir_ones] at h2
    have b1 := hi_near h1
    have b2 := hi_near h2
    have r1 := run_near hU hs ys 0
    have r2 := run_near hU hs (negs ys) 0
    have rn := run_neg hU ht hs ys 0
    rw [show (-0 : Int) = 0 from rfl] at rn
    have nl : (negs ys).length = ys.length := List.length_map _
    rw [nl] at b2 r2
    omega
  rcases ways_parts ht with f | f | f | f
  · obtain ⟨y1, y2⟩ := a4 f
    omega
  · obtain ⟨y1, y2⟩ := a1 f
    have e1 := wsum_bits (f := evE U t) (fun x => by unfold evE; split <;> decide) ys
    have e2 := wsum_bits (f := odE U t) (fun x => by unfold odE; split <;> decide) ys
    have e3 := wsum_bits (f := kyE U t) (fun x => by unfold kyE; split <;> decide) ys
    omega
  · exact side true (.inl f) (a2 f).1 (a2 f).2
  · exact side false (.inr f) (a3 f).1 (a3 f).2
theorem wsum_abs {f : Int → Int} {M : Nat} : ∀ {ys : List Int}, (∀ y ∈ ys, (f y).natAbs ≤ M) → (wsum f (ones ys)).natAbs ≤ ys.length * M
  | [], _ => Nat.zero_le _
  | y :: r, h => by
    have a := h y List.mem_cons_self
    have b := wsum_abs (ys := r) fun z hz => h z (List.mem_cons_of_mem _ hz)
    rw [wsum_ones, List.length_cons, Nat.succ_mul]
    omega
end
end Own

set_option maxHeartbeats 1000000
/-! the ends are met by orders; the totals of all orders -/
namespace Own
open PySem
section
variable {U x s : Int} {t : Str}
theorem rise_ex (f : Int → Int) (L : List Int) : ∃ M : List Int, List.Perm M L ∧ Rise (M.map fun y => (f y, 1)) := by
  have key : ∀ L : List Int, ∃ M : List Int, List.Perm M L ∧ M.Pairwise fun a b => f a ≤ f b := by
    intro L
    induction L with
    | nil => exact ⟨[], .nil, .nil⟩
    | cons y L ih =>
      obtain ⟨M, p, sM⟩ := ih
      refine ⟨M.filter (fun z => decide (f z < f y)) ++ y :: M.filter (fun z => !decide (f z < f y)), ?_, ?_⟩
      · exact List.perm_middle.trans (((List.filter_append_perm _ M).trans p).cons y)
      · rw [List.pairwise_append]
        refine ⟨sM.filter _, List.pairwise_cons.mpr ⟨fun z hz => ?_, sM.filter _⟩, fun a ha b hb => ?_⟩
        · have := (List.mem_filter.mp hz).2
          simp only [Bool.not_eq_true', decide_eq_false_iff_not] at this
          omega
        · have h1 := of_decide_eq_true (List.mem_filter.mp ha).2
          rcases List.mem_cons.mp hb with rfl | hb
          · omega
          · have h2 := (List.mem_filter.mp hb).2
            simp only [Bool.not_eq_true', decide_eq_false_iff_not] at h2
            omega
  have rise_of : ∀ M : List Int, M.Pairwise (fun a b => f a ≤ f b) → Rise (M.map fun y => (f y, 1)) := by
    intro M
    induction M with
    | nil => exact fun _ => trivial
    | cons y M ih =>
      intro h
      obtain ⟨h1, h2⟩ := List.pairwise_cons.mp h
      refine ⟨fun e he => ?_, ih h2⟩
      obtain ⟨z, hz, rfl⟩ := List.mem_map.mp he
      exact h1 z hz
  obtain ⟨M, p, sM⟩ := key L
  exact ⟨M, p, rise_of M sM⟩
theorem wsum_same (f : Int → Int) {ys zs : List Int} (p : List.Perm ys zs) : wsum f (ones ys) = wsum f (ones zs) := wsum_perm f (p.map fun y => (y, 1))
theorem hi_met {dn : Bool} {ws zs : List Int} {h : Int} (p : List.Perm zs ws) (a : Hi dn U t (ones ws) h) (b : Hi dn U t (ones zs) (runL U t zs 0)) : runL U t zs 0 = h :=
  (b.alike (Alike.perm (p.map _))).one a
theorem three_parts (f g : Int → Bool) {L : List Int} (ws : List Int) (pL : List.Perm L ((ws.filter fun y => !f y).filter g)) : List.Perm (ws.filter f ++ L ++ (ws.filter fun y => !f y).filter fun y => !g y) ws := by
  rw [List.append_assoc]
  exact (((pL.append_right _).trans (List.filter_append_perm _ _)).append_left _).trans (List.filter_append_perm _ _)
theorem cut_met (hU : 0 < U) (ht : t ∈ cutW) (ws : List Int) {h : Int} (a : Hi true U t (ones ws) h) : ∃ zs, List.Perm zs ws ∧ runL U t zs 0 = h := by
  obtain ⟨L, pL, sL⟩ := rise_ex (szE true U) ((ws.filter fun y => !decide (y < 0)).filter fun y => isLoose U y t)
  have p := three_parts (fun y => decide (y < 0)) (fun y => isLoose U y t) ws pL
  refine ⟨_, p, hi_met p a (cut_best hU ht (fun y hy => of_decide_eq_true (List.mem_filter.mp hy).2) (fun y hy => ?_) sL (fun y hy => ?_))⟩
  · obtain ⟨h1, h2⟩ := List.mem_filter.mp (pL.mem_iff.mp hy)
    have h3 := (List.mem_filter.mp h1).2
    simp only [Bool.not_eq_true', decide_eq_false_iff_not] at h3
    exact ⟨h2, by omega⟩
  · obtain ⟨h1, h2⟩ := List.mem_filter.mp hy
    have h3 := (List.mem_filter.mp h1).2
    simp only [Bool.not_eq_true', decide_eq_false_iff_not] at h3
    exact ⟨by simpa using h2, by omega⟩
theorem loose_nil (hU : 0 < U) : isLoose U 0 t = false := by
  unfold isLoose
  rw [Int.zero_emod]
  have h1 : decide (2 * (0 : Int) = U) = false := decide_eq_false (by omega)
  rw [h1]
  simp
theorem away_met (hU : 0 < U) (ht : t ∈ awayW) (ws : List Int) {h : Int} (a : Hi false U t (ones ws) h) : ∃ zs, List.Perm zs ws ∧ runL U t zs 0 = h := by
  obtain ⟨L, pL, sL⟩ := rise_ex (szE false U) ((ws.filter fun y => !decide (0 < y)).filter fun y => isLoose U y t)
  have p := three_parts (fun y => decide (0 < y)) (fun y => isLoose U y t) ws pL
  refine ⟨_, p, hi_met p a (away_best hU ht (fun y hy => of_decide_eq_true (List.mem_filter.mp hy).2) (fun y hy => ?_) sL (fun y hy => ?_))⟩
  · obtain ⟨h1, h2⟩ := List.mem_filter.mp (pL.mem_iff.mp hy)
    have h3 := (List.mem_filter.mp h1).2
    simp only [Bool.not_eq_true', decide_eq_false_iff_not] at h3
    refine ⟨h2, ?_⟩
    rcases Int.lt_trichotomy y 0 with z | z | z
    · exact z
    · rw [z, loose_nil hU] at h2
      cases h2
    · omega
  · obtain ⟨h1, h2⟩ := List.mem_filter.mp hy
    have h3 := (List.mem_filter.mp h1).2
    simp only [Bool.not_eq_true', decide_eq_false_iff_not] at h3
    exact ⟨by simpa using h2, by omega⟩
theorem negs_negs (ws : List Int) : negs (negs ws) = ws := by
  unfold negs
  rw [List.map_map]
  exact (List.map_congr_left fun y _ => Int.neg_neg y).trans (List.map_id' _)
theorem low_met (hU : 0 < U) (ht : t ∈ cutW ∨ t ∈ awayW) {ws : List Int} {l : Int} (h : ∃ zs, List.Perm zs (negs ws) ∧ runL U t zs 0 = -l) : ∃ zs, List.Perm zs ws ∧ runL U t zs 0 = l := by
  obtain ⟨zs, p, e⟩ := h
  have hw : t ∈ waysL := ht.elim (fun z => (cut_way z).1) (fun z => (away_way z).1)
  refine ⟨negs zs, ?_, ?_⟩
  · have := p.map (fun y => -y)
    rw [show (negs ws).map (fun y => -y) = ws from negs_negs ws] at this
    exact this
  · have r := run_neg hU hw ht zs 0
    rw [show (-0 : Int) = 0 from rfl] at r
    omega
/-! ### by halves -/
theorem even_meet (hU : 0 < U) {X K L B : List Int} (hl : X.length = K.length) (hX : ∀ y ∈ X, isLoose U y "halfeven" = true) (hK : ∀ y ∈ K, isLoose U y "halfeven" = false ∧ near y U "halfeven" % 2 = 1) (hL : ∀ y ∈ L, isLoose U y "halfeven" = true) (hB : ∀ y ∈ B, isLoose U y "halfeven" = false) :
    ∃ zs, List.Perm zs (X ++ K ++ L ++ B) ∧ runL U "halfeven" zs 0 = wsum (bsE U "halfeven") (ones (X ++ K ++ L ++ B)) + wsum (evE U "halfeven") (ones X) + wsum (odE U "halfeven") (ones L) := by
  have flatP : ∀ {X K : List Int}, X.length = K.length → List.Perm ((K.zip X).flatMap fun p => [p.1, p.2]) (X ++ K) := by
    intro X
    induction X with
    | nil => intro K h; cases K with | nil => exact .nil | cons _ _ => cases h
    | cons x X ih =>
      intro K h
      cases K with
      | nil => cases h
      | cons k K =>
        have := ih (K := K) (by simpa using h)
        show List.Perm (k :: x :: ((K.zip X).flatMap fun p => [p.1, p.2])) (x :: (X ++ k :: K))
        exact (List.Perm.swap x k _).trans (((this.cons k).trans List.perm_middle.symm).cons x)
  have sndP : ∀ {X K : List Int}, X.length = K.length → (K.zip X).map (fun p => p.2) = X := by
    intro X
    induction X with
    | nil => intro K h; cases K with | nil => rfl | cons _ _ => cases h
    | cons x X ih =>
      intro K h
      cases K with
      | nil => cases h
      | cons k K =>
        show x :: (K.zip X).map (fun p => p.2) = x :: X
        rw [ih (by simpa using h)]
  have p : List.Perm (((K.zip X).flatMap fun p => [p.1, p.2]) ++ L ++ B) (X ++ K ++ L ++ B) := ((flatP hl).append_right L).append_right B
  refine ⟨_, p, ?_⟩
  rw [even_best hU (fun q hq => ?_) hL hB, sndP hl, wsum_same _ p]
  · obtain ⟨a, b⟩ := q
    obtain ⟨h1, h2⟩ := List.of_mem_zip hq
    exact ⟨(hK a h1).1, (hK a h1).2, hX b h2⟩
theorem wsum_len {f : Int → Int} {b : Int} : ∀ {ys : List Int}, (∀ y ∈ ys, f y = b) → wsum f (ones ys) = b * (ys.length : Int)
  | [], _ => (Int.mul_zero b).symm
  | y :: r, h => by
    rw [wsum_ones, h y List.mem_cons_self, wsum_len fun z hz => h z (List.mem_cons_of_mem _ hz), List.length_cons]
    show b + b * (r.length : Int) = b * ((r.length : Int) + 1)
    rw [Int.mul_add, Int.mul_one]
    omega
/-- the four kinds of entries by halfeven -/
structure Kinds (U : Int) (ws E O K B : List Int) : Prop where
  p : List.Perm (E ++ O ++ K ++ B) ws
  e : ∀ y ∈ E, isLoose U y "halfeven" = true ∧ y / U % 2 = 0
  o : ∀ y ∈ O, isLoose U y "halfeven" = true ∧ y / U % 2 = 1
  k : ∀ y ∈ K, isLoose U y "halfeven" = false ∧ near y U "halfeven" % 2 = 1
  b : ∀ y ∈ B, isLoose U y "halfeven" = false ∧ ¬ near y U "halfeven" % 2 = 1
theorem kinds_ex (U : Int) : ∀ ws : List Int, ∃ E O K B, Kinds U ws E O K B
  | [] => ⟨[], [], [], [], .nil, by simp, by simp, by simp, by simp⟩
  | y :: ws => by
    obtain ⟨E, O, K, B, c⟩ := kinds_ex U ws
    by_cases l : isLoose U y "halfeven" = true
    · rcases two_bits (a := y / U) with z | z
      · exact ⟨y :: E, O, K, B, c.p.cons y, List.forall_mem_cons.mpr ⟨⟨l, z⟩, c.e⟩, c.o, c.k, c.b⟩
      · refine ⟨E, y :: O, K, B, ?_, c.e, List.forall_mem_cons.mpr ⟨⟨l, z⟩, c.o⟩, c.k, c.b⟩
        refine List.Perm.trans ?_ (c.p.cons y)
        rw [List.append_assoc, List.append_assoc, List.append_assoc, List.append_assoc]
        exact List.perm_middle
    · have l : isLoose U y "halfeven" = false := by simpa using l
      by_cases z : near y U "halfeven" % 2 = 1
      · refine ⟨E, O, y :: K, B, ?_, c.e, c.o, List.forall_mem_cons.mpr ⟨⟨l, z⟩, c.k⟩, c.b⟩
        refine List.Perm.trans ?_ (c.p.cons y)
        rw [List.append_assoc, List.append_assoc (E ++ O) K B]
        exact List.perm_middle
      · refine ⟨E, O, K, y :: B, ?_, c.e, c.o, c.k, List.forall_mem_cons.mpr ⟨⟨l, z⟩, c.b⟩⟩
        exact List.perm_middle.trans (c.p.cons y)
theorem Kinds.sums {U : Int} {ws E O K B : List Int} (c : Kinds U ws E O K B) : wsum (evE U "halfeven") (ones ws) = E.length ∧ wsum (odE U "halfeven") (ones ws) = O.length ∧ wsum (kyE U "halfeven") (ones ws) = K.length := by
  have sp : ∀ f : Int → Int, wsum f (ones ws) = wsum f (ones E) + wsum f (ones O) + wsum f (ones K) + wsum f (ones B) := by
    intro f
    rw [← wsum_same f c.p]
    rw [ones_app, ones_app, ones_app, wsum_app, wsum_app, wsum_app]
  refine ⟨?_, ?_, ?_⟩
  · rw [sp, wsum_len (b := 1) fun y hy => by unfold evE; rw [(c.e y hy).1, (c.e y hy).2]; rfl, wsum_len (b := 0) fun y hy => by unfold evE; rw [(c.o y hy).1, (c.o y hy).2]; rfl, wsum_len (b := 0) fun y hy => by unfold evE; rw [(c.k y hy).1]; rfl, wsum_len (b := 0) fun y hy => by unfold evE; rw [(c.b y hy).1]; rfl]
    omega
  · rw [sp, wsum_len (b := 0) fun y hy => by unfold odE; rw [(c.e y hy).1, (c.e y hy).2]; rfl, wsum_len (b := 1) fun y hy => by unfold odE; rw [(c.o y hy).1, (c.o y hy).2]; rfl, wsum_len (b := 0) fun y hy => by unfold odE; rw [(c.k y hy).1]; rfl, wsum_len (b := 0) fun y hy => by unfold odE; rw [(c.b y hy).1]; rfl]
    omega
  · rw [sp, wsum_len (b := 0) fun y hy => by unfold kyE; rw [(c.e y hy).1]; rfl, wsum_len (b := 0) fun y hy => by unfold kyE; rw [(c.o y hy).1]; rfl, wsum_len (b := 1) fun y hy => by unfold kyE; rw [(c.k y hy).1, (c.k y hy).2]; rfl, wsum_len (b := 0) fun y hy => by unfold kyE; rw [(c.b y hy).1, decide_eq_false (c.b y hy).2]; rfl]
    omega
theorem even_side (hU : 0 < U) {ws X Y K B : List Int} (p : List.Perm (X ++ Y ++ K ++ B) ws) (hX : ∀ y ∈ X, isLoose U y "halfeven" = true) (hY : ∀ y ∈ Y, isLoose U y "halfeven" = true) (hK : ∀ y ∈ K, isLoose U y "halfeven" = false ∧ near y U "halfeven" % 2 = 1) (hB : ∀ y ∈ B, isLoose U y "halfeven" = false) :
    ∃ zs, List.Perm zs ws ∧ runL U "halfeven" zs 0 = wsum (bsE U "halfeven") (ones ws) + wsum (evE U "halfeven") (ones (X.take (min X.length K.length))) + wsum (odE U "halfeven") (ones (X.drop (min X.length K.length) ++ Y)) := by
  generalize hm : min X.length K.length = m
  have q : List.Perm (X.take m ++ K.take m ++ (X.drop m ++ Y) ++ (K.drop m ++ B)) ws := by
    refine List.Perm.trans ?_ p
    have e1 : X.take m ++ X.drop m = X := List.take_append_drop m X
    have e2 : K.take m ++ K.drop m = K := List.take_append_drop m K
    calc List.Perm (X.take m ++ K.take m ++ (X.drop m ++ Y) ++ (K.drop m ++ B)) (X.take m ++ (X.drop m ++ Y) ++ K.take m ++ (K.drop m ++ B)) := by
          refine List.Perm.append_right _ ?_
          rw [List.append_assoc, List.append_assoc]
          exact List.perm_append_comm.append_left _
      _ = X ++ Y ++ K ++ B := by
          rw [← List.append_assoc (X.take m), e1, List.append_assoc (X ++ Y), ← List.append_assoc (K.take m), e2, List.append_assoc (X ++ Y)]
      List.Perm _ _ := .refl _
  obtain ⟨zs, pz, ez⟩ := even_meet hU (X := X.take m) (K := K.take m) (L := X.drop m ++ Y) (B := K.drop m ++ B) (by rw [List.length_take, List.length_take]; omega) (fun y hy => hX y (List.mem_of_mem_take hy)) (fun y hy => hK y (List.mem_of_mem_take hy))
    (fun y hy => (List.mem_append.mp hy).elim (fun z => hX y (List.mem_of_mem_drop z)) (hY y)) (fun y hy => (List.mem_append.mp hy).elim (fun z => (hK y (List.mem_of_mem_drop z)).1) (hB y))
  refine ⟨zs, pz.trans q, ?_⟩
  rw [ez]
  have : wsum (bsE U "halfeven") (ones (X.take m ++ K.take m ++ (X.drop m ++ Y) ++ (K.drop m ++ B))) = wsum (bsE U "halfeven") (ones ws) := wsum_same _ q
  rw [this]
theorem even_met (hU : 0 < U) (ws : List Int) {lo hi : Int} (h1 : lo = wsum (bsE U "halfeven") (ones ws) + wsum (odE U "halfeven") (ones ws) - min (wsum (odE U "halfeven") (ones ws)) (wsum (kyE U "halfeven") (ones ws))) (h2 : hi = wsum (bsE U "halfeven") (ones ws) + wsum (odE U "halfeven") (ones ws) + min (wsum (evE U "halfeven") (ones ws)) (wsum (kyE U "halfeven") (ones ws))) :
    (∃ zs, List.Perm zs ws ∧ runL U "halfeven" zs 0 = lo) ∧ ∃ zs, List.Perm zs ws ∧ runL U "halfeven" zs 0 = hi := by
  obtain ⟨E, O, K, B, c⟩ := kinds_ex U ws
  obtain ⟨s1, s2, s3⟩ := c.sums
  have eE : ∀ y ∈ E, evE U "halfeven" y = 1 ∧ odE U "halfeven" y = 0 := fun y hy => by unfold evE odE; rw [(c.e y hy).1, (c.e y hy).2]; exact ⟨rfl, rfl⟩
  have eO : ∀ y ∈ O, evE U "halfeven" y = 0 ∧ odE U "halfeven" y = 1 := fun y hy => by unfold evE odE; rw [(c.o y hy).1, (c.o y hy).2]; exact ⟨rfl, rfl⟩
  constructor
  · obtain ⟨zs, pz, ez⟩ := even_side hU (X := O) (Y := E) (K := K) (B := B) ((((List.perm_append_comm (l₁ := O) (l₂ := E)).append_right K).append_right B).trans c.p) (fun y hy => (c.o y hy).1) (fun y hy => (c.e y hy).1) c.k fun y hy => (c.b y hy).1
    refine ⟨zs, pz, ?_⟩
    rw [ez, h1, s2, s3, wsum_len (b := 0) fun y hy => (eO y (List.mem_of_mem_take hy)).1, ones_app, wsum_app, wsum_len (b := 1) fun y hy => (eO y (List.mem_of_mem_drop hy)).2, wsum_len (b := 0) fun y hy => (eE y hy).2, List.length_drop]
    omega
  · obtain ⟨zs, pz, ez⟩ := even_side hU (X := E) (Y := O) (K := K) (B := B) c.p (fun y hy => (c.e y hy).1) (fun y hy => (c.o y hy).1) c.k fun y hy => (c.b y hy).1
    refine ⟨zs, pz, ?_⟩
    rw [ez, h2, s1, s2, s3, wsum_len (b := 1) fun y hy => (eE y (List.mem_of_mem_take hy)).1, ones_app, wsum_app, wsum_len (b := 0) fun y hy => (eE y (List.mem_of_mem_drop hy)).2, wsum_len (b := 1) fun y hy => (eO y hy).2, List.length_take]
    omega
/-- the ends are met -/
theorem ends_met (hU : 0 < U) (ht : t ∈ waysL) {ws : List Int} {lo hi : Int} (h : Ends U t (ones ws) lo hi) : (∃ zs, List.Perm zs ws ∧ runL U t zs 0 = lo) ∧ ∃ zs, List.Perm zs ws ∧ runL U t zs 0 = hi := by
  obtain ⟨h1, h2, h3, h4⟩ := h
  rcases ways_parts ht with f | rfl | c | a
  · obtain ⟨rfl, rfl⟩ := h4 f
    have e : runL U t ws 0 = wsum (bsE U t) (ones ws) := by rw [flat_run hU f]; omega
    exact ⟨⟨ws, .refl _, e⟩, ⟨ws, .refl _, e⟩⟩
  · obtain ⟨e1, e2⟩ := h1 rfl
    exact even_met hU ws e1 e2
  · obtain ⟨a1, a2⟩ := h2 c
    rw [mir_ones] at a2
    exact ⟨low_met hU (.inl c) (cut_met hU c _ a2), cut_met hU c _ a1⟩
  · obtain ⟨a1, a2⟩ := h3 a
    rw [mir_ones] at a2
    exact ⟨low_met hU (.inr a) (away_met hU a _ a2), away_met hU a _ a1⟩
/-! ### the totals of all orders -/
def totsL (U : Int) (t : Str) : Nat → List Int → Int → List Int
  | 0, _, s => [s]
  | n + 1, row, s => (List.range (n + 1)).flatMap fun i => totsL U t n (row.take i ++ row.drop (i + 1)) (stp U (row.getD i 0) t s)
theorem cut_one {row : List Int} {i : Nat} (h : i < row.length) : List.Perm (row.getD i 0 :: (row.take i ++ row.drop (i + 1))) row ∧ (row.take i ++ row.drop (i + 1)).length = row.length - 1 := by
  have e : row.take i ++ row.getD i 0 :: row.drop (i + 1) = row := by
    rw [List.getD_eq_getElem?_getD, List.getElem?_eq_getElem h]
    show row.take i ++ row[i] :: row.drop (i + 1) = row
    rw [← List.drop_eq_getElem_cons h, List.take_append_drop]
  have p : List.Perm (row.getD i 0 :: (row.take i ++ row.drop (i + 1))) row := by
    have := (List.perm_middle (l₁ := row.take i) (l₂ := row.drop (i + 1)) (a := row.getD i 0)).symm
    rwa [e] at this
  exact ⟨p, by have := p.length_eq; rw [List.length_cons] at this; omega⟩
theorem tots_mem (U : Int) (t : Str) : ∀ (n : Nat) (row : List Int) (s x : Int), row.length = n → (x ∈ totsL U t n row s ↔ ∃ zs, List.Perm zs row ∧ runL U t zs s = x)
  | 0, row, s, x, h => by
    obtain rfl := List.length_eq_zero_iff.mp h
    constructor
    · intro m
      obtain rfl := List.mem_singleton.mp m
      exact ⟨[], .nil, rfl⟩
    · rintro ⟨zs, p, rfl⟩
      obtain rfl := List.perm_nil.mp p
      exact List.mem_singleton.mpr rfl
  | n + 1, row, s, x, h => by
    unfold totsL
    rw [List.mem_flatMap]
    constructor
    · rintro ⟨i, hi, m⟩
      have hi := List.mem_range.mp hi
      obtain ⟨p, l⟩ := cut_one (row := row) (i := i) (by omega)
      obtain ⟨zs, pz, ez⟩ := (tots_mem U t n _ _ x (by omega)).mp m
      exact ⟨_, (pz.cons _).trans p, by rw [runL_cons]; exact ez⟩
    · rintro ⟨zs, pz, ez⟩
      cases zs with
      | nil => have := pz.length_eq; rw [List.length_nil] at this; omega
      | cons y zs =>
        obtain ⟨i, hi, ei⟩ := List.getElem_of_mem (pz.mem_iff.mp (List.mem_cons_self (a := y) (l := zs)))
        have g : row.getD i 0 = y := by rw [List.getD_eq_getElem?_getD, List.getElem?_eq_getElem hi]; exact ei
        obtain ⟨p, l⟩ := cut_one (row := row) (i := i) hi
        refine ⟨i, List.mem_range.mpr (by omega), (tots_mem U t n _ _ x (by omega)).mpr ⟨zs, ?_, ?_⟩⟩
        · rw [g] at p
          exact (pz.trans p.symm).cons_inv
        · rw [g, ← runL_cons]
          exact ez
theorem flat_len_le {α β : Type} {f : α → List β} {M : Nat} : ∀ {l : List α}, (∀ a ∈ l, (f a).length ≤ M) → (l.flatMap f).length ≤ l.length * M
  | [], _ => Nat.zero_le _
  | a :: l, h => by
    rw [List.flatMap_cons, List.length_append, List.length_cons, Nat.add_mul, Nat.one_mul]
    have h1 := h a List.mem_cons_self
    have h2 := flat_len_le (l := l) fun b hb => h b (List.mem_cons_of_mem _ hb)
    omega
theorem tots_len (U : Int) (t : Str) : ∀ (n : Nat) (row : List Int) (s : Int), n ≤ 5 → (totsL U t n row s).length ≤ 5 ^ n
  | 0, _, _, _ => Nat.le_refl _
  | n + 1, row, s, h => by
    have a := flat_len_le (l := List.range (n + 1)) (f := fun i => totsL U t n (row.take i ++ row.drop (i + 1)) (stp U (row.getD i 0) t s)) (M := 5 ^ n) fun i _ => tots_len U t n _ _ (by omega)
    rw [List.length_range] at a
    have b : (n + 1) * 5 ^ n ≤ 5 * 5 ^ n := Nat.mul_le_mul_right _ h
    rw [Nat.pow_succ]
    unfold totsL
    omega
theorem pow_small {n : Nat} (h : n ≤ 5) : 5 ^ n ≤ 3125 := Nat.pow_le_pow_right (by decide) h
end
end Own

set_option maxHeartbeats 4000000
/-! own layer, of no law: OWO6: list(range(a, b)) of wide bounds; a list beside the empty one. -/
namespace Own
open PySem PySem.Spec PyProof.Rows L2 LamX NdefX
/-- whether a list is the empty one -/
theorem op_eqNil {X : Cx} (hu : X.A.units + 64 < cLine) : OpR X (compareOp .Eq) (fun x y H Q => ∃ (l m : Addr) (xs : List V), x = .ref l ∧ y = .ref m ∧ SqL X.K H l xs ∧ SqL X.K H m [] ∧ Q (.bl (decide (xs = []))) H) := by
  intro pins s σ H x y v u Q I rx ry h
  obtain ⟨l, m, xs, rfl, rfl, h1, h2, q⟩ := h
  cases (show v = Value.ref l from rx)
  cases (show u = Value.ref m from ry)
  obtain ⟨us, r1, t1, _⟩ := I.list h1
  obtain ⟨ws, r2, t2, _⟩ := I.list h2
  have l1 := r1.length
  have l2 := r2.length
  cases xs with
  | nil =>
    have := SeqAt.RcAt.lists (A := X.A) (e := fun _ => true) t1.isList t2.isList (by simp at l1 l2 ⊢; omega) (by omega) (fun j j1 j2 => by simp at l1 j1; omega)
    have e : ((List.range us.toArray.size).all (fun _ => true)) = true := by simp
    rw [e] at this
    exact this X.prog X.w _ _ ⟨.bl true, H, I, rfl, q⟩
  | cons a r =>
    have := SeqAt.RcAt.lists_lengths (A := X.A) t1.isList t2.isList (by simp at l1 l2 ⊢; omega) (by omega)
    exact this X.prog X.w _ _ ⟨.bl false, H, I, rfl, q⟩
section
variable {prog : Program} {w : World} {A : Around} {E : Value → Shared → Prop} {s : Shared}
/-- a list is filled from a range whose bounds are wide -/
theorem long_fill {R : Result → Shared → Prop} {r L : Addr} {a b : Int} {ta tb tc : Tok} {n c0 : Nat} {res : Value} (free : A.handled = none) (hr : IsRange s.heap r a b 1 ta tb tc) (wide : Builtin.Range.small a b 1 = false) (many : Builtin.Range.rangeSize a b 1 = n) (few : n ≤ 2 ^ 24)
    (hL : s.heap.get? L = some { cls := .type "list", data := .seq #[] c0 })
    (go : ∀ hp tk ys c1, (∀ x o, x ≠ L → s.heap.get? x = some o → hp.get? x = some o) → hp.get? L = some { cls := .type "list", dict := none, data := .seq ys c1, slots := #[] } →
      ItemsOf (fun i y => ∃ t, y = .int (a + i * 1) t) ys n → R (.ok (.ret res)) { s with heap := hp, toks := tk }) :
    wpAny (model prog w) A.in1 (Builtin.List.listExtendWith (.ref L) (.ref r) res)
      (fun z s2 => match z with | .done f => R (.ok f) s2 | .again c => c.quiet = true ∧ codeAny (model prog w) A c R s2) (fun e s2 => R (.error e) s2) s := by
  have hn : n ≤ sizeLine := by rw [sizeLine_eq]; omega
  have ne : L ≠ r := by
    intro e
    rw [e, hr] at hL
    simp at hL
  have lt : L < s.heap.objs.size := Heap.lt_size hL
  have nI : L ≠ s.heap.objs.size := Nat.ne_of_lt lt
  have out : L ∉ [s.heap.objs.size] := fun z => nI (List.mem_singleton.mp z)
  have Wk := (Walks.longrange (prog := prog) (w := w) (A := A.in1) free s.heap.objs.size a 1 n).toS
  have loop : ∀ (hp : Heap) (c1 tk : Nat), IsLongIter hp s.heap.objs.size (a + ((0 : Nat) : Int) * 1) ((n : Int) - ((0 : Nat) : Int)) 1 → (∀ x o, x ≠ L → s.heap.get? x = some o → hp.get? x = some o) →
      hp.get? L = some { cls := .type "list", data := .seq #[] c1 } → codeAny (model prog w) A (.builtin "list.extend.loop" ⟨[.ref L, .ref s.heap.objs.size, res], []⟩) R { s with heap := hp, toks := tk } := by
    intro hp c1 tk it old hL1
    refine codeAny_extend_loopS Wk hn L out res n 0 _ #[] c1 rfl (Nat.zero_le _) it hL1 (ItemsOf.nil _) fun s2 ys c2 mv hL2 items => ?_
    rw [Moved.eq_with mv]
    refine go s2.heap s2.toks ys c2 (fun x o hx e => mv.heap x o (fun z => ?_) (old x o hx e)) hL2 items
    rcases List.mem_cons.mp z with z | z
    · exact hx z
    · rw [List.mem_singleton.mp z] at e
      exact absurd (Heap.lt_size e) (Nat.lt_irrefl _)
  unfold Builtin.List.listExtendWith
  refine wpAny_bind (wpAny_typeOf (T := "range") ⟨_, hr, rfl⟩ ?_)
  have k1 : Builtin.List.listSameRef (.ref L) (.ref r) = false := by
    simp [Builtin.List.listSameRef, ne]
  have k2 : ((Value.type "range" == Value.type "list") || (Value.type "range" == Value.type "tuple")) = false := by decide
  simp only [k1, k2, Bool.or_false, Bool.false_or, Bool.false_eq_true, if_false]
  refine wpAny_bind (wpAny_pyIter_longrange hr wide ?_)
  have it0 : IsLongIter (s.heap.push { cls := .type "longrange_iterator", data := .fields #[rawInt a, rawInt (Builtin.Range.rangeSize a b 1), rawInt 1] }) s.heap.objs.size a (Builtin.Range.rangeSize a b 1) 1 := Heap.get?_push_size _ rfl
  have hL1 := Heap.get?_push_of_some { cls := .type "longrange_iterator", data := .fields #[rawInt a, rawInt (Builtin.Range.rangeSize a b 1), rawInt 1] } hL
  have old1 : ∀ x o, s.heap.get? x = some o → (s.heap.push { cls := .type "longrange_iterator", data := .fields #[rawInt a, rawInt (Builtin.Range.rangeSize a b 1), rawInt 1] }).get? x = some o := fun x o e => Heap.get?_push_of_some _ e
  generalize s.heap.push { cls := .type "longrange_iterator", data := .fields #[rawInt a, rawInt (Builtin.Range.rangeSize a b 1), rawInt 1] } = h1 at it0 hL1 old1 ⊢
  refine wpAny_bind (wpAny_holding (wpAny_hint_range (n := n) (old1 _ _ hr) many few ?_))
  have it1 : IsLongIter h1 s.heap.objs.size (a + ((0 : Nat) : Int) * 1) ((n : Int) - ((0 : Nat) : Int)) 1 := by
    show IsLongIter _ _ _ _ _
    rw [many] at it0
    simpa using it0
  have quiet := plainId_quiet F.plain_extend_loop
  refine wpAny_ite_split (fun _ => ?_) (fun _ => wpAny_pure ⟨quiet _, loop h1 c0 _ it1 (fun x o _ e => old1 x o e) hL1⟩)
  refine wpAny_bind (wpAny_rule (wpAny_bind ?_))
  show wpAny _ _ (do updateSeq L (·.push .none); updateSeq L (·.pop)) _ _ _
  refine wpAny_bind (wpAny_updateSeq hL1 rfl ?_)
  have hL2 := Heap.get?_update_self (Obj.mapSeq (·.push Value.none)) hL1 rfl
  refine wpAny_updateSeq (hz := by seq_fits) hL2 rfl (wpAny_pure ⟨quiet _, loop _ _ _ ?_ (fun x o hx e => ?_) (Heap.get?_update_self (Obj.mapSeq (·.pop)) hL2 rfl)⟩)
  · rw [IsLongIter, Heap.get?_update_other _ _ nI, Heap.get?_update_other _ _ nI]
    exact it1
  · rw [Heap.get?_update_other _ _ (Ne.symm hx), Heap.get?_update_other _ _ (Ne.symm hx)]
    exact old1 x o e
/-- list(range(a, b)) of wide bounds -/
theorem long_list {Q : Value → Shared → Prop} {r : Addr} {a b : Int} {ta tb tc : Tok} {n : Nat} (free : A.handled = none) (hr : IsRange s.heap r a b 1 ta tb tc) (wide : Builtin.Range.small a b 1 = false) (many : Builtin.Range.rangeSize a b 1 = n) (few : n ≤ 2 ^ 24)
    (go : ∀ hp tk ys c1, (∀ x o, s.heap.get? x = some o → hp.get? x = some o) → hp.get? s.heap.objs.size = some { cls := .type "list", dict := none, data := .seq ys c1, slots := #[] } →
      ItemsOf (fun i y => ∃ t, y = .int (a + i * 1) t) ys n → Q (.ref s.heap.objs.size) { s with heap := hp, toks := tk }) :
    wpAny (model prog w) A (call (.type "list") [.ref r]) Q E s := by
  refine callType_codes (Q₁ := fun z s1 => z = .ref s.heap.objs.size ∧ s1 = { s with heap := s.heap.push { cls := .type "list", data := .seq #[] } }) F.called_list (F.typeCall_list_1 _)
    F.entry_list_init (code_list_new _ ⟨rfl, rfl⟩) ?_
  rintro z s1 ⟨rfl, rfl⟩
  have hL : (s.heap.push { cls := .type "list", data := .seq #[] }).get? s.heap.objs.size = some { cls := .type "list", data := .seq #[] } := Heap.get?_push_size _ rfl
  have nr : s.heap.objs.size ≠ r := (Nat.ne_of_lt (Heap.lt_size hr)).symm
  refine ⟨⟨_, hL, rfl⟩, F.args_list_init_2 _ _, ?_⟩
  show wpAny _ _ (do let old ← Builtin.List.listItems (.ref s.heap.objs.size); Builtin.List.listUpdate (.ref s.heap.objs.size) (fun _ => #[]); letGo old.toList.reverse; Builtin.List.listExtendWith (.ref s.heap.objs.size) (.ref r) .none) _ _ _
  refine wpAny_bind ?_
  unfold Builtin.List.listItems
  refine wpAny_bind (wpAny_seqItems hL rfl (wpAny_pure ?_))
  refine wpAny_bind (m := updateSeq s.heap.objs.size _) (wpAny_updateSeq hL rfl ?_)
  have hL2 := Heap.get?_update_self (Obj.mapSeq (fun _ => (#[] : Array Value))) hL rfl
  refine wpAny_bind (wpAny_letGo ?_)
  refine long_fill (A := A.in1) free ((Heap.get?_update_other _ _ nr).trans (Heap.get?_push_of_some _ hr)) wide many few (by exact hL2) fun hp tk ys c1 old hL3 items => ?_
  refine ⟨rfl, go hp tk ys c1 (fun x o e => ?_) hL3 items⟩
  have hx : x ≠ s.heap.objs.size := Nat.ne_of_lt (Heap.lt_size e)
  exact old x o hx ((Heap.get?_update_other _ _ hx.symm).trans (Heap.get?_push_of_some _ e))
end
section
variable {X : Cx} {e : Expr} {te : L2.St → Hp → (Int → Int → Hp → Prop) → Prop}
/-- list(range(a, b)): any bounds, few numbers -/
def tLstRgW (te : L2.St → Hp → (Int → Int → Hp → Prop) → Prop) : TE := fun σ H Q => te σ H fun a b H1 => (b - a).toNat ≤ 2 ^ 24 ∧ ∀ q, H1 q = none → Q (.ref q) (upd H1 q (.lst (rgV a b)))
theorem pe_listRgW {p pos : Pos} (hc : X.calm = true) (hg : Gl X "list") (hm : X.mg "list" = none) (he : PRg X e te) (na : starEach [e] X.env = (false, eval e X.env) :: starEach [] X.env := by rfl) : PE X (.Call (.Name "list" p) [e] [] pos) (tLstRgW te) := by
  refine ⟨fun pins s σ H Q I h => Call_ (ld_blt I hg hm boot_list (PyProof.Rows.callWith_type1 (args_cons (thn (he pins s σ H _ I h) ?_) na) na))⟩
  rintro x s1 ⟨r, a, b, t, u, v, H1, rfl, hr, I1, few, q⟩
  refine args_nil ?_
  have fin : ∀ (hp : Heap) (tk : Nat) (ys : Array Value) (c1 : Nat), (∀ x o, s1.heap.get? x = some o → hp.get? x = some o) → hp.get? s1.heap.objs.size = some { cls := .type "list", dict := none, data := .seq ys c1, slots := #[] } →
      ItemsOf (fun i y => ∃ t, y = .int (a + i * 1) t) ys (b - a).toNat → ∃ (y : V) (H2 : Hp), Inv X pins σ H2 { s1 with heap := hp, toks := tk } ∧ RelV y (.ref s1.heap.objs.size) ∧ Q y H2 := by
    intro hp tk ys c1 old hl items
    refine ⟨.ref s1.heap.objs.size, upd H1 s1.heap.objs.size (.lst (rgV a b)), I1.laid old (Nat.le_refl _) (show ObjOk X.prog X.w _ _ _ (.lst (rgV a b)) from ⟨?_, ys.toList, c1, vals_rg items, ?_⟩), rfl, q _ (I1.hok.fresh (Nat.le_refl _))⟩
    · rw [rgV_length, sizeLine_eq]
      omega
    · rw [Array.toArray_toList]
      exact hl
  by_cases sm : Builtin.Range.small a b 1 = true
  · exact call_list_range (n := (b - a).toNat) (I1.ok.hd hc) hr sm (rangeSize_nat a b) few fin
  · exact long_list (n := (b - a).toNat) (I1.ok.hd hc) hr (by simpa using sm) (rangeSize_nat a b) few fin
end
end Own

/-! k66: the pen's defs. -/
namespace K66
open PySem PySem.Spec PyProof.Rows L2 LamX NdefX Own
def topS (i : Nat) : Stmt := PySem.Challenge.pw_figurestay_k66_products_spread.main.body.getD i (.Pass ⟨0, 0, 0, 0⟩)
abbrev sBegin : Stmt := topS 44
abbrev sDraw : Stmt := topS 45
theorem un3 : Un3 "cells" "at" "rest" := by unfold Un3; decide +kernel
abbrev penK (p : Addr) (c l : Int) : List (Key × V) := penG "cells" "at" "rest" p c l
abbrev KeepP (d : Addr) (H H' : Hp) : Prop := KeepG "cells" "at" "rest" d H H'
/-- a tape stands at d: some cells, at most B draws begun -/
structure Pen (H : Hp) (d : Addr) (B : Int) : Prop where
  ex : ∃ (p : Addr) (ns : List Int) (m l : Int), H d = some (.dK (penK p m l)) ∧ H p = some (.lst (ns.map V.int)) ∧ 0 < ns.length ∧ ns.length ≤ 63 ∧ 0 ≤ m ∧ m ≤ B
section
variable {H H' : Hp} {d : Addr} {B B' : Int}
theorem Pen.mono (h : Pen H d B) (z : B ≤ B') : Pen H d B' := by
  obtain ⟨p, ns, m, l, e1, e2, e3, e4, f, g⟩ := h.ex
  exact ⟨p, ns, m, l, e1, e2, e3, e4, f, by omega⟩
theorem Pen.ext (h : Pen H d B) (s : ∀ x o, H x = some o → (∀ ps, o ≠ .tbl ps) → H' x = some o) : Pen H' d B := by
  obtain ⟨p, ns, m, l, e1, e2, e3, e4, f, g⟩ := h.ex
  exact ⟨p, ns, m, l, s _ _ e1 (fun ps z => by cases z), s _ _ e2 (fun ps z => by cases z), e3, e4, f, g⟩
theorem Pen.same (h : Pen H d B) (s : Same H H') : Pen H' d B := h.ext fun x o e _ => s x o e
theorem Pen.ne_lst {x : Addr} {xs : List V} (h : Pen H d B) (hx : H x = some (.lst xs)) : x ≠ d := by
  obtain ⟨p, ns, m, l, e1, _⟩ := h.ex
  exact ne_of hx e1 (by intro z; cases z)
theorem Pen.g (h : Pen H d B) : PenG "cells" "at" "rest" H d B := by
  obtain ⟨p, ns, m, l, e1, e2, e3, e4, f, g⟩ := h.ex
  exact ⟨p, ns, m, l, e1, e2, e4, f, g⟩
end
section
variable {P : Program} {w : World} {K : PySem.W.Frag} {mg : Str → Option Value} {base : Heap}
theorem scBegin : FnScope ["_law_script"] ["_law_script"] (defScope sBegin) := ⟨rfl, rfl, rfl, by decide +kernel, rfl, by decide +kernel, by decide +kernel⟩
theorem scDraw : FnScope ["_law_tape", "_law_limit", "_law_at", "_law_span", "_law_cell", "_law_mixed", "_law_found"] ["_law_tape", "_law_limit"] (defScope sDraw) := ⟨rfl, rfl, rfl, by decide +kernel, rfl, by decide +kernel, by decide +kernel⟩
/-- a number below the limit; the tape has begun one draw more -/
def spDraw : Sp := fun vs H Q _ => ∃ (d : Addr) (n B : Int), vs = [.ref d, .int n] ∧ Pen H d B ∧ B ≤ 1000000000 ∧ 0 < n ∧ n ≤ 1000000000000000000 ∧ ∀ (v : Int) (H' : Hp), 0 ≤ v → v < n → KeepP d H H' → Pen H' d (B + 1) → Q (.int v) H'
theorem ok_draw (A : At K mg "_law_draw" sDraw ["_law_tape", "_law_limit"]) (T : Blt mg) : DefOk P w K mg base CX0 "_law_draw" 1 ["_law_tape", "_law_limit"] spDraw := by
  refine A.ok fun f fd F => F.ok scDraw (fun vs H Q E h => ?_) (fun cdv A outer s H vs Q E hr h => ?_)
  · obtain ⟨d, n, B, rfl, _⟩ := h
    rfl
  · obtain ⟨d, n, B, rfl, hp, hB, h0, h1, q⟩ := h
    have hu := hu_of hr
    have nd := scDraw.nd
    refine ⟨_, C8.pss_cut (ps_if (pt_cmpR op_lt (pe_dget hu (pv 0) pe_str (fun _ _ => rfl)) (pv 1) (nomark _)) (pss_cons (ps_par (i := 2) (j := 3) (by rfl) nd rfl rfl (by decide) rfl rfl (pa_cons (pe_dget hu (pv 0) pe_str (fun _ _ => rfl)) (pa_cons (pe_callB call_len_seq (by rfl) T.len PySem.boot_len (pa_cons (pe_dget hu (pv 0) pe_str (fun _ _ => rfl)) pa_nil)) pa_nil)) (by rfl)) (pss_cons (ps_asg (pe_tup (pa_cons (pe_ix ix_list (pe_dget hu (pv 0) pe_str (fun _ _ => rfl)) (pe_op op_mod (pe_callTy call_int1 (by rfl) T.int (by decide +kernel) (pa_cons (pv 2) pa_nil)) (pv 3)) (fun _ _ => rfl)) (pa_cons (pe_op op_add (pv 2) pe_int) pa_nil))) (pg_tup rfl (pgs_cons (pg_name (i := 4) nd rfl (.inl rfl)) (pgs_cons (pg_sub (pv 0) pe_str (set_dict hu)) pgs_nil)))) (pss_cons (ps_set (i := 5) nd rfl (.inl rfl) (pe_op op_add (pe_op op_add (pe_op op_mul (pe_callTy call_int1 (by rfl) T.int (by decide +kernel) (pa_cons (pv 4) pa_nil)) pe_int) (pe_op op_mul (pe_op op_mul pe_int (pv 2)) (pv 2))) pe_int)) (pss_cons (ps_set (i := 5) nd rfl (.inl rfl) (pe_op op_mod (pe_callTy call_int1 (by rfl) T.int (by decide +kernel) (pa_cons (pv 5) pa_nil)) pe_int)) (pss_cons (ps_dput hu (pv 0) pe_str (pe_op op_mod (pe_callTy call_int1 (by rfl) T.int (by decide +kernel) (pa_cons (pe_op op_add (pe_op op_pow (pv 5) pe_int) (pe_op op_mul (pe_op op_mul (pe_op op_mul pe_int (pv 2)) (pv 5)) (pv 5))) pa_nil)) (pe_op op_add (pe_op op_pow pe_int pe_int) pe_int)) rfl) (pss_one (ps_if (PW.pt (pw_and (pt_cmpR op_ge (pv 4) (pe_op op_pow pe_int pe_int) (nomark _)) (pw_and1 (pt_cmpR op_lt (pv 2) (pv 3) (nomark _))))) (pss_one (ps_dput hu (pv 0) pe_str (pe_op op_sub (pv 4) (pe_op op_pow pe_int pe_int)) rfl)) pss_nil))))))) pss_nil)
      (pss_cons (ps_asg (pe_tup (pa_cons (pe_op op_mod (pe_callTy call_int1 (by rfl) T.int (by decide +kernel) (pa_cons (pe_dget hu (pv 0) pe_str (fun _ _ => rfl)) pa_nil)) (pv 1)) (pa_cons (pe_op op_fdivW (pe_dget hu (pv 0) pe_str (fun _ _ => rfl)) (pv 1)) pa_nil))) (pg_tup rfl (pgs_cons (pg_name (i := 6) nd rfl (.inl rfl)) (pgs_cons (pg_sub (pv 0) pe_str (set_dict hu)) pgs_nil))))
      (pss_one (ps_ret (pv 6)))), ?_⟩
    obtain ⟨p, ns, c, l, hd, hps, hn0, hns, hc0, hcB⟩ := hp.ex
    have npd : p ≠ d := ne_of hps hd (by intro z; cases z)
    have n0 : n ≠ 0 := by omega
    have n64 : n.natAbs < 2 ^ 64 := by
      have : (2 : Nat) ^ 64 = 18446744073709551616 := by decide
      omega
    have nB : CDivW 0 n := wide_div h0 n64 (by decide) (by decide)
    refine ⟨fun σ H2 => (∃ (y2 y3 y4 y5 : Option V) (c2 l2 : Int), σ = [some (.ref d), some (.int n), y2, y3, y4, y5, none] ∧ H2 d = some (.dK (penK p c2 l2)) ∧ 0 ≤ c2 ∧ c2 ≤ B + 1) ∧ H2 p = some (.lst (ns.map V.int)) ∧ KeepP d H H2, ?_, ?_⟩
    · refine ⟨_, rfl, d, .int l, rfl, gpen_c un3 hd, _, rfl, l, n, rfl, rfl, _, rfl, ite2 (fun hln => ?_) (fun hln => ⟨⟨_, _, _, _, c, l, rfl, hd, hc0, by omega⟩, hps, KeepG.refl⟩)⟩
      have hpos : (0 : Int) < ((ns.map V.int).length : Int) := by rw [List.length_map]; omega
      obtain ⟨j, hj⟩ : ∃ j : Nat, c % ((ns.map V.int).length : Int) = (j : Int) := ⟨(c % ((ns.map V.int).length : Int)).toNat, (Int.toNat_of_nonneg (Int.emod_nonneg _ (by omega))).symm⟩
      have hjl : j < ns.length := by
        have z := Int.emod_lt_of_pos c hpos
        rw [hj, List.length_map] at z
        omega
      refine ⟨_, rfl, d, .int c, rfl, gpen_b un3 hd, _, rfl, d, .ref p, rfl, gpen_a un3 hd, p, _, rfl, .inl (SqL.of hps), _, _, rfl, ?_⟩
      dsimp only [gName, List.set]
      refine ⟨_, rfl, d, .ref p, rfl, gpen_a un3 hd, _, rfl, .inl ⟨c, rfl, _, rfl, _, _, rfl, rfl, hpos, p, _, _, .int (ns[j]'hjl), rfl, rfl, SqL.of hps, L2.at_of hj (by rw [List.getElem?_map, List.getElem?_eq_getElem hjl]; rfl), ?_⟩⟩
      generalize ns[j]'hjl = x
      refine ⟨_, rfl, _, _, rfl, rfl, by show 2 ≤ sizeLine; decide, fun pt np => ?_⟩
      have s1 := same_new (o := HO.tup [.int x, .int (c + 1)]) np
      have et : upd H pt (HO.tup [.int x, .int (c + 1)]) pt = some (.tup [.int x, .int (c + 1)]) := upd_same
      have hd1 := s1 _ _ hd
      have hp1 := s1 _ _ hps
      have k1 : KeepP d H (upd H pt (HO.tup [.int x, .int (c + 1)])) := KeepG.same s1
      generalize upd H pt (HO.tup [.int x, .int (c + 1)]) = H1 at et hd1 hp1 k1 ⊢
      refine ⟨pt, _, rfl, SqT.of et, rfl, _, _, rfl, _, _, rfl, _, rfl, d, _, rfl, ppen_b un3 hd1, rfl, ?_⟩
      dsimp only [gName, List.set]
      have k2 := k1.trans (KeepG.put (m' := c + 1) (l' := l) hd1)
      have hd2 : upd H1 d (.dK (penK p (c + 1) l)) d = some (.dK (penK p (c + 1) l)) := upd_same
      have hp2 : upd H1 d (.dK (penK p (c + 1) l)) p = some (.lst (ns.map V.int)) := (upd_ne npd).trans hp1
      generalize upd H1 d (.dK (penK p (c + 1) l)) = H2 at k2 hd2 hp2 ⊢
      have hc64 : -(2 ^ 64) < c ∧ c < 2 ^ 64 := ⟨by omega, by omega⟩
      refine ⟨_, rfl, .inl ⟨x, rfl, _, _, rfl, rfl, .inr ⟨by decide, by decide⟩, ?_⟩⟩
      refine ⟨_, rfl, _, c, rfl, rfl, .inl ⟨by decide, by decide⟩, _, rfl, _, c, rfl, rfl, .inr hc64, _, _, rfl, rfl, _, _, rfl, rfl, ?_⟩
      dsimp only [gName, List.set]
      refine ⟨_, rfl, .inl ⟨_, rfl, _, _, rfl, rfl, (show (0 : Int) < 2305843009213693907 by decide), ?_⟩⟩
      dsimp only [gName, List.set]
      generalize hy : (x * 982451653 + 32452843 * c * c + 961748941) % 2305843009213693907 = y
      have y0 : 0 ≤ y := by rw [← hy]; exact Int.emod_nonneg _ (by decide)
      have y1 : y < 2305843009213693907 := by rw [← hy]; exact Int.emod_lt_of_pos _ (by decide)
      have y64 : -(2 ^ 64) < y ∧ y < 2 ^ 64 := ⟨by omega, by omega⟩
      have ybits : y.natAbs < 2 ^ 64 := by
        have : (2 : Nat) ^ 64 = 18446744073709551616 := by decide
        omega
      clear hy
      refine ⟨_, rfl, _, _, rfl, rfl, ⟨by decide, by decide, ybits⟩, _, rfl, _, c, rfl, rfl, .inl ⟨by decide, by decide⟩, _, rfl, _, y, rfl, rfl, .inr y64, _, rfl, _, y, rfl, rfl, .inr y64, _, _, rfl, rfl, .inl ⟨_, rfl, _, _, rfl, rfl, ⟨by decide, by decide, by decide⟩, _, _, rfl, rfl, _, _, rfl, rfl, (show (0 : Int) < 10 ^ Int.toNat 47 + 9 by decide), _, rfl, d, _, rfl, ppen_c un3 hd2, ?_⟩⟩
      generalize (y ^ Int.toNat 11 + 15485863 * c * y * y) % (10 ^ Int.toNat 47 + 9) = l3
      have k3 := k2.trans (KeepG.put (m' := c + 1) (l' := l3) hd2)
      have hd3 : upd H2 d (.dK (penK p (c + 1) l3)) d = some (.dK (penK p (c + 1) l3)) := upd_same
      have hp3 : upd H2 d (.dK (penK p (c + 1) l3)) p = some (.lst (ns.map V.int)) := (upd_ne npd).trans hp2
      generalize upd H2 d (.dK (penK p (c + 1) l3)) = H3 at k3 hd3 hp3 ⊢
      refine ⟨_, rfl, _, _, rfl, rfl, ⟨by decide, by decide, by decide⟩, _, _, rfl, rfl, _, rfl, ite2 (fun _ => ?_) (fun _ => ?_)⟩
      · refine ⟨_, rfl, _, rfl, _, _, rfl, rfl, _, rfl, ite2 (fun _ => ?_) (fun _ => ?_)⟩
        · refine ⟨_, rfl, _, _, rfl, rfl, ⟨by decide, by decide, by decide⟩, _, _, rfl, rfl, _, rfl, d, _, rfl, ppen_c un3 hd3, ?_⟩
          exact ⟨⟨_, _, _, _, _, _, rfl, upd_same, by omega, by omega⟩, (upd_ne npd).trans hp3, k3.trans (KeepG.put hd3)⟩
        · exact ⟨⟨_, _, _, _, _, _, rfl, hd3, by omega, by omega⟩, hp3, k3⟩
      · exact ⟨⟨_, _, _, _, _, _, rfl, hd3, by omega, by omega⟩, hp3, k3⟩
    · rintro σ H2 ⟨⟨y2, y3, y4, y5, c2, l2, rfl, hd2, a1, a2⟩, hp2, k2⟩
      refine ⟨_, rfl, d, .int l2, rfl, gpen_c un3 hd2, .inl ⟨l2, rfl, _, rfl, l2, n, rfl, rfl, h0, ?_⟩⟩
      refine ⟨_, rfl, d, .int l2, rfl, gpen_c un3 hd2, _, rfl, l2, n, rfl, rfl, nB, by show 2 ≤ sizeLine; decide, fun pt np => ?_⟩
      have s1 := same_new (o := HO.tup [.int (l2 % n), .int (l2 / n)]) np
      have et : upd H2 pt (HO.tup [.int (l2 % n), .int (l2 / n)]) pt = some (.tup [.int (l2 % n), .int (l2 / n)]) := upd_same
      have hd3 := s1 _ _ hd2
      have hp3 := s1 _ _ hp2
      have k3 := k2.trans (KeepG.same s1)
      generalize upd H2 pt (HO.tup [.int (l2 % n), .int (l2 / n)]) = H3 at et hd3 hp3 k3 ⊢
      refine ⟨pt, _, rfl, SqT.of et, rfl, _, _, rfl, _, _, rfl, _, rfl, d, _, rfl, ppen_c un3 hd3, rfl, ?_⟩
      dsimp only [gName, List.set]
      refine ⟨_, rfl, q _ _ (Int.emod_nonneg _ n0) (Int.emod_lt_of_pos _ h0) (k3.trans (KeepG.put hd3)) ⟨p, ns, c2, l2 / n, upd_same, (upd_ne npd).trans hp3, hn0, hns, a1, a2⟩⟩
def spBegin (K : PySem.W.Frag) : Sp := fun vs H Q _ => ∃ (a : Addr) (ns : List Int), vs = [.ref a] ∧ SqL K H a (ns.map V.int) ∧ ns.length ≤ 63 ∧ ∀ (d : Addr) (H' : Hp), H d = none → Same H H' → Pen H' d 0 → Q (.ref d) H'
theorem ok_begin (A : At K mg "_law_begin" sBegin ["_law_script"]) (T : Blt mg) : DefOk P w K mg base CX0 "_law_begin" 1 ["_law_script"] (spBegin K) := by
  refine A.ok fun f fd F => F.ok scBegin (fun vs H Q E h => ?_) (fun cdv A outer s H vs Q E hr h => ?_)
  · obtain ⟨a, ns, rfl, _⟩ := h
    rfl
  · obtain ⟨a, ns, rfl, hS, hl, q⟩ := h
    refine ⟨_, pss_one (ps_ret (pe_disp (pps_cons pe_str (pe_op op_cat (pe_callTy call_list_of (by rfl) T.list (by decide +kernel) (pa_cons (pe_slice sl_list (pv 0) po_none (po_some pe_int)) pa_nil)) (pe_op op_rep (pe_lst (pa_cons pe_int pa_nil)) (pe_callTy call_int1 (by rfl) T.int (by decide +kernel) (pa_cons (pe_cmpR op_eq (pe_callB call_len_seq (by rfl) T.len PySem.boot_len (pa_cons (pv 0) pa_nil)) pe_int (nomark _)) pa_nil)))) (pps_cons pe_str pe_int (pps_cons pe_str pe_int pps_nil))) (by rfl) (by rfl) (fun z => by cases z) (by decide))), ?_⟩
    intro d hd
    have s0 : Same H (upd H d (.dK [])) := same_new hd
    have e0 : upd H d (.dK []) d = some (.dK []) := upd_same
    generalize upd H d (.dK []) = H0 at s0 e0 ⊢
    refine ⟨_, rfl, 63, rfl, a, _, rfl, s0.seq hS, fun c hc => ?_⟩
    rw [cut63 _ (by rw [List.length_map]; exact hl)]
    have s1 := same_new (o := HO.lst (ns.map V.int)) hc
    have e1 : upd H0 c (.lst (ns.map V.int)) c = some (.lst (ns.map V.int)) := upd_same
    generalize upd H0 c (.lst (ns.map V.int)) = H1 at s1 e1 ⊢
    refine ⟨c, _, rfl, .inl (SqL.of e1), fun p hp => ?_⟩
    have s2 := same_new (o := HO.lst (ns.map V.int)) hp
    have e2 : upd H1 p (.lst (ns.map V.int)) p = some (.lst (ns.map V.int)) := upd_same
    generalize upd H1 p (.lst (ns.map V.int)) = H2 at s2 e2 ⊢
    refine ⟨by show 1 ≤ sizeLine; decide, fun z nz => ?_⟩
    have s3 := same_new (o := HO.lst [.int 0]) nz
    have e3 : upd H2 z (HO.lst [.int 0]) z = some (.lst [.int 0]) := upd_same
    generalize upd H2 z (HO.lst [.int 0]) = H3 at s3 e3 ⊢
    have S03 := s0.trans (s1.trans (s2.trans s3))
    refine ⟨_, rfl, a, _, rfl, .inl (S03.seq hS), rfl, .inr ⟨_, rfl, ?_⟩⟩
    obtain ⟨k, ek, kl⟩ : ∃ k : Nat, (if decide (V.int ((ns.map V.int).length : Nat) = V.int 0) = true then (1 : Int) else 0) = (k : Int) ∧ k ≤ 1 ∧ (ns = [] → k = 1) ∧ (ns ≠ [] → k = 0) := by
      by_cases e : ns = []
      · refine ⟨1, ?_, by omega, fun _ => rfl, fun h => absurd e h⟩
        subst e
        rfl
      · refine ⟨0, if_neg fun h => e ?_, by omega, fun h => absurd h e, fun _ => rfl⟩
        have := V.int.inj (of_decide_eq_true h)
        rw [List.length_map] at this
        exact List.length_eq_zero_iff.mp (by omega)
    rw [ek]
    have sz := sizeLine_eq
    refine ⟨z, _, _, rfl, rfl, e3, by omega, by omega, by rw [Int.toNat_natCast]; simp only [List.length_cons, List.length_nil]; omega, fun q2 n2 => ?_⟩
    rw [Int.toNat_natCast, List.flatten_replicate_singleton]
    have s4 := same_new (o := HO.lst (List.replicate k (V.int 0))) n2
    have e4 : upd H3 q2 (HO.lst (List.replicate k (V.int 0))) q2 = some (.lst (List.replicate k (V.int 0))) := upd_same
    have e2' := s4 _ _ (s3 _ _ e2)
    generalize upd H3 q2 (HO.lst (List.replicate k (V.int 0))) = H4 at s4 e4 e2' ⊢
    refine ⟨p, q2, _, _, rfl, rfl, e2', e4, by rw [List.length_map, List.length_replicate]; omega, fun q3 n3 => ?_⟩
    have s5 := same_new (o := HO.lst (ns.map V.int ++ List.replicate k (V.int 0))) n3
    have e5 : upd H4 q3 (HO.lst (ns.map V.int ++ List.replicate k (V.int 0))) q3 = some (.lst (ns.map V.int ++ List.replicate k (V.int 0))) := upd_same
    have ec : ns.map V.int ++ List.replicate k (V.int 0) = (ns ++ List.replicate k 0).map V.int := by rw [List.map_append, List.map_replicate]
    rw [ec] at e5 s5 ⊢
    have dn : q3 ≠ d := by
      intro y
      rw [y] at n3
      have := s4 _ _ ((s1.trans (s2.trans s3)) _ _ e0)
      rw [n3] at this
      cases this
    have edd : upd H4 q3 (HO.lst ((ns ++ List.replicate k 0).map V.int)) d = some (.dK []) := s5 _ _ (s4 _ _ ((s1.trans (s2.trans s3)) _ _ e0))
    have S05 : Same H (upd H4 q3 (HO.lst ((ns ++ List.replicate k 0).map V.int))) := S03.trans (s4.trans s5)
    generalize upd H4 q3 (HO.lst ((ns ++ List.replicate k 0).map V.int)) = H5 at e5 edd S05 ⊢
    refine ⟨edd, [(Sum.inr "cells", .ref q3), (Sum.inr "at", .int 0), (Sum.inr "rest", .int 0)], rfl, by show 3 ≤ 15; decide, ?_⟩
    rw [merge_pen un3]
    refine q d _ hd (fun b o e => ?_) ⟨q3, ns ++ List.replicate k 0, 0, 0, upd_same, (upd_ne dn).trans e5, ?_, ?_, by omega, by omega⟩
    · rw [upd_ne (ne_of_none e hd)]
      exact S05 _ _ e
    · rw [List.length_append, List.length_replicate]
      by_cases y : ns = []
      · rw [kl.2.1 y]
        omega
      · have := List.length_pos_iff.mpr y
        omega
    · rw [List.length_append, List.length_replicate]
      by_cases y : ns = []
      · rw [y, kl.2.1 y]
        decide
      · rw [kl.2.2 y]
        omega
end
end K66

/-! own layer, of no law: OWNP: properties of the program's classes, told by the top. -/
namespace Own
open PySem PySem.Spec PyProof.Rows L2 LamX NdefX
/-- the getter of a property: (class, its name) -/
def pgA (K : PySem.W.Frag) (p : Str × Option Str) : Addr := match PySem.W.findIn K (.ref (He.ga K p.1)) (p.2.getD "") with
  | some (some (.ref q)) => (match PySem.W.recIn K q "property" with
    | some (.ref g :: _) => g
    | _ => 0)
  | _ => 0
def fnWA (K : PySem.W.Frag) (a : Addr) : He.FnW := match K.lookup a with
  | some ⟨_, _, .func fd, _⟩ => some (fd.name, fd.qualname, fd.params, fd.body, fd.scope, fd.globals, fd.closure, fd.builtins)
  | _ => none
def okA (K : PySem.W.Frag) (a : Addr) (q : Str) : Bool := PySem.W.keepIn K (.ref a) && (match K.lookup a with
  | some ⟨_, _, .func fd, _⟩ => PySem.W.codeIn K fd.code q && (He.dflB K fd.defaults [] && He.kwdB K fd.kwdefaults [])
  | _ => false)
def propB (K : PySem.W.Frag) (p : Str × Option Str) (q : Str) : Bool := (match PySem.W.findIn K (.ref (He.ga K p.1)) (p.2.getD "") with
  | some (some (.ref r)) => decide (PySem.W.specialIn K (.ref r) "__get__" = some (some (.builtin "property.__get__"))) && (decide (PySem.W.takesIn K (.ref r) = some true) && (match PySem.W.recIn K r "property" with
    | some (.ref _ :: _) => true
    | _ => false))
  | _ => false) && okA K (pgA K p) q
theorem funD_at {K : PySem.W.Frag} {a : Addr} {d : He.DefD} (e : fnWA K a = d.val) (c : okA K a d.qual = true) : ∃ fd, FunD K d.name d.qual d.params d.body d.scope [] [] a fd := by
  obtain ⟨kp, c2⟩ := He.ba c
  unfold fnWA at e
  cases q : K.lookup a with
  | none =>
    rw [q] at c2
    cases c2
  | some o =>
    obtain ⟨oc, od, dt, osl⟩ := o
    rw [q] at c2 e
    cases dt with
    | func fd =>
      obtain ⟨n1, n2, n3, n4, n5, n6, n7, n8, n9, n10, n11, n12, n13, n14, n15⟩ := fd
      have e2 : (some (n1, n2, n3, n4, n5, n6, n7, n15) : He.FnW) = some (d.name, d.qual, d.params, .stmts d.body, d.scope, mainGlobals, [], builtinsNs) := e
      simp only [Option.some.injEq, Prod.mk.injEq] at e2
      obtain ⟨h1, h2, h3, h4, h5, h6, h7, h8⟩ := e2
      subst h1 h2 h3 h4 h5 h6 h7 h8
      have c3 : (PySem.W.codeIn K n13 d.qual && (He.dflB K n8 [] && He.kwdB K n9 [])) = true := c2
      obtain ⟨k1, k2⟩ := He.ba c3
      obtain ⟨k3, k4⟩ := He.ba k2
      exact ⟨_, ⟨oc, od, n8, n9, n10, n11, n12, n13, n14, osl, rfl, q, k1, He.dflB_ok k3, He.kwdB_ok k4⟩, kp⟩
    | _ => cases c2
theorem prop_ok {K : PySem.W.Frag} {C f : Str} {q : Str} (h : propB K (C, some f) q = true) : (∃ p, PropOf K (He.ga K C) f p (pgA K (C, some f))) ∧ okA K (pgA K (C, some f)) q = true := by
  obtain ⟨h1, h2⟩ := He.ba h
  refine ⟨?_, h2⟩
  have h1 : (match PySem.W.findIn K (.ref (He.ga K C)) f with
    | some (some (.ref r)) => decide (PySem.W.specialIn K (.ref r) "__get__" = some (some (.builtin "property.__get__"))) && (decide (PySem.W.takesIn K (.ref r) = some true) && (match PySem.W.recIn K r "property" with
      | some (.ref _ :: _) => true
      | _ => false))
    | _ => false) = true := h1
  have e : pgA K (C, some f) = (match PySem.W.findIn K (.ref (He.ga K C)) f with
    | some (some (.ref q)) => (match PySem.W.recIn K q "property" with
      | some (.ref g :: _) => g
      | _ => 0)
    | _ => 0) := rfl
  cases a : PySem.W.findIn K (.ref (He.ga K C)) f with
  | none => rw [a] at h1; cases h1
  | some a1 =>
    cases a1 with
    | none => rw [a] at h1; cases h1
    | some v =>
      cases v with
      | ref r =>
        rw [a] at h1 e
        obtain ⟨b1, b2⟩ := He.ba h1
        obtain ⟨b2, b3⟩ := He.ba b2
        have b3 : (match PySem.W.recIn K r "property" with
          | some (.ref _ :: _) => true
          | _ => false) = true := b3
        have e : pgA K (C, some f) = (match PySem.W.recIn K r "property" with
          | some (.ref g :: _) => g
          | _ => 0) := e
        refine ⟨r, a, of_decide_eq_true b1, of_decide_eq_true b2, ?_⟩
        cases c : PySem.W.recIn K r "property" with
        | none => rw [c] at b3; cases b3
        | some l =>
          cases l with
          | nil => rw [c] at b3; cases b3
          | cons x rest =>
            cases x with
            | ref g =>
              rw [c] at e
              have e : pgA K (C, some f) = g := e
              rw [e]
              exact ⟨rest, rfl⟩
            | _ => rw [c] at b3; cases b3
      | _ => rw [a] at h1; cases h1
/-- what is told: the getters' texts besides -/
structure SaysP (ps : List He.DefD) (K : PySem.W.Frag) : Prop where
  g : ps.map (fun d => fnWA K (pgA K d.at_)) = ps.map He.DefD.val
theorem SaysP.at_ {ps : List He.DefD} {K : PySem.W.Frag} (c : SaysP ps K) (i : Nat) {d : He.DefD} (h : ps[i]? = some d) : fnWA K (pgA K d.at_) = d.val := by
  have e : (ps.map fun d => fnWA K (pgA K d.at_))[i]? = (ps.map He.DefD.val)[i]? := by rw [c.g]
  rw [List.getElem?_map, List.getElem?_map, h] at e
  exact Option.some.inj e
abbrev AlP : Type := He.AlX × List He.FnW
def obsP (n : Nat) (fa : List He.Fa) (fn : List He.DefD) (ts : List He.Tab) (tf : List He.Defn) (ex : PySem.W.Frag → Bool) (ps : List He.DefD) (g : Addr → Option Obj) : AlP :=
  (He.obsX n fa fn ts tf ex g, ps.map fun d => fnWA (He.frT g (He.asD g n)) (pgA (He.frT g (He.asD g n)) d.at_))
def valP (fn : List He.DefD) (ts : List He.Tab) (ps : List He.DefD) (w : World) : AlP := (He.valX fn ts w, ps.map He.DefD.val)
def hookP (n : Nat) (fa : List He.Fa) (fn : List He.DefD) (ts : List He.Tab) (tf : List He.Defn) (ex : PySem.W.Frag → Bool) (ps : List He.DefD) : PySem.W.Hook where
  α := AlP
  obs := fun s => obsP n fa fn ts tf ex ps s.heap.get?
  val := fun w => valP fn ts ps w
  says := fun w h => ∃ K : PySem.W.Frag, K.In h ∧ He.SaysX fa fn ts tf ex w h K ∧ SaysP ps K
  of := fun _ _ e => ⟨_, He.frT_in, He.saysX_of (congrArg (fun z : AlP => z.1) e), ⟨congrArg (fun z : AlP => z.2) e⟩⟩
  keeps := fun _ _ _ ⟨K, hK, c, d⟩ k => ⟨K, PySem.W.Frag.In.keeps hK k, ⟨c.t, c.more, c.hd, c.out, fun p hp => k _ _ (c.empty p hp)⟩, d⟩
theorem obsP_eq {n : Nat} {fa : List He.Fa} {fn : List He.DefD} {ts : List He.Tab} {tf : List He.Defn} {ex : PySem.W.Frag → Bool} {ps : List He.DefD} {g : Addr → Option Obj} {s : Shared} (h : ∀ a, g a = s.heap.get? a) : obsP n fa fn ts tf ex ps g = (hookP n fa fn ts tf ex ps).obs s := by
  have e : g = s.heap.get? := funext h
  rw [e] <;> rfl
end Own

set_option maxHeartbeats 1000000
/-! own layer, of no law: OWP1: formulas as rows: trees laid out, parts, replaced parts. -/
namespace Own
open PySem PySem.Spec PyProof.Rows L2 LamX NdefX
/-- the words with two parts -/
inductive Bw where
  | sum | dif | prd | quo
deriving DecidableEq
def Bw.txt : Bw → Str
  | .sum => "sum"
  | .dif => "difference"
  | .prd => "product"
  | .quo => "quotient"
/-- a row -/
inductive Rw where
  | col (x : Str)
  | con (u s : Nat)
  | bin (w : Bw) (i j : Nat)
  | neg (i : Nat)
  | cst (i w s : Nat)
  | rnd (i s : Nat) (t : Str)
def Rw.word : Rw → Str
  | .col _ => "column"
  | .con _ _ => "constant"
  | .bin w _ _ => w.txt
  | .neg _ => "negative"
  | .cst _ _ _ => "cast"
  | .rnd _ _ _ => "round"
def Rw.parts : Rw → List Nat
  | .col _ => []
  | .con _ _ => []
  | .bin _ i j => [i, j]
  | .neg i => [i]
  | .cst i _ _ => [i]
  | .rnd i _ _ => [i]
def Rw.tail : Rw → List V
  | .col x => [.str x]
  | .con u s => [.int (u : Nat), .int (s : Nat)]
  | .bin _ _ _ => []
  | .neg _ => []
  | .cst _ w s => [.int (w : Nat), .int (s : Nat)]
  | .rnd _ s t => [.int (s : Nat), .str t]
abbrev nV (w : Nat) : V := .int (w : Nat)
def Rw.vals (r : Rw) : List V := V.str r.word :: (r.parts.map nV ++ r.tail)
/-- the parts moved -/
def Rw.mv (f : Nat → Nat) : Rw → Rw
  | .col x => .col x
  | .con u s => .con u s
  | .bin w i j => .bin w (f i) (f j)
  | .neg i => .neg (f i)
  | .cst i w s => .cst (f i) w s
  | .rnd i s t => .rnd (f i) s t
theorem Rw.mv_word (f : Nat → Nat) (r : Rw) : (r.mv f).word = r.word := by cases r <;> rfl
theorem Rw.mv_parts (f : Nat → Nat) (r : Rw) : (r.mv f).parts = r.parts.map f := by cases r <;> rfl
theorem Rw.mv_tail (f : Nat → Nat) (r : Rw) : (r.mv f).tail = r.tail := by cases r <;> rfl
theorem Rw.mv_mv (f g : Nat → Nat) (r : Rw) : (r.mv f).mv g = r.mv fun p => g (f p) := by cases r <;> rfl
theorem Rw.mv_ok {f g : Nat → Nat} {r : Rw} (h : ∀ p ∈ r.parts, f p = g p) : r.mv f = r.mv g := by
  cases r with
  | col _ => rfl
  | con _ _ => rfl
  | bin w i j =>
    show Rw.bin w (f i) (f j) = Rw.bin w (g i) (g j)
    rw [h i (by simp [Rw.parts]), h j (by simp [Rw.parts])]
  | neg i => exact congrArg Rw.neg (h i (by simp [Rw.parts]))
  | cst i w s => exact congrArg (fun z => Rw.cst z w s) (h i (by simp [Rw.parts]))
  | rnd i s t => exact congrArg (fun z => Rw.rnd z s t) (h i (by simp [Rw.parts]))
theorem Rw.mv_id (r : Rw) : r.mv (fun p => p) = r := by cases r <;> rfl
/-- a formula -/
inductive Fm where
  | col (x : Str)
  | con (u s : Nat)
  | bin (w : Bw) (l r : Fm)
  | neg (t : Fm)
  | cst (t : Fm) (w s : Nat)
  | rnd (t : Fm) (s : Nat) (y : Str)
def Fm.size : Fm → Nat
  | .col _ => 1
  | .con _ _ => 1
  | .bin _ l r => l.size + r.size + 1
  | .neg t => t.size + 1
  | .cst t _ _ => t.size + 1
  | .rnd t _ _ => t.size + 1
theorem Fm.size_pos : ∀ t : Fm, 0 < t.size
  | .col _ => Nat.one_pos
  | .con _ _ => Nat.one_pos
  | .bin _ _ _ => Nat.succ_pos _
  | .neg _ => Nat.succ_pos _
  | .cst _ _ _ => Nat.succ_pos _
  | .rnd _ _ _ => Nat.succ_pos _
/-- its last row, the first row being number k -/
def Fm.root (k : Nat) : Fm → Rw
  | .col x => .col x
  | .con u s => .con u s
  | .bin w l r => .bin w (k + l.size - 1) (k + l.size + r.size - 1)
  | .neg t => .neg (k + t.size - 1)
  | .cst t w s => .cst (k + t.size - 1) w s
  | .rnd t s y => .rnd (k + t.size - 1) s y
/-- its rows, the first being number k -/
def Fm.lay (k : Nat) : Fm → List Rw
  | .col x => [.col x]
  | .con u s => [.con u s]
  | .bin w l r => l.lay k ++ r.lay (k + l.size) ++ [.bin w (k + l.size - 1) (k + l.size + r.size - 1)]
  | .neg t => t.lay k ++ [.neg (k + t.size - 1)]
  | .cst t w s => t.lay k ++ [.cst (k + t.size - 1) w s]
  | .rnd t s y => t.lay k ++ [.rnd (k + t.size - 1) s y]
theorem Fm.lay_len : ∀ (t : Fm) (k : Nat), (t.lay k).length = t.size
  | .col _, _ => rfl
  | .con _ _, _ => rfl
  | .bin _ l r, k => by
    simp [Fm.lay, Fm.size, l.lay_len, r.lay_len]
    omega
  | .neg t, k => by simp [Fm.lay, Fm.size, t.lay_len]
  | .cst t _ _, k => by simp [Fm.lay, Fm.size, t.lay_len]
  | .rnd t _ _, k => by simp [Fm.lay, Fm.size, t.lay_len]
theorem Fm.lay_root (k : Nat) : ∀ t : Fm, ∃ a, t.lay k = a ++ [t.root k]
  | .col x => ⟨[], rfl⟩
  | .con u s => ⟨[], rfl⟩
  | .bin w l r => ⟨l.lay k ++ r.lay (k + l.size), rfl⟩
  | .neg t => ⟨t.lay k, rfl⟩
  | .cst t w s => ⟨t.lay k, rfl⟩
  | .rnd t s y => ⟨t.lay k, rfl⟩
/-- the parts of a formula's rows lie within it -/
theorem Fm.lay_in : ∀ (t : Fm) (k : Nat), ∀ r ∈ t.lay k, ∀ p ∈ r.parts, k ≤ p ∧ p + 1 < k + t.size
  | .col _, k, r, hr, p, hp => by rw [List.mem_singleton.mp hr] at hp; cases hp
  | .con _ _, k, r, hr, p, hp => by rw [List.mem_singleton.mp hr] at hp; cases hp
  | .bin w a b, k, r, hr, p, hp => by
    have pa := a.size_pos
    have pb := b.size_pos
    show k ≤ p ∧ p + 1 < k + (a.size + b.size + 1)
    rcases List.mem_append.mp hr with hr | hr
    · rcases List.mem_append.mp hr with hr | hr
      · have := a.lay_in k r hr p hp
        omega
      · have := b.lay_in (k + a.size) r hr p hp
        omega
    · rw [List.mem_singleton.mp hr] at hp
      simp [Rw.parts] at hp
      omega
  | .neg a, k, r, hr, p, hp => by
    have pa := a.size_pos
    show k ≤ p ∧ p + 1 < k + (a.size + 1)
    rcases List.mem_append.mp hr with hr | hr
    · have := a.lay_in k r hr p hp
      omega
    · rw [List.mem_singleton.mp hr] at hp
      simp [Rw.parts] at hp
      omega
  | .cst a _ _, k, r, hr, p, hp => by
    have pa := a.size_pos
    show k ≤ p ∧ p + 1 < k + (a.size + 1)
    rcases List.mem_append.mp hr with hr | hr
    · have := a.lay_in k r hr p hp
      omega
    · rw [List.mem_singleton.mp hr] at hp
      simp [Rw.parts] at hp
      omega
  | .rnd a _ _, k, r, hr, p, hp => by
    have pa := a.size_pos
    show k ≤ p ∧ p + 1 < k + (a.size + 1)
    rcases List.mem_append.mp hr with hr | hr
    · have := a.lay_in k r hr p hp
      omega
    · rw [List.mem_singleton.mp hr] at hp
      simp [Rw.parts] at hp
      omega
/-- moved by b -/
theorem Fm.lay_mv : ∀ (t : Fm) (k b : Nat), (t.lay k).map (fun r => r.mv fun p => p + b) = t.lay (k + b)
  | .col _, _, _ => rfl
  | .con _ _, _, _ => rfl
  | .bin w a c, k, b => by
    have pa := a.size_pos
    have pc := c.size_pos
    show (a.lay k ++ c.lay (k + a.size) ++ [Rw.bin w (k + a.size - 1) (k + a.size + c.size - 1)]).map _ = a.lay (k + b) ++ c.lay (k + b + a.size) ++ [Rw.bin w (k + b + a.size - 1) (k + b + a.size + c.size - 1)]
    rw [List.map_append, List.map_append, a.lay_mv, c.lay_mv, show k + a.size + b = k + b + a.size by omega]
    refine congrArg (fun z => _ ++ [z]) ?_
    show Rw.bin w (k + a.size - 1 + b) (k + a.size + c.size - 1 + b) = _
    rw [show k + a.size - 1 + b = k + b + a.size - 1 by omega, show k + a.size + c.size - 1 + b = k + b + a.size + c.size - 1 by omega]
  | .neg a, k, b => by
    have pa := a.size_pos
    show (a.lay k ++ [Rw.neg (k + a.size - 1)]).map _ = a.lay (k + b) ++ [Rw.neg (k + b + a.size - 1)]
    rw [List.map_append, a.lay_mv]
    refine congrArg (fun z => _ ++ [z]) ?_
    show Rw.neg (k + a.size - 1 + b) = _
    rw [show k + a.size - 1 + b = k + b + a.size - 1 by omega]
  | .cst a w s, k, b => by
    have pa := a.size_pos
    show (a.lay k ++ [Rw.cst (k + a.size - 1) w s]).map _ = a.lay (k + b) ++ [Rw.cst (k + b + a.size - 1) w s]
    rw [List.map_append, a.lay_mv]
    refine congrArg (fun z => _ ++ [z]) ?_
    show Rw.cst (k + a.size - 1 + b) w s = _
    rw [show k + a.size - 1 + b = k + b + a.size - 1 by omega]
  | .rnd a s y, k, b => by
    have pa := a.size_pos
    show (a.lay k ++ [Rw.rnd (k + a.size - 1) s y]).map _ = a.lay (k + b) ++ [Rw.rnd (k + b + a.size - 1) s y]
    rw [List.map_append, a.lay_mv]
    refine congrArg (fun z => _ ++ [z]) ?_
    show Rw.rnd (k + a.size - 1 + b) s y = _
    rw [show k + a.size - 1 + b = k + b + a.size - 1 by omega]
theorem map_undo {f g : Nat → Nat} {rs : List Rw} (h : ∀ r ∈ rs, ∀ p ∈ r.parts, g (f p) = p) : (rs.map fun r => r.mv f).map (fun r => r.mv g) = rs := by
  rw [List.map_map]
  have : rs.map ((fun r => Rw.mv g r) ∘ fun r => Rw.mv f r) = rs.map id := List.map_congr_left fun r hr => by
    show (r.mv f).mv g = r
    rw [Rw.mv_mv, Rw.mv_ok (h r hr), Rw.mv_id]
  rw [this, List.map_id]
/-- moved back -/
theorem Fm.lay_back (t : Fm) (k : Nat) : (t.lay k).map (fun r => r.mv fun p => p - k) = t.lay 0 := by
  have e : t.lay k = (t.lay 0).map fun r => r.mv fun p => p + k := by rw [t.lay_mv, Nat.zero_add]
  rw [e]
  exact map_undo fun r _ p _ => by omega
/-- t holds s as the part that ends at row n, and is t' when s' stands there instead; the first row of s is number f -/
inductive Hole : (t t' s s' : Fm) → (k f n : Nat) → Prop where
  | here {s s' : Fm} {k : Nat} : Hole s s' s s' k k (k + s.size - 1)
  | left {w : Bw} {l l' r s s' : Fm} {k f n : Nat} (h : Hole l l' s s' k f n) : Hole (.bin w l r) (.bin w l' r) s s' k f n
  | right {w : Bw} {l r r' s s' : Fm} {k f n : Nat} (h : Hole r r' s s' (k + l.size) f n) : Hole (.bin w l r) (.bin w l r') s s' k f n
  | neg {t t' s s' : Fm} {k f n : Nat} (h : Hole t t' s s' k f n) : Hole (.neg t) (.neg t') s s' k f n
  | cst {t t' s s' : Fm} {w m k f n : Nat} (h : Hole t t' s s' k f n) : Hole (.cst t w m) (.cst t' w m) s s' k f n
  | rnd {t t' s s' : Fm} {m k f n : Nat} {y : Str} (h : Hole t t' s s' k f n) : Hole (.rnd t m y) (.rnd t' m y) s s' k f n
/-- what the rows behind become -/
def beh (n : Nat) (s s' : Fm) (p : Nat) : Nat := if n ≤ p then p + s'.size - s.size else p
theorem Hole.rng {t t' s s' : Fm} {k f n : Nat} (h : Hole t t' s s' k f n) : k ≤ f ∧ f + s.size = n + 1 ∧ n < k + t.size ∧ t'.size + s.size = t.size + s'.size := by
  induction h with
  | here => rename_i s s' k; have := s.size_pos; omega
  | left h ih => simp only [Fm.size]; omega
  | right h ih => simp only [Fm.size] at ih ⊢; omega
  | neg h ih => simp only [Fm.size]; omega
  | cst h ih => simp only [Fm.size]; omega
  | rnd h ih => simp only [Fm.size]; omega
theorem Hole.lay {t t' s s' : Fm} {k f n : Nat} (h : Hole t t' s s' k f n) : ∃ a b, a.length = f - k ∧ t.lay k = a ++ s.lay f ++ b ∧ t'.lay k = a ++ s'.lay f ++ b.map fun r => r.mv (beh n s s') := by
  induction h with
  | here => exact ⟨[], [], (Nat.sub_self _).symm, by simp, by simp⟩
  | @left w l l' r s s' k f n h ih =>
    obtain ⟨a, b, e1, e2, e3⟩ := ih
    obtain ⟨r1, r2, r3, r4⟩ := h.rng
    have pl := l.size_pos
    have pr := r.size_pos
    have ps := s.size_pos
    have ps' := s'.size_pos
    have pl' := l'.size_pos
    refine ⟨a, b ++ r.lay (k + l.size) ++ [.bin w (k + l.size - 1) (k + l.size + r.size - 1)], e1, ?_, ?_⟩
    · show l.lay k ++ r.lay (k + l.size) ++ _ = _
      rw [e2]
      simp only [List.append_assoc]
    · show l'.lay k ++ r.lay (k + l'.size) ++ [Rw.bin w (k + l'.size - 1) (k + l'.size + r.size - 1)] = _
      rw [e3, List.map_append, List.map_append]
      have er : (r.lay (k + l.size)).map (fun x => x.mv (beh n s s')) = r.lay (k + l'.size) := by
        have e0 : ∀ j, r.lay j = (r.lay 0).map fun x => x.mv fun p => p + j := fun j => by rw [r.lay_mv, Nat.zero_add]
        rw [e0 (k + l.size), e0 (k + l'.size), List.map_map]
        refine List.map_congr_left fun x hx => ?_
        show (x.mv fun p => p + (k + l.size)).mv (beh n s s') = _
        rw [Rw.mv_mv]
        refine Rw.mv_ok fun p hp => ?_
        unfold beh
        rw [if_pos (by omega)]
        omega
      rw [er]
      have eb : ([Rw.bin w (k + l.size - 1) (k + l.size + r.size - 1)].map fun x => x.mv (beh n s s')) = [Rw.bin w (k + l'.size - 1) (k + l'.size + r.size - 1)] := by
        show [Rw.bin w (beh n s s' _) (beh n s s' _)] = _
        unfold beh
        rw [if_pos (by omega), if_pos (by omega), show k + l.size - 1 + s'.size - s.size = k + l'.size - 1 by omega, show k + l.size + r.size - 1 + s'.size - s.size = k + l'.size + r.size - 1 by omega]
      rw [eb]
      simp only [List.append_assoc]
  | @right w l r r' s s' k f n h ih =>
    obtain ⟨a, b, e1, e2, e3⟩ := ih
    obtain ⟨r1, r2, r3, r4⟩ := h.rng
    have pl := l.size_pos
    have pr := r.size_pos
    have ps := s.size_pos
    have ps' := s'.size_pos
    have pr' := r'.size_pos
    refine ⟨l.lay k ++ a, b ++ [.bin w (k + l.size - 1) (k + l.size + r.size - 1)], by rw [List.length_append, l.lay_len]; omega, ?_, ?_⟩
    · show l.lay k ++ r.lay (k + l.size) ++ _ = _
      rw [e2]
      simp only [List.append_assoc]
    · show l.lay k ++ r'.lay (k + l.size) ++ [Rw.bin w (k + l.size - 1) (k + l.size + r'.size - 1)] = _
      rw [e3, List.map_append]
      have eb : ([Rw.bin w (k + l.size - 1) (k + l.size + r.size - 1)].map fun x => x.mv (beh n s s')) = [Rw.bin w (k + l.size - 1) (k + l.size + r'.size - 1)] := by
        show [Rw.bin w (beh n s s' _) (beh n s s' _)] = _
        unfold beh
        rw [if_neg (by omega), if_pos (by omega), show k + l.size + r.size - 1 + s'.size - s.size = k + l.size + r'.size - 1 by omega]
      rw [eb]
      simp only [List.append_assoc]
  | @neg t t' s s' k f n h ih =>
    obtain ⟨a, b, e1, e2, e3⟩ := ih
    obtain ⟨r1, r2, r3, r4⟩ := h.rng
    have pt := t.size_pos
    have ps := s.size_pos
    have ps' := s'.size_pos
    refine ⟨a, b ++ [.neg (k + t.size - 1)], e1, ?_, ?_⟩
    · show t.lay k ++ _ = _
      rw [e2]
      simp only [List.append_assoc]
    · show t'.lay k ++ [Rw.neg (k + t'.size - 1)] = _
      rw [e3, List.map_append]
      have eb : ([Rw.neg (k + t.size - 1)].map fun x => x.mv (beh n s s')) = [Rw.neg (k + t'.size - 1)] := by
        show [Rw.neg (beh n s s' _)] = _
        unfold beh
        rw [if_pos (by omega), show k + t.size - 1 + s'.size - s.size = k + t'.size - 1 by omega]
      rw [eb]
      simp only [List.append_assoc]
  | @cst t t' s s' c m k f n h ih =>
    obtain ⟨a, b, e1, e2, e3⟩ := ih
    obtain ⟨r1, r2, r3, r4⟩ := h.rng
    have pt := t.size_pos
    have ps := s.size_pos
    have ps' := s'.size_pos
    refine ⟨a, b ++ [.cst (k + t.size - 1) c m], e1, ?_, ?_⟩
    · show t.lay k ++ _ = _
      rw [e2]
      simp only [List.append_assoc]
    · show t'.lay k ++ [Rw.cst (k + t'.size - 1) c m] = _
      rw [e3, List.map_append]
      have eb : ([Rw.cst (k + t.size - 1) c m].map fun x => x.mv (beh n s s')) = [Rw.cst (k + t'.size - 1) c m] := by
        show [Rw.cst (beh n s s' _) c m] = _
        unfold beh
        rw [if_pos (by omega), show k + t.size - 1 + s'.size - s.size = k + t'.size - 1 by omega]
      rw [eb]
      simp only [List.append_assoc]
  | @rnd t t' s s' m k f n y h ih =>
    obtain ⟨a, b, e1, e2, e3⟩ := ih
    obtain ⟨r1, r2, r3, r4⟩ := h.rng
    have pt := t.size_pos
    have ps := s.size_pos
    have ps' := s'.size_pos
    refine ⟨a, b ++ [.rnd (k + t.size - 1) m y], e1, ?_, ?_⟩
    · show t.lay k ++ _ = _
      rw [e2]
      simp only [List.append_assoc]
    · show t'.lay k ++ [Rw.rnd (k + t'.size - 1) m y] = _
      rw [e3, List.map_append]
      have eb : ([Rw.rnd (k + t.size - 1) m y].map fun x => x.mv (beh n s s')) = [Rw.rnd (k + t'.size - 1) m y] := by
        show [Rw.rnd (beh n s s' _) m y] = _
        unfold beh
        rw [if_pos (by omega), show k + t.size - 1 + s'.size - s.size = k + t'.size - 1 by omega]
      rw [eb]
      simp only [List.append_assoc]
end Own

/-! own layer, of no law: OWP2: formulas as rows: the stack that tells them, where a part begins. -/
namespace Own
open PySem PySem.Spec PyProof.Rows L2 LamX NdefX
/-- the first child -/
def Fm.head : Fm → Option Fm
  | .col _ => none
  | .con _ _ => none
  | .bin _ l _ => some l
  | .neg t => some t
  | .cst t _ _ => some t
  | .rnd t _ _ => some t
theorem Fm.head_none {t : Fm} (h : t.head = none) : t.size = 1 ∧ ∀ k, (t.root k).parts = [] := by
  cases t <;> first | exact ⟨rfl, fun _ => rfl⟩ | cases h
theorem Fm.head_some {t c : Fm} (h : t.head = some c) (k : Nat) : c.size < t.size ∧ (∃ b, t.lay k = c.lay k ++ b) ∧ ∃ ps, (t.root k).parts = (k + c.size - 1) :: ps := by
  cases t with
  | col _ => cases h
  | con _ _ => cases h
  | bin w l r =>
    cases h
    exact ⟨by show c.size < c.size + r.size + 1; omega, ⟨r.lay (k + c.size) ++ [.bin w (k + c.size - 1) (k + c.size + r.size - 1)], by rw [← List.append_assoc]; rfl⟩, ⟨_, rfl⟩⟩
  | neg t =>
    cases h
    exact ⟨by show c.size < c.size + 1; omega, ⟨_, rfl⟩, ⟨_, rfl⟩⟩
  | cst t _ _ =>
    cases h
    exact ⟨by show c.size < c.size + 1; omega, ⟨_, rfl⟩, ⟨_, rfl⟩⟩
  | rnd t _ _ =>
    cases h
    exact ⟨by show c.size < c.size + 1; omega, ⟨_, rfl⟩, ⟨_, rfl⟩⟩
/-- the rows of t stand in rs from f on -/
def SubAt (rs : List Rw) (f : Nat) (t : Fm) : Prop := ∃ a b, rs = a ++ t.lay f ++ b ∧ a.length = f
theorem Fm.lay_last (t : Fm) (k : Nat) : (t.lay k)[t.size - 1]? = some (t.root k) := by
  obtain ⟨a, e⟩ := t.lay_root k
  have l := t.lay_len k
  rw [e, List.length_append, List.length_singleton] at l
  rw [e, List.getElem?_append_right (by omega), show t.size - 1 - a.length = 0 by omega]
  rfl
theorem SubAt.root {rs : List Rw} {f : Nat} {t : Fm} (h : SubAt rs f t) : rs[f + t.size - 1]? = some (t.root f) := by
  obtain ⟨a, b, rfl, e⟩ := h
  have p := t.size_pos
  have l := t.lay_len f
  rw [List.append_assoc, List.getElem?_append_right (by omega), List.getElem?_append_left (by omega), show f + t.size - 1 - a.length = t.size - 1 by omega]
  exact t.lay_last f
theorem SubAt.len {rs : List Rw} {f : Nat} {t : Fm} (h : SubAt rs f t) : f + t.size ≤ rs.length := by
  obtain ⟨a, b, rfl, e⟩ := h
  rw [List.length_append, List.length_append, t.lay_len]
  omega
theorem SubAt.head {rs : List Rw} {f : Nat} {t c : Fm} (h : SubAt rs f t) (hc : t.head = some c) : SubAt rs f c := by
  obtain ⟨a, b, rfl, e⟩ := h
  obtain ⟨_, ⟨b', eb⟩, _⟩ := Fm.head_some hc f
  exact ⟨a, b' ++ b, by rw [eb]; simp only [List.append_assoc], e⟩
theorem SubAt.left {rs : List Rw} {f : Nat} {w : Bw} {l r : Fm} (h : SubAt rs f (.bin w l r)) : SubAt rs f l := h.head rfl
theorem SubAt.right {rs : List Rw} {f : Nat} {w : Bw} {l r : Fm} (h : SubAt rs f (.bin w l r)) : SubAt rs (f + l.size) r := by
  obtain ⟨a, b, rfl, e⟩ := h
  exact ⟨a ++ l.lay f, [.bin w (f + l.size - 1) (f + l.size + r.size - 1)] ++ b, by show a ++ (l.lay f ++ r.lay (f + l.size) ++ [_]) ++ b = _; simp only [List.append_assoc], by rw [List.length_append, l.lay_len, e]⟩
theorem Hole.sub {t t' s s' : Fm} {f n : Nat} (h : Hole t t' s s' 0 f n) : SubAt (t.lay 0) f s := by
  obtain ⟨a, b, e1, e2, _⟩ := h.lay
  exact ⟨a, b, e2, by omega⟩
/-- the same hole in rows that begin farther -/
theorem Hole.far {t t' s s' : Fm} {k f n : Nat} (h : Hole t t' s s' k f n) (d : Nat) : Hole t t' s s' (k + d) (f + d) (n + d) := by
  induction h with
  | @here s s' k =>
    have := s.size_pos
    rw [show k + s.size - 1 + d = k + d + s.size - 1 by omega]
    exact .here
  | left h ih => exact .left ih
  | @right w l r r' s s' k f n h ih =>
    refine .right ?_
    rw [show k + d + l.size = k + l.size + d by omega]
    exact ih
  | neg h ih => exact .neg ih
  | cst h ih => exact .cst ih
  | rnd h ih => exact .rnd ih
/-- at every row a part ends -/
theorem Fm.part_ex : ∀ (t : Fm) (k n : Nat), k ≤ n → n < k + t.size → ∃ (s : Fm) (f : Nat), ∀ s', ∃ t', Hole t t' s s' k f n
  | .col x, k, n, h1, h2 => ⟨.col x, k, fun s' => ⟨s', by
      have h2 : n < k + 1 := h2
      have e : n = k + (Fm.col x).size - 1 := by
        show n = k + 1 - 1
        omega
      rw [e]
      exact .here⟩⟩
  | .con u s, k, n, h1, h2 => ⟨.con u s, k, fun s' => ⟨s', by
      have h2 : n < k + 1 := h2
      have e : n = k + (Fm.con u s).size - 1 := by
        show n = k + 1 - 1
        omega
      rw [e]
      exact .here⟩⟩
  | .bin w l r, k, n, h1, h2 => by
    have h2 : n < k + (l.size + r.size + 1) := h2
    by_cases a : n < k + l.size
    · obtain ⟨s, f, h⟩ := l.part_ex k n h1 a
      exact ⟨s, f, fun s' => by
        obtain ⟨t', z⟩ := h s'
        exact ⟨_, .left z⟩⟩
    · by_cases b : n < k + l.size + r.size
      · obtain ⟨s, f, h⟩ := r.part_ex (k + l.size) n (by omega) b
        exact ⟨s, f, fun s' => by
          obtain ⟨t', z⟩ := h s'
          exact ⟨_, .right z⟩⟩
      · refine ⟨.bin w l r, k, fun s' => ⟨s', ?_⟩⟩
        have e : n = k + (Fm.bin w l r).size - 1 := by
          show n = k + (l.size + r.size + 1) - 1
          omega
        rw [e]
        exact .here
  | .neg t, k, n, h1, h2 => by
    have h2 : n < k + (t.size + 1) := h2
    by_cases a : n < k + t.size
    · obtain ⟨s, f, h⟩ := t.part_ex k n h1 a
      exact ⟨s, f, fun s' => by
        obtain ⟨t', z⟩ := h s'
        exact ⟨_, .neg z⟩⟩
    · refine ⟨.neg t, k, fun s' => ⟨s', ?_⟩⟩
      have e : n = k + (Fm.neg t).size - 1 := by
        show n = k + (t.size + 1) - 1
        omega
      rw [e]
      exact .here
  | .cst t w m, k, n, h1, h2 => by
    have h2 : n < k + (t.size + 1) := h2
    by_cases a : n < k + t.size
    · obtain ⟨s, f, h⟩ := t.part_ex k n h1 a
      exact ⟨s, f, fun s' => by
        obtain ⟨t', z⟩ := h s'
        exact ⟨_, .cst z⟩⟩
    · refine ⟨.cst t w m, k, fun s' => ⟨s', ?_⟩⟩
      have e : n = k + (Fm.cst t w m).size - 1 := by
        show n = k + (t.size + 1) - 1
        omega
      rw [e]
      exact .here
  | .rnd t m y, k, n, h1, h2 => by
    have h2 : n < k + (t.size + 1) := h2
    by_cases a : n < k + t.size
    · obtain ⟨s, f, h⟩ := t.part_ex k n h1 a
      exact ⟨s, f, fun s' => by
        obtain ⟨t', z⟩ := h s'
        exact ⟨_, .rnd z⟩⟩
    · refine ⟨.rnd t m y, k, fun s' => ⟨s', ?_⟩⟩
      have e : n = k + (Fm.rnd t m y).size - 1 := by
        show n = k + (t.size + 1) - 1
        omega
      rw [e]
      exact .here
/-- one row read: what waits behind it -/
def stepW (W : List Nat) (i : Nat) (r : Rw) : Option (List Nat) := if r.parts = W.drop (W.length - r.parts.length) then some (W.take (W.length - r.parts.length) ++ [i]) else none
def readW (W : List Nat) (i : Nat) : List Rw → Option (List Nat)
  | [] => some W
  | r :: rs => (stepW W i r).bind fun W' => readW W' (i + 1) rs
theorem readW_app (rs qs : List Rw) : ∀ (W : List Nat) (i : Nat), readW W i (rs ++ qs) = (readW W i rs).bind fun W' => readW W' (i + rs.length) qs := by
  induction rs with
  | nil => intro W i; rfl
  | cons r rs ih =>
    intro W i
    show (stepW W i r).bind _ = ((stepW W i r).bind _).bind _
    rw [Option.bind_assoc]
    congr 1
    funext W'
    show readW W' (i + 1) (rs ++ qs) = _
    rw [ih]
    congr 1
    funext W2
    congr 1
    rw [List.length_cons]
    omega
theorem stepW_of (W P : List Nat) (i : Nat) (r : Rw) (h : r.parts = P) : stepW (W ++ P) i r = some (W ++ [i]) := by
  unfold stepW
  rw [h, List.length_append, show W.length + P.length - P.length = W.length by omega, List.drop_left, List.take_left, if_pos rfl]
theorem Fm.read : ∀ (t : Fm) (W : List Nat) (k : Nat), readW W k (t.lay k) = some (W ++ [k + t.size - 1])
  | .col x, W, k => by
    show (stepW W k _).bind _ = _
    have := stepW_of W [] k (.col x) rfl
    rw [List.append_nil] at this
    rw [this]
    rfl
  | .con u s, W, k => by
    show (stepW W k _).bind _ = _
    have := stepW_of W [] k (.con u s) rfl
    rw [List.append_nil] at this
    rw [this]
    rfl
  | .bin w l r, W, k => by
    show readW W k (l.lay k ++ r.lay (k + l.size) ++ [_]) = _
    rw [readW_app, readW_app, l.read W k]
    show (readW (W ++ [k + l.size - 1]) (k + (l.lay k).length) (r.lay (k + l.size))).bind _ = _
    rw [l.lay_len, r.read]
    show (stepW (W ++ [k + l.size - 1] ++ [k + l.size + r.size - 1]) _ _).bind _ = _
    rw [List.append_assoc, stepW_of W ([k + l.size - 1] ++ [k + l.size + r.size - 1]) _ (.bin w (k + l.size - 1) (k + l.size + r.size - 1)) rfl]
    show some (W ++ [_]) = _
    congr 3
    rw [List.length_append, l.lay_len, r.lay_len]
    show k + (l.size + r.size) = k + (l.size + r.size + 1) - 1
    omega
  | .neg t, W, k => by
    show readW W k (t.lay k ++ [_]) = _
    rw [readW_app, t.read]
    show (stepW (W ++ [k + t.size - 1]) _ _).bind _ = _
    rw [stepW_of W [k + t.size - 1] _ (.neg (k + t.size - 1)) rfl]
    show some (W ++ [_]) = _
    congr 3
    rw [t.lay_len]
    show k + t.size = k + (t.size + 1) - 1
    omega
  | .cst t a b, W, k => by
    show readW W k (t.lay k ++ [_]) = _
    rw [readW_app, t.read]
    show (stepW (W ++ [k + t.size - 1]) _ _).bind _ = _
    rw [stepW_of W [k + t.size - 1] _ (.cst (k + t.size - 1) a b) rfl]
    show some (W ++ [_]) = _
    congr 3
    rw [t.lay_len]
    show k + t.size = k + (t.size + 1) - 1
    omega
  | .rnd t a b, W, k => by
    show readW W k (t.lay k ++ [_]) = _
    rw [readW_app, t.read]
    show (stepW (W ++ [k + t.size - 1]) _ _).bind _ = _
    rw [stepW_of W [k + t.size - 1] _ (.rnd (k + t.size - 1) a b) rfl]
    show some (W ++ [_]) = _
    congr 3
    rw [t.lay_len]
    show k + t.size = k + (t.size + 1) - 1
    omega
theorem Fm.read0 (t : Fm) : readW [] 0 (t.lay 0) = some [t.size - 1] := by
  rw [t.read, Nat.zero_add]
  rfl
/-- what the rows say -/
def nmOk (x : Str) : Bool := decide (1 ≤ x.length) && (decide (x.length ≤ 8) && (Txt.isascii x && (Txt.isalpha x && Txt.islower x)))
def Rw.ok : Rw → Prop
  | .col x => nmOk x = true
  | .con _ _ => True
  | .bin _ _ _ => True
  | .neg _ => True
  | .cst _ w s => 0 < w + s
  | .rnd _ _ y => y ∈ waysL
theorem Rw.ok_mv {f : Nat → Nat} {r : Rw} : (r.mv f).ok ↔ r.ok := by cases r <;> exact Iff.rfl
def Fm.ok : Fm → Prop
  | .col x => nmOk x = true
  | .con _ _ => True
  | .bin _ l r => l.ok ∧ r.ok
  | .neg t => t.ok
  | .cst t w s => t.ok ∧ 0 < w + s
  | .rnd t _ y => t.ok ∧ y ∈ waysL
theorem Fm.ok_lay : ∀ (t : Fm) (k : Nat), t.ok → ∀ r ∈ t.lay k, r.ok
  | .col x, k, h, r, hr => by rw [List.mem_singleton.mp hr]; exact h
  | .con u s, k, h, r, hr => by rw [List.mem_singleton.mp hr]; exact h
  | .bin w a b, k, h, r, hr => by
    rcases List.mem_append.mp hr with hr | hr
    · rcases List.mem_append.mp hr with hr | hr
      · exact a.ok_lay k h.1 r hr
      · exact b.ok_lay _ h.2 r hr
    · rw [List.mem_singleton.mp hr]
      exact True.intro
  | .neg a, k, h, r, hr => by
    rcases List.mem_append.mp hr with hr | hr
    · exact a.ok_lay k h r hr
    · rw [List.mem_singleton.mp hr]
      exact True.intro
  | .cst a _ _, k, h, r, hr => by
    rcases List.mem_append.mp hr with hr | hr
    · exact a.ok_lay k h.1 r hr
    · rw [List.mem_singleton.mp hr]
      exact h.2
  | .rnd a _ _, k, h, r, hr => by
    rcases List.mem_append.mp hr with hr | hr
    · exact a.ok_lay k h.1 r hr
    · rw [List.mem_singleton.mp hr]
      exact h.2
theorem Hole.ok {t t' s s' : Fm} {k f n : Nat} (h : Hole t t' s s' k f n) (ht : t.ok) (hs : s'.ok) : t'.ok ∧ s.ok := by
  induction h with
  | here => exact ⟨hs, ht⟩
  | left h ih => exact ⟨⟨(ih ht.1 hs).1, ht.2⟩, (ih ht.1 hs).2⟩
  | right h ih => exact ⟨⟨ht.1, (ih ht.2 hs).1⟩, (ih ht.2 hs).2⟩
  | neg h ih => exact ih ht hs
  | cst h ih => exact ⟨⟨(ih ht.1 hs).1, ht.2⟩, (ih ht.1 hs).2⟩
  | rnd h ih => exact ⟨⟨(ih ht.1 hs).1, ht.2⟩, (ih ht.1 hs).2⟩
end Own

set_option maxHeartbeats 4000000
/-! own layer, of no law: OWNI: [e for x in xs for y in (a, b)]. -/
namespace Own
open PySem PySem.Spec PyProof.Rows L2 LamX NdefX
/-- the inner walk within a turn of the outer one -/
def InW (J1 : It) (H4 : Hp) (Nx : Hp → Prop) (g1 : TG) (tt1 : TT) (te : TE) (vs1 : List Nat) (σ2 : L2.St) (D : Addr) : Prop := ∃ W1 : Nat → Nat → Hp → Prop, (∃ m, W1 0 m H4) ∧ ∀ j k H, W1 j k H →
  (J1.stop j H ∧ Nx H) ∨ (J1.go j H ∧ ∃ Nx1 : Hp → Prop, (∀ H', Nx1 H' → ∃ k', k' < k ∧ W1 (j + 1) k' H') ∧ ∀ x H', J1.yld j H x H' → g1 x (wipe σ2 vs1) H' fun σ3 H5 => wipe σ3 vs1 = wipe σ2 vs1 ∧ tt1 σ3 H5 fun b H6 =>
    if b = true then te σ3 H6 fun y H7 => ∃ acc, H7 D = some (.lst acc) ∧ acc.length < sizeLine ∧ Nx1 (upd H7 D (.lst (acc ++ [y]))) else Nx1 H6)
/-- the outer walk, over a list -/
theorem lc2_list {K : PySem.W.Frag} {a : Addr} {xs : List V} {g g1 : TG} {tt tt1 : TT} {wi1 : TI} {te : TE} {vs vs1 : List Nat} {σ : L2.St} {H1 : Hp} {D : Addr} {Qd : Hp → Prop} (Pv : Nat → Hp → Prop) (h0 : Pv 0 (upd H1 D (.lst []))) (hl : ∀ i H, i ≤ xs.length → Pv i H → SqL K H a xs)
    (hs : ∀ i x H, xs[i]? = some x → Pv i H → g x (wipe σ vs) H fun σ2 H2 => wipe σ2 vs = wipe σ vs ∧ tt σ2 H2 fun b H3 =>
      if b = true then wi1 σ2 H3 fun J1 H4 => InW J1 H4 (Pv (i + 1)) g1 tt1 te vs1 σ2 D
      else Pv (i + 1) H3) (hd : ∀ H, Pv xs.length H → Qd H) :
    ∃ W : Nat → Nat → Hp → Prop, (∃ m, W 0 m (upd H1 D (.lst []))) ∧ ∀ i m H, W i m H →
      ((Itl K a).stop i H ∧ Qd H) ∨ ((Itl K a).go i H ∧ ∃ Nx : Hp → Prop, (∀ H', Nx H' → ∃ m', m' < m ∧ W (i + 1) m' H') ∧ ∀ x H', (Itl K a).yld i H x H' → g x (wipe σ vs) H' fun σ2 H2 => wipe σ2 vs = wipe σ vs ∧ tt σ2 H2 fun b H3 =>
        if b = true then wi1 σ2 H3 fun J1 H4 => ∃ W1 : Nat → Nat → Hp → Prop, (∃ m, W1 0 m H4) ∧ ∀ j k H, W1 j k H →
          (J1.stop j H ∧ Nx H) ∨ (J1.go j H ∧ ∃ Nx1 : Hp → Prop, (∀ H', Nx1 H' → ∃ k', k' < k ∧ W1 (j + 1) k' H') ∧ ∀ x H', J1.yld j H x H' → g1 x (wipe σ2 vs1) H' fun σ3 H5 => wipe σ3 vs1 = wipe σ2 vs1 ∧ tt1 σ3 H5 fun b H6 =>
            if b = true then te σ3 H6 fun y H7 => ∃ acc, H7 D = some (.lst acc) ∧ acc.length < sizeLine ∧ Nx1 (upd H7 D (.lst (acc ++ [y]))) else Nx1 H6)
        else Nx H3) := by
  refine ⟨fun i m H => m = xs.length - i ∧ i ≤ xs.length ∧ Pv i H, ⟨xs.length, by simp, Nat.zero_le _, h0⟩, ?_⟩
  rintro i m H ⟨rfl, hi, p⟩
  have q := hl i H hi p
  by_cases hlt : i < xs.length
  · refine .inr ⟨⟨xs, xs[i], q, by simp [hlt]⟩, Pv (i + 1), fun H' p' => ⟨xs.length - (i + 1), by omega, rfl, hlt, p'⟩, fun x H' y => ?_⟩
    obtain ⟨e, y⟩ := y
    subst e
    exact hs i x _ (y xs q) p
  · have e : i = xs.length := by omega
    subst e
    exact .inl ⟨⟨xs, q, Nat.le_refl _⟩, hd H p⟩
/-- the inner walk, over a tuple -/
theorem in_tup {K : PySem.W.Frag} {a : Addr} {ys : List V} {g1 : TG} {tt1 : TT} {te : TE} {vs1 : List Nat} {σ2 : L2.St} {H4 : Hp} {D : Addr} {Nx : Hp → Prop} (Pw : Nat → Hp → Prop) (h0 : Pw 0 H4) (hl : ∀ j H, j ≤ ys.length → Pw j H → SqT K H a ys)
    (hs : ∀ j x H, ys[j]? = some x → Pw j H → g1 x (wipe σ2 vs1) H fun σ3 H5 => wipe σ3 vs1 = wipe σ2 vs1 ∧ tt1 σ3 H5 fun b H6 =>
      if b = true then te σ3 H6 fun y H7 => ∃ acc, H7 D = some (.lst acc) ∧ acc.length < sizeLine ∧ Pw (j + 1) (upd H7 D (.lst (acc ++ [y]))) else Pw (j + 1) H6) (hd : ∀ H, Pw ys.length H → Nx H) :
    InW (Itt K a) H4 Nx g1 tt1 te vs1 σ2 D := by
  refine ⟨fun j k H => k = ys.length - j ∧ j ≤ ys.length ∧ Pw j H, ⟨ys.length, by simp, Nat.zero_le _, h0⟩, ?_⟩
  rintro j k H ⟨rfl, hj, p⟩
  have q := hl j H hj p
  by_cases hlt : j < ys.length
  · refine .inr ⟨⟨ys, ys[j], q, by simp [hlt]⟩, Pw (j + 1), fun H' p' => ⟨ys.length - (j + 1), by omega, rfl, hlt, p'⟩, fun x H' y => ?_⟩
    obtain ⟨e, y⟩ := y
    subst e
    exact hs j x _ (y ys q) p
  · have e : j = ys.length := by omega
    subst e
    exact .inl ⟨⟨ys, q, Nat.le_refl _⟩, hd H p⟩
/-- two rows side by side -/
inductive Ents {β : Type} (R : V → β → Prop) : List V → List β → Prop where
  | nil : Ents R [] []
  | cons {x : V} {e : β} {xs : List V} {es : List β} : R x e → Ents R xs es → Ents R (x :: xs) (e :: es)
section
variable {β : Type} {R R' : V → β → Prop} {xs : List V} {es : List β}
theorem Ents.mono (h : Ents R xs es) (f : ∀ x e, R x e → R' x e) : Ents R' xs es := by
  induction h with
  | nil => exact .nil
  | cons r _ ih => exact .cons (f _ _ r) ih
theorem Ents.len (h : Ents R xs es) : xs.length = es.length := by
  induction h with
  | nil => rfl
  | cons _ _ ih => rw [List.length_cons, List.length_cons, ih]
theorem Ents.app {ys : List V} {fs : List β} (h : Ents R xs es) (k : Ents R ys fs) : Ents R (xs ++ ys) (es ++ fs) := by
  induction h with
  | nil => exact k
  | cons r _ ih => exact .cons r ih
theorem Ents.snoc {x : V} {e : β} (h : Ents R xs es) (r : R x e) : Ents R (xs ++ [x]) (es ++ [e]) := h.app (.cons r .nil)
theorem Ents.get (h : Ents R xs es) : ∀ {i : Nat} {x : V}, xs[i]? = some x → ∃ e, es[i]? = some e ∧ R x e := by
  induction h with
  | nil => intro i x z; simp at z
  | cons r _ ih =>
    intro i x z
    cases i with
    | zero =>
      have z' := Option.some.inj z
      subst z'
      exact ⟨_, rfl, r⟩
    | succ i => exact ih z
end
end Own

set_option maxHeartbeats 2000000
/-! own layer, of no law: OWP3: rows on the heap; comprehensions over rows that stand for data; dicts of the top at given words. -/
namespace Own
open PySem PySem.Spec PyProof.Rows L2 LamX NdefX
/-! ### where a comprehension stands -/
def zE : Expr := .Constant .none 0 ⟨0, 0, 0, 0⟩
def zAt (s : Stmt) (i : Nat) : Stmt := (defBody s).getD i (.Pass ⟨0, 0, 0, 0⟩)
def zIn (i : Nat) : Stmt → Stmt
  | .For _ _ b _ _ => b.getD i (.Pass ⟨0, 0, 0, 0⟩)
  | .While _ b _ _ => b.getD i (.Pass ⟨0, 0, 0, 0⟩)
  | .If _ b _ _ => b.getD i (.Pass ⟨0, 0, 0, 0⟩)
  | s => s
def zEl (i : Nat) : Stmt → Stmt
  | .If _ _ b _ => b.getD i (.Pass ⟨0, 0, 0, 0⟩)
  | s => s
def zVal : Stmt → Expr
  | .Assign _ v _ => v
  | .Return (some e) _ => e
  | .If e _ _ _ => e
  | .Expr e _ => e
  | _ => zE
def zArg (i : Nat) : Expr → Expr
  | .Call _ l _ _ => l.getD i zE
  | .List l _ => l.getD i zE
  | .BoolOp _ l _ => l.getD i zE
  | .Compare a _ _ _ => a
  | .UnaryOp _ a _ => a
  | .BinOp a _ b _ => if i = 0 then a else b
  | _ => zE
def zSc : Expr → Scope
  | .ListComp _ _ s _ => s
  | .DictComp _ _ _ s _ => s
  | _ => ⟨.function, [], false, false, []⟩
/-! ### dicts of the top -/
def getBV (K : PySem.W.Frag) (a : Addr) (l : List (Str × V)) : Bool := l.all fun p => match PySem.W.nsIn K a p.1 with
  | some (some u) => He.relB p.2 u
  | _ => false
theorem getBV_ok {K : PySem.W.Frag} {a : Addr} {l : List (Str × V)} (h : getBV K a l = true) {z : Str} {v : V} (hz : (z, v) ∈ l) : KGet K a z (some v) := by
  have h1 := List.all_eq_true.mp h _ hz
  dsimp only at h1
  cases q : PySem.W.nsIn K a z with
  | none => rw [q] at h1; cases h1
  | some ro =>
    rw [q] at h1
    cases ro with
    | none => cases h1
    | some u => exact ⟨some u, q, He.relB_ok h1⟩
theorem kdct_of {K : PySem.W.Frag} {w : World} {d : Addr} {es : Array DictEntry} {n : Nat} {z : Str} {v : V} (D : KDict K w d es n) (h : KGet K d z (some v)) : KDct K w d z v := by
  obtain ⟨ro, e, r⟩ := h
  cases ro with
  | none => exact absurd r (by intro y; cases y)
  | some u => exact ⟨es, n, u, D.at_, D.lit, e, r⟩
/-- what PARTS and FIELDS say -/
def partL : List (Str × V) := [("column", .int 0), ("constant", .int 0), ("sum", .int 2), ("difference", .int 2), ("product", .int 2), ("quotient", .int 2), ("negative", .int 1), ("cast", .int 1), ("round", .int 1)]
def fieldL : List (Str × V) := [("column", .int 1), ("constant", .int 2), ("sum", .int 0), ("difference", .int 0), ("product", .int 0), ("quotient", .int 0), ("negative", .int 0), ("cast", .int 2), ("round", .int 2)]
theorem part_in (r : Rw) : (r.word, V.int (r.parts.length : Nat)) ∈ partL := by
  unfold partL
  cases r with
  | bin w i j => cases w <;> simp [Rw.word, Bw.txt, Rw.parts]
  | _ => simp [Rw.word, Rw.parts]
theorem field_in (r : Rw) : (r.word, V.int (r.tail.length : Nat)) ∈ fieldL := by
  unfold fieldL
  cases r with
  | bin w i j => cases w <;> simp [Rw.word, Bw.txt, Rw.tail]
  | _ => simp [Rw.word, Rw.tail]
/-! ### rows -/
/-- v is the row r -/
def RwAt (H : Hp) (v : V) (r : Rw) : Prop := ∃ p, v = .ref p ∧ H p = some (.tup r.vals)
theorem RwAt.same {H H' : Hp} {v : V} {r : Rw} (h : RwAt H v r) (s : Same H H') : RwAt H' v r := by
  obtain ⟨p, e1, e2⟩ := h
  exact ⟨p, e1, s _ _ e2⟩
theorem RwAt.put {H : Hp} {v : V} {r : Rw} {D : Addr} {l : List V} (h : RwAt H v r) (hD : H D = some (.lst l)) {o : HO} : RwAt (upd H D o) v r := by
  obtain ⟨p, e1, e2⟩ := h
  refine ⟨p, e1, (upd_ne ?_).trans e2⟩
  rintro rfl
  rw [hD] at e2
  cases e2
/-- rows -/
abbrev RwsAt (H : Hp) (vs : List V) (rs : List Rw) : Prop := Ents (RwAt H) vs rs
theorem RwsAt.same {H H' : Hp} {vs : List V} {rs : List Rw} (h : RwsAt H vs rs) (s : Same H H') : RwsAt H' vs rs := h.mono fun _ _ z => z.same s
theorem ents_take {β : Type} {R : V → β → Prop} {xs : List V} {es : List β} (h : Ents R xs es) : ∀ n, Ents R (xs.take n) (es.take n) := by
  induction h with
  | nil => intro n; rw [List.take_nil, List.take_nil]; exact .nil
  | cons r t ih =>
    intro n
    cases n with
    | zero => exact .nil
    | succ n => exact .cons r (ih n)
theorem ents_drop {β : Type} {R : V → β → Prop} {xs : List V} {es : List β} (h : Ents R xs es) : ∀ n, Ents R (xs.drop n) (es.drop n) := by
  induction h with
  | nil => intro n; rw [List.drop_nil, List.drop_nil]; exact .nil
  | cons r t ih =>
    intro n
    cases n with
    | zero => exact .cons r t
    | succ n => exact ih n
theorem ents_get {β : Type} {R : V → β → Prop} {xs : List V} {es : List β} (h : Ents R xs es) {i : Nat} {e : β} (he : es[i]? = some e) : ∃ x, xs[i]? = some x ∧ R x e := by
  have l := h.len
  have li := (List.getElem?_eq_some_iff.mp he).1
  have hx : xs[i]? = some (xs[i]'(by omega)) := List.getElem?_eq_getElem (by omega)
  obtain ⟨e', he', r⟩ := h.get hx
  rw [he] at he'
  cases he'
  exact ⟨_, hx, r⟩
/-! ### a row as data -/
def vD : V → PyData
  | .int i => .int i
  | .str x => .str x
  | _ => .none
def rwD (r : Rw) : PyData := .tuple (r.vals.map vD)
theorem dp_vals {K : PySem.W.Frag} {H : Hp} (r : Rw) : DpAll K H r.vals (r.vals.map vD) := by
  cases r <;> simp only [Rw.vals, Rw.parts, Rw.tail, Rw.word, List.map, List.nil_append, List.cons_append, List.append_nil, vD] <;> repeat first | exact .nil | refine .cons (.str _) ?_ | refine .cons (.int _) ?_
theorem dp_row {K : PySem.W.Frag} {H : Hp} {v : V} {r : Rw} (h : RwAt H v r) : Dp K H v (rwD r) := by
  obtain ⟨p, rfl, e⟩ := h
  exact .tup (SqT.of e) (dp_vals r)
theorem dp_rows {K : PySem.W.Frag} {H : Hp} {vs : List V} {rs : List Rw} (h : RwsAt H vs rs) : DpAll K H vs (rs.map rwD) := by
  induction h with
  | nil => exact .nil
  | cons r t ih => exact .cons (dp_row r) ih
theorem dp_tup {K : PySem.W.Frag} {H : Hp} {p : Addr} {vs : List V} {rs : List Rw} (e : H p = some (.tup vs)) (h : RwsAt H vs rs) : Dp K H (.ref p) (.tuple (rs.map rwD)) := .tup (SqT.of e) (dp_rows h)
def wordL : List Str := ["column", "constant", "sum", "difference", "product", "quotient", "negative", "cast", "round"]
theorem word_in (r : Rw) : r.word ∈ wordL := by
  unfold wordL
  cases r with
  | bin w i j => cases w <;> simp [Rw.word, Bw.txt]
  | _ => simp [Rw.word]
theorem words_ok : wordL.all PyData.strOk = true := by decide +kernel
theorem ways_ok : waysL.all PyData.strOk = true := by decide +kernel
theorem nm_txt {x : Str} (h : nmOk x = true) : x.length ≤ 8 ∧ PyData.strOk x = true := by
  obtain ⟨_, z⟩ := Bool.and_eq_true_iff.mp h
  obtain ⟨z1, z⟩ := Bool.and_eq_true_iff.mp z
  obtain ⟨z2, _⟩ := Bool.and_eq_true_iff.mp z
  refine ⟨of_decide_eq_true z1, ?_⟩
  unfold PyData.strOk
  have z2 : x.cps.all (· < 128) = true := z2
  rw [Array.all_eq_true] at z2 ⊢
  intro i hi
  have := of_decide_eq_true (z2 i hi)
  exact decide_eq_true (by omega)
theorem rwD_lay {r : Rw} (h : r.ok) : (rwD r).canLay0 = true := by
  have n1 : PyData.strOk r.word = true := List.all_eq_true.mp words_ok _ (word_in r)
  have n2 : ∀ x, r.tail = [.str x] → PyData.strOk x = true := fun x e => by
    cases r with
    | col y =>
      cases e
      exact (nm_txt h).2
    | _ => cases e
  have n3 : ∀ a x, r.tail = [.int a, .str x] → PyData.strOk x = true := fun a x e => by
    cases r with
    | rnd i s y =>
      cases e
      exact List.all_eq_true.mp ways_ok _ h
    | _ => cases e
  cases r with
  | col x => have := n2 x rfl; simp [rwD, Rw.vals, Rw.parts, Rw.tail, vD, PyData.canLay0, PyData.canLayAll0, n1, this]
  | rnd i s y => have := n3 _ y rfl; simp [rwD, Rw.vals, Rw.parts, Rw.tail, vD, PyData.canLay0, PyData.canLayAll0, n1, this]
  | _ => simp [rwD, Rw.vals, Rw.parts, Rw.tail, vD, PyData.canLay0, PyData.canLayAll0, n1]
theorem rwD_depth (r : Rw) : (rwD r).depth = 1 := by
  cases r <;> simp [rwD, Rw.vals, Rw.parts, Rw.tail, vD, PyData.depth, PyData.depthAll]
theorem rwDs_lay : ∀ rs : List Rw, (∀ r ∈ rs, r.ok) → PyData.canLayAll0 (rs.map rwD) = true
  | [], _ => by simp [PyData.canLayAll0]
  | r :: rs, h => by simp [PyData.canLayAll0, rwD_lay (h r List.mem_cons_self), rwDs_lay rs fun x hx => h x (List.mem_cons_of_mem _ hx)]
theorem rwDs_depth : ∀ rs : List Rw, PyData.depthAll (rs.map rwD) ≤ 1
  | [] => by simp [PyData.depthAll]
  | r :: rs => by
    have := rwDs_depth rs
    have := rwD_depth r
    simp only [List.map_cons, PyData.depthAll]
    omega
theorem rows_shaped {rs : List Rw} (h : ∀ r ∈ rs, r.ok) : SeqAt.shaped (.tuple (rs.map rwD)) = true := by
  unfold SeqAt.shaped
  have h1 := rwDs_depth rs
  have h2 := rwDs_lay rs h
  simp only [PyData.canLay0, PyData.depth, h2, Bool.true_and]
  exact decide_eq_true (by omega)
def natD (n : Nat) : PyData := .int (n : Nat)
theorem dp_nats {K : PySem.W.Frag} {H : Hp} : ∀ ns : List Nat, DpAll K H (ns.map nV) (ns.map natD)
  | [] => .nil
  | n :: ns => .cons (.int _) (dp_nats ns)
theorem nats_lay : ∀ ns : List Nat, PyData.canLayAll0 (ns.map natD) = true
  | [] => by simp [PyData.canLayAll0]
  | n :: ns => by
    have := nats_lay ns
    simp [PyData.canLayAll0, natD, PyData.canLay0, this]
theorem nats_depth : ∀ ns : List Nat, PyData.depthAll (ns.map natD) = 0
  | [] => by simp [PyData.depthAll]
  | n :: ns => by
    have := nats_depth ns
    simp [PyData.depthAll, natD, PyData.depth, this]
theorem nats_shaped (ns : List Nat) : SeqAt.shaped (.tuple (ns.map natD)) = true := by
  unfold SeqAt.shaped
  simp [PyData.canLay0, PyData.depth, nats_lay, nats_depth]
end Own

set_option maxHeartbeats 4000000
/-! own layer, of no law: OWP11: what the top leaves is met in rounds, each object once (what was met stands in the bits of one number). -/
namespace Own
open PySem PySem.Spec PyProof.Rows L2 LamX NdefX
def meetE : List Addr → Nat × List Addr → Nat × List Addr
  | [], p => p
  | a :: r, (m, out) => match Nat.testBit m a with
    | true => meetE r (m, out)
    | false => meetE r (m ||| 1 <<< a, a :: out)
def roundE (g : Addr → Option Obj) : List Addr → Nat × List Addr → Nat × List Addr
  | [], p => p
  | a :: r, p => match g a with
    | some o => roundE g r (meetE (He.refsD o) p)
    | none => roundE g r p
def asE (g : Addr → Option Obj) : Nat → Nat → List Addr → List Addr
  | 0, _, now => now
  | n + 1, m, now => match roundE g now (m, []) with
    | (m', nx) => now ++ asE g n m' nx
/-- the objects met within n rounds -/
def asN (g : Addr → Option Obj) (n : Nat) : List Addr := asE g n (1 <<< mainGlobals) [mainGlobals]
section
variable {n : Nat} {fa : List He.Fa} {fn : List He.DefD} {ts : List He.Tab} {tf : List He.Defn} {ex : PySem.W.Frag → Bool} {ps : List He.DefD}
theorem says_as {as : List Addr} {w : World} {h : Heap} (e1 : He.obsT fa fn ts (He.frT h.get? as) = He.valT fn ts w) (e2 : ex (He.frT h.get? as) = true) (e3 : He.tabsB h.get? tf (He.frT h.get? as) = true) : He.SaysX fa fn ts tf ex w h (He.frT h.get? as) := by
  generalize hK : He.frT h.get? as = K at e1 e2 e3
  have each : ∀ p ∈ tf, PySem.W.codeHdIn K (He.cT K p).1 (He.cT K p).2 = true ∧ ∃ o, h.get? (He.cT K p).2 = some o ∧ He.emptyTab o = true := by
    intro p hp
    have z := List.all_eq_true.mp e3 p hp
    have z := He.ba z
    cases q : h.get? (He.cT K p).2 with
    | none => rw [q] at z; exact absurd z.2 (by decide)
    | some o => rw [q] at z; exact ⟨z.1, o, rfl, z.2⟩
  subst hK
  refine { t := e1, more := e2, hd := fun p hp => (each p hp).1, out := fun p hp => ?_, empty := fun p hp => ?_ }
  · have ⟨_, o, a, b⟩ := each p hp
    exact He.frT_none a b
  · have ⟨_, o, a, b⟩ := each p hp
    rw [a, He.emptyTab_eq b]
end
def obsE (n : Nat) (fa : List He.Fa) (fn : List He.DefD) (ts : List He.Tab) (tf : List He.Defn) (ex : PySem.W.Frag → Bool) (ps : List He.DefD) (g : Addr → Option Obj) : AlP :=
  ((He.obsT fa fn ts (He.frT g (asN g n)), ex (He.frT g (asN g n)) && He.tabsB g tf (He.frT g (asN g n))), ps.map fun d => fnWA (He.frT g (asN g n)) (pgA (He.frT g (asN g n)) d.at_))
def hookE (n : Nat) (fa : List He.Fa) (fn : List He.DefD) (ts : List He.Tab) (tf : List He.Defn) (ex : PySem.W.Frag → Bool) (ps : List He.DefD) : PySem.W.Hook where
  α := AlP
  obs := fun s => obsE n fa fn ts tf ex ps s.heap.get?
  val := fun w => valP fn ts ps w
  says := fun w h => ∃ K : PySem.W.Frag, K.In h ∧ He.SaysX fa fn ts tf ex w h K ∧ SaysP ps K
  of := fun s w e => by
    have e1 := congrArg (fun z : AlP => z.1.1) e
    have e2 := He.ba (congrArg (fun z : AlP => z.1.2) e)
    exact ⟨_, He.frT_in, says_as e1 e2.1 e2.2, ⟨congrArg (fun z : AlP => z.2) e⟩⟩
  keeps := fun _ _ _ ⟨K, a, b, c⟩ k => ⟨K, PySem.W.Frag.In.keeps a k, ⟨b.t, b.more, b.hd, b.out, fun p hp => k _ _ (b.empty p hp)⟩, c⟩
theorem obsE_eq {n : Nat} {fa : List He.Fa} {fn : List He.DefD} {ts : List He.Tab} {tf : List He.Defn} {ex : PySem.W.Frag → Bool} {ps : List He.DefD} {g : Addr → Option Obj} {s : Shared} (h : ∀ a, g a = s.heap.get? a) : obsE n fa fn ts tf ex ps g = (hookE n fa fn ts tf ex ps).obs s := by
  have e : g = s.heap.get? := funext h
  subst e
  rfl
end Own

set_option maxHeartbeats 0
/-! k66: what the top leaves; the end. -/
namespace K66
open PySem PySem.Spec PyProof.Rows L2 LamX NdefX Own
def dfn (x : Str) (i : Nat) : He.DefD := ⟨(x, none), x, x, defArgs (topS i), defBody (topS i), defScope (topS i), [], []⟩
def dfnP (x : Str) (i : Nat) (pd : List He.Dv) : He.DefD := ⟨(x, none), x, x, defArgs (topS i), defBody (topS i), defScope (topS i), pd, []⟩
def dMk (x m : Str) (i j : Nat) (pd : List He.Dv) (kd : List (Str × He.Dv)) : He.DefD := ⟨(x, some m), m, x ++ "." ++ m, defArgs (inClass (topS i) j), defBody (inClass (topS i) j), defScope (inClass (topS i) j), pd, kd⟩
def fnL : List He.DefD := [dMk "BadValue" "__init__" 3 0 [] [], dMk "BadStep" "__init__" 6 0 [] [], dMk "NotASum" "__init__" 7 0 [] [], dMk "Formula" "__init__" 27 0 [] [], dMk "Formula" "__add__" 27 2 [] [], dMk "Formula" "__sub__" 27 4 [] [], dMk "Formula" "__mul__" 27 6 [] [], dMk "Formula" "parts" 27 11 [] [], dMk "Formula" "part" 27 12 [] [], dMk "Formula" "replaced" 27 13 [] [], dfn "is_an_integer" 10, dfn "is_whole_number" 11, dfn "is_name" 12, dfn "need_list" 15, dfn "need_formula" 29, dfn "need_step" 30, dfn "parts_of" 31, dfn "as_formula" 32, dfn "_combined" 34, dfn "with_parts" 35, dfnP "_moved" 36 [.int 0], dfn "_first_leading_to" 37, dfn "_first_wrong_step" 38, dfn "_is_row" 39, dfn "_has_good_fields" 40, dfn "spread" 42, dfn "_law_begin" 44, dfn "_law_draw" 45, dfn "_law_pick" 46, dfn "_law_ten" 47, dfn "_law_long" 48, dfn "_law_size" 49, dfn "_law_figures" 50, dfn "_law_words" 51, dfn "_law_parts" 52, dfn "_law_shifted" 53, dfn "_law_laid" 54, dfn "_law_leaf" 55, dfn "_law_side" 56, dfn "_law_added" 57, dfn "_law_spread_out" 58, dfn "_law_denied" 59, dfn "_law_has_sum" 60, dfn "law" 61]
def psL : List He.DefD := [dMk "Formula" "size" 27 9 [] []]
def gloL : List Str := (["FigureError", "BadValue", "BadStep", "NotASum", "Formula", "WAYS", "PARTS", "FIELDS", "is_an_integer", "is_whole_number", "is_name", "need_list", "need_formula", "need_step", "parts_of", "as_formula", "_combined", "with_parts", "_moved", "_first_leading_to", "_first_wrong_step", "_is_row", "_has_good_fields", "spread", "_law_begin"] : List Str) ++ (["_law_draw", "_law_pick", "_law_ten", "_law_long", "_law_size", "_law_figures", "_law_words", "_law_parts", "_law_shifted", "_law_laid", "_law_leaf", "_law_side", "_law_added", "_law_spread_out", "_law_denied", "_law_has_sum", "law"] : List Str)
def freeL : List Str := ["isinstance", "int", "bool", "len", "list", "range", "tuple", "all", "divmod", "min", "max", "str", "abs", "dict", "any", "enumerate", "repr"]
def moreL : List He.Fa := [He.Fa.exm "BadValue" "BadValue" true, .meth "BadValue" "__init__", .noat "BadValue" "value", .keep "BadValue", .exm "BadStep" "BadStep" true, .meth "BadStep" "__init__", .noat "BadStep" "number", .keep "BadStep", .exm "NotASum" "NotASum" true, .meth "NotASum" "__init__", .noat "NotASum" "step", .keep "NotASum", .cls "Formula", .mkr "Formula", .noat "Formula" "rows", .meth "Formula" "__add__", .meth "Formula" "__sub__", .meth "Formula" "__mul__", .meth "Formula" "parts", .meth "Formula" "part", .meth "Formula" "replaced"]
def faL : List He.Fa := gloL.map He.Fa.glo ++ freeL.map He.Fa.free ++ moreL
def tsL : List He.Tab := [(fun K => He.ga K "PARTS", ["column", "constant", "sum", "difference", "product", "quotient", "negative", "cast", "round"]), (fun K => He.ga K "FIELDS", ["column", "constant", "sum", "difference", "product", "quotient", "negative", "cast", "round"])]
/-- isinstance by the class -/
def wisB (K : PySem.W.Frag) (W : Addr) : Bool := (decide (PySem.W.findIn K (.ref W) "__class__" = some (some (.builtin "object.__class__"))) && (decide (PySem.W.specialIn K (.builtin "object.__class__") "__get__" = some (some (.builtin "getset_descriptor.__get__"))) &&
  (decide (PySem.W.takesIn K (.builtin "object.__class__") = some true) && (decide (PySem.W.mroIn K W (.type "object") = some true) && ((tys.all fun T => decide (PySem.W.kitOne K (.type T) (.ref W) = some false)))))))
def exL (K : PySem.W.Frag) : Bool := oexB K (He.ga K "BadValue") && (L2.xfB K (He.ga K "BadValue") && (oexB K (He.ga K "BadStep") && (L2.xfB K (He.ga K "BadStep") && (oexB K (He.ga K "NotASum") && (L2.xfB K (He.ga K "NotASum") && (He.tupB K "WAYS" (waysL.map He.Dv.str) && (getBV K (He.ga K "PARTS") partL && (getBV K (He.ga K "FIELDS") fieldL && (wisB K (He.ga K "Formula") && (propB K ("Formula", some "size") "Formula.size" && (PySem.W.selfFirst K (He.ga K "Formula") && (wisB K (He.ga K "NotASum") && (decide (PySem.W.kitOne K (.ref (He.ga K "NotASum")) (.ref (He.ga K "FigureError")) = some true))))))))))))))
abbrev rowK : PySem.W.OpenRow := PySem.W.OpenLaw.row PySem.Challenge.rw_figurestay_k66_products_spread
abbrev hkL : PySem.W.Hook := hookE 6 faL fnL tsL [] exL psL
def obL (s : PySem.W.SharedT) : AlP := obsE 6 faL fnL tsL [] exL psL (HandSHeadRun.getT s)
theorem obL_eq (s : PySem.W.SharedT) : obL s = hkL.obs s.abs := obsE_eq (HandSHeadRun.getT_eq s)
def looseL : List Str := (["FigureError", "BadValue", "TooFine", "NoFigures", "BadStep", "NotASum", "Worth", "Formula", "WAYS", "PARTS", "FIELDS", "is_an_integer", "is_whole_number", "is_name", "need_list", "need_formula", "need_step", "parts_of", "as_formula", "_combined", "with_parts", "_moved", "_first_leading_to", "_first_wrong_step", "_is_row"] : List Str) ++ (["_has_good_fields", "spread", "_law_begin", "_law_draw", "_law_pick", "_law_ten", "_law_long", "_law_size", "_law_figures", "_law_words", "_law_parts", "_law_shifted", "_law_laid", "_law_leaf", "_law_side", "_law_added", "_law_spread_out", "_law_denied", "_law_has_sum", "TENS", "_wall", "need_integer", "need_whole_number", "ten_to", "digits_of"] : List Str) ++ (["without_zeros", "parted", "as_worth", "constant", "_signed_constant"] : List Str)
end K66

/-! k66: what the top leaves; the end. -/
namespace K66
open PySem PySem.Spec PyProof.Rows L2 LamX NdefX Own
theorem runF (w : World) : HandSHeadRun.RunEq rowK (PySem.W.view rowK.prog [61]) hkL obL 5200 looseL (w.withFollow "special-get-raises" false) := by
  intro os
  kernel_rfl
theorem runT (w : World) : HandSHeadRun.RunEq rowK (PySem.W.view rowK.prog [61]) hkL obL 5200 looseL (w.withFollow "special-get-raises" true) := by
  intro os
  kernel_rfl
theorem runW (w : World) : HandSHeadRun.RunEq rowK (PySem.W.view rowK.prog [61]) hkL obL 5200 looseL w := PySem.W.byRow2 "special-get-raises" (P := fun w => HandSHeadRun.RunEq rowK (PySem.W.view rowK.prog [61]) hkL obL 5200 looseL w) runF runT w
end K66

set_option maxHeartbeats 2000000
/-! own layer, of no law: OWP4: comprehensions over rows that stand for data. -/
namespace Own
open PySem PySem.Spec PyProof.Rows L2 LamX NdefX
theorem sameT {K : PySem.W.Frag} {H H' : Hp} {a : Addr} {xs : List V} (h : SqT K H a xs) (e : Same H H') : SqT K H' a xs := by
  rcases h with (h | h) | h
  · exact .inl (.inl (e _ _ h))
  · obtain ⟨o, h⟩ := h
    exact .inl (.inr ⟨o, e _ _ h⟩)
  · exact .inr h
/-- a comprehension over rows that stand for data: what is kept, and what is made of it -/
theorem lc_entL {β γ : Type} {K : PySem.W.Frag} {a D : Addr} {rs : List V} {es : List β} {R : Hp → V → β → Prop} {S : Hp → V → γ → Prop} {out : β → γ} {cnd : β → Bool} {g : TG} {tt : TT} {te : TE} {vs : List Nat} {σ : L2.St} {H1 : Hp} {Qd : Hp → Prop}
    (hl : H1 a = some (.lst rs)) (hE : Ents (R H1) rs es) (nD : H1 D = none) (hlen : es.length ≤ 1000)
    (Rm : ∀ H H' x e, R H x e → Same H H' → R H' x e) (Sm : ∀ H H' x e, S H x e → Same H H' → S H' x e) (Sp : ∀ H x e (o : HO) (l : List V), S H x e → H D = some (.lst l) → S (upd H D o) x e)
    (step : ∀ x e H' (Nx : V → Hp → Prop) (No : Hp → Prop), e ∈ es → Same H1 H' → R H' x e → (cnd e = true → ∀ y H2, Same H' H2 → S H2 y (out e) → Nx y H2) → (cnd e = false → No H') →
      g x (wipe σ vs) H' fun σ2 H2 => wipe σ2 vs = wipe σ vs ∧ tt σ2 H2 fun b H3 => if b = true then te σ2 H3 Nx else No H3)
    (q : ∀ H' ys, Same H1 H' → H' D = some (.lst ys) → Ents (S H') ys ((es.filter cnd).map out) → Qd H') :
    ∃ W : Nat → Nat → Hp → Prop, (∃ m, W 0 m (upd H1 D (.lst []))) ∧ ∀ i m H, W i m H →
      ((Itl K a).stop i H ∧ Qd H) ∨ ((Itl K a).go i H ∧ ∃ Nx : Hp → Prop, (∀ H', Nx H' → ∃ m', m' < m ∧ W (i + 1) m' H') ∧ ∀ x H', (Itl K a).yld i H x H' → g x (wipe σ vs) H' fun σ2 H2 => wipe σ2 vs = wipe σ vs ∧ tt σ2 H2 fun b H3 =>
        if b = true then te σ2 H3 fun y H4 => ∃ acc, H4 D = some (.lst acc) ∧ acc.length < sizeLine ∧ Nx (upd H4 D (.lst (acc ++ [y]))) else Nx H3) := by
  have len := hE.len
  have small : ∀ i, ((es.take i).filter cnd).length ≤ 1000 := fun i => by
    have := List.length_filter_le cnd (es.take i)
    rw [List.length_take] at this
    omega
  refine lc_list (fun i H' => Same H1 H' ∧ ∃ ys, H' D = some (.lst ys) ∧ Ents (S H') ys (((es.take i).filter cnd).map out)) ⟨same_new nD, [], upd_same, by rw [List.take_zero]; exact .nil⟩ (fun i H' _ z => SqL.of (z.1 _ _ hl)) ?_ ?_
  · rintro i x H' hx ⟨s1, ys, hD, hA⟩
    obtain ⟨e, he, r⟩ := hE.get hx
    have tk : es.take (i + 1) = es.take i ++ [e] := by rw [List.take_succ, he]; rfl
    refine step x e H' _ _ (List.mem_of_getElem? he) s1 (Rm _ _ _ _ r s1) (fun hc y H2 s2 hs => ?_) fun hc => ⟨s1, ys, hD, ?_⟩
    · have hD2 := s2 _ _ hD
      refine ⟨ys, hD2, ?_, ?_, ys ++ [y], upd_same, ?_⟩
      · have h1 := hA.len
        rw [List.length_map] at h1
        have := small i
        have := sizeLine_eq
        omega
      · intro b u eb
        rw [upd_ne (ne_of_none eb nD)]
        exact s2 _ _ (s1 _ _ eb)
      · rw [tk, List.filter_append, List.filter_cons, hc, if_pos rfl, List.map_append]
        exact Ents.snoc (hA.mono fun _ _ z => Sp _ _ _ _ _ (Sm _ _ _ _ z s2) hD2) (Sp _ _ _ _ _ hs hD2)
    · rw [tk, List.filter_append, List.filter_cons, hc, if_neg (by decide), List.filter_nil, List.append_nil]
      exact hA
  · rintro H' ⟨s1, ys, hD, hA⟩
    rw [show es.take rs.length = es by rw [len]; exact List.take_length] at hA
    exact q H' ys s1 hD hA
/-- a comprehension over rows that stand for data: what is kept, and what is made of it -/
theorem lc_entT {β γ : Type} {K : PySem.W.Frag} {a D : Addr} {rs : List V} {es : List β} {R : Hp → V → β → Prop} {S : Hp → V → γ → Prop} {out : β → γ} {cnd : β → Bool} {g : TG} {tt : TT} {te : TE} {vs : List Nat} {σ : L2.St} {H1 : Hp} {Qd : Hp → Prop}
    (hl : SqT K H1 a rs) (hE : Ents (R H1) rs es) (nD : H1 D = none) (hlen : es.length ≤ 1000)
    (Rm : ∀ H H' x e, R H x e → Same H H' → R H' x e) (Sm : ∀ H H' x e, S H x e → Same H H' → S H' x e) (Sp : ∀ H x e (o : HO) (l : List V), S H x e → H D = some (.lst l) → S (upd H D o) x e)
    (step : ∀ x e H' (Nx : V → Hp → Prop) (No : Hp → Prop), e ∈ es → Same H1 H' → R H' x e → (cnd e = true → ∀ y H2, Same H' H2 → S H2 y (out e) → Nx y H2) → (cnd e = false → No H') →
      g x (wipe σ vs) H' fun σ2 H2 => wipe σ2 vs = wipe σ vs ∧ tt σ2 H2 fun b H3 => if b = true then te σ2 H3 Nx else No H3)
    (q : ∀ H' ys, Same H1 H' → H' D = some (.lst ys) → Ents (S H') ys ((es.filter cnd).map out) → Qd H') :
    ∃ W : Nat → Nat → Hp → Prop, (∃ m, W 0 m (upd H1 D (.lst []))) ∧ ∀ i m H, W i m H →
      ((Itt K a).stop i H ∧ Qd H) ∨ ((Itt K a).go i H ∧ ∃ Nx : Hp → Prop, (∀ H', Nx H' → ∃ m', m' < m ∧ W (i + 1) m' H') ∧ ∀ x H', (Itt K a).yld i H x H' → g x (wipe σ vs) H' fun σ2 H2 => wipe σ2 vs = wipe σ vs ∧ tt σ2 H2 fun b H3 =>
        if b = true then te σ2 H3 fun y H4 => ∃ acc, H4 D = some (.lst acc) ∧ acc.length < sizeLine ∧ Nx (upd H4 D (.lst (acc ++ [y]))) else Nx H3) := by
  have len := hE.len
  have small : ∀ i, ((es.take i).filter cnd).length ≤ 1000 := fun i => by
    have := List.length_filter_le cnd (es.take i)
    rw [List.length_take] at this
    omega
  refine lc_tup (fun i H' => Same H1 H' ∧ ∃ ys, H' D = some (.lst ys) ∧ Ents (S H') ys (((es.take i).filter cnd).map out)) ⟨same_new nD, [], upd_same, by rw [List.take_zero]; exact .nil⟩ (fun i H' _ z => sameT hl z.1) ?_ ?_
  · rintro i x H' hx ⟨s1, ys, hD, hA⟩
    obtain ⟨e, he, r⟩ := hE.get hx
    have tk : es.take (i + 1) = es.take i ++ [e] := by rw [List.take_succ, he]; rfl
    refine step x e H' _ _ (List.mem_of_getElem? he) s1 (Rm _ _ _ _ r s1) (fun hc y H2 s2 hs => ?_) fun hc => ⟨s1, ys, hD, ?_⟩
    · have hD2 := s2 _ _ hD
      refine ⟨ys, hD2, ?_, ?_, ys ++ [y], upd_same, ?_⟩
      · have h1 := hA.len
        rw [List.length_map] at h1
        have := small i
        have := sizeLine_eq
        omega
      · intro b u eb
        rw [upd_ne (ne_of_none eb nD)]
        exact s2 _ _ (s1 _ _ eb)
      · rw [tk, List.filter_append, List.filter_cons, hc, if_pos rfl, List.map_append]
        exact Ents.snoc (hA.mono fun _ _ z => Sp _ _ _ _ _ (Sm _ _ _ _ z s2) hD2) (Sp _ _ _ _ _ hs hD2)
    · rw [tk, List.filter_append, List.filter_cons, hc, if_neg (by decide), List.filter_nil, List.append_nil]
      exact hA
  · rintro H' ⟨s1, ys, hD, hA⟩
    rw [show es.take rs.length = es by rw [len]; exact List.take_length] at hA
    exact q H' ys s1 hD hA
theorem rows_same {rs : List Rw} (h : ∀ r ∈ rs, r.ok) : PyData.eqv (.tuple (rs.map rwD)) (.tuple (rs.map rwD)) = true := SeqAt.eqv_refl_plain _ (PyData.plain_of_canLay0 _ (SeqAt.canLay_of_shaped (rows_shaped h)))
theorem nats_same (ns : List Nat) : PyData.eqv (.tuple (ns.map natD)) (.tuple (ns.map natD)) = true := SeqAt.eqv_refl_plain _ (PyData.plain_of_canLay0 _ (SeqAt.canLay_of_shaped (nats_shaped ns)))
end Own

set_option maxHeartbeats 4000000
/-! own layer, of no law: OWO8: a dict comprehension whose keys are tuples. -/
namespace Own
open PySem PySem.Spec PyProof.Rows L2 LamX NdefX
theorem d_setT {X : Cx} {pins : List (Addr × Obj)} {σ : L2.St} {H : Hp} {s : Shared} {E : Value → Shared → Prop} {D p : Addr} {kvs : List (List Key × V)} {k : List Key} {v : V} {u r : Value} {Q : Unit → Shared → Prop} (I : Inv X pins σ H s) (hu : X.A.units + 1 < cLine) (hD : H D = some (.dT kvs)) (hp : H p = some (.tup (k.map kV))) (hz : kvs.length < sizeLine)
    (ry : RelV (.ref p) u) (rv : RelV v r) (go : ∀ s', Inv X pins σ (upd H D (.dT (putK kvs k v))) s' → Q () s') : wpAny (model X.prog X.w) X.A (dictSet D u r) Q E s := by
  obtain rfl : u = Value.ref p := ry
  obtain ⟨len, hm, xs, kt, dd⟩ := dt_of I.hok hD
  have lx : xs.length ≤ sizeLine := by
    rw [← Paired.length kt]
    exact len
  have lp : (putK kvs k v).length ≤ sizeLine := by
    have := length_putK kvs k v
    omega
  refine wpAny_dictSet_heap (hsz := lx) (show X.A.units < cLine by omega) (key_of I.hok hp) dd fun h' dd2 sb => go _ ?_
  obtain ⟨q, es, ep, z1, z2, z3, z4, _, z5⟩ := dd2
  refine d_write I (by rw [hD]; trivial) sb ⟨q, z1⟩ ⟨lp, hm, _, KT.keeps (kt.put k hp rv) (fun c ys ec => ?_), q, es, ep, z1, z2, z3, z4, z5⟩
  have ne : c ≠ D := ne_of ec hD (by intro z; cases z)
  rw [upd_ne ne]
  exact ec
section
variable {X : Cx}
/-- {..: .. for target in iter}: keys that are tuples of ints and texts -/
def tDcT (wi : TI) (g : TG) (tk tv : TE) (vs : List Nat) : TE := fun σ H Q => wi σ H fun J H1 => ∀ D, H1 D = none → ∃ W : Nat → Nat → Hp → Prop, (∃ m, W 0 m (upd H1 D (.dT []))) ∧ ∀ i m H, W i m H →
  (J.stop i H ∧ Q (.ref D) H) ∨ (J.go i H ∧ ∃ Nx : Hp → Prop, (∀ H', Nx H' → ∃ m', m' < m ∧ W (i + 1) m' H') ∧ ∀ x H', J.yld i H x H' → g x (wipe σ vs) H' fun σ2 H2 => wipe σ2 vs = wipe σ vs ∧ tYes σ2 H2 fun b H3 =>
    if b = true then tk σ2 H3 fun y H4 => tv σ2 H4 fun z H5 => ∃ kvs k p, y = .ref p ∧ H5 D = some (.dT kvs) ∧ H5 p = some (.tup (k.map kV)) ∧ kvs.length < sizeLine ∧ Nx (upd H5 D (.dT (putK kvs k z))) else Nx H3)
theorem pe_dcT {kx vx tg iter : Expr} {scope : Scope} {own : List (Str × Nat)} {pos : Pos} {wi : TI} {g : TG} {tk tv : TE} (hc : X.calm = true) (hu : X.A.units + 1 < cLine) (hN : X.N.Nodup) (hi : PI X tg iter wi) (ok : BlkOk X.N X.env.scope scope own)
    (hg : ∀ (s : Shared) (H : Hp) (C : Addr) (cl : List (Str × Addr)) (fp : List Addr), PG (X.blk s H scope (compEnvC scope cl C X.env) fp) tg g)
    (hk : ∀ (s : Shared) (H : Hp) (C : Addr) (cl : List (Str × Addr)) (fp : List Addr), PE (X.blk s H scope (compEnvC scope cl C X.env) fp) kx tk)
    (he : ∀ (s : Shared) (H : Hp) (C : Addr) (cl : List (Str × Addr)) (fp : List Addr), PE (X.blk s H scope (compEnvC scope cl C X.env) fp) vx tv)
    (hs : ∀ x, foldedSetIterable iter X.env x = pure x := by intro _; rfl) : PE X (.DictComp kx vx [⟨tg, iter, [], 0⟩] scope pos) (tDcT wi g tk tv (own.map (·.2))) := by
  constructor
  intro pins s σ H Q I h
  have cap : ∀ y ∈ scope.names, y.2 = .free → ∃ c, X.env.cells.lookup y.1 = some c := fun y hy e => (ok.free y hy e).elim (fun z => I.ok.has _ (.inl z)) (fun z => I.ok.has _ (.inr z))
  rw [arm_eval_DictComp]
  refine wpAny_comprehension_free (use := none) rfl hs (closure_ok cap) ok.kind (fun y hy e => (ok.uniq y hy).trans (congrArg some e)) ?_
  refine thn (hi.run pins s σ H _ I h) fun itr sA hA => thn hA fun _ sB hB => ?_
  obtain ⟨it, fp, tn, J, HB, rfl, IB, T, tB, fB, q⟩ := hB
  have nD : HB sB.heap.objs.size = none := IB.hok.fresh (Nat.le_refl _)
  obtain ⟨W, ⟨m0, w0⟩, turn⟩ := q _ nD
  refine wpAny_newObj_type (newEnv_comp ?_) 
  have inSz : ∀ b ∈ fp, b < sB.heap.objs.size := fun b hb => (T.obj _ _ tB b hb).elim fun _ z => Heap.lt_size z.1
  -- the new list stands
  generalize hsC : ({ sB with heap := sB.heap.push { cls := .type "dict", data := .dict #[] } } : Shared) = sC
  have heapC : sC.heap = sB.heap.push { cls := .type "dict", data := .dict #[] } := by subst hsC; rfl
  have toC : ∀ b o, sB.heap.get? b = some o → sC.heap.get? b = some o := fun b o z => by rw [heapC]; exact Heap.get?_push_of_some _ z
  generalize hD : sB.heap.objs.size = D at nD w0 turn inSz
  have IC : Inv X pins σ (upd HB D (.dT [])) sC := by
    have z := IB.laid (a := D) (o := .dT []) (t' := sB.toks) (h' := sC.heap) toC (Nat.le_of_eq hD) (by rw [heapC, ← hD]; exact dt_empty sB.heap IB.big)
    subst hsC
    exact z
  generalize hHC : upd HB D (.dT []) = HC at IC w0
  have fC : ∀ b ∈ fp, FpOk X pins HC b ∧ b < sC.heap.objs.size := fun b hb => by
    have lt := inSz b hb
    refine ⟨⟨?_, (fB b hb).2⟩, ?_⟩
    · rw [← hHC, upd_ne (Nat.ne_of_lt lt)]
      exact (fB b hb).1
    · rw [heapC, Heap.size_push, hD]
      exact Nat.lt_succ_of_lt lt
  have tC : tn 0 sC.heap := T.keep _ _ _ tB fun b _ o z => toC b o z
  have blk := block_start IC ok hN fC
  generalize hcl : cellsFrom (sC.heap.objs.size + 1) scope.names (cloFrom X.env.cells scope.names []) = cells at blk ⊢
  have hgB := hg sC HC sC.heap.objs.size cells fp
  have hkB := hk sC HC sC.heap.objs.size cells fp
  have heB := he sC HC sC.heap.objs.size cells fp
  have htB : PTs (X.blk sC HC scope (compEnvC scope cells sC.heap.objs.size X.env) fp) [] tYes := pts_nil
  show codeAny _ _ (.compStart (.DictComp kx vx [⟨tg, iter, [], 0⟩] scope pos) 0 (.ref it) (.ref D) (compEnvC scope cells sC.heap.objs.size X.env)) (compPost (model X.prog X.w) X.A X.xe none (EP X pins σ Q) (.ref D) sC.heap.objs.size) { sC with heap := pushCells (sC.heap.push { cls := .type "dict", data := .dict #[] }) scope.names }
  generalize hce : compEnvC scope cells sC.heap.objs.size X.env = ce at blk hgB hkB heB htB ⊢
  have ceL : ce.locals = sC.heap.objs.size := by rw [← hce]; rfl
  generalize hsE : ({ sC with heap := pushCells (sC.heap.push { cls := .type "dict", data := .dict #[] }) scope.names } : Shared) = sE at blk ⊢
  have tE : tn 0 sE.heap := T.keep _ _ _ tC fun b _ o z => by rw [← hsE]; exact pushCells_keeps _ _ _ _ (Heap.get?_push_of_some _ z)
  -- the iterator's objects as the block sees them
  have seen : ∀ {σ' : L2.St} {H' : Hp} {s' : Shared}, Inv (X.blk sC HC scope ce fp) [] σ' H' s' → (∀ b ∈ fp, H' b = none) → ∀ b ∈ fp, FpOk (X.blk sC HC scope ce fp) [] H' b := fun {σ' H' s'} J' n b hb => by
    have z1 := J'.ok.exf b hb
    exact ⟨n b hb, z1.1, J'.ok.exfs b hb, .inl hb, z1.2, fun p hp => absurd (show p ∈ ([] : List (Addr × Obj)) ++ [] from hp) (by simp)⟩
  have whole : codeAny (model X.prog X.w) X.A (.compLoop (.DictComp kx vx [⟨tg, iter, [], 0⟩] scope pos) 0 (.ref it) (.ref D) ce) (compPost (model X.prog X.w) X.A X.xe none (EP X pins σ Q) (.ref D) sC.heap.objs.size) sE := by
    refine compLoop_anyD (fun n s' => ∃ (i : Nat) (H' : Hp), W i n H' ∧ (∀ b ∈ fp, H' b = none) ∧ tn i s'.heap ∧ Inv (X.blk sC HC scope ce fp) [] (wipe σ (own.map (·.2))) H' s') ?_ m0 ⟨0, HC, w0, fun b hb => (fC b hb).1.1, tE, blk⟩
    rintro n sF ⟨i, HF, wF, nF, tF, IF⟩
    rcases turn i n HF wF with ⟨hstop, hq⟩ | ⟨hgo, Nx, hNx, step⟩
    · have fin := T.done (X.blk sC HC scope ce fp) rfl rfl rfl hc i [] sF _ HF (fun _ _ => False) IF (seen IF nF) tF hstop
      refine thnF fin ?_
      rintro _ sG ⟨rfl, IG⟩
      have IX : Inv X pins σ HF sG := IC.call' (ch := fp) IG.os IG.base IG.hok IG.bare fun b hb => by
        obtain ⟨⟨_, a1, a2, a3, a4, a5⟩, _⟩ := fC b hb
        exact ⟨a3, a1, a4, a5⟩
      have free : HF sC.heap.objs.size = none := by
        have z : HF ce.locals = none := IG.free
        rw [← ceL]
        exact z
      obtain ⟨m, hn, _⟩ := IG.loc
      have hn : sG.heap.Ns ce.locals m := hn
      rw [ceL] at hn
      obtain ⟨f0, f1, f2, f3, f4, f5⟩ := IC.fpOk (H' := HF) (Nat.le_refl _) free
      exact ⟨m, hn, fun h2 sb => ⟨.ref D, HF, IX.turned (t' := sG.toks) (fun b o hb e => (sb.2 b hb).trans e) f0 f1 f3 f4 f5, rfl, hq⟩⟩
    · have nxt := T.item (X.blk sC HC scope ce fp) rfl rfl rfl hc i [] sF _ HF (fun _ _ => False) IF (seen IF nF) tF hgo
      refine thnF nxt ?_
      rintro _ sG ⟨u, rfl, hG⟩
      refine thnF hG ?_
      rintro _ sI ⟨x, HI, II, rI, yI, tI, nI⟩
      have pinned := II.pinned (seen II nI) (T.obj _ _ tI)
      refine thnF (hgB.run _ sI _ HI x u _ pinned rI (step x HI yI)) ?_
      rintro _ sJ ⟨σJ, HJ, IJ, hwJ, qJ⟩
      refine thnF (htB.run _ sJ σJ HJ _ IJ qJ) ?_
      rintro b sK ⟨HK, IK, qK⟩
      have again : ∀ {s' : Shared} {H' : Hp}, Inv (X.blk sC HC scope ce fp) ([] ++ pinsAt fp sI.heap) σJ H' s' → Nx H' → ∃ m, m < n ∧ ∃ (i : Nat) (H' : Hp), W i m H' ∧ (∀ b ∈ fp, H' b = none) ∧ tn i s'.heap ∧ Inv (X.blk sC HC scope ce fp) [] (wipe σ (own.map (·.2))) H' s' := fun {s' H'} J' hx => by
        obtain ⟨m', lt, w'⟩ := hNx H' hx
        have pn : ∀ b ∈ fp, ∀ o, sI.heap.get? b = some o → s'.heap.get? b = some o ∧ H' b = none := fun b hb o z => by
          have y := J'.pin (b, o) (List.mem_append_right _ (List.mem_append_right _ (mem_pinsAt hb z)))
          exact ⟨y.1, y.2.1⟩
        refine ⟨m', lt, i + 1, H', w', fun b hb => ?_, T.keep _ _ _ tI fun b hb o z => (pn b hb o z).1, ?_⟩
        · obtain ⟨o, z, _⟩ := T.obj _ _ tI b hb
          exact (pn b hb o z).2
        · refine (J'.unpinned (pins := [])).weak (by rw [← hwJ, wipe_length]) fun j v z => ?_
          rw [← hwJ] at z
          exact (wipe_some z).1
      cases b
      case false =>
        simp only [Bool.false_eq_true, if_false] at qK ⊢
        exact again IK qK
      case true =>
        simp only [if_true] at qK ⊢
        refine thnF (hkB.run _ sK σJ HK _ IK qK) ?_
        rintro z sL ⟨y, HL, IL, rL, qL⟩
        refine thnF (heB.run _ sL σJ HL _ IL qL) ?_
        rintro z2 sM ⟨y2, HM, IM, rM, kvs, k, p, rfl, hD5, hp5, hz5, hnx⟩
        exact d_setT (X := X.blk sC HC scope ce fp) IM hu hD5 hp5 hz5 rL rM fun sN IN => again IN hnx
  exact codeAny_compStart_dict whole (T.self X.A 0 _ _ _ tE whole)
end
end Own

/-! own layer, of no law: OWO10: enumerate(xs), xs a list or a tuple. -/
namespace Own
open PySem PySem.Spec PyProof.Rows L2 LamX NdefX
theorem enum_newT {t : Addr} {xs : Array Value} :
    Meets (Builtin.«enumerate.__new__» ⟨[.type "enumerate", .ref t], []⟩) (fun _ R s => s.heap.IsTuple t xs ∧
      R (.ok (.ret (.ref (s.heap.push { cls := .type "tuple_iterator", data := .fields #[.ref t, .int 0 0] }).objs.size)))
        { s with heap := (s.heap.push { cls := .type "tuple_iterator", data := .fields #[.ref t, .int 0 0] }).push { cls := .type "enumerate", data := .fields #[.none, .bool false, .ref s.heap.objs.size, rawInt 0, .none, .none] } }) :=
  Meets.of_wp fun prog w A R st hh => by
    obtain ⟨ht, go⟩ := hh
    obtain ⟨mem, gn, dr, ct, osv⟩ := st
    have subs := sub_enumerate
    have begins : ∀ {B : Around} {E : Value → Shared → Prop} {Q : Value → Shared → Prop}, Q (.ref mem.objs.size) ⟨mem.push { cls := .type "tuple_iterator", data := .fields #[.ref t, .int 0 0] }, gn, dr, ct, osv⟩ → wpAny (model prog w) B (pyIter (.ref t)) Q E ⟨mem, gn, dr, ct, osv⟩ :=
      fun z => (begins_tuple t xs).iter prog w _ _ ⟨mem, gn, dr, ct, osv⟩ _ ht z
    wp_walk using begins
    refine wpAny_stack_any fun sk => wpAny_pure ?_
    split
    · rename_i k _ _ _ _ _
      cases (k == Value.type "enumerate")
      all_goals
        wp_walk using begins
        exact ⟨_, rfl, go⟩
    · wp_walk using begins
      exact ⟨_, rfl, go⟩
section
variable {prog : Program} {w : World} {A : Around} {E : Value → Shared → Prop} {s : Shared}
theorem enum_callT {t : Addr} {xs : Array Value} {Q : Value → Shared → Prop} (ht : s.heap.IsTuple t xs)
    (go : ∀ mem, IsEnum mem (s.heap.objs.size + 1) s.heap.objs.size 0 .none → mem.IsTupleIter s.heap.objs.size t 0 → mem.objs.size = s.heap.objs.size + 2 →
      (∀ x o, s.heap.get? x = some o → mem.get? x = some o) → Q (.ref (s.heap.objs.size + 1)) { s with heap := mem }) : wpAny (model prog w) A (call (.type "enumerate") [.ref t]) Q E s := by
  refine callType_new F.called_enumerate (by decide) (F.typeCall_enumerate_1 _) (F.newCall_enumerate_1 _)
    (fun z => F.args_object_init_2 z _) F.entry_enumerate_new enum_newT ⟨ht, ?_⟩
  generalize eo : ({ cls := .type "tuple_iterator", data := .fields #[.ref t, .int 0 0] } : Obj) = o1
  have f1 : o1.isFreed = false := by subst eo; rfl
  have size1 : (s.heap.push o1).objs.size = s.heap.objs.size + 1 := Heap.size_push ..
  have top := Heap.get?_push_size (s.heap.push o1) (o := { cls := .type "enumerate", data := .fields #[.none, .bool false, .ref s.heap.objs.size, rawInt 0, .none, .none] }) rfl
  rw [size1] at top
  have below := Heap.get?_push_size s.heap (o := o1) f1
  show _ ∧ _
  rw [size1]
  refine ⟨⟨_, top, rfl⟩, go _ top ⟨_, Heap.get?_push_of_some _ below, by subst eo; exact ⟨rfl, rfl⟩⟩ (by rw [Heap.size_push, size1]) fun x o e => ?_⟩
  exact Heap.get?_push_of_some _ (Heap.get?_push_of_some _ e)
end
/-- the tuple at a, item by item, each in a new pair with its place -/
def IteT (K : PySem.W.Frag) (a : Addr) : It where
  go := fun i H => ∃ (xs : List V) (x : V), SqT K H a xs ∧ xs[i]? = some x
  yld := fun i H v H' => ∃ (T : Addr) (x : V), v = .ref T ∧ H T = none ∧ H' = upd H T (.tup [.int (i : Nat), x]) ∧ ∀ xs, SqT K H a xs → xs[i]? = some x
  stop := fun i H => ∃ xs : List V, SqT K H a xs ∧ xs.length = i
theorem apart_cls {h : Heap} {a b : Addr} {o u : Obj} (ha : h.get? a = some o) (hb : h.get? b = some u) (n : o.cls ≠ u.cls) : a ≠ b := by
  intro e
  rw [e, hb] at ha
  exact n (by rw [Option.some.inj ha])
theorem turn_enumT {P : Program} {w : World} {K : PySem.W.Frag} {ts : List Expr} {k : Nat} {tp : Pos} (a e it : Addr) :
    Turn P w K (.Tuple ts k tp) (IteT K a) [e, it] e (fun i h => (∃ was, IsEnum h e it ((i : Nat) : Int) was) ∧ h.IsTupleIter it a i ∧ e ≠ it) := by
  have two : ∀ {b : Addr}, b ∈ [e, it] → b = e ∨ b = it := fun hb => by simpa using hb
  constructor
  · exact List.mem_cons_self ..
  · rintro i h ⟨⟨was, e1⟩, ⟨o, o1, o2, o3⟩, _⟩ b hb
    rcases two hb with rfl | rfl
    · exact ⟨_, e1, fun v z => by cases z⟩
    · exact ⟨o, o1, fun v z => by rw [o3] at z; cases z⟩
  · rintro i h h' ⟨⟨was, e1⟩, hi, ne⟩ k
    exact ⟨⟨was, k e (by simp) _ e1⟩, hi.at fun o z => k it (by simp) o z, ne⟩
  · intro X pX wX kX calm i pins s σ H E I old st hg
    subst pX wX kX
    obtain ⟨⟨was, e1⟩, hit, ne⟩ := st
    obtain ⟨xs, x, hq, hx⟩ := hg
    obtain ⟨its, rv, ht, hz⟩ := I.tuple hq
    obtain ⟨u, hu, ru⟩ := rv.get hx
    have lt : i < its.length := (List.getElem?_eq_some_iff.mp hu).1
    obtain ⟨ot, ot1, ot2, nt, ot3⟩ := id ht
    obtain ⟨oi, oi1, oi2, oi3⟩ := id hit
    have na : a ≠ it := apart_cls ot1 oi1 (by rw [ot2, oi2]; simp)
    have ne2 : e ≠ a := apart_cls e1 ot1 (by rw [ot2]; simp)
    have le : e < s.heap.objs.size := Heap.lt_size e1
    have li : it < s.heap.objs.size := Heap.lt_size oi1
    refine wpAny_pyNext_enum_itemD (Draws.tuple (A := X.A.in1) (I.ok.hd calm) it a na its.toArray) e1 ⟨hit, ht⟩ (by simpa using lt) ne (by simp [ne, ne2]) fun y mem tk hy out st2 hT hsz same => ?_
    obtain rfl : y = u := by
      have : its[i]? = some y := by simpa using hy
      rw [hu] at this
      exact (Option.some.inj this).symm
    refine ⟨_, rfl, wpAny_letOwnedTupleGo_enum (s := { s with heap := mem, toks := tk + 1 }) out fun mem2 back sb => ?_⟩
    have pair : mem2.get? s.heap.objs.size = some { cls := .type "tuple", data := .seq #[.int i tk, y] } := (sb.2 _ (Nat.ne_of_gt le)).trans hT
    have I1 : Inv X pins σ (upd H s.heap.objs.size (.tup [.int (i : Nat), x])) { s with heap := mem2, toks := tk + 1 } := by
      refine I.turnedNew (ch := [e, it]) (fun b ob hb z => ?_) old (Nat.le_refl _) ⟨by show 2 ≤ sizeLine; decide, [.int i tk, y], .cons ⟨_, rfl⟩ (.cons ru .nil), ⟨_, pair, rfl, _, rfl⟩⟩
      have b1 : b ≠ e := fun y => hb (by simp [y])
      have b2 : b ≠ it := fun y => hb (by simp [y])
      exact (sb.2 b b1).trans (same b ob b1 b2 z)
    refine ⟨.ref s.heap.objs.size, _, I1, rfl, ⟨_, x, rfl, I.hok.fresh (Nat.le_refl _), rfl, fun zs hzs => ?_⟩, ⟨⟨y, ?_⟩, st2.1.at fun o z => (sb.2 it ne.symm).trans z, ne⟩, fun b hb => ?_⟩
    · rw [I.tuple_inj hzs hq]
      exact hx
    · have e9 : ((i + 1 : Nat) : Int) = (i : Int) + 1 := by omega
      rw [e9]
      exact back
    · have lb : b < s.heap.objs.size := by
        rcases two hb with rfl | rfl
        · exact le
        · exact li
      rw [upd_ne (Nat.ne_of_lt lb)]
      exact (old b hb).1
  · intro X pX wX kX calm i pins s σ H E I old st hg
    subst pX wX kX
    obtain ⟨⟨was, e1⟩, hit, ne⟩ := st
    obtain ⟨xs, hq, hx⟩ := hg
    obtain ⟨its, rv, ht, hz⟩ := I.tuple hq
    obtain ⟨ot, ot1, ot2, nt, ot3⟩ := id ht
    obtain ⟨oi, oi1, oi2, oi3⟩ := id hit
    have na : a ≠ it := apart_cls ot1 oi1 (by rw [ot2, oi2]; simp)
    obtain ⟨f0, f1, f2, f3, f4, f5⟩ := old it (by simp)
    have len := rv.length
    refine wpAny_pyNext_enum_endD (Draws.tuple (A := X.A.in1) (I.ok.hd calm) it a na its.toArray) e1 ⟨?_, ht⟩ fun mem out => ⟨rfl, I.turned (t' := s.toks) (fun b o hb z => out b o hb z) f0 f1 f3 f4 f5⟩
    rw [List.size_toArray, ← len, hx]
    exact hit
  · rintro A i s Q E ⟨⟨was, e1⟩, _⟩ q
    exact wpAny_pyIter_enum e1 q
/-- enumerate(xs), xs a list or a tuple -/
def iEnumA (K : PySem.W.Frag) (ta : TA) : TI := fun σ H R => ta σ H fun vs H1 => ∃ (a : Addr) (xs : List V), vs = [.ref a] ∧ ((SqL K H1 a xs ∧ R (Ite K a) H1) ∨ (SqT K H1 a xs ∧ R (IteT K a) H1))
theorem pi_enumA {X : Cx} {e : Expr} {ta : TA} {p pos tp : Pos} {ts : List Expr} {k : Nat} (hg : Gl X "enumerate") (hm : X.mg "enumerate" = none) (ha : PA X [e] ta) (hs : starEach [e] X.env = [(false, eval e X.env)] := by rfl) :
    PI X (.Tuple ts k tp) (.Call (.Name "enumerate" p) [e] [] pos) (iEnumA X.K ta) := by
  constructor
  intro pins s σ H R I h
  refine Call_ (ld_blt I hg hm boot_enumerate (PyProof.Rows.callWith_type1 (thn (ha.run pos pins s σ H _ I h) ?_) hs rfl))
  rintro us s1 ⟨vs, H1, I1, r1, a, xs, rfl, q⟩
  obtain rfl := Vals.ref1 r1
  have low : ∀ {b : Addr}, b ∈ [s1.heap.objs.size + 1, s1.heap.objs.size] → s1.heap.objs.size ≤ b := fun {b} hb => by
    rcases List.mem_cons.mp hb with rfl | hb
    · exact Nat.le_add_right _ _
    · rw [List.mem_singleton.mp hb]
      exact Nat.le_refl _
  rcases q with ⟨hq, q⟩ | ⟨hq, q⟩
  · obtain ⟨its, rv, ls, hz⟩ := I1.list hq
    refine call_enumerate_list ls.isList fun mem e1 it1 size old => wpAny_pyIter_enum e1 ⟨s1.heap.objs.size + 1, [s1.heap.objs.size + 1, s1.heap.objs.size], _, _, H1, rfl, I1.kept (t' := s1.toks) old, turn_enum a _ s1.heap.objs.size, ⟨⟨.none, e1⟩, it1, Nat.succ_ne_self _⟩, fun b hb => I1.fpOk (low hb) (I1.hok.fresh (low hb)), q⟩
  · obtain ⟨its, rv, tu, hz⟩ := I1.tuple hq
    refine enum_callT tu fun mem e1 it1 size old => wpAny_pyIter_enum e1 ⟨s1.heap.objs.size + 1, [s1.heap.objs.size + 1, s1.heap.objs.size], _, _, H1, rfl, I1.kept (t' := s1.toks) old, turn_enumT a _ s1.heap.objs.size, ⟨⟨.none, e1⟩, it1, Nat.succ_ne_self _⟩, fun b hb => I1.fpOk (low hb) (I1.hok.fresh (low hb)), q⟩
theorem walk_enumT {K : PySem.W.Frag} {a : Addr} {xs : List V} : Walk (IteT K a) xs.length (fun H => SqT K H a xs) (YPair (fun i => some (.int (i : Nat))) (fun i => xs[i]?)) := by
  refine ⟨fun i H hi q => ⟨xs, xs[i], q, by simp [hi]⟩, fun H q => ⟨xs, q, rfl⟩, fun i H v H' hi q y => ?_⟩
  obtain ⟨T, x, rfl, nT, rfl, z⟩ := y
  exact ⟨T, _, x, rfl, nT, rfl, rfl, z xs q⟩
/-- a dict comprehension, keys tuples, over any walk -/
theorem dcT_it {J : It} {n : Nat} {G : Hp → Prop} {Y : Nat → Hp → V → Hp → Prop} (w : Walk J n G Y) {g : TG} {tk tv : TE} {vs : List Nat} {σ : L2.St} {H1 : Hp} {D : Addr} {Z : Hp → Prop} (Pv : Nat → Hp → Prop) (start : Pv 0 (upd H1 D (.dT []))) (good : ∀ i H, i ≤ n → Pv i H → G H)
    (turn : ∀ i x H H', i < n → Pv i H → Y i H x H' → g x (wipe σ vs) H' fun σ2 H2 => wipe σ2 vs = wipe σ vs ∧ tYes σ2 H2 fun b H3 =>
      if b = true then tk σ2 H3 fun y H4 => tv σ2 H4 fun z H5 => ∃ kvs k p, y = .ref p ∧ H5 D = some (.dT kvs) ∧ H5 p = some (.tup (k.map kV)) ∧ kvs.length < sizeLine ∧ Pv (i + 1) (upd H5 D (.dT (putK kvs k z))) else Pv (i + 1) H3) (fin : ∀ H, Pv n H → Z H) :
    ∃ W : Nat → Nat → Hp → Prop, (∃ m, W 0 m (upd H1 D (.dT []))) ∧ ∀ i m H, W i m H →
      (J.stop i H ∧ Z H) ∨ (J.go i H ∧ ∃ Nx : Hp → Prop, (∀ H', Nx H' → ∃ m', m' < m ∧ W (i + 1) m' H') ∧ ∀ x H', J.yld i H x H' → g x (wipe σ vs) H' fun σ2 H2 => wipe σ2 vs = wipe σ vs ∧ tYes σ2 H2 fun b H3 =>
        if b = true then tk σ2 H3 fun y H4 => tv σ2 H4 fun z H5 => ∃ kvs k p, y = .ref p ∧ H5 D = some (.dT kvs) ∧ H5 p = some (.tup (k.map kV)) ∧ kvs.length < sizeLine ∧ Nx (upd H5 D (.dT (putK kvs k z))) else Nx H3) := by
  refine ⟨fun i m H => i ≤ n ∧ m + i = n ∧ Pv i H, ⟨n, Nat.zero_le _, rfl, start⟩, ?_⟩
  rintro i m H ⟨le, em, p⟩
  rcases Nat.lt_or_ge i n with lt | ge
  · refine .inr ⟨w.goes i H lt (good i H le p), Pv (i + 1), fun H' p' => ⟨n - (i + 1), by omega, lt, by omega, p'⟩, fun x H' y => ?_⟩
    exact turn i x H H' lt p (w.yields i H x H' lt (good i H le p) y)
  · obtain rfl : i = n := Nat.le_antisymm le ge
    exact .inl ⟨w.stops H (good i H le p), fin H p⟩
end Own

set_option maxHeartbeats 2000000
/-! own layer, of no law: OWP5: pieces of lists and tuples; a def with defaults. -/
namespace Own
open PySem PySem.Spec PyProof.Rows L2 LamX NdefX
theorem cutTo {xs : List V} {k : Nat} (h : k ≤ xs.length) : cutV xs none (some (k : Int)) = xs.take k := by
  unfold cutV
  have e1 : HT.sIx xs.length 0 none = 0 := rfl
  rw [e1, HT.sIx_nat, List.drop_zero, Nat.sub_zero, Nat.min_eq_left h]
theorem cutFrom {xs : List V} {k : Nat} (h : k ≤ xs.length) : cutV xs (some (k : Int)) none = xs.drop k := by
  unfold cutV
  have e1 : HT.sIx xs.length xs.length none = xs.length := rfl
  rw [e1, HT.sIx_nat, Nat.min_eq_left h, List.take_of_length_le]
  rw [List.length_drop]
  omega
theorem cutIn {xs : List V} {i j : Nat} (h1 : i ≤ j) (h : j ≤ xs.length) : cutV xs (some (i : Int)) (some (j : Int)) = (xs.drop i).take (j - i) := by
  unfold cutV
  rw [HT.sIx_nat, HT.sIx_nat, Nat.min_eq_left h, Nat.min_eq_left (by omega)]
/-- t + u, whatever of them is empty -/
theorem catA_of {K : PySem.W.Frag} {H : Hp} {a b : Addr} {xs ys : List V} {Q : VK} (ha : H a = some (.tup xs)) (hb : H b = some (.tup ys)) (hl : xs.length + ys.length ≤ sizeLine)
    (q : ∀ (p : Addr) (H' : Hp), Same H H' → H' p = some (.tup (xs ++ ys)) → Q (.ref p) H') : rCatA K (.ref a) (.ref b) H Q := by
  refine ⟨a, b, xs, ys, rfl, rfl, SqT.of ha, SqT.of hb, hl, fun z => ?_, fun _ z => ?_, fun _ _ p np => q p _ (same_new np) upd_same⟩
  · rw [z, List.nil_append] at q
    exact q b H (Same.refl _) hb
  · rw [z, List.append_nil] at q
    exact q a H (Same.refl _) ha
/-- t[lo:hi], the whole of it or not -/
theorem slA_of {K : PySem.W.Frag} {H : Hp} {a : Addr} {xs : List V} {lo hi : Option Int} {Q : VK} (ha : H a = some (.tup xs))
    (q : ∀ (p : Addr) (H' : Hp), Same H H' → H' p = some (.tup (cutV xs lo hi)) → Q (.ref p) H') : rSlA K (.ref a) lo hi H Q := by
  refine ⟨a, xs, rfl, SqT.of ha, fun z => ?_, fun _ p np => q p _ (same_new np) upd_same⟩
  refine q a H (Same.refl _) ?_
  rw [show cutV xs lo hi = xs by unfold cutV; rw [z.1, z.2, List.drop_zero, Nat.sub_zero, List.take_length]]
  exact ha
/-- enumerate(xs), a list or a tuple, by one walk -/
theorem enumA_of {K : PySem.W.Frag} {H : Hp} {p : Addr} {xs : List V} {R : It → Hp → Prop} (h : H p = some (.lst xs) ∨ H p = some (.tup xs))
    (main : ∀ (J : It) (G : Hp → Prop), Walk J xs.length G (YPair (fun i => some (.int (i : Nat))) (fun i => xs[i]?)) → (∀ H', Same H H' → G H') → R J H) :
    (SqL K H p xs ∧ R (Ite K p) H) ∨ (SqT K H p xs ∧ R (IteT K p) H) := by
  rcases h with h | h
  · exact .inl ⟨SqL.of h, main _ _ walk_enum fun H' s => SqL.of (s _ _ h)⟩
  · exact .inr ⟨SqT.of h, main _ _ walk_enumT fun H' s => SqT.of (s _ _ h)⟩
/-- for i, y in enumerate(xs) -/
theorem for_enumA {K : PySem.W.Frag} {i : Nat} {σ : L2.St} {H : Hp} {p : Addr} {xs : List V} {g : TG} {tb u : TS} {D : L2.Ends} (Pv : Nat → L2.St → Hp → Prop) (h : H p = some (.lst xs) ∨ H p = some (.tup xs)) (hv : σ[i]? = some (some (.ref p))) (h0 : Pv 0 σ H) (hG : ∀ j σ' H', Pv j σ' H' → Same H H')
    (hs : ∀ (j : Nat) (y : V) (σ' : L2.St) (H' : Hp) (T : Addr), xs[j]? = some y → Pv j σ' H' → H' T = none → g (.ref T) σ' (upd H' T (.tup [.int (j : Nat), y])) fun σ2 H2 => tb { { D with nx := u D } with nx := Pv (j + 1), ct := Pv (j + 1), bk := u D } σ2 H2)
    (hd : ∀ σ' H', Pv xs.length σ' H' → u D σ' H') : tSeq (tFor (iEnumA K (tCons (tVar i) tNil)) g tb) u D σ H := by
  rcases h with h | h
  · refine ⟨_, hv, p, xs, rfl, .inl ⟨SqL.of h, for_it (D := { D with nx := u D }) (walk_enum (K := K) (xs := xs)) Pv h0 (fun j σ' H' _ z => SqL.of (hG j σ' H' z _ _ h)) (fun j x σ' H' H2 hj hp hy => ?_) hd⟩⟩
    obtain ⟨T, x0, y, rfl, nT, rfl, e1, e2⟩ := hy
    obtain rfl := Option.some.inj e1
    exact hs j y σ' H' T e2 hp nT
  · refine ⟨_, hv, p, xs, rfl, .inr ⟨SqT.of h, for_it (D := { D with nx := u D }) (walk_enumT (K := K) (xs := xs)) Pv h0 (fun j σ' H' _ z => SqT.of (hG j σ' H' z _ _ h)) (fun j x σ' H' H2 hj hp hy => ?_) hd⟩⟩
    obtain ⟨T, x0, y, rfl, nT, rfl, e1, e2⟩ := hy
    obtain rfl := Option.some.inj e1
    exact hs j y σ' H' T e2 hp nT
theorem Thing.tyxA {K : PySem.W.Frag} {H : Hp} {x : V} (h : Thing H x) : ∃ T ∈ tys, TyX K H x (.type T) := by
  cases h with
  | non => exact ⟨"NoneType", by simp [tys], .base .non⟩
  | bl b => exact ⟨"bool", by simp [tys], .base (.bl b)⟩
  | int i => exact ⟨"int", by simp [tys], .base (.int i)⟩
  | str z => exact ⟨"str", by simp [tys], .base (.str z)⟩
  | lst e => exact ⟨"list", by simp [tys], .base (.lst e)⟩
  | tup e => exact ⟨"tuple", by simp [tys], .base (.tup e)⟩
  | dct e => exact ⟨"dict", by simp [tys], .base (.dK e)⟩
theorem SubAt.cut {rs : List Rw} {f : Nat} {s : Fm} (h : SubAt rs f s) : (rs.drop f).take s.size = s.lay f := by
  obtain ⟨x, y, rfl, l⟩ := h
  have e := s.lay_len f
  rw [List.append_assoc, List.drop_append_of_le_length (by omega), List.drop_eq_nil_of_le (by omega), List.nil_append, List.take_append_of_le_length (by omega), List.take_of_length_le (by omega)]
theorem filt_all {β : Type} (l : List β) : l.filter (fun _ => true) = l := List.filter_eq_self.mpr fun _ _ => rfl
/-- a def with defaults -/
structure DefOkD (P : Program) (w : World) (K : PySem.W.Frag) (mg : Str → Option Value) (base : Heap) (CX : CXT) (x : Str) (k : Nat) (ps : List Str) (sp : Sp) (dvs : List V) : Prop where
  ok : DefOk P w K mg base CX x k ps sp
  ex : ∃ (f : Addr) (fd : FuncData) (ds : List Value), FnOk P w K mg base CX k f fd ps sp ∧ mg x = some (.ref f) ∧ PySem.W.keepIn K (.ref f) = true ∧ Vals dvs ds ∧ Binds K fd ps ds
/-- .. as the top has left it -/
structure AtD (K : PySem.W.Frag) (mg : Str → Option Value) (x : Str) (st : Stmt) (ps : List Str) (dvs : List V) : Prop where
  ex : ∃ (f : Addr) (fd : FuncData) (ds : List Value), FunD K x x (defArgs st) (defBody st) (defScope st) dvs [] f fd ∧ mg x = some (.ref f) ∧ Binds K fd ps [] ∧ Vals dvs ds ∧ Binds K fd ps ds
theorem AtD.ok {P : Program} {w : World} {K : PySem.W.Frag} {mg : Str → Option Value} {base : Heap} {CX : CXT} {x : Str} {st : Stmt} {k : Nat} {ps : List Str} {sp : Sp} {dvs : List V} (a : AtD K mg x st ps dvs)
    (h : ∀ (f : Addr) (fd : FuncData), FunD K x x (defArgs st) (defBody st) (defScope st) dvs [] f fd → FnOk P w K mg base CX k f fd ps sp) : DefOkD P w K mg base CX x k ps sp dvs := by
  obtain ⟨f, fd, ds, F, g, b0, v, b⟩ := a.ex
  exact ⟨⟨f, fd, h f fd F, g, F.kp, b0⟩, f, fd, ds, h f fd F, g, F.kp, v, b⟩
section
variable {X : Cx} {CX : CXT} {k j : Nat} {ps : List Str} {sp : Sp} {dvs : List V} {E : XK} {x : Str} {p pos : Pos} {e : Expr} {es : List Expr} {t : TA}
theorem pe_defD (D : DefOkD X.prog X.w X.K X.mg X.base CX x k ps sp dvs) (hr : Room j X.A) (hj : k ≤ j) (hg : Gl X x) (hx : Passes CX X E) (ha : PA X (e :: es) t) (hdb : (x == ("__debug__" : Str)) = false := by decide)
    (he : starEach (e :: es) X.env = (false, eval e X.env) :: starEach es X.env := by rfl) (hpl : (backTo pos (starEach es X.env)).any (·.1) = false := by rfl) : PE X (.Call (.Name x p) (e :: es) [] pos) (tCall sp dvs E t) := by
  obtain ⟨f, fd, ds, F, g, kp, v, b⟩ := D.ex
  exact pe_call F (hr.mono hj) hg g kp b v hx ha hdb he hpl
end
end Own

set_option maxHeartbeats 4000000
/-! k66: the law: numbers and words drawn. -/
namespace K66
open PySem PySem.Spec PyProof.Rows L2 LamX NdefX Own
abbrev sPick : Stmt := topS 46
abbrev sTen : Stmt := topS 47
abbrev sLong : Stmt := topS 48
abbrev sSize : Stmt := topS 49
abbrev sFigs : Stmt := topS 50
abbrev sWords : Stmt := topS 51
section
variable {P : Program} {w : World} {K : PySem.W.Frag} {mg : Str → Option Value} {base : Heap}
theorem scPick : FnScope ["_law_tape", "_law_some"] ["_law_tape", "_law_some"] (defScope sPick) := ⟨rfl, rfl, rfl, by decide +kernel, rfl, by decide +kernel, by decide +kernel⟩
/-- one of a list, or a letter of a text -/
def spPick : Sp := fun vs H Q _ => ∃ (d : Addr) (B : Int), Pen H d B ∧ B ≤ 900000000 ∧
  ((∃ (a : Addr) (xs : List V), vs = [.ref d, .ref a] ∧ H a = some (.lst xs) ∧ xs ≠ [] ∧ xs.length ≤ 1000 ∧ ∀ (x : V) (H' : Hp), x ∈ xs → KeepP d H H' → Pen H' d (B + 1) → Q x H') ∨
    (∃ z : Str, vs = [.ref d, .str z] ∧ 0 < z.length ∧ z.length ≤ 1000 ∧ ∀ (c : Nat) (H' : Hp), c ∈ z.cps.toList → KeepP d H H' → Pen H' d (B + 1) → Q (.str ⟨#[c]⟩) H'))
theorem ok_pick (A : At K mg "_law_pick" sPick ["_law_tape", "_law_some"]) (B : Blt mg) (D1 : DefOk P w K mg base CX0 "_law_draw" 1 ["_law_tape", "_law_limit"] spDraw) : DefOk P w K mg base CX0 "_law_pick" 2 ["_law_tape", "_law_some"] spPick := by
  refine A.ok fun f fd F => F.ok scPick (fun vs H Q E h => ?_) (fun cdv A outer s H vs Q E hr h => ?_)
  · obtain ⟨d, B, _, _, ⟨a, xs, rfl, _⟩ | ⟨z, rfl, _⟩⟩ := h <;> rfl
  · obtain ⟨d, B0, hp, hB, h⟩ := h
    have sz := sizeLine_eq
    refine ⟨_, pss_one (ps_ret (pe_ix ix_seq (pv 1) (pe_def D1 hr (by decide) (by rfl) pass0 (pa_cons (pv 0) (pa_cons (pe_callB (call_len_seq.or call_len_str) (by rfl) B.len PySem.boot_len (pa_cons (pv 1) pa_nil)) pa_nil))) (fun _ _ => rfl))), ?_⟩
    rcases h with ⟨a, xs, rfl, ha, hne, hl, q⟩ | ⟨z, rfl, h0, hl, q⟩
    · have h0 : 0 < xs.length := List.length_pos_iff.mpr hne
      refine ⟨_, rfl, _, rfl, _, rfl, .inl ⟨a, xs, rfl, .inl (SqL.of ha), d, (xs.length : Int), B0, rfl, hp, by omega, by omega, by omega, fun v H' h1 h2 kp hp' => .inl ?_⟩⟩
      have nad : a ≠ d := hp.ne_lst ha
      obtain ⟨j, rfl⟩ : ∃ j : Nat, v = (j : Int) := ⟨v.toNat, (Int.toNat_of_nonneg h1).symm⟩
      have hj : j < xs.length := by omega
      exact ⟨a, xs, _, xs[j], rfl, rfl, SqL.of (kp _ _ nad ha), atI_nat (List.getElem?_eq_getElem hj), q _ _ (List.getElem_mem hj) kp hp'⟩
    · refine ⟨_, rfl, _, rfl, _, rfl, .inr ⟨z, rfl, by omega, d, (z.length : Int), B0, rfl, hp, by omega, by omega, by omega, fun v H' h1 h2 kp hp' => .inr (.inr ?_)⟩⟩
      obtain ⟨j, rfl⟩ : ∃ j : Nat, v = (j : Int) := ⟨v.toNat, (Int.toNat_of_nonneg h1).symm⟩
      have e : z.length = z.cps.toList.length := by rw [Array.length_toList]; rfl
      have hj : j < z.cps.toList.length := by omega
      exact ⟨z, _, z.cps.toList[j], rfl, rfl, by omega, atI_nat (List.getElem?_eq_getElem hj), q _ _ (List.getElem_mem hj) kp hp'⟩
theorem scTen : FnScope ["_law_figures_here"] ["_law_figures_here"] (defScope sTen) := ⟨rfl, rfl, rfl, by decide +kernel, rfl, by decide +kernel, by decide +kernel⟩
def spTen : Sp := fun vs H Q _ => ∃ n : Nat, vs = [nV n] ∧ n ≤ 600 ∧ Q (nV (10 ^ n)) H
theorem ok_ten (A : At K mg "_law_ten" sTen ["_law_figures_here"]) (B : Blt mg) : DefOk P w K mg base CX0 "_law_ten" 1 ["_law_figures_here"] spTen := by
  refine A.ok fun f fd F => F.ok scTen (fun vs H Q E h => ?_) (fun cdv A outer s H vs Q E hr h => ?_)
  · obtain ⟨n, rfl, _⟩ := h
    rfl
  · obtain ⟨n, rfl, hn, q⟩ := h
    refine ⟨_, pss_one (ps_ret (pe_callTy call_int_str (by rfl) B.int (by decide +kernel) (pa_cons (pe_op op_add_str pe_str (pe_op op_mulS pe_str (pv 0))) pa_nil))), ?_⟩
    have hl : ("1" : Str).length + (Txt.mul "0" (n : Int)).length ≤ sizeLine := by
      have a : ("1" : Str).length = 1 := by decide +kernel
      have b : (Txt.mul "0" (n : Int)).length = n := by rw [str_len, zeros, List.length_replicate]
      have c := sizeLine_eq
      omega
    have e : ((10 ^ n : Nat) : Int) = (10 : Int) ^ n := by rw [Int.natCast_pow]; rfl
    rw [show nV (10 ^ n) = V.int ((10 : Int) ^ n) from congrArg V.int e] at q
    exact ⟨_, rfl, _, _, rfl, rfl, mulOk0 hn, _, _, rfl, rfl, hl, tenS n, _, rfl, ten_text hn, by rw [tenS_len]; omega, q⟩
theorem scLong : FnScope ["_law_tape", "_law_figures_here", "_law_found", "_law_k"] ["_law_tape", "_law_figures_here"] (defScope sLong) := ⟨rfl, rfl, rfl, by decide +kernel, rfl, by decide +kernel, by decide +kernel⟩
/-- a number of at most so many figures -/
def spLong : Sp := fun vs H Q _ => ∃ (d : Addr) (n : Nat) (B : Int), vs = [.ref d, nV n] ∧ n ≤ 150 ∧ Pen H d B ∧ B ≤ 800000000 ∧ ∀ (u : Nat) (H' : Hp), u < 10 ^ n → KeepP d H H' → Pen H' d (B + 100) → Q (nV u) H'
theorem ok_long (A : At K mg "_law_long" sLong ["_law_tape", "_law_figures_here"]) (B : Blt mg) (D1 : DefOk P w K mg base CX0 "_law_draw" 1 ["_law_tape", "_law_limit"] spDraw) (D3 : DefOk P w K mg base CX0 "_law_ten" 1 ["_law_figures_here"] spTen) : DefOk P w K mg base CX0 "_law_long" 2 ["_law_tape", "_law_figures_here"] spLong := by
  refine A.ok fun f fd F => F.ok scLong (fun vs H Q E h => ?_) (fun cdv A outer s H vs Q E hr h => ?_)
  · obtain ⟨d, n, B, rfl, _⟩ := h
    rfl
  · obtain ⟨d, n, B0, rfl, hn, hp, hB, q⟩ := h
    have nd := scLong.nd
    refine ⟨_, pss_cons (ps_set (i := 2) nd rfl (.inl rfl) pe_int)
      (pss_cons (ps_for PassesOwn.never rfl (pi_range1 (by rfl) B.range (pa_cons (pe_op op_fdiv (pe_op op_add (pv 1) pe_int) pe_int) pa_nil)) (pg_name (i := 3) nd rfl (.inl rfl)) (pss_one (ps_set (i := 2) nd rfl (.inl rfl) (pe_op op_add (pe_op op_mulW (pv 2) (pe_op op_pow pe_int pe_int)) (pe_def D1 hr (by decide) (by rfl) pass0 (pa_cons (pv 0) (pa_cons (pe_op op_pow pe_int pe_int) pa_nil)))))))
      (pss_one (ps_ret (pe_op op_mod (pe_callTy call_int1 (by rfl) B.int (by decide +kernel) (pa_cons (pv 2) pa_nil)) (pe_def D3 hr (by decide) (by rfl) pass0 (pa_cons (pv 1) pa_nil)))))), ?_⟩
    refine ⟨_, rfl, _, _, rfl, rfl, _, _, rfl, rfl, ⟨by decide, by decide⟩, ?_⟩
    refine ⟨((n : Int) + 14) / 15, rfl, by omega, by omega, for_range (lo := 0) (n := (((n : Int) + 14) / 15).toNat) (fun i σ H' => ∃ (v0 : Int) (u : Nat) (y3 : Option V), σ = [some (.ref d), some (nV n), some (.int v0), y3] ∧ v0 = (u : Int) ∧ u < 2 ^ (50 * i) ∧ KeepP d H H' ∧ Pen H' d (B0 + i)) ⟨0, 0, none, rfl, rfl, by show 0 < 1; decide, KeepG.refl, hp.mono (by omega)⟩ ?_ ?_⟩
    · rintro i σ H' hi ⟨_, u, y3, rfl, rfl, hu, kp, p⟩
      dsimp only [gName, List.set]
      refine ⟨_, rfl, _, _, rfl, rfl, ⟨by decide, by decide, by decide⟩, _, _, rfl, rfl, wide_mul (a := 50 * i + 1) (b := 60) ?_ (by decide) (by omega) (by decide) (by omega), ?_⟩
      · have : (2 : Nat) ^ (50 * i + 1) = 2 ^ (50 * i) * 2 := Nat.pow_succ ..
        show ((u : Nat) : Int).natAbs < _
        omega
      refine ⟨_, rfl, _, _, rfl, rfl, ⟨by decide, by decide, by decide⟩, d, _, _, rfl, p, by omega, by decide, by decide, fun v H2 v0 v1 k2 p2 => ?_⟩
      refine ⟨_, _, rfl, rfl, ?_⟩
      obtain ⟨v', rfl⟩ : ∃ v' : Nat, v = (v' : Int) := ⟨v.toNat, (Int.toNat_of_nonneg v0).symm⟩
      have e15 : (10 : Int) ^ Int.toNat 15 = 1000000000000000 := by decide
      rw [e15] at v1 ⊢
      refine ⟨_, u * 1000000000000000 + v', _, rfl, by omega, ?_, kp.trans k2, p2.mono (by omega)⟩
      · have e1 : (2 : Nat) ^ (50 * (i + 1)) = 2 ^ (50 * i) * 2 ^ 50 := by rw [← Nat.pow_add]; rfl
        have e2 : (2 : Nat) ^ 50 = 1125899906842624 := by decide
        rw [e1, e2]
        generalize (2 : Nat) ^ (50 * i) = b at hu ⊢
        omega
    · rintro σ H' ⟨_, u, y3, rfl, rfl, hu, kp, p⟩
      refine ⟨_, rfl, .inl ⟨_, rfl, _, rfl, n, rfl, by omega, _, _, rfl, rfl, ?_, ?_⟩⟩
      · have : 0 < 10 ^ n := Nat.pow_pos (by decide)
        show (0 : Int) < ((10 ^ n : Nat) : Int)
        omega
      · have e : (u : Int) % ((10 ^ n : Nat) : Int) = ((u % 10 ^ n : Nat) : Int) := by omega
        dsimp only
        rw [e]
        exact q _ _ (Nat.mod_lt _ (Nat.pow_pos (by decide))) kp (p.mono (by omega))
theorem scSize : FnScope ["_law_tape", "_law_figures_here", "_law_sort", "_law_found"] ["_law_tape", "_law_figures_here"] (defScope sSize) := ⟨rfl, rfl, rfl, by decide +kernel, rfl, by decide +kernel, by decide +kernel⟩
def spSize : Sp := fun vs H Q _ => ∃ (d : Addr) (n : Nat) (B : Int), vs = [.ref d, nV n] ∧ 1 ≤ n ∧ n ≤ 140 ∧ Pen H d B ∧ B ≤ 700000000 ∧ ∀ (u : Nat) (H' : Hp), u < 10 ^ n → KeepP d H H' → Pen H' d (B + 200) → Q (nV u) H'
theorem ok_size (A : At K mg "_law_size" sSize ["_law_tape", "_law_figures_here"]) (B : Blt mg) (D1 : DefOk P w K mg base CX0 "_law_draw" 1 ["_law_tape", "_law_limit"] spDraw) (D3 : DefOk P w K mg base CX0 "_law_ten" 1 ["_law_figures_here"] spTen) (D4 : DefOk P w K mg base CX0 "_law_long" 2 ["_law_tape", "_law_figures_here"] spLong) : DefOk P w K mg base CX0 "_law_size" 3 ["_law_tape", "_law_figures_here"] spSize := by
  refine A.ok fun f fd F => F.ok scSize (fun vs H Q E h => ?_) (fun cdv A outer s H vs Q E hr h => ?_)
  · obtain ⟨d, n, B, rfl, _⟩ := h
    rfl
  · obtain ⟨d, n, B0, rfl, n1, hn, hp, hB, q⟩ := h
    have nd := scSize.nd
    have pos : 0 < 10 ^ n := Nat.pow_pos (by decide)
    refine ⟨_, pss_cons (ps_par (i := 2) (j := 3) (by rfl) nd rfl rfl (by decide) rfl rfl (pa_cons (pe_def D1 hr (by decide) (by rfl) pass0 (pa_cons (pv 0) (pa_cons pe_int pa_nil))) (pa_cons pe_int pa_nil)) (by rfl))
      (C8.pss_cut (ps_if (pt_cmpR op_lt (pv 2) pe_int (nomark _)) (pss_one (ps_set (i := 3) nd rfl (.inl rfl) (pe_def D1 hr (by decide) (by rfl) pass0 (pa_cons (pv 0) (pa_cons (pe_ix ix_list (pe_lst (pa_cons pe_int (pa_cons pe_int (pa_cons pe_int pa_nil)))) (pv 2) (fun _ _ => rfl)) pa_nil))))) (pss_one (ps_if (pt_cmpR op_eq (pv 2) pe_int (nomark _)) (pss_one (ps_set (i := 3) nd rfl (.inl rfl) (pe_def D4 hr (by decide) (by rfl) pass0 (pa_cons (pv 0) (pa_cons (pe_op op_add pe_int (pe_def D1 hr (by decide) (by rfl) pass0 (pa_cons (pv 0) (pa_cons (pv 1) pa_nil)))) pa_nil))))) (pss_one (ps_if (pt_cmpR op_eq (pv 2) pe_int (nomark _)) (pss_one (ps_set (i := 3) nd rfl (.inl rfl) (pe_def D4 hr (by decide) (by rfl) pass0 (pa_cons (pv 0) (pa_cons (pv 1) pa_nil))))) (pss_one (ps_set (i := 3) nd rfl (.inl rfl) (pe_callB (call_max2 rfl) (by rfl) B.max (by decide +kernel) (pa_cons pe_int (pa_cons (pe_op op_sub (pe_op op_sub (pe_def D3 hr (by decide) (by rfl) pass0 (pa_cons (pe_op op_add pe_int (pe_def D1 hr (by decide) (by rfl) pass0 (pa_cons (pv 0) (pa_cons (pv 1) pa_nil)))) pa_nil)) (pe_def D1 hr (by decide) (by rfl) pass0 (pa_cons (pv 0) (pa_cons pe_int pa_nil)))) pe_int) pa_nil))))))))))
      (pss_one (ps_ret (pe_op op_mod (pe_callTy call_int1 (by rfl) B.int (by decide +kernel) (pa_cons (pv 3) pa_nil)) (pe_def D3 hr (by decide) (by rfl) pass0 (pa_cons (pv 1) pa_nil)))))), ?_⟩
    refine ⟨_, rfl, d, 6, _, rfl, hp, by omega, by decide, by decide, fun sort H1 s0 s1 k1 p1 => ⟨_, _, rfl, ?_⟩⟩
    dsimp only [gName, List.set]
    refine ⟨fun σ H' => ∃ u : Nat, σ = [some (.ref d), some (nV n), some (.int sort), some (nV u)] ∧ KeepP d H H' ∧ Pen H' d (B0 + 150), ?_, ?_⟩
    · refine ⟨_, rfl, _, _, rfl, rfl, _, rfl, ite2 (fun z => ?_) (fun z => ?_)⟩
      · have z : sort < 3 := of_decide_eq_true z
        refine ⟨_, rfl, by show 3 ≤ sizeLine; decide, fun g ng => ?_⟩
        have sg := same_new (o := HO.lst [.int 5, .int 13, .int 90]) ng
        have eg : upd H1 g (HO.lst [.int 5, .int 13, .int 90]) g = some (.lst [.int 5, .int 13, .int 90]) := upd_same
        have p2 := p1.same sg
        have k2 := k1.trans (KeepG.same sg)
        generalize upd H1 g (HO.lst [.int 5, .int 13, .int 90]) = H2 at eg p2 k2 ⊢
        obtain ⟨b, hb, b0, b1⟩ : ∃ b : Int, [V.int 5, .int 13, .int 90][sort.toNat]? = some (.int b) ∧ 0 < b ∧ b ≤ 90 := by
          rcases (show sort = 0 ∨ sort = 1 ∨ sort = 2 by omega) with z | z | z <;> subst z
          · exact ⟨5, rfl, by decide, by decide⟩
          · exact ⟨13, rfl, by decide, by decide⟩
          · exact ⟨90, rfl, by decide, by decide⟩
        refine ⟨_, rfl, g, _, sort, _, rfl, rfl, SqL.of eg, L2.at_of (Int.toNat_of_nonneg s0).symm hb, d, b, _, rfl, p2, by omega, b0, by omega, fun v H3 v0 v1 k3 p3 => ?_⟩
        obtain ⟨u, rfl⟩ : ∃ u : Nat, v = (u : Int) := ⟨v.toNat, (Int.toNat_of_nonneg v0).symm⟩
        exact ⟨u, rfl, k2.trans k3, p3.mono (by omega)⟩
      refine ⟨_, rfl, rfl, _, rfl, ite2 (fun z3 => ?_) (fun z3 => ?_)⟩
      · refine ⟨_, rfl, _, rfl, _, rfl, d, (n : Int), _, rfl, p1, by omega, by omega, by omega, fun v H2 v0 v1 k2 p2 => ⟨_, _, rfl, rfl, ?_⟩⟩
        obtain ⟨v', rfl⟩ : ∃ u : Nat, v = (u : Int) := ⟨v.toNat, (Int.toNat_of_nonneg v0).symm⟩
        refine ⟨d, 1 + v', _, by show [V.ref d, V.int (1 + (v' : Int))] = [V.ref d, V.int ((1 + v' : Nat) : Int)]; rw [show (1 : Int) + (v' : Int) = ((1 + v' : Nat) : Int) by omega], by omega, p2, by omega, fun u H3 hu k3 p3 => ?_⟩
        exact ⟨u, rfl, (k1.trans k2).trans k3, p3.mono (by omega)⟩
      refine ⟨_, rfl, rfl, _, rfl, ite2 (fun z4 => ?_) (fun z4 => ?_)⟩
      · refine ⟨_, rfl, _, rfl, d, n, _, rfl, by omega, p1, by omega, fun u H3 hu k3 p3 => ?_⟩
        exact ⟨u, rfl, k1.trans k3, p3.mono (by omega)⟩
      · refine ⟨_, rfl, _, rfl, d, (n : Int), _, rfl, p1, by omega, by omega, by omega, fun v H2 v0 v1 k2 p2 => ⟨_, _, rfl, rfl, ?_⟩⟩
        obtain ⟨v', rfl⟩ : ∃ u : Nat, v = (u : Int) := ⟨v.toNat, (Int.toNat_of_nonneg v0).symm⟩
        refine ⟨1 + v', by show [V.int (1 + (v' : Int))] = [V.int ((1 + v' : Nat) : Int)]; rw [show (1 : Int) + (v' : Int) = ((1 + v' : Nat) : Int) by omega], by omega, ?_⟩
        refine ⟨_, rfl, d, 4, _, rfl, p2, by omega, by decide, by decide, fun y H3 y0 y1 k3 p3 => ⟨_, _, rfl, rfl, _, _, rfl, rfl, _, _, rfl, ?_⟩⟩
        dsimp only
        obtain ⟨u, hu⟩ : ∃ u : Nat, (if (0 : Int) < ((10 ^ (1 + v') : Nat) : Int) - y - 1 then ((10 ^ (1 + v') : Nat) : Int) - y - 1 else 0) = (u : Int) := by
          split
          · exact ⟨(((10 ^ (1 + v') : Nat) : Int) - y - 1).toNat, by omega⟩
          · exact ⟨0, rfl⟩
        rw [hu]
        exact ⟨u, rfl, (k1.trans k2).trans k3, p3.mono (by omega)⟩
    · rintro σ H2 ⟨u, rfl, k2, p2⟩
      refine ⟨_, rfl, .inl ⟨_, rfl, _, rfl, n, rfl, by omega, _, _, rfl, rfl, ?_, ?_⟩⟩
      · show (0 : Int) < ((10 ^ n : Nat) : Int)
        omega
      · have e : (u : Int) % ((10 ^ n : Nat) : Int) = ((u % 10 ^ n : Nat) : Int) := by omega
        dsimp only
        rw [e]
        exact q _ _ (Nat.mod_lt _ pos) k2 (p2.mono (by omega))
theorem scFigs : FnScope ["_law_tape", "_law_most"] ["_law_tape", "_law_most"] (defScope sFigs) := ⟨rfl, rfl, rfl, by decide +kernel, rfl, by decide +kernel, by decide +kernel⟩
def spFigs : Sp := fun vs H Q _ => ∃ (d : Addr) (n : Nat) (B : Int), vs = [.ref d, nV n] ∧ n ≤ 100000 ∧ Pen H d B ∧ B ≤ 700000000 ∧ ∀ (u : Nat) (H' : Hp), u ≤ n ∨ u ≤ 5 → KeepP d H H' → Pen H' d (B + 10) → Q (nV u) H'
theorem ok_figs (A : At K mg "_law_figures" sFigs ["_law_tape", "_law_most"]) (B : Blt mg) (D1 : DefOk P w K mg base CX0 "_law_draw" 1 ["_law_tape", "_law_limit"] spDraw) (D2 : DefOk P w K mg base CX0 "_law_pick" 2 ["_law_tape", "_law_some"] spPick) : DefOk P w K mg base CX0 "_law_figures" 3 ["_law_tape", "_law_most"] spFigs := by
  refine A.ok fun f fd F => F.ok scFigs (fun vs H Q E h => ?_) (fun cdv A outer s H vs Q E hr h => ?_)
  · obtain ⟨d, n, B, rfl, _⟩ := h
    rfl
  · obtain ⟨d, n, B0, rfl, hn, hp, hB, q⟩ := h
    refine ⟨_, pss_one (ps_ret (pe_def D2 hr (by decide) (by rfl) pass0 (pa_cons (pv 0) (pa_cons (pe_lst (pa_cons (pe_def D1 hr (by decide) (by rfl) pass0 (pa_cons (pv 0) (pa_cons pe_int pa_nil))) (pa_cons (pe_def D1 hr (by decide) (by rfl) pass0 (pa_cons (pv 0) (pa_cons pe_int pa_nil))) (pa_cons (pe_def D1 hr (by decide) (by rfl) pass0 (pa_cons (pv 0) (pa_cons pe_int pa_nil))) (pa_cons (pe_def D1 hr (by decide) (by rfl) pass0 (pa_cons (pv 0) (pa_cons (pe_op op_add (pv 1) pe_int) pa_nil))) (pa_cons (pv 1) pa_nil)))))) pa_nil)))), ?_⟩
    refine ⟨_, rfl, _, rfl, d, 3, _, rfl, hp, by omega, by decide, by decide, fun x1 H1 a1 b1 k1 p1 => ?_⟩
    refine ⟨_, rfl, d, 3, _, rfl, p1, by omega, by decide, by decide, fun x2 H2 a2 b2 k2 p2 => ?_⟩
    refine ⟨_, rfl, d, 6, _, rfl, p2, by omega, by decide, by decide, fun x3 H3 a3 b3 k3 p3 => ?_⟩
    refine ⟨_, rfl, _, rfl, _, _, rfl, rfl, d, (n : Int) + 1, _, rfl, p3, by omega, by omega, by omega, fun x4 H4 a4 b4 k4 p4 => ?_⟩
    refine ⟨_, rfl, by show 5 ≤ sizeLine; decide, fun g ng => ?_⟩
    have sg := same_new (o := HO.lst [.int x1, .int x2, .int x3, .int x4, nV n]) ng
    have eg : upd H4 g (HO.lst [.int x1, .int x2, .int x3, .int x4, nV n]) g = some (.lst [.int x1, .int x2, .int x3, .int x4, nV n]) := upd_same
    have p5 := p4.same sg
    have k5 := (((k1.trans k2).trans k3).trans k4).trans (KeepG.same sg)
    generalize upd H4 g (HO.lst [.int x1, .int x2, .int x3, .int x4, nV n]) = H5 at eg p5 k5 ⊢
    refine ⟨d, _, p5, by omega, .inl ⟨g, _, rfl, eg, by simp, by show 5 ≤ 1000; decide, fun x H6 hx k6 p6 => ?_⟩⟩
    have fin : ∀ v : Int, 0 ≤ v → v ≤ n ∨ v ≤ 5 → Q (.int v) H6 := fun v v0 v1 => by
      obtain ⟨u, rfl⟩ : ∃ u : Nat, v = (u : Int) := ⟨v.toNat, (Int.toNat_of_nonneg v0).symm⟩
      exact q u H6 (by omega) (k5.trans k6) (p6.mono (by omega))
    simp only [List.mem_cons, List.not_mem_nil, or_false] at hx
    rcases hx with rfl | rfl | rfl | rfl | rfl
    · exact fin _ a1 (by omega)
    · exact fin _ a2 (by omega)
    · exact fin _ a3 (by omega)
    · exact fin _ a4 (by omega)
    · exact fin _ (by omega) (by omega)
/-- small letters alone -/
def lowS (z : Str) : Prop := ∀ c ∈ z.cps.toList, 97 ≤ c ∧ c ≤ 122
theorem low_ok : ∀ i < 26, (decide (97 + i < 128) && (Unicode.isAlpha (97 + i) && (Unicode.isLower (97 + i) && !(Unicode.isUpper (97 + i) || Unicode.isTitle (97 + i))))) = true := by decide +kernel
theorem low_c {c : Nat} (h : 97 ≤ c ∧ c ≤ 122) : c < 128 ∧ Unicode.isAlpha c = true ∧ Unicode.isLower c = true ∧ (Unicode.isUpper c || Unicode.isTitle c) = false := by
  have z := low_ok (c - 97) (by omega)
  rw [show 97 + (c - 97) = c by omega] at z
  simp only [Bool.and_eq_true, decide_eq_true_eq, Bool.not_eq_true'] at z
  exact ⟨z.1, z.2.1, z.2.2.1, z.2.2.2⟩
theorem nm_low {z : Str} (h : lowS z) (h1 : 1 ≤ z.length) (h8 : z.length ≤ 8) : nmOk z = true := by
  have e : z.length = z.cps.toList.length := by rw [Array.length_toList]; rfl
  obtain ⟨c, hc⟩ : ∃ c, c ∈ z.cps.toList := List.exists_mem_of_length_pos (by omega)
  have a1 : Txt.isascii z = true := by
    show z.cps.all (· < 128) = true
    rw [← Array.all_toList, List.all_eq_true]
    exact fun c hc => decide_eq_true (low_c (h c hc)).1
  have a2 : Txt.isalpha z = true := by
    show (decide (z.length > 0) && z.cps.all Unicode.isAlpha) = true
    rw [decide_eq_true (show z.length > 0 by omega), Bool.true_and, ← Array.all_toList, List.all_eq_true]
    exact fun c hc => (low_c (h c hc)).2.1
  have a3 : Txt.islower z = true := by
    show (z.cps.any Unicode.isLower && !z.cps.any fun c => Unicode.isUpper c || Unicode.isTitle c) = true
    rw [← Array.any_toList, ← Array.any_toList, List.any_eq_true.mpr ⟨c, hc, (low_c (h c hc)).2.2.1⟩, Bool.true_and, Bool.not_eq_true', List.any_eq_false]
    exact fun c hc => by rw [(low_c (h c hc)).2.2.2]; decide
  unfold nmOk
  rw [decide_eq_true h1, decide_eq_true h8, a1, a2, a3]
  rfl
theorem low_app {a b : Str} (ha : lowS a) (hb : lowS b) : lowS (a ++ b) ∧ (a ++ b).length = a.length + b.length := by
  have e : (a ++ b).cps = a.cps ++ b.cps := rfl
  refine ⟨fun c hc => ?_, ?_⟩
  · rw [e, Array.toList_append] at hc
    rcases List.mem_append.mp hc with hc | hc
    · exact ha c hc
    · exact hb c hc
  · show (a ++ b).cps.size = a.cps.size + b.cps.size
    rw [e, Array.size_append]
theorem abc_low : lowS "abcdefghijklmnopqrstuvwxyz" := by
  have : (("abcdefghijklmnopqrstuvwxyz" : Str).cps.toList.all fun c => decide (97 ≤ c) && decide (c ≤ 122)) = true := by decide +kernel
  intro c hc
  have z := List.all_eq_true.mp this c hc
  simp only [Bool.and_eq_true, decide_eq_true_eq] at z
  exact z
theorem hcf_low : ∀ i < 8, ∃ c, ("hcfadgbe" : Str).cps.toList[i]? = some c ∧ 97 ≤ c ∧ c ≤ 122 := by
  have : ∀ i < 8, ((("hcfadgbe" : Str).cps.toList[i]?.map fun c => decide (97 ≤ c) && decide (c ≤ 122)) == some true) = true := by decide +kernel
  intro i hi
  have z := this i hi
  cases e : ("hcfadgbe" : Str).cps.toList[i]? with
  | none => rw [e] at z; cases z
  | some c =>
    rw [e] at z
    have z : (decide (97 ≤ c) && decide (c ≤ 122)) = true := by simpa using z
    simp only [Bool.and_eq_true, decide_eq_true_eq] at z
    exact ⟨c, rfl, z⟩
theorem scWords : FnScope ["_law_tape", "_law_many", "_law_front", "_law_shift", "_law_found", "_law_k", "_law_letter", "_law_word", "_law_n"] ["_law_tape", "_law_many"] (defScope sWords) := ⟨rfl, rfl, rfl, by decide +kernel, rfl, by decide +kernel, by decide +kernel⟩
/-- names -/
def spWords : Sp := fun vs H Q _ => ∃ (d : Addr) (n : Nat) (B : Int), vs = [.ref d, nV n] ∧ n ≤ 100 ∧ Pen H d B ∧ B ≤ 700000000 ∧ ∀ (l : Addr) (ws : List Str) (H' : Hp), ws.length = n → (∀ x ∈ ws, nmOk x = true) → H' l = some (.lst (ws.map V.str)) → OffG "cells" "at" "rest" H' d l → KeepP d H H' → Pen H' d (B + 2000) → Q (.ref l) H'
theorem ok_words (A : At K mg "_law_words" sWords ["_law_tape", "_law_many"]) (B : Blt mg) (D1 : DefOk P w K mg base CX0 "_law_draw" 1 ["_law_tape", "_law_limit"] spDraw) (D2 : DefOk P w K mg base CX0 "_law_pick" 2 ["_law_tape", "_law_some"] spPick) : DefOk P w K mg base CX0 "_law_words" 3 ["_law_tape", "_law_many"] spWords := by
  refine A.ok fun f fd F => F.ok scWords (fun vs H Q E h => ?_) (fun cdv A outer s H vs Q E hr h => ?_)
  · obtain ⟨d, n, B, rfl, _⟩ := h
    rfl
  · obtain ⟨d, n, B0, rfl, hn, hp, hB, q⟩ := h
    have nd := scWords.nd
    have sz := sizeLine_eq
    refine ⟨_, pss_cons (ps_par3 (i := 2) (j := 3) (l := 4) (by rfl) nd rfl rfl rfl (by decide) (by decide) (by decide) rfl rfl rfl (pa_cons (pe_def D1 hr (by decide) (by rfl) pass0 (pa_cons (pv 0) (pa_cons pe_int pa_nil))) (pa_cons (pe_def D1 hr (by decide) (by rfl) pass0 (pa_cons (pv 0) (pa_cons pe_int pa_nil))) (pa_cons (pe_lst pa_nil) pa_nil))) (by rfl))
      (pss_cons (ps_for PassesOwn.never rfl (pi_range1 (by rfl) B.range (pa_cons (pv 1) pa_nil)) (pg_name (i := 5) nd rfl (.inl rfl)) (pss_cons (ps_par (i := 6) (j := 7) (by rfl) nd rfl rfl (by decide) rfl rfl (pa_cons (pe_ix ix_str pe_str (pe_op op_mod (pe_callTy call_int1 (by rfl) B.int (by decide +kernel) (pa_cons (pe_op op_add (pe_op op_mul pe_int (pv 5)) (pv 3)) pa_nil)) pe_int) (fun _ _ => rfl)) (pa_cons pe_str pa_nil)) (by rfl)) (pss_cons (ps_for PassesOwn.never rfl (pi_range1 (by rfl) B.range (pa_cons (pe_def D1 hr (by decide) (by rfl) pass0 (pa_cons (pv 0) (pa_cons pe_int pa_nil))) pa_nil)) (pg_name (i := 8) nd rfl (.inl rfl)) (pss_one (ps_set (i := 7) nd rfl (.inl rfl) (pe_op op_add_str (pv 7) (pe_def D2 hr (by decide) (by rfl) pass0 (pa_cons (pv 0) (pa_cons pe_str pa_nil))))))) (pss_one (ps_expr (pe_bm PySem.F.plainAttrs_list PySem.F.slot_list_append PySem.F.type_list_append mt_append (pv 4) (pa_cons (pe_ifExp (pt_truth (pv 2) (fun _ => rfl)) (pe_op op_add_str (pv 6) (pv 7)) (pe_op op_add_str (pv 7) (pv 6))) pa_nil)))))))
      (pss_one (ps_ret (pv 4)))), ?_⟩
    refine ⟨_, rfl, d, 2, _, rfl, hp, by omega, by decide, by decide, fun front H1 f0 f1 k1 p1 => ?_⟩
    refine ⟨_, rfl, d, 8, _, rfl, p1, by omega, by decide, by decide, fun shift H2 s0 s1 k2 p2 => ⟨by show 0 ≤ sizeLine; decide, fun l nl => ?_⟩⟩
    have sl := same_new (o := HO.lst []) nl
    have el : upd H2 l (HO.lst []) l = some (.lst []) := upd_same
    have p3 := p2.same sl
    have k3 : KeepP d H2 (upd H2 l (HO.lst [])) := KeepG.new nl
    have off : OffG "cells" "at" "rest" (upd H2 l (HO.lst [])) d l := (OffG.of p2.g nl).at_ (by obtain ⟨pp, ns, cc, ll, ed, _⟩ := p2.ex; exact ne_of_none ed nl)
    generalize upd H2 l (HO.lst []) = H3 at el p3 k3 off ⊢
    refine ⟨_, _, _, rfl, ?_⟩
    dsimp only [gName, List.set]
    refine ⟨_, rfl, _, rfl, by omega, by omega, for_range (lo := 0) (n := n) (fun i σ H' => ∃ (y5 y6 y7 y8 : Option V) (ws : List Str), σ = [some (.ref d), some (nV n), some (.int front), some (.int shift), some (.ref l), y5, y6, y7, y8] ∧ ws.length = i ∧ (∀ x ∈ ws, nmOk x = true) ∧ H' l = some (.lst (ws.map V.str)) ∧ KeepP d H2 H' ∧ OffG "cells" "at" "rest" H' d l ∧ Pen H' d (B0 + 2 + 10 * i)) ⟨_, _, _, _, [], rfl, rfl, (fun x hx => by cases hx), el, k3, off, p3.mono (by omega)⟩ ?_ ?_⟩
    · rintro i σ G hi ⟨y5, y6, y7, y8, ws, rfl, wl, wok, hl, kp, of2, p⟩
      dsimp only [gName, List.set]
      rw [Int.zero_add]
      refine ⟨_, rfl, _, _, rfl, rfl, .inl ⟨by omega, by omega⟩, _, rfl, _, _, rfl, rfl, .inl ⟨_, rfl, _, _, rfl, rfl, (show (0 : Int) < 8 by decide), ?_⟩⟩
      obtain ⟨j, hj, j8⟩ : ∃ j : Nat, ((3 : Int) * (i : Int) + shift) % 8 = (j : Int) ∧ j < 8 := ⟨(((3 : Int) * (i : Int) + shift) % 8).toNat, by omega, by omega⟩
      obtain ⟨c, hc, c1, c2⟩ := hcf_low j j8
      refine ⟨"hcfadgbe", _, c, rfl, rfl, by decide +kernel, by rw [hj]; exact atI_nat hc, ?_⟩
      refine ⟨_, _, rfl, ?_⟩
      dsimp only [gName, List.set]
      have lo1 : lowS (⟨#[c]⟩ : Str) := fun x hx => by
        have : x = c := by simpa using hx
        subst this
        exact ⟨c1, c2⟩
      have ln1 : (⟨#[c]⟩ : Str).length = 1 := rfl
      generalize (⟨#[c]⟩ : Str) = y at lo1 ln1 ⊢
      refine ⟨_, rfl, d, 8, _, rfl, p, by omega, by decide, by decide, fun m G1 m0 m1 k4 p4 => ?_⟩
      have hl4 := k4.lst p.g hl
      have of4 := of2.keep p.g k4
      have kp4 := kp.trans k4
      refine ⟨m, rfl, by omega, by omega, for_range (lo := 0) (n := m.toNat) (fun j σ H' => ∃ (y8 : Option V) (x : Str), σ = [some (.ref d), some (nV n), some (.int front), some (.int shift), some (.ref l), some (.int (i : Nat)), some (.str y), some (.str x), y8] ∧ x.length = j ∧ lowS x ∧ H' l = some (.lst (ws.map V.str)) ∧ KeepP d H2 H' ∧ OffG "cells" "at" "rest" H' d l ∧ Pen H' d (B0 + 3 + 10 * i + j)) ⟨_, "", rfl, rfl, (fun x hx => by cases hx), hl4, kp4, of4, p4.mono (by omega)⟩ ?_ ?_⟩
      · rintro j σ G2 hj2 ⟨y8, x, rfl, xl, xlow, hl5, kp5, of5, p5⟩
        dsimp only [gName, List.set]
        refine ⟨_, rfl, _, rfl, d, _, p5, by omega, .inr ⟨_, rfl, by decide +kernel, by decide +kernel, fun e G3 he k6 p6 => ?_⟩⟩
        have lo2 : lowS (⟨#[e]⟩ : Str) := fun z hz => by
          have : z = e := by simpa using hz
          subst this
          exact abc_low _ he
        have ln2 : (⟨#[e]⟩ : Str).length = 1 := rfl
        generalize (⟨#[e]⟩ : Str) = y2 at lo2 ln2 ⊢
        obtain ⟨a1, a2⟩ := low_app xlow lo2
        refine ⟨_, _, rfl, rfl, by omega, _, _, rfl, by omega, a1, k6.lst p5.g hl5, kp5.trans k6, of5.keep p5.g k6, p6.mono (by omega)⟩
      · rintro σ G2 ⟨y8, x, rfl, xl, xlow, hl5, kp5, of5, p5⟩
        have dl : d ≠ l := (p5.ne_lst hl5).symm
        have fin : ∀ z : Str, nmOk z = true → (∀ w ∈ ws ++ [z], nmOk w = true) ∧ upd G2 l (.lst (ws.map V.str ++ [.str z])) l = some (.lst ((ws ++ [z]).map V.str)) ∧ KeepP d H2 (upd G2 l (.lst (ws.map V.str ++ [.str z]))) ∧ OffG "cells" "at" "rest" (upd G2 l (.lst (ws.map V.str ++ [.str z]))) d l ∧ Pen (upd G2 l (.lst (ws.map V.str ++ [.str z]))) d (B0 + 2 + 10 * (i + 1 : Nat)) := fun z hz => by
          refine ⟨fun w hw => ?_, by rw [List.map_append]; exact upd_same, kp5.over nl, of5.at_ dl, ?_⟩
          · rcases List.mem_append.mp hw with hw | hw
            · exact wok w hw
            · rw [List.mem_singleton.mp hw]
              exact hz
          · obtain ⟨pp, ns, m2, l2, z1, z2, z3, z4, z5, z6⟩ := p5.ex
            have ne : pp ≠ l := of5 _ _ _ z1
            exact ⟨pp, ns, m2, l2, (upd_ne dl).trans z1, (upd_ne ne).trans z2, z3, z4, z5, by omega⟩
        refine ⟨_, rfl, .inl ⟨rfl, _, SqL.of hl5⟩, _, rfl, _, rfl, ite2 (fun _ => ?_) (fun _ => ?_)⟩
        · obtain ⟨a1, a2⟩ := low_app lo1 xlow
          obtain ⟨g1, g2, g3, g4, g5⟩ := fin (y ++ x) (nm_low a1 (by omega) (by omega))
          exact ⟨_, rfl, _, rfl, _, _, rfl, rfl, by omega, l, _, _, rfl, rfl, hl5, by rw [List.length_map]; omega, _, _, _, _, _, rfl, by rw [List.length_append, wl]; rfl, g1, g2, g3, g4, g5⟩
        · obtain ⟨a1, a2⟩ := low_app xlow lo1
          obtain ⟨g1, g2, g3, g4, g5⟩ := fin (x ++ y) (nm_low a1 (by omega) (by omega))
          exact ⟨_, rfl, _, rfl, _, _, rfl, rfl, by omega, l, _, _, rfl, rfl, hl5, by rw [List.length_map]; omega, _, _, _, _, _, rfl, by rw [List.length_append, wl]; rfl, g1, g2, g3, g4, g5⟩
    · rintro σ G ⟨y5, y6, y7, y8, ws, rfl, wl, wok, hl, kp, of2, p⟩
      exact ⟨_, rfl, q l ws G wl wok hl of2 ((k1.trans k2).trans kp) (p.mono (by omega))⟩
end
end K66

/-! k66: the program's checks, powers of ten. -/
namespace K66
open PySem PySem.Spec PyProof.Rows L2 LamX NdefX Own
abbrev pInt : Stmt := topS 10
abbrev pWhole : Stmt := topS 11
abbrev pNInt : Stmt := topS 13
abbrev pNWhole : Stmt := topS 14
abbrev pTenTo : Stmt := topS 16
section
variable {P : Program} {w : World} {K : PySem.W.Frag} {mg : Str → Option Value} {base : Heap} {C aT : Addr}
theorem scpInt : FnScope ["value"] ["value"] (defScope pInt) := ⟨rfl, rfl, rfl, by decide +kernel, rfl, by decide +kernel, by decide +kernel⟩
def spIsInt : Sp := fun vs H Q _ => ∃ x : V, vs = [x] ∧ Thing H x ∧ Q (.bl (Own.isInt x)) H
theorem ok_isInt (A : At K mg "is_an_integer" pInt ["value"]) (T : Blt mg) : DefOk P w K mg base CX0 "is_an_integer" 1 ["value"] spIsInt := by
  refine A.ok fun f fd F => F.ok scpInt (fun vs H Q E h => ?_) (fun cdv A outer s H vs Q E hr h => ?_)
  · obtain ⟨x, rfl, _⟩ := h
    rfl
  · obtain ⟨x, rfl, th, q⟩ := h
    refine ⟨_, pss_one (ps_ret (pe_and (pe_callB call_isi (by rfl) T.isi (by decide +kernel) (pa_cons (pv 0) (pa_cons (pe_bltn (v := .ty "int") (by rfl) T.int (by decide +kernel) rfl) pa_nil)))
      (pe_one (pe_not (pe_callB call_isi (by rfl) T.isi (by decide +kernel) (pa_cons (pv 0) (pa_cons (pe_bltn (v := .ty "bool") (by rfl) T.bool (by decide +kernel) rfl) pa_nil))))))), ?_⟩
    obtain ⟨t, ht, h1, h2⟩ := th.isi (K := K)
    have hb : isBl x = true → Own.isInt x = false := by cases x <;> simp [Own.isInt, isBl]
    refine ⟨_, rfl, x, .ty "int", t, _, _, rfl, .ty _, ht, h1, _, rfl, ite2 (fun e => ?_) (fun e => ?_)⟩
    · refine ⟨_, rfl, x, .ty "bool", t, _, _, rfl, .ty _, ht, h2, _, rfl, ?_⟩
      have z : (!isBl x) = Own.isInt x := by cases e1 : Own.isInt x <;> cases e2 : isBl x <;> simp_all
      rw [z]
      exact q
    · have z : false = Own.isInt x := by cases e1 : Own.isInt x <;> cases e2 : isBl x <;> simp_all
      rw [z]
      exact q
/-- an integer from 0 on -/
def isWh : V → Bool
  | .int i => decide (0 ≤ i)
  | _ => false
theorem scpWhole : FnScope ["value"] ["value"] (defScope pWhole) := ⟨rfl, rfl, rfl, by decide +kernel, rfl, by decide +kernel, by decide +kernel⟩
def spIsWh : Sp := fun vs H Q _ => ∃ x : V, vs = [x] ∧ Thing H x ∧ Q (.bl (isWh x)) H
theorem ok_isWh (A : At K mg "is_whole_number" pWhole ["value"]) (D : DefOk P w K mg base CX0 "is_an_integer" 1 ["value"] spIsInt) : DefOk P w K mg base CX0 "is_whole_number" 2 ["value"] spIsWh := by
  refine A.ok fun f fd F => F.ok scpWhole (fun vs H Q E h => ?_) (fun cdv A outer s H vs Q E hr h => ?_)
  · obtain ⟨x, rfl, _⟩ := h
    rfl
  · obtain ⟨x, rfl, th, q⟩ := h
    refine ⟨_, pss_one (ps_ret (pe_and (pe_def D hr (by decide) (by rfl) pass0 (pa_cons (pv 0) pa_nil)) (pe_one (pe_cmpR op_ge (pv 0) pe_int (nomark _))))), ?_⟩
    refine ⟨_, rfl, x, rfl, th, _, rfl, ite2 (fun e => ?_) (fun e => ?_)⟩
    · cases x <;> first | (exact ⟨_, rfl, _, _, rfl, rfl, q⟩) | (simp [Own.isInt] at e)
    · have z : isWh x = false := by cases x <;> first | rfl | (simp [Own.isInt] at e)
      rw [z] at q
      exact q
theorem scpNInt : FnScope ["value"] ["value"] (defScope pNInt) := ⟨rfl, rfl, rfl, by decide +kernel, rfl, by decide +kernel, by decide +kernel⟩
def spNInt (C : Addr) : Sp := fun vs H Q E => ∃ x : V, vs = [x] ∧ Thing H x ∧ (Own.isInt x = true → Q .non H) ∧ (Own.isInt x = false → Bad C "value" x H E)
theorem ok_nInt (A : At K mg "need_integer" pNInt ["value"]) (T : ErrC P w K mg base "BadValue" "value" 1 C (spErr C "value")) (D : DefOk P w K mg base CX0 "is_an_integer" 1 ["value"] spIsInt) : DefOk P w K mg base (L2.CX P w) "need_integer" 3 ["value"] (spNInt C) := by
  refine A.ok fun f fd F => F.okX scpNInt (fun vs H Q E h => ?_) (fun cdv A outer s H vs Q E hr h => ?_)
  · obtain ⟨x, rfl, _⟩ := h
    rfl
  · obtain ⟨x, rfl, th, q1, q2⟩ := h
    refine ⟨_, pss_one (ps_if (pt_not (pt_val (pe_def D hr (by decide) (by rfl) pass0 (pa_cons (pv 0) pa_nil)))) (pss_one (ps_raise rfl (takes_of rfl rfl rfl rfl) (pmk_err T hr (by decide) (by rfl) (pv 0)))) pss_nil), ?_⟩
    refine ⟨_, rfl, x, rfl, th, _, rfl, ite2 (fun e => ?_) (fun e => ?_)⟩
    · exact ⟨_, rfl, bad_mk (q2 (by simpa using e))⟩
    · exact q1 (by simpa using e)
theorem scpNWh : FnScope ["value"] ["value"] (defScope pNWhole) := ⟨rfl, rfl, rfl, by decide +kernel, rfl, by decide +kernel, by decide +kernel⟩
def spNWh (C : Addr) : Sp := fun vs H Q E => ∃ x : V, vs = [x] ∧ Thing H x ∧ (isWh x = true → Q .non H) ∧ (isWh x = false → Bad C "value" x H E)
theorem ok_nWh (A : At K mg "need_whole_number" pNWhole ["value"]) (T : ErrC P w K mg base "BadValue" "value" 1 C (spErr C "value")) (D : DefOk P w K mg base CX0 "is_whole_number" 2 ["value"] spIsWh) : DefOk P w K mg base (L2.CX P w) "need_whole_number" 3 ["value"] (spNWh C) := by
  refine A.ok fun f fd F => F.okX scpNWh (fun vs H Q E h => ?_) (fun cdv A outer s H vs Q E hr h => ?_)
  · obtain ⟨x, rfl, _⟩ := h
    rfl
  · obtain ⟨x, rfl, th, q1, q2⟩ := h
    refine ⟨_, pss_one (ps_if (pt_not (pt_val (pe_def D hr (by decide) (by rfl) pass0 (pa_cons (pv 0) pa_nil)))) (pss_one (ps_raise rfl (takes_of rfl rfl rfl rfl) (pmk_err T hr (by decide) (by rfl) (pv 0)))) pss_nil), ?_⟩
    refine ⟨_, rfl, x, rfl, th, _, rfl, ite2 (fun e => ?_) (fun e => ?_)⟩
    · exact ⟨_, rfl, bad_mk (q2 (by simpa using e))⟩
    · exact q1 (by simpa using e)
/-! ### ten_to: a table below sixteen, then halves -/
def tensL : List Int := (List.range 16).map fun i => (10 : Int) ^ i
theorem scTenTo : FnScope ["places", "half"] ["places"] (defScope pTenTo) := ⟨rfl, rfl, rfl, by decide +kernel, rfl, by decide +kernel, by decide +kernel⟩
def spTenTo (k : Nat) : Sp := fun vs H Q _ => ∃ n : Nat, vs = [.int n] ∧ n < 16 * 2 ^ k ∧ Q (.int ((10 : Int) ^ n)) H
theorem bot_of {x : Str} {st : Stmt} {ps : List Str} (A : At K mg x st ps) : DefOk P w K mg base CX0 x 0 ps (fun _ _ _ _ => False) :=
  A.ok fun f fd F => ⟨fun _ _ _ _ h => h.elim, fun _ _ _ _ _ _ _ _ _ _ _ _ _ h => h.elim⟩
theorem tens_at {n : Nat} (h : n < 16) : atI (tensL.map V.int) (n : Int) = some (.int ((10 : Int) ^ n)) := by
  refine atI_nat ?_
  rw [List.getElem?_map]
  unfold tensL
  rw [List.getElem?_map, List.getElem?_range h]
  rfl
theorem tens_len : ((tensL.map V.int).length : Int) = 16 := by decide +kernel
theorem tenTo_step {k N : Nat} {spD : Sp} (A : At K mg "ten_to" pTenTo ["places"]) (T : Blt mg) (gT : mg "TENS" = some (.ref aT)) (tens : ∀ H : Hp, SqT K H aT (tensL.map V.int)) (hN : N ≤ 4096) (D : DefOk P w K mg base CX0 "ten_to" k ["places"] spD)
    (h : ∀ (n : Nat) (H : Hp) (Q : VK) (E : XK), 16 ≤ n → n < N → Q (.int ((10 : Int) ^ (n / 2))) H → spD [.int ((n / 2 : Nat) : Int)] H Q E) : DefOk P w K mg base CX0 "ten_to" (k + 1) ["places"] (fun vs H Q _ => ∃ n : Nat, vs = [.int n] ∧ n < N ∧ Q (.int ((10 : Int) ^ n)) H) := by
  refine A.ok fun f fd F => F.ok scTenTo (fun vs H Q E h => ?_) (fun cdv A outer s H vs Q E hr hq => ?_)
  · obtain ⟨n, rfl, _⟩ := h
    rfl
  · obtain ⟨n, rfl, hn, q⟩ := hq
    have nd := scTenTo.nd
    refine ⟨_, pss_cons (ps_if (pt_cmpR op_lt (pv 0) (pe_callB call_len_seq (by rfl) T.len PySem.boot_len (pa_cons (pe_glob (v := .ref aT) (by rfl) gT rfl) pa_nil)) (nomark _)) (pss_one (ps_ret (pe_ix ix_tup (pe_glob (v := .ref aT) (by rfl) gT rfl) (pv 0) (fun _ _ => rfl)))) pss_nil)
      (pss_cons (ps_set (i := 1) nd rfl (.inl rfl) (pe_def (E := E0) D hr (Nat.le_refl _) (by rfl) pass0 (pa_cons (pe_op op_fdiv (pv 0) pe_int) pa_nil)))
      (pss_cons (ps_if (pt_cmpR op_eq (pe_op op_mod (pv 0) pe_int) pe_int (nomark _)) (pss_one (ps_ret (pe_op op_mulW (pe_op op_mulW (pv 1) (pv 1)) pe_int))) pss_nil)
      (pss_one (ps_ret (pe_op op_mulW (pv 1) (pv 1)))))), ?_⟩
    refine ⟨_, rfl, aT, _, rfl, .inr (tens H), _, _, rfl, rfl, _, rfl, ite2 (fun e => ?_) (fun e => ?_)⟩
    · have hl : n < 16 := by
        have z := of_decide_eq_true e
        rw [tens_len] at z
        omega
      exact ⟨_, rfl, aT, _, _, _, rfl, rfl, tens H, tens_at hl, q⟩
    · have hg : 16 ≤ n := by
        have z : ¬ ((n : Int) < ((tensL.map V.int).length : Int)) := fun z => e (decide_eq_true z)
        rw [tens_len] at z
        omega
      refine ⟨_, rfl, _, _, rfl, rfl, ⟨by decide, by decide⟩, ?_⟩
      have e2 : (n : Int) / 2 = ((n / 2 : Nat) : Int) := by omega
      dsimp only
      rw [e2]
      refine h n H _ _ hg hn ?_
      have b := ten_lt (n / 2)
      have b2 : ((10 : Int) ^ (n / 2) * (10 : Int) ^ (n / 2)).natAbs < 2 ^ (4 * (n / 2) + 1 + (4 * (n / 2) + 1)) := wide_lt b b
      refine ⟨_, rfl, _, _, rfl, rfl, (show (0 : Int) < 2 by decide), rfl, _, rfl, ite2 (fun e => ?_) (fun e => ?_)⟩
      · have ho : (n : Int) % 2 = 1 := by simpa using e
        refine ⟨_, rfl, _, rfl, _, _, rfl, rfl, wide_mul b b (by omega) (by omega) (by omega), _, _, rfl, rfl, wide_mul b2 (show ((10 : Int)).natAbs < 2 ^ 4 by decide) (by omega) (by decide) (by omega), ?_⟩
        have ex : (10 : Int) ^ (n / 2) * (10 : Int) ^ (n / 2) * 10 = (10 : Int) ^ n := by
          rw [← Int.pow_add, ← Int.pow_succ]
          congr 1
          omega
        show Q (.int ((10 : Int) ^ (n / 2) * (10 : Int) ^ (n / 2) * 10)) H
        rw [ex]
        exact q
      · have ho : (n : Int) % 2 ≠ 1 := by simpa using e
        refine ⟨_, rfl, _, rfl, _, _, rfl, rfl, wide_mul b b (by omega) (by omega) (by omega), ?_⟩
        have ex : (10 : Int) ^ (n / 2) * (10 : Int) ^ (n / 2) = (10 : Int) ^ n := by
          rw [← Int.pow_add]
          congr 1
          omega
        show Q (.int ((10 : Int) ^ (n / 2) * (10 : Int) ^ (n / 2))) H
        rw [ex]
        exact q
theorem ok_tenTo (A : At K mg "ten_to" pTenTo ["places"]) (T : Blt mg) (gT : mg "TENS" = some (.ref aT)) (tens : ∀ H : Hp, SqT K H aT (tensL.map V.int)) : ∀ k : Nat, k ≤ 8 → DefOk P w K mg base CX0 "ten_to" (k + 1) ["places"] (spTenTo k)
  | 0, _ => tenTo_step A T gT tens (by decide) (bot_of A) fun n H Q E h1 h2 _ => absurd h1 (by omega)
  | k + 1, hk => by
    have le : 16 * 2 ^ (k + 1) ≤ 4096 := by
      have := Nat.pow_le_pow_right (show 0 < 2 by decide) hk
      omega
    refine tenTo_step A T gT tens le (ok_tenTo A T gT tens k (by omega)) fun n H Q E h1 h2 q => ⟨n / 2, rfl, ?_, q⟩
    rw [Nat.pow_succ] at h2
    omega
end
end K66

/-! k66: formulas: names, parts of a row, rows. -/
namespace K66
open PySem PySem.Spec PyProof.Rows L2 LamX NdefX Own
abbrev pNm : Stmt := topS 12
abbrev pPo : Stmt := topS 31
abbrev pGf : Stmt := topS 40
abbrev pRw : Stmt := topS 39
abbrev nRw : List Str := ["row", "word", "part"]
theorem blkRw : BlkOk nRw (defScope pRw) (zSc (zArg 0 (zArg 0 (zVal (zAt pRw 3))))) [("part", 2)] := blkOk_by (by decide +kernel)
theorem isWh_cast (n : Nat) : isWh (.int (n : Int)) = true := by
  show decide (0 ≤ (n : Int)) = true
  exact decide_eq_true (by omega)
theorem inV_txt (z : Str) (l : List Str) : inV (.str z) (l.map V.str) = decide (z ∈ l) := by
  unfold inV
  rw [List.any_map]
  induction l with
  | nil => rfl
  | cons a r ih =>
    rw [List.any_cons, ih]
    show (a == z || decide (z ∈ r)) = decide (z ∈ a :: r)
    by_cases h : a = z
    · subst h
      simp
    · have h' : ¬ z = a := fun e => h e.symm
      simp [h, h']
/-- PARTS, FIELDS and WAYS as the top has left them -/
structure PtC (K : PySem.W.Frag) (w : World) (mg : Str → Option Value) (aP aF aW : Addr) : Prop where
  gP : mg "PARTS" = some (.ref aP)
  dP : ∃ es n, KDict K w aP es n
  kP : ∀ z v, (z, v) ∈ partL → KGet K aP z (some v)
  gF : mg "FIELDS" = some (.ref aF)
  dF : ∃ es n, KDict K w aF es n
  kF : ∀ z v, (z, v) ∈ fieldL → KGet K aF z (some v)
  gW : mg "WAYS" = some (.ref aW)
  tW : ∀ H : Hp, SqT K H aW (waysL.map V.str)
theorem PtC.part {K : PySem.W.Frag} {w : World} {mg : Str → Option Value} {aP aF aW : Addr} (T : PtC K w mg aP aF aW) (r : Rw) : KDct K w aP r.word (.int (r.parts.length : Nat)) := by
  obtain ⟨es, n, D⟩ := T.dP
  exact kdct_of D (T.kP _ _ (part_in r))
theorem PtC.field {K : PySem.W.Frag} {w : World} {mg : Str → Option Value} {aP aF aW : Addr} (T : PtC K w mg aP aF aW) (r : Rw) : KDct K w aF r.word (.int (r.tail.length : Nat)) := by
  obtain ⟨es, n, D⟩ := T.dF
  exact kdct_of D (T.kF _ _ (field_in r))
theorem PtC.isin {K : PySem.W.Frag} {w : World} {mg : Str → Option Value} {aP aF aW : Addr} (T : PtC K w mg aP aF aW) (r : Rw) : ∃ u, PySem.W.nsIn K aP r.word = some (some u) := by
  obtain ⟨ro, e, h⟩ := T.kP _ _ (part_in r)
  cases ro with
  | none => exact absurd h (by intro y; cases y)
  | some u => exact ⟨u, e⟩
section
variable {P : Program} {w : World} {K : PySem.W.Frag} {mg : Str → Option Value} {base : Heap} {C CB CN F aP aF aW : Addr}
theorem scNm : FnScope ["value"] ["value"] (defScope pNm) := ⟨rfl, rfl, rfl, by decide +kernel, rfl, by decide +kernel, by decide +kernel⟩
def spNm : Sp := fun vs H Q _ => ∃ x : Str, vs = [.str x] ∧ x.length ≤ sizeLine ∧ Q (.bl (nmOk x)) H
theorem ok_nm (A : At K mg "is_name" pNm ["value"]) (B : Blt mg) : DefOk P w K mg base CX0 "is_name" 1 ["value"] spNm := by
  refine A.ok fun f fd F => F.ok scNm (fun vs H Q E h => ?_) (fun cdv A outer s0 H vs Q E hr h => ?_)
  · obtain ⟨x, rfl, _⟩ := h
    rfl
  · obtain ⟨x, rfl, hl, q⟩ := h
    refine ⟨_, pss_cons (ps_if (PW.pt (pw_or (pt_not (pt_val (pe_callB call_isi (by rfl) B.isi (by decide +kernel) (pa_cons (pv 0) (pa_cons (pe_bltn (v := .ty "str") (by rfl) B.str (by decide +kernel) rfl) pa_nil))))) (pw_or1 (pt_not (pt_chain op_le op_le pe_int (pe_callB call_len_str (by rfl) B.len PySem.boot_len (pa_cons (pv 0) pa_nil)) pe_int))))) (pss_one (ps_ret pe_bl)) pss_nil)
      (pss_one (ps_ret (pe_and (pe_bm0 PySem.F.plainAttrs_str PySem.F.slot_str_isascii PySem.F.type_str_isascii mt_isascii (pv 0)) (pe_and (pe_bm0 PySem.F.plainAttrs_str PySem.F.slot_str_isalpha PySem.F.type_str_isalpha mt_isalpha (pv 0)) (pe_one (pe_bm0 PySem.F.plainAttrs_str PySem.F.slot_str_islower PySem.F.type_str_islower mt_islower (pv 0))))))), ?_⟩
    refine ⟨_, rfl, _, _, _, _, true, rfl, .ty _, .base (.str _), kit_ty (show kitB "str" "str" = some true by decide +kernel), _, rfl, iteF ?_⟩
    unfold nmOk at q
    refine ⟨_, rfl, x, rfl, hl, _, _, rfl, rfl, _, rfl, ite2 (fun z1 => ?_) (fun z1 => ?_)⟩
    · refine ⟨_, _, rfl, rfl, _, rfl, ?_⟩
      rw [show decide (1 ≤ x.length) = true from decide_eq_true (by have := of_decide_eq_true z1; omega), Bool.true_and] at q
      by_cases z3 : x.length ≤ 8
      · rw [decide_eq_true z3, Bool.true_and] at q
        rw [show decide (((x.length : Nat) : Int) ≤ 8) = true from decide_eq_true (by omega)]
        refine iteF ?_
        refine ⟨_, rfl, rfl, x, rfl, rfl, True.intro, _, rfl, ite2 (fun y1 => ?_) (fun y1 => ?_)⟩
        · refine ⟨_, rfl, rfl, x, rfl, rfl, True.intro, _, rfl, ite2 (fun y2 => ?_) (fun y2 => ?_)⟩
          · refine ⟨_, rfl, rfl, x, rfl, rfl, True.intro, ?_⟩
            rw [y1, y2, Bool.true_and, Bool.true_and] at q
            exact q
          · rw [eq_false_of_ne_true y2, Bool.false_and, Bool.and_false] at q
            exact q
        · rw [eq_false_of_ne_true y1, Bool.false_and] at q
          exact q
      · rw [decide_eq_false z3, Bool.false_and] at q
        rw [show decide (((x.length : Nat) : Int) ≤ 8) = false from decide_eq_false (by omega)]
        exact iteT q
    · rw [show decide (1 ≤ x.length) = false from decide_eq_false (by have := of_decide_eq_false (eq_false_of_ne_true z1); omega), Bool.false_and] at q
      exact ⟨_, rfl, iteT q⟩
theorem scPo : FnScope ["row"] ["row"] (defScope pPo) := ⟨rfl, rfl, rfl, by decide +kernel, rfl, by decide +kernel, by decide +kernel⟩
def spPo : Sp := fun vs H Q _ => ∃ (v : V) (r : Rw), vs = [v] ∧ RwAt H v r ∧ ∀ p : Addr, H p = none → Q (.ref p) (upd H p (.tup (r.parts.map nV)))
theorem cut_parts (r : Rw) : cutV r.vals (some 1) (some (1 + (r.parts.length : Nat))) = r.parts.map nV := by
  cases r <;> rfl
theorem cut_none (r : Rw) : ¬ (HT.sIx r.vals.length 0 (some 1) = 0 ∧ HT.sIx r.vals.length r.vals.length (some (1 + (r.parts.length : Nat))) = r.vals.length) := by
  rintro ⟨z, _⟩
  cases r <;> exact absurd (show (1 : Nat) = 0 from z) (by decide)
theorem ok_po (A : At K mg "parts_of" pPo ["row"]) (TP : PtC K w mg aP aF aW) : DefOk P w K mg base CX0 "parts_of" 1 ["row"] spPo := by
  refine A.ok fun f fd F => F.ok scPo (fun vs H Q E h => ?_) (fun cdv A outer s0 H vs Q E hr h => ?_)
  · obtain ⟨x, r, rfl, _⟩ := h
    rfl
  · obtain ⟨x, r, rfl, ⟨a, rfl, ea⟩, q⟩ := h
    refine ⟨_, pss_one (ps_ret (pe_slice sl_tupA (pv 0) (po_some pe_int) (po_some (pe_op op_add pe_int (pe_ix ix_kdict (pe_glob (v := .ref aP) (by rfl) TP.gP rfl) (pe_ix ix_tup (pv 0) pe_int (fun _ _ => rfl)) (fun _ _ => rfl)))))), ?_⟩
    refine ⟨_, rfl, 1, rfl, _, rfl, a, _, 0, _, rfl, rfl, SqT.of ea, atI_nat (j := 0) rfl, aP, r.word, _, rfl, rfl, TP.part r, _, _, rfl, rfl, _, rfl, a, _, rfl, SqT.of ea, fun z => absurd z (cut_none r), fun _ p np => ?_⟩
    rw [cut_parts]
    exact q p np
theorem scGf : FnScope ["row", "word"] ["row"] (defScope pGf) := ⟨rfl, rfl, rfl, by decide +kernel, rfl, by decide +kernel, by decide +kernel⟩
def spGf : Sp := fun vs H Q _ => ∃ (v : V) (r : Rw), vs = [v] ∧ RwAt H v r ∧ r.ok ∧ Q (.bl true) H
theorem ok_gf (A : At K mg "_has_good_fields" pGf ["row"]) (TP : PtC K w mg aP aF aW) (DWh : DefOk P w K mg base CX0 "is_whole_number" 2 ["value"] spIsWh) (DNm : DefOk P w K mg base CX0 "is_name" 1 ["value"] spNm) : DefOk P w K mg base CX0 "_has_good_fields" 3 ["row"] spGf := by
  refine A.ok fun f fd F => F.ok scGf (fun vs H Q E h => ?_) (fun cdv A outer s0 H vs Q E hr h => ?_)
  · obtain ⟨x, r, rfl, _⟩ := h
    rfl
  · obtain ⟨x, r, rfl, ⟨a, rfl, ea⟩, ok, q⟩ := h
    have nd := scGf.nd
    refine ⟨_, pss_cons (ps_set (i := 1) nd rfl (.inl rfl) (pe_ix ix_tup (pv 0) pe_int (fun _ _ => rfl)))
      (pss_cons (ps_if (pt_cmpR op_eq (pv 1) pe_str (nomark _)) (pss_one (ps_ret (pe_def DNm hr (by decide) (by rfl) pass0 (pa_cons (pe_ix ix_tup (pv 0) pe_int (fun _ _ => rfl)) pa_nil)))) pss_nil)
      (pss_cons (ps_if (pt_cmpR op_eq (pv 1) pe_str (nomark _)) (pss_one (ps_ret (pe_and (pe_def DWh hr (by decide) (by rfl) pass0 (pa_cons (pe_ix ix_tup (pv 0) pe_int (fun _ _ => rfl)) pa_nil)) (pe_one (pe_def DWh hr (by decide) (by rfl) pass0 (pa_cons (pe_ix ix_tup (pv 0) pe_int (fun _ _ => rfl)) pa_nil)))))) pss_nil)
      (pss_cons (ps_if (pt_cmpR op_eq (pv 1) pe_str (nomark _)) (pss_one (ps_ret (pe_and (pe_def DWh hr (by decide) (by rfl) pass0 (pa_cons (pe_ix ix_tup (pv 0) pe_int (fun _ _ => rfl)) pa_nil)) (pe_and (pe_def DWh hr (by decide) (by rfl) pass0 (pa_cons (pe_ix ix_tup (pv 0) pe_int (fun _ _ => rfl)) pa_nil)) (pe_one (pe_cmpR op_gt (pe_op op_add (pe_ix ix_tup (pv 0) pe_int (fun _ _ => rfl)) (pe_ix ix_tup (pv 0) pe_int (fun _ _ => rfl))) pe_int (nomark _))))))) pss_nil)
      (pss_cons (ps_if (pt_cmpR op_eq (pv 1) pe_str (nomark _)) (pss_one (ps_ret (pe_and (pe_def DWh hr (by decide) (by rfl) pass0 (pa_cons (pe_ix ix_tup (pv 0) pe_int (fun _ _ => rfl)) pa_nil)) (pe_one (pe_cmpR op_in_seq (pe_ix ix_tup (pv 0) pe_int (fun _ _ => rfl)) (pe_glob (v := .ref aW) (by rfl) TP.gW rfl) (by rfl)))))) pss_nil)
      (pss_one (ps_ret pe_bl)))))), ?_⟩
    refine ⟨_, rfl, a, _, 0, _, rfl, rfl, SqT.of ea, atI_nat (j := 0) rfl, ?_⟩
    dsimp only [gName, List.set]
    cases r with
    | col x =>
      refine ⟨_, rfl, rfl, _, rfl, iteT ?_⟩
      refine ⟨_, rfl, a, _, 1, _, rfl, rfl, SqT.of ea, rfl, x, rfl, Nat.le_trans (nm_txt ok).1 (by rw [sizeLine_eq]; decide), ?_⟩
      rw [show nmOk x = true from ok]
      exact q
    | con u s =>
      refine ⟨_, rfl, rfl, _, rfl, iteF ⟨_, rfl, rfl, _, rfl, iteT ?_⟩⟩
      refine ⟨_, rfl, a, _, 1, _, rfl, rfl, SqT.of ea, rfl, _, rfl, .int _, _, rfl, ?_⟩
      rw [isWh_cast]
      refine iteT ⟨_, rfl, a, _, 2, _, rfl, rfl, SqT.of ea, rfl, _, rfl, .int _, ?_⟩
      rw [isWh_cast]
      exact q
    | bin w i j => cases w <;> exact ⟨_, rfl, rfl, _, rfl, iteF ⟨_, rfl, rfl, _, rfl, iteF ⟨_, rfl, rfl, _, rfl, iteF ⟨_, rfl, rfl, _, rfl, iteF q⟩⟩⟩⟩
    | neg i => exact ⟨_, rfl, rfl, _, rfl, iteF ⟨_, rfl, rfl, _, rfl, iteF ⟨_, rfl, rfl, _, rfl, iteF ⟨_, rfl, rfl, _, rfl, iteF q⟩⟩⟩⟩
    | cst i w s =>
      refine ⟨_, rfl, rfl, _, rfl, iteF ⟨_, rfl, rfl, _, rfl, iteF ⟨_, rfl, rfl, _, rfl, iteT ?_⟩⟩⟩
      refine ⟨_, rfl, a, _, 2, _, rfl, rfl, SqT.of ea, rfl, _, rfl, .int _, _, rfl, ?_⟩
      rw [isWh_cast]
      refine iteT ⟨_, rfl, a, _, 3, _, rfl, rfl, SqT.of ea, rfl, _, rfl, .int _, _, rfl, ?_⟩
      rw [isWh_cast]
      refine iteT ⟨_, rfl, a, _, 2, _, rfl, rfl, SqT.of ea, rfl, _, rfl, a, _, 3, _, rfl, rfl, SqT.of ea, rfl, _, _, rfl, rfl, _, _, rfl, rfl, ?_⟩
      dsimp only
      rw [show decide ((0 : Int) < (w : Int) + (s : Int)) = true from decide_eq_true (by have : 0 < w + s := ok; omega)]
      exact q
    | rnd i s y =>
      refine ⟨_, rfl, rfl, _, rfl, iteF ⟨_, rfl, rfl, _, rfl, iteF ⟨_, rfl, rfl, _, rfl, iteF ⟨_, rfl, rfl, _, rfl, iteT ?_⟩⟩⟩⟩
      refine ⟨_, rfl, a, _, 2, _, rfl, rfl, SqT.of ea, rfl, _, rfl, .int _, _, rfl, ?_⟩
      rw [isWh_cast]
      refine iteT ⟨_, rfl, a, _, 3, _, rfl, rfl, SqT.of ea, rfl, aW, waysL.map V.str, rfl, .inr (TP.tW _), rfl, by decide +kernel, ?_⟩
      rw [show (if false = true then !inV (V.str y) (waysL.map V.str) else inV (V.str y) (waysL.map V.str)) = decide (y ∈ waysL) from inV_txt y waysL, decide_eq_true (show y ∈ waysL from ok)]
      exact q
theorem scRw : FnScope nRw ["row"] (defScope pRw) := ⟨rfl, rfl, rfl, by decide +kernel, rfl, by decide +kernel, by decide +kernel⟩
def spRw : Sp := fun vs H Q _ => ∃ (v : V) (r : Rw), vs = [v] ∧ RwAt H v r ∧ r.ok ∧ ∀ H', Same H H' → Q (.bl true) H'
theorem ok_rw (A : At K mg "_is_row" pRw ["row"]) (B : Blt mg) (TP : PtC K w mg aP aF aW) (DWh : DefOk P w K mg base CX0 "is_whole_number" 2 ["value"] spIsWh) (DPo : DefOk P w K mg base CX0 "parts_of" 1 ["row"] spPo) (DGf : DefOk P w K mg base CX0 "_has_good_fields" 3 ["row"] spGf) : DefOk P w K mg base CX0 "_is_row" 4 ["row"] spRw := by
  refine A.ok fun f fd F => F.ok scRw (fun vs H Q E h => ?_) (fun cdv A outer s0 H vs Q E hr h => ?_)
  · obtain ⟨x, r, rfl, _⟩ := h
    rfl
  · obtain ⟨x, r, rfl, ⟨a, rfl, ea⟩, ok, q⟩ := h
    have nd := scRw.nd
    obtain ⟨es, nn, hdP⟩ := TP.dP
    refine ⟨_, pss_cons (ps_if (PW.pt (pw_or (pt_not (pt_val (pe_callB call_isi (by rfl) B.isi (by decide +kernel) (pa_cons (pv 0) (pa_cons (pe_bltn (v := .ty "tuple") (by rfl) B.tuple (by decide +kernel) rfl) pa_nil))))) (pw_or (pt_cmpR op_eq (pe_callB call_len_seq (by rfl) B.len PySem.boot_len (pa_cons (pv 0) pa_nil)) pe_int (nomark _)) (pw_or1 (pt_not (pt_val (pe_callB call_isi (by rfl) B.isi (by decide +kernel) (pa_cons (pe_ix ix_tup (pv 0) pe_int (fun _ _ => rfl)) (pa_cons (pe_bltn (v := .ty "str") (by rfl) B.str (by decide +kernel) rfl) pa_nil))))))))) (pss_one (ps_ret pe_bl)) pss_nil)
      (pss_cons (ps_set (i := 1) nd rfl (.inl rfl) (pe_ix ix_tup (pv 0) pe_int (fun _ _ => rfl)))
      (pss_cons (ps_if (PW.pt (pw_or (pt_cmpR (op_notIn_kd hdP) (pv 1) (pe_glob (v := .ref aP) (by rfl) TP.gP rfl) (by rfl)) (pw_or1 (pt_cmpR op_ne (pe_callB call_len_seq (by rfl) B.len PySem.boot_len (pa_cons (pv 0) pa_nil)) (pe_op op_add (pe_op op_add pe_int (pe_ix ix_kdict (pe_glob (v := .ref aP) (by rfl) TP.gP rfl) (pv 1) (fun _ _ => rfl))) (pe_ix ix_kdict (pe_glob (v := .ref aF) (by rfl) TP.gF rfl) (pv 1) (fun _ _ => rfl))) (nomark _))))) (pss_one (ps_ret pe_bl)) pss_nil)
      (pss_cons (ps_if (pt_cmpR op_gt (pe_callB call_len_seq (by rfl) B.len PySem.boot_len (pa_cons (pe_lc (own := [("part", 2)]) (te := tVar 2) rfl nd (pi_tup (pe_def DPo hr (by decide) (by rfl) pass0 (pa_cons (pv 0) pa_nil))) blkRw (fun _ _ _ _ _ => (pg_name (i := 2) nd rfl (.inl rfl))) (fun _ _ _ _ _ => (pts_one (pt_not (pt_val (pe_def DWh hr (by decide) (by rfl) pass0 (pa_cons (pv 2) pa_nil)))))) (fun _ _ _ _ _ => (pv 2))) pa_nil)) pe_int (nomark _)) (pss_one (ps_ret pe_bl)) pss_nil)
      (pss_one (ps_ret (pe_def DGf hr (by decide) (by rfl) pass0 (pa_cons (pv 0) pa_nil))))))), ?_⟩
    obtain ⟨u, hu⟩ := TP.isin r
    have l1 : r.vals.length = 1 + r.parts.length + r.tail.length := by
      show (r.parts.map nV ++ r.tail).length + 1 = _
      rw [List.length_append, List.length_map]
      omega
    refine ⟨_, rfl, _, _, _, _, true, rfl, .ty _, .base (.tup ea), kit_ty (show kitB "tuple" "tuple" = some true by decide +kernel), _, rfl, iteF ?_⟩
    refine ⟨_, rfl, a, _, rfl, .inr (SqT.of ea), rfl, _, rfl, ?_⟩
    rw [show decide (V.int (r.vals.length : Nat) = V.int 0) = false from decide_eq_false fun z => by have := V.int.inj z; omega]
    refine iteF ⟨_, rfl, a, _, 0, _, rfl, rfl, SqT.of ea, atI_nat (j := 0) rfl, _, _, _, _, true, rfl, .ty _, .base (.str _), kit_ty (show kitB "str" "str" = some true by decide +kernel), _, rfl, iteF ?_⟩
    refine ⟨_, rfl, a, _, 0, _, rfl, rfl, SqT.of ea, atI_nat (j := 0) rfl, ?_⟩
    dsimp only [gName, List.set]
    refine ⟨_, rfl, r.word, _, rfl, rfl, hu, _, rfl, iteF ?_⟩
    refine ⟨_, rfl, a, _, rfl, .inr (SqT.of ea), _, rfl, aP, r.word, _, rfl, rfl, TP.part r, _, _, rfl, rfl, _, rfl, aF, r.word, _, rfl, rfl, TP.field r, _, _, rfl, rfl, ?_⟩
    dsimp only
    refine ⟨rfl, _, rfl, ?_⟩
    rw [show (!decide (V.int (r.vals.length : Nat) = V.int (1 + (r.parts.length : Nat) + (r.tail.length : Nat)))) = false by
      rw [l1, decide_eq_true (show V.int ((1 + r.parts.length + r.tail.length : Nat) : Int) = V.int (1 + (r.parts.length : Nat) + (r.tail.length : Nat)) from congrArg V.int (by omega))]
      rfl]
    refine iteF ?_
    refine ⟨_, rfl, .ref a, r, rfl, ⟨a, rfl, ea⟩, fun p np => ⟨p, rfl, ⟨_, SqT.of upd_same⟩, fun D nD => ?_⟩⟩
    have s1 := same_new (o := HO.tup (r.parts.map nV)) np
    have ep : upd H p (HO.tup (r.parts.map nV)) p = some (.tup (r.parts.map nV)) := upd_same
    generalize upd H p (HO.tup (r.parts.map nV)) = H1 at s1 ep nD ⊢
    refine lc_tup (xs := r.parts.map nV) (fun i H' => Same H1 H' ∧ H' D = some (.lst [])) ⟨same_new nD, upd_same⟩ (fun i H' _ z => SqT.of (z.1 _ _ ep)) ?_ ?_
    · rintro i x H2 hx ⟨s2, hD⟩
      rw [List.getElem?_map] at hx
      obtain ⟨n, hn, rfl⟩ := Option.map_eq_some_iff.mp hx
      dsimp only [gName, List.set]
      refine ⟨rfl, _, rfl, _, rfl, .int _, _, rfl, ?_⟩
      rw [isWh_cast]
      exact ⟨s2, hD⟩
    · rintro H2 ⟨s2, hD⟩
      refine ⟨D, _, rfl, .inl (SqL.of hD), _, _, rfl, rfl, _, rfl, iteF ?_⟩
      exact ⟨_, rfl, .ref a, r, rfl, ⟨a, rfl, s2 _ _ (s1 _ _ ea)⟩, ok, q _ (s1.trans s2)⟩
end
end K66

/-! k66: the law: trees, laid out as rows. -/
namespace K66
open PySem PySem.Spec PyProof.Rows L2 LamX NdefX Own
abbrev sLp : Stmt := topS 52
abbrev sSh : Stmt := topS 53
abbrev sLd : Stmt := topS 54
abbrev nSh : List Str := ["_law_row", "_law_by", "_law_parts_here", "_law_part"]
abbrev nLd : List Str := ["_law_tree", "_law_left", "_law_right", "_law_made", "_law_row"]
theorem blkSh : BlkOk nSh (defScope sSh) (zSc (zVal (zAt sSh 0))) [("_law_part", 3)] := blkOk_by (by decide +kernel)
/-- tuples stay -/
def ExtT (H H' : Hp) : Prop := ∀ p l, H p = some (.tup l) → H' p = some (.tup l)
theorem ExtT.of {H H' : Hp} (s : Same H H') : ExtT H H' := fun p l e => s _ _ e
theorem ExtT.keep {H H' : Hp} {d : Addr} {B : Int} (p : Pen H d B) (k : KeepP d H H') : ExtT H H' := fun x l e => by
  obtain ⟨pp, ns, m, l0, e0, _⟩ := p.ex
  refine k _ _ ?_ e
  rintro rfl
  rw [e0] at e
  cases e
theorem ExtT.trans {H H1 H2 : Hp} (a : ExtT H H1) (b : ExtT H1 H2) : ExtT H H2 := fun p l e => b p l (a p l e)
/-- a tree as a value -/
def TrAt (H : Hp) : Fm → V → Prop
  | .col x, v => ∃ p, v = .ref p ∧ H p = some (.tup [.str "column", .str x])
  | .con u s, v => ∃ p, v = .ref p ∧ H p = some (.tup [.str "constant", nV u, nV s])
  | .bin w l r, v => ∃ p a b, v = .ref p ∧ H p = some (.tup [.str w.txt, a, b]) ∧ TrAt H l a ∧ TrAt H r b
  | .neg t, v => ∃ p a, v = .ref p ∧ H p = some (.tup [.str "negative", a]) ∧ TrAt H t a
  | .cst t w s, v => ∃ p a, v = .ref p ∧ H p = some (.tup [.str "cast", a, nV w, nV s]) ∧ TrAt H t a
  | .rnd t s y, v => ∃ p a, v = .ref p ∧ H p = some (.tup [.str "round", a, nV s, .str y]) ∧ TrAt H t a
theorem TrAt.ext {H H' : Hp} (x : ExtT H H') : ∀ {t : Fm} {v : V}, TrAt H t v → TrAt H' t v
  | .col _, v, ⟨p, e1, e2⟩ => ⟨p, e1, x _ _ e2⟩
  | .con _ _, v, ⟨p, e1, e2⟩ => ⟨p, e1, x _ _ e2⟩
  | .bin _ _ _, v, ⟨p, a, b, e1, e2, e3, e4⟩ => ⟨p, a, b, e1, x _ _ e2, TrAt.ext x e3, TrAt.ext x e4⟩
  | .neg _, v, ⟨p, a, e1, e2, e3⟩ => ⟨p, a, e1, x _ _ e2, TrAt.ext x e3⟩
  | .cst _ _ _, v, ⟨p, a, e1, e2, e3⟩ => ⟨p, a, e1, x _ _ e2, TrAt.ext x e3⟩
  | .rnd _ _ _, v, ⟨p, a, e1, e2, e3⟩ => ⟨p, a, e1, x _ _ e2, TrAt.ext x e3⟩
theorem TrAt.same {H H' : Hp} {t : Fm} {v : V} (h : TrAt H t v) (s : Same H H') : TrAt H' t v := h.ext (ExtT.of s)
theorem RwAt.extT {H H' : Hp} {v : V} {r : Rw} (h : RwAt H v r) (x : ExtT H H') : RwAt H' v r := by
  obtain ⟨p, e1, e2⟩ := h
  exact ⟨p, e1, x _ _ e2⟩
section
variable {P : Program} {w : World} {K : PySem.W.Frag} {mg : Str → Option Value} {base : Heap}
theorem scLp : FnScope ["_law_row"] ["_law_row"] (defScope sLp) := ⟨rfl, rfl, rfl, by decide +kernel, rfl, by decide +kernel, by decide +kernel⟩
def spLp : Sp := fun vs H Q _ => ∃ (v : V) (r : Rw), vs = [v] ∧ RwAt H v r ∧ ∀ (l : Addr) (H' : Hp), Same H H' → H' l = some (.lst (r.parts.map nV)) → Q (.ref l) H'
theorem ok_lp (A : At K mg "_law_parts" sLp ["_law_row"]) (B : Blt mg) : DefOk P w K mg base CX0 "_law_parts" 1 ["_law_row"] spLp := by
  refine A.ok fun f fd F => F.ok scLp (fun vs H Q E h => ?_) (fun cdv A outer s0 H vs Q E hr h => ?_)
  · obtain ⟨x, r, rfl, _⟩ := h
    rfl
  · obtain ⟨x, r, rfl, ⟨a, rfl, ea⟩, q⟩ := h
    refine ⟨_, pss_cons (ps_if (pt_cmpR op_in_seq (pe_ix ix_tup (pv 0) pe_int (fun _ _ => rfl)) (pe_tup (pa_cons pe_str (pa_cons pe_str pa_nil))) (by rfl)) (pss_one (ps_ret (pe_lst pa_nil))) pss_nil)
      (pss_one (ps_ret (pe_ifExp (pt_cmpR op_in_seq (pe_ix ix_tup (pv 0) pe_int (fun _ _ => rfl)) (pe_tup (pa_cons pe_str (pa_cons pe_str (pa_cons pe_str (pa_cons pe_str pa_nil))))) (by rfl)) (pe_lst (pa_cons (pe_ix ix_tup (pv 0) pe_int (fun _ _ => rfl)) (pa_cons (pe_ix ix_tup (pv 0) pe_int (fun _ _ => rfl)) pa_nil))) (pe_lst (pa_cons (pe_ix ix_tup (pv 0) pe_int (fun _ _ => rfl)) pa_nil))))), ?_⟩
    refine ⟨_, rfl, a, _, 0, _, rfl, rfl, SqT.of ea, atI_nat (j := 0) rfl, by show 2 ≤ sizeLine; decide, fun p np => ?_⟩
    have s1 := same_new (o := HO.tup [V.str "column", V.str "constant"]) np
    have e1 : upd H p (HO.tup [V.str "column", V.str "constant"]) p = some (.tup [V.str "column", V.str "constant"]) := upd_same
    generalize upd H p (HO.tup [V.str "column", V.str "constant"]) = H1 at s1 e1 ⊢
    have ea1 := s1 _ _ ea
    refine ⟨p, _, rfl, .inr (SqT.of e1), rfl, by decide +kernel, _, rfl, ?_⟩
    have fin : ∀ (xs : List V), xs = r.parts.map nV → xs.length ≤ sizeLine ∧ ∀ l, H1 l = none → Q (.ref l) (upd H1 l (.lst xs)) := fun xs hx => by
      have l2 : r.parts.length ≤ 2 := by cases r <;> simp [Rw.parts]
      have sz := sizeLine_eq
      subst hx
      exact ⟨by rw [List.length_map]; omega, fun l nl => q l _ (s1.trans (same_new nl)) upd_same⟩
    have two : ∀ (b : Bool) {X Y : Prop}, (b = true → X) → (b = false → Y) → (if b = true then X else Y) := fun b X Y h1 h2 => by
      cases b
      · exact h2 rfl
      · exact h1 rfl
    have four : ∀ (H2 : Hp) (q4 : Addr), H1 q4 = none → True := fun _ _ _ => trivial
    cases r with
    | col x => exact iteT (fin [] rfl)
    | con u s => exact iteT (fin [] rfl)
    | bin w i j =>
      cases w
      all_goals
        refine iteF ?_
        refine ⟨_, rfl, a, _, 0, _, rfl, rfl, SqT.of ea1, atI_nat (j := 0) rfl, by show 4 ≤ sizeLine; decide, fun p2 n2 => ?_⟩
        have s2 := same_new (o := HO.tup [V.str "sum", V.str "difference", V.str "product", V.str "quotient"]) n2
        have e2 : upd H1 p2 (HO.tup [V.str "sum", V.str "difference", V.str "product", V.str "quotient"]) p2 = some (.tup [V.str "sum", V.str "difference", V.str "product", V.str "quotient"]) := upd_same
        generalize upd H1 p2 (HO.tup [V.str "sum", V.str "difference", V.str "product", V.str "quotient"]) = H2 at s2 e2 ⊢
        have ea2 := s2 _ _ ea1
        refine ⟨p2, _, rfl, .inr (SqT.of e2), rfl, by decide +kernel, _, rfl, iteT ?_⟩
        exact ⟨_, rfl, a, _, 1, _, rfl, rfl, SqT.of ea2, rfl, _, rfl, a, _, 2, _, rfl, rfl, SqT.of ea2, rfl, by show 2 ≤ sizeLine; decide, fun l nl => q l _ (s1.trans (s2.trans (same_new nl))) upd_same⟩
    | _ =>
      refine iteF ?_
      refine ⟨_, rfl, a, _, 0, _, rfl, rfl, SqT.of ea1, atI_nat (j := 0) rfl, by show 4 ≤ sizeLine; decide, fun p2 n2 => ?_⟩
      have s2 := same_new (o := HO.tup [V.str "sum", V.str "difference", V.str "product", V.str "quotient"]) n2
      have e2 : upd H1 p2 (HO.tup [V.str "sum", V.str "difference", V.str "product", V.str "quotient"]) p2 = some (.tup [V.str "sum", V.str "difference", V.str "product", V.str "quotient"]) := upd_same
      generalize upd H1 p2 (HO.tup [V.str "sum", V.str "difference", V.str "product", V.str "quotient"]) = H2 at s2 e2 ⊢
      have ea2 := s2 _ _ ea1
      refine ⟨p2, _, rfl, .inr (SqT.of e2), rfl, by decide +kernel, _, rfl, iteF ?_⟩
      exact ⟨_, rfl, a, _, 1, _, rfl, rfl, SqT.of ea2, rfl, by show 1 ≤ sizeLine; decide, fun l nl => q l _ (s1.trans (s2.trans (same_new nl))) upd_same⟩
theorem scSh : FnScope nSh ["_law_row", "_law_by"] (defScope sSh) := ⟨rfl, rfl, rfl, by decide +kernel, rfl, by decide +kernel, by decide +kernel⟩
def spSh : Sp := fun vs H Q _ => ∃ (v : V) (b : Nat) (r : Rw), vs = [v, nV b] ∧ RwAt H v r ∧ ∀ (u : V) (H' : Hp), Same H H' → RwAt H' u (r.mv fun p => p + b) → Q u H'
theorem ok_sh (A : At K mg "_law_shifted" sSh ["_law_row", "_law_by"]) (B : Blt mg) (DLp : DefOk P w K mg base CX0 "_law_parts" 1 ["_law_row"] spLp) : DefOk P w K mg base CX0 "_law_shifted" 2 ["_law_row", "_law_by"] spSh := by
  refine A.ok fun f fd F => F.ok scSh (fun vs H Q E h => ?_) (fun cdv A outer s0 H vs Q E hr h => ?_)
  · obtain ⟨x, b, r, rfl, _⟩ := h
    rfl
  · obtain ⟨x, b, r, rfl, ⟨a, rfl, ea⟩, q⟩ := h
    have nd := scSh.nd
    have sz := sizeLine_eq
    refine ⟨_, pss_cons (ps_setLc (i := 2) (own := [("_law_part", 3)]) (te := _) rfl nd rfl rfl rfl (pi_list (pe_def DLp hr (by decide) (by rfl) pass0 (pa_cons (pv 0) pa_nil))) blkSh (fun _ _ _ _ _ => (pg_name (i := 3) nd rfl (.inl rfl))) (fun _ _ _ _ _ => pts_nil) (fun _ _ _ _ _ => (pe_op op_add (pv 3) (pv 1))))
      (pss_one (ps_ret (pe_op op_catA (pe_op op_catA (pe_slice sl_tupA (pv 0) po_none (po_some pe_int)) (pe_callTy call_tuple_of (by rfl) B.tuple (by decide +kernel) (pa_cons (pv 2) pa_nil))) (pe_slice sl_tupA (pv 0) (po_some (pe_op op_add pe_int (pe_callB call_len_seq (by rfl) B.len PySem.boot_len (pa_cons (pv 2) pa_nil)))) po_none)))), ?_⟩
    have l2 : r.parts.length ≤ 2 ∧ r.tail.length ≤ 2 := by cases r <;> simp [Rw.parts, Rw.tail]
    have l1 : r.vals.length = 1 + r.parts.length + r.tail.length := by
      show (r.parts.map nV ++ r.tail).length + 1 = _
      rw [List.length_append, List.length_map]
      omega
    refine ⟨_, rfl, .ref a, r, rfl, ⟨a, rfl, ea⟩, fun p H1 s1 ep => ⟨p, rfl, ⟨_, SqL.of ep⟩, fun D nD => ?_⟩⟩
    refine lc_list (xs := r.parts.map nV) (fun i H' => Same H1 H' ∧ H' D = some (.lst (((r.parts.take i).map (fun p => p + b)).map nV))) ⟨same_new nD, upd_same⟩ (fun i H' _ z => SqL.of (z.1 _ _ ep)) ?_ ?_
    · rintro i x H2 hx ⟨s2, hD⟩
      rw [List.getElem?_map] at hx
      obtain ⟨n, hn, rfl⟩ := Option.map_eq_some_iff.mp hx
      have tk : r.parts.take (i + 1) = r.parts.take i ++ [n] := by rw [List.take_succ, hn]; rfl
      dsimp only [gName, List.set]
      refine ⟨rfl, ?_⟩
      unfold tYes
      dsimp only
      rw [if_pos rfl]
      refine ⟨_, rfl, _, rfl, _, _, rfl, rfl, _, hD, by rw [List.length_map, List.length_map, List.length_take]; omega, fun c o z => ?_, ?_⟩
      · rw [upd_ne (ne_of_none z nD)]
        exact s2 _ _ z
      · rw [upd_same, tk, List.map_append, List.map_append]
        rfl
    · rintro H2 ⟨s2, hD⟩
      rw [List.length_map, List.take_length, ← Rw.mv_parts] at hD
      dsimp only [gName, List.set]
      have S2 := s1.trans s2
      generalize hr' : r.mv (fun p => p + b) = r' at hD q
      have hw : r'.word = r.word := by rw [← hr']; exact r.mv_word _
      have ht : r'.tail = r.tail := by rw [← hr']; exact r.mv_tail _
      have hp : r'.parts.length = r.parts.length := by rw [← hr', r.mv_parts, List.length_map]
      refine ⟨_, rfl, 1, rfl, slA_of (S2 _ _ ea) fun p1 H3 s3 e1 => ?_⟩
      rw [show cutV r.vals none (some 1) = [V.str r.word] from cutTo (k := 1) (by omega)] at e1
      refine ⟨_, rfl, D, _, rfl, .inl ⟨SqL.of (s3 _ _ hD), fun p2 n2 => ?_⟩⟩
      have s4 := s3.trans (same_new (o := HO.tup (r'.parts.map nV)) n2)
      have e12 := same_new (o := HO.tup (r'.parts.map nV)) n2 _ _ e1
      have e2 : upd H3 p2 (HO.tup (r'.parts.map nV)) p2 = some (.tup (r'.parts.map nV)) := upd_same
      generalize upd H3 p2 (HO.tup (r'.parts.map nV)) = H4 at s4 e12 e2 ⊢
      refine catA_of e12 e2 (by rw [List.length_map]; show 1 + r'.parts.length ≤ sizeLine; omega) fun p3 H5 s5 e3 => ?_
      have S5 := s4.trans s5
      refine ⟨_, rfl, _, rfl, D, _, rfl, .inl (SqL.of (S5 _ _ hD)), _, _, rfl, rfl, _, rfl, ?_⟩
      dsimp only [tNoPart]
      refine slA_of (S5 _ _ (S2 _ _ ea)) fun p4 H6 s6 e4 => ?_
      rw [show (1 : Int) + ((r'.parts.map nV).length : Nat) = ((1 + r.parts.length : Nat) : Int) by rw [List.length_map, hp]; omega, show cutV r.vals (some ((1 + r.parts.length : Nat) : Int)) none = r.tail from (cutFrom (by omega)).trans (by
        rw [Nat.add_comm]
        show (r.parts.map nV ++ r.tail).drop r.parts.length = _
        rw [List.drop_left' (by rw [List.length_map])])] at e4
      refine catA_of (s6 _ _ e3) e4 (by rw [List.length_append, List.length_map]; show 1 + r'.parts.length + _ ≤ sizeLine; omega) fun p5 H7 s7 e5 => ?_
      refine q _ _ (S2.trans (S5.trans (s6.trans s7))) ⟨p5, rfl, e5.trans ?_⟩
      show some (HO.tup ([V.str r.word] ++ r'.parts.map nV ++ r.tail)) = some (.tup (V.str r'.word :: (r'.parts.map nV ++ r'.tail)))
      rw [hw, ht]
      rfl
theorem blkLd : BlkOk nLd (defScope sLd) (zSc (zArg 1 (zVal (zIn 1 (zAt sLd 1))))) [("_law_row", 4)] := blkOk_by (by decide +kernel)
theorem scLd : FnScope nLd ["_law_tree"] (defScope sLd) := ⟨rfl, rfl, rfl, by decide +kernel, rfl, by decide +kernel, by decide +kernel⟩
/-- the rows of a tree -/
def spLd (N : Nat) : Sp := fun vs H Q _ => ∃ (v : V) (t : Fm), vs = [v] ∧ TrAt H t v ∧ t.size ≤ N ∧ t.size ≤ 900 ∧ ∀ (l : Addr) (rs : List V) (H' : Hp), Same H H' → H' l = some (.lst rs) → RwsAt H' rs (t.lay 0) → Q (.ref l) H'
def spNo : Sp := fun _ _ _ _ => False
theorem ld_step (A : At K mg "_law_laid" sLd ["_law_tree"]) (B : Blt mg) (DSh : DefOk P w K mg base CX0 "_law_shifted" 2 ["_law_row", "_law_by"] spSh) (N k : Nat) (sp : Sp) (hk : 2 ≤ k) (DLd : DefOk P w K mg base CX0 "_law_laid" k ["_law_tree"] sp) (hs : ∀ m, m + 1 ≤ N → ∀ vs H Q E, spLd m vs H Q E → sp vs H Q E) :
    DefOk P w K mg base CX0 "_law_laid" (k + 1) ["_law_tree"] (spLd N) := by
  refine A.ok fun f fd F => F.ok scLd (fun vs H Q E h => ?_) (fun cdv A outer s0 H vs Q E hr h => ?_)
  · obtain ⟨o, T, rfl, _⟩ := h
    rfl
  · obtain ⟨o, t, rfl, hT, hN, hl, q⟩ := h
    have nd := scLd.nd
    have sz := sizeLine_eq
    refine ⟨_, pss_cons (ps_if (pt_cmpR op_in_seq (pe_ix ix_tup (pv 0) pe_int (fun _ _ => rfl)) (pe_tup (pa_cons pe_str (pa_cons pe_str pa_nil))) (by rfl)) (pss_one (ps_ret (pe_lst (pa_cons (pv 0) pa_nil)))) pss_nil)
      (pss_cons (ps_if (pt_cmpR op_in_seq (pe_ix ix_tup (pv 0) pe_int (fun _ _ => rfl)) (pe_tup (pa_cons pe_str (pa_cons pe_str (pa_cons pe_str (pa_cons pe_str pa_nil))))) (by rfl)) (pss_cons (ps_asg (pe_tup (pa_cons (pe_def DLd hr (Nat.le_refl _) (by rfl) pass0 (pa_cons (pe_ix ix_tup (pv 0) pe_int (fun _ _ => rfl)) pa_nil)) (pa_cons (pe_def DLd hr (Nat.le_refl _) (by rfl) pass0 (pa_cons (pe_ix ix_tup (pv 0) pe_int (fun _ _ => rfl)) pa_nil)) pa_nil))) (pg_tup rfl (pgs_cons (pg_name (i := 1) nd rfl (.inr rfl)) (pgs_cons (pg_name (i := 2) nd rfl (.inl rfl)) pgs_nil)))) (pss_cons (ps_set (i := 3) nd rfl (.inl rfl) (pe_op op_cat (pv 1) (pe_lc (own := [("_law_row", 4)]) (te := tCall spSh [] E0 (tCons (tVar 4) (tCons (tCB (fun xs H Q => ∃ p ys, xs = [.ref p] ∧ (SqL K H p ys ∨ SqT K H p ys) ∧ Q (.int ys.length) H) (tCons (tVar 1) tNil)) tNil))) rfl nd (pi_list (pv 2)) blkLd (fun _ _ _ _ _ => (pg_name (i := 4) nd rfl (.inl rfl))) (fun _ _ _ _ _ => pts_nil) (fun _ _ _ _ _ => (pe_def DSh hr (by omega) (by rfl) pass0 (pa_cons (pv 4) (pa_cons (pe_callB call_len_seq (by rfl) B.len PySem.boot_len (pa_cons (pv 1) pa_nil)) pa_nil))))))) (pss_one (ps_ret (pe_op op_cat (pv 3) (pe_lst (pa_cons (pe_tup (pa_cons (pe_ix ix_tup (pv 0) pe_int (fun _ _ => rfl)) (pa_cons (pe_op op_sub (pe_callB call_len_seq (by rfl) B.len PySem.boot_len (pa_cons (pv 1) pa_nil)) pe_int) (pa_cons (pe_op op_sub (pe_callB call_len_seq (by rfl) B.len PySem.boot_len (pa_cons (pv 3) pa_nil)) pe_int) pa_nil)))) pa_nil))))))) pss_nil)
      (pss_cons (ps_set (i := 3) nd rfl (.inl rfl) (pe_def DLd hr (Nat.le_refl _) (by rfl) pass0 (pa_cons (pe_ix ix_tup (pv 0) pe_int (fun _ _ => rfl)) pa_nil)))
      (pss_one (ps_ret (pe_op op_cat (pv 3) (pe_lst (pa_cons (pe_op op_catA (pe_tup (pa_cons (pe_ix ix_tup (pv 0) pe_int (fun _ _ => rfl)) (pa_cons (pe_op op_sub (pe_callB call_len_seq (by rfl) B.len PySem.boot_len (pa_cons (pv 3) pa_nil)) pe_int) pa_nil))) (pe_slice sl_tupA (pv 0) (po_some pe_int) po_none)) pa_nil))))))), ?_⟩
    cases t with
    | col x =>
      obtain ⟨p, rfl, e0⟩ := hT
      refine ⟨_, rfl, p, _, 0, _, rfl, rfl, SqT.of e0, rfl, by show 2 ≤ sizeLine; decide, fun p1 np1 => ?_⟩
      have s1 := same_new (o := HO.tup [V.str "column", V.str "constant"]) np1
      have ep1 : upd H p1 (HO.tup [V.str "column", V.str "constant"]) p1 = some (.tup [V.str "column", V.str "constant"]) := upd_same
      generalize upd H p1 (HO.tup [V.str "column", V.str "constant"]) = H1 at s1 ep1 ⊢
      have e1 := s1 _ _ e0
      refine ⟨p1, _, rfl, .inr (SqT.of ep1), rfl, by decide +kernel, _, rfl, ?_⟩
      exact iteT ⟨_, rfl, by show 1 ≤ sizeLine; decide, fun l nl => q l _ _ (s1.trans (same_new nl)) upd_same (.cons ⟨p, rfl, same_new nl _ _ e1⟩ .nil)⟩
    | con u s =>
      obtain ⟨p, rfl, e0⟩ := hT
      refine ⟨_, rfl, p, _, 0, _, rfl, rfl, SqT.of e0, rfl, by show 2 ≤ sizeLine; decide, fun p1 np1 => ?_⟩
      have s1 := same_new (o := HO.tup [V.str "column", V.str "constant"]) np1
      have ep1 : upd H p1 (HO.tup [V.str "column", V.str "constant"]) p1 = some (.tup [V.str "column", V.str "constant"]) := upd_same
      generalize upd H p1 (HO.tup [V.str "column", V.str "constant"]) = H1 at s1 ep1 ⊢
      have e1 := s1 _ _ e0
      refine ⟨p1, _, rfl, .inr (SqT.of ep1), rfl, by decide +kernel, _, rfl, ?_⟩
      exact iteT ⟨_, rfl, by show 1 ≤ sizeLine; decide, fun l nl => q l _ _ (s1.trans (same_new nl)) upd_same (.cons ⟨p, rfl, same_new nl _ _ e1⟩ .nil)⟩
    | bin wd l r =>
      obtain ⟨p, a, b, rfl, e0, ha, hb⟩ := hT
      have hN : l.size + r.size + 1 ≤ N := hN
      have hl : l.size + r.size + 1 ≤ 900 := hl
      have pl := l.size_pos
      have pr := r.size_pos
      refine ⟨_, rfl, p, _, 0, _, rfl, rfl, SqT.of e0, rfl, by show 2 ≤ sizeLine; decide, fun p1 np1 => ?_⟩
      have s1 := same_new (o := HO.tup [V.str "column", V.str "constant"]) np1
      have ep1 : upd H p1 (HO.tup [V.str "column", V.str "constant"]) p1 = some (.tup [V.str "column", V.str "constant"]) := upd_same
      generalize upd H p1 (HO.tup [V.str "column", V.str "constant"]) = H1 at s1 ep1 ⊢
      have e1 := s1 _ _ e0
      refine ⟨p1, _, rfl, .inr (SqT.of ep1), rfl, by decide +kernel, _, rfl, ?_⟩
      rw [show (if false = true then !inV (V.str wd.txt) [V.str "column", V.str "constant"] else inV (V.str wd.txt) [V.str "column", V.str "constant"]) = false by cases wd <;> rfl]
      refine iteF ?_
      refine ⟨_, rfl, p, _, 0, _, rfl, rfl, SqT.of e1, rfl, by show 4 ≤ sizeLine; decide, fun p2 np2 => ?_⟩
      have s2 := same_new (o := HO.tup [V.str "sum", V.str "difference", V.str "product", V.str "quotient"]) np2
      have ep2 : upd H1 p2 (HO.tup [V.str "sum", V.str "difference", V.str "product", V.str "quotient"]) p2 = some (.tup [V.str "sum", V.str "difference", V.str "product", V.str "quotient"]) := upd_same
      generalize upd H1 p2 (HO.tup [V.str "sum", V.str "difference", V.str "product", V.str "quotient"]) = H2 at s2 ep2 ⊢
      have e2 := s2 _ _ e1
      refine ⟨p2, _, rfl, .inr (SqT.of ep2), rfl, by decide +kernel, _, rfl, ?_⟩
      rw [show (if false = true then !inV (V.str wd.txt) [V.str "sum", V.str "difference", V.str "product", V.str "quotient"] else inV (V.str wd.txt) [V.str "sum", V.str "difference", V.str "product", V.str "quotient"]) = true by cases wd <;> rfl]
      refine iteT ?_
      have S2 := s1.trans s2
      refine ⟨_, rfl, p, _, 1, _, rfl, rfl, SqT.of e2, rfl, hs l.size (by omega) _ _ _ _ ⟨a, l, rfl, ha.same S2, Nat.le_refl _, by omega, fun l1 rs1 H3 s3 hl1 hR1 => ?_⟩⟩
      have e3 := s3 _ _ e2
      refine ⟨_, rfl, p, _, 2, _, rfl, rfl, SqT.of e3, rfl, hs r.size (by omega) _ _ _ _ ⟨b, r, rfl, hb.same (S2.trans s3), Nat.le_refl _, by omega, fun l2 rs2 H4 s4 hl2 hR2 => ?_⟩⟩
      refine ⟨by show 2 ≤ sizeLine; decide, fun T nT => ?_⟩
      have s5 := same_new (o := HO.tup [V.ref l1, V.ref l2]) nT
      have e5 : upd H4 T (HO.tup [V.ref l1, V.ref l2]) T = some (.tup [V.ref l1, V.ref l2]) := upd_same
      generalize upd H4 T (HO.tup [V.ref l1, V.ref l2]) = H5 at s5 e5 ⊢
      refine ⟨T, _, rfl, SqT.of e5, rfl, _, _, rfl, _, _, rfl, rfl, ?_⟩
      dsimp only [gName, List.set]
      have S5 := S2.trans (s3.trans (s4.trans s5))
      have hl15 := s5 _ _ (s4 _ _ hl1)
      have hl25 := s5 _ _ hl2
      have n1 := hR1.len
      have n2 := hR2.len
      rw [l.lay_len] at n1
      rw [r.lay_len] at n2
      refine ⟨_, rfl, _, rfl, l2, rfl, ⟨_, SqL.of hl25⟩, fun D nD => ?_⟩
      refine lc_entL (K := K) (R := RwAt) (S := RwAt) (out := fun x => x.mv fun q => q + l.size) (cnd := fun _ => true) hl25 (RwsAt.same hR2 s5) nD (by rw [r.lay_len]; omega) (fun _ _ _ _ h z => h.same z) (fun _ _ _ _ h z => h.same z) (fun _ _ _ _ _ h z => h.put z) (fun v x H6 Nx No hx s6 hv nx no => ?_) fun H6 ys s6 hD hC => ?_
      · dsimp only [gName, List.set]
        refine ⟨rfl, ?_⟩
        unfold tYes
        dsimp only
        rw [if_pos rfl]
        refine ⟨_, rfl, _, rfl, l1, _, rfl, .inl (SqL.of (s6 _ _ hl15)), v, l.size, x, ?_, hv, fun u H7 s7 hu => nx rfl u H7 s7 hu⟩
        rw [n1]
        rfl
      rw [filt_all, r.lay_mv, Nat.zero_add] at hC
      have n3 := hC.len
      rw [r.lay_len] at n3
      refine ⟨l1, D, _, _, rfl, rfl, s6 _ _ hl15, hD, by omega, fun p7 n7 => ?_⟩
      have s7 := same_new (o := HO.lst (rs1 ++ ys)) n7
      have e7 : upd H6 p7 (HO.lst (rs1 ++ ys)) p7 = some (.lst (rs1 ++ ys)) := upd_same
      generalize upd H6 p7 (HO.lst (rs1 ++ ys)) = H7 at s7 e7 ⊢
      dsimp only [gName, List.set]
      have S7 := S5.trans (s6.trans s7)
      have s67 := s6.trans s7
      have s37 := s3.trans (s4.trans (s5.trans s67))
      refine ⟨_, rfl, _, rfl, p, _, 0, _, rfl, rfl, SqT.of (s37 _ _ e2), rfl, _, rfl, l1, _, rfl, .inl (SqL.of (s67 _ _ hl15)), _, _, rfl, rfl, _, rfl, p7, _, rfl, .inl (SqL.of e7), _, _, rfl, rfl, by show 3 ≤ sizeLine; decide, fun p8 n8 => ?_⟩
      dsimp only
      rw [n1, List.length_append, n1, n3, show ((l.size : Nat) : Int) - 1 = ((l.size - 1 : Nat) : Int) by omega, show ((l.size + r.size : Nat) : Int) - 1 = ((l.size + r.size - 1 : Nat) : Int) by omega]
      have s8 := same_new (o := HO.tup [V.str wd.txt, nV (l.size - 1), nV (l.size + r.size - 1)]) n8
      have e8 : upd H7 p8 (HO.tup [V.str wd.txt, nV (l.size - 1), nV (l.size + r.size - 1)]) p8 = some (.tup [V.str wd.txt, nV (l.size - 1), nV (l.size + r.size - 1)]) := upd_same
      generalize upd H7 p8 (HO.tup [V.str wd.txt, nV (l.size - 1), nV (l.size + r.size - 1)]) = H8 at s8 e8 ⊢
      refine ⟨by show 1 ≤ sizeLine; decide, fun p9 n9 => ?_⟩
      have s9 := same_new (o := HO.lst [V.ref p8]) n9
      have e9 : upd H8 p9 (HO.lst [V.ref p8]) p9 = some (.lst [V.ref p8]) := upd_same
      generalize upd H8 p9 (HO.lst [V.ref p8]) = H9 at s9 e9 ⊢
      refine ⟨p7, p9, _, _, rfl, rfl, s9 _ _ (s8 _ _ e7), e9, by rw [List.length_append]; show _ + 1 ≤ sizeLine; omega, fun pA nA => ?_⟩
      have sA := same_new (o := HO.lst (rs1 ++ ys ++ [V.ref p8])) nA
      have t8A := s8.trans (s9.trans sA)
      refine q pA _ _ (S7.trans t8A) upd_same ?_
      show RwsAt _ _ (l.lay 0 ++ r.lay (0 + l.size) ++ [.bin wd (0 + l.size - 1) (0 + l.size + r.size - 1)])
      rw [Nat.zero_add]
      exact ((RwsAt.same hR1 (s4.trans (s5.trans (s67.trans t8A)))).app (RwsAt.same hC (s7.trans t8A))).app (.cons ⟨p8, rfl, (s9.trans sA) _ _ e8⟩ .nil)
    | neg t =>
      obtain ⟨p, a, rfl, e0, ha⟩ := hT
      have hN : t.size + 1 ≤ N := hN
      have hl : t.size + 1 ≤ 900 := hl
      have pt := t.size_pos
      refine ⟨_, rfl, p, _, 0, _, rfl, rfl, SqT.of e0, rfl, by show 2 ≤ sizeLine; decide, fun p1 np1 => ?_⟩
      have s1 := same_new (o := HO.tup [V.str "column", V.str "constant"]) np1
      have ep1 : upd H p1 (HO.tup [V.str "column", V.str "constant"]) p1 = some (.tup [V.str "column", V.str "constant"]) := upd_same
      generalize upd H p1 (HO.tup [V.str "column", V.str "constant"]) = H1 at s1 ep1 ⊢
      have e1 := s1 _ _ e0
      refine ⟨p1, _, rfl, .inr (SqT.of ep1), rfl, by decide +kernel, _, rfl, ?_⟩
      refine iteF ?_
      refine ⟨_, rfl, p, _, 0, _, rfl, rfl, SqT.of e1, rfl, by show 4 ≤ sizeLine; decide, fun p2 np2 => ?_⟩
      have s2 := same_new (o := HO.tup [V.str "sum", V.str "difference", V.str "product", V.str "quotient"]) np2
      have ep2 : upd H1 p2 (HO.tup [V.str "sum", V.str "difference", V.str "product", V.str "quotient"]) p2 = some (.tup [V.str "sum", V.str "difference", V.str "product", V.str "quotient"]) := upd_same
      generalize upd H1 p2 (HO.tup [V.str "sum", V.str "difference", V.str "product", V.str "quotient"]) = H2 at s2 ep2 ⊢
      have e2 := s2 _ _ e1
      refine ⟨p2, _, rfl, .inr (SqT.of ep2), rfl, by decide +kernel, _, rfl, ?_⟩
      refine iteF ?_
      have S2 := s1.trans s2
      refine ⟨_, rfl, p, _, 1, _, rfl, rfl, SqT.of e2, rfl, hs t.size (by omega) _ _ _ _ ⟨a, t, rfl, ha.same S2, Nat.le_refl _, by omega, fun l1 rs1 H3 s3 hl1 hR1 => ?_⟩⟩
      dsimp only [gName, List.set]
      have n1 := hR1.len
      rw [t.lay_len] at n1
      refine ⟨_, rfl, _, rfl, p, _, 0, _, rfl, rfl, SqT.of (s3 _ _ e2), rfl, _, rfl, l1, _, rfl, .inl (SqL.of hl1), _, _, rfl, rfl, by show 2 ≤ sizeLine; decide, fun p4 n4 => ?_⟩
      dsimp only
      rw [n1, show ((t.size : Nat) : Int) - 1 = ((t.size - 1 : Nat) : Int) by omega]
      have s4 := same_new (o := HO.tup [V.str "negative", nV (t.size - 1)]) n4
      have e4 : upd H3 p4 (HO.tup [V.str "negative", nV (t.size - 1)]) p4 = some (.tup [V.str "negative", nV (t.size - 1)]) := upd_same
      generalize upd H3 p4 (HO.tup [V.str "negative", nV (t.size - 1)]) = H4 at s4 e4 ⊢
      have e24 := s4 _ _ (s3 _ _ e2)
      refine ⟨_, rfl, 2, rfl, ?_⟩
      dsimp only [tNoPart]
      refine slA_of e24 fun p5 H5 s5 e5 => ?_
      rw [show cutV [V.str "negative", a] (some 2) none = [] from cutFrom (k := 2) (by simp)] at e5
      refine catA_of (s5 _ _ e4) e5 (by simp; omega) fun p6 H6 s6 e6 => ?_
      refine ⟨by show 1 ≤ sizeLine; decide, fun p7 n7 => ?_⟩
      have s7 := same_new (o := HO.lst [V.ref p6]) n7
      have e7 : upd H6 p7 (HO.lst [V.ref p6]) p7 = some (.lst [V.ref p6]) := upd_same
      generalize upd H6 p7 (HO.lst [V.ref p6]) = H7 at s7 e7 ⊢
      have s37 := s4.trans (s5.trans (s6.trans s7))
      refine ⟨l1, p7, _, _, rfl, rfl, s37 _ _ hl1, e7, by show _ + 1 ≤ sizeLine; omega, fun p8 n8 => ?_⟩
      have s8 := same_new (o := HO.lst (rs1 ++ [V.ref p6])) n8
      refine q p8 _ _ (S2.trans (s3.trans (s37.trans s8))) upd_same ?_
      show RwsAt _ _ (t.lay 0 ++ [.neg (0 + t.size - 1)])
      rw [Nat.zero_add]
      exact (RwsAt.same hR1 (s37.trans s8)).app (.cons ⟨p6, rfl, (s7.trans s8) _ _ e6⟩ .nil)
    | cst t w s =>
      obtain ⟨p, a, rfl, e0, ha⟩ := hT
      have hN : t.size + 1 ≤ N := hN
      have hl : t.size + 1 ≤ 900 := hl
      have pt := t.size_pos
      refine ⟨_, rfl, p, _, 0, _, rfl, rfl, SqT.of e0, rfl, by show 2 ≤ sizeLine; decide, fun p1 np1 => ?_⟩
      have s1 := same_new (o := HO.tup [V.str "column", V.str "constant"]) np1
      have ep1 : upd H p1 (HO.tup [V.str "column", V.str "constant"]) p1 = some (.tup [V.str "column", V.str "constant"]) := upd_same
      generalize upd H p1 (HO.tup [V.str "column", V.str "constant"]) = H1 at s1 ep1 ⊢
      have e1 := s1 _ _ e0
      refine ⟨p1, _, rfl, .inr (SqT.of ep1), rfl, by decide +kernel, _, rfl, ?_⟩
      refine iteF ?_
      refine ⟨_, rfl, p, _, 0, _, rfl, rfl, SqT.of e1, rfl, by show 4 ≤ sizeLine; decide, fun p2 np2 => ?_⟩
      have s2 := same_new (o := HO.tup [V.str "sum", V.str "difference", V.str "product", V.str "quotient"]) np2
      have ep2 : upd H1 p2 (HO.tup [V.str "sum", V.str "difference", V.str "product", V.str "quotient"]) p2 = some (.tup [V.str "sum", V.str "difference", V.str "product", V.str "quotient"]) := upd_same
      generalize upd H1 p2 (HO.tup [V.str "sum", V.str "difference", V.str "product", V.str "quotient"]) = H2 at s2 ep2 ⊢
      have e2 := s2 _ _ e1
      refine ⟨p2, _, rfl, .inr (SqT.of ep2), rfl, by decide +kernel, _, rfl, ?_⟩
      refine iteF ?_
      have S2 := s1.trans s2
      refine ⟨_, rfl, p, _, 1, _, rfl, rfl, SqT.of e2, rfl, hs t.size (by omega) _ _ _ _ ⟨a, t, rfl, ha.same S2, Nat.le_refl _, by omega, fun l1 rs1 H3 s3 hl1 hR1 => ?_⟩⟩
      dsimp only [gName, List.set]
      have n1 := hR1.len
      rw [t.lay_len] at n1
      refine ⟨_, rfl, _, rfl, p, _, 0, _, rfl, rfl, SqT.of (s3 _ _ e2), rfl, _, rfl, l1, _, rfl, .inl (SqL.of hl1), _, _, rfl, rfl, by show 2 ≤ sizeLine; decide, fun p4 n4 => ?_⟩
      dsimp only
      rw [n1, show ((t.size : Nat) : Int) - 1 = ((t.size - 1 : Nat) : Int) by omega]
      have s4 := same_new (o := HO.tup [V.str "cast", nV (t.size - 1)]) n4
      have e4 : upd H3 p4 (HO.tup [V.str "cast", nV (t.size - 1)]) p4 = some (.tup [V.str "cast", nV (t.size - 1)]) := upd_same
      generalize upd H3 p4 (HO.tup [V.str "cast", nV (t.size - 1)]) = H4 at s4 e4 ⊢
      have e24 := s4 _ _ (s3 _ _ e2)
      refine ⟨_, rfl, 2, rfl, ?_⟩
      dsimp only [tNoPart]
      refine slA_of e24 fun p5 H5 s5 e5 => ?_
      rw [show cutV [V.str "cast", a, nV w, nV s] (some 2) none = [nV w, nV s] from cutFrom (k := 2) (by simp)] at e5
      refine catA_of (s5 _ _ e4) e5 (by simp; omega) fun p6 H6 s6 e6 => ?_
      refine ⟨by show 1 ≤ sizeLine; decide, fun p7 n7 => ?_⟩
      have s7 := same_new (o := HO.lst [V.ref p6]) n7
      have e7 : upd H6 p7 (HO.lst [V.ref p6]) p7 = some (.lst [V.ref p6]) := upd_same
      generalize upd H6 p7 (HO.lst [V.ref p6]) = H7 at s7 e7 ⊢
      have s37 := s4.trans (s5.trans (s6.trans s7))
      refine ⟨l1, p7, _, _, rfl, rfl, s37 _ _ hl1, e7, by show _ + 1 ≤ sizeLine; omega, fun p8 n8 => ?_⟩
      have s8 := same_new (o := HO.lst (rs1 ++ [V.ref p6])) n8
      refine q p8 _ _ (S2.trans (s3.trans (s37.trans s8))) upd_same ?_
      show RwsAt _ _ (t.lay 0 ++ [.cst (0 + t.size - 1) w s])
      rw [Nat.zero_add]
      exact (RwsAt.same hR1 (s37.trans s8)).app (.cons ⟨p6, rfl, (s7.trans s8) _ _ e6⟩ .nil)
    | rnd t s y =>
      obtain ⟨p, a, rfl, e0, ha⟩ := hT
      have hN : t.size + 1 ≤ N := hN
      have hl : t.size + 1 ≤ 900 := hl
      have pt := t.size_pos
      refine ⟨_, rfl, p, _, 0, _, rfl, rfl, SqT.of e0, rfl, by show 2 ≤ sizeLine; decide, fun p1 np1 => ?_⟩
      have s1 := same_new (o := HO.tup [V.str "column", V.str "constant"]) np1
      have ep1 : upd H p1 (HO.tup [V.str "column", V.str "constant"]) p1 = some (.tup [V.str "column", V.str "constant"]) := upd_same
      generalize upd H p1 (HO.tup [V.str "column", V.str "constant"]) = H1 at s1 ep1 ⊢
      have e1 := s1 _ _ e0
      refine ⟨p1, _, rfl, .inr (SqT.of ep1), rfl, by decide +kernel, _, rfl, ?_⟩
      refine iteF ?_
      refine ⟨_, rfl, p, _, 0, _, rfl, rfl, SqT.of e1, rfl, by show 4 ≤ sizeLine; decide, fun p2 np2 => ?_⟩
      have s2 := same_new (o := HO.tup [V.str "sum", V.str "difference", V.str "product", V.str "quotient"]) np2
      have ep2 : upd H1 p2 (HO.tup [V.str "sum", V.str "difference", V.str "product", V.str "quotient"]) p2 = some (.tup [V.str "sum", V.str "difference", V.str "product", V.str "quotient"]) := upd_same
      generalize upd H1 p2 (HO.tup [V.str "sum", V.str "difference", V.str "product", V.str "quotient"]) = H2 at s2 ep2 ⊢
      have e2 := s2 _ _ e1
      refine ⟨p2, _, rfl, .inr (SqT.of ep2), rfl, by decide +kernel, _, rfl, ?_⟩
      refine iteF ?_
      have S2 := s1.trans s2
      refine ⟨_, rfl, p, _, 1, _, rfl, rfl, SqT.of e2, rfl, hs t.size (by omega) _ _ _ _ ⟨a, t, rfl, ha.same S2, Nat.le_refl _, by omega, fun l1 rs1 H3 s3 hl1 hR1 => ?_⟩⟩
      dsimp only [gName, List.set]
      have n1 := hR1.len
      rw [t.lay_len] at n1
      refine ⟨_, rfl, _, rfl, p, _, 0, _, rfl, rfl, SqT.of (s3 _ _ e2), rfl, _, rfl, l1, _, rfl, .inl (SqL.of hl1), _, _, rfl, rfl, by show 2 ≤ sizeLine; decide, fun p4 n4 => ?_⟩
      dsimp only
      rw [n1, show ((t.size : Nat) : Int) - 1 = ((t.size - 1 : Nat) : Int) by omega]
      have s4 := same_new (o := HO.tup [V.str "round", nV (t.size - 1)]) n4
      have e4 : upd H3 p4 (HO.tup [V.str "round", nV (t.size - 1)]) p4 = some (.tup [V.str "round", nV (t.size - 1)]) := upd_same
      generalize upd H3 p4 (HO.tup [V.str "round", nV (t.size - 1)]) = H4 at s4 e4 ⊢
      have e24 := s4 _ _ (s3 _ _ e2)
      refine ⟨_, rfl, 2, rfl, ?_⟩
      dsimp only [tNoPart]
      refine slA_of e24 fun p5 H5 s5 e5 => ?_
      rw [show cutV [V.str "round", a, nV s, .str y] (some 2) none = [nV s, .str y] from cutFrom (k := 2) (by simp)] at e5
      refine catA_of (s5 _ _ e4) e5 (by simp; omega) fun p6 H6 s6 e6 => ?_
      refine ⟨by show 1 ≤ sizeLine; decide, fun p7 n7 => ?_⟩
      have s7 := same_new (o := HO.lst [V.ref p6]) n7
      have e7 : upd H6 p7 (HO.lst [V.ref p6]) p7 = some (.lst [V.ref p6]) := upd_same
      generalize upd H6 p7 (HO.lst [V.ref p6]) = H7 at s7 e7 ⊢
      have s37 := s4.trans (s5.trans (s6.trans s7))
      refine ⟨l1, p7, _, _, rfl, rfl, s37 _ _ hl1, e7, by show _ + 1 ≤ sizeLine; omega, fun p8 n8 => ?_⟩
      have s8 := same_new (o := HO.lst (rs1 ++ [V.ref p6])) n8
      refine q p8 _ _ (S2.trans (s3.trans (s37.trans s8))) upd_same ?_
      show RwsAt _ _ (t.lay 0 ++ [.rnd (0 + t.size - 1) s y])
      rw [Nat.zero_add]
      exact (RwsAt.same hR1 (s37.trans s8)).app (.cons ⟨p6, rfl, (s7.trans s8) _ _ e6⟩ .nil)
theorem ok_ld (A : At K mg "_law_laid" sLd ["_law_tree"]) (B : Blt mg) (DSh : DefOk P w K mg base CX0 "_law_shifted" 2 ["_law_row", "_law_by"] spSh) : ∀ N, DefOk P w K mg base CX0 "_law_laid" (N + 3) ["_law_tree"] (spLd N)
  | 0 => ld_step A B DSh 0 2 spNo (by omega) (A.ok fun f fd F => ⟨fun _ _ _ _ z => z.elim, fun _ _ _ _ _ _ _ _ _ _ _ _ _ z => z.elim⟩) (fun m z => by omega)
  | N + 1 => ld_step A B DSh (N + 1) (N + 3) (spLd N) (by omega) (ok_ld A B DSh N) (fun m z vs H Q E x => by
    obtain ⟨o, t, x1, x2, x3, x4, x5⟩ := x
    exact ⟨o, t, x1, x2, by omega, x4, x5⟩)
end
end K66

/-! k66: formulas: rows with other parts, where a part begins, the first wrong row. -/
namespace K66
open PySem PySem.Spec PyProof.Rows L2 LamX NdefX Own
abbrev pWp : Stmt := topS 35
abbrev pMv : Stmt := topS 36
abbrev pFl : Stmt := topS 37
abbrev pFw : Stmt := topS 38
abbrev nMv : List Str := ["row", "by", "start", "part"]
theorem blkMv : BlkOk nMv (defScope pMv) (zSc (zArg 1 (zVal (zAt pMv 0)))) [("part", 3)] := blkOk_by (by decide +kernel)
section
variable {P : Program} {w : World} {K : PySem.W.Frag} {mg : Str → Option Value} {base : Heap} {C CB CN F aP aF aW : Addr}
theorem scWp : FnScope ["row", "parts"] ["row", "parts"] (defScope pWp) := ⟨rfl, rfl, rfl, by decide +kernel, rfl, by decide +kernel, by decide +kernel⟩
/-- a row with other parts -/
def spWp : Sp := fun vs H Q _ => ∃ (v : V) (l : Addr) (r r' : Rw), vs = [v, .ref l] ∧ RwAt H v r ∧ H l = some (.lst (r'.parts.map nV)) ∧ r'.word = r.word ∧ r'.tail = r.tail ∧ r'.parts.length = r.parts.length ∧ ∀ (u : V) (H' : Hp), Same H H' → RwAt H' u r' → Q u H'
theorem ok_wp (A : At K mg "with_parts" pWp ["row", "parts"]) (B : Blt mg) : DefOk P w K mg base CX0 "with_parts" 1 ["row", "parts"] spWp := by
  refine A.ok fun f fd F => F.ok scWp (fun vs H Q E h => ?_) (fun cdv A outer s0 H vs Q E hr h => ?_)
  · obtain ⟨x, l, r, r', rfl, _⟩ := h
    rfl
  · obtain ⟨x, l, r, r', rfl, ⟨a, rfl, ea⟩, hl, hw, ht, hp, q⟩ := h
    have nd := scWp.nd
    have sz := sizeLine_eq
    refine ⟨_, pss_one (ps_ret (pe_op op_catA (pe_op op_catA (pe_slice sl_tupA (pv 0) po_none (po_some pe_int)) (pe_callTy call_tuple_of (by rfl) B.tuple (by decide +kernel) (pa_cons (pv 1) pa_nil))) (pe_slice sl_tupA (pv 0) (po_some (pe_op op_add pe_int (pe_callB call_len_seq (by rfl) B.len PySem.boot_len (pa_cons (pv 1) pa_nil)))) po_none))), ?_⟩
    have l1 : r.vals.length = 1 + r.parts.length + r.tail.length := by
      show (r.parts.map nV ++ r.tail).length + 1 = _
      rw [List.length_append, List.length_map]
      omega
    have l2 : r.parts.length ≤ 2 ∧ r.tail.length ≤ 2 := by cases r <;> simp [Rw.parts, Rw.tail]
    refine ⟨_, rfl, 1, rfl, slA_of ea fun p1 H1 s1 e1 => ?_⟩
    rw [show cutV r.vals none (some 1) = [V.str r.word] from cutTo (k := 1) (by omega)] at e1
    refine ⟨_, rfl, l, _, rfl, .inl ⟨SqL.of (s1 _ _ hl), fun p2 n2 => ?_⟩⟩
    have s2 := s1.trans (same_new (o := HO.tup (r'.parts.map nV)) n2)
    have e12 := same_new (o := HO.tup (r'.parts.map nV)) n2 _ _ e1
    have e2 : upd H1 p2 (HO.tup (r'.parts.map nV)) p2 = some (.tup (r'.parts.map nV)) := upd_same
    generalize upd H1 p2 (HO.tup (r'.parts.map nV)) = H2 at s2 e12 e2 ⊢
    refine catA_of e12 e2 (by rw [List.length_map]; show 1 + r'.parts.length ≤ sizeLine; omega) fun p3 H3 s3 e3 => ?_
    refine ⟨_, rfl, _, rfl, l, _, rfl, .inl (SqL.of (s3 _ _ (s2 _ _ hl))), _, _, rfl, rfl, _, rfl, ?_⟩
    dsimp only [tNoPart]
    refine slA_of (s3 _ _ (s2 _ _ ea)) fun p4 H4 s4 e4 => ?_
    rw [show (1 : Int) + ((r'.parts.map nV).length : Nat) = ((1 + r.parts.length : Nat) : Int) by rw [List.length_map, hp]; omega, show cutV r.vals (some ((1 + r.parts.length : Nat) : Int)) none = r.tail from (cutFrom (by omega)).trans (by
      rw [Nat.add_comm]
      show (r.parts.map nV ++ r.tail).drop r.parts.length = _
      rw [List.drop_left' (by rw [List.length_map])])] at e4
    refine catA_of (s4 _ _ e3) e4 (by rw [List.length_append, List.length_map]; show 1 + r'.parts.length + _ ≤ sizeLine; omega) fun p5 H5 s5 e5 => ?_
    refine q _ _ (s2.trans (s3.trans (s4.trans s5))) ⟨p5, rfl, e5.trans ?_⟩
    show some (HO.tup ([V.str r.word] ++ r'.parts.map nV ++ r.tail)) = some (.tup (V.str r'.word :: (r'.parts.map nV ++ r'.tail)))
    rw [hw, ht]
    rfl
theorem scMv : FnScope nMv ["row", "by", "start"] (defScope pMv) := ⟨rfl, rfl, rfl, by decide +kernel, rfl, by decide +kernel, by decide +kernel⟩
/-- a row whose parts have moved -/
def spMv : Sp := fun vs H Q _ => ∃ (v : V) (b s : Int) (r : Rw) (g : Nat → Nat), vs = [v, .int b, .int s] ∧ RwAt H v r ∧ (∀ p ∈ r.parts, (if s ≤ (p : Int) then (p : Int) + b else (p : Int)) = (g p : Nat)) ∧ ∀ (u : V) (H' : Hp), Same H H' → RwAt H' u (r.mv g) → Q u H'
theorem ok_mv (A : AtD K mg "_moved" pMv ["row", "by", "start"] [.int 0]) (DPo : DefOk P w K mg base CX0 "parts_of" 1 ["row"] spPo) (DWp : DefOk P w K mg base CX0 "with_parts" 1 ["row", "parts"] spWp) : DefOkD P w K mg base CX0 "_moved" 2 ["row", "by", "start"] spMv [.int 0] := by
  refine A.ok fun f fd F => F.ok scMv (fun vs H Q E h => ?_) (fun cdv A outer s0 H vs Q E hr h => ?_)
  · obtain ⟨x, b, s, r, g, rfl, _⟩ := h
    rfl
  · obtain ⟨x, b, s, r, g, rfl, ⟨a, rfl, ea⟩, hg, q⟩ := h
    have nd := scMv.nd
    have sz := sizeLine_eq
    refine ⟨_, pss_one (ps_ret (pe_def DWp hr (by decide) (by rfl) pass0 (pa_cons (pv 0) (pa_cons (pe_lc (own := [("part", 3)]) (te := _) rfl nd (pi_tup (pe_def DPo hr (by decide) (by rfl) pass0 (pa_cons (pv 0) pa_nil))) blkMv (fun _ _ _ _ _ => (pg_name (i := 3) nd rfl (.inl rfl))) (fun _ _ _ _ _ => pts_nil) (fun _ _ _ _ _ => (pe_ifExp (pt_cmpR op_ge (pv 3) (pv 2) (nomark _)) (pe_op op_add (pv 3) (pv 1)) (pv 3)))) pa_nil)))), ?_⟩
    refine ⟨_, rfl, _, rfl, .ref a, r, rfl, ⟨a, rfl, ea⟩, fun p np => ⟨p, rfl, ⟨_, SqT.of upd_same⟩, fun D nD => ?_⟩⟩
    have s1 := same_new (o := HO.tup (r.parts.map nV)) np
    have ep : upd H p (HO.tup (r.parts.map nV)) p = some (.tup (r.parts.map nV)) := upd_same
    generalize upd H p (HO.tup (r.parts.map nV)) = H1 at s1 ep nD ⊢
    have l2 : r.parts.length ≤ 2 := by cases r <;> simp [Rw.parts]
    refine lc_tup (xs := r.parts.map nV) (fun i H' => Same H1 H' ∧ H' D = some (.lst (((r.parts.take i).map g).map nV))) ⟨same_new nD, upd_same⟩ (fun i H' _ z => SqT.of (z.1 _ _ ep)) ?_ ?_
    · rintro i x H2 hx ⟨s2, hD⟩
      rw [List.getElem?_map] at hx
      obtain ⟨n, hn, rfl⟩ := Option.map_eq_some_iff.mp hx
      have tk : r.parts.take (i + 1) = r.parts.take i ++ [n] := by rw [List.take_succ, hn]; rfl
      have hgn := hg n (List.mem_of_getElem? hn)
      have fin : ∀ v : Int, v = (g n : Nat) → ∃ acc, H2 D = some (.lst acc) ∧ acc.length < sizeLine ∧ Same H1 (upd H2 D (.lst (acc ++ [V.int v]))) ∧ upd H2 D (.lst (acc ++ [V.int v])) D = some (.lst (((r.parts.take (i + 1)).map g).map nV)) := fun v hv => by
        refine ⟨_, hD, by rw [List.length_map, List.length_map, List.length_take]; omega, fun c o z => ?_, ?_⟩
        · rw [upd_ne (ne_of_none z nD)]
          exact s2 _ _ z
        · rw [upd_same, tk, List.map_append, List.map_append, hv]
          rfl
      dsimp only [gName, List.set]
      refine ⟨rfl, ?_⟩
      unfold tYes
      dsimp only
      rw [if_pos rfl]
      refine ⟨_, rfl, _, rfl, _, _, rfl, rfl, _, rfl, ite2 (fun z => ?_) (fun z => ?_)⟩
      · rw [if_pos (of_decide_eq_true z)] at hgn
        exact ⟨_, rfl, _, rfl, _, _, rfl, rfl, fin _ hgn⟩
      · rw [if_neg (of_decide_eq_false (eq_false_of_ne_true z))] at hgn
        exact ⟨_, rfl, fin _ hgn⟩
    · rintro H2 ⟨s2, hD⟩
      rw [List.length_map, List.take_length] at hD
      refine ⟨.ref a, D, r, r.mv g, rfl, ⟨a, rfl, s2 _ _ (s1 _ _ ea)⟩, by rw [r.mv_parts]; exact hD, r.mv_word g, r.mv_tail g, by rw [r.mv_parts, List.length_map], fun u H3 s3 hu => q u H3 (s1.trans (s2.trans s3)) hu⟩
theorem scFl : FnScope ["rows", "step"] ["rows", "step"] (defScope pFl) := ⟨rfl, rfl, rfl, by decide +kernel, rfl, by decide +kernel, by decide +kernel⟩
/-- where the rows of a part begin -/
def spFl : Sp := fun vs H Q _ => ∃ (p : Addr) (vs0 : List V) (rs : List Rw) (f : Nat) (s : Fm), vs = [.ref p, nV (f + s.size - 1)] ∧ H p = some (.tup vs0) ∧ RwsAt H vs0 rs ∧ SubAt rs f s ∧ Q (nV f) H
theorem ok_fl (A : At K mg "_first_leading_to" pFl ["rows", "step"]) (TP : PtC K w mg aP aF aW) : DefOk P w K mg base CX0 "_first_leading_to" 1 ["rows", "step"] spFl := by
  refine A.ok fun f fd F => F.ok scFl (fun vs H Q E h => ?_) (fun cdv A outer s0 H vs Q E hr h => ?_)
  · obtain ⟨p, vs0, rs, f, s, rfl, _⟩ := h
    rfl
  · obtain ⟨p, vs0, rs, f, s, rfl, hp, hE, hs, q⟩ := h
    have nd := scFl.nd
    refine ⟨_, pss_cons (ps_while PassesOwn.never (pt_cmpR op_gt (pe_ix ix_kdict (pe_glob (v := .ref aP) (by rfl) TP.gP rfl) (pe_ix ix_tup (pe_ix ix_tup (pv 0) (pv 1) (fun _ _ => rfl)) pe_int (fun _ _ => rfl)) (fun _ _ => rfl)) pe_int (nomark _)) (pss_one (ps_set (i := 1) nd rfl (.inl rfl) (pe_ix ix_tup (pe_ix ix_tup (pv 0) (pv 1) (fun _ _ => rfl)) pe_int (fun _ _ => rfl)))))
      (pss_one (ps_ret (pv 1))), ?_⟩
    refine ⟨fun m σ H' => H' = H ∧ ∃ u : Fm, σ = [some (.ref p), some (nV (f + u.size - 1))] ∧ SubAt rs f u ∧ m = u.size, ⟨_, rfl, s, rfl, hs, rfl⟩, ?_⟩
    rintro m σ H' ⟨rfl, u, rfl, hu, rfl⟩
    obtain ⟨v, hv, a, rfl, ea⟩ := ents_get hE hu.root
    refine ⟨_, rfl, _, rfl, p, _, _, _, rfl, rfl, SqT.of hp, atI_nat hv, a, _, 0, _, rfl, rfl, SqT.of ea, atI_nat (j := 0) rfl, aP, _, _, rfl, rfl, TP.part _, _, _, rfl, rfl, _, rfl, ?_⟩
    cases hc : u.head with
    | none =>
      obtain ⟨c1, c2⟩ := Fm.head_none hc
      rw [c2]
      dsimp only [List.length_nil]
      refine ⟨_, rfl, ?_⟩
      rw [c1]
      exact q
    | some c =>
      obtain ⟨c1, _, ps, c3⟩ := Fm.head_some hc f
      rw [c3, if_pos (decide_eq_true (by rw [List.length_cons]; omega))]
      refine ⟨_, fun _ _ z => z, ?_⟩
      refine ⟨_, rfl, _, rfl, p, _, _, _, rfl, rfl, SqT.of hp, atI_nat hv, a, _, 1, _, rfl, rfl, SqT.of ea, atI_nat (j := 1) (v := nV (f + c.size - 1)) ?_, ?_⟩
      · show (V.str _ :: ((u.root f).parts.map nV ++ (u.root f).tail))[1]? = _
        rw [c3]
        rfl
      · dsimp only [gName, List.set]
        exact ⟨c.size, c1, rfl, c, rfl, hu.head hc, rfl⟩
theorem scFw : FnScope ["rows", "waiting", "number", "row", "parts", "first"] ["rows"] (defScope pFw) := ⟨rfl, rfl, rfl, by decide +kernel, rfl, by decide +kernel, by decide +kernel⟩
/-- rows that end as one formula -/
def spFw : Sp := fun vs H Q _ => ∃ (p : Addr) (vs0 : List V) (rs : List Rw) (x : Nat), vs = [.ref p] ∧ (H p = some (.lst vs0) ∨ H p = some (.tup vs0)) ∧ RwsAt H vs0 rs ∧ (∀ r ∈ rs, r.ok) ∧ readW [] 0 rs = some [x] ∧ rs.length ≤ 1000 ∧ ∀ H', Same H H' → Q .non H'
/-- what stands ahead of the i-th row -/
def FwI (H : Hp) (p : Addr) (rs : List Rw) (x i : Nat) (σ : L2.St) (H' : Hp) : Prop := ∃ (wl : Addr) (W : List Nat) (y2 y3 y4 y5 : Option V), σ = [some (.ref p), some (.ref wl), y2, y3, y4, y5] ∧ Same H H' ∧ H' wl = some (.lst (W.map nV)) ∧ readW W i (rs.drop i) = some [x] ∧ W.length ≤ i
theorem ok_fw (A : At K mg "_first_wrong_step" pFw ["rows"]) (B : Blt mg) (mE : mg "enumerate" = none) (DRw : DefOk P w K mg base CX0 "_is_row" 4 ["row"] spRw) (DPo : DefOk P w K mg base CX0 "parts_of" 1 ["row"] spPo) : DefOk P w K mg base CX0 "_first_wrong_step" 5 ["rows"] spFw := by
  refine A.ok fun f fd F => F.ok scFw (fun vs H Q E h => ?_) (fun cdv A outer s0 H vs Q E hr h => ?_)
  · obtain ⟨p, vs0, rs, x, rfl, _⟩ := h
    rfl
  · obtain ⟨p, vs0, rs, x, rfl, hp, hE, hok, hx, hlen, q⟩ := h
    have nd := scFw.nd
    have sz := sizeLine_eq
    refine ⟨_, pss_cons (ps_set (i := 1) nd rfl (.inl rfl) (pe_lst pa_nil))
      (pss_cons (ps_for PassesOwn.never rfl (pi_enumA (by rfl) mE (pa_cons (pv 0) pa_nil)) (pg_tup rfl (pgs_cons (pg_name (i := 2) nd rfl (.inl rfl)) (pgs_cons (pg_name (i := 3) nd rfl (.inl rfl)) pgs_nil))) (pss_cons (ps_if (pt_not (pt_val (pe_def DRw hr (by decide) (by rfl) pass0 (pa_cons (pv 3) pa_nil)))) (pss_one (ps_ret (pv 2))) pss_nil) (pss_cons (ps_set (i := 4) nd rfl (.inl rfl) (pe_def DPo hr (by decide) (by rfl) pass0 (pa_cons (pv 3) pa_nil))) (pss_cons (ps_set (i := 5) nd rfl (.inl rfl) (pe_callB (call_max2 rfl) (by rfl) B.max (by decide +kernel) (pa_cons (pe_op op_sub (pe_callB call_len_seq (by rfl) B.len PySem.boot_len (pa_cons (pv 1) pa_nil)) (pe_callB call_len_seq (by rfl) B.len PySem.boot_len (pa_cons (pv 4) pa_nil))) (pa_cons pe_int pa_nil)))) (pss_cons (ps_if (pt_cmpR (op_neD hr.units) (pv 4) (pe_callTy call_tuple_of (by rfl) B.tuple (by decide +kernel) (pa_cons (pe_slice sl_list (pv 1) (po_some (pv 5)) po_none) pa_nil)) (nomark _)) (pss_one (ps_ret (pv 2))) pss_nil) (pss_one (ps_set (i := 1) nd rfl (.inl rfl) (pe_op op_cat (pe_slice sl_list (pv 1) po_none (po_some (pv 5))) (pe_lst (pa_cons (pv 2) pa_nil))))))))))
      (pss_one (ps_ret (pe_ifExp (pt_cmpR op_eq (pe_callB call_len_seq (by rfl) B.len PySem.boot_len (pa_cons (pv 1) pa_nil)) pe_int (nomark _)) pe_non (pe_callB call_len_seq (by rfl) B.len PySem.boot_len (pa_cons (pv 0) pa_nil)))))), ?_⟩
    refine ⟨by show 0 ≤ sizeLine; decide, fun wl nwl => ?_⟩
    have sw := same_new (o := HO.lst []) nwl
    have ew : upd H wl (HO.lst []) wl = some (.lst []) := upd_same
    generalize upd H wl (HO.lst []) = H1 at sw ew ⊢
    dsimp only [gName, List.set]
    have l0 := hE.len
    have hp1 : H1 p = some (.lst vs0) ∨ H1 p = some (.tup vs0) := hp.imp (sw _ _) (sw _ _)
    refine for_enumA (i := 0) (fun i σ H' => FwI H p rs x i σ H' ∧ Same H1 H') hp1 rfl ⟨⟨wl, [], _, _, _, _, rfl, sw, ew, hx, Nat.le_refl _⟩, Same.refl _⟩ (fun i σ H' z => z.2) ?_ ?_
    · rintro i y σ H2 T e2 ⟨⟨wl2, W, y2, y3, y4, y5, rfl, sH, hl, hr2, wi⟩, s12⟩ nT
      obtain ⟨r, hr0, hrow⟩ := hE.get e2
      have hd : rs.drop i = r :: rs.drop (i + 1) := by
        have li := (List.getElem?_eq_some_iff.mp hr0).1
        rw [List.drop_eq_getElem_cons li]
        rw [List.getElem?_eq_getElem li] at hr0
        rw [Option.some.inj hr0]
      rw [hd] at hr2
      obtain ⟨W', hW', hrest⟩ : ∃ W', stepW W i r = some W' ∧ readW W' (i + 1) (rs.drop (i + 1)) = some [x] := by
        have z : (stepW W i r).bind (fun W' => readW W' (i + 1) (rs.drop (i + 1))) = some [x] := hr2
        cases q1 : stepW W i r with
        | none => rw [q1] at z; cases z
        | some W' => rw [q1] at z; exact ⟨W', rfl, z⟩
      unfold stepW at hW'
      have hparts : r.parts = W.drop (W.length - r.parts.length) := by
        by_cases z : r.parts = W.drop (W.length - r.parts.length)
        · exact z
        · rw [if_neg z] at hW'
          cases hW'
      rw [if_pos hparts] at hW'
      obtain rfl := Option.some.inj hW'
      have il : i < rs.length := (List.getElem?_eq_some_iff.mp hr0).1
      refine ⟨T, _, rfl, SqT.of upd_same, rfl, _, _, rfl, _, _, rfl, rfl, ?_⟩
      dsimp only [gName, List.set]
      have s3 := same_new (o := HO.tup [.int (i : Nat), y]) nT
      generalize upd H2 T (.tup [.int (i : Nat), y]) = H3 at s3 ⊢
      have S3 := sH.trans s3
      refine ⟨_, rfl, y, r, rfl, hrow.same S3, hok r (List.mem_of_getElem? hr0), fun H4 s4 => ⟨_, rfl, iteF ?_⟩⟩
      have S4 := S3.trans s4
      refine ⟨_, rfl, y, r, rfl, hrow.same S4, fun pp npp => ?_⟩
      dsimp only [gName, List.set]
      have s5 := same_new (o := HO.tup (r.parts.map nV)) npp
      have ep : upd H4 pp (HO.tup (r.parts.map nV)) pp = some (.tup (r.parts.map nV)) := upd_same
      generalize upd H4 pp (HO.tup (r.parts.map nV)) = H5 at s5 ep ⊢
      have hl5 := s5 _ _ (s4 _ _ (s3 _ _ hl))
      refine ⟨_, rfl, wl2, _, rfl, .inl (SqL.of hl5), _, rfl, pp, _, rfl, .inr (SqT.of ep), _, _, rfl, rfl, _, _, rfl, ?_⟩
      dsimp only [gName, List.set]
      rw [List.length_map, List.length_map]
      rw [show (if ((W.length : Nat) : Int) - (r.parts.length : Nat) < 0 then (0 : Int) else ((W.length : Nat) : Int) - (r.parts.length : Nat)) = ((W.length - r.parts.length : Nat) : Int) by split <;> omega]
      refine ⟨_, rfl, _, rfl, _, rfl, _, rfl, ?_⟩
      dsimp only [tNoPart]
      refine ⟨wl2, _, rfl, SqL.of hl5, fun q1 n1 => ?_⟩
      rw [cutFrom (by rw [List.length_map]; omega), ← List.map_drop, ← hparts]
      have s6 := same_new (o := HO.lst (r.parts.map nV)) n1
      have e6 : upd H5 q1 (HO.lst (r.parts.map nV)) q1 = some (.lst (r.parts.map nV)) := upd_same
      generalize upd H5 q1 (HO.lst (r.parts.map nV)) = H6 at s6 e6 ⊢
      refine ⟨q1, _, rfl, .inl ⟨SqL.of e6, fun q2 n2 => ?_⟩⟩
      have s7 := same_new (o := HO.tup (r.parts.map nV)) n2
      have e7 : upd H6 q2 (HO.tup (r.parts.map nV)) q2 = some (.tup (r.parts.map nV)) := upd_same
      generalize upd H6 q2 (HO.tup (r.parts.map nV)) = H7 at s7 e7 ⊢
      refine ⟨.tuple (r.parts.map natD), .tuple (r.parts.map natD), .tup (SqT.of (s7 _ _ (s6 _ _ ep))) (dp_nats _), .tup (SqT.of e7) (dp_nats _), nats_shaped _, nats_shaped _, ?_⟩
      rw [nats_same]
      refine ⟨_, rfl, iteF ?_⟩
      have hl7 := s7 _ _ (s6 _ _ hl5)
      refine ⟨_, rfl, _, rfl, _, rfl, wl2, _, rfl, SqL.of hl7, fun q3 n3 => ?_⟩
      rw [cutTo (by rw [List.length_map]; omega), ← List.map_take]
      have s8 := same_new (o := HO.lst ((W.take (W.length - r.parts.length)).map nV)) n3
      have e8 : upd H7 q3 (HO.lst ((W.take (W.length - r.parts.length)).map nV)) q3 = some (.lst ((W.take (W.length - r.parts.length)).map nV)) := upd_same
      generalize upd H7 q3 (HO.lst ((W.take (W.length - r.parts.length)).map nV)) = H8 at s8 e8 ⊢
      refine ⟨_, rfl, by show 1 ≤ sizeLine; decide, fun q4 n4 => ?_⟩
      have s9 := same_new (o := HO.lst [.int (i : Nat)]) n4
      have e9 : upd H8 q4 (HO.lst [.int (i : Nat)]) q4 = some (.lst [.int (i : Nat)]) := upd_same
      have e89 := s9 _ _ e8
      generalize upd H8 q4 (HO.lst [.int (i : Nat)]) = H9 at s9 e9 e89 ⊢
      refine ⟨q3, q4, _, _, rfl, rfl, e89, e9, by rw [List.length_map, List.length_take]; show _ + 1 ≤ sizeLine; omega, fun q5 n5 => ?_⟩
      dsimp only [gName, List.set]
      have sA := same_new (o := HO.lst ((W.take (W.length - r.parts.length)).map nV ++ [.int (i : Nat)])) n5
      have sB := s3.trans (s4.trans (s5.trans (s6.trans (s7.trans (s8.trans (s9.trans sA))))))
      refine ⟨⟨q5, W.take (W.length - r.parts.length) ++ [i], _, _, _, _, rfl, sH.trans sB, by rw [List.map_append]; exact upd_same, hrest, ?_⟩, s12.trans sB⟩
      rw [List.length_append, List.length_take]
      show _ + 1 ≤ i + 1
      omega
    · rintro σ H2 ⟨⟨wl2, W, y2, y3, y4, y5, rfl, sH, hl, hr2, wi⟩, s12⟩
      rw [l0, List.drop_length] at hr2
      obtain rfl : W = [x] := Option.some.inj hr2
      exact ⟨_, rfl, wl2, _, rfl, .inl (SqL.of hl), rfl, _, rfl, iteT (q _ sH)⟩
end
end K66

/-! k66: a Formula made; size, need_step, need_formula. -/
namespace K66
open PySem PySem.Spec PyProof.Rows L2 LamX NdefX Own
abbrev fmI (j : Nat) : Stmt := inClass (topS 27) j
abbrev pNl : Stmt := topS 15
abbrev pNs : Stmt := topS 30
abbrev pNf : Stmt := topS 29
structure WIs (K : PySem.W.Frag) (W : Addr) : Prop where
  ha : PySem.W.findIn K (.ref W) "__class__" = some (some (.builtin "object.__class__"))
  hn : PySem.W.specialIn K (.builtin "object.__class__") "__get__" = some (some (.builtin "getset_descriptor.__get__"))
  ht : PySem.W.takesIn K (.builtin "object.__class__") = some true
  hm : PySem.W.mroIn K W (.type "object") = some true
  no : ∀ T ∈ tys, PySem.W.kitOne K (.type T) (.ref W) = some false
structure WMeth (P : Program) (w : World) (K : PySem.W.Frag) (mg : Str → Option Value) (base : Heap) (W : Addr) (m : Str) (k : Nat) (ps : List Str) (sp : Sp) : Prop where
  ex : ∃ (f : Addr) (fd : FuncData), Meth K W m f ∧ FnOk P w K mg base (L2.CX P w) k f fd ps sp ∧ Binds K fd ps []
structure WOp (P : Program) (w : World) (K : PySem.W.Frag) (mg : Str → Option Value) (base : Heap) (W : Addr) (op : Operator) (k : Nat) (sp : Sp) : Prop where
  ex : ∃ (f : Addr) (fd : FuncData), PySem.W.selfFirst K W = true ∧ PySem.W.findIn K (.ref W) (PySem.dunder op.info.2) = some (some (.ref f)) ∧ PySem.W.isFn K (.ref f) = true ∧ FnOk P w K mg base (L2.CX P w) k f fd ["self", "other"] sp ∧ Binds K fd ["self", "other"] []
/-- the class as the top has left it -/
structure FrmC (K : PySem.W.Frag) (mg : Str → Option Value) (F : Addr) : Prop where
  g : mg "Formula" = some (.ref F)
  cls : Cls K F
  nr : NoAttr K F "rows"
/-- at a stands the Formula t -/
def FAt (F : Addr) (H : Hp) (a : Addr) (t : Fm) : Prop := ∃ (dx pr : Addr) (rs : List V), H a = some (.ins F dx [("rows", .ref pr)]) ∧ H pr = some (.tup rs) ∧ RwsAt H rs (t.lay 0)
theorem FAt.same {F a : Addr} {H H' : Hp} {t : Fm} (h : FAt F H a t) (s : Same H H') : FAt F H' a t := by
  obtain ⟨dx, pr, rs, e1, e2, e3⟩ := h
  exact ⟨dx, pr, rs, s _ _ e1, s _ _ e2, e3.same s⟩
theorem lk_rows {p : Addr} : ([("rows", V.ref p)] : List (Str × V)).lookup (Str.ofString "rows") = some (V.ref p) := rfl
section
variable {P : Program} {w : World} {K : PySem.W.Frag} {mg : Str → Option Value} {base : Heap} {C CS CN F aP aF aW : Addr}
theorem kit_seq {x : String} (h : x = "list" ∨ x = "tuple") : PySem.W.kitAny K (.type x) [.type "list", .type "tuple"] = some true := by
  rcases h with rfl | rfl
  · exact kitAny_cons (b := true) (kit_ty (show kitB "list" "list" = some true by decide +kernel)) (fun z => nomatch z) (fun _ => rfl)
  · exact kitAny_cons (b := false) (kit_ty (show kitB "tuple" "list" = some false by decide +kernel)) (fun _ => kitAny_cons (b := true) (kit_ty (show kitB "tuple" "tuple" = some true by decide +kernel)) (fun z => nomatch z) (fun _ => rfl)) (fun z => nomatch z)
theorem scNl : FnScope ["value"] ["value"] (defScope pNl) := ⟨rfl, rfl, rfl, by decide +kernel, rfl, by decide +kernel, by decide +kernel⟩
def spNl : Sp := fun vs H Q _ => ∃ (p : Addr) (xs : List V), vs = [.ref p] ∧ (H p = some (.lst xs) ∨ H p = some (.tup xs)) ∧ ∀ H', Same H H' → Q .non H'
theorem ok_nl (A : At K mg "need_list" pNl ["value"]) (B : Blt mg) (TE : ErrC P w K mg base "BadValue" "value" 1 C (spErr C "value")) : DefOk P w K mg base (L2.CX P w) "need_list" 3 ["value"] spNl := by
  refine A.ok fun f fd F => F.okX scNl (fun vs H Q E h => ?_) (fun cdv A outer s0 H vs Q E hr h => ?_)
  · obtain ⟨p, xs, rfl, _⟩ := h
    rfl
  · obtain ⟨p, xs, rfl, hp, q⟩ := h
    have nd := scNl.nd
    refine ⟨_, pss_one (ps_if (pt_not (pt_val (pe_callB call_isiT (by rfl) B.isi (by decide +kernel) (pa_cons (pv 0) (pa_cons (pe_tup (pa_cons (pe_bltn (v := .ty "list") (by rfl) B.list (by decide +kernel) rfl) (pa_cons (pe_bltn (v := .ty "tuple") (by rfl) B.tuple (by decide +kernel) rfl) pa_nil))) pa_nil))))) (pss_one (ps_raise rfl (takes_of rfl rfl rfl rfl) (pmk_err TE hr (by decide) (by rfl) (pv 0)))) pss_nil), ?_⟩
    refine ⟨_, rfl, by show 2 ≤ sizeLine; decide, fun u nu => ?_⟩
    have s1 := same_new (o := HO.tup [.ty "list", .ty "tuple"]) nu
    rcases hp with hp | hp
    · exact ⟨.ref p, u, [.ty "list", .ty "tuple"], .type "list", [.type "list", .type "tuple"], true, rfl, upd_same, .cons (.ty _) (.cons (.ty _) .nil), .base (.lst (s1 _ _ hp)), kit_seq (.inl rfl), _, rfl, iteF (q _ s1)⟩
    · exact ⟨.ref p, u, [.ty "list", .ty "tuple"], .type "tuple", [.type "list", .type "tuple"], true, rfl, upd_same, .cons (.ty _) (.cons (.ty _) .nil), .base (.tup (s1 _ _ hp)), kit_seq (.inr rfl), _, rfl, iteF (q _ s1)⟩
theorem scFI : FnScope ["self", "rows", "wrong"] ["self", "rows"] (defScope (fmI 0)) := ⟨rfl, rfl, rfl, by decide +kernel, rfl, by decide +kernel, by decide +kernel⟩
/-- __init__, of rows that are a formula -/
def spFI (F : Addr) : Sp := fun vs H Q _ => ∃ (a dx p : Addr) (rs : List V) (t : Fm), vs = [.ref a, .ref p] ∧ H a = some (.ins F dx []) ∧ (H p = some (.lst rs) ∨ H p = some (.tup rs)) ∧ RwsAt H rs (t.lay 0) ∧ t.ok ∧ t.size ≤ 1000 ∧ ∀ H', Keep a H H' → FAt F H' a t → Q .non H'
theorem ok_fI {f : Addr} {fd : FuncData} (F0 : Fun K "__init__" "Formula.__init__" (fmI 0) f fd) (B : Blt mg) (TF : FrmC K mg F) (TS : ErrC P w K mg base "BadStep" "number" 1 CS (spErr CS "number")) (DNl : DefOk P w K mg base (L2.CX P w) "need_list" 3 ["value"] spNl) (DFw : DefOk P w K mg base CX0 "_first_wrong_step" 5 ["rows"] spFw) :
    FnOk P w K mg base (L2.CX P w) 6 f fd ["self", "rows"] (spFI F) := by
  refine F0.okX scFI (fun vs H Q E h => ?_) (fun cdv A outer s0 H vs Q E hr h => ?_)
  · obtain ⟨a, dx, p, rs, t, rfl, _⟩ := h
    rfl
  · obtain ⟨a, dx, p, rs, t, rfl, ha, hp, hE, ok, hsz, q⟩ := h
    have nd := scFI.nd
    have n1 : a ≠ p := by
      rintro rfl
      rcases hp with hp | hp <;> (rw [ha] at hp; cases hp)
    refine ⟨_, pss_cons (ps_expr (pe_def (E := E) DNl hr (by decide) (by rfl) (passes_call (takes_of rfl rfl rfl rfl) fun _ _ _ _ z => z) (pa_cons (pv 1) pa_nil)))
      (pss_cons (ps_set (i := 2) nd rfl (.inl rfl) (pe_def DFw hr (by decide) (by rfl) pass0 (pa_cons (pv 1) pa_nil)))
      (pss_cons (ps_if (pt_cmpR op_notN (pv 2) pe_non (nomark _)) (pss_one (ps_raise rfl (takes_of rfl rfl rfl rfl) (pmk_err TS hr (by decide) (by rfl) (pv 2)))) pss_nil)
      (pss_one (ps_fld (pv 0) (pe_callTy call_tuple_of (by rfl) B.tuple (by decide +kernel) (pa_cons (pv 1) pa_nil)) rfl)))), ?_⟩
    refine ⟨_, rfl, p, rs, rfl, hp, fun H1 s1 => ?_⟩
    refine ⟨_, rfl, p, rs, t.lay 0, t.size - 1, rfl, hp.imp (s1 _ _) (s1 _ _), hE.same s1, t.ok_lay 0 ok, t.read0, by rw [t.lay_len]; exact hsz, fun H2 s2 => ?_⟩
    dsimp only [gName, List.set]
    have S2 := s1.trans s2
    refine ⟨_, rfl, rfl, _, rfl, iteF ?_⟩
    have row_ne : ∀ {G : Hp} {v : V} {r : Rw} {o : HO}, G a = some (.ins F dx []) → RwAt G v r → RwAt (upd G a o) v r := fun {G v r o} hg h => by
      obtain ⟨b, rfl, e⟩ := h
      refine ⟨b, rfl, (upd_ne ?_).trans e⟩
      rintro rfl
      rw [hg] at e
      cases e
    rcases hp with hp | hp
    · refine ⟨_, rfl, p, rs, rfl, .inl ⟨SqL.of (S2 _ _ hp), fun l nl => ?_⟩⟩
      have s3 := same_new (o := HO.tup rs) nl
      have e3 : upd H2 l (HO.tup rs) l = some (.tup rs) := upd_same
      generalize upd H2 l (HO.tup rs) = H3 at s3 e3 ⊢
      have ha3 := s3 _ _ (S2 _ _ ha)
      have n3 : l ≠ a := by
        rintro rfl
        rw [ha3] at e3
        cases e3
      refine ⟨_, rfl, a, F, dx, [], rfl, ha3, TF.cls, TF.nr, by decide, ?_⟩
      refine q _ ((Keep.same (S2.trans s3)).trans Keep.at) ⟨dx, l, rs, upd_same, (upd_ne n3).trans e3, ((hE.same S2).same s3).mono fun _ _ z => row_ne ha3 z⟩
    · refine ⟨_, rfl, p, rs, rfl, .inr ⟨SqT.of (S2 _ _ hp), ?_⟩⟩
      have ha3 := S2 _ _ ha
      refine ⟨_, rfl, a, F, dx, [], rfl, ha3, TF.cls, TF.nr, by decide, ?_⟩
      exact q _ ((Keep.same S2).trans Keep.at) ⟨dx, p, rs, upd_same, (upd_ne n1.symm).trans (S2 _ _ hp), (hE.same S2).mono fun _ _ z => row_ne ha3 z⟩
/-- how the class is called -/
structure FMk (P : Program) (w : World) (K : PySem.W.Frag) (mg : Str → Option Value) (base : Heap) (F : Addr) : Prop where
  ex : ∃ (fI : Addr) (fd : FuncData), Mk K F fI ∧ FnOk P w K mg base (L2.CX P w) 6 fI fd ["self", "rows"] (spFI F) ∧ Binds K fd ["self", "rows"] []
/-- what the call Formula(rows) gives -/
def spFormula (F : Addr) : Sp := fun vs H Q _ => ∃ (p : Addr) (rs : List V) (t : Fm), vs = [.ref p] ∧ (H p = some (.lst rs) ∨ H p = some (.tup rs)) ∧ RwsAt H rs (t.lay 0) ∧ t.ok ∧ t.size ≤ 1000 ∧ ∀ (a : Addr) (H' : Hp), Same H H' → FAt F H' a t → Q (.ref a) H'
theorem formula_make {vs : List V} {H : Hp} {Q : VK} {E : XK} (h : spFormula F vs H Q E) (a dx : Addr) (na : H a = none) (nd : H dx = none) (ne : dx ≠ a) : spFI F (.ref a :: vs) (upd (upd H dx (.own a)) a (.ins F dx [])) (fun v H2 => v = .non ∧ Q (.ref a) H2) E := by
  obtain ⟨p, rs, t, rfl, hp, hE, ok, hsz, q⟩ := h
  have na1 : upd H dx (.own a) a = none := (upd_ne ne.symm).trans na
  have s1 : Same H (upd (upd H dx (.own a)) a (.ins F dx [])) := (same_new nd).trans (same_new na1)
  refine ⟨a, dx, p, rs, t, rfl, upd_same, hp.imp (s1 _ _) (s1 _ _), hE.same s1, ok, hsz, fun H' kp ha => ⟨rfl, q a H' (fun b o e => ?_) ha⟩⟩
  exact kp _ _ (ne_of_none e na) (s1 _ _ e)
section
variable {X : Cx} {k : Nat} {E : XK} {p pos : Pos} {e1 : Expr} {t : TA}
theorem pe_formula (M : FMk X.prog X.w X.K X.mg X.base F) (T : FrmC X.K X.mg F) (hr : Room k X.A) (hk : 7 ≤ k) (hg : Gl X "Formula") (hx : Passes (L2.CX X.prog X.w) X E) (ha : PA X [e1] t)
    (he : starEach [e1] X.env = (false, eval e1 X.env) :: starEach [] X.env := by rfl) (hpl : (backTo pos (starEach [] X.env)).any (·.1) = false := by rfl) : PE X (.Call (.Name "Formula" p) [e1] [] pos) (tCall (spFormula F) [] E t) := by
  obtain ⟨fI, fd, mk, F, b2⟩ := M.ex
  constructor
  intro pins s σ H Q I h
  refine wpAny_Call_Name_kw (ld_glob I hg T.g ?_ (by decide))
  refine PySem.W.callWith_K (h₀ := X.base) I.ok.mod.kin mk.kp (thn (ha.run pos pins s σ H _ I h) ?_) he hpl
  rintro us s1 ⟨vs, H1, I1, r, q⟩
  refine ⟨I1.kIn, run_make mk F (hr.mono hk) b2 .nil hx I1 r fun a dx na nd ne => ?_⟩
  rw [List.append_nil] at q ⊢
  exact formula_make q a dx na nd ne
end
/-! ### size -/
theorem scSz : FnScope ["self"] ["self"] (defScope (fmI 9)) := ⟨rfl, rfl, rfl, by decide +kernel, rfl, by decide +kernel, by decide +kernel⟩
def spSz (F : Addr) : Sp := fun vs H Q _ => ∃ (a : Addr) (t : Fm), vs = [.ref a] ∧ FAt F H a t ∧ Q (nV t.size) H
theorem ok_sz {f : Addr} {fd : FuncData} (F0 : Fun K "size" "Formula.size" (fmI 9) f fd) (B : Blt mg) (TF : FrmC K mg F) : FnOk P w K mg base CX0 1 f fd ["self"] (spSz F) := by
  refine F0.ok scSz (fun vs H Q E h => ?_) (fun cdv A outer s0 H vs Q E hr h => ?_)
  · obtain ⟨a, t, rfl, _⟩ := h
    rfl
  · obtain ⟨a, t, rfl, ⟨dx, pr, rs, ha, hp, hE⟩, q⟩ := h
    refine ⟨_, pss_one (ps_ret (pe_callB call_len_seq (by rfl) B.len PySem.boot_len (pa_cons (pe_fld (pv 0) (by rfl)) pa_nil))), ?_⟩
    refine ⟨_, rfl, a, F, dx, _, .ref pr, rfl, ha, TF.cls, TF.nr, lk_rows, pr, rs, rfl, .inr (SqT.of hp), ?_⟩
    rw [hE.len, t.lay_len]
    exact q
/-- the property -/
structure FSz (P : Program) (w : World) (K : PySem.W.Frag) (mg : Str → Option Value) (base : Heap) (F : Addr) : Prop where
  ex : ∃ (p g : Addr) (fd : FuncData), PropOf K F "size" p g ∧ FnOk P w K mg base CX0 1 g fd ["self"] (spSz F) ∧ Binds K fd ["self"] []
section
variable {X : Cx} {k : Nat} {pos : Pos} {e : Expr} {ta : TE}
theorem pe_size (D : FSz X.prog X.w X.K X.mg X.base F) (T : FrmC X.K X.mg F) (hr : Room k X.A) (hk : 2 ≤ k) (he : PE X e ta) (hab : attributeBase e "size" X.env (eval e X.env) = eval e X.env) : PE X (.Attribute e "size" pos) (tProp F (spSz F) [] E0 ta) := by
  obtain ⟨p, g, fd, hp, F, b⟩ := D.ex
  exact pe_prop he T.cls hp F (hr.mono hk) b .nil pass0 hab
end
/-! ### need_step, need_formula -/
theorem thing_nat {H : Hp} {v : V} (h : isWh v = true) : ∃ n : Nat, v = nV n := by
  cases v with
  | int i =>
    have : 0 ≤ i := of_decide_eq_true h
    exact ⟨i.toNat, by show V.int i = V.int (i.toNat : Nat); rw [Int.toNat_of_nonneg this]⟩
  | _ => cases h
theorem scNs : FnScope ["formula", "value"] ["formula", "value"] (defScope pNs) := ⟨rfl, rfl, rfl, by decide +kernel, rfl, by decide +kernel, by decide +kernel⟩
def spNs (CS F : Addr) : Sp := fun vs H Q E => ∃ (a : Addr) (t : Fm) (v : V), vs = [.ref a, v] ∧ FAt F H a t ∧ Thing H v ∧ (∀ n : Nat, v = nV n → n < t.size → Q .non H) ∧ ((∀ n : Nat, v = nV n → t.size ≤ n) → Bad CS "number" v H E)
theorem ok_ns (A : At K mg "need_step" pNs ["formula", "value"]) (TF : FrmC K mg F) (TS : ErrC P w K mg base "BadStep" "number" 1 CS (spErr CS "number")) (DWh : DefOk P w K mg base CX0 "is_whole_number" 2 ["value"] spIsWh) (DSz : FSz P w K mg base F) : DefOk P w K mg base (L2.CX P w) "need_step" 3 ["formula", "value"] (spNs CS F) := by
  refine A.ok fun f fd F0 => F0.okX scNs (fun vs H Q E h => ?_) (fun cdv A outer s0 H vs Q E hr h => ?_)
  · obtain ⟨a, t, v, rfl, _⟩ := h
    rfl
  · obtain ⟨a, t, v, rfl, hF, th, q1, q2⟩ := h
    have nd := scNs.nd
    refine ⟨_, pss_one (ps_if (PW.pt (pw_or (pt_not (pt_val (pe_def DWh hr (by decide) (by rfl) pass0 (pa_cons (pv 1) pa_nil)))) (pw_or1 (pt_cmpR op_ge (pv 1) (pe_size DSz TF hr (by decide) (pv 0) (by rfl)) (nomark _))))) (pss_one (ps_raise rfl (takes_of rfl rfl rfl rfl) (pmk_err TS hr (by decide) (by rfl) (pv 1)))) pss_nil), ?_⟩
    refine ⟨_, rfl, v, rfl, th, _, rfl, ?_⟩
    cases hw : isWh v with
    | false => exact iteT ⟨_, rfl, bad_mk (q2 fun n e => by rw [e, isWh_cast] at hw; cases hw)⟩
    | true =>
      obtain ⟨n, rfl⟩ := thing_nat (H := H) hw
      obtain ⟨dx, pr, rs, ha, hp, hE⟩ := id hF
      refine iteF ⟨_, rfl, _, rfl, a, dx, _, rfl, ha, a, t, rfl, hF, _, _, rfl, rfl, _, rfl, ite2 (fun z => ?_) (fun z => ?_)⟩
      · exact ⟨_, rfl, bad_mk (q2 fun m e => by have := V.int.inj e; have := of_decide_eq_true z; omega)⟩
      · exact q1 n rfl (by have := of_decide_eq_false (eq_false_of_ne_true z); omega)
theorem scNf : FnScope ["value"] ["value"] (defScope pNf) := ⟨rfl, rfl, rfl, by decide +kernel, rfl, by decide +kernel, by decide +kernel⟩
def spNf (C F : Addr) : Sp := fun vs H Q E => ∃ v : V, vs = [v] ∧ ((∃ (a : Addr) (t : Fm), v = .ref a ∧ FAt F H a t ∧ Q .non H) ∨ (Thing H v ∧ Bad C "value" v H E))
theorem ok_nf (A : At K mg "need_formula" pNf ["value"]) (B : Blt mg) (TF : FrmC K mg F) (I : WIs K F) (TE : ErrC P w K mg base "BadValue" "value" 1 C (spErr C "value")) : DefOk P w K mg base (L2.CX P w) "need_formula" 3 ["value"] (spNf C F) := by
  refine A.ok fun f fd F0 => F0.okX scNf (fun vs H Q E h => ?_) (fun cdv A outer s0 H vs Q E hr h => ?_)
  · obtain ⟨x, rfl, _⟩ := h
    rfl
  · obtain ⟨x, rfl, h⟩ := h
    refine ⟨_, pss_one (ps_if (pt_not (pt_val (pe_callB call_isi (by rfl) B.isi (by decide +kernel) (pa_cons (pv 0) (pa_cons (pe_glob (v := .ref F) (by rfl) TF.g rfl) pa_nil))))) (pss_one (ps_raise rfl (takes_of rfl rfl rfl rfl) (pmk_err TE hr (by decide) (by rfl) (pv 0)))) pss_nil), ?_⟩
    rcases h with ⟨a, t, rfl, ⟨dx, pr, rs, ea, _⟩, q⟩ | ⟨th, bad⟩
    · exact ⟨_, rfl, _, _, _, _, true, rfl, .own F, .base (.ins ea TF.cls I.ha I.hn I.ht I.hm), by unfold PySem.W.kitOne; rw [if_pos (by simp)], _, rfl, iteF q⟩
    · obtain ⟨ty, hty, tx⟩ := th.tyxA (K := K)
      exact ⟨_, rfl, _, _, _, _, false, rfl, .own F, tx, I.no ty hty, _, rfl, iteT ⟨_, rfl, bad_mk bad⟩⟩
end
end K66

/-! k66: parts, part, replaced. -/
namespace K66
open PySem PySem.Spec PyProof.Rows L2 LamX NdefX Own
abbrev sPts : Stmt := fmI 11
abbrev sPart : Stmt := fmI 12
abbrev sRep : Stmt := fmI 13
abbrev nPart : List Str := ["self", "step", "first", "row"]
abbrev nRep : List Str := ["self", "step", "other", "first", "longer", "ahead", "instead", "behind", "row"]
theorem blkPa : BlkOk nPart (defScope sPart) (zSc (zArg 0 (zVal (zAt sPart 2)))) [("row", 3)] := blkOk_by (by decide +kernel)
theorem blkR1 : BlkOk nRep (defScope sRep) (zSc (zVal (zAt sRep 5))) [("row", 8)] := blkOk_by (by decide +kernel)
theorem blkR2 : BlkOk nRep (defScope sRep) (zSc (zVal (zAt sRep 6))) [("row", 8)] := blkOk_by (by decide +kernel)
section
variable {P : Program} {w : World} {K : PySem.W.Frag} {mg : Str → Option Value} {base : Heap} {C CS CN F aP aF aW : Addr}
theorem scPts : FnScope ["self", "step"] ["self", "step"] (defScope sPts) := ⟨rfl, rfl, rfl, by decide +kernel, rfl, by decide +kernel, by decide +kernel⟩
def spPts (F : Addr) : Sp := fun vs H Q _ => ∃ (a : Addr) (t : Fm) (n : Nat) (r : Rw), vs = [.ref a, nV n] ∧ FAt F H a t ∧ (t.lay 0)[n]? = some r ∧ ∀ (p : Addr) (H' : Hp), Same H H' → H' p = some (.tup (r.parts.map nV)) → Q (.ref p) H'
theorem ok_pts {f : Addr} {fd : FuncData} (F0 : Fun K "parts" "Formula.parts" sPts f fd) (TF : FrmC K mg F) (DNs : DefOk P w K mg base (L2.CX P w) "need_step" 3 ["formula", "value"] (spNs CS F)) (DPo : DefOk P w K mg base CX0 "parts_of" 1 ["row"] spPo) : FnOk P w K mg base (L2.CX P w) 4 f fd ["self", "step"] (spPts F) := by
  refine F0.okX scPts (fun vs H Q E h => ?_) (fun cdv A outer s0 H vs Q E hr h => ?_)
  · obtain ⟨a, t, n, r, rfl, _⟩ := h
    rfl
  · obtain ⟨a, t, n, r, rfl, hF, hn, q⟩ := h
    have nd := scPts.nd
    have ln : n < t.size := by
      have := (List.getElem?_eq_some_iff.mp hn).1
      rwa [t.lay_len] at this
    refine ⟨_, pss_cons (ps_expr (pe_def (E := E) DNs hr (by decide) (by rfl) (passes_call (takes_of rfl rfl rfl rfl) fun _ _ _ _ z => z) (pa_cons (pv 0) (pa_cons (pv 1) pa_nil))))
      (pss_one (ps_ret (pe_def DPo hr (by decide) (by rfl) pass0 (pa_cons (pe_ix ix_tup (pe_fld (pv 0) (by rfl)) (pv 1) (fun _ _ => rfl)) pa_nil)))), ?_⟩
    refine ⟨_, rfl, _, rfl, a, t, nV n, rfl, hF, .int _, fun m e l => ?_, fun z => absurd (z n rfl) (by omega)⟩
    obtain ⟨dx, pr, rs, ha, hp, hE⟩ := hF
    obtain ⟨v, hv, hr'⟩ := ents_get hE hn
    refine ⟨_, rfl, a, F, dx, _, .ref pr, rfl, ha, TF.cls, TF.nr, lk_rows, _, rfl, pr, _, _, _, rfl, rfl, SqT.of hp, atI_nat hv, v, r, rfl, hr', fun p np => ?_⟩
    exact q p _ (same_new np) upd_same
theorem scPart : FnScope nPart ["self", "step"] (defScope sPart) := ⟨rfl, rfl, rfl, by decide +kernel, rfl, by decide +kernel, by decide +kernel⟩
def spPart (F : Addr) : Sp := fun vs H Q _ => ∃ (a : Addr) (t s : Fm) (f : Nat), vs = [.ref a, nV (f + s.size - 1)] ∧ FAt F H a t ∧ SubAt (t.lay 0) f s ∧ s.ok ∧ t.size ≤ 1000 ∧ ∀ (b : Addr) (H' : Hp), Same H H' → FAt F H' b s → Q (.ref b) H'
theorem ok_part {f : Addr} {fd : FuncData} (F0 : Fun K "part" "Formula.part" sPart f fd) (TF : FrmC K mg F) (M : FMk P w K mg base F) (DNs : DefOk P w K mg base (L2.CX P w) "need_step" 3 ["formula", "value"] (spNs CS F)) (DFl : DefOk P w K mg base CX0 "_first_leading_to" 1 ["rows", "step"] spFl) (DMv : DefOkD P w K mg base CX0 "_moved" 2 ["row", "by", "start"] spMv [.int 0]) : FnOk P w K mg base (L2.CX P w) 8 f fd ["self", "step"] (spPart F) := by
  refine F0.okX scPart (fun vs H Q E h => ?_) (fun cdv A outer s0 H vs Q E hr h => ?_)
  · obtain ⟨a, t, s, f, rfl, _⟩ := h
    rfl
  · obtain ⟨a, t, s, f, rfl, hF, hs, ok, hsz, q⟩ := h
    have nd := scPart.nd
    have ps := s.size_pos
    have hl := hs.len
    rw [t.lay_len] at hl
    refine ⟨_, pss_cons (ps_expr (pe_def (E := E) DNs hr (by decide) (by rfl) (passes_call (takes_of rfl rfl rfl rfl) fun _ _ _ _ z => z) (pa_cons (pv 0) (pa_cons (pv 1) pa_nil))))
      (pss_cons (ps_set (i := 2) nd rfl (.inr rfl) (pe_def DFl hr (by decide) (by rfl) pass0 (pa_cons (pe_fld (pv 0) (by rfl)) (pa_cons (pv 1) pa_nil))))
      (pss_one (ps_ret (pe_formula (E := E) M TF hr (by decide) (by rfl) (passes_call (takes_of rfl rfl rfl rfl) fun _ _ _ _ z => z) (pa_cons (pe_lc (own := [("row", 3)]) (te := _) rfl nd (pi_tup (pe_slice sl_tupA (pe_fld (pv 0) (by rfl)) (po_some (pv 2)) (po_some (pe_op op_add (pv 1) pe_int)))) blkPa (fun _ _ _ _ _ => (pg_name (i := 3) nd rfl (.inl rfl))) (fun _ _ _ _ _ => pts_nil) (fun _ _ _ _ _ => (pe_defD DMv hr (by decide) (by rfl) pass0 (pa_cons (pv 3) (pa_cons (pe_un un_neg (pv 2)) pa_nil))))) pa_nil))))), ?_⟩
    refine ⟨_, rfl, _, rfl, a, t, _, rfl, hF, .int _, fun m e l => ?_, fun z => absurd (z _ rfl) (by omega)⟩
    obtain ⟨dx, pr, rs, ha, hp, hE⟩ := id hF
    refine ⟨_, rfl, a, F, dx, _, .ref pr, rfl, ha, TF.cls, TF.nr, lk_rows, _, rfl, pr, rs, t.lay 0, f, s, rfl, hp, hE, hs, ?_⟩
    dsimp only [gName, List.set]
    refine ⟨_, rfl, a, F, dx, _, .ref pr, rfl, ha, TF.cls, TF.nr, lk_rows, _, rfl, _, rfl, _, rfl, _, _, rfl, rfl, _, rfl, slA_of hp fun p1 H1 s1 e1 => ?_⟩
    have hlen := hE.len
    rw [t.lay_len] at hlen
    rw [show ((f + s.size - 1 : Nat) : Int) + 1 = ((f + s.size : Nat) : Int) by omega, cutIn (by omega) (by omega), show f + s.size - f = s.size by omega] at e1
    have hE1 : RwsAt H1 ((rs.drop f).take s.size) (s.lay f) := by
      have z := ents_take (ents_drop (hE.same s1) f) s.size
      rw [hs.cut] at z
      exact z
    refine ⟨p1, rfl, ⟨_, SqT.of e1⟩, fun D nD => ?_⟩
    refine lc_entT (K := K) (R := RwAt) (S := RwAt) (out := fun r => r.mv fun p => p - f) (cnd := fun _ => true) (SqT.of e1) hE1 nD (by rw [s.lay_len]; omega) (fun _ _ _ _ h z => h.same z) (fun _ _ _ _ h z => h.same z) (fun _ _ _ _ _ h z => h.put z) (fun x r H2 Nx No hr2 s2 hx nx no => ?_) fun H2 ys s2 hD hA => ?_
    · dsimp only [gName, List.set]
      refine ⟨rfl, ?_⟩
      unfold tYes
      dsimp only
      rw [if_pos rfl]
      refine ⟨_, rfl, _, rfl, _, rfl, x, -(f : Int), 0, r, fun p => p - f, rfl, hx, fun p hp2 => ?_, fun u H3 s3 hu => nx rfl u H3 s3 hu⟩
      have := (s.lay_in f r hr2 p hp2).1
      rw [if_pos (by omega)]
      dsimp only
      omega
    · rw [filt_all, s.lay_back] at hA
      exact ⟨D, ys, s, rfl, .inl hD, hA, ok, by omega, fun b H3 s3 hb => q b H3 (s1.trans (s2.trans s3)) hb⟩
theorem scRep : FnScope nRep ["self", "step", "other"] (defScope sRep) := ⟨rfl, rfl, rfl, by decide +kernel, rfl, by decide +kernel, by decide +kernel⟩
def spRep (F : Addr) : Sp := fun vs H Q _ => ∃ (a b : Addr) (t t' s s' : Fm) (f n : Nat), vs = [.ref a, nV n, .ref b] ∧ FAt F H a t ∧ FAt F H b s' ∧ Hole t t' s s' 0 f n ∧ t.ok ∧ s'.ok ∧ t.size ≤ 500 ∧ s'.size ≤ 500 ∧ ∀ (c : Addr) (H' : Hp), Same H H' → FAt F H' c t' → Q (.ref c) H'
theorem ok_rep {f : Addr} {fd : FuncData} (F0 : Fun K "replaced" "Formula.replaced" sRep f fd) (B : Blt mg) (TF : FrmC K mg F) (M : FMk P w K mg base F) (DSz : FSz P w K mg base F) (DNs : DefOk P w K mg base (L2.CX P w) "need_step" 3 ["formula", "value"] (spNs CS F)) (DNf : DefOk P w K mg base (L2.CX P w) "need_formula" 3 ["value"] (spNf C F)) (DFl : DefOk P w K mg base CX0 "_first_leading_to" 1 ["rows", "step"] spFl) (DMv : DefOkD P w K mg base CX0 "_moved" 2 ["row", "by", "start"] spMv [.int 0]) : FnOk P w K mg base (L2.CX P w) 8 f fd ["self", "step", "other"] (spRep F) := by
  refine F0.okX scRep (fun vs H Q E h => ?_) (fun cdv A outer s0 H vs Q E hr h => ?_)
  · obtain ⟨a, b, t, t', s, s', f, n, rfl, _⟩ := h
    rfl
  · obtain ⟨a, b, t, t', s, s', f, n, rfl, hF, hG, hole, okt, oks, lt, ls, q⟩ := h
    have nd := scRep.nd
    have sz := sizeLine_eq
    obtain ⟨r1, r2, r3, r4⟩ := hole.rng
    have ps := s.size_pos
    have ps' := s'.size_pos
    refine ⟨_, pss_cons (ps_expr (pe_def (E := E) DNs hr (by decide) (by rfl) (passes_call (takes_of rfl rfl rfl rfl) fun _ _ _ _ z => z) (pa_cons (pv 0) (pa_cons (pv 1) pa_nil))))
      (pss_cons (ps_expr (pe_def (E := E) DNf hr (by decide) (by rfl) (passes_call (takes_of rfl rfl rfl rfl) fun _ _ _ _ z => z) (pa_cons (pv 2) pa_nil)))
      (pss_cons (ps_set (i := 3) nd rfl (.inr rfl) (pe_def DFl hr (by decide) (by rfl) pass0 (pa_cons (pe_fld (pv 0) (by rfl)) (pa_cons (pv 1) pa_nil))))
      (pss_cons (ps_set (i := 4) nd rfl (.inr rfl) (pe_op op_sub (pe_op op_add (pv 3) (pe_size DSz TF hr (by decide) (pv 2) (by rfl))) (pe_op op_add (pv 1) pe_int)))
      (pss_cons (ps_set (i := 5) nd rfl (.inl rfl) (pe_callTy call_list_of (by rfl) B.list (by decide +kernel) (pa_cons (pe_slice sl_tupA (pe_fld (pv 0) (by rfl)) po_none (po_some (pv 3))) pa_nil)))
      (pss_cons (ps_setLc (i := 6) (own := [("row", 8)]) (te := _) rfl nd rfl rfl rfl (pi_tup (pe_fld (pv 2) (by rfl))) blkR1 (fun _ _ _ _ _ => (pg_name (i := 8) nd rfl (.inl rfl))) (fun _ _ _ _ _ => pts_nil) (fun _ _ _ _ _ => (pe_defD DMv hr (by decide) (by rfl) pass0 (pa_cons (pv 8) (pa_cons (pv 3) pa_nil)))))
      (pss_cons (ps_setLc (i := 7) (own := [("row", 8)]) (te := _) rfl nd rfl rfl rfl (pi_tup (pe_slice sl_tupA (pe_fld (pv 0) (by rfl)) (po_some (pe_op op_add (pv 1) pe_int)) po_none)) blkR2 (fun _ _ _ _ _ => (pg_name (i := 8) nd rfl (.inl rfl))) (fun _ _ _ _ _ => pts_nil) (fun _ _ _ _ _ => (pe_def DMv.ok hr (by decide) (by rfl) pass0 (pa_cons (pv 8) (pa_cons (pv 4) (pa_cons (pv 1) pa_nil))))))
      (pss_one (ps_ret (pe_formula (E := E) M TF hr (by decide) (by rfl) (passes_call (takes_of rfl rfl rfl rfl) fun _ _ _ _ z => z) (pa_cons (pe_op op_cat (pe_op op_cat (pv 5) (pv 6)) (pv 7)) pa_nil)))))))))), ?_⟩
    refine ⟨_, rfl, _, rfl, a, t, _, rfl, hF, .int _, fun m e l => ?_, fun z => absurd (z _ rfl) (by omega)⟩
    refine ⟨_, rfl, _, rfl, .inl ⟨b, s', rfl, hG, ?_⟩⟩
    obtain ⟨dx, pr, rs, ha, hp, hE⟩ := id hF
    obtain ⟨dy, pq, qs, hb, hq, hD⟩ := id hG
    obtain ⟨x, y, ex, et, et'⟩ := hole.lay
    have sub := hole.sub
    rw [show n = f + s.size - 1 by omega]
    refine ⟨_, rfl, a, F, dx, _, .ref pr, rfl, ha, TF.cls, TF.nr, lk_rows, _, rfl, pr, rs, t.lay 0, f, s, rfl, hp, hE, sub, ?_⟩
    dsimp only [gName, List.set]
    refine ⟨_, rfl, _, rfl, b, dy, _, rfl, hb, b, s', rfl, hG, _, _, rfl, rfl, _, rfl, _, _, rfl, rfl, _, _, rfl, rfl, ?_⟩
    dsimp only [gName, List.set]
    refine ⟨_, rfl, a, F, dx, _, .ref pr, rfl, ha, TF.cls, TF.nr, lk_rows, _, rfl, _, rfl, slA_of hp fun p1 H1 s1 e1 => ?_⟩
    have hlen := hE.len
    rw [t.lay_len] at hlen
    rw [cutTo (by omega)] at e1
    have hA1 : RwsAt H1 (rs.take f) x := by
      have z := ents_take (hE.same s1) f
      rw [et, List.append_assoc, List.take_append_of_le_length (by omega), List.take_of_length_le (show x.length ≤ f by omega)] at z
      exact z
    refine ⟨p1, _, rfl, .inr (SqT.of e1), fun p2 n2 => ?_⟩
    have s2 := same_new (o := HO.lst (rs.take f)) n2
    have e2 : upd H1 p2 (HO.lst (rs.take f)) p2 = some (.lst (rs.take f)) := upd_same
    have hA2 := hA1.same s2
    have S2 := s1.trans s2
    generalize upd H1 p2 (HO.lst (rs.take f)) = H2 at s2 e2 hA2 S2 ⊢
    dsimp only [gName, List.set]
    have fx : x.length = f := by omega
    refine ⟨_, rfl, b, F, dy, _, .ref pq, rfl, S2 _ _ hb, TF.cls, TF.nr, lk_rows, pq, rfl, ⟨_, SqT.of (S2 _ _ hq)⟩, fun D nD => ?_⟩
    refine lc_entT (K := K) (R := RwAt) (S := RwAt) (out := fun r => r.mv fun p => p + f) (cnd := fun _ => true) (SqT.of (S2 _ _ hq)) (hD.same S2) nD (by rw [s'.lay_len]; omega) (fun _ _ _ _ h z => h.same z) (fun _ _ _ _ h z => h.same z) (fun _ _ _ _ _ h z => h.put z) (fun v r H3 Nx No hr2 s3 hv nx no => ?_) fun H3 ys s3 hD3 hB => ?_
    · dsimp only [gName, List.set]
      refine ⟨rfl, ?_⟩
      unfold tYes
      dsimp only
      rw [if_pos rfl]
      refine ⟨_, rfl, _, rfl, v, (f : Int), 0, r, fun p => p + f, rfl, hv, fun p hp2 => ?_, fun u H4 s4 hu => nx rfl u H4 s4 hu⟩
      rw [if_pos (by omega)]
      rfl
    rw [filt_all, s'.lay_mv, Nat.zero_add] at hB
    dsimp only [gName, List.set]
    have S3 := S2.trans s3
    have e3 := s3 _ _ e2
    have hA3 := hA2.same s3
    refine ⟨_, rfl, a, F, dx, _, .ref pr, rfl, S3 _ _ ha, TF.cls, TF.nr, lk_rows, _, rfl, _, _, rfl, rfl, _, rfl, ?_⟩
    dsimp only [tNoPart]
    refine slA_of (S3 _ _ hp) fun p4 H4 s4 e4 => ?_
    rw [show ((f + s.size - 1 : Nat) : Int) + 1 = ((f + s.size : Nat) : Int) by omega, cutFrom (by omega)] at e4
    have hC4 : RwsAt H4 (rs.drop (f + s.size)) y := by
      have z := ents_drop ((hE.same S3).same s4) (f + s.size)
      have lxs : (x ++ s.lay f).length = f + s.size := by rw [List.length_append, s.lay_len, fx]
      rw [et, ← lxs, List.drop_left] at z
      rw [← lxs]
      exact z
    have S4 := S3.trans s4
    have hl : x.length + s.size + y.length = t.size := by
      have := congrArg List.length et
      rw [t.lay_len, List.length_append, List.length_append, s.lay_len] at this
      omega
    refine ⟨p4, rfl, ⟨_, SqT.of e4⟩, fun D2 nD2 => ?_⟩
    refine lc_entT (K := K) (R := RwAt) (S := RwAt) (out := fun r => r.mv (beh n s s')) (cnd := fun _ => true) (SqT.of e4) hC4 nD2 (by omega) (fun _ _ _ _ h z => h.same z) (fun _ _ _ _ h z => h.same z) (fun _ _ _ _ _ h z => h.put z) (fun v r H5 Nx No hr2 s5 hv nx no => ?_) fun H5 zs s5 hD5 hC => ?_
    · dsimp only [gName, List.set]
      refine ⟨rfl, ?_⟩
      unfold tYes
      dsimp only
      rw [if_pos rfl]
      refine ⟨_, rfl, _, rfl, _, rfl, v, _, _, r, beh n s s', rfl, hv, fun p hp2 => ?_, fun u H6 s6 hu => nx rfl u H6 s6 hu⟩
      unfold beh
      by_cases z : n ≤ p
      · rw [if_pos (by omega), if_pos z]
        omega
      · rw [if_neg (by omega), if_neg z]
    rw [filt_all] at hC
    dsimp only [gName, List.set]
    have s35 := s4.trans s5
    have hly := hC.len
    rw [List.length_map] at hly
    have hlx := hA3.len
    have hlm := hB.len
    rw [s'.lay_len] at hlm
    refine ⟨_, rfl, _, rfl, p2, D, _, _, rfl, rfl, s35 _ _ e3, s35 _ _ hD3, by omega, fun p6 n6 => ?_⟩
    have s6 := same_new (o := HO.lst (rs.take f ++ ys)) n6
    have e6 : upd H5 p6 (HO.lst (rs.take f ++ ys)) p6 = some (.lst (rs.take f ++ ys)) := upd_same
    generalize upd H5 p6 (HO.lst (rs.take f ++ ys)) = H6 at s6 e6 ⊢
    refine ⟨_, rfl, p6, D2, _, _, rfl, rfl, e6, s6 _ _ hD5, by rw [List.length_append]; omega, fun p7 n7 => ?_⟩
    have s7 := same_new (o := HO.lst (rs.take f ++ ys ++ zs)) n7
    have e7 : upd H6 p7 (HO.lst (rs.take f ++ ys ++ zs)) p7 = some (.lst (rs.take f ++ ys ++ zs)) := upd_same
    generalize upd H6 p7 (HO.lst (rs.take f ++ ys ++ zs)) = H7 at s7 e7 ⊢
    have fin : RwsAt H7 (rs.take f ++ ys ++ zs) (t'.lay 0) := by
      rw [et']
      exact (((hA3.same s35).same (s6.trans s7)).app (RwsAt.same (RwsAt.same hB s35) (s6.trans s7))).app (RwsAt.same hC (s6.trans s7))
    exact ⟨p7, _, t', rfl, .inl e7, fin, (hole.ok okt oks).1, by omega, fun c H8 s8 hc => q c H8 (S4.trans (s5.trans (s6.trans (s7.trans s8)))) hc⟩
end
end K66

/-! own layer, of no law: a number told as what is ahead of the point and the digits behind it -/
namespace Own
open PySem PySem.Spec PyProof.Rows L2 LamX NdefX
/-- ahead of the point -/
def wFl (u : Int) (s : Nat) : Int := if s = 0 then u else u / (10 : Int) ^ s
/-- the digits behind it -/
def wMo (u : Int) (s : Nat) : Str := if s = 0 then "" else Txt.zfill (Str.ofString (toString (u % (10 : Int) ^ s))) (s : Int)
def wRow (u : Int) (s : Nat) : List (Str × V) := [("units", .int u), ("scale", .int s), ("floor", .int (wFl u s)), ("more", .str (wMo u s))]
theorem wNe : (("scale" : Str) == "units") = false ∧ (("floor" : Str) == "units") = false ∧ (("floor" : Str) == "scale") = false ∧ (("more" : Str) == "units") = false ∧ (("more" : Str) == "scale") = false ∧ (("more" : Str) == "floor") = false := by decide +kernel
theorem wLk_u (u : Int) (s : Nat) : (wRow u s).lookup ("units" : Str) = some (.int u) := by simp [wRow, List.lookup]
theorem wLk_s (u : Int) (s : Nat) : (wRow u s).lookup ("scale" : Str) = some (.int s) := by simp [wRow, List.lookup, wNe]
theorem wLk_f (u : Int) (s : Nat) : (wRow u s).lookup ("floor" : Str) = some (.int (wFl u s)) := by simp [wRow, List.lookup, wNe]
theorem wLk_m (u : Int) (s : Nat) : (wRow u s).lookup ("more" : Str) = some (.str (wMo u s)) := by simp [wRow, List.lookup, wNe]
theorem wLk_no {m : Str} (u : Int) (s : Nat) (h1 : (m == "units") = false) (h2 : (m == "scale") = false) (h3 : (m == "floor") = false := by decide +kernel) (h4 : (m == "more") = false := by decide +kernel) : (wRow u s).lookup m = none := by simp [wRow, List.lookup, h1, h2, h3, h4]
theorem put4 (a b c d : V) : putF "more" d (putF "floor" c (putF "scale" b (putF "units" a []))) = ([("units", a), ("scale", b), ("floor", c), ("more", d)] : List (Str × V)) := by
  have e1 : ¬ (("units" : Str) = "scale") := by decide +kernel
  have e2 : ¬ (("units" : Str) = "floor") := by decide +kernel
  have e3 : ¬ (("units" : Str) = "more") := by decide +kernel
  have e4 : ¬ (("scale" : Str) = "floor") := by decide +kernel
  have e5 : ¬ (("scale" : Str) = "more") := by decide +kernel
  have e6 : ¬ (("floor" : Str) = "more") := by decide +kernel
  simp [putF, e1, e2, e3, e4, e5, e6]
/-! ### the digits -/
theorem numL_cons (n : Nat) : ∃ c l, TL.numL n = c :: l ∧ 48 ≤ c ∧ c ≤ 57 := by
  cases h : TL.numL n with
  | nil => exact absurd h (TL.numL_ne n)
  | cons c l =>
    have z := TL.numL_digits n c (by rw [h]; exact List.mem_cons_self ..)
    exact ⟨c, l, rfl, z.1, z.2⟩
theorem zf_list (n s : Nat) : (Txt.zfill (Str.ofString (toString (n : Int))) (s : Int)).cps.toList = List.replicate (s - (TL.numL n).length) 48 ++ TL.numL n := by
  have e : (Str.ofString (toString (n : Int))).cps.toList = TL.numL n := TL.tl_num n
  have l : (Str.ofString (toString (n : Int))).length = (TL.numL n).length := by rw [TL.len_tl]; exact congrArg List.length e
  generalize Str.ofString (toString (n : Int)) = x at e l
  unfold Txt.zfill
  by_cases h : (s : Int) ≤ (x.length : Int)
  · rw [if_pos h, e, show s - (TL.numL n).length = 0 by omega]
    rfl
  · rw [if_neg h]
    obtain ⟨c, r, ec, h1, h2⟩ := numL_cons n
    have hd : x.cps[0]? = some c := by
      rw [← Array.getElem?_toList, e, ec]
      rfl
    unfold zfilled
    rw [hd]
    split
    · rename_i z
      have := Option.some.inj z
      omega
    · rename_i z
      have := Option.some.inj z
      omega
    · rw [PyProof.Rows.padded_list, e, l]
      simp
theorem val_zeros : ∀ (k : Nat) (l : List Nat), NumText.digitsVal (List.replicate k 48 ++ l) = NumText.digitsVal l
  | 0, l => rfl
  | k + 1, l => by
    show NumText.digitsVal (48 :: (List.replicate k 48 ++ l)) = _
    exact val_zeros k l
theorem ten_nc (s : Nat) : ((10 : Int) ^ s) = ((10 ^ s : Nat) : Int) := by simp
theorem wMod (u : Int) (s : Nat) : ∃ n : Nat, u % (10 : Int) ^ s = (n : Int) ∧ n < 10 ^ s := by
  have p : 0 < 10 ^ s := Nat.pow_pos (by decide)
  rw [ten_nc]
  have a := Int.emod_nonneg u (show ((10 ^ s : Nat) : Int) ≠ 0 by omega)
  have b := Int.emod_lt_of_pos u (show (0 : Int) < ((10 ^ s : Nat) : Int) by omega)
  exact ⟨(u % ((10 ^ s : Nat) : Int)).toNat, by omega, by omega⟩
theorem wMo_list {u : Int} {s n : Nat} (h : s ≠ 0) (e : u % (10 : Int) ^ s = (n : Int)) : (wMo u s).cps.toList = List.replicate (s - (TL.numL n).length) 48 ++ TL.numL n := by
  unfold wMo
  rw [if_neg h, e]
  exact zf_list n s
theorem wMo_zero (u : Int) : (wMo u 0).cps.toList = [] := by
  have e : wMo u 0 = "" := by
    unfold wMo
    rw [if_pos rfl]
  rw [e]
  rfl
theorem wMo_len (u : Int) (s : Nat) : (wMo u s).cps.toList.length = s := by
  by_cases h : s = 0
  · subst h
    rw [wMo_zero]
    rfl
  · obtain ⟨n, e, l⟩ := wMod u s
    rw [wMo_list h e, List.length_append, List.length_replicate]
    have := TL.numL_len (Nat.pos_of_ne_zero h) l
    omega
theorem w_inj {u u2 : Int} {s s2 : Nat} (h1 : wFl u s = wFl u2 s2) (h2 : wMo u s = wMo u2 s2) : u = u2 ∧ s = s2 := by
  have e : s = s2 := by
    have a := wMo_len u s
    have b := wMo_len u2 s2
    rw [h2] at a
    omega
  subst e
  refine ⟨?_, rfl⟩
  by_cases h : s = 0
  · subst h
    exact h1
  · obtain ⟨n, e, l⟩ := wMod u s
    obtain ⟨n2, e2, l2⟩ := wMod u2 s
    have a := wMo_list h e
    have b := wMo_list h e2
    rw [h2, b] at a
    have v := congrArg NumText.digitsVal a
    rw [val_zeros, val_zeros, TL.numL_val, TL.numL_val] at v
    unfold wFl at h1
    rw [if_neg h, if_neg h] at h1
    have d1 := Int.mul_ediv_add_emod u ((10 : Int) ^ s)
    have d2 := Int.mul_ediv_add_emod u2 ((10 : Int) ^ s)
    rw [← d1, ← d2, h1, e, e2, v]
theorem w_ok (u : Int) (s : Nat) : PyData.strOk (wMo u s) = true := by
  have all : ∀ c ∈ (wMo u s).cps.toList, c < 0x110000 := fun c hc => by
    by_cases h : s = 0
    · subst h
      rw [wMo_zero] at hc
      cases hc
    · obtain ⟨n, e, l⟩ := wMod u s
      rw [wMo_list h e] at hc
      rcases List.mem_append.mp hc with z | z
      · rw [(List.mem_replicate.mp z).2]
        decide
      · have := TL.numL_digits n c z
        omega
  unfold PyData.strOk
  rw [Array.all_eq_true_iff_forall_mem]
  intro c hc
  exact decide_eq_true (all c (Array.mem_toList_iff.mpr hc))
/-- the two halves as data -/
theorem w_dp {K : PySem.W.Frag} {H : Hp} {a : Addr} {i : Int} {t : Str} (e : H a = some (.tup [.int i, .str t])) : Dp K H (.ref a) (.tuple [.int i, .str t]) := .tup (SqT.of e) (.cons (.int i) (.cons (.str t) .nil))
theorem w_sh (u : Int) (s : Nat) : SeqAt.shaped (.tuple [.int (wFl u s), .str (wMo u s)]) = true := by
  unfold SeqAt.shaped
  simp [PyData.canLay0, PyData.canLayAll0, PyData.depth, PyData.depthAll, w_ok]
theorem w_eqv (u u2 : Int) (s s2 : Nat) : PyData.eqv (.tuple [.int (wFl u s), .str (wMo u s)]) (.tuple [.int (wFl u2 s2), .str (wMo u2 s2)]) = (decide (u = u2) && decide (s = s2)) := by
  simp only [PyData.eqv, PyData.eqvAll, Bool.and_true]
  by_cases h : u = u2 ∧ s = s2
  · obtain ⟨rfl, rfl⟩ := h
    simp
  · have r : (decide (u = u2) && decide (s = s2)) = false := by
      rw [← Bool.decide_and]
      exact decide_eq_false h
    rw [r]
    have n : ¬ (wFl u s = wFl u2 s2 ∧ wMo u s = wMo u2 s2) := fun z => h (w_inj z.1 z.2)
    by_cases h1 : wFl u s = wFl u2 s2
    · have h2 : wMo u s ≠ wMo u2 s2 := fun z => n ⟨h1, z⟩
      rw [beq_false_of_ne h2, Bool.and_false]
    · rw [beq_false_of_ne h1, Bool.false_and]
/-- a list of statements that is never come to -/
theorem pss_dead {X : Cx} {ss : List Stmt} : PSs X ss (fun _ _ _ => False) := ⟨fun _ _ _ _ _ _ h => h.elim⟩
theorem dm_wide {n d : Int} (h0 : 0 < d) (h : d.natAbs < 2 ^ 9000) : CDivP n d := by
  refine ⟨h0, ?_⟩
  have a := log2_lt h (by decide)
  unfold Builtin.divisionGoesByPylong
  have e : ¬ (d == 0) = true := by simp; omega
  have z : ¬ (d.natAbs.log2 / 30 + 1 > 300) := by omega
  simp only [e, Bool.false_eq_true, if_false]
  rw [decide_eq_false z]
  rfl
end Own

/-! k66: as_formula of a Formula, _combined, + - *. -/
namespace K66
open PySem PySem.Spec PyProof.Rows L2 LamX NdefX Own
abbrev pCo : Stmt := topS 34
abbrev pAf : Stmt := topS 32
abbrev nCo : List Str := ["word", "one", "other", "behind", "last", "row"]
theorem blkCo : BlkOk nCo (defScope pCo) (zSc (zArg 0 (zVal (zAt pCo 0)))) [("row", 5)] := blkOk_by (by decide +kernel)
section
variable {P : Program} {w : World} {K : PySem.W.Frag} {mg : Str → Option Value} {base : Heap} {C CS CN F aP aF aW : Addr}
theorem scAf : FnScope ["value"] ["value"] (defScope pAf) := ⟨rfl, rfl, rfl, by decide +kernel, rfl, by decide +kernel, by decide +kernel⟩
def spAf (F : Addr) : Sp := fun vs H Q _ => ∃ (a : Addr) (t : Fm), vs = [.ref a] ∧ FAt F H a t ∧ Q (.ref a) H
theorem ok_af (A : At K mg "as_formula" pAf ["value"]) (B : Blt mg) (TF : FrmC K mg F) (I : WIs K F) : DefOk P w K mg base (L2.CX P w) "as_formula" 1 ["value"] (spAf F) := by
  refine A.ok fun f fd F0 => F0.okX scAf (fun vs H Q E h => ?_) (fun cdv A outer s0 H vs Q E hr h => ?_)
  · obtain ⟨a, t, rfl, _⟩ := h
    rfl
  · obtain ⟨a, t, rfl, ⟨dx, pr, rs, ea, _⟩, q⟩ := h
    refine ⟨_, pss_cons (ps_if (pt_val (pe_callB call_isi (by rfl) B.isi (by decide +kernel) (pa_cons (pv 0) (pa_cons (pe_glob (v := .ref F) (by rfl) TF.g rfl) pa_nil)))) (pss_one (ps_ret (pv 0))) pss_nil) pss_dead, ?_⟩
    exact ⟨_, rfl, _, _, _, _, true, rfl, .own F, .base (.ins ea TF.cls I.ha I.hn I.ht I.hm), by unfold PySem.W.kitOne; rw [if_pos (by simp)], _, rfl, iteT ⟨_, rfl, q⟩⟩
theorem scCo : FnScope nCo ["word", "one", "other"] (defScope pCo) := ⟨rfl, rfl, rfl, by decide +kernel, rfl, by decide +kernel, by decide +kernel⟩
def spCo (F : Addr) : Sp := fun vs H Q _ => ∃ (wd : Bw) (a b : Addr) (t u : Fm), vs = [.str wd.txt, .ref a, .ref b] ∧ FAt F H a t ∧ FAt F H b u ∧ t.ok ∧ u.ok ∧ t.size ≤ 400 ∧ u.size ≤ 400 ∧ ∀ (c : Addr) (H' : Hp), Same H H' → FAt F H' c (.bin wd t u) → Q (.ref c) H'
theorem ok_co (A : At K mg "_combined" pCo ["word", "one", "other"]) (B : Blt mg) (TF : FrmC K mg F) (M : FMk P w K mg base F) (DSz : FSz P w K mg base F) (DMv : DefOkD P w K mg base CX0 "_moved" 2 ["row", "by", "start"] spMv [.int 0]) : DefOk P w K mg base (L2.CX P w) "_combined" 8 ["word", "one", "other"] (spCo F) := by
  refine A.ok fun f fd F0 => F0.okX scCo (fun vs H Q E h => ?_) (fun cdv A outer s0 H vs Q E hr h => ?_)
  · obtain ⟨wd, a, b, t, u, rfl, _⟩ := h
    rfl
  · obtain ⟨wd, a, b, t, u, rfl, hF, hG, okt, oku, lt, lu, q⟩ := h
    have nd := scCo.nd
    have sz := sizeLine_eq
    have pt := t.size_pos
    have pu := u.size_pos
    refine ⟨_, pss_cons (ps_set (i := 3) nd rfl (.inl rfl) (pe_callTy call_tuple_of (by rfl) B.tuple (by decide +kernel) (pa_cons (pe_lc (own := [("row", 5)]) (te := _) rfl nd (pi_tup (pe_fld (pv 2) (by rfl))) blkCo (fun _ _ _ _ _ => (pg_name (i := 5) nd rfl (.inl rfl))) (fun _ _ _ _ _ => pts_nil) (fun _ _ _ _ _ => (pe_defD DMv hr (by decide) (by rfl) pass0 (pa_cons (pv 5) (pa_cons (pe_size DSz TF hr (by decide) (pv 1) (by rfl)) pa_nil))))) pa_nil)))
      (pss_cons (ps_set (i := 4) nd rfl (.inl rfl) (pe_tup (pa_cons (pv 0) (pa_cons (pe_op op_sub (pe_size DSz TF hr (by decide) (pv 1) (by rfl)) pe_int) (pa_cons (pe_op op_sub (pe_op op_add (pe_size DSz TF hr (by decide) (pv 1) (by rfl)) (pe_size DSz TF hr (by decide) (pv 2) (by rfl))) pe_int) pa_nil)))))
      (pss_one (ps_ret (pe_formula (E := E) M TF hr (by decide) (by rfl) (passes_call (takes_of rfl rfl rfl rfl) fun _ _ _ _ z => z) (pa_cons (pe_op op_catA (pe_op op_catA (pe_fld (pv 1) (by rfl)) (pv 3)) (pe_tup (pa_cons (pv 4) pa_nil))) pa_nil))))), ?_⟩
    obtain ⟨dx, pr, rs, ha, hp, hE⟩ := id hF
    obtain ⟨dy, pq, qs, hb, hq, hD⟩ := id hG
    refine ⟨_, rfl, b, F, dy, _, .ref pq, rfl, hb, TF.cls, TF.nr, lk_rows, pq, rfl, ⟨_, SqT.of hq⟩, fun D nD => ?_⟩
    refine lc_entT (K := K) (R := RwAt) (S := RwAt) (out := fun r => r.mv fun p => p + t.size) (cnd := fun _ => true) (SqT.of hq) hD nD (by rw [u.lay_len]; omega) (fun _ _ _ _ h z => h.same z) (fun _ _ _ _ h z => h.same z) (fun _ _ _ _ _ h z => h.put z) (fun v r H3 Nx No hr2 s3 hv nx no => ?_) fun H3 ys s3 hD3 hB => ?_
    · dsimp only [gName, List.set]
      refine ⟨rfl, ?_⟩
      unfold tYes
      dsimp only
      rw [if_pos rfl]
      refine ⟨_, rfl, _, rfl, a, dx, _, rfl, s3 _ _ ha, a, t, rfl, hF.same s3, v, (t.size : Int), 0, r, fun p => p + t.size, rfl, hv, fun p hp2 => ?_, fun u H4 s4 hu => nx rfl u H4 s4 hu⟩
      rw [if_pos (by omega)]
      rfl
    rw [filt_all, u.lay_mv, Nat.zero_add] at hB
    refine ⟨D, _, rfl, .inl ⟨SqL.of hD3, fun p4 n4 => ?_⟩⟩
    have s4 := same_new (o := HO.tup ys) n4
    have e4 : upd H3 p4 (HO.tup ys) p4 = some (.tup ys) := upd_same
    generalize upd H3 p4 (HO.tup ys) = H4 at s4 e4 ⊢
    have S4 := s3.trans s4
    have hB4 := RwsAt.same hB s4
    dsimp only [gName, List.set]
    refine ⟨_, rfl, _, rfl, a, dx, _, rfl, S4 _ _ ha, a, t, rfl, hF.same S4, _, _, rfl, rfl, _, rfl, a, dx, _, rfl, S4 _ _ ha, a, t, rfl, hF.same S4, _, rfl, b, dy, _, rfl, S4 _ _ hb, b, u, rfl, hG.same S4, _, _, rfl, rfl, _, _, rfl, rfl, by show 3 ≤ sizeLine; decide, fun p5 n5 => ?_⟩
    dsimp only
    rw [show ((t.size : Nat) : Int) - 1 = ((t.size - 1 : Nat) : Int) by omega, show ((t.size : Nat) : Int) + (u.size : Nat) - 1 = ((t.size + u.size - 1 : Nat) : Int) by omega]
    have s5 := same_new (o := HO.tup [V.str wd.txt, .int (t.size - 1 : Nat), .int (t.size + u.size - 1 : Nat)]) n5
    have e5 : upd H4 p5 (HO.tup [V.str wd.txt, .int (t.size - 1 : Nat), .int (t.size + u.size - 1 : Nat)]) p5 = some (.tup [V.str wd.txt, .int (t.size - 1 : Nat), .int (t.size + u.size - 1 : Nat)]) := upd_same
    generalize upd H4 p5 (HO.tup [V.str wd.txt, .int (t.size - 1 : Nat), .int (t.size + u.size - 1 : Nat)]) = H5 at s5 e5 ⊢
    have S5 := S4.trans s5
    dsimp only [gName, List.set]
    have l1 := hE.len
    have l2 := hB4.len
    rw [t.lay_len] at l1
    rw [u.lay_len] at l2
    refine ⟨_, rfl, a, F, dx, _, .ref pr, rfl, S5 _ _ ha, TF.cls, TF.nr, lk_rows, _, rfl, catA_of (S5 _ _ hp) (s5 _ _ e4) (by omega) fun p6 H6 s6 e6 => ?_⟩
    refine ⟨_, rfl, by show 1 ≤ sizeLine; decide, fun p7 n7 => ?_⟩
    have s7 := same_new (o := HO.tup [V.ref p5]) n7
    have e7 : upd H6 p7 (HO.tup [V.ref p5]) p7 = some (.tup [V.ref p5]) := upd_same
    generalize upd H6 p7 (HO.tup [V.ref p5]) = H7 at s7 e7 ⊢
    refine catA_of (s7 _ _ e6) e7 (by rw [List.length_append]; show _ + 1 ≤ sizeLine; omega) fun p8 H8 s8 e8 => ?_
    have S58 := s6.trans (s7.trans s8)
    refine ⟨p8, _, .bin wd t u, rfl, .inr e8, ?_, ⟨okt, oku⟩, by show t.size + u.size + 1 ≤ 1000; omega, fun c H9 s9 hc => q c H9 (S5.trans (S58.trans s9)) hc⟩
    show RwsAt H8 _ (t.lay 0 ++ u.lay (0 + t.size) ++ [.bin wd (0 + t.size - 1) (0 + t.size + u.size - 1)])
    rw [Nat.zero_add]
    exact ((RwsAt.same hE (S5.trans S58)).app (RwsAt.same hB4 (s5.trans S58))).app (.cons ⟨p5, rfl, S58 _ _ e5⟩ .nil)
/-- what one op other gives -/
def spOp (F : Addr) (wd : Bw) : Sp := fun vs H Q _ => ∃ (a b : Addr) (t u : Fm), vs = [.ref a, .ref b] ∧ FAt F H a t ∧ FAt F H b u ∧ t.ok ∧ u.ok ∧ t.size ≤ 400 ∧ u.size ≤ 400 ∧ ∀ (c : Addr) (H' : Hp), Same H H' → FAt F H' c (.bin wd t u) → Q (.ref c) H'
theorem scOp0 : FnScope ["self", "other"] ["self", "other"] (defScope (fmI 2)) := ⟨rfl, rfl, rfl, by decide +kernel, rfl, by decide +kernel, by decide +kernel⟩
theorem ok_op0 {f : Addr} {fd : FuncData} (F0 : Fun K "__add__" "Formula.__add__" (fmI 2) f fd) (DCo : DefOk P w K mg base (L2.CX P w) "_combined" 8 ["word", "one", "other"] (spCo F)) (DAf : DefOk P w K mg base (L2.CX P w) "as_formula" 1 ["value"] (spAf F)) : FnOk P w K mg base (L2.CX P w) 9 f fd ["self", "other"] (spOp F .sum) := by
  refine F0.okX scOp0 (fun vs H Q E h => ?_) (fun cdv A outer s0 H vs Q E hr h => ?_)
  · obtain ⟨a, b, t, u, rfl, _⟩ := h
    rfl
  · obtain ⟨a, b, t, u, rfl, hF, hG, okt, oku, lt, lu, q⟩ := h
    refine ⟨_, pss_one (ps_ret (pe_def (E := E) DCo hr (by decide) (by rfl) (passes_call (takes_of rfl rfl rfl rfl) fun _ _ _ _ z => z) (pa_cons pe_str (pa_cons (pv 0) (pa_cons (pe_def (E := E) DAf hr (by decide) (by rfl) (passes_call (takes_of rfl rfl rfl rfl) fun _ _ _ _ z => z) (pa_cons (pv 1) pa_nil)) pa_nil))))), ?_⟩
    exact ⟨_, rfl, _, rfl, b, u, rfl, hG, .sum, a, b, t, u, rfl, hF, hG, okt, oku, lt, lu, q⟩
theorem scOp1 : FnScope ["self", "other"] ["self", "other"] (defScope (fmI 4)) := ⟨rfl, rfl, rfl, by decide +kernel, rfl, by decide +kernel, by decide +kernel⟩
theorem ok_op1 {f : Addr} {fd : FuncData} (F0 : Fun K "__sub__" "Formula.__sub__" (fmI 4) f fd) (DCo : DefOk P w K mg base (L2.CX P w) "_combined" 8 ["word", "one", "other"] (spCo F)) (DAf : DefOk P w K mg base (L2.CX P w) "as_formula" 1 ["value"] (spAf F)) : FnOk P w K mg base (L2.CX P w) 9 f fd ["self", "other"] (spOp F .dif) := by
  refine F0.okX scOp1 (fun vs H Q E h => ?_) (fun cdv A outer s0 H vs Q E hr h => ?_)
  · obtain ⟨a, b, t, u, rfl, _⟩ := h
    rfl
  · obtain ⟨a, b, t, u, rfl, hF, hG, okt, oku, lt, lu, q⟩ := h
    refine ⟨_, pss_one (ps_ret (pe_def (E := E) DCo hr (by decide) (by rfl) (passes_call (takes_of rfl rfl rfl rfl) fun _ _ _ _ z => z) (pa_cons pe_str (pa_cons (pv 0) (pa_cons (pe_def (E := E) DAf hr (by decide) (by rfl) (passes_call (takes_of rfl rfl rfl rfl) fun _ _ _ _ z => z) (pa_cons (pv 1) pa_nil)) pa_nil))))), ?_⟩
    exact ⟨_, rfl, _, rfl, b, u, rfl, hG, .dif, a, b, t, u, rfl, hF, hG, okt, oku, lt, lu, q⟩
theorem scOp2 : FnScope ["self", "other"] ["self", "other"] (defScope (fmI 6)) := ⟨rfl, rfl, rfl, by decide +kernel, rfl, by decide +kernel, by decide +kernel⟩
theorem ok_op2 {f : Addr} {fd : FuncData} (F0 : Fun K "__mul__" "Formula.__mul__" (fmI 6) f fd) (DCo : DefOk P w K mg base (L2.CX P w) "_combined" 8 ["word", "one", "other"] (spCo F)) (DAf : DefOk P w K mg base (L2.CX P w) "as_formula" 1 ["value"] (spAf F)) : FnOk P w K mg base (L2.CX P w) 9 f fd ["self", "other"] (spOp F .prd) := by
  refine F0.okX scOp2 (fun vs H Q E h => ?_) (fun cdv A outer s0 H vs Q E hr h => ?_)
  · obtain ⟨a, b, t, u, rfl, _⟩ := h
    rfl
  · obtain ⟨a, b, t, u, rfl, hF, hG, okt, oku, lt, lu, q⟩ := h
    refine ⟨_, pss_one (ps_ret (pe_def (E := E) DCo hr (by decide) (by rfl) (passes_call (takes_of rfl rfl rfl rfl) fun _ _ _ _ z => z) (pa_cons pe_str (pa_cons (pv 0) (pa_cons (pe_def (E := E) DAf hr (by decide) (by rfl) (passes_call (takes_of rfl rfl rfl rfl) fun _ _ _ _ z => z) (pa_cons (pv 1) pa_nil)) pa_nil))))), ?_⟩
    exact ⟨_, rfl, _, rfl, b, u, rfl, hG, .prd, a, b, t, u, rfl, hF, hG, okt, oku, lt, lu, q⟩
end
end K66

/-! k66: spread. -/
namespace K66
open PySem PySem.Spec PyProof.Rows L2 LamX NdefX Own
abbrev pSpr : Stmt := topS 42
abbrev nSpr : List Str := ["formula", "step", "left", "right", "word", "one", "other", "part"]
theorem blkS1 : BlkOk nSpr (defScope pSpr) (zSc (zVal (zAt pSpr 2))) [("part", 7)] := blkOk_by (by decide +kernel)
theorem blkS2 : BlkOk nSpr (defScope pSpr) (zSc (zVal (zIn 0 (zAt pSpr 4)))) [("part", 7)] := blkOk_by (by decide +kernel)
theorem blkS3 : BlkOk nSpr (defScope pSpr) (zSc (zVal (zEl 2 (zAt pSpr 4)))) [("part", 7)] := blkOk_by (by decide +kernel)
/-- a sum or difference -/
def Sm : Fm → Option (Bw × Fm × Fm)
  | .bin .sum a b => some (.sum, a, b)
  | .bin .dif a b => some (.dif, a, b)
  | _ => none
/-- a product spread -/
def sprF (l r : Fm) : Fm := match Sm r with
  | some (w, a, b) => .bin w (.bin .prd l a) (.bin .prd l b)
  | none => match Sm l with
    | some (w, a, b) => .bin w (.bin .prd a r) (.bin .prd b r)
    | none => .bin .prd l r
abbrev smL : List Str := ["sum", "difference"]
theorem sm_word (t : Fm) (k : Nat) : decide ((t.root k).word ∈ smL) = (Sm t).isSome := by
  have no : ∀ x ∈ (["column", "constant", "product", "quotient", "negative", "cast", "round"] : List Str), decide (x ∈ smL) = false := by decide +kernel
  have yes : ∀ x ∈ smL, decide (x ∈ smL) = true := fun x h => decide_eq_true h
  cases t with
  | bin w a b =>
    cases w with
    | sum => exact yes "sum" (by simp)
    | dif => exact yes "difference" (by simp)
    | prd => exact no "product" (by simp)
    | quo => exact no "quotient" (by simp)
  | col x => exact no "column" (by simp)
  | con u s => exact no "constant" (by simp)
  | neg t => exact no "negative" (by simp)
  | cst t w s => exact no "cast" (by simp)
  | rnd t s y => exact no "round" (by simp)
theorem sm_some {t : Fm} {w : Bw} {a b : Fm} (h : Sm t = some (w, a, b)) : t = .bin w a b ∧ (w = .sum ∨ w = .dif) := by
  cases t with
  | bin v x y =>
    cases v <;> first | (cases h; exact ⟨rfl, .inl rfl⟩) | (cases h; exact ⟨rfl, .inr rfl⟩) | cases h
  | _ => cases h
theorem word_prd (t : Fm) (k : Nat) : decide (V.str (t.root k).word = V.str "product") = true → ∃ l r, t = .bin .prd l r := by
  have no : ∀ x ∈ (["column", "constant", "sum", "difference", "quotient", "negative", "cast", "round"] : List Str), decide (V.str x = V.str "product") = false := by decide +kernel
  intro h
  cases t with
  | bin w l r =>
    cases w with
    | prd => exact ⟨l, r, rfl⟩
    | sum => exact nomatch (no "sum" (by simp)).symm.trans h
    | dif => exact nomatch (no "difference" (by simp)).symm.trans h
    | quo => exact nomatch (no "quotient" (by simp)).symm.trans h
  | col x => exact nomatch (no "column" (by simp)).symm.trans h
  | con u s => exact nomatch (no "constant" (by simp)).symm.trans h
  | neg t => exact nomatch (no "negative" (by simp)).symm.trans h
  | cst t w s => exact nomatch (no "cast" (by simp)).symm.trans h
  | rnd t s y => exact nomatch (no "round" (by simp)).symm.trans h
theorem ents_last {β : Type} {R : V → β → Prop} {e : β} : ∀ {es : List β} {xs : List V}, Ents R xs (es ++ [e]) → ∃ ws v, xs = ws ++ [v] ∧ R v e
  | [], xs, h => by
    cases h with
    | cons h1 t =>
      cases t
      exact ⟨[], _, rfl, h1⟩
  | _ :: es, xs, h => by
    cases h with
    | cons h1 t =>
      obtain ⟨ws, v, rfl, h2⟩ := ents_last t
      exact ⟨_ :: ws, v, rfl, h2⟩
/-- a number of a part of a formula -/
def NumAt (v : V) (e : Nat × Fm) : Prop := v = nV (e.1 + e.2.size - 1)
/-- a Formula -/
def FrmAt (F : Addr) (H : Hp) (v : V) (t : Fm) : Prop := ∃ a, v = .ref a ∧ FAt F H a t
theorem FrmAt.same {F : Addr} {H H' : Hp} {v : V} {t : Fm} (h : FrmAt F H v t) (s : Same H H') : FrmAt F H' v t := by
  obtain ⟨a, e, z⟩ := h
  exact ⟨a, e, z.same s⟩
theorem FrmAt.put {F : Addr} {H : Hp} {v : V} {t : Fm} {D : Addr} {l : List V} {o : HO} (h : FrmAt F H v t) (hD : H D = some (.lst l)) : FrmAt F (upd H D o) v t := by
  obtain ⟨a, e, dx, pr, rs, e1, e2, e3⟩ := h
  refine ⟨a, e, dx, pr, rs, (upd_ne ?_).trans e1, (upd_ne ?_).trans e2, e3.mono fun _ _ z => z.put hD⟩
  · rintro rfl
    rw [hD] at e1
    cases e1
  · rintro rfl
    rw [hD] at e2
    cases e2
theorem ents_two {R : V → Fm → Prop} {ys : List V} {a b : Fm} (h : Ents R ys [a, b]) : ∃ x y, ys = [x, y] ∧ R x a ∧ R y b := by
  cases h with
  | cons h1 t =>
    cases t with
    | cons h2 t =>
      cases t
      exact ⟨_, _, rfl, h1, h2⟩
section
variable {P : Program} {w : World} {K : PySem.W.Frag} {mg : Str → Option Value} {base : Heap} {C CS CN F aP aF aW : Addr}
theorem scSpr : FnScope nSpr ["formula", "step"] (defScope pSpr) := ⟨rfl, rfl, rfl, by decide +kernel, rfl, by decide +kernel, by decide +kernel⟩
/-- spread(formula, step) -/
def spSpr (CN F : Addr) : Sp := fun vs H Q E => ∃ (a : Addr) (t : Fm) (v : V), vs = [.ref a, v] ∧ FAt F H a t ∧ t.ok ∧ t.size ≤ 100 ∧ Thing H v ∧
  ((∃ (n f : Nat) (s : Fm), v = nV n ∧ SubAt (t.lay 0) f s ∧ f + s.size = n + 1 ∧ s.ok ∧
      ((∃ l r t', s = .bin .prd l r ∧ Hole t t' s (sprF l r) 0 f n ∧ ((Sm r).isSome ∨ (Sm l).isSome) ∧ ∀ (c : Addr) (H' : Hp), Same H H' → FAt F H' c t' → Q (.ref c) H') ∨
        ((∀ l r, s = .bin .prd l r → Sm r = none ∧ Sm l = none) ∧ Bad CN "step" v H E))) ∨
    ((∀ n : Nat, v = nV n → t.size ≤ n) ∧ Bad CN "step" v H E))
theorem ok_spr (A0 : At K mg "spread" pSpr ["formula", "step"]) (B : Blt mg) (TF : FrmC K mg F) (TN : ErrC P w K mg base "NotASum" "step" 1 CN (spErr CN "step")) (DSz : FSz P w K mg base F) (DWh : DefOk P w K mg base CX0 "is_whole_number" 2 ["value"] spIsWh) (DNf : DefOk P w K mg base (L2.CX P w) "need_formula" 3 ["value"] (spNf C F))
    (DP : WMeth P w K mg base F "parts" 4 ["self", "step"] (spPts F)) (DQ : WMeth P w K mg base F "part" 8 ["self", "step"] (spPart F)) (DR : WMeth P w K mg base F "replaced" 8 ["self", "step", "other"] (spRep F))
    (OA : WOp P w K mg base F .Add 9 (spOp F .sum)) (OS : WOp P w K mg base F .Sub 9 (spOp F .dif)) (OM : WOp P w K mg base F .Mult 9 (spOp F .prd)) : DefOk P w K mg base (L2.CX P w) "spread" 11 ["formula", "step"] (spSpr CN F) := by
  refine A0.ok fun f0 fd F0 => F0.okX scSpr (fun vs H Q E h => ?_) (fun cdv A outer s0 H vs Q E hr h => ?_)
  · obtain ⟨a, t, v, rfl, _⟩ := h
    rfl
  · obtain ⟨a, t, v, rfl, hF, okt, lt, th, h⟩ := h
    have nd := scSpr.nd
    obtain ⟨fP, fdP, mP, FP, bP⟩ := DP.ex
    obtain ⟨fQ, fdQ, mQ, FQ, bQ⟩ := DQ.ex
    obtain ⟨fR, fdR, mR, FR, bR⟩ := DR.ex
    obtain ⟨fA, fdA, A1, A2, A3, FA, bA⟩ := OA.ex
    obtain ⟨fS, fdS, S1, S2, S3, FS, bS⟩ := OS.ex
    obtain ⟨fM, fdM, M1, M2, M3, FM, bM⟩ := OM.ex
    refine ⟨_, pss_cons (ps_expr (pe_def (E := E0) DNf hr (by decide) (by rfl) passL (pa_cons (pv 0) pa_nil)))
      (pss_cons (ps_if (PW.pt (pw_or (pt_not (pt_val (pe_def DWh hr (by decide) (by rfl) pass0 (pa_cons (pv 1) pa_nil)))) (pw_or (pt_cmpR op_ge (pv 1) (pe_size DSz TF hr (by decide) (pv 0) (by rfl)) (nomark _)) (pw_or1 (pt_cmpR op_ne (pe_ix ix_tup (pe_ix ix_tup (pe_fld (pv 0) (by rfl)) (pv 1) (fun _ _ => rfl)) pe_int (fun _ _ => rfl)) pe_str (nomark _)))))) (pss_one (ps_raise rfl (takes_of rfl rfl rfl rfl) (pmk_err TN hr (by decide) (by rfl) (pv 1)))) pss_nil)
      (pss_cons (ps_asg (pe_lc (own := [("part", 7)]) (te := _) rfl nd (pi_tup (pe_meth (E := E0) (pv 0) TF.cls mP FP (hr.mono (by decide)) bP .nil passL (pa_cons (pv 1) pa_nil))) blkS1 (fun _ _ _ _ _ => (pg_name (i := 7) nd rfl (.inl rfl))) (fun _ _ _ _ _ => pts_nil) (fun _ _ _ _ _ => (pe_meth (E := E0) (pv 0) TF.cls mQ FQ (hr.mono (by decide)) bQ .nil passL (pa_cons (pv 7) pa_nil)))) (pg_lst rfl (pgs_cons (pg_name (i := 2) nd rfl (.inr rfl)) (pgs_cons (pg_name (i := 3) nd rfl (.inr rfl)) pgs_nil))))
      (pss_cons (ps_set (i := 4) nd rfl (.inl rfl) (pe_ix ix_tup (pe_ix ix_tup (pe_fld (pv 3) (by rfl)) (pe_un un_neg pe_int) (fun _ _ => rfl)) pe_int (fun _ _ => rfl)))
      (C8.pss_cut (ps_if (pt_cmpR op_in_seq (pv 4) (pe_tup (pa_cons pe_str (pa_cons pe_str pa_nil))) (by rfl)) (pss_one (ps_asg (pe_lc (own := [("part", 7)]) (te := _) rfl nd (pi_tup (pe_meth (E := E0) (pv 3) TF.cls mP FP (hr.mono (by decide)) bP .nil passL (pa_cons (pe_op op_sub (pe_size DSz TF hr (by decide) (pv 3) (by rfl)) pe_int) pa_nil))) blkS2 (fun _ _ _ _ _ => (pg_name (i := 7) nd rfl (.inl rfl))) (fun _ _ _ _ _ => pts_nil) (fun _ _ _ _ _ => (pe_op (op_own (op := .Mult) (E := E0) FM (hr.mono (by decide)) M1 M2 M3 bM passL) (pv 2) (pe_meth (E := E0) (pv 3) TF.cls mQ FQ (hr.mono (by decide)) bQ .nil passL (pa_cons (pv 7) pa_nil))))) (pg_lst rfl (pgs_cons (pg_name (i := 5) nd rfl (.inl rfl)) (pgs_cons (pg_name (i := 6) nd rfl (.inl rfl)) pgs_nil))))) (pss_cons (ps_set (i := 4) nd rfl (.inl rfl) (pe_ix ix_tup (pe_ix ix_tup (pe_fld (pv 2) (by rfl)) (pe_un un_neg pe_int) (fun _ _ => rfl)) pe_int (fun _ _ => rfl))) (pss_cons (ps_if (pt_cmpR op_notIn_seq (pv 4) (pe_tup (pa_cons pe_str (pa_cons pe_str pa_nil))) (by rfl)) (pss_one (ps_raise rfl (takes_of rfl rfl rfl rfl) (pmk_err TN hr (by decide) (by rfl) (pv 1)))) pss_nil) (pss_one (ps_asg (pe_lc (own := [("part", 7)]) (te := _) rfl nd (pi_tup (pe_meth (E := E0) (pv 2) TF.cls mP FP (hr.mono (by decide)) bP .nil passL (pa_cons (pe_op op_sub (pe_size DSz TF hr (by decide) (pv 2) (by rfl)) pe_int) pa_nil))) blkS3 (fun _ _ _ _ _ => (pg_name (i := 7) nd rfl (.inl rfl))) (fun _ _ _ _ _ => pts_nil) (fun _ _ _ _ _ => (pe_op (op_own (op := .Mult) (E := E0) FM (hr.mono (by decide)) M1 M2 M3 bM passL) (pe_meth (E := E0) (pv 2) TF.cls mQ FQ (hr.mono (by decide)) bQ .nil passL (pa_cons (pv 7) pa_nil)) (pv 3)))) (pg_lst rfl (pgs_cons (pg_name (i := 5) nd rfl (.inl rfl)) (pgs_cons (pg_name (i := 6) nd rfl (.inl rfl)) pgs_nil))))))))
      (pss_one (ps_ret (pe_meth (E := E0) (pv 0) TF.cls mR FR (hr.mono (by decide)) bR .nil passL (pa_cons (pv 1) (pa_cons (pe_ifExp (pt_cmpR op_eq (pv 4) pe_str (nomark _)) (pe_op (op_own (op := .Add) (E := E0) FA (hr.mono (by decide)) A1 A2 A3 bA passL) (pv 5) (pv 6)) (pe_op (op_own (op := .Sub) (E := E0) FS (hr.mono (by decide)) S1 S2 S3 bS passL) (pv 5) (pv 6))) pa_nil))))))))), ?_⟩
    refine ⟨_, rfl, .ref a, rfl, .inl ⟨a, t, rfl, hF, ?_⟩⟩
    obtain ⟨dx, pr, rs, ha, hp, hE⟩ := id hF
    have hEl := hE.len
    rw [t.lay_len] at hEl
    refine ⟨_, rfl, v, rfl, th, _, rfl, ?_⟩
    rcases h with ⟨n, f, s, rfl, hs, hn, oks, h⟩ | ⟨nn, bad⟩
    rotate_left
    · -- no number of a step
      cases hw : isWh v with
      | false => exact iteT ⟨_, rfl, bad_mk bad⟩
      | true =>
        obtain ⟨n, rfl⟩ := thing_nat (H := H) hw
        have := nn n rfl
        refine iteF ⟨_, rfl, _, rfl, a, dx, _, rfl, ha, a, t, rfl, hF, _, _, rfl, rfl, _, rfl, ?_⟩
        rw [show decide (((t.size : Nat) : Int) ≤ (n : Int)) = true from decide_eq_true (by omega)]
        exact iteT ⟨_, rfl, bad_mk bad⟩
    rw [isWh_cast]
    have ls := hs.len
    rw [t.lay_len] at ls
    have ps := s.size_pos
    have en : n = f + s.size - 1 := by omega
    obtain ⟨v1, hv1, a1, rfl, e1⟩ := ents_get hE hs.root
    rw [← en] at hv1
    refine iteF ⟨_, rfl, _, rfl, a, dx, _, rfl, ha, a, t, rfl, hF, _, _, rfl, rfl, _, rfl, ?_⟩
    rw [show decide (((t.size : Nat) : Int) ≤ (n : Int)) = false from decide_eq_false (by omega)]
    refine iteF ⟨_, rfl, a, F, dx, _, .ref pr, rfl, ha, TF.cls, TF.nr, lk_rows, _, rfl, pr, _, _, _, rfl, rfl, SqT.of hp, atI_nat hv1, a1, _, 0, _, rfl, rfl, SqT.of e1, atI_nat (j := 0) rfl, ?_⟩
    refine ⟨rfl, _, rfl, ?_⟩
    cases hw : decide (V.str (s.root f).word = V.str "product") with
    | false =>
      refine iteT ⟨_, rfl, bad_mk ?_⟩
      rcases h with ⟨l, r, t', rfl, _⟩ | ⟨_, bad⟩
      · exact absurd hw (by
          rw [show decide (V.str ((Fm.bin .prd l r).root f).word = V.str "product") = true from decide_eq_true rfl]
          decide)
      · exact bad
    | true =>
    obtain ⟨l, r, rfl⟩ := word_prd s f hw
    refine iteF ?_
    clear hw
    obtain ⟨okl, okr⟩ : l.ok ∧ r.ok := oks
    have hsl := hs.left
    have hsr := hs.right
    have lsz : l.size + r.size + 1 ≤ 100 := by
      have : (Fm.bin .prd l r).size = l.size + r.size + 1 := rfl
      omega
    have pl := l.size_pos
    have pr0 := r.size_pos
    have nroot : (t.lay 0)[n]? = some ((Fm.bin .prd l r).root f) := by rw [en]; exact hs.root
    -- left and right
    refine ⟨_, rfl, a, dx, _, rfl, ha, rfl, _, rfl, a, t, n, _, rfl, hF, nroot, fun p H1 s1 e1p => ⟨p, rfl, ⟨_, SqT.of e1p⟩, fun D nD => ?_⟩⟩
    refine lc_entT (K := K) (β := Nat × Fm) (es := [(f, l), (f + l.size, r)]) (R := fun _ v e => NumAt v e) (S := fun G v e => FrmAt F G v e) (out := fun e => e.2) (cnd := fun _ => true) (SqT.of e1p) (.cons rfl (.cons rfl .nil)) nD (by show 2 ≤ 1000; decide) (fun _ _ _ _ h _ => h) (fun _ _ _ _ h z => h.same z) (fun _ _ _ _ _ h z => h.put z) (fun x e H2 Nx No he s2 hx nx no => ?_) fun H2 ys s2 hD hA => ?_
    · dsimp only [gName, List.set]
      refine ⟨rfl, ?_⟩
      unfold tYes
      dsimp only
      rw [if_pos rfl]
      have S2 := s1.trans s2
      have hx : x = nV (e.1 + e.2.size - 1) := hx
      subst hx
      have hse : SubAt (t.lay 0) e.1 e.2 ∧ e.2.ok := by
        rcases List.mem_cons.mp he with rfl | he
        · exact ⟨hsl, okl⟩
        · rw [List.mem_singleton.mp he]
          exact ⟨hsr, okr⟩
      exact ⟨_, rfl, a, dx, _, rfl, S2 _ _ ha, rfl, _, rfl, a, t, e.2, e.1, rfl, hF.same S2, hse.1, hse.2, by omega, fun b H3 s3 hb => nx rfl _ _ s3 ⟨b, rfl, hb⟩⟩
    rw [filt_all] at hA
    obtain ⟨_, _, rfl, ⟨bl, rfl, hL⟩, ⟨br, rfl, hR⟩⟩ := ents_two hA
    refine ⟨D, _, rfl, SqL.of hD, rfl, _, _, rfl, _, _, rfl, rfl, ?_⟩
    have S2 := s1.trans s2
    have hF2 := hF.same S2
    dsimp only [gName, List.set]
    -- the word of right
    obtain ⟨dx2, pr2, rs2, hr1, hr2, hr3⟩ := id hR
    obtain ⟨c2, ec2⟩ := r.lay_root 0
    rw [ec2] at hr3
    obtain ⟨ws2, _, rfl, ⟨a2, rfl, ea2⟩⟩ := ents_last hr3
    refine ⟨_, rfl, br, F, dx2, _, .ref pr2, rfl, hr1, TF.cls, TF.nr, lk_rows, _, rfl, pr2, _, -1, _, rfl, rfl, SqT.of hr2, atI_last _ _, a2, _, 0, _, rfl, rfl, SqT.of ea2, atI_nat (j := 0) rfl, ?_⟩
    dsimp only [gName, List.set]
    obtain ⟨dx1, pr1, rs1, hl1, hl2, hl3⟩ := id hL
    refine ⟨fun σ H' => ∃ (w : Bw) (x y : Fm) (b1 b2 : Addr) (y7 : Option V), (w = .sum ∨ w = .dif) ∧ σ = [some (.ref a), some (nV n), some (.ref bl), some (.ref br), some (.str w.txt), some (.ref b1), some (.ref b2), y7] ∧ FAt F H' b1 x ∧ FAt F H' b2 y ∧ x.ok ∧ y.ok ∧ x.size ≤ 210 ∧ y.size ≤ 210 ∧ sprF l r = .bin w x y ∧ Same H H', ?_, ?_⟩
    · refine ⟨_, rfl, by show 2 ≤ sizeLine; decide, fun q1 n1 => ?_⟩
      have s3 := same_new (o := HO.tup [V.str "sum", V.str "difference"]) n1
      have e3 : upd H2 q1 (HO.tup [V.str "sum", V.str "difference"]) q1 = some (.tup [V.str "sum", V.str "difference"]) := upd_same
      generalize upd H2 q1 (HO.tup [V.str "sum", V.str "difference"]) = H3 at s3 e3 ⊢
      have S3 := S2.trans s3
      refine ⟨q1, _, rfl, .inr (SqT.of e3), rfl, by decide +kernel, _, rfl, ?_⟩
      rw [show (if false = true then !inV (V.str (r.root 0).word) [V.str "sum", V.str "difference"] else inV (V.str (r.root 0).word) [V.str "sum", V.str "difference"]) = (Sm r).isSome from (inV_txt (r.root 0).word smL).trans (sm_word r 0)]
      cases hsm : Sm r with
      | some wab =>
        obtain ⟨w, x, y⟩ := wab
        obtain ⟨rfl, hwd⟩ := sm_some hsm
        obtain ⟨okx, oky⟩ : x.ok ∧ y.ok := okr
        have lxy : x.size + y.size + 1 ≤ 100 := by
          have : (Fm.bin w x y).size = x.size + y.size + 1 := rfl
          omega
        refine iteT ?_
        refine ⟨_, rfl, br, dx2, _, rfl, s3 _ _ hr1, rfl, _, rfl, br, dx2, _, rfl, s3 _ _ hr1, br, .bin w x y, rfl, hR.same s3, _, _, rfl, rfl, ?_⟩
        dsimp only
        rw [show (((Fm.bin w x y).size : Nat) : Int) - 1 = (((Fm.bin w x y).size - 1 : Nat) : Int) by omega]
        refine ⟨br, .bin w x y, (Fm.bin w x y).size - 1, _, rfl, hR.same s3, Fm.lay_last _ 0, fun p2 H4 s4 e4 => ⟨p2, rfl, ⟨_, SqT.of e4⟩, fun D2 nD2 => ?_⟩⟩
        have sr : SubAt ((Fm.bin w x y).lay 0) 0 (.bin w x y) := ⟨[], [], by simp, rfl⟩
        refine lc_entT (K := K) (β := Nat × Fm) (es := [(0, x), (0 + x.size, y)]) (R := fun _ v e => NumAt v e) (S := fun G v e => FrmAt F G v e) (out := fun e => .bin .prd l e.2) (cnd := fun _ => true) (SqT.of e4) (.cons rfl (.cons rfl .nil)) nD2 (by show 2 ≤ 1000; decide) (fun _ _ _ _ h _ => h) (fun _ _ _ _ h z => h.same z) (fun _ _ _ _ _ h z => h.put z) (fun x0 e H5 Nx No he s5 hx nx no => ?_) fun H5 ys s5 hD2 hA2 => ?_
        · dsimp only [gName, List.set]
          refine ⟨rfl, ?_⟩
          unfold tYes
          dsimp only
          rw [if_pos rfl]
          have S5 := s3.trans (s4.trans s5)
          have hx : x0 = nV (e.1 + e.2.size - 1) := hx
          subst hx
          have hse : SubAt ((Fm.bin w x y).lay 0) e.1 e.2 ∧ e.2.ok ∧ e.2.size ≤ 100 := by
            rcases List.mem_cons.mp he with rfl | he
            · exact ⟨sr.left, okx, by show x.size ≤ 100; omega⟩
            · rw [List.mem_singleton.mp he]
              exact ⟨sr.right, oky, by show y.size ≤ 100; omega⟩
          refine ⟨_, rfl, _, rfl, br, dx2, _, rfl, S5 _ _ hr1, rfl, _, rfl, br, .bin w x y, e.2, e.1, rfl, hR.same S5, hse.1, hse.2.1, by omega, fun b H6 s6 hb => ?_⟩
          obtain ⟨dy, pb, rb, hb1, hb2, hb3⟩ := id hb
          exact ⟨bl, b, dx1, dy, _, _, rfl, rfl, s6 _ _ (S5 _ _ hl1), hb1, bl, b, l, e.2, rfl, (hL.same S5).same s6, hb, okl, hse.2.1, by omega, by omega, fun c H7 s7 hc => nx rfl _ _ (s6.trans s7) ⟨c, rfl, hc⟩⟩
        rw [filt_all] at hA2
        obtain ⟨_, _, rfl, ⟨b1, rfl, h1⟩, ⟨b2, rfl, h2⟩⟩ := ents_two hA2
        refine ⟨D2, _, rfl, SqL.of hD2, rfl, _, _, rfl, _, _, rfl, rfl, ?_⟩
        dsimp only [gName, List.set]
        refine ⟨w, .bin .prd l x, .bin .prd l y, b1, b2, _, hwd, rfl, h1, h2, ⟨okl, okx⟩, ⟨okl, oky⟩, by show l.size + x.size + 1 ≤ 210; omega, by show l.size + y.size + 1 ≤ 210; omega, ?_, S3.trans (s4.trans s5)⟩
        unfold sprF
        rw [hsm]
      | none =>
        refine iteF ?_
        obtain ⟨c1, ec1⟩ := l.lay_root 0
        rw [ec1] at hl3
        obtain ⟨ws1, _, rfl, ⟨a3, rfl, ea3⟩⟩ := ents_last hl3
        refine ⟨_, rfl, bl, F, dx1, _, .ref pr1, rfl, s3 _ _ hl1, TF.cls, TF.nr, lk_rows, _, rfl, pr1, _, -1, _, rfl, rfl, SqT.of (s3 _ _ hl2), atI_last _ _, a3, _, 0, _, rfl, rfl, SqT.of (s3 _ _ ea3), atI_nat (j := 0) rfl, ?_⟩
        dsimp only [gName, List.set]
        refine ⟨_, rfl, by show 2 ≤ sizeLine; decide, fun q2 n2 => ?_⟩
        have s4 := same_new (o := HO.tup [V.str "sum", V.str "difference"]) n2
        have e4 : upd H3 q2 (HO.tup [V.str "sum", V.str "difference"]) q2 = some (.tup [V.str "sum", V.str "difference"]) := upd_same
        generalize upd H3 q2 (HO.tup [V.str "sum", V.str "difference"]) = H4 at s4 e4 ⊢
        have S4 := S3.trans s4
        have s34 := s3.trans s4
        refine ⟨q2, _, rfl, .inr (SqT.of e4), rfl, by decide +kernel, _, rfl, ?_⟩
        rw [show (if true = true then !inV (V.str (l.root 0).word) [V.str "sum", V.str "difference"] else inV (V.str (l.root 0).word) [V.str "sum", V.str "difference"]) = !(Sm l).isSome from congrArg (fun b => !b) ((inV_txt (l.root 0).word smL).trans (sm_word l 0))]
        cases hsl' : Sm l with
        | none =>
          refine iteT ⟨_, rfl, bad_mk ?_⟩
          rcases h with ⟨l', r', t', e, _, z, _⟩ | ⟨_, bad⟩
          · cases e
            rw [hsm, hsl'] at z
            rcases z with z | z <;> cases z
          · exact bad.same S4
        | some wab =>
          obtain ⟨w, x, y⟩ := wab
          obtain ⟨rfl, hwd⟩ := sm_some hsl'
          obtain ⟨okx, oky⟩ : x.ok ∧ y.ok := okl
          have lxy : x.size + y.size + 1 ≤ 100 := by
            have : (Fm.bin w x y).size = x.size + y.size + 1 := rfl
            omega
          refine iteF ?_
          refine ⟨_, rfl, bl, dx1, _, rfl, s34 _ _ hl1, rfl, _, rfl, bl, dx1, _, rfl, s34 _ _ hl1, bl, .bin w x y, rfl, hL.same s34, _, _, rfl, rfl, ?_⟩
          dsimp only
          rw [show (((Fm.bin w x y).size : Nat) : Int) - 1 = (((Fm.bin w x y).size - 1 : Nat) : Int) by omega]
          refine ⟨bl, .bin w x y, (Fm.bin w x y).size - 1, _, rfl, hL.same s34, Fm.lay_last _ 0, fun p2 H5 s5 e5 => ⟨p2, rfl, ⟨_, SqT.of e5⟩, fun D2 nD2 => ?_⟩⟩
          have sr : SubAt ((Fm.bin w x y).lay 0) 0 (.bin w x y) := ⟨[], [], by simp, rfl⟩
          refine lc_entT (K := K) (β := Nat × Fm) (es := [(0, x), (0 + x.size, y)]) (R := fun _ v e => NumAt v e) (S := fun G v e => FrmAt F G v e) (out := fun e => .bin .prd e.2 r) (cnd := fun _ => true) (SqT.of e5) (.cons rfl (.cons rfl .nil)) nD2 (by show 2 ≤ 1000; decide) (fun _ _ _ _ h _ => h) (fun _ _ _ _ h z => h.same z) (fun _ _ _ _ _ h z => h.put z) (fun x0 e H6 Nx No he s6 hx nx no => ?_) fun H6 ys s6 hD2 hA2 => ?_
          · dsimp only [gName, List.set]
            refine ⟨rfl, ?_⟩
            unfold tYes
            dsimp only
            rw [if_pos rfl]
            have S6 := s34.trans (s5.trans s6)
            have hx : x0 = nV (e.1 + e.2.size - 1) := hx
            subst hx
            have hse : SubAt ((Fm.bin w x y).lay 0) e.1 e.2 ∧ e.2.ok ∧ e.2.size ≤ 100 := by
              rcases List.mem_cons.mp he with rfl | he
              · exact ⟨sr.left, okx, by show x.size ≤ 100; omega⟩
              · rw [List.mem_singleton.mp he]
                exact ⟨sr.right, oky, by show y.size ≤ 100; omega⟩
            refine ⟨_, rfl, bl, dx1, _, rfl, S6 _ _ hl1, rfl, _, rfl, bl, .bin w x y, e.2, e.1, rfl, hL.same S6, hse.1, hse.2.1, by omega, fun b H7 s7 hb => ?_⟩
            obtain ⟨dy, pb, rb, hb1, hb2, hb3⟩ := id hb
            exact ⟨_, rfl, b, br, dy, dx2, _, _, rfl, rfl, hb1, s7 _ _ (S6 _ _ hr1), b, br, e.2, r, rfl, hb, (hR.same S6).same s7, hse.2.1, okr, by omega, by omega, fun c H8 s8 hc => nx rfl _ _ (s7.trans s8) ⟨c, rfl, hc⟩⟩
          rw [filt_all] at hA2
          obtain ⟨_, _, rfl, ⟨b1, rfl, h1⟩, ⟨b2, rfl, h2⟩⟩ := ents_two hA2
          refine ⟨D2, _, rfl, SqL.of hD2, rfl, _, _, rfl, _, _, rfl, rfl, ?_⟩
          dsimp only [gName, List.set]
          refine ⟨w, .bin .prd x r, .bin .prd y r, b1, b2, _, hwd, rfl, h1, h2, ⟨okx, okr⟩, ⟨oky, okr⟩, by show x.size + r.size + 1 ≤ 210; omega, by show y.size + r.size + 1 ≤ 210; omega, ?_, S4.trans (s5.trans s6)⟩
          unfold sprF
          rw [hsm, hsl']
    · rintro σ H3 ⟨w, x, y, b1, b2, y7, hwd, rfl, h1, h2, okx, oky, lx, ly, hsp, S3⟩
      rcases h with ⟨l', r', t', e, hole, _, q⟩ | ⟨no, _⟩
      · cases e
        rw [hsp] at hole
        obtain ⟨dy1, p1, r1, k1, _⟩ := id h1
        obtain ⟨dy2, p2, r2, k2, _⟩ := id h2
        have hF3 := hF.same S3
        refine ⟨_, rfl, a, dx, _, rfl, S3 _ _ ha, rfl, _, rfl, ?_⟩
        rcases hwd with rfl | rfl
        · refine ⟨_, rfl, rfl, _, rfl, iteT ⟨_, rfl, _, rfl, b1, b2, dy1, dy2, _, _, rfl, rfl, k1, k2, b1, b2, x, y, rfl, h1, h2, okx, oky, by omega, by omega, fun c H4 s4 hc => ?_⟩⟩
          exact ⟨a, c, t, t', _, _, f, n, rfl, hF3.same s4, hc, hole, okt, ⟨okx, oky⟩, by omega, by show x.size + y.size + 1 ≤ 500; omega, fun d H5 s5 hd => q d H5 (S3.trans (s4.trans s5)) hd⟩
        · refine ⟨_, rfl, rfl, _, rfl, iteF ⟨_, rfl, _, rfl, b1, b2, dy1, dy2, _, _, rfl, rfl, k1, k2, b1, b2, x, y, rfl, h1, h2, okx, oky, by omega, by omega, fun c H4 s4 hc => ?_⟩⟩
          exact ⟨a, c, t, t', _, _, f, n, rfl, hF3.same s4, hc, hole, okt, ⟨okx, oky⟩, by omega, by show x.size + y.size + 1 ≤ 500; omega, fun d H5 s5 hd => q d H5 (S3.trans (s4.trans s5)) hd⟩
      · obtain ⟨n1, n2⟩ := no l r rfl
        unfold sprF at hsp
        rw [n1, n2] at hsp
        cases hsp
        rcases hwd with z | z <;> cases z
end
end K66

/-! k66: the law: trees drawn and spread. -/
namespace K66
open PySem PySem.Spec PyProof.Rows L2 LamX NdefX Own
abbrev sLeaf : Stmt := topS 55
abbrev sSide : Stmt := topS 56
abbrev sAdd : Stmt := topS 57
abbrev sSpo : Stmt := topS 58
abbrev sHs : Stmt := topS 60
abbrev nHs : List Str := ["_law_rows", "_law_step", "_law_words_here", "_law_part"]
theorem blkHs : BlkOk nHs (defScope sHs) (zSc (zVal (zAt sHs 0))) [("_law_part", 3)] := blkOk_by (by decide +kernel)
theorem str_same (a b : Str) : decide (V.str a = V.str b) = decide (a = b) := by
  by_cases z : a = b
  · subst z; simp
  · rw [decide_eq_false z, decide_eq_false fun y => z (V.str.inj y)]
/-- names that stand -/
def NmsAt (H : Hp) (l : Addr) : Prop := ∃ ws : List Str, H l = some (.lst (ws.map V.str)) ∧ ws ≠ [] ∧ ws.length ≤ 100 ∧ ∀ x ∈ ws, nmOk x = true
theorem NmsAt.keep {H H' : Hp} {l d : Addr} {B : Int} (h : NmsAt H l) (p : Pen H d B) (k : KeepP d H H') : NmsAt H' l := by
  obtain ⟨ws, e, r⟩ := h
  exact ⟨ws, k.lst p.g e, r⟩
theorem NmsAt.same {H H' : Hp} {l : Addr} (h : NmsAt H l) (s : Same H H') : NmsAt H' l := by
  obtain ⟨ws, e, r⟩ := h
  exact ⟨ws, s _ _ e, r⟩
section
variable {P : Program} {w : World} {K : PySem.W.Frag} {mg : Str → Option Value} {base : Heap}
theorem scLeaf : FnScope ["_law_tape", "_law_names", "_law_figures_here"] ["_law_tape", "_law_names", "_law_figures_here"] (defScope sLeaf) := ⟨rfl, rfl, rfl, by decide +kernel, rfl, by decide +kernel, by decide +kernel⟩
def spLeaf : Sp := fun vs H Q _ => ∃ (d l : Addr) (n : Nat) (B : Int), vs = [.ref d, .ref l, nV n] ∧ 1 ≤ n ∧ n ≤ 140 ∧ NmsAt H l ∧ Pen H d B ∧ B ≤ 600000000 ∧ ∀ (v : V) (t : Fm) (H' : Hp), TrAt H' t v → t.ok → t.size = 1 → KeepP d H H' → Pen H' d (B + 300) → Q v H'
theorem ok_leaf (A : At K mg "_law_leaf" sLeaf ["_law_tape", "_law_names", "_law_figures_here"]) (B : Blt mg) (D1 : DefOk P w K mg base CX0 "_law_draw" 1 ["_law_tape", "_law_limit"] spDraw) (D2 : DefOk P w K mg base CX0 "_law_pick" 2 ["_law_tape", "_law_some"] spPick) (D5 : DefOk P w K mg base CX0 "_law_size" 3 ["_law_tape", "_law_figures_here"] spSize) (D6 : DefOk P w K mg base CX0 "_law_figures" 3 ["_law_tape", "_law_most"] spFigs) : DefOk P w K mg base CX0 "_law_leaf" 4 ["_law_tape", "_law_names", "_law_figures_here"] spLeaf := by
  refine A.ok fun f fd F => F.ok scLeaf (fun vs H Q E h => ?_) (fun cdv A outer s H vs Q E hr h => ?_)
  · obtain ⟨d, l, n, B, rfl, _⟩ := h
    rfl
  · obtain ⟨d, l, n, B0, rfl, n1, hn, hN, hp, hB, q⟩ := h
    refine ⟨_, pss_cons (ps_if (PW.pt (pw_or (pt_cmpR (op_eqNil hr.units) (pv 1) (pe_lst pa_nil) (nomark _)) (pw_or1 (pt_cmpR op_eq (pe_def D1 hr (by decide) (by rfl) pass0 (pa_cons (pv 0) (pa_cons pe_int pa_nil))) pe_int (nomark _))))) (pss_one (ps_ret (pe_tup (pa_cons pe_str (pa_cons (pe_def D5 hr (by decide) (by rfl) pass0 (pa_cons (pv 0) (pa_cons (pv 2) pa_nil))) (pa_cons (pe_def D6 hr (by decide) (by rfl) pass0 (pa_cons (pv 0) (pa_cons (pv 2) pa_nil))) pa_nil)))))) pss_nil)
      (pss_one (ps_ret (pe_tup (pa_cons pe_str (pa_cons (pe_def D2 hr (by decide) (by rfl) pass0 (pa_cons (pv 0) (pa_cons (pv 1) pa_nil))) pa_nil))))), ?_⟩
    obtain ⟨ws, hl, wne, wl, wok⟩ := id hN
    refine ⟨_, rfl, by show 0 ≤ sizeLine; decide, fun z nz => ?_⟩
    have sz := same_new (o := HO.lst []) nz
    have ez : upd H z (HO.lst []) z = some (.lst []) := upd_same
    generalize upd H z (HO.lst []) = H1 at sz ez ⊢
    have k1 : KeepP d H H1 := KeepG.same sz
    have p1 := hp.same sz
    refine ⟨l, z, ws.map V.str, rfl, rfl, SqL.of (sz _ _ hl), SqL.of ez, _, rfl, ?_⟩
    rw [show decide (ws.map V.str = []) = false from decide_eq_false fun y => wne (List.map_eq_nil_iff.mp y)]
    refine iteF ⟨_, rfl, d, 3, _, rfl, p1, by omega, by decide, by decide, fun u H2 u0 u1 k2 p2 => ⟨rfl, _, rfl, ite2 (fun _ => ?_) (fun _ => ?_)⟩⟩
    · refine ⟨_, rfl, _, rfl, d, n, _, rfl, n1, hn, p2, by omega, fun x H3 hx k3 p3 => ?_⟩
      refine ⟨_, rfl, _, rfl, d, n, _, rfl, by omega, p3, by omega, fun y H4 hy k4 p4 => ?_⟩
      refine ⟨by show 3 ≤ sizeLine; decide, fun r nr => ?_⟩
      have sr := same_new (o := HO.tup [V.str "constant", nV x, nV y]) nr
      exact q (.ref r) (.con x y) _ ⟨r, rfl, upd_same⟩ trivial rfl ((((k1.trans k2).trans k3).trans k4).trans (KeepG.same sr)) ((p4.same sr).mono (by omega))
    · have hl2 := k2.lst p1.g (sz _ _ hl)
      refine ⟨_, rfl, _, rfl, d, _, p2, by omega, .inl ⟨l, _, rfl, hl2, fun y => wne (List.map_eq_nil_iff.mp y), by rw [List.length_map]; omega, fun x H3 hx k3 p3 => ?_⟩⟩
      obtain ⟨y, hy, rfl⟩ := List.mem_map.mp hx
      refine ⟨by show 2 ≤ sizeLine; decide, fun r nr => ?_⟩
      have sr := same_new (o := HO.tup [V.str "column", V.str y]) nr
      exact q (.ref r) (.col y) _ ⟨r, rfl, upd_same⟩ (wok y hy) rfl (((k1.trans k2).trans k3).trans (KeepG.same sr)) ((p3.same sr).mono (by omega))
theorem scSide : FnScope ["_law_tape", "_law_names", "_law_one", "_law_other"] ["_law_tape", "_law_names"] (defScope sSide) := ⟨rfl, rfl, rfl, by decide +kernel, rfl, by decide +kernel, by decide +kernel⟩
def spSide : Sp := fun vs H Q _ => ∃ (d l : Addr) (B : Int), vs = [.ref d, .ref l] ∧ NmsAt H l ∧ Pen H d B ∧ B ≤ 500000000 ∧ ∀ (v : V) (t : Fm) (H' : Hp), TrAt H' t v → t.ok → t.size ≤ 3 → KeepP d H H' → Pen H' d (B + 700) → Q v H'
theorem ok_side (A : At K mg "_law_side" sSide ["_law_tape", "_law_names"]) (B : Blt mg) (D2 : DefOk P w K mg base CX0 "_law_pick" 2 ["_law_tape", "_law_some"] spPick) (D7 : DefOk P w K mg base CX0 "_law_leaf" 4 ["_law_tape", "_law_names", "_law_figures_here"] spLeaf) : DefOk P w K mg base CX0 "_law_side" 5 ["_law_tape", "_law_names"] spSide := by
  refine A.ok fun f fd F => F.ok scSide (fun vs H Q E h => ?_) (fun cdv A outer s H vs Q E hr h => ?_)
  · obtain ⟨d, l, B, rfl, _⟩ := h
    rfl
  · obtain ⟨d, l, B0, rfl, hN, hp, hB, q⟩ := h
    have nd := scSide.nd
    refine ⟨_, pss_cons (ps_par (i := 2) (j := 3) (by rfl) nd rfl rfl (by decide) rfl rfl (pa_cons (pe_def D7 hr (by decide) (by rfl) pass0 (pa_cons (pv 0) (pa_cons (pv 1) (pa_cons pe_int pa_nil)))) (pa_cons (pe_def D7 hr (by decide) (by rfl) pass0 (pa_cons (pv 0) (pa_cons (pv 1) (pa_cons pe_int pa_nil)))) pa_nil)) (by rfl))
      (pss_one (ps_ret (pe_def D2 hr (by decide) (by rfl) pass0 (pa_cons (pv 0) (pa_cons (pe_lst (pa_cons (pv 2) (pa_cons (pv 2) (pa_cons (pe_tup (pa_cons pe_str (pa_cons (pv 2) (pa_cons (pv 3) pa_nil)))) (pa_cons (pe_tup (pa_cons pe_str (pa_cons (pv 2) pa_nil))) (pa_cons (pe_tup (pa_cons pe_str (pa_cons (pv 2) (pa_cons (pe_tup (pa_cons pe_str (pa_cons pe_int (pa_cons pe_int pa_nil)))) pa_nil)))) pa_nil)))))) pa_nil))))), ?_⟩
    refine ⟨_, rfl, _, rfl, d, l, 12, _, rfl, by decide, by decide, hN, hp, by omega, fun x tx H1 hx okx szx k1 p1 => ?_⟩
    refine ⟨_, rfl, _, rfl, d, l, 12, _, rfl, by decide, by decide, hN.keep hp k1, p1, by omega, fun y ty H2 hy oky szy k2 p2 => ⟨_, _, rfl, ?_⟩⟩
    dsimp only [gName, List.set]
    have hx2 := hx.ext (ExtT.keep p1 k2)
    have k12 := k1.trans k2
    refine ⟨_, rfl, _, rfl, _, rfl, _, rfl, _, rfl, by show 3 ≤ sizeLine; decide, fun a na => ?_⟩
    have sa := same_new (o := HO.tup [V.str "product", x, y]) na
    have ea : upd H2 a (HO.tup [V.str "product", x, y]) a = some (.tup [V.str "product", x, y]) := upd_same
    generalize upd H2 a (HO.tup [V.str "product", x, y]) = H3 at sa ea ⊢
    refine ⟨_, rfl, by show 2 ≤ sizeLine; decide, fun b nb => ?_⟩
    have sb := same_new (o := HO.tup [V.str "negative", x]) nb
    have eb : upd H3 b (HO.tup [V.str "negative", x]) b = some (.tup [V.str "negative", x]) := upd_same
    generalize upd H3 b (HO.tup [V.str "negative", x]) = H4 at sb eb ⊢
    refine ⟨_, rfl, by show 3 ≤ sizeLine; decide, fun c nc => ?_⟩
    have sc := same_new (o := HO.tup [V.str "constant", V.int 8, V.int 1]) nc
    have ec : upd H4 c (HO.tup [V.str "constant", V.int 8, V.int 1]) c = some (.tup [V.str "constant", V.int 8, V.int 1]) := upd_same
    generalize upd H4 c (HO.tup [V.str "constant", V.int 8, V.int 1]) = H5 at sc ec ⊢
    refine ⟨by show 3 ≤ sizeLine; decide, fun e ne => ?_⟩
    have se := same_new (o := HO.tup [V.str "quotient", x, V.ref c]) ne
    have ee : upd H5 e (HO.tup [V.str "quotient", x, V.ref c]) e = some (.tup [V.str "quotient", x, V.ref c]) := upd_same
    generalize upd H5 e (HO.tup [V.str "quotient", x, V.ref c]) = H6 at se ee ⊢
    refine ⟨by show 5 ≤ sizeLine; decide, fun g ng => ?_⟩
    have sg := same_new (o := HO.lst [x, x, V.ref a, V.ref b, V.ref e]) ng
    have eg : upd H6 g (HO.lst [x, x, V.ref a, V.ref b, V.ref e]) g = some (.lst [x, x, V.ref a, V.ref b, V.ref e]) := upd_same
    generalize upd H6 g (HO.lst [x, x, V.ref a, V.ref b, V.ref e]) = H7 at sg eg ⊢
    have S27 := sa.trans (sb.trans (sc.trans (se.trans sg)))
    have p7 := p2.same S27
    refine ⟨d, _, p7, by omega, .inl ⟨g, _, rfl, eg, by simp, by show 5 ≤ 1000; decide, fun v H8 hv k8 p8 => ?_⟩⟩
    have x7 := ExtT.keep p7 k8
    have kk := (k12.trans (KeepG.same S27)).trans k8
    have pp := p8.mono (B' := B0 + 700) (by omega)
    have hx7 := hx2.same S27
    have hy7 := hy.same S27
    simp only [List.mem_cons, List.not_mem_nil, or_false] at hv
    rcases hv with rfl | rfl | rfl | rfl | rfl
    · exact q _ tx H8 (hx7.ext x7) okx (by omega) kk pp
    · exact q _ tx H8 (hx7.ext x7) okx (by omega) kk pp
    · exact q _ (.bin .prd tx ty) H8 (TrAt.ext x7 (t := .bin .prd tx ty) ⟨a, x, y, rfl, (sb.trans (sc.trans (se.trans sg))) _ _ ea, hx7, hy7⟩) ⟨okx, oky⟩ (by show tx.size + ty.size + 1 ≤ 3; omega) kk pp
    · exact q _ (.neg tx) H8 (TrAt.ext x7 (t := .neg tx) ⟨b, x, rfl, (sc.trans (se.trans sg)) _ _ eb, hx7⟩) okx (by show tx.size + 1 ≤ 3; omega) kk pp
    · exact q _ (.bin .quo tx (.con 8 1)) H8 (TrAt.ext x7 (t := .bin .quo tx (.con 8 1)) ⟨e, x, .ref c, rfl, sg _ _ ee, hx7, c, rfl, (se.trans sg) _ _ ec⟩) ⟨okx, trivial⟩ (by show tx.size + 1 + 1 ≤ 3; omega) kk pp
theorem scAdd : FnScope ["_law_tape", "_law_names"] ["_law_tape", "_law_names"] (defScope sAdd) := ⟨rfl, rfl, rfl, by decide +kernel, rfl, by decide +kernel, by decide +kernel⟩
def spAdd : Sp := fun vs H Q _ => ∃ (d l : Addr) (B : Int), vs = [.ref d, .ref l] ∧ NmsAt H l ∧ Pen H d B ∧ B ≤ 400000000 ∧ ∀ (v : V) (t : Fm) (H' : Hp), TrAt H' t v → t.ok → t.size ≤ 7 → (Sm t).isSome = true → KeepP d H H' → Pen H' d (B + 2000) → Q v H'
theorem ok_add (A : At K mg "_law_added" sAdd ["_law_tape", "_law_names"]) (B : Blt mg) (D2 : DefOk P w K mg base CX0 "_law_pick" 2 ["_law_tape", "_law_some"] spPick) (D8 : DefOk P w K mg base CX0 "_law_side" 5 ["_law_tape", "_law_names"] spSide) : DefOk P w K mg base CX0 "_law_added" 6 ["_law_tape", "_law_names"] spAdd := by
  refine A.ok fun f fd F => F.ok scAdd (fun vs H Q E h => ?_) (fun cdv A outer s H vs Q E hr h => ?_)
  · obtain ⟨d, l, B, rfl, _⟩ := h
    rfl
  · obtain ⟨d, l, B0, rfl, hN, hp, hB, q⟩ := h
    refine ⟨_, pss_one (ps_ret (pe_tup (pa_cons (pe_def D2 hr (by decide) (by rfl) pass0 (pa_cons (pv 0) (pa_cons (pe_lst (pa_cons pe_str (pa_cons pe_str pa_nil))) pa_nil))) (pa_cons (pe_def D8 hr (by decide) (by rfl) pass0 (pa_cons (pv 0) (pa_cons (pv 1) pa_nil))) (pa_cons (pe_def D8 hr (by decide) (by rfl) pass0 (pa_cons (pv 0) (pa_cons (pv 1) pa_nil))) pa_nil))))), ?_⟩
    refine ⟨_, rfl, by show 2 ≤ sizeLine; decide, fun g ng => ?_⟩
    have sg := same_new (o := HO.lst [V.str "sum", V.str "difference"]) ng
    have eg : upd H g (HO.lst [V.str "sum", V.str "difference"]) g = some (.lst [V.str "sum", V.str "difference"]) := upd_same
    generalize upd H g (HO.lst [V.str "sum", V.str "difference"]) = H1 at sg eg ⊢
    have p1 := hp.same sg
    refine ⟨d, _, p1, by omega, .inl ⟨g, _, rfl, eg, by simp, by show 2 ≤ 1000; decide, fun v H2 hv k2 p2 => ?_⟩⟩
    have hN2 := (hN.same sg).keep p1 k2
    refine ⟨_, rfl, _, rfl, d, l, _, rfl, hN2, p2, by omega, fun x tx H3 hx okx szx k3 p3 => ?_⟩
    refine ⟨_, rfl, _, rfl, d, l, _, rfl, hN2.keep p2 k3, p3, by omega, fun y ty H4 hy oky szy k4 p4 => ?_⟩
    have hx4 := hx.ext (ExtT.keep p3 k4)
    refine ⟨by show 3 ≤ sizeLine; decide, fun r nr => ?_⟩
    have sr := same_new (o := HO.tup [v, x, y]) nr
    have er : upd H4 r (HO.tup [v, x, y]) r = some (.tup [v, x, y]) := upd_same
    have kk := ((((KeepG.same sg).trans k2).trans k3).trans k4).trans (KeepG.same sr)
    have pp := (p4.same sr).mono (B' := B0 + 2000) (by omega)
    simp only [List.mem_cons, List.not_mem_nil, or_false] at hv
    rcases hv with rfl | rfl
    · exact q _ (.bin .sum tx ty) _ ⟨r, x, y, rfl, er, hx4.same sr, hy.same sr⟩ ⟨okx, oky⟩ (by show tx.size + ty.size + 1 ≤ 7; omega) rfl kk pp
    · exact q _ (.bin .dif tx ty) _ ⟨r, x, y, rfl, er, hx4.same sr, hy.same sr⟩ ⟨okx, oky⟩ (by show tx.size + ty.size + 1 ≤ 7; omega) rfl kk pp
end
end K66

/-! k66: the law: a product spread as a tree; whether a step has a sum. -/
namespace K66
open PySem PySem.Spec PyProof.Rows L2 LamX NdefX Own
theorem TrAt.head {H : Hp} {t : Fm} {v : V} (h : TrAt H t v) : ∃ p rest, v = .ref p ∧ H p = some (.tup (.str (t.root 0).word :: rest)) := by
  cases t with
  | col x => obtain ⟨p, e1, e2⟩ := h; exact ⟨p, _, e1, e2⟩
  | con u s => obtain ⟨p, e1, e2⟩ := h; exact ⟨p, _, e1, e2⟩
  | bin w l r => obtain ⟨p, a, b, e1, e2, _⟩ := h; exact ⟨p, _, e1, e2⟩
  | neg t => obtain ⟨p, a, e1, e2, _⟩ := h; exact ⟨p, _, e1, e2⟩
  | cst t w s => obtain ⟨p, a, e1, e2, _⟩ := h; exact ⟨p, _, e1, e2⟩
  | rnd t s y => obtain ⟨p, a, e1, e2, _⟩ := h; exact ⟨p, _, e1, e2⟩
section
variable {P : Program} {w : World} {K : PySem.W.Frag} {mg : Str → Option Value} {base : Heap}
theorem scSpo : FnScope ["_law_tree", "_law_left", "_law_right"] ["_law_tree"] (defScope sSpo) := ⟨rfl, rfl, rfl, by decide +kernel, rfl, by decide +kernel, by decide +kernel⟩
def spSpo : Sp := fun vs H Q _ => ∃ (v : V) (l r : Fm), vs = [v] ∧ TrAt H (.bin .prd l r) v ∧ ((Sm r).isSome = true ∨ (Sm l).isSome = true) ∧ ∀ (u : V) (H' : Hp), Same H H' → TrAt H' (sprF l r) u → Q u H'
theorem ok_spo (A : At K mg "_law_spread_out" sSpo ["_law_tree"]) (B : Blt mg) : DefOk P w K mg base CX0 "_law_spread_out" 1 ["_law_tree"] spSpo := by
  refine A.ok fun f fd F => F.ok scSpo (fun vs H Q E h => ?_) (fun cdv A outer s H vs Q E hr h => ?_)
  · obtain ⟨v, l, r, rfl, _⟩ := h
    rfl
  · obtain ⟨v, l, r, rfl, hT, hS, q⟩ := h
    have nd := scSpo.nd
    refine ⟨_, pss_cons (ps_par (i := 1) (j := 2) (by rfl) nd rfl rfl (by decide) rfl rfl (pa_cons (pe_ix ix_tup (pv 0) pe_int (fun _ _ => rfl)) (pa_cons (pe_ix ix_tup (pv 0) pe_int (fun _ _ => rfl)) pa_nil)) (by rfl))
      (pss_cons (ps_if (pt_cmpR op_in_seq (pe_ix ix_tup (pv 2) pe_int (fun _ _ => rfl)) (pe_tup (pa_cons pe_str (pa_cons pe_str pa_nil))) (by rfl)) (pss_one (ps_ret (pe_tup (pa_cons (pe_ix ix_tup (pv 2) pe_int (fun _ _ => rfl)) (pa_cons (pe_tup (pa_cons pe_str (pa_cons (pv 1) (pa_cons (pe_ix ix_tup (pv 2) pe_int (fun _ _ => rfl)) pa_nil)))) (pa_cons (pe_tup (pa_cons pe_str (pa_cons (pv 1) (pa_cons (pe_ix ix_tup (pv 2) pe_int (fun _ _ => rfl)) pa_nil)))) pa_nil)))))) pss_nil)
      (pss_one (ps_ret (pe_tup (pa_cons (pe_ix ix_tup (pv 1) pe_int (fun _ _ => rfl)) (pa_cons (pe_tup (pa_cons pe_str (pa_cons (pe_ix ix_tup (pv 1) pe_int (fun _ _ => rfl)) (pa_cons (pv 2) pa_nil)))) (pa_cons (pe_tup (pa_cons pe_str (pa_cons (pe_ix ix_tup (pv 1) pe_int (fun _ _ => rfl)) (pa_cons (pv 2) pa_nil)))) pa_nil))))))), ?_⟩
    obtain ⟨p, x, y, rfl, e0, hl, hr0⟩ := hT
    refine ⟨_, rfl, p, _, 1, _, rfl, rfl, SqT.of e0, rfl, _, rfl, p, _, 2, _, rfl, rfl, SqT.of e0, rfl, _, _, rfl, ?_⟩
    dsimp only [gName, List.set]
    obtain ⟨pr, rest, rfl, er⟩ := hr0.head
    refine ⟨_, rfl, pr, _, 0, _, rfl, rfl, SqT.of er, atI_nat (j := 0) rfl, by show 2 ≤ sizeLine; decide, fun g ng => ?_⟩
    have sg := same_new (o := HO.tup [V.str "sum", V.str "difference"]) ng
    have eg : upd H g (HO.tup [V.str "sum", V.str "difference"]) g = some (.tup [V.str "sum", V.str "difference"]) := upd_same
    generalize upd H g (HO.tup [V.str "sum", V.str "difference"]) = H1 at sg eg ⊢
    refine ⟨g, _, rfl, .inr (SqT.of eg), rfl, by decide +kernel, _, rfl, ?_⟩
    rw [show (if false = true then !inV (V.str (r.root 0).word) [V.str "sum", V.str "difference"] else inV (V.str (r.root 0).word) [V.str "sum", V.str "difference"]) = (Sm r).isSome from (inV_txt (r.root 0).word smL).trans (sm_word r 0)]
    clear er rest
    cases hsm : Sm r with
    | some wab =>
      obtain ⟨w, a, b⟩ := wab
      obtain ⟨rfl, hwd⟩ := sm_some hsm
      obtain ⟨pr', va, vb, z, er, ha, hb⟩ := hr0
      cases z
      have er1 := sg _ _ er
      refine iteT ?_
      refine ⟨_, rfl, pr, _, 0, _, rfl, rfl, SqT.of er1, rfl, _, rfl, _, rfl, pr, _, 1, _, rfl, rfl, SqT.of er1, rfl, by show 3 ≤ sizeLine; decide, fun c nc => ?_⟩
      have sc := same_new (o := HO.tup [V.str "product", x, va]) nc
      have ec : upd H1 c (HO.tup [V.str "product", x, va]) c = some (.tup [V.str "product", x, va]) := upd_same
      generalize upd H1 c (HO.tup [V.str "product", x, va]) = H2 at sc ec ⊢
      have er2 := sc _ _ er1
      refine ⟨_, rfl, _, rfl, pr, _, 2, _, rfl, rfl, SqT.of er2, rfl, by show 3 ≤ sizeLine; decide, fun d nd => ?_⟩
      have sd := same_new (o := HO.tup [V.str "product", x, vb]) nd
      have ed : upd H2 d (HO.tup [V.str "product", x, vb]) d = some (.tup [V.str "product", x, vb]) := upd_same
      generalize upd H2 d (HO.tup [V.str "product", x, vb]) = H3 at sd ed ⊢
      refine ⟨by show 3 ≤ sizeLine; decide, fun e ne => ?_⟩
      have se := same_new (o := HO.tup [V.str w.txt, V.ref c, V.ref d]) ne
      have ee : upd H3 e (HO.tup [V.str w.txt, V.ref c, V.ref d]) e = some (.tup [V.str w.txt, V.ref c, V.ref d]) := upd_same
      generalize upd H3 e (HO.tup [V.str w.txt, V.ref c, V.ref d]) = H4 at se ee ⊢
      have sAll := sg.trans (sc.trans (sd.trans se))
      refine q _ _ sAll ?_
      unfold sprF
      rw [hsm]
      exact ⟨e, .ref c, .ref d, rfl, ee, ⟨c, x, va, rfl, (sd.trans se) _ _ ec, hl.same sAll, ha.same sAll⟩, ⟨d, x, vb, rfl, se _ _ ed, hl.same sAll, hb.same sAll⟩⟩
    | none =>
      rw [hsm] at hS
      cases hsl : Sm l with
      | none =>
        rw [hsl] at hS
        rcases hS with z | z <;> cases z
      | some wab =>
      obtain ⟨w, a, b⟩ := wab
      obtain ⟨rfl, hwd⟩ := sm_some hsl
      obtain ⟨pl, va, vb, rfl, el, ha, hb⟩ := hl
      have el1 := sg _ _ el
      refine iteF ?_
      refine ⟨_, rfl, pl, _, 0, _, rfl, rfl, SqT.of el1, rfl, _, rfl, pl, _, 1, _, rfl, rfl, SqT.of el1, rfl, _, rfl, by show 3 ≤ sizeLine; decide, fun c nc => ?_⟩
      have sc := same_new (o := HO.tup [V.str "product", va, V.ref pr]) nc
      have ec : upd H1 c (HO.tup [V.str "product", va, V.ref pr]) c = some (.tup [V.str "product", va, V.ref pr]) := upd_same
      generalize upd H1 c (HO.tup [V.str "product", va, V.ref pr]) = H2 at sc ec ⊢
      have el2 := sc _ _ el1
      refine ⟨_, rfl, pl, _, 2, _, rfl, rfl, SqT.of el2, rfl, _, rfl, by show 3 ≤ sizeLine; decide, fun d nd => ?_⟩
      have sd := same_new (o := HO.tup [V.str "product", vb, V.ref pr]) nd
      have ed : upd H2 d (HO.tup [V.str "product", vb, V.ref pr]) d = some (.tup [V.str "product", vb, V.ref pr]) := upd_same
      generalize upd H2 d (HO.tup [V.str "product", vb, V.ref pr]) = H3 at sd ed ⊢
      refine ⟨by show 3 ≤ sizeLine; decide, fun e ne => ?_⟩
      have se := same_new (o := HO.tup [V.str w.txt, V.ref c, V.ref d]) ne
      have ee : upd H3 e (HO.tup [V.str w.txt, V.ref c, V.ref d]) e = some (.tup [V.str w.txt, V.ref c, V.ref d]) := upd_same
      generalize upd H3 e (HO.tup [V.str w.txt, V.ref c, V.ref d]) = H4 at se ee ⊢
      have sAll := sg.trans (sc.trans (sd.trans se))
      refine q _ _ sAll ?_
      unfold sprF
      rw [hsm, hsl]
      exact ⟨e, .ref c, .ref d, rfl, ee, ⟨c, va, .ref pr, rfl, (sd.trans se) _ _ ec, ha.same sAll, hr0.same sAll⟩, ⟨d, vb, .ref pr, rfl, se _ _ ed, hb.same sAll, hr0.same sAll⟩⟩
/-- whether a part is a product with a sum or difference -/
def hsB : Fm → Bool
  | .bin .prd l r => (Sm l).isSome || (Sm r).isSome
  | _ => false
theorem scHs : FnScope nHs ["_law_rows", "_law_step"] (defScope sHs) := ⟨rfl, rfl, rfl, by decide +kernel, rfl, by decide +kernel, by decide +kernel⟩
def spHs : Sp := fun vs H Q _ => ∃ (l : Addr) (rs : List V) (t s : Fm) (f n : Nat), vs = [.ref l, nV n] ∧ H l = some (.lst rs) ∧ RwsAt H rs (t.lay 0) ∧ SubAt (t.lay 0) f s ∧ f + s.size = n + 1 ∧ ∀ H', Same H H' → Q (.bl (hsB s)) H'
theorem ok_hs (A : At K mg "_law_has_sum" sHs ["_law_rows", "_law_step"]) (B : Blt mg) (DLp : DefOk P w K mg base CX0 "_law_parts" 1 ["_law_row"] spLp) : DefOk P w K mg base CX0 "_law_has_sum" 2 ["_law_rows", "_law_step"] spHs := by
  refine A.ok fun f fd F => F.ok scHs (fun vs H Q E h => ?_) (fun cdv A outer s H vs Q E hr h => ?_)
  · obtain ⟨l, rs, t, s, f, n, rfl, _⟩ := h
    rfl
  · obtain ⟨l, rs, t, s, f, n, rfl, hl, hE, hs, hn, q⟩ := h
    have nd := scHs.nd
    refine ⟨_, pss_cons (ps_setLc (i := 2) (own := [("_law_part", 3)]) (te := tOp (rIxT K) (tOp (rIxL K) (tVar 0) (tVar 3)) (tC (.int 0))) rfl nd rfl rfl rfl (pi_list (pe_def DLp hr (by decide) (by rfl) pass0 (pa_cons (pe_ix ix_list (pv 0) (pv 1) (fun _ _ => rfl)) pa_nil))) blkHs (fun _ _ _ _ _ => (pg_name (i := 3) nd rfl (.inl rfl))) (fun _ _ _ _ _ => pts_nil) (fun _ _ _ _ _ => (pe_ix ix_tup (pe_ix ix_list (pv 0) (pv 3) (fun _ _ => rfl)) pe_int (fun _ _ => rfl))))
      (pss_one (ps_ret (pe_and (pe_cmpR op_eq (pe_ix ix_tup (pe_ix ix_list (pv 0) (pv 1) (fun _ _ => rfl)) pe_int (fun _ _ => rfl)) pe_str (nomark _)) (pe_one (pe_or (pe_cmpR op_in_seq pe_str (pv 2) (by rfl)) (pe_one (pe_cmpR op_in_seq pe_str (pv 2) (by rfl)))))))), ?_⟩
    have ps := s.size_pos
    have en : f + s.size - 1 = n := by omega
    have hroot := hs.root
    rw [en] at hroot
    obtain ⟨v1, hv1, a1, rfl, e1⟩ := ents_get hE hroot
    have tin := t.lay_in 0 _ (List.mem_of_getElem? hroot)
    have l2 : (s.root f).parts.length ≤ 2 := by cases s <;> simp [Rw.parts, Fm.root]
    -- the word of a row
    let wd : Nat → Str := fun p => ((t.lay 0)[p]?.map Rw.word).getD ""
    refine ⟨_, rfl, _, rfl, l, _, _, _, rfl, rfl, SqL.of hl, atI_nat hv1, .ref a1, s.root f, rfl, ⟨a1, rfl, e1⟩, fun p H1 s1 ep => ⟨p, rfl, ⟨_, SqL.of ep⟩, fun D nD => ?_⟩⟩
    refine lc_list (xs := (s.root f).parts.map nV) (fun i H' => Same H1 H' ∧ H' D = some (.lst ((((s.root f).parts.take i).map wd).map V.str))) ⟨same_new nD, upd_same⟩ (fun i H' _ z => SqL.of (z.1 _ _ ep)) ?_ ?_
    · rintro i x H2 hx ⟨s2, hD⟩
      rw [List.getElem?_map] at hx
      obtain ⟨m, hm, rfl⟩ := Option.map_eq_some_iff.mp hx
      have mem := List.mem_of_getElem? hm
      have tk : (s.root f).parts.take (i + 1) = (s.root f).parts.take i ++ [m] := by rw [List.take_succ, hm]; rfl
      have lt : m < (t.lay 0).length := by
        rw [t.lay_len]
        have := (tin m mem).2
        omega
      have hrow : (t.lay 0)[m]? = some ((t.lay 0)[m]) := List.getElem?_eq_getElem lt
      obtain ⟨v2, hv2, a2, rfl, e2⟩ := ents_get hE hrow
      have ew : wd m = ((t.lay 0)[m]).word := by
        show ((t.lay 0)[m]?.map Rw.word).getD "" = _
        rw [hrow]
        rfl
      dsimp only [gName, List.set]
      refine ⟨rfl, ?_⟩
      unfold tYes
      dsimp only
      rw [if_pos rfl]
      have S2 := s1.trans s2
      refine ⟨_, rfl, _, rfl, l, _, _, _, rfl, rfl, SqL.of (S2 _ _ hl), atI_nat hv2, a2, _, 0, _, rfl, rfl, SqT.of (S2 _ _ e2), atI_nat (j := 0) rfl, _, hD, ?_, fun c o z => ?_, ?_⟩
      · rw [List.length_map, List.length_map, List.length_take]
        have sz := sizeLine_eq
        omega
      · rw [upd_ne (ne_of_none z nD)]
        exact s2 _ _ z
      · rw [upd_same, tk, List.map_append, List.map_append]
        show some (HO.lst (_ ++ [V.str ((t.lay 0)[m]).word])) = _
        rw [← ew]
        rfl
    · rintro H2 ⟨s2, hD⟩
      rw [List.length_map, List.take_length] at hD
      dsimp only [gName, List.set]
      have S2 := s1.trans s2
      refine ⟨_, rfl, _, rfl, l, _, _, _, rfl, rfl, SqL.of (S2 _ _ hl), atI_nat hv1, a1, _, 0, _, rfl, rfl, SqT.of (S2 _ _ e1), atI_nat (j := 0) rfl, rfl, _, rfl, ?_⟩
      cases hw : decide (V.str (s.root f).word = V.str "product") with
      | false =>
        have : hsB s = false := by
          cases s with
          | bin w a b =>
            cases w with
            | prd => exact absurd hw (by
                rw [show decide (V.str ((Fm.bin .prd a b).root f).word = V.str "product") = true from decide_eq_true rfl]
                decide)
            | _ => rfl
          | _ => rfl
        rw [this] at q
        exact iteF (q _ S2)
      | true =>
        obtain ⟨a, b, rfl⟩ := word_prd s f hw
        have w1 : wd (f + a.size - 1) = (a.root f).word := by
          show ((t.lay 0)[f + a.size - 1]?.map Rw.word).getD "" = _
          rw [hs.left.root]
          rfl
        have w2 : wd (f + a.size + b.size - 1) = (b.root (f + a.size)).word := by
          show ((t.lay 0)[f + a.size + b.size - 1]?.map Rw.word).getD "" = _
          rw [hs.right.root]
          rfl
        have hD : H2 D = some (.lst ([(a.root f).word, (b.root (f + a.size)).word].map V.str)) := by
          rw [hD, ← w1, ← w2]
          rfl
        have key : hsB (.bin .prd a b) = (decide (("sum" : Str) ∈ [(a.root f).word, (b.root (f + a.size)).word]) || decide (("difference" : Str) ∈ [(a.root f).word, (b.root (f + a.size)).word])) := by
          show ((Sm a).isSome || (Sm b).isSome) = _
          rw [← sm_word a f, ← sm_word b (f + a.size)]
          rw [Bool.eq_iff_iff]
          simp only [Bool.or_eq_true, decide_eq_true_eq, List.mem_cons, List.not_mem_nil, or_false]
          constructor
          · rintro ((h | h) | (h | h))
            · exact .inl (.inl h.symm)
            · exact .inr (.inl h.symm)
            · exact .inl (.inr h.symm)
            · exact .inr (.inr h.symm)
          · rintro ((h | h) | (h | h))
            · exact .inl (.inl h.symm)
            · exact .inr (.inl h.symm)
            · exact .inl (.inr h.symm)
            · exact .inr (.inr h.symm)
        rw [key] at q
        refine iteT ?_
        refine ⟨_, rfl, D, _, rfl, .inl (SqL.of hD), rfl, rfl, _, rfl, ?_⟩
        rw [show (if false = true then !inV (V.str "sum") ([(a.root f).word, (b.root (f + a.size)).word].map V.str) else inV (V.str "sum") ([(a.root f).word, (b.root (f + a.size)).word].map V.str)) = decide (("sum" : Str) ∈ [(a.root f).word, (b.root (f + a.size)).word]) from inV_txt _ _]
        cases h1 : decide (("sum" : Str) ∈ [(a.root f).word, (b.root (f + a.size)).word]) with
        | true =>
          rw [h1, Bool.true_or] at q
          exact iteT (q _ S2)
        | false =>
          rw [h1, Bool.false_or] at q
          refine iteF ⟨_, rfl, D, _, rfl, .inl (SqL.of hD), rfl, rfl, ?_⟩
          rw [show (if false = true then !inV (V.str "difference") ([(a.root f).word, (b.root (f + a.size)).word].map V.str) else inV (V.str "difference") ([(a.root f).word, (b.root (f + a.size)).word].map V.str)) = decide (("difference" : Str) ∈ [(a.root f).word, (b.root (f + a.size)).word]) from inV_txt _ _]
          exact q _ S2
end
end K66

set_option maxHeartbeats 2000000
/-! own layer, of no law: OWP6: repr of small values, tuples and dicts too, told by what is under way around. -/
namespace Own
open PySem PySem.Spec PyProof.Rows L2 LamX NdefX
/-- what is under way is something -/
theorem wpAny_known {α : Type} {M : Model} {A : Around} {t : Sem α} {Q : α → Shared → Prop} {E : Value → Shared → Prop} {s : Shared} (h : ∀ g, wpAny M { A with guards := some g } t Q E s) : wpAny M A t Q E s := by
  intro Γ p i
  obtain ⟨i1, i2, i3, i4, i5⟩ := i
  exact h (Γ.code.guards ++ guardsOf Γ.below) Γ p ⟨i1, i2, i3, fun g e => Option.some.inj e, i5⟩
/-- the same place, what is under way known -/
def withG (X : Cx) (g : List Code) : Cx := { X with A := { X.A with guards := some g } }
section
variable {X : Cx} {g : List Code} {pins : List (Addr × Obj)} {σ : L2.St} {H : Hp} {s : Shared}
theorem ok_g (h : X.Ok) : (withG X g).Ok := ⟨h.mod, h.kind, h.glob, h.blt, h.above, h.inj, h.has, h.cab, h.hd, h.frames, h.stk, h.exf, h.bs, h.bsz, h.noex, h.exfs, h.funs, h.frf⟩
theorem ok_u (h : (withG X g).Ok) : X.Ok := ⟨h.mod, h.kind, h.glob, h.blt, h.above, h.inj, h.has, h.cab, h.hd, h.frames, h.stk, h.exf, h.bs, h.bsz, h.noex, h.exfs, h.funs, h.frf⟩
theorem inv_g (I : Inv X pins σ H s) : Inv (withG X g) pins σ H s := ⟨ok_g I.ok, I.os, I.bare, I.base, I.loc, I.cell, I.free, I.freeC, I.pin, I.hok, I.len⟩
theorem inv_u (I : Inv (withG X g) pins σ H s) : Inv X pins σ H s := ⟨ok_u I.ok, I.os, I.bare, I.base, I.loc, I.cell, I.free, I.freeC, I.pin, I.hok, I.len⟩
/-- an expression's rule, what is under way being known -/
theorem pe_known {e : Expr} {te : List Code → TE} (h : ∀ g, PE (withG X g) e (te g)) : PE X e (fun σ H Q => ∀ g, te g σ H Q) := by
  constructor
  intro pins s σ H Q I q
  refine wpAny_known fun g => wpAny_mono ((h g).run pins s σ H Q (inv_g I) (q g)) (fun v s' z => ?_) fun _ _ z => z
  obtain ⟨x, H', I', r, q'⟩ := z
  exact ⟨x, H', inv_u I', r, q'⟩
end
theorem pt_known {X : Cx} {e : Expr} {tt : List Code → TT} (h : ∀ g, PT (withG X g) e (tt g)) : PT X e (fun σ H Q => ∀ g, tt g σ H Q) := by
  constructor
  intro pins s σ H Q I q
  refine wpAny_known fun g => wpAny_mono ((h g).run pins s σ H Q (inv_g I) (q g)) (fun v s' z => ?_) fun _ _ z => z
  obtain ⟨H', I', q'⟩ := z
  exact ⟨H', inv_u I', q'⟩
theorem room_g {X : Cx} {g : List Code} {k : Nat} (h : Room k X.A) : Room k (withG X g).A := ⟨h.hd, h.dp, h.un⟩
/-- whether a tuple's, a dict's repr is under way -/
def tupOn (g : List Code) (a : Addr) : Bool := g.any fun c => tupGuardF (.ref a) (c, default)
def dctOn (g : List Code) (a : Addr) : Bool := g.any fun c => dictGuardF (.ref a) (c, default)
section
variable {prog : Program} {w : World} {A : Around} {E : Value → Shared → Prop} {s : Shared} {a : Addr} {o : Obj} {g : List Code} {Q : Value → Shared → Prop}
theorem tup_repr {items : Array Value} {n : Nat} {ts : List Str} (hg : A.guards = some g) (ha : s.heap.get? a = some o) (hc : o.cls = .type "tuple") (hd : o.data = .seq items n) (hT : ReprAll prog w items.toList ts) (hz : (tupleText ts).length ≤ sizeLine)
    (q : ∀ u tk, Q (.str (if tupOn g a = true then "(...)" else tupleText ts) u) { s with toks := tk }) : wpAny (model prog w) A (call (.builtin "tuple.__repr__") [.ref a]) Q E s := by
  refine wpAny_call (codeAny_call_builtin_own (Code.quiet_builtin _ (by decide +kernel)) F.entry_tuple_repr (F.slot_tuple_repr.check _ _ _ _ _ _ _ _ ⟨o, ha, hc⟩ (F.args_tuple_repr_1 _) ?_))
  show wpOwn _ _ _ (Builtin.tupleReprAt 0 ⟨[.ref a], []⟩) _ _ s
  rw [tuple_repr_tree, tupleReprUnderWay_eq]
  refine wpOwn_bind (wpOwn_stackTailAny hg (tupGuardF_off _) (tupGuardF_pos _) (wpOwn_of_wpAny ?_))
  have q' : ∀ b, tupOn g a = b → ∀ u tk, Q (.str (if b = true then "(...)" else tupleText ts) u) { s with toks := tk } := fun b e => e ▸ q
  have split : ∀ b, tupOn g a = b → wpAny (model prog w) (A.under (.builtin "tuple.__repr__" ⟨[.ref a], []⟩)) (if b = true then (do rule "tuple.repr.in-itself"; retStr "(...)") else tupleReprRest 0 (.ref a)) (fun fin s' => match fin with | .done f => callEnd Q E (.ok f) s' | .again c' => c'.quiet = true ∧ codeAny (model prog w) A c' (callEnd Q E) s') (fun e s' => callEnd Q E (.error e) s') s := fun b e => by
    cases b with
    | true =>
      refine PySem.W.KFB.if_so rfl (wpAny_bind (wpAny_rule (wpAny_bind (wpAny_mkStr (wpAny_pure ?_) (by decide +kernel)))))
      exact q' true e _ _
    | false =>
      refine PySem.W.KFB.if_not rfl (wpAny_tupleReprRest ha hd hT (fun u tk => ?_) (by omega))
      exact q' false e u tk
  exact split _ rfl
theorem dct_repr {n : Nat} (hg : A.guards = some g) (ha : s.heap.get? a = some o) (hc : o.cls = .type "dict") (hd : o.data = .dict #[] n) (hs : (a == sysModules) = false)
    (q : ∀ u tk, Q (.str (if dctOn g a = true then "{...}" else "{}") u) { s with toks := tk }) : wpAny (model prog w) A (call (.builtin "dict.__repr__") [.ref a]) Q E s := by
  refine wpAny_call (codeAny_call_builtin_own (Code.quiet_builtin _ (by decide +kernel)) F.entry_dict_repr (F.slot_dict_repr.check _ _ _ _ _ _ _ _ ⟨o, ha, hc⟩ (F.args_dict_repr_1 _) ?_))
  show wpOwn _ _ _ (Builtin.dictReprAt 0 ⟨[.ref a], []⟩) _ _ s
  have q' : ∀ b, dctOn g a = b → ∀ u tk, Q (.str (if b = true then "{...}" else "{}") u) { s with toks := tk } := fun b e => e ▸ q
  unfold Builtin.dictReprAt
  refine wpOwn_bind (wpOwn_of_wpAny ?_)
  unfold Builtin.Dict.dictSlotNone
  refine wpAny_bind (wpAny_notOrdered_dict (show s.TypeIs _ "dict" from ⟨o, ha, hc⟩) (show wpAny _ _ (pure (Value.ref a)) _ _ s from wpAny_pure ?_))
  rw [dictReprRunning_eq]
  refine wpOwn_bind (wpOwn_stackTailAny hg (dictGuardF_off _) (dictGuardF_pos _) (wpOwn_of_wpAny ?_))
  cases e : dctOn g a with
  | true =>
    rw [show (g.any fun c => dictGuardF (.ref a) (c, default)) = true from e]
    refine wpAny_bind (wpAny_rule (wpAny_bind (wpAny_mkStr (wpAny_pure ?_) (by decide +kernel))))
    exact q' true e _ _
  | false =>
    rw [show (g.any fun c => dictGuardF (.ref a) (c, default)) = false from e]
    rw [if_neg (by decide)]
    refine wpAny_bind (show wpAny _ _ (Builtin.Dict.addrOf (.ref a)) _ _ s from wpAny_pure ?_)
    refine wpAny_bind ?_
    unfold Builtin.Dict.showsAll
    rw [hs, if_neg (by decide)]
    refine wpAny_pure (wpAny_bind (wpAny_dictEpoch ha hd (wpAny_bind (wpAny_dictEntries ha hd ?_))))
    refine wpAny_bind ?_
    rw [Std.Legacy.Range.forIn_eq_forIn_range']
    show wpAny _ _ (pure _) _ _ s
    refine wpAny_pure (wpAny_bind (wpAny_mkStr (wpAny_pure ?_) (by decide +kernel)))
    exact q' false e _ _
end
/-- v's repr, where g is under way -/
inductive RpAt (g : List Code) (H : Hp) : V → Str → Prop
  | non : RpAt g H .non "None"
  | bl (b : Bool) : RpAt g H (.bl b) (if b then "True" else "False")
  | int (i : Int) (h : i.natAbs.log2 < 1920) : RpAt g H (.int i) (toString i)
  | str (z : Str) (h : (reprText z).length ≤ sizeLine) : RpAt g H (.str z) (reprText z)
  | tup1 {a : Addr} (i : Int) (h : i.natAbs.log2 < 1920) (hz : (tupleText [toString i]).length ≤ sizeLine) (e : H a = some (.tup [.int i])) : RpAt g H (.ref a) (if tupOn g a = true then "(...)" else tupleText [toString i])
  | lst0 {a : Addr} (e : H a = some (.lst [])) : RpAt g H (.ref a) "[]"
  | dct0 {a : Addr} (e : H a = some (.dK [])) : RpAt g H (.ref a) (if dctOn g a = true then "{...}" else "{}")
theorem RpAt.same {g : List Code} {H H' : Hp} {v : V} {z : Str} (h : RpAt g H v z) (s : Same H H') : RpAt g H' v z := by
  cases h with
  | non => exact .non
  | bl b => exact .bl b
  | int i h => exact .int i h
  | str z h => exact .str z h
  | tup1 i h hz e => exact .tup1 i h hz (s _ _ e)
  | lst0 e => exact .lst0 (s _ _ e)
  | dct0 e => exact .dct0 (s _ _ e)
theorem call_reprG {X : Cx} {g : List Code} (hg : X.A.guards = some g) (hu : X.A.units + 64 < cLine) : CallR X (.builtin "repr") (fun xs H Q => ∃ v z, xs = [v] ∧ RpAt g H v z ∧ Q (.str z) H) := by
  intro pins s σ H xs us Q I r h
  obtain ⟨v, z, rfl, hv, q⟩ := h
  obtain ⟨u, rfl, rx⟩ := vals1 r
  cases hv with
  | non =>
    cases rx
    exact PySem.P.repr_of_none ⟨.str _, H, I.tok _, ⟨_, rfl⟩, q⟩
  | bl b =>
    cases rx
    exact PySem.P.repr_of_bool ⟨.str _, H, I.tok _, ⟨_, rfl⟩, q⟩
  | int i hz =>
    obtain ⟨t, rfl⟩ := rx
    exact PySem.P.repr_of_int hz ⟨.str _, H, I.tok _, ⟨_, rfl⟩, q⟩
  | str y hz =>
    obtain ⟨t, rfl⟩ := rx
    exact PySem.P.repr_of_str ⟨.str _, H, I.tok _, ⟨_, rfl⟩, q⟩ hz
  | @tup1 a i hi hz e =>
    cases rx
    obtain ⟨its, rv, ⟨o, ho, hc, n, hd⟩, _⟩ := I.tuple (SqT.of (K := X.K) e)
    have hT : ReprAll X.prog X.w its [toString i] := by
      cases rv with
      | cons r1 r2 =>
        cases r2
        obtain ⟨t, rfl⟩ := r1
        exact .cons (ReprIs.int t hi) .nil
    refine call_repr_slot (by omega) ⟨o, ho, hc⟩ F.slot_tuple_repr (tup_repr (g := g) hg ho hc hd (by simpa using hT) hz fun u tk => ⟨_, _, rfl, .str _, H, I.tok _, ⟨_, rfl⟩, q⟩)
  | @lst0 a e =>
    cases rx
    obtain ⟨its, rv, ⟨o, n, ho, hc, hdn, hd⟩, _⟩ := I.list (SqL.of (K := X.K) e)
    cases rv
    refine call_repr_slot (by omega) ⟨o, ho, hc⟩ F.slot_list_repr.toG (call_list_repr_empty ⟨o, ho, hc⟩ ho hd ⟨_, _, rfl, .str _, H, I.tok _, ⟨_, rfl⟩, q⟩)
  | @dct0 a e =>
    cases rx
    obtain ⟨_, hs, vs, kv, o, es, ep, ho, xd, hd, ko, pr, _⟩ := (show ObjOk X.prog X.w H s.heap a (.dK []) from I.hok a _ e)
    cases kv
    have : es = #[] := by
      have z : es.toList = [] := by
        generalize es.toList = l at pr
        cases pr
        rfl
      exact Array.toList_eq_nil_iff.mp z
    subst this
    refine call_repr_slot (by omega) ⟨o, ho, xd.1⟩ F.slot_dict_repr (dct_repr (g := g) hg ho xd.1 hd hs fun u tk => ⟨_, _, rfl, .str _, H, I.tok _, ⟨_, rfl⟩, q⟩)
/-- a def whose answer is told by what is under way around -/
structure GDef (P : Program) (w : World) (K : PySem.W.Frag) (mg : Str → Option Value) (base : Heap) (x : Str) (k : Nat) (sp : List Code → List V → Hp → VK → Prop) : Prop where
  ex : ∃ f : Addr, mg x = some (.ref f) ∧ PySem.W.keepIn K (.ref f) = true ∧ ∀ (A : Around) (outer : List Env) (s : Shared) (H : Hp) (us : List Value) (vs : List V) (Q : VK) (g : List Code), A.guards = some g → Room k A → Env0 P w K mg base A outer s H → Vals vs us → sp g vs H Q →
    codeAny (model P w) A (.call (.ref f) ⟨us, []⟩) (CR CX0 outer P w H s Q E0) s
theorem pe_gdef {X : Cx} {g : List Code} {k j : Nat} {sp : List Code → List V → Hp → VK → Prop} {x : Str} {p pos : Pos} {e : Expr} {es : List Expr} {t : TA} (D : GDef X.prog X.w X.K X.mg X.base x k sp) (hgd : X.A.guards = some g) (hr : Room j X.A) (hj : k ≤ j) (hg : Gl X x) (ha : PA X (e :: es) t) (hdb : (x == ("__debug__" : Str)) = false := by decide)
    (he : starEach (e :: es) X.env = (false, eval e X.env) :: starEach es X.env := by rfl) (hpl : (backTo pos (starEach es X.env)).any (·.1) = false := by rfl) : PE X (.Call (.Name x p) (e :: es) [] pos) (fun σ H Q => t σ H fun vs H1 => sp g vs H1 Q) := by
  obtain ⟨f, gm, kp, R⟩ := D.ex
  constructor
  intro pins s σ H Q I h
  refine wpAny_Call_Name_kw (ld_glob I hg gm ?_ hdb)
  refine PySem.W.callWith_K (h₀ := X.base) I.ok.mod.kin kp (thn (ha.run pos pins s σ H _ I h) ?_) he hpl
  rintro us s1 ⟨vs, H1, I1, r, q⟩
  refine ⟨I1.kIn, wpAny_call (codeAny_mono (R X.A X.stack s1 H1 us vs Q g hgd (hr.mono hj) I1.env0 r q) fun z s' hz => ?_)⟩
  rcases z with er | fl
  · exact (show False from hz).elim
  · cases fl
    case ret u => exact I1.after hz
    all_goals exact False.elim hz
end Own

set_option maxHeartbeats 4000000
/-! own layer, of no law: OWNT: a def called inside try, what it lets out told by the slots. -/
namespace Own
open PySem PySem.Spec PyProof.Rows L2 LamX NdefX
section
variable {X : Cx} {x : Str} {j k : Nat} {ps : List Str} {sp : Sp} {CX : CXT} {E : L2.St → XK} {e : Expr} {es : List Expr} {p pos : Pos} {t : TA}
theorem pe_defS (D : DefOk X.prog X.w X.K X.mg X.base CX x k ps sp) (hr : Room j X.A) (hj : k ≤ j) (hg : Gl X x) (hx : ∀ σ, PassesAt CX X σ (E σ)) (ha : PA X (e :: es) t) (hdb : (x == ("__debug__" : Str)) = false := by decide)
    (he : starEach (e :: es) X.env = (false, eval e X.env) :: starEach es X.env := by rfl) (hpl : (backTo pos (starEach es X.env)).any (·.1) = false := by rfl) : PE X (.Call (.Name x p) (e :: es) [] pos) (tCallS sp E t) := by
  obtain ⟨f, fd, F, g, kp, b⟩ := D.ex
  exact pe_callS F (hr.mono hj) hg g kp b hx ha hdb he hpl
end
end Own

/-! k66: the law: how a step is refused. -/
namespace K66
open PySem PySem.Spec PyProof.Rows L2 LamX NdefX Own
abbrev sDen : Stmt := topS 59
/-- what is refused as a step -/
def Refused (t : Fm) (v : V) : Prop := (∃ (n f : Nat) (s : Fm), v = nV n ∧ SubAt (t.lay 0) f s ∧ f + s.size = n + 1 ∧ s.ok ∧ ∀ l r, s = .bin .prd l r → Sm r = none ∧ Sm l = none) ∨ ∀ n : Nat, v = nV n → t.size ≤ n
section
variable {P : Program} {w : World} {K : PySem.W.Frag} {mg : Str → Option Value} {base : Heap} {CN F FE : Addr}
theorem scDen : FnScope ["_law_formula", "_law_step", "_law_found", "e"] ["_law_formula", "_law_step"] (defScope sDen) := ⟨rfl, rfl, rfl, by decide +kernel, rfl, by decide +kernel, by decide +kernel⟩
def spDen (F : Addr) (g : List Code) (vs : List V) (H : Hp) (Q : VK) : Prop := ∃ (a : Addr) (t : Fm) (v : V) (z : Str), vs = [.ref a, v] ∧ FAt F H a t ∧ t.ok ∧ t.size ≤ 100 ∧ Thing H v ∧ RpAt g H v z ∧ Refused t v ∧ ∀ H', Same H H' → Q (.str z) H'
theorem gd_den (A : At K mg "_law_denied" sDen ["_law_formula", "_law_step"]) (B : Blt mg) (mR : mg "repr" = none) (TN : ErrC P w K mg base "NotASum" "step" 1 CN (spErr CN "step")) (X1 : ExcC K CN) (gF : mg "FigureError" = some (.ref FE)) (kF : PySem.W.kitOne K (.ref CN) (.ref FE) = some true) (DSpr : DefOk P w K mg base (L2.CX P w) "spread" 11 ["formula", "step"] (spSpr CN F)) :
    GDef P w K mg base "_law_denied" 13 (spDen F) := by
  obtain ⟨f0, fd, F0, gm, b⟩ := A.ex
  refine ⟨f0, gm, F0.kp, fun A outer s H us vs Q g hgd hr e0 r h => ?_⟩
  obtain ⟨a, t, v, z, rfl, hF, okt, lt, th, hz, hno, q⟩ := h
  have KX : K.In s.heap := e0.mod.kin.keeps fun b o e => (e0.bs b o e).1
  have hb := b s us KX (by rw [List.append_nil, ← r.length]; rfl)
  rw [List.append_nil] at hb
  obtain ⟨oc, od', kV, doc, pm, an, cdv, ct, osl, rfl, lk, hcd⟩ := F0.ex
  refine LamX.run_ofS (N := ["_law_formula", "_law_step", "_law_found", "e"]) lk hcd scDen hr e0 hb r rfl fun hr' => ?_
  have nd := scDen.nd
  refine ⟨_, pss_cons (ps_set (i := 2) nd rfl (.inl rfl) pe_str)
    (pss_cons (ps_try_as (i := 3) (c := .ref CN) rfl rfl nd rfl rfl ⟨rfl, by decide, .inl TN.g⟩ L2.takes0
        (fun W pn xe tk _ => pss_one (ps_expr (pe_defS DSpr (E := WE W) hr' (by decide) (by rfl) (fun σ => passAt tk σ) (pa_cons (pv 0) (pa_cons (pv 1) pa_nil)))))
        (fun a oe cls d pn zc hf => pss_one (ps_set (i := 2) nd rfl (.inl rfl) (pe_ifExp (pt_val (pe_callB (call_isED X1 zc hf) (by rfl) B.isi (by decide +kernel) (pa_cons (pv 3) (pa_cons (pe_glob (v := .ref FE) (by rfl) gF rfl) pa_nil))))
          (pe_callB (call_reprG (g := g) hgd hr'.units) (by rfl) mR (by decide +kernel) (pa_cons (pe_xf TN.xf TN.noV zc hf (pv 3)) pa_nil)) pe_str))))
    (pss_one (ps_ret (pv 2)))), ?_⟩
  refine ⟨_, rfl, _, rfl, a, t, v, rfl, hF, okt, lt, th, ?_⟩
  rcases hno with ⟨n, f, s2, w1, w2, w3, w4, w5⟩ | hno
  · refine .inl ⟨n, f, s2, w1, w2, w3, w4, .inr ⟨w5, fun d H1 s1 nd1 e1 => ⟨true, TN.te, fun _ a na => ?_, fun z => nomatch z⟩⟩⟩
    refine ⟨_, rfl, _, _, true, d, _, rfl, rfl, rfl, e1, .own FE, kF, _, rfl, iteT ?_⟩
    refine ⟨_, rfl, rfl, rfl, d, _, v, rfl, e1, by simp [List.lookup], v, z, rfl, hz.same s1, ?_⟩
    exact ⟨_, rfl, q _ s1⟩
  · refine .inr ⟨hno, fun d H1 s1 nd1 e1 => ⟨true, TN.te, fun _ a na => ?_, fun z => nomatch z⟩⟩
    refine ⟨_, rfl, _, _, true, d, _, rfl, rfl, rfl, e1, .own FE, kF, _, rfl, iteT ?_⟩
    refine ⟨_, rfl, rfl, rfl, d, _, v, rfl, e1, by simp [List.lookup], v, z, rfl, hz.same s1, ?_⟩
    exact ⟨_, rfl, q _ s1⟩
end
end K66

/-! k66: the law. -/
namespace K66
open PySem PySem.Spec PyProof.Rows L2 LamX NdefX Own
abbrev sLaw : Stmt := topS 61
abbrev nLaw : List Str := ["_law_script", "_law_tape", "_law_names", "_law_sides", "_law_left", "_law_right", "_law_tree", "_law_due", "_law_step", "_law_turn", "_law_other", "_law_word", "_law_sort", "_law_rows", "_law_formula", "_law_found", "_law_at", "_law_odd"]
theorem FAt.keep {F a d : Addr} {H H' : Hp} {t : Fm} {B : Int} (h : FAt F H a t) (p : Pen H d B) (k : KeepP d H H') : FAt F H' a t := by
  obtain ⟨dx, pr, rs, e1, e2, e3⟩ := h
  obtain ⟨pp, ns, m, l0, e0, _⟩ := p.ex
  refine ⟨dx, pr, rs, k _ _ ?_ e1, ExtT.keep p k _ _ e2, e3.mono fun _ _ z => RwAt.extT z (ExtT.keep p k)⟩
  rintro rfl
  rw [e0] at e1
  cases e1
theorem spr_size (l r : Fm) : (sprF l r).size ≤ 2 * l.size + 2 * r.size + 3 := by
  unfold sprF
  cases h1 : Sm r with
  | some wab =>
    obtain ⟨w, a, b⟩ := wab
    obtain ⟨rfl, _⟩ := sm_some h1
    show (l.size + a.size + 1) + (l.size + b.size + 1) + 1 ≤ 2 * l.size + 2 * (a.size + b.size + 1) + 3
    omega
  | none =>
    cases h2 : Sm l with
    | some wab =>
      obtain ⟨w, a, b⟩ := wab
      obtain ⟨rfl, _⟩ := sm_some h2
      show (a.size + r.size + 1) + (b.size + r.size + 1) + 1 ≤ 2 * (a.size + b.size + 1) + 2 * r.size + 3
      omega
    | none =>
      show l.size + r.size + 1 ≤ 2 * l.size + 2 * r.size + 3
      omega
theorem spr_ok {l r : Fm} (hl : l.ok) (hr : r.ok) : (sprF l r).ok := by
  unfold sprF
  cases h1 : Sm r with
  | some wab =>
    obtain ⟨w, a, b⟩ := wab
    obtain ⟨rfl, _⟩ := sm_some h1
    exact ⟨⟨hl, hr.1⟩, ⟨hl, hr.2⟩⟩
  | none =>
    cases h2 : Sm l with
    | some wab =>
      obtain ⟨w, a, b⟩ := wab
      obtain ⟨rfl, _⟩ := sm_some h2
      exact ⟨⟨hl.1, hr⟩, ⟨hl.2, hr⟩⟩
    | none => exact ⟨hl, hr⟩
theorem rp_short {n : Nat} (h : n ≤ 1000) : (tupleText [toString (n : Int)]).length ≤ sizeLine := by
  have : ∀ m < 1001, (tupleText [toString ((m : Nat) : Int)]).length ≤ 1000 := by decide +kernel
  have z := this n (by omega)
  have sz := sizeLine_eq
  omega
theorem fm_ok_of : ∀ (t : Fm) (k : Nat), (∀ r ∈ t.lay k, r.ok) → t.ok
  | .col x, k, h => h _ (List.mem_singleton.mpr rfl)
  | .con u s, k, h => trivial
  | .bin w l r, k, h => ⟨fm_ok_of l k fun x hx => h x (List.mem_append_left _ (List.mem_append_left _ hx)), fm_ok_of r (k + l.size) fun x hx => h x (List.mem_append_left _ (List.mem_append_right _ hx))⟩
  | .neg t, k, h => fm_ok_of t k fun x hx => h x (List.mem_append_left _ hx)
  | .cst t w s, k, h => ⟨fm_ok_of t k fun x hx => h x (List.mem_append_left _ hx), h (.cst (k + t.size - 1) w s) (List.mem_append_right _ (List.mem_singleton.mpr rfl))⟩
  | .rnd t s y, k, h => ⟨fm_ok_of t k fun x hx => h x (List.mem_append_left _ hx), h (.rnd (k + t.size - 1) s y) (List.mem_append_right _ (List.mem_singleton.mpr rfl))⟩
theorem part_ok {rs : List Rw} {f : Nat} {s : Fm} (h : SubAt rs f s) (ok : ∀ r ∈ rs, r.ok) : s.ok := by
  obtain ⟨x, y, rfl, _⟩ := h
  exact fm_ok_of s f fun r hr => ok r (List.mem_append_left _ (List.mem_append_right _ hr))
theorem bw_of {v : V} (h : v ∈ [V.str "sum", V.str "difference", V.str "product", V.str "quotient"]) : ∃ w : Bw, v = .str w.txt := by
  simp only [List.mem_cons, List.not_mem_nil, or_false] at h
  rcases h with rfl | rfl | rfl | rfl
  · exact ⟨.sum, rfl⟩
  · exact ⟨.dif, rfl⟩
  · exact ⟨.prd, rfl⟩
  · exact ⟨.quo, rfl⟩
theorem rp_nat {g : List Code} {H : Hp} {n : Nat} (h : n ≤ 1000) : RpAt g H (nV n) (toString (n : Int)) := .int _ (by
  have := Nat.log2_le_self n
  show (n : Int).natAbs.log2 < 1920
  rw [Int.natAbs_natCast]
  omega)
section
variable {P : Program} {w : World} {K : PySem.W.Frag} {mg : Str → Option Value} {base : Heap} {CN F : Addr}
theorem scLaw : FnScope nLaw ["_law_script"] (defScope sLaw) := ⟨rfl, rfl, rfl, by decide +kernel, rfl, by decide +kernel, by decide +kernel⟩
def spLaw (K : PySem.W.Frag) : Sp := fun vs H Q _ => ∃ (a : Addr) (ns : List Int), vs = [.ref a] ∧ SqL K H a (ns.map V.int) ∧ ns.length ≤ 63 ∧ ∀ H', Q (.bl true) H'
theorem ok_law {f : Addr} {fd : FuncData} (F0 : Fun K "law" "law" sLaw f fd) (B : Blt mg) (mR : mg "repr" = none) (TF : FrmC K mg F) (I : WIs K F) (M : FMk P w K mg base F)
    (D0 : DefOk P w K mg base CX0 "_law_begin" 1 ["_law_script"] (spBegin K)) (D1 : DefOk P w K mg base CX0 "_law_draw" 1 ["_law_tape", "_law_limit"] spDraw) (D2 : DefOk P w K mg base CX0 "_law_pick" 2 ["_law_tape", "_law_some"] spPick) (DW : DefOk P w K mg base CX0 "_law_words" 3 ["_law_tape", "_law_many"] spWords)
    (D8 : DefOk P w K mg base CX0 "_law_side" 5 ["_law_tape", "_law_names"] spSide) (D9 : DefOk P w K mg base CX0 "_law_added" 6 ["_law_tape", "_law_names"] spAdd) (DSo : DefOk P w K mg base CX0 "_law_spread_out" 1 ["_law_tree"] spSpo) (DLd : DefOk P w K mg base CX0 "_law_laid" 63 ["_law_tree"] (spLd 60)) (DHs : DefOk P w K mg base CX0 "_law_has_sum" 2 ["_law_rows", "_law_step"] spHs)
    (DSpr : DefOk P w K mg base (L2.CX P w) "spread" 11 ["formula", "step"] (spSpr CN F)) (DEN : GDef P w K mg base "_law_denied" 13 (spDen F)) : FnOk P w K mg base CX0 65 f fd ["_law_script"] (spLaw K) := by
  refine F0.ok scLaw (fun vs H Q E h => ?_) (fun cdv A outer s0 H vs Q E hr h => ?_)
  · obtain ⟨a, ns, rfl, _⟩ := h
    rfl
  · obtain ⟨a, ns, rfl, hs, hl, q⟩ := h
    have nd := scLaw.nd
    have sz := sizeLine_eq
    refine ⟨_, pss_cons (ps_set (i := 1) nd rfl (.inl rfl) (pe_def D0 hr (by decide) (by rfl) pass0 (pa_cons (pv 0) pa_nil)))
      (pss_cons (ps_set (i := 2) nd rfl (.inl rfl) (pe_def DW hr (by decide) (by rfl) pass0 (pa_cons (pv 1) (pa_cons pe_int pa_nil))))
      (pss_cons (ps_set (i := 3) nd rfl (.inl rfl) (pe_lst (pa_cons (pe_tup (pa_cons (pe_def D8 hr (by decide) (by rfl) pass0 (pa_cons (pv 1) (pa_cons (pv 2) pa_nil))) (pa_cons (pe_def D9 hr (by decide) (by rfl) pass0 (pa_cons (pv 1) (pa_cons (pv 2) pa_nil))) pa_nil))) (pa_cons (pe_tup (pa_cons (pe_def D9 hr (by decide) (by rfl) pass0 (pa_cons (pv 1) (pa_cons (pv 2) pa_nil))) (pa_cons (pe_def D8 hr (by decide) (by rfl) pass0 (pa_cons (pv 1) (pa_cons (pv 2) pa_nil))) pa_nil))) (pa_cons (pe_tup (pa_cons (pe_def D9 hr (by decide) (by rfl) pass0 (pa_cons (pv 1) (pa_cons (pv 2) pa_nil))) (pa_cons (pe_def D9 hr (by decide) (by rfl) pass0 (pa_cons (pv 1) (pa_cons (pv 2) pa_nil))) pa_nil))) pa_nil)))))
      (pss_cons (ps_asg (pe_def D2 hr (by decide) (by rfl) pass0 (pa_cons (pv 1) (pa_cons (pv 3) pa_nil))) (pg_tup rfl (pgs_cons (pg_name (i := 4) nd rfl (.inl rfl)) (pgs_cons (pg_name (i := 5) nd rfl (.inl rfl)) pgs_nil))))
      (pss_cons (ps_set (i := 6) nd rfl (.inl rfl) (pe_tup (pa_cons pe_str (pa_cons (pv 4) (pa_cons (pv 5) pa_nil)))))
      (pss_cons (ps_par (i := 7) (j := 8) (by rfl) nd rfl rfl (by decide) rfl rfl (pa_cons (pe_def DSo hr (by decide) (by rfl) pass0 (pa_cons (pv 6) pa_nil)) (pa_cons (pe_op op_sub (pe_callB call_len_seq (by rfl) B.len PySem.boot_len (pa_cons (pe_def DLd hr (by decide) (by rfl) pass0 (pa_cons (pv 6) pa_nil)) pa_nil)) pe_int) pa_nil)) (by rfl))
      (pss_cons (ps_for PassesOwn.never rfl (pi_range1 (by rfl) B.range (pa_cons (pe_def D1 hr (by decide) (by rfl) pass0 (pa_cons (pv 1) (pa_cons pe_int pa_nil))) pa_nil)) (pg_name (i := 9) nd rfl (.inl rfl)) (pss_cons (ps_par (i := 10) (j := 11) (by rfl) nd rfl rfl (by decide) rfl rfl (pa_cons (pe_def D8 hr (by decide) (by rfl) pass0 (pa_cons (pv 1) (pa_cons (pv 2) pa_nil))) (pa_cons (pe_def D2 hr (by decide) (by rfl) pass0 (pa_cons (pv 1) (pa_cons (pe_lst (pa_cons pe_str (pa_cons pe_str (pa_cons pe_str (pa_cons pe_str pa_nil))))) pa_nil))) pa_nil)) (by rfl)) (pss_cons (ps_set (i := 12) nd rfl (.inl rfl) (pe_def D1 hr (by decide) (by rfl) pass0 (pa_cons (pv 1) (pa_cons pe_int pa_nil)))) (pss_one (ps_if (pt_cmpR op_eq (pv 12) pe_int (nomark _)) (pss_one (ps_par (i := 6) (j := 7) (by rfl) nd rfl rfl (by decide) rfl rfl (pa_cons (pe_tup (pa_cons pe_str (pa_cons (pv 6) pa_nil))) (pa_cons (pe_tup (pa_cons pe_str (pa_cons (pv 7) pa_nil))) pa_nil)) (by rfl))) (pss_one (ps_if (pt_cmpR op_eq (pv 12) pe_int (nomark _)) (pss_one (ps_par (i := 6) (j := 7) (by rfl) nd rfl rfl (by decide) rfl rfl (pa_cons (pe_tup (pa_cons (pv 11) (pa_cons (pv 6) (pa_cons (pv 10) pa_nil)))) (pa_cons (pe_tup (pa_cons (pv 11) (pa_cons (pv 7) (pa_cons (pv 10) pa_nil)))) pa_nil)) (by rfl))) (pss_one (ps_par3 (i := 6) (j := 7) (l := 8) (by rfl) nd rfl rfl rfl (by decide) (by decide) (by decide) rfl rfl rfl (pa_cons (pe_tup (pa_cons (pv 11) (pa_cons (pv 10) (pa_cons (pv 6) pa_nil)))) (pa_cons (pe_tup (pa_cons (pv 11) (pa_cons (pv 10) (pa_cons (pv 7) pa_nil)))) (pa_cons (pe_op op_add (pv 8) (pe_callB call_len_seq (by rfl) B.len PySem.boot_len (pa_cons (pe_def DLd hr (by decide) (by rfl) pass0 (pa_cons (pv 10) pa_nil)) pa_nil))) pa_nil))) (by rfl))))))))))
      (pss_cons (ps_set (i := 13) nd rfl (.inl rfl) (pe_def DLd hr (by decide) (by rfl) pass0 (pa_cons (pv 6) pa_nil)))
      (pss_cons (ps_set (i := 14) nd rfl (.inl rfl) (pe_formula (E := E0) M TF hr (by decide) (by rfl) passL (pa_cons (pv 13) pa_nil)))
      (pss_cons (ps_set (i := 15) nd rfl (.inl rfl) (pe_def (E := E0) DSpr hr (by decide) (by rfl) passL (pa_cons (pv 14) (pa_cons (pv 8) pa_nil))))
      (pss_cons (ps_if (PW.pt (pw_or (pt_not (pt_val (pe_callB call_isi (by rfl) B.isi (by decide +kernel) (pa_cons (pv 15) (pa_cons (pe_glob (v := .ref F) (by rfl) TF.g rfl) pa_nil))))) (pw_or (pt_cmpR (op_neD hr.units) (pe_fld (pv 15) (by rfl)) (pe_callTy call_tuple_of (by rfl) B.tuple (by decide +kernel) (pa_cons (pe_def DLd hr (by decide) (by rfl) pass0 (pa_cons (pv 7) pa_nil)) pa_nil)) (nomark _)) (pw_or1 (pt_cmpR (op_neD hr.units) (pe_fld (pv 14) (by rfl)) (pe_callTy call_tuple_of (by rfl) B.tuple (by decide +kernel) (pa_cons (pv 13) pa_nil)) (nomark _)))))) (pss_one (ps_ret pe_bl)) pss_nil)
      (pss_cons (ps_for PassesOwn.never rfl (pi_range1 (by rfl) B.range (pa_cons (pe_callB call_len_seq (by rfl) B.len PySem.boot_len (pa_cons (pv 13) pa_nil)) pa_nil)) (pg_name (i := 16) nd rfl (.inl rfl)) (pss_one (ps_if (PW.pt (pw_and (pt_not (pt_val (pe_def DHs hr (by decide) (by rfl) pass0 (pa_cons (pv 13) (pa_cons (pv 16) pa_nil))))) (pw_and1 (pt_known fun g => pt_cmpR op_ne (pe_gdef DEN rfl (room_g hr) (by decide) (by rfl) (pa_cons (pv 14) (pa_cons (pv 16) pa_nil))) (pe_callB (call_reprG (g := g) rfl (room_g hr).units) (by rfl) mR (by decide +kernel) (pa_cons (pv 16) pa_nil)) (nomark _))))) (pss_one (ps_ret pe_bl)) pss_nil)))
      (pss_cons (ps_set (i := 17) nd rfl (.inl rfl) (pe_def D2 hr (by decide) (by rfl) pass0 (pa_cons (pv 1) (pa_cons (pe_lst (pa_cons pe_non (pa_cons (pe_un un_neg pe_int) (pa_cons pe_bl (pa_cons pe_str (pa_cons (pe_callB call_len_seq (by rfl) B.len PySem.boot_len (pa_cons (pv 13) pa_nil)) (pa_cons (pe_tup (pa_cons (pv 8) pa_nil)) (pa_cons (pe_lst pa_nil) (pa_cons pe_dnewK pa_nil))))))))) pa_nil))))
      (pss_one (ps_ret (pe_known fun g => pe_cmpR op_eq (pe_gdef DEN rfl (room_g hr) (by decide) (by rfl) (pa_cons (pv 14) (pa_cons (pv 17) pa_nil))) (pe_callB (call_reprG (g := g) rfl (room_g hr).units) (by rfl) mR (by decide +kernel) (pa_cons (pv 17) pa_nil)) (nomark _)))))))))))))))), ?_⟩
    refine ⟨_, rfl, a, ns, rfl, hs, hl, fun d H1 nd1 s1 p1 => ?_⟩
    dsimp only [gName, List.set]
    refine ⟨_, rfl, d, 3, _, rfl, by decide, p1, by decide, fun nl ws H2 wl wok hnl off k2 p2 => ?_⟩
    have hN : NmsAt H2 nl := ⟨ws, hnl, (fun z => by rw [z] at wl; cases wl), by omega, wok⟩
    clear hs k2 p1 s1 nd1 off hnl
    dsimp only [gName, List.set]
    -- the three pairs of sides
    refine ⟨_, rfl, _, rfl, d, nl, _, rfl, hN, p2, by decide, fun v1 t1 H3 g1 o1 z1 k3 p3 => ?_⟩
    have hN3 := hN.keep p2 k3
    refine ⟨_, rfl, _, rfl, d, nl, _, rfl, hN3, p3, by decide, fun v2 t2 H4 g2 o2 z2 m2 k4 p4 => ?_⟩
    have hN4 := hN3.keep p3 k4
    have g14 := g1.ext (ExtT.keep p3 k4)
    refine ⟨by show 2 ≤ sizeLine; decide, fun c1 nc1 => ?_⟩
    have sc1 := same_new (o := HO.tup [v1, v2]) nc1
    have ec1 : upd H4 c1 (HO.tup [v1, v2]) c1 = some (.tup [v1, v2]) := upd_same
    generalize upd H4 c1 (HO.tup [v1, v2]) = H5 at sc1 ec1 ⊢
    have p5 := p4.same sc1
    have hN5 := hN4.same sc1
    have g15 := g14.same sc1
    have g25 := g2.same sc1
    refine ⟨_, rfl, _, rfl, d, nl, _, rfl, hN5, p5, by decide, fun v3 t3 H6 g3 o3 z3 m3 k6 p6 => ?_⟩
    have hN6 := hN5.keep p5 k6
    refine ⟨_, rfl, _, rfl, d, nl, _, rfl, hN6, p6, by decide, fun v4 t4 H7 g4 o4 z4 k7 p7 => ?_⟩
    have hN7 := hN6.keep p6 k7
    have x57 : ExtT H5 H7 := (ExtT.keep p5 k6).trans (ExtT.keep p6 k7)
    have g37 := g3.ext (ExtT.keep p6 k7)
    refine ⟨by show 2 ≤ sizeLine; decide, fun c2 nc2 => ?_⟩
    have sc2 := same_new (o := HO.tup [v3, v4]) nc2
    have ec2 : upd H7 c2 (HO.tup [v3, v4]) c2 = some (.tup [v3, v4]) := upd_same
    generalize upd H7 c2 (HO.tup [v3, v4]) = H8 at sc2 ec2 ⊢
    have p8 := p7.same sc2
    have hN8 := hN7.same sc2
    have x58 := x57.trans (ExtT.of sc2)
    have g38 := g37.same sc2
    have g48 := g4.same sc2
    refine ⟨_, rfl, _, rfl, d, nl, _, rfl, hN8, p8, by decide, fun v5 t5 H9 g5 o5 z5 m5 k9 p9 => ?_⟩
    have hN9 := hN8.keep p8 k9
    refine ⟨_, rfl, _, rfl, d, nl, _, rfl, hN9, p9, by decide, fun v6 t6 HA g6 o6 z6 m6 kA pA => ?_⟩
    have hNA := hN9.keep p9 kA
    have x8A : ExtT H8 HA := (ExtT.keep p8 k9).trans (ExtT.keep p9 kA)
    have g5A := g5.ext (ExtT.keep p9 kA)
    refine ⟨by show 2 ≤ sizeLine; decide, fun c3 nc3 => ?_⟩
    have sc3 := same_new (o := HO.tup [v5, v6]) nc3
    have ec3 : upd HA c3 (HO.tup [v5, v6]) c3 = some (.tup [v5, v6]) := upd_same
    generalize upd HA c3 (HO.tup [v5, v6]) = HB at sc3 ec3 ⊢
    have pB := pA.same sc3
    have hNB := hNA.same sc3
    have x8B := x8A.trans (ExtT.of sc3)
    refine ⟨by show 3 ≤ sizeLine; decide, fun gl ngl => ?_⟩
    have sgl := same_new (o := HO.lst [V.ref c1, V.ref c2, V.ref c3]) ngl
    have egl : upd HB gl (HO.lst [V.ref c1, V.ref c2, V.ref c3]) gl = some (.lst [V.ref c1, V.ref c2, V.ref c3]) := upd_same
    generalize upd HB gl (HO.lst [V.ref c1, V.ref c2, V.ref c3]) = HC at sgl egl ⊢
    have pC := pB.same sgl
    have hNC := hNB.same sgl
    have x8C := x8B.trans (ExtT.of sgl)
    have x5C := x58.trans x8C
    have xBC := (ExtT.of sc3).trans (ExtT.of sgl)
    dsimp only [gName, List.set]
    refine ⟨_, rfl, _, rfl, d, _, pC, by decide, .inl ⟨gl, _, rfl, egl, by simp, by show 3 ≤ 1000; decide, fun x HD hx kD pD => ?_⟩⟩
    have xCD := ExtT.keep pC kD
    have hND := hNC.keep pC kD
    -- what was picked
    obtain ⟨c, vl, vr, tl, tr, rfl, ec, gl1, gr1, okl, okr, szl, szr, sm⟩ : ∃ (c : Addr) (vl vr : V) (tl tr : Fm), x = .ref c ∧ HD c = some (.tup [vl, vr]) ∧ TrAt HD tl vl ∧ TrAt HD tr vr ∧ tl.ok ∧ tr.ok ∧ tl.size ≤ 7 ∧ tr.size ≤ 7 ∧ ((Sm tr).isSome = true ∨ (Sm tl).isSome = true) := by
      simp only [List.mem_cons, List.not_mem_nil, or_false] at hx
      rcases hx with rfl | rfl | rfl
      · exact ⟨c1, v1, v2, t1, t2, rfl, xCD _ _ (x5C _ _ ec1), g15.ext (x5C.trans xCD), g25.ext (x5C.trans xCD), o1, o2, by omega, by omega, .inl m2⟩
      · exact ⟨c2, v3, v4, t3, t4, rfl, xCD _ _ (x8C _ _ ec2), g38.ext (x8C.trans xCD), g48.ext (x8C.trans xCD), o3, o4, by omega, by omega, .inr m3⟩
      · exact ⟨c3, v5, v6, t5, t6, rfl, xCD _ _ (sgl _ _ ec3), g5A.ext (xBC.trans xCD), g6.ext (xBC.trans xCD), o5, o6, by omega, by omega, .inl m6⟩
    clear hN hN3 hN4 hN5 hN6 hN7 hN8 hN9 hNA hNB hNC g1 g2 g3 g4 g5 g6 g14 g15 g25 g37 g38 g48 g5A x57 x58 x8A x8B x8C x5C xBC xCD p2 p3 p4 p5 p6 p7 p8 p9 pA pB k3 k4 k6 k7 k9 kA hx egl sgl ec1 ec2 ec3 sc1 sc2 sc3 o1 o2 o3 o4 o5 o6 z1 z2 z3 z4 z5 z6 m2 m3 m5 m6
    refine ⟨c, _, rfl, SqT.of ec, rfl, _, _, rfl, _, _, rfl, rfl, ?_⟩
    dsimp only [gName, List.set]
    refine ⟨_, rfl, _, rfl, by show 3 ≤ sizeLine; decide, fun tp ntp => ?_⟩
    have stp := same_new (o := HO.tup [V.str "product", vl, vr]) ntp
    have etp : upd HD tp (HO.tup [V.str "product", vl, vr]) tp = some (.tup [V.str "product", vl, vr]) := upd_same
    generalize upd HD tp (HO.tup [V.str "product", vl, vr]) = HE at stp etp ⊢
    have hT : TrAt HE (.bin .prd tl tr) (.ref tp) := ⟨tp, vl, vr, rfl, etp, gl1.same stp, gr1.same stp⟩
    have pE := pD.same stp
    have hNE := hND.same stp
    dsimp only [gName, List.set]
    refine ⟨_, rfl, .ref tp, tl, tr, rfl, hT, sm, fun vd HF sF hTd => ?_⟩
    refine ⟨_, rfl, .ref tp, .bin .prd tl tr, rfl, hT.same sF, by show tl.size + tr.size + 1 ≤ 60; omega, by show tl.size + tr.size + 1 ≤ 900; omega, fun ll lrs HG sG hll hLr => ⟨ll, _, rfl, .inl (SqL.of hll), _, _, rfl, rfl, _, _, rfl, ?_⟩⟩
    have nrow := hLr.len
    rw [Fm.lay_len] at nrow
    have psz : (Fm.bin .prd tl tr).size = tl.size + tr.size + 1 := rfl
    dsimp only [gName, List.set]
    rw [nrow, show (((Fm.bin .prd tl tr).size : Nat) : Int) - 1 = ((0 + (Fm.bin .prd tl tr).size - 1 : Nat) : Int) by omega]
    have hhole : Hole (.bin .prd tl tr) (sprF tl tr) (.bin .prd tl tr) (sprF tl tr) 0 0 (0 + (Fm.bin .prd tl tr).size - 1) := .here
    have pG := (pE.same sF).same sG
    have hNG := (hNE.same sF).same sG
    have hTG := (hT.same sF).same sG
    have hTdG := hTd.same sG
    have ssz := spr_size tl tr
    have okS := spr_ok okl okr
    clear hT hTd hNE pE sF sG hll hLr gl1 gr1 pD hND ec
    refine ⟨_, rfl, d, 4, _, rfl, pG, by decide, by decide, by decide, fun turns HH u0 u1 kH pH => ?_⟩
    have xGH := ExtT.keep pG kH
    refine ⟨turns, rfl, by omega, by omega, for_range (lo := 0) (n := turns.toNat) (fun i σ H' => ∃ (t t' : Fm) (f n : Nat) (vt vd : V) (y9 y10 y11 y12 : Option V), σ = [some (.ref a), some (.ref d), some (.ref nl), some (.ref gl), some vl, some vr, some vt, some vd, some (nV n), y9, y10, y11, y12, none, none, none, none, none] ∧ Hole t t' (.bin .prd tl tr) (sprF tl tr) 0 f n ∧ TrAt H' t vt ∧ TrAt H' t' vd ∧ t.ok ∧ t'.ok ∧ t.size ≤ 15 + 4 * i ∧ NmsAt H' nl ∧ Pen H' d (20000 + 2000 * i))
      ⟨_, _, _, _, _, _, _, _, _, _, rfl, hhole, hTG.ext xGH, hTdG.ext xGH, ⟨okl, okr⟩, okS, by show tl.size + tr.size + 1 ≤ 15 + 0; omega, hNG.keep pG kH, pH.mono (by decide)⟩ ?_ ?_⟩
    · rintro i σ G hi ⟨t, t', f, n, vt, vd, y9, y10, y11, y12, rfl, hole, ht, ht', okt, okt', szt, hN, p⟩
      dsimp only [gName, List.set]
      refine ⟨_, rfl, _, rfl, d, nl, _, rfl, hN, p, by omega, fun vo to G1 go oo zo k1 p1 => ?_⟩
      refine ⟨_, rfl, by show 4 ≤ sizeLine; decide, fun gw ngw => ?_⟩
      have sgw := same_new (o := HO.lst [V.str "sum", V.str "difference", V.str "product", V.str "quotient"]) ngw
      have egw : upd G1 gw (HO.lst [V.str "sum", V.str "difference", V.str "product", V.str "quotient"]) gw = some (.lst [V.str "sum", V.str "difference", V.str "product", V.str "quotient"]) := upd_same
      generalize upd G1 gw (HO.lst [V.str "sum", V.str "difference", V.str "product", V.str "quotient"]) = G2 at sgw egw ⊢
      have p2 := p1.same sgw
      refine ⟨d, _, p2, by omega, .inl ⟨gw, _, rfl, egw, by simp, by show 4 ≤ 1000; decide, fun vw G3 hw k3 p3 => ⟨_, _, rfl, ?_⟩⟩⟩
      obtain ⟨wd, rfl⟩ := bw_of hw
      dsimp only [gName, List.set]
      refine ⟨_, rfl, d, 3, _, rfl, p3, by omega, by decide, by decide, fun sort G4 q0 q1 k4 p4 => ?_⟩
      dsimp only [gName, List.set]
      have x13 : ExtT G1 G3 := (ExtT.of sgw).trans (ExtT.keep p2 k3)
      have x14 := x13.trans (ExtT.keep p3 k4)
      have x04 := (ExtT.keep p k1).trans x14
      have ht4 := ht.ext x04
      have ht4' := ht'.ext x04
      have go4 := go.ext x14
      have hN4 := (((hN.keep p k1).same sgw).keep p2 k3).keep p3 k4
      refine ⟨_, rfl, rfl, _, rfl, ite2 (fun _ => ?_) (fun _ => ?_)⟩
      · refine ⟨_, rfl, by show 2 ≤ sizeLine; decide, fun b1 nb1 => ?_⟩
        have sb1 := same_new (o := HO.tup [V.str "negative", vt]) nb1
        have eb1 : upd G4 b1 (HO.tup [V.str "negative", vt]) b1 = some (.tup [V.str "negative", vt]) := upd_same
        generalize upd G4 b1 (HO.tup [V.str "negative", vt]) = G5 at sb1 eb1 ⊢
        refine ⟨_, rfl, by show 2 ≤ sizeLine; decide, fun b2 nb2 => ⟨_, _, rfl, ?_⟩⟩
        have sb2 := same_new (o := HO.tup [V.str "negative", vd]) nb2
        have eb2 : upd G5 b2 (HO.tup [V.str "negative", vd]) b2 = some (.tup [V.str "negative", vd]) := upd_same
        generalize upd G5 b2 (HO.tup [V.str "negative", vd]) = G6 at sb2 eb2 ⊢
        have s46 := sb1.trans sb2
        exact ⟨_, _, _, _, _, _, _, _, _, _, rfl, .neg hole, ⟨b1, vt, rfl, sb2 _ _ eb1, ht4.same s46⟩, ⟨b2, vd, rfl, eb2, ht4'.same s46⟩, okt, okt', by show t.size + 1 ≤ 15 + 4 * (i + 1); omega, hN4.same s46, (p4.same s46).mono (by omega)⟩
      · refine ⟨_, rfl, rfl, _, rfl, ite2 (fun _ => ?_) (fun _ => ?_)⟩
        · refine ⟨_, rfl, _, rfl, _, rfl, by show 3 ≤ sizeLine; decide, fun b1 nb1 => ?_⟩
          have sb1 := same_new (o := HO.tup [V.str wd.txt, vt, vo]) nb1
          have eb1 : upd G4 b1 (HO.tup [V.str wd.txt, vt, vo]) b1 = some (.tup [V.str wd.txt, vt, vo]) := upd_same
          generalize upd G4 b1 (HO.tup [V.str wd.txt, vt, vo]) = G5 at sb1 eb1 ⊢
          refine ⟨_, rfl, _, rfl, _, rfl, by show 3 ≤ sizeLine; decide, fun b2 nb2 => ⟨_, _, rfl, ?_⟩⟩
          have sb2 := same_new (o := HO.tup [V.str wd.txt, vd, vo]) nb2
          have eb2 : upd G5 b2 (HO.tup [V.str wd.txt, vd, vo]) b2 = some (.tup [V.str wd.txt, vd, vo]) := upd_same
          generalize upd G5 b2 (HO.tup [V.str wd.txt, vd, vo]) = G6 at sb2 eb2 ⊢
          have s46 := sb1.trans sb2
          exact ⟨_, _, _, _, _, _, _, _, _, _, rfl, .left (w := wd) (r := to) hole, ⟨b1, vt, vo, rfl, sb2 _ _ eb1, ht4.same s46, go4.same s46⟩, ⟨b2, vd, vo, rfl, eb2, ht4'.same s46, go4.same s46⟩, ⟨okt, oo⟩, ⟨okt', oo⟩, by show t.size + to.size + 1 ≤ 15 + 4 * (i + 1); omega, hN4.same s46, (p4.same s46).mono (by omega)⟩
        · refine ⟨_, rfl, _, rfl, _, rfl, by show 3 ≤ sizeLine; decide, fun b1 nb1 => ?_⟩
          have sb1 := same_new (o := HO.tup [V.str wd.txt, vo, vt]) nb1
          have eb1 : upd G4 b1 (HO.tup [V.str wd.txt, vo, vt]) b1 = some (.tup [V.str wd.txt, vo, vt]) := upd_same
          generalize upd G4 b1 (HO.tup [V.str wd.txt, vo, vt]) = G5 at sb1 eb1 ⊢
          refine ⟨_, rfl, _, rfl, _, rfl, by show 3 ≤ sizeLine; decide, fun b2 nb2 => ?_⟩
          have sb2 := same_new (o := HO.tup [V.str wd.txt, vo, vd]) nb2
          have eb2 : upd G5 b2 (HO.tup [V.str wd.txt, vo, vd]) b2 = some (.tup [V.str wd.txt, vo, vd]) := upd_same
          generalize upd G5 b2 (HO.tup [V.str wd.txt, vo, vd]) = G6 at sb2 eb2 ⊢
          have s46 := sb1.trans sb2
          refine ⟨_, rfl, _, rfl, vo, to, rfl, go4.same s46, by omega, by omega, fun l2 lrs2 G7 s7 hl2 hL2 => ⟨l2, _, rfl, .inl (SqL.of hl2), _, _, rfl, rfl, _, _, _, rfl, ?_⟩⟩
          have n2 := hL2.len
          rw [Fm.lay_len] at n2
          dsimp only
          rw [n2, show ((n : Nat) : Int) + (to.size : Nat) = ((n + to.size : Nat) : Int) by omega]
          have s47 := s46.trans s7
          have hf := hole.far to.size
          rw [Nat.zero_add] at hf
          exact ⟨_, _, _, _, _, _, _, _, _, _, rfl, .right (w := wd) (l := to) (by rw [Nat.zero_add]; exact hf), ⟨b1, vo, vt, rfl, (sb2.trans s7) _ _ eb1, go4.same s47, ht4.same s47⟩, ⟨b2, vo, vd, rfl, s7 _ _ eb2, go4.same s47, ht4'.same s47⟩, ⟨oo, okt⟩, ⟨oo, okt'⟩, by show to.size + t.size + 1 ≤ 15 + 4 * (i + 1); omega, hN4.same s47, (p4.same s47).mono (by omega)⟩
    · rintro σ G ⟨t, t', f, n, vt, vd, y9, y10, y11, y12, rfl, hole, ht, ht', okt, okt', szt, hN, p⟩
      obtain ⟨r1, r2, r3, r4⟩ := hole.rng
      have psz2 : (Fm.bin .prd tl tr).size = tl.size + tr.size + 1 := rfl
      have tsz : t.size ≤ 27 := by omega
      have tsz' : t'.size ≤ 60 := by omega
      clear hhole pG hNG hTG hTdG kH pH xGH nrow
      refine ⟨_, rfl, vt, t, rfl, ht, by omega, by omega, fun lr rs G1 s1 hlr hR => ?_⟩
      dsimp only [gName, List.set]
      refine ⟨_, rfl, lr, rs, t, rfl, .inl hlr, hR, okt, by omega, fun fa G2 s2 hF => ?_⟩
      dsimp only [gName, List.set]
      refine ⟨_, rfl, _, rfl, fa, t, nV n, rfl, hF, okt, by omega, .int _, .inl ⟨n, f, _, rfl, hole.sub, by omega, ⟨okl, okr⟩, .inl ⟨tl, tr, t', rfl, hole, sm, fun fc G3 s3 hC => ?_⟩⟩⟩
      dsimp only [gName, List.set]
      obtain ⟨dc, pc, rc, hc1, hc2, hc3⟩ := id hC
      refine ⟨_, rfl, _, _, _, _, true, rfl, .own F, .base (.ins hc1 TF.cls I.ha I.hn I.ht I.hm), by unfold PySem.W.kitOne; rw [if_pos (by simp)], _, rfl, iteF ?_⟩
      refine ⟨_, rfl, fc, F, dc, _, .ref pc, rfl, hc1, TF.cls, TF.nr, lk_rows, _, rfl, vd, t', rfl, ((ht'.same s1).same s2).same s3, by omega, by omega, fun ld rs2 G4 s4 hld hR2 => ⟨ld, _, rfl, .inl ⟨SqL.of hld, fun q1 n1 => ?_⟩⟩⟩
      have sq1 := same_new (o := HO.tup rs2) n1
      have eq1 : upd G4 q1 (HO.tup rs2) q1 = some (.tup rs2) := upd_same
      generalize upd G4 q1 (HO.tup rs2) = G5 at sq1 eq1 ⊢
      have okt1 : ∀ r ∈ t'.lay 0, r.ok := t'.ok_lay 0 okt'
      have okt0 : ∀ r ∈ t.lay 0, r.ok := t.ok_lay 0 okt
      have s35 := s4.trans sq1
      refine ⟨_, _, dp_tup (s35 _ _ hc2) (RwsAt.same hc3 s35), dp_tup eq1 (RwsAt.same hR2 sq1), rows_shaped okt1, rows_shaped okt1, ?_⟩
      rw [rows_same okt1]
      refine ⟨_, rfl, iteF ?_⟩
      have s25 := s3.trans s35
      have hF5 := hF.same s25
      obtain ⟨df, pf, rf, hf1, hf2, hf3⟩ := id hF5
      have s15 := s2.trans s25
      refine ⟨_, rfl, fa, F, df, _, .ref pf, rfl, hf1, TF.cls, TF.nr, lk_rows, _, rfl, lr, _, rfl, .inl ⟨SqL.of (s15 _ _ hlr), fun q2 n2 => ?_⟩⟩
      have sq2 := same_new (o := HO.tup rs) n2
      have eq2 : upd G5 q2 (HO.tup rs) q2 = some (.tup rs) := upd_same
      generalize upd G5 q2 (HO.tup rs) = G6 at sq2 eq2 ⊢
      have s16 := s15.trans sq2
      refine ⟨_, _, dp_tup (sq2 _ _ hf2) (RwsAt.same hf3 sq2), dp_tup eq2 (RwsAt.same hR s16), rows_shaped okt0, rows_shaped okt0, ?_⟩
      rw [rows_same okt0]
      refine ⟨_, rfl, iteF ?_⟩
      have hF6 := hF5.same sq2
      have hR6 := RwsAt.same hR s16
      have hlr6 := s16 _ _ hlr
      have p6 := (p.same s1).same s16
      have hlen := hR.len
      rw [t.lay_len] at hlen
      clear hc1 hc2 hc3 hf1 hf2 hf3 hC hF hF5 hR2 hld eq1 eq2 sq1 sq2 s35 s25 s15 ht ht' hN p
      -- every step
      refine ⟨_, rfl, lr, _, rfl, .inl (SqL.of hlr6), _, rfl, by omega, by omega, for_range (lo := 0) (n := rs.length) (fun i σ H' => ∃ y16 : Option V, σ = [some (.ref a), some (.ref d), some (.ref nl), some (.ref gl), some vl, some vr, some vt, some vd, some (nV n), y9, y10, y11, y12, some (.ref lr), some (.ref fa), some (.ref fc), y16, none] ∧ Same G6 H') ⟨_, rfl, Same.refl _⟩ ?_ ?_⟩
      · rintro i σ H6 hi ⟨y16, rfl, s6⟩
        dsimp only [gName, List.set]
        rw [Int.zero_add]
        obtain ⟨s, fs, hs⟩ := t.part_ex 0 i (Nat.zero_le _) (by omega)
        obtain ⟨t2, hs2⟩ := hs s
        obtain ⟨e1, e2, e3, e4⟩ := hs2.rng
        have sub := hs2.sub
        have oks : s.ok := by
          have := sub.len
          exact part_ok sub okt0
        refine ⟨_, rfl, _, rfl, lr, rs, t, s, fs, i, rfl, s6 _ _ hlr6, RwsAt.same hR6 s6, sub, e2, fun H7 s7 => ⟨_, rfl, ?_⟩⟩
        have s67 := s6.trans s7
        cases hb : hsB s with
        | true => exact iteF ⟨_, rfl, s67⟩
        | false =>
          refine iteT fun g => ?_
          refine ⟨_, rfl, _, rfl, fa, t, nV i, toString (i : Int), rfl, hF6.same s67, okt, by omega, .int _, rp_nat (by omega), .inl ⟨i, fs, s, rfl, sub, e2, oks, fun l r e => ?_⟩, fun H8 s8 => ?_⟩
          · subst e
            have hb : ((Sm l).isSome || (Sm r).isSome) = false := hb
            rw [Bool.or_eq_false_iff] at hb
            refine ⟨?_, ?_⟩
            · cases h : Sm r with
              | none => rfl
              | some x => rw [h] at hb; cases hb.2
            · cases h : Sm l with
              | none => rfl
              | some x => rw [h] at hb; cases hb.1
          · refine ⟨_, rfl, nV i, toString (i : Int), rfl, rp_nat (by omega), rfl, _, rfl, ?_⟩
            rw [decide_eq_true (show V.str (toString (i : Int)) = V.str (toString (i : Int)) from rfl)]
            exact iteF ⟨_, rfl, s67.trans s8⟩
      · rintro σ H6 ⟨y16, rfl, s6⟩
        have p7 := p6.same s6
        have hF7 := hF6.same s6
        refine ⟨_, rfl, _, rfl, _, rfl, lr, _, rfl, .inl (SqL.of (s6 _ _ hlr6)), _, rfl, by show 1 ≤ sizeLine; decide, fun o1 no1 => ?_⟩
        have so1 := same_new (o := HO.tup [nV n]) no1
        have eo1 : upd H6 o1 (HO.tup [nV n]) o1 = some (.tup [nV n]) := upd_same
        generalize upd H6 o1 (HO.tup [nV n]) = H7 at so1 eo1 ⊢
        refine ⟨by show 0 ≤ sizeLine; decide, fun o2 no2 => ?_⟩
        have so2 := same_new (o := HO.lst []) no2
        have eo2 : upd H7 o2 (HO.lst []) o2 = some (.lst []) := upd_same
        generalize upd H7 o2 (HO.lst []) = H8 at so2 eo2 ⊢
        intro o3 no3
        have s9 : Same H8 (upd H8 o3 (.dK [])) := same_new no3
        have e9 : upd H8 o3 (.dK []) o3 = some (.dK []) := upd_same
        generalize upd H8 o3 (.dK []) = H9 at s9 e9 ⊢
        refine ⟨by show 8 ≤ sizeLine; decide, fun o4 no4 => ?_⟩
        have so4 := same_new (o := HO.lst [V.non, V.int (-1), V.bl true, V.str "0", V.int (rs.length : Nat), V.ref o1, V.ref o2, V.ref o3]) no4
        have eo4 : upd H9 o4 (HO.lst [V.non, V.int (-1), V.bl true, V.str "0", V.int (rs.length : Nat), V.ref o1, V.ref o2, V.ref o3]) o4 = some (.lst [V.non, V.int (-1), V.bl true, V.str "0", V.int (rs.length : Nat), V.ref o1, V.ref o2, V.ref o3]) := upd_same
        generalize upd H9 o4 (HO.lst [V.non, V.int (-1), V.bl true, V.str "0", V.int (rs.length : Nat), V.ref o1, V.ref o2, V.ref o3]) = HX at so4 eo4 ⊢
        have sX : Same H6 HX := so1.trans (so2.trans (s9.trans so4))
        have pX := p7.same sX
        have hFX := hF7.same sX
        refine ⟨d, _, pX, by omega, .inl ⟨o4, _, rfl, eo4, by simp, by show 8 ≤ 1000; decide, fun x HY hx kY pY => ?_⟩⟩
        have xXY := ExtT.keep pX kY
        have hFY := hFX.keep pX kY
        have eo1Y := xXY _ _ ((so2.trans (s9.trans so4)) _ _ eo1)
        have eo2Y := kY.lst pX.g ((s9.trans so4) _ _ eo2)
        have nd3 : o3 ≠ d := by
          rintro rfl
          obtain ⟨pp, ns, m, l0, e0, _⟩ := ((p7.same so1).same so2).ex
          rw [no3] at e0
          cases e0
        have eo3Y := kY _ _ nd3 (so4 _ _ e9)
        have key : ∀ g, ∃ z, RpAt g HY x z ∧ Thing HY x ∧ Refused t x := fun g => by
          simp only [List.mem_cons, List.not_mem_nil, or_false] at hx
          rcases hx with rfl | rfl | rfl | rfl | rfl | rfl | rfl | rfl
          · exact ⟨_, .non, .non, .inr fun m e => by cases e⟩
          · refine ⟨_, .int _ (by decide), .int _, .inr fun m e => ?_⟩
            have := V.int.inj e
            omega
          · exact ⟨_, .bl true, .bl true, .inr fun m e => by cases e⟩
          · exact ⟨_, .str _ (by decide +kernel), .str _, .inr fun m e => by cases e⟩
          · refine ⟨_, rp_nat (by omega), .int _, .inr fun m e => ?_⟩
            have := V.int.inj e
            omega
          · refine ⟨_, .tup1 (n : Int) ?_ ?_ eo1Y, .tup eo1Y, .inr fun m e => by cases e⟩
            · have := Nat.log2_le_self n
              rw [Int.natAbs_natCast]
              omega
            · exact rp_short (by omega)
          · exact ⟨_, .lst0 eo2Y, .lst eo2Y, .inr fun m e => by cases e⟩
          · exact ⟨_, .dct0 eo3Y, .dct eo3Y, .inr fun m e => by cases e⟩
        dsimp only [gName, List.set]
        intro g
        obtain ⟨z, hz, hth, href⟩ := key g
        refine ⟨_, rfl, _, rfl, fa, t, x, z, rfl, hFY, okt, by omega, hth, hz, href, fun HZ sZ => ?_⟩
        refine ⟨_, rfl, x, z, rfl, hz.same sZ, rfl, ?_⟩
        rw [decide_eq_true (show V.str z = V.str z from rfl)]
        exact q _
end
end K66

set_option maxHeartbeats 0
/-! k66: what the top leaves; the end. -/
namespace K66
open PySem PySem.Spec PyProof.Rows L2 LamX NdefX Own
section
variable {P : Program} {w : World} {K : PySem.W.Frag} {mg : Str → Option Value} {h : Heap}
theorem gloF (X : K.In h) (G : h.Ns mainGlobals mg) (d : He.SaysD faL fnL K) {x : Str} (hx : x ∈ gloL) : mg x = some (.ref (He.ga K x)) :=
  He.glo_ok X G (d.facts (List.mem_append_left _ (List.mem_append_left _ (List.mem_map.mpr ⟨x, hx, rfl⟩))))
theorem freeF (X : K.In h) (G : h.Ns mainGlobals mg) (d : He.SaysD faL fnL K) {x : Str} (hx : x ∈ freeL) : mg x = none :=
  He.free_ok X G (d.facts (List.mem_append_left _ (List.mem_append_right _ (List.mem_map.mpr ⟨x, hx, rfl⟩))))
theorem moreF (d : He.SaysD faL fnL K) {f : He.Fa} (hf : f ∈ moreL) : f.ok K = true := d.facts (List.mem_append_right _ hf)
theorem wis_ok {W : Addr} (h : wisB K W = true) : WIs K W := by
  obtain ⟨z2, y⟩ := He.ba h
  obtain ⟨z3, y⟩ := He.ba y
  obtain ⟨z4, y⟩ := He.ba y
  obtain ⟨z5, z6⟩ := He.ba y
  exact ⟨of_decide_eq_true z2, of_decide_eq_true z3, of_decide_eq_true z4, of_decide_eq_true z5, fun T hT => of_decide_eq_true (List.all_eq_true.mp z6 T hT)⟩
theorem scE_BadValue : FnScope ["self", "value"] ["self", "value"] (defScope (inClass (topS 3) 0)) := ⟨rfl, rfl, rfl, by decide +kernel, rfl, by decide +kernel, by decide +kernel⟩
theorem ok_err_BadValue {base : Heap} {C : Addr} {f : Addr} {fd : FuncData} (F : Fun K "__init__" "BadValue.__init__" (inClass (topS 3) 0) f fd) (T : OexC K C) (no : PySem.W.findIn K (.ref C) "value" = some none) : FnOk P w K mg base CX0 1 f fd ["self", "value"] (spErr C "value") := by
  refine F.ok scE_BadValue (fun vs H Q E h => ?_) (fun cdv A outer s H vs Q E hr h => ?_)
  · obtain ⟨a, y, rfl, _⟩ := h
    rfl
  · obtain ⟨a, y, rfl, ha, q⟩ := h
    refine ⟨_, pss_one (ps_ost (pv 0) (pv 1)), ?_⟩
    exact ⟨_, rfl, _, rfl, a, C, rfl, T, no, .inl ⟨ha, fun dx n1 n2 => q dx n1 n2⟩⟩
theorem scE_BadStep : FnScope ["self", "number"] ["self", "number"] (defScope (inClass (topS 6) 0)) := ⟨rfl, rfl, rfl, by decide +kernel, rfl, by decide +kernel, by decide +kernel⟩
theorem ok_err_BadStep {base : Heap} {C : Addr} {f : Addr} {fd : FuncData} (F : Fun K "__init__" "BadStep.__init__" (inClass (topS 6) 0) f fd) (T : OexC K C) (no : PySem.W.findIn K (.ref C) "number" = some none) : FnOk P w K mg base CX0 1 f fd ["self", "number"] (spErr C "number") := by
  refine F.ok scE_BadStep (fun vs H Q E h => ?_) (fun cdv A outer s H vs Q E hr h => ?_)
  · obtain ⟨a, y, rfl, _⟩ := h
    rfl
  · obtain ⟨a, y, rfl, ha, q⟩ := h
    refine ⟨_, pss_one (ps_ost (pv 0) (pv 1)), ?_⟩
    exact ⟨_, rfl, _, rfl, a, C, rfl, T, no, .inl ⟨ha, fun dx n1 n2 => q dx n1 n2⟩⟩
theorem scE_NotASum : FnScope ["self", "step"] ["self", "step"] (defScope (inClass (topS 7) 0)) := ⟨rfl, rfl, rfl, by decide +kernel, rfl, by decide +kernel, by decide +kernel⟩
theorem ok_err_NotASum {base : Heap} {C : Addr} {f : Addr} {fd : FuncData} (F : Fun K "__init__" "NotASum.__init__" (inClass (topS 7) 0) f fd) (T : OexC K C) (no : PySem.W.findIn K (.ref C) "step" = some none) : FnOk P w K mg base CX0 1 f fd ["self", "step"] (spErr C "step") := by
  refine F.ok scE_NotASum (fun vs H Q E h => ?_) (fun cdv A outer s H vs Q E hr h => ?_)
  · obtain ⟨a, y, rfl, _⟩ := h
    rfl
  · obtain ⟨a, y, rfl, ha, q⟩ := h
    refine ⟨_, pss_one (ps_ost (pv 0) (pv 1)), ?_⟩
    exact ⟨_, rfl, _, rfl, a, C, rfl, T, no, .inl ⟨ha, fun dx n1 n2 => q dx n1 n2⟩⟩
theorem law_at {fa : Addr} (X : K.In h) (G : h.Ns mainGlobals mg) (hfa : mg "law" = some (.ref fa)) (c : He.SaysX faL fnL tsL [] exL w h K) (cp : SaysP psL K) : LawAtS PySem.Challenge.rw_figurestay_k66_products_spread w K CX0 65 63 "_law_script" mg fa h := by
  have d := c.t.d
  obtain ⟨oex_BadValue, y⟩ := He.ba c.more
  obtain ⟨xf_BadValue, y⟩ := He.ba y
  obtain ⟨oex_BadStep, y⟩ := He.ba y
  obtain ⟨xf_BadStep, y⟩ := He.ba y
  obtain ⟨oex_NotASum, y⟩ := He.ba y
  obtain ⟨xf_NotASum, y⟩ := He.ba y
  obtain ⟨tup_WAYS, y⟩ := He.ba y
  obtain ⟨get_PARTS, y⟩ := He.ba y
  obtain ⟨get_FIELDS, y⟩ := He.ba y
  obtain ⟨wis_Formula, y⟩ := He.ba y
  obtain ⟨prop_Formula_size, y⟩ := He.ba y
  obtain ⟨self_F, y⟩ := He.ba y
  obtain ⟨wis_E, kit_E⟩ := He.ba y
  obtain ⟨es_PARTS, n_PARTS, d_PARTS⟩ := c.t.tab 0
  obtain ⟨es_FIELDS, n_FIELDS, d_FIELDS⟩ := c.t.tab 1
  have te_BadValue := He.exm_ok (moreF d (f := .exm "BadValue" "BadValue" true) (List.mem_of_getElem? (i := 0) rfl))
  have mt_BadValue := He.meth_ok (moreF d (f := .meth "BadValue" "__init__") (List.mem_of_getElem? (i := 1) rfl))
  have no_BadValue := He.noat_ok (moreF d (f := .noat "BadValue" "value") (List.mem_of_getElem? (i := 2) rfl))
  obtain ⟨fd_BadValue, F0_BadValue⟩ := d.def_ 0 (d := dMk "BadValue" "__init__" 3 0 [] []) rfl
  have F_BadValue : Fun K "__init__" "BadValue.__init__" (inClass (topS 3) 0) _ fd_BadValue := fun_of F0_BadValue
  have b_BadValue := F_BadValue.binds (ps := ["self", "value"]) fun _ _ _ _ _ _ us hl => match us, hl with | [_, _], _ => rfl
  have te_BadStep := He.exm_ok (moreF d (f := .exm "BadStep" "BadStep" true) (List.mem_of_getElem? (i := 4) rfl))
  have mt_BadStep := He.meth_ok (moreF d (f := .meth "BadStep" "__init__") (List.mem_of_getElem? (i := 5) rfl))
  have no_BadStep := He.noat_ok (moreF d (f := .noat "BadStep" "number") (List.mem_of_getElem? (i := 6) rfl))
  obtain ⟨fd_BadStep, F0_BadStep⟩ := d.def_ 1 (d := dMk "BadStep" "__init__" 6 0 [] []) rfl
  have F_BadStep : Fun K "__init__" "BadStep.__init__" (inClass (topS 6) 0) _ fd_BadStep := fun_of F0_BadStep
  have b_BadStep := F_BadStep.binds (ps := ["self", "number"]) fun _ _ _ _ _ _ us hl => match us, hl with | [_, _], _ => rfl
  have te_NotASum := He.exm_ok (moreF d (f := .exm "NotASum" "NotASum" true) (List.mem_of_getElem? (i := 8) rfl))
  have mt_NotASum := He.meth_ok (moreF d (f := .meth "NotASum" "__init__") (List.mem_of_getElem? (i := 9) rfl))
  have no_NotASum := He.noat_ok (moreF d (f := .noat "NotASum" "step") (List.mem_of_getElem? (i := 10) rfl))
  obtain ⟨fd_NotASum, F0_NotASum⟩ := d.def_ 2 (d := dMk "NotASum" "__init__" 7 0 [] []) rfl
  have F_NotASum : Fun K "__init__" "NotASum.__init__" (inClass (topS 7) 0) _ fd_NotASum := fun_of F0_NotASum
  have b_NotASum := F_NotASum.binds (ps := ["self", "step"]) fun _ _ _ _ _ _ us hl => match us, hl with | [_, _], _ => rfl
  have cls_Formula := He.cls_ok (moreF d (f := .cls "Formula") (List.mem_of_getElem? (i := 12) rfl))
  have mk_Formula := He.mkr_ok (moreF d (f := .mkr "Formula") (List.mem_of_getElem? (i := 13) rfl))
  have no_Formula_rows := He.noat_ok (moreF d (f := .noat "Formula" "rows") (List.mem_of_getElem? (i := 14) rfl))
  obtain ⟨fd_Formula, FI_Formula⟩ := d.def_ 3 (d := dMk "Formula" "__init__" 27 0 [] []) rfl
  have GI_Formula : Fun K "__init__" "Formula.__init__" (inClass (topS 27) 0) _ fd_Formula := fun_of FI_Formula
  have bI_Formula := GI_Formula.binds (ps := ["self", "rows"]) fun _ _ _ _ _ _ us hl => match us, hl with | [_, _], _ => rfl
  have m_Formula_add := He.meth_ok (moreF d (f := .meth "Formula" "__add__") (List.mem_of_getElem? (i := 15) rfl))
  obtain ⟨fd_Formula_add, F_Formula_add⟩ := d.def_ 4 (d := dMk "Formula" "__add__" 27 2 [] []) rfl
  have G_Formula_add : Fun K "__add__" "Formula.__add__" (inClass (topS 27) 2) _ fd_Formula_add := fun_of F_Formula_add
  have b_Formula_add := G_Formula_add.binds (ps := ["self", "other"]) fun _ _ _ _ _ _ us hl => match us, hl with | [_, _], _ => rfl
  have m_Formula_sub := He.meth_ok (moreF d (f := .meth "Formula" "__sub__") (List.mem_of_getElem? (i := 16) rfl))
  obtain ⟨fd_Formula_sub, F_Formula_sub⟩ := d.def_ 5 (d := dMk "Formula" "__sub__" 27 4 [] []) rfl
  have G_Formula_sub : Fun K "__sub__" "Formula.__sub__" (inClass (topS 27) 4) _ fd_Formula_sub := fun_of F_Formula_sub
  have b_Formula_sub := G_Formula_sub.binds (ps := ["self", "other"]) fun _ _ _ _ _ _ us hl => match us, hl with | [_, _], _ => rfl
  have m_Formula_mul := He.meth_ok (moreF d (f := .meth "Formula" "__mul__") (List.mem_of_getElem? (i := 17) rfl))
  obtain ⟨fd_Formula_mul, F_Formula_mul⟩ := d.def_ 6 (d := dMk "Formula" "__mul__" 27 6 [] []) rfl
  have G_Formula_mul : Fun K "__mul__" "Formula.__mul__" (inClass (topS 27) 6) _ fd_Formula_mul := fun_of F_Formula_mul
  have b_Formula_mul := G_Formula_mul.binds (ps := ["self", "other"]) fun _ _ _ _ _ _ us hl => match us, hl with | [_, _], _ => rfl
  have m_Formula_parts := He.meth_ok (moreF d (f := .meth "Formula" "parts") (List.mem_of_getElem? (i := 18) rfl))
  obtain ⟨fd_Formula_parts, F_Formula_parts⟩ := d.def_ 7 (d := dMk "Formula" "parts" 27 11 [] []) rfl
  have G_Formula_parts : Fun K "parts" "Formula.parts" (inClass (topS 27) 11) _ fd_Formula_parts := fun_of F_Formula_parts
  have b_Formula_parts := G_Formula_parts.binds (ps := ["self", "step"]) fun _ _ _ _ _ _ us hl => match us, hl with | [_, _], _ => rfl
  have m_Formula_part := He.meth_ok (moreF d (f := .meth "Formula" "part") (List.mem_of_getElem? (i := 19) rfl))
  obtain ⟨fd_Formula_part, F_Formula_part⟩ := d.def_ 8 (d := dMk "Formula" "part" 27 12 [] []) rfl
  have G_Formula_part : Fun K "part" "Formula.part" (inClass (topS 27) 12) _ fd_Formula_part := fun_of F_Formula_part
  have b_Formula_part := G_Formula_part.binds (ps := ["self", "step"]) fun _ _ _ _ _ _ us hl => match us, hl with | [_, _], _ => rfl
  have m_Formula_replaced := He.meth_ok (moreF d (f := .meth "Formula" "replaced") (List.mem_of_getElem? (i := 20) rfl))
  obtain ⟨fd_Formula_replaced, F_Formula_replaced⟩ := d.def_ 9 (d := dMk "Formula" "replaced" 27 13 [] []) rfl
  have G_Formula_replaced : Fun K "replaced" "Formula.replaced" (inClass (topS 27) 13) _ fd_Formula_replaced := fun_of F_Formula_replaced
  have b_Formula_replaced := G_Formula_replaced.binds (ps := ["self", "step", "other"]) fun _ _ _ _ _ _ us hl => match us, hl with | [_, _, _], _ => rfl
  obtain ⟨⟨pa_Formula_size, po_Formula_size⟩, oa_Formula_size⟩ := prop_ok prop_Formula_size
  obtain ⟨fd_Formula_size, F_Formula_size⟩ := funD_at (cp.at_ 0 (d := dMk "Formula" "size" 27 9 [] []) rfl) oa_Formula_size
  have G_Formula_size : Fun K "size" "Formula.size" (inClass (topS 27) 9) _ fd_Formula_size := fun_of F_Formula_size
  have b_Formula_size := G_Formula_size.binds (ps := ["self"]) fun _ _ _ _ _ _ us hl => match us, hl with | [_], _ => rfl
  obtain ⟨fd_is_an_integer, F_is_an_integer⟩ := d.def_ 10 (d := dfn "is_an_integer" 10) rfl
  have A_is_an_integer : At K mg "is_an_integer" (topS 10) ["value"] := at_of F_is_an_integer (gloF X G d (by decide +kernel)) fun _ _ _ _ _ _ us hl => match us, hl with | [_], _ => rfl
  obtain ⟨fd_is_whole_number, F_is_whole_number⟩ := d.def_ 11 (d := dfn "is_whole_number" 11) rfl
  have A_is_whole_number : At K mg "is_whole_number" (topS 11) ["value"] := at_of F_is_whole_number (gloF X G d (by decide +kernel)) fun _ _ _ _ _ _ us hl => match us, hl with | [_], _ => rfl
  obtain ⟨fd_is_name, F_is_name⟩ := d.def_ 12 (d := dfn "is_name" 12) rfl
  have A_is_name : At K mg "is_name" (topS 12) ["value"] := at_of F_is_name (gloF X G d (by decide +kernel)) fun _ _ _ _ _ _ us hl => match us, hl with | [_], _ => rfl
  obtain ⟨fd_need_list, F_need_list⟩ := d.def_ 13 (d := dfn "need_list" 15) rfl
  have A_need_list : At K mg "need_list" (topS 15) ["value"] := at_of F_need_list (gloF X G d (by decide +kernel)) fun _ _ _ _ _ _ us hl => match us, hl with | [_], _ => rfl
  obtain ⟨fd_need_formula, F_need_formula⟩ := d.def_ 14 (d := dfn "need_formula" 29) rfl
  have A_need_formula : At K mg "need_formula" (topS 29) ["value"] := at_of F_need_formula (gloF X G d (by decide +kernel)) fun _ _ _ _ _ _ us hl => match us, hl with | [_], _ => rfl
  obtain ⟨fd_need_step, F_need_step⟩ := d.def_ 15 (d := dfn "need_step" 30) rfl
  have A_need_step : At K mg "need_step" (topS 30) ["formula", "value"] := at_of F_need_step (gloF X G d (by decide +kernel)) fun _ _ _ _ _ _ us hl => match us, hl with | [_, _], _ => rfl
  obtain ⟨fd_parts_of, F_parts_of⟩ := d.def_ 16 (d := dfn "parts_of" 31) rfl
  have A_parts_of : At K mg "parts_of" (topS 31) ["row"] := at_of F_parts_of (gloF X G d (by decide +kernel)) fun _ _ _ _ _ _ us hl => match us, hl with | [_], _ => rfl
  obtain ⟨fd_as_formula, F_as_formula⟩ := d.def_ 17 (d := dfn "as_formula" 32) rfl
  have A_as_formula : At K mg "as_formula" (topS 32) ["value"] := at_of F_as_formula (gloF X G d (by decide +kernel)) fun _ _ _ _ _ _ us hl => match us, hl with | [_], _ => rfl
  obtain ⟨fd__combined, F__combined⟩ := d.def_ 18 (d := dfn "_combined" 34) rfl
  have A__combined : At K mg "_combined" (topS 34) ["word", "one", "other"] := at_of F__combined (gloF X G d (by decide +kernel)) fun _ _ _ _ _ _ us hl => match us, hl with | [_, _, _], _ => rfl
  obtain ⟨fd_with_parts, F_with_parts⟩ := d.def_ 19 (d := dfn "with_parts" 35) rfl
  have A_with_parts : At K mg "with_parts" (topS 35) ["row", "parts"] := at_of F_with_parts (gloF X G d (by decide +kernel)) fun _ _ _ _ _ _ us hl => match us, hl with | [_, _], _ => rfl
  obtain ⟨fd__moved, FD__moved⟩ := d.def_ 20 (d := dfnP "_moved" 36 [.int 0]) rfl
  have F__moved : FunD K "_moved" "_moved" (defArgs (topS 36)) (defBody (topS 36)) (defScope (topS 36)) [V.int 0] [] _ fd__moved := FD__moved
  have A__moved : AtD K mg "_moved" (topS 36) ["row", "by", "start"] [V.int 0] := by
    obtain ⟨ds, v, b⟩ := F__moved.binds1 (ps := ["row", "by", "start"]) 2 0 (by simp) rfl fun T kV doc pm an cdv ct us its hu hi => match us, its, hu, hi with | [_, _], [_], _, _ => ⟨_, rfl, rfl⟩
    obtain ⟨ds0, rd, b0⟩ := F__moved.binds1 (ps := ["row", "by", "start"]) 3 1 (by simp) rfl fun T kV doc pm an cdv ct us its hu hi => match us, its, hu, hi with | [_, _, _], [_], _, _ => ⟨_, rfl, rfl⟩
    have e : ds0 = [] := by cases rd; rfl
    rw [e] at b0
    exact ⟨_, _, ds, F__moved, gloF X G d (by decide +kernel), b0, v, b⟩
  obtain ⟨fd__first_leading_to, F__first_leading_to⟩ := d.def_ 21 (d := dfn "_first_leading_to" 37) rfl
  have A__first_leading_to : At K mg "_first_leading_to" (topS 37) ["rows", "step"] := at_of F__first_leading_to (gloF X G d (by decide +kernel)) fun _ _ _ _ _ _ us hl => match us, hl with | [_, _], _ => rfl
  obtain ⟨fd__first_wrong_step, F__first_wrong_step⟩ := d.def_ 22 (d := dfn "_first_wrong_step" 38) rfl
  have A__first_wrong_step : At K mg "_first_wrong_step" (topS 38) ["rows"] := at_of F__first_wrong_step (gloF X G d (by decide +kernel)) fun _ _ _ _ _ _ us hl => match us, hl with | [_], _ => rfl
  obtain ⟨fd__is_row, F__is_row⟩ := d.def_ 23 (d := dfn "_is_row" 39) rfl
  have A__is_row : At K mg "_is_row" (topS 39) ["row"] := at_of F__is_row (gloF X G d (by decide +kernel)) fun _ _ _ _ _ _ us hl => match us, hl with | [_], _ => rfl
  obtain ⟨fd__has_good_fields, F__has_good_fields⟩ := d.def_ 24 (d := dfn "_has_good_fields" 40) rfl
  have A__has_good_fields : At K mg "_has_good_fields" (topS 40) ["row"] := at_of F__has_good_fields (gloF X G d (by decide +kernel)) fun _ _ _ _ _ _ us hl => match us, hl with | [_], _ => rfl
  obtain ⟨fd_spread, F_spread⟩ := d.def_ 25 (d := dfn "spread" 42) rfl
  have A_spread : At K mg "spread" (topS 42) ["formula", "step"] := at_of F_spread (gloF X G d (by decide +kernel)) fun _ _ _ _ _ _ us hl => match us, hl with | [_, _], _ => rfl
  obtain ⟨fd__law_begin, F__law_begin⟩ := d.def_ 26 (d := dfn "_law_begin" 44) rfl
  have A__law_begin : At K mg "_law_begin" (topS 44) ["_law_script"] := at_of F__law_begin (gloF X G d (by decide +kernel)) fun _ _ _ _ _ _ us hl => match us, hl with | [_], _ => rfl
  obtain ⟨fd__law_draw, F__law_draw⟩ := d.def_ 27 (d := dfn "_law_draw" 45) rfl
  have A__law_draw : At K mg "_law_draw" (topS 45) ["_law_tape", "_law_limit"] := at_of F__law_draw (gloF X G d (by decide +kernel)) fun _ _ _ _ _ _ us hl => match us, hl with | [_, _], _ => rfl
  obtain ⟨fd__law_pick, F__law_pick⟩ := d.def_ 28 (d := dfn "_law_pick" 46) rfl
  have A__law_pick : At K mg "_law_pick" (topS 46) ["_law_tape", "_law_some"] := at_of F__law_pick (gloF X G d (by decide +kernel)) fun _ _ _ _ _ _ us hl => match us, hl with | [_, _], _ => rfl
  obtain ⟨fd__law_ten, F__law_ten⟩ := d.def_ 29 (d := dfn "_law_ten" 47) rfl
  have A__law_ten : At K mg "_law_ten" (topS 47) ["_law_figures_here"] := at_of F__law_ten (gloF X G d (by decide +kernel)) fun _ _ _ _ _ _ us hl => match us, hl with | [_], _ => rfl
  obtain ⟨fd__law_long, F__law_long⟩ := d.def_ 30 (d := dfn "_law_long" 48) rfl
  have A__law_long : At K mg "_law_long" (topS 48) ["_law_tape", "_law_figures_here"] := at_of F__law_long (gloF X G d (by decide +kernel)) fun _ _ _ _ _ _ us hl => match us, hl with | [_, _], _ => rfl
  obtain ⟨fd__law_size, F__law_size⟩ := d.def_ 31 (d := dfn "_law_size" 49) rfl
  have A__law_size : At K mg "_law_size" (topS 49) ["_law_tape", "_law_figures_here"] := at_of F__law_size (gloF X G d (by decide +kernel)) fun _ _ _ _ _ _ us hl => match us, hl with | [_, _], _ => rfl
  obtain ⟨fd__law_figures, F__law_figures⟩ := d.def_ 32 (d := dfn "_law_figures" 50) rfl
  have A__law_figures : At K mg "_law_figures" (topS 50) ["_law_tape", "_law_most"] := at_of F__law_figures (gloF X G d (by decide +kernel)) fun _ _ _ _ _ _ us hl => match us, hl with | [_, _], _ => rfl
  obtain ⟨fd__law_words, F__law_words⟩ := d.def_ 33 (d := dfn "_law_words" 51) rfl
  have A__law_words : At K mg "_law_words" (topS 51) ["_law_tape", "_law_many"] := at_of F__law_words (gloF X G d (by decide +kernel)) fun _ _ _ _ _ _ us hl => match us, hl with | [_, _], _ => rfl
  obtain ⟨fd__law_parts, F__law_parts⟩ := d.def_ 34 (d := dfn "_law_parts" 52) rfl
  have A__law_parts : At K mg "_law_parts" (topS 52) ["_law_row"] := at_of F__law_parts (gloF X G d (by decide +kernel)) fun _ _ _ _ _ _ us hl => match us, hl with | [_], _ => rfl
  obtain ⟨fd__law_shifted, F__law_shifted⟩ := d.def_ 35 (d := dfn "_law_shifted" 53) rfl
  have A__law_shifted : At K mg "_law_shifted" (topS 53) ["_law_row", "_law_by"] := at_of F__law_shifted (gloF X G d (by decide +kernel)) fun _ _ _ _ _ _ us hl => match us, hl with | [_, _], _ => rfl
  obtain ⟨fd__law_laid, F__law_laid⟩ := d.def_ 36 (d := dfn "_law_laid" 54) rfl
  have A__law_laid : At K mg "_law_laid" (topS 54) ["_law_tree"] := at_of F__law_laid (gloF X G d (by decide +kernel)) fun _ _ _ _ _ _ us hl => match us, hl with | [_], _ => rfl
  obtain ⟨fd__law_leaf, F__law_leaf⟩ := d.def_ 37 (d := dfn "_law_leaf" 55) rfl
  have A__law_leaf : At K mg "_law_leaf" (topS 55) ["_law_tape", "_law_names", "_law_figures_here"] := at_of F__law_leaf (gloF X G d (by decide +kernel)) fun _ _ _ _ _ _ us hl => match us, hl with | [_, _, _], _ => rfl
  obtain ⟨fd__law_side, F__law_side⟩ := d.def_ 38 (d := dfn "_law_side" 56) rfl
  have A__law_side : At K mg "_law_side" (topS 56) ["_law_tape", "_law_names"] := at_of F__law_side (gloF X G d (by decide +kernel)) fun _ _ _ _ _ _ us hl => match us, hl with | [_, _], _ => rfl
  obtain ⟨fd__law_added, F__law_added⟩ := d.def_ 39 (d := dfn "_law_added" 57) rfl
  have A__law_added : At K mg "_law_added" (topS 57) ["_law_tape", "_law_names"] := at_of F__law_added (gloF X G d (by decide +kernel)) fun _ _ _ _ _ _ us hl => match us, hl with | [_, _], _ => rfl
  obtain ⟨fd__law_spread_out, F__law_spread_out⟩ := d.def_ 40 (d := dfn "_law_spread_out" 58) rfl
  have A__law_spread_out : At K mg "_law_spread_out" (topS 58) ["_law_tree"] := at_of F__law_spread_out (gloF X G d (by decide +kernel)) fun _ _ _ _ _ _ us hl => match us, hl with | [_], _ => rfl
  obtain ⟨fd__law_denied, F__law_denied⟩ := d.def_ 41 (d := dfn "_law_denied" 59) rfl
  have A__law_denied : At K mg "_law_denied" (topS 59) ["_law_formula", "_law_step"] := at_of F__law_denied (gloF X G d (by decide +kernel)) fun _ _ _ _ _ _ us hl => match us, hl with | [_, _], _ => rfl
  obtain ⟨fd__law_has_sum, F__law_has_sum⟩ := d.def_ 42 (d := dfn "_law_has_sum" 60) rfl
  have A__law_has_sum : At K mg "_law_has_sum" (topS 60) ["_law_rows", "_law_step"] := at_of F__law_has_sum (gloF X G d (by decide +kernel)) fun _ _ _ _ _ _ us hl => match us, hl with | [_, _], _ => rfl
  obtain ⟨fdL, FL⟩ := d.def_ 43 (d := dfn "law" 61) rfl
  have e := hfa.symm.trans (gloF X G d (x := "law") (by decide +kernel))
  cases e
  have FL' : Fun K "law" "law" sLaw _ fdL := fun_of FL
  have hL : ∀ (s : Shared) (u : Value), BindsTo s fdL ⟨[u], []⟩ [("_law_script", u)] := by
    obtain ⟨oc, od, kV, doc, pm, an, cdv, ct, osl, rfl, lk, hcd⟩ := FL'.ex
    exact fun s u => .of_eq rfl
  refine ⟨fdL, [], spLaw K, fun p hp => (by cases hp), fun p hp => (by cases hp), fun p hp => (by cases hp), hL, fun H a ns hl _ hT hs => ⟨a, ns, rfl, hs, hl, fun _ => rfl⟩, fun base XB GB TBs => ?_⟩
  · skip
    have B : Blt mg := { isi := freeF X G d (by decide +kernel), int := freeF X G d (by decide +kernel), bool := freeF X G d (by decide +kernel), len := freeF X G d (by decide +kernel), list := freeF X G d (by decide +kernel), range := freeF X G d (by decide +kernel), tuple := freeF X G d (by decide +kernel), all := freeF X G d (by decide +kernel), dm := freeF X G d (by decide +kernel), min := freeF X G d (by decide +kernel), max := freeF X G d (by decide +kernel), str := freeF X G d (by decide +kernel), abs := freeF X G d (by decide +kernel), dict := freeF X G d (by decide +kernel), any := freeF X G d (by decide +kernel) }
    have TE_BadValue : ErrC PySem.Challenge.rw_figurestay_k66_products_spread.prog w K mg base "BadValue" "value" 1 (He.ga K "BadValue") (spErr (He.ga K "BadValue") "value") := ⟨gloF X G d (by decide +kernel), oexB_ok oex_BadValue, ⟨_, fd_BadValue, mt_BadValue.1, beq_iff_eq.mp mt_BadValue.fn, ok_err_BadValue F_BadValue (oexB_ok oex_BadValue) no_BadValue, b_BadValue⟩, L2.xfB_ok xf_BadValue, te_BadValue, no_BadValue⟩
    have TE_BadStep : ErrC PySem.Challenge.rw_figurestay_k66_products_spread.prog w K mg base "BadStep" "number" 1 (He.ga K "BadStep") (spErr (He.ga K "BadStep") "number") := ⟨gloF X G d (by decide +kernel), oexB_ok oex_BadStep, ⟨_, fd_BadStep, mt_BadStep.1, beq_iff_eq.mp mt_BadStep.fn, ok_err_BadStep F_BadStep (oexB_ok oex_BadStep) no_BadStep, b_BadStep⟩, L2.xfB_ok xf_BadStep, te_BadStep, no_BadStep⟩
    have TE_NotASum : ErrC PySem.Challenge.rw_figurestay_k66_products_spread.prog w K mg base "NotASum" "step" 1 (He.ga K "NotASum") (spErr (He.ga K "NotASum") "step") := ⟨gloF X G d (by decide +kernel), oexB_ok oex_NotASum, ⟨_, fd_NotASum, mt_NotASum.1, beq_iff_eq.mp mt_NotASum.fn, ok_err_NotASum F_NotASum (oexB_ok oex_NotASum) no_NotASum, b_NotASum⟩, L2.xfB_ok xf_NotASum, te_NotASum, no_NotASum⟩
    have I_Formula : WIs K (He.ga K "Formula") := wis_ok wis_Formula
    have TF : FrmC K mg (He.ga K "Formula") := ⟨(gloF X G d (by decide +kernel)), cls_Formula, no_Formula_rows⟩
    have TP : PtC K w mg (He.ga K "PARTS") (He.ga K "FIELDS") (He.ga K "WAYS") := ⟨(gloF X G d (by decide +kernel)), ⟨_, _, d_PARTS⟩, fun z v hz => getBV_ok get_PARTS hz, (gloF X G d (by decide +kernel)), ⟨_, _, d_FIELDS⟩, fun z v hz => getBV_ok get_FIELDS hz, (gloF X G d (by decide +kernel)), fun H => (He.tupB_ok tup_WAYS H)⟩
    have mE : mg "enumerate" = none := freeF X G d (by decide +kernel)
    have mR : mg "repr" = none := freeF X G d (by decide +kernel)
    have D1 := ok_isInt (P := PySem.Challenge.rw_figurestay_k66_products_spread.prog) (w := w) (base := base) A_is_an_integer B
    have D2 := ok_isWh A_is_whole_number D1
    have D3 := ok_nm (P := PySem.Challenge.rw_figurestay_k66_products_spread.prog) (w := w) (base := base) A_is_name B
    have D4 := ok_po (P := PySem.Challenge.rw_figurestay_k66_products_spread.prog) (w := w) (base := base) A_parts_of TP
    have D5 := ok_gf A__has_good_fields TP D2 D3
    have D6 := ok_rw A__is_row B TP D2 D4 D5
    have D7 := ok_wp (P := PySem.Challenge.rw_figurestay_k66_products_spread.prog) (w := w) (base := base) A_with_parts B
    have D8 := ok_mv A__moved D4 D7
    have D9 := ok_fl (P := PySem.Challenge.rw_figurestay_k66_products_spread.prog) (w := w) (base := base) A__first_leading_to TP
    have E1 := ok_fw A__first_wrong_step B mE D6 D4
    have E2 := ok_nl A_need_list B TE_BadValue
    have GIF : Fun K "__init__" "Formula.__init__" (fmI 0) _ fd_Formula := GI_Formula
    have MF : FMk PySem.Challenge.rw_figurestay_k66_products_spread.prog w K mg base (He.ga K "Formula") := ⟨_, fd_Formula, mk_Formula, ok_fI GIF B TF TE_BadStep E2 E1, bI_Formula⟩
    have SZ : FSz PySem.Challenge.rw_figurestay_k66_products_spread.prog w K mg base (He.ga K "Formula") := ⟨pa_Formula_size, _, fd_Formula_size, po_Formula_size, ok_sz G_Formula_size B TF, b_Formula_size⟩
    have E3 := ok_ns A_need_step TF TE_BadStep D2 SZ
    have E4 := ok_nf A_need_formula B TF I_Formula TE_BadValue
    have GP1 : Fun K "parts" "Formula.parts" sPts _ fd_Formula_parts := G_Formula_parts
    have GP2 : Fun K "part" "Formula.part" sPart _ fd_Formula_part := G_Formula_part
    have GP3 : Fun K "replaced" "Formula.replaced" sRep _ fd_Formula_replaced := G_Formula_replaced
    have MP : WMeth PySem.Challenge.rw_figurestay_k66_products_spread.prog w K mg base (He.ga K "Formula") "parts" 4 ["self", "step"] (spPts (He.ga K "Formula")) := ⟨_, fd_Formula_parts, m_Formula_parts, ok_pts GP1 TF E3 D4, b_Formula_parts⟩
    have MQ : WMeth PySem.Challenge.rw_figurestay_k66_products_spread.prog w K mg base (He.ga K "Formula") "part" 8 ["self", "step"] (spPart (He.ga K "Formula")) := ⟨_, fd_Formula_part, m_Formula_part, ok_part GP2 TF MF E3 D9 D8, b_Formula_part⟩
    have MR : WMeth PySem.Challenge.rw_figurestay_k66_products_spread.prog w K mg base (He.ga K "Formula") "replaced" 8 ["self", "step", "other"] (spRep (He.ga K "Formula")) := ⟨_, fd_Formula_replaced, m_Formula_replaced, ok_rep GP3 B TF MF SZ E3 E4 D9 D8, b_Formula_replaced⟩
    have E5 := ok_af (P := PySem.Challenge.rw_figurestay_k66_products_spread.prog) (w := w) (base := base) A_as_formula B TF I_Formula
    have E6 := ok_co A__combined B TF MF SZ D8
    have OA : WOp PySem.Challenge.rw_figurestay_k66_products_spread.prog w K mg base (He.ga K "Formula") .Add 9 (spOp (He.ga K "Formula") .sum) := ⟨_, fd_Formula_add, self_F, m_Formula_add.1, m_Formula_add.fn, ok_op0 G_Formula_add E6 E5, b_Formula_add⟩
    have OS : WOp PySem.Challenge.rw_figurestay_k66_products_spread.prog w K mg base (He.ga K "Formula") .Sub 9 (spOp (He.ga K "Formula") .dif) := ⟨_, fd_Formula_sub, self_F, m_Formula_sub.1, m_Formula_sub.fn, ok_op1 G_Formula_sub E6 E5, b_Formula_sub⟩
    have OM : WOp PySem.Challenge.rw_figurestay_k66_products_spread.prog w K mg base (He.ga K "Formula") .Mult 9 (spOp (He.ga K "Formula") .prd) := ⟨_, fd_Formula_mul, self_F, m_Formula_mul.1, m_Formula_mul.fn, ok_op2 G_Formula_mul E6 E5, b_Formula_mul⟩
    have E7 := ok_spr A_spread B TF TE_NotASum SZ D2 E4 MP MQ MR OA OS OM
    have XN : ExcC K (He.ga K "NotASum") := by
      have a := L2.xfB_ok xf_NotASum
      have b := wis_ok wis_E
      exact ⟨a.ga, a.gg, a.exC, a.hdC, b.ha, b.hn, b.ht, b.hm⟩
    have L0 := ok_begin (P := PySem.Challenge.rw_figurestay_k66_products_spread.prog) (w := w) (base := base) A__law_begin B
    have L1 := ok_draw (P := PySem.Challenge.rw_figurestay_k66_products_spread.prog) (w := w) (base := base) A__law_draw B
    have L2 := ok_pick A__law_pick B L1
    have L3 := ok_ten (P := PySem.Challenge.rw_figurestay_k66_products_spread.prog) (w := w) (base := base) A__law_ten B
    have L4 := ok_long A__law_long B L1 L3
    have L5 := ok_size A__law_size B L1 L3 L4
    have L6 := ok_figs A__law_figures B L1 L2
    have LW := ok_words A__law_words B L1 L2
    have L7 := ok_lp (P := PySem.Challenge.rw_figurestay_k66_products_spread.prog) (w := w) (base := base) A__law_parts B
    have L8 := ok_sh A__law_shifted B L7
    have L9 := ok_ld A__law_laid B L8 60
    have LA := ok_leaf A__law_leaf B L1 L2 L5 L6
    have LB := ok_side A__law_side B L2 LA
    have LC := ok_add A__law_added B L2 LB
    have LD := ok_spo (P := PySem.Challenge.rw_figurestay_k66_products_spread.prog) (w := w) (base := base) A__law_spread_out B
    have LE := ok_hs A__law_has_sum B L7
    have LF := gd_den A__law_denied B mR TE_NotASum XN (gloF X G d (by decide +kernel)) (of_decide_eq_true kit_E) E7
    exact ok_law FL' B mR TF I_Formula MF L0 L1 L2 LW LB LC LD L9 LE E7 LF
end
end K66
open PySem PySem.W PySem.Calls PyProof.Rows
theorem PySem.Challenge.cw_figurestay_k66_products_spread_holds : PySem.Challenge.rw_figurestay_k66_products_spread.Holds := by
  w_on; o_law
  refine HandSHeadRun.head_any (r := OpenLaw.row PySem.Challenge.rw_figurestay_k66_products_spread) (q := view (OpenLaw.row PySem.Challenge.rw_figurestay_k66_products_spread).prog [61]) (H := K66.hkL) (ob := K66.obL) (M := 5200) (loose := K66.looseL)
    (d := HandSHeadRun.topDef (OpenLaw.row PySem.Challenge.rw_figurestay_k66_products_spread).prog 61) (kwd := []) K66.obL_eq
    (by kernel_rfl) (fun s => by kernel_rfl) K66.runW (by kernel_rfl) (by kernel_rfl) (by kernel_rfl) (by rfl) (by first | assumption | decide +kernel) (by decide +kernel) ⟨rfl, rfl, rfl, rfl, rfl, by decide +kernel⟩ ?hw ?hc
  case hw => w_witness2
  case hc =>
    refine LamX.walk_ofTsE (l := PySem.Challenge.rw_figurestay_k66_products_spread) (n := 63) (k := 65) (x := "_law_script") (CX := fun _ => L2.CX0) rfl (by decide) (by kernel_rfl) ⟨rfl, by decide, by decide⟩ ?F (fun _ _ _ _ _ z => z)
    intro w mg fa h Y G hmg0
    obtain ⟨K, KX, c, cp⟩ := Y
    have hmg : mg ("law" : PySem.Str) = some (.ref fa) := by
      have e : (HandSHeadRun.topDef (OpenLaw.row PySem.Challenge.rw_figurestay_k66_products_spread).prog 61).name = ("law" : PySem.Str) := by kernel_rfl
      rw [← e]
      exact hmg0
    exact ⟨K, KX, K66.law_at KX G hmg c cp⟩
