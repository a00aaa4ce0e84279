import PyProof.Rows.All
import Wide.All
import OpenK.AllK
import Wide.FinOn
import HandS.ForMost
import HandS.ForExc
import HandS.Wide
import HandS.WideBits
import HandS.IsInst
import HandS.ExcInit
import HandS.ExcField
import HandS.Nested
import HandS.Deep
import HandS.More
import HandS.Codes
import HandS.Lambda
import KE.KDflt
import KE.IntTextLaws
import HandS.ExcOwn
import HandS.WordsExc
import KE.KStateDown
import HandS.Head0
import HandS.Head1
import HandS.Head2
import HandS.HeadEnd
import HandS.HeadHook1
import HandS.HeadHook2
import HandS.HeadHook3
import HandS.HeadHook4
import HandS.HeadWalk
import PySem.Challenge.RW_figurestay_k09_shapes_and_columns
import KE.KOpsOwn
import HandS.OwnEq
import PyProof.Rows.RuleN_abs
import PyProof.InstNe
import HandS.StrMore
import HandS.Text
import HandS.ExcIs
import KE.KExcIs
import PyProof.NeKinds
import HandS.Property
import HandS.SortKw
import KE.DatumOrd
import HandS.Style
import Wide.Once
set_option Elab.async false
set_option linter.all false
set_option maxRecDepth 100000
set_option maxHeartbeats 4000000
/-! own layer, of no law: OWN -/
namespace Own
open PySem PySem.Spec PyProof.Rows L2
/-! ### heaps -/
/-- all but what stands at d is as it was -/
def Keep (d : Addr) (H H' : Hp) : Prop := ∀ b o, b ≠ d → H b = some o → H' b = some o
theorem Keep.refl {d : Addr} {H : Hp} : Keep d H H := fun _ _ _ e => e
theorem Keep.trans {d : Addr} {H H1 H2 : Hp} (a : Keep d H H1) (b : Keep d H1 H2) : Keep d H H2 := fun c o n e => b c o n (a c o n e)
theorem Keep.new {d p : Addr} {o : HO} {H : Hp} (h : H p = none) : Keep d H (upd H p o) := fun b u _ e => by
  rw [upd_ne (ne_of_none e h)]
  exact e
theorem Keep.at {d : Addr} {o : HO} {H : Hp} : Keep d H (upd H d o) := fun b u n e => by
  rw [upd_ne n]
  exact e
theorem Keep.same {d : Addr} {H H' : Hp} (s : Same H H') : Keep d H H' := fun b u _ e => s b u e
theorem same_new {H : Hp} {p : Addr} {o : HO} (h : H p = none) : Same H (upd H p o) := fun b u e => by
  rw [upd_ne (ne_of_none e h)]
  exact e
theorem ne_txt : ¬ (("cells" : Str) = "count") ∧ ¬ (("cells" : Str) = "left") ∧ ¬ (("count" : Str) = "left") ∧ ¬ (("count" : Str) = "cells") ∧ ¬ (("left" : Str) = "cells") ∧ ¬ (("left" : Str) = "count") := by decide +kernel
/-- what the pen's dict holds -/
def penK (p : Addr) (c l : Int) : List (Key × V) := [(Sum.inr "cells", V.ref p), (Sum.inr "count", V.int c), (Sum.inr "left", V.int l)]
theorem pen_cells (p : Addr) (c l : Int) : valV (penK p c l) (Sum.inr "cells" : Key) = some (.ref p) := valV_pos rfl
theorem pen_count (p : Addr) (c l : Int) : valV (penK p c l) (Sum.inr "count" : Key) = some (.int c) := by
  unfold penK
  rw [valV_neg (fun e => ne_txt.1 (Sum.inr.inj e)), valV_pos rfl]
theorem pen_left (p : Addr) (c l : Int) : valV (penK p c l) (Sum.inr "left" : Key) = some (.int l) := by
  unfold penK
  rw [valV_neg (fun e => ne_txt.2.1 (Sum.inr.inj e)), valV_neg (fun e => ne_txt.2.2.1 (Sum.inr.inj e)), valV_pos rfl]
theorem key_dec {a b : Str} (h : ¬ a = b) : decide ((Sum.inr a : Key) = Sum.inr b) = false := decide_eq_false fun e => h (Sum.inr.inj e)
theorem put_count (p : Addr) (c l c' : Int) : putK (penK p c l) (Sum.inr "count" : Key) (.int c') = penK p c' l := by
  unfold penK putK
  simp [key_dec ne_txt.1, key_dec ne_txt.2.2.1, key_dec ne_txt.2.2.2.2.2, ne_txt]
theorem put_left (p : Addr) (c l l' : Int) : putK (penK p c l) (Sum.inr "left" : Key) (.int l') = penK p c l' := by
  unfold penK putK
  simp [key_dec ne_txt.2.1, key_dec ne_txt.2.2.1, ne_txt]
/-- the pen stands at d: at most B draws were begun -/
structure Pen (H : Hp) (d : Addr) (B : Int) : Prop where
  ex : ∃ (p : Addr) (ns : List Int) (c l : Int), H d = some (.dK (penK p c l)) ∧ H p = some (.lst (ns.map V.int)) ∧ ns.length ≤ 63 ∧ 0 ≤ c ∧ c ≤ B
theorem Pen.mono {H : Hp} {d : Addr} {B B' : Int} (h : Pen H d B) (z : B ≤ B') : Pen H d B' := by
  obtain ⟨p, ns, c, l, a, b, e, f, g⟩ := h.ex
  exact ⟨p, ns, c, l, a, b, e, f, by omega⟩
theorem Pen.same {H H' : Hp} {d : Addr} {B : Int} (h : Pen H d B) (s : Same H H') : Pen H' d B := by
  obtain ⟨p, ns, c, l, a, b, e, f, g⟩ := h.ex
  exact ⟨p, ns, c, l, s _ _ a, s _ _ b, e, f, g⟩
end Own

/-! from L06 -/
namespace Own
open PySem PySem.Spec PyProof.Rows L2 LamX NdefX
/-- the integers that stand as defaults -/
def dInts : List Expr → List Int
  | .Constant (.int i) _ _ :: r => i :: dInts r
  | _ => []
/-- the tuple of defaults -/
def DfV (H : Hp) (dV : Value) (ds : List Int) : Prop := (ds = [] ∧ dV = .none) ∨ (ds ≠ [] ∧ ∃ T : Addr, dV = .ref T ∧ H T = some (.tup (ds.map V.int)))
def DfIn (h : Heap) (dV : Value) (us : List Value) : Prop := (us = [] ∧ dV = .none) ∨ (us ≠ [] ∧ ∃ T : Addr, dV = .ref T ∧ IsTup h T us.toArray)
/-- a lambda's words in F (its body apart), its defaults dV -/
abbrev lamFd (F : NF) (b : Expr) (dV doc pm ctv : Value) : FuncData := PySem.W.kdv_fn F.name F.qual F.params (.expr b) F.scope F.cl dV doc pm (.ref F.c) ctv
def LamO (f : Addr) (F : NF) (b : Expr) (dV : Value) : HO := .ext fun h => ∃ doc pm ctv : Value, h.get? f = some ({ cls := .type "function", data := .func (lamFd F b dV doc pm ctv) } : Obj)
/-- at f stands the lambda F, whose body is b -/
def LamAt (H : Hp) (f : Addr) (F : NF) (b : Expr) : Prop := ∃ dV : Value, H f = some (LamO f F b dV) ∧ DfV H dV (dInts F.params.defaults)
theorem lamO_ne {f : Addr} {F : NF} {b : Expr} {dV : Value} (ps : Array Value) : LamO f F b dV ≠ .tbl ps := fun z => by
  unfold LamO at z
  cases z
theorem LamAt.ext {H H' : Hp} {f : Addr} {F : NF} {b : Expr} (h : LamAt H f F b) (e : ExtN H H') : LamAt H' f F b := by
  obtain ⟨dV, h1, h2⟩ := h
  refine ⟨dV, e _ _ h1 lamO_ne, ?_⟩
  rcases h2 with z | ⟨n, T, z, q⟩
  · exact .inl z
  · exact .inr ⟨n, T, z, e _ _ q fun ps z => by cases z⟩
theorem lamO_at {P : Program} {w : World} {H : Hp} {h : Heap} {f : Addr} {F : NF} {b : Expr} (hok : HOk P w H h) (e : LamAt H f F b) :
    ∃ dV doc pm ctv : Value, h.get? f = some ({ cls := .type "function", data := .func (lamFd F b dV doc pm ctv) } : Obj) ∧ ∃ us : List Value, Vals ((dInts F.params.defaults).map V.int) us ∧ DfIn h dV us := by
  obtain ⟨dV, h1, h2⟩ := e
  obtain ⟨doc, pm, ctv, z⟩ := (hok f _ h1).1
  refine ⟨dV, doc, pm, ctv, z, ?_⟩
  rcases h2 with ⟨n, z⟩ | ⟨n, T, z, q⟩
  · rw [n]
    exact ⟨[], .nil, .inl ⟨rfl, z⟩⟩
  · obtain ⟨_, its, r, p⟩ := hok T _ q
    refine ⟨its, r, .inr ⟨fun z => ?_, T, z, p⟩⟩
    rw [z] at r
    cases hd : dInts F.params.defaults with
    | nil => exact n hd
    | cons a l =>
      rw [hd] at r
      cases r
section
variable {X : Cx} {pins : List (Addr × Obj)} {σ : L2.St} {H : Hp} {s : Shared}
theorem lam_laid {F : NF} {b : Expr} {dV doc pm ctv : Value} {t' : Nat} (I : Inv X pins σ H s) :
    Inv X pins σ (upd H s.heap.objs.size (LamO s.heap.objs.size F b dV)) { s with heap := s.heap.push ({ cls := .type "function", data := .func (lamFd F b dV doc pm ctv) } : Obj), toks := t' } := by
  have e : (s.heap.push ({ cls := .type "function", data := .func (lamFd F b dV doc pm ctv) } : Obj)).get? s.heap.objs.size = some ({ cls := .type "function", data := .func (lamFd F b dV doc pm ctv) } : Obj) := Heap.get?_push_size _ rfl
  exact I.laid (fun _ _ z => Heap.get?_push_of_some _ z) (Nat.le_refl _) ⟨⟨doc, pm, ctv, e⟩, ⟨_, e⟩, fun _ _ ⟨d, p, c, z⟩ k => ⟨d, p, c, k _ z⟩⟩
/-- the words of the lambda that X makes: c' its code object -/
abbrev lamF (X : Cx) (params : Arguments) (scope : Scope) (c' : Addr) : NF := ⟨"<lambda>", X.env.qual ++ "<lambda>", params, [], scope, cloFrom X.env.cells scope.names [], c'⟩
/-- a lambda made, its defaults laid, and known from now on -/
theorem lam_tail {T : List (Addr × Str)} {c P : Addr} {params : Arguments} {body : Expr} {scope : Scope} {pos : Pos} {fl : Nat} {dV : Value} {E Q : Value → Shared → Prop} (I : Inv X pins σ H s) (TB : TabB X.base X.mg c P) (hcode : X.env.code = .ref c)
    (hm : (P, X.env.qual ++ "<lambda>") ∈ T) (hu : ∀ p ∈ T, p.1 = P → p.2 = X.env.qual ++ "<lambda>") (hT : Tabs T H) (hfree : ∀ y ∈ scope.names, y.2 = .free → ∃ c, X.env.cells.lookup y.1 = some c)
    (k : ∀ (f c' : Addr) (H1 : Hp) (s' : Shared), Inv X pins σ H1 s' → ExtN H H1 → Tabs T H1 → H f = none → H1 f = some (LamO f (lamF X params scope c') body dV) → H1 c' = some (CodeO c' (X.env.qual ++ "<lambda>")) → Q (.ref f) s') :
    wpAny (model X.prog X.w) X.A (makeTail "<lambda>" (X.env.qual ++ "<lambda>") params (.expr body) scope X.env dV .none none pos fl) Q E s := by
  have hTP := hT (P, X.env.qual ++ "<lambda>") hm
  obtain ⟨ps, hP, trip, among⟩ := hTP
  have oP : s.heap.get? P = some { cls := .none, data := .fields ps } := I.hok P _ hP
  have bl := TB.bm.keeps I.bk
  have gl := I.mod.glob.keeps I.bk
  have cd := TB.code.keeps I.bk
  rcases hc : codeAmong pos ps.toList with _ | cv
  · refine PySem.W.kdv_makeTail (closure_ok hfree) I.ok.glob gl hcode cd oP trip hc TB.gP bl ?_
    intro c' ctv doc h' tk hx hge hlt hrec htb
    obtain ⟨c0, oc, vs, t, hc0, hoc, hdc, hvc⟩ := hrec
    obtain rfl : c0 = c' := (Value.ref.inj hc0).symm
    have fresh : H c0 = none := I.hok.fresh hge
    have I1 := inv_table (t' := tk) (q := X.env.qual ++ "<lambda>") (h' := h') I hP (fun b o n e => hx b o n e) htb hge ⟨oc, vs, t, hoc, hdc, hvc⟩
    generalize eH1 : upd (upd H P (.tbl (ps ++ #[rawInt pos.line, rawInt pos.col, .ref c0]))) c0 (CodeO c0 (X.env.qual ++ "<lambda>")) = H1 at I1
    have at1 : H1 c0 = some (CodeO c0 (X.env.qual ++ "<lambda>")) := by rw [← eH1]; exact upd_same
    have ext1 : ExtN H H1 := fun b o e n => by
      have b1 : b ≠ c0 := ne_of_none e fresh
      have b2 : b ≠ P := fun z => n ps (Option.some.inj (e.symm.trans (z ▸ hP)))
      rw [← eH1, upd_ne b1, upd_ne b2]
      exact e
    have tabs1 : Tabs T H1 := fun p hp => by
      by_cases hb : p.1 = P
      · have hq := hu p hp hb
        rw [hq, hb]
        refine ⟨ps ++ #[rawInt pos.line, rawInt pos.col, .ref c0], ?_, ?_, fun p' cv hcv => ?_⟩
        · rw [← eH1, upd_ne (ne_of_none hP fresh), upd_same]
        · rw [Array.toList_append]
          exact PySem.TriplesOk_snoc _ _ _ _ trip
        · rw [Array.toList_append] at hcv
          rcases among_app _ trip hcv with z | z
          · obtain ⟨c1, a1, a2⟩ := among p' cv z
            exact ⟨c1, a1, ext1 _ _ a2 codeO_ne⟩
          · exact ⟨c0, z, at1⟩
      · obtain ⟨qs, a1, a2, a3⟩ := hT p hp
        refine ⟨qs, ?_, a2, fun p' cv hcv => ?_⟩
        · rw [← eH1, upd_ne (ne_of_none a1 fresh), upd_ne hb]
          exact a1
        · obtain ⟨c1, b1, b2⟩ := a3 p' cv hcv
          exact ⟨c1, b1, ext1 _ _ b2 codeO_ne⟩
    have nf1 : H1 h'.objs.size = none := I1.hok.fresh (Nat.le_refl _)
    have I2 := lam_laid (F := lamF X params scope c0) (b := body) (dV := dV) (doc := doc) (pm := (X.mg "__name__").getD .none) (ctv := ctv) (t' := tk) I1
    have up : ∀ b o, H1 b = some o → upd H1 h'.objs.size (LamO h'.objs.size (lamF X params scope c0) body dV) b = some o := fun b o e => (upd_ne (ne_of_none e nf1)).trans e
    exact k _ c0 _ _ I2 (ext1.trans (ExtN.of up)) (tabs1.ext up) (I.hok.fresh (Nat.le_trans hge (Nat.le_of_lt hlt))) upd_same (up _ _ at1)
  · obtain ⟨c', rfl, at0⟩ := among pos cv hc
    refine PySem.W.kdv_makeTailHit (closure_ok hfree) I.ok.glob gl hcode cd oP trip hc bl ?_
    intro ctv doc h' tk hx hsz
    have I1 : Inv X pins σ H { s with heap := h', toks := tk } := I.kept hx
    have nf1 : H h'.objs.size = none := I1.hok.fresh (Nat.le_refl _)
    have I2 := lam_laid (F := lamF X params scope c') (b := body) (dV := dV) (doc := doc) (pm := (X.mg "__name__").getD .none) (ctv := ctv) (t' := tk) I1
    have up : ∀ b o, H b = some o → upd H h'.objs.size (LamO h'.objs.size (lamF X params scope c') body dV) b = some o := fun b o e => (upd_ne (ne_of_none e nf1)).trans e
    exact k _ c' _ _ I2 (ExtN.of up) (hT.ext up) nf1 upd_same (up _ _ at0)
/-- the reading of a lambda as a value -/
def tLamV (X : Cx) (T : List (Addr × Str)) (params : Arguments) (body : Expr) (scope : Scope) : TE := fun _ H Q => Tabs T H ∧ ∀ (f c' : Addr) (H1 : Hp), ExtN H H1 → Tabs T H1 → H f = none →
  LamAt H1 f (lamF X params scope c') body → H1 c' = some (CodeO c' (X.env.qual ++ "<lambda>")) → Q (.ref f) H1
theorem pe_lamV {T : List (Addr × Str)} {c P : Addr} {params : Arguments} {body : Expr} {scope : Scope} {pos : Pos} (TB : TabB X.base X.mg c P) (hcode : X.env.code = .ref c) (hm : (P, X.env.qual ++ "<lambda>") ∈ T)
    (hu : ∀ p ∈ T, p.1 = P → p.2 = X.env.qual ++ "<lambda>") (hdef : params.defaults = []) (hkd : params.kw_defaults = []) (hfr : ∀ y ∈ scope.names, y.2 = .free → X.env.scope.names.lookup y.1 = some .cell ∨ X.env.scope.names.lookup y.1 = some .free) :
    PE X (.Lambda params body scope pos) (tLamV X T params body scope) := by
  refine ⟨fun pins s σ H Q I h => PySem.W.kla_eval ?_ ?_⟩
  · rw [defaultsOf_eq, hdef, hkd]
    rfl
  rw [makeFunction_eq]
  simp only [List.zip_nil_right, List.filterMap_nil, List.isEmpty_nil, if_true, pure_bind]
  refine lam_tail I TB hcode hm hu h.1 (fun y hy e => ?_) fun f c' H1 s' I1 e1 t1 n1 a1 b1 => ⟨.ref f, H1, I1, rfl, h.2 f c' H1 e1 t1 n1 ⟨.none, a1, .inl ⟨by show dInts params.defaults = []; rw [hdef] <;> rfl, rfl⟩⟩ b1⟩
  rcases hfr y hy e with z | z
  · exact I.ok.has _ (.inl z)
  · exact I.ok.has _ (.inr z)
/-- .. with one integer as default -/
theorem pe_lamV1 {T : List (Addr × Str)} {c P : Addr} {params : Arguments} {body : Expr} {scope : Scope} {pos p1 : Pos} {i : Int} {j : Nat} (TB : TabB X.base X.mg c P) (hcode : X.env.code = .ref c) (hm : (P, X.env.qual ++ "<lambda>") ∈ T)
    (hu : ∀ p ∈ T, p.1 = P → p.2 = X.env.qual ++ "<lambda>") (hdef : params.defaults = [.Constant (.int i) j p1]) (hkd : params.kw_defaults = []) (hfr : ∀ y ∈ scope.names, y.2 = .free → X.env.scope.names.lookup y.1 = some .cell ∨ X.env.scope.names.lookup y.1 = some .free) :
    PE X (.Lambda params body scope pos) (tLamV X T params body scope) := by
  refine ⟨fun pins s σ H Q I h => PySem.W.kdv_lam (by rw [hdef]; rfl) hkd ?_⟩
  rw [hdef]
  refine PySem.W.kdv_all1 (thn ((pe_int (X := X) (i := i) (j := j) (pos := p1)).run pins s σ H (fun v H1 => v = .int i ∧ H1 = H) I ⟨rfl, rfl⟩) ?_)
  rintro u s1 ⟨v, H1, I1, r1, rfl, rfl⟩
  refine PySem.W.kdv_all0 ?_
  rw [makeFunction_eq]
  simp only [List.zip_nil_right, List.filterMap_nil, List.isEmpty_nil, List.isEmpty_cons, if_true, pure_bind, Bool.false_eq_true, if_false]
  refine wpAny_bind (wpAny_newTextTuple ?_)
  have nT : H1 s1.heap.objs.size = none := I1.hok.fresh (Nat.le_refl _)
  have I2 : Inv X pins σ (upd H1 s1.heap.objs.size (.tup [.int i])) { s1 with heap := s1.heap.push { cls := .type "tuple", data := .seq [u].toArray } } :=
    I1.laid (t' := s1.toks) (fun _ _ z => Heap.get?_push_of_some _ z) (Nat.le_refl _) ⟨by show 1 ≤ sizeLine; decide, [u], .cons r1 .nil, IsTup.new s1.heap _⟩
  have up : ∀ b o, H1 b = some o → upd H1 s1.heap.objs.size (HO.tup [V.int i]) b = some o := fun b o e => (upd_ne (ne_of_none e nT)).trans e
  refine lam_tail I2 TB hcode hm hu (h.1.ext up) (fun y hy e => ?_) fun f c' H2 s' I3 e1 t1 n1 a1 b1 => ⟨.ref f, H2, I3, rfl, h.2 f c' H2 ((ExtN.of up).trans e1) t1 ?_ ⟨_, a1, .inr ⟨?_, _, rfl, ?_⟩⟩ b1⟩
  · rcases hfr y hy e with z | z
    · exact I.ok.has _ (.inl z)
    · exact I.ok.has _ (.inr z)
  · cases q : H1 f with
    | none => rfl
    | some o => exact (Option.some_ne_none _ ((up _ _ q).symm.trans n1)).elim
  · show dInts params.defaults ≠ []
    rw [hdef]
    simp [dInts]
  · show H2 s1.heap.objs.size = some (.tup ((dInts params.defaults).map V.int))
    rw [hdef]
    exact e1 _ _ upd_same fun ps z => by cases z
end
/-! ### what a lambda promises -/
structure LOk (P : Program) (w : World) (K : PySem.W.Frag) (mg : Str → Option Value) (base : Heap) (CX : CXT) (k : Nat) (f : Addr) (F : NF) (b : Expr) (fr : List Str) (sp : List (Option V) → Hp → VK → XK → Prop) : Prop where
  run : ∀ (A : Around) (outer : List Env) (s : Shared) (H : Hp) (ws : List (Option V)) (Q : VK) (E : XK), Room k A → Env0 P w K mg base A outer s H → LamAt H f F b → H F.c = some (CodeO F.c F.qual) →
    CellsAt F.cl fr ws s.heap H → sp ws H Q E → codeAny (model P w) A (.call (.ref f) ⟨[], []⟩) (CR CX outer P w H s Q E) s
section
variable {CX : CXT} {P : Program} {w : World} {K : PySem.W.Frag} {mg : Str → Option Value} {base : Heap} {N ps fr : List Str} {F : NF} {b : Expr} {f : Addr} {k : Nat} {sp : List (Option V) → Hp → VK → XK → Prop}
theorem lok_of (S : NScope N ps fr F.scope) (hl : (dInts F.params.defaults).length = ps.length)
    (hb : ∀ (dV doc pm ctv : Value) (s : Shared) (us : List Value), us.length = ps.length → DfIn s.heap dV us → BindsTo s (lamFd F b dV doc pm ctv) ⟨[], []⟩ (ps.zip us))
    (hbody : ∀ (A : Around) (outer : List Env) (s : Shared) (H : Hp) (ws : List (Option V)) (Q : VK) (E : XK), Room k (A.deeper (envF F f s.heap.objs.size)) → ws.length = fr.length → sp ws H Q E →
      ∃ t, PE (ncx CX P w K mg base N F f A outer s H E) b t ∧ t (startF N ((dInts F.params.defaults).map V.int) ws) H Q) : LOk P w K mg base CX (k + 1) f F b fr sp := by
  refine ⟨fun A outer s H ws Q E hr e0 hf hc C hsp => ?_⟩
  have lim : s.heap.NoLimit := e0.mod.nolimit.keeps fun b o e => (e0.bs b o e).1
  obtain ⟨dV, doc, pm, ctv, ho, us, rus, hd⟩ := lamO_at e0.hok hf
  have hlu : us.length = ps.length := by rw [← rus.length, List.length_map, hl]
  refine PySem.W.kla_callFunE hr.depth ho rfl S.co S.gen rfl (codeO_at e0.hok hc) ?_
  refine hb dV doc pm ctv s us hlu hd _ _ _ _ ?_
  refine wpAny_newFunctionEnv S.nocell (fun ⟨n, v⟩ hy => S.par n (List.of_mem_zip hy).1) (fun h₁ hns hsb => ⟨lim.fresh _ hsb, ?_⟩) S.kind
  show codeAny _ _ (.expr b (envF F f s.heap.objs.size)) _ _
  obtain ⟨t, ht, hq⟩ := hbody A outer s H ws Q E (hr.deeper _) C.len hsp
  have old : ∀ b o, s.heap.get? b = some o → h₁.get? b = some o := fun b o e => hsb.extBut b o (Nat.ne_of_lt (Heap.lt_size e)) (Heap.get?_push_of_some _ e)
  have I := inv_startN (CX := CX) (N := N) (F := F) (f := f) (E := E) (us := us) (vs := (dInts F.params.defaults).map V.int) (tk := s.toks + (ps.zip us).length) S hr.hd e0 (by rw [List.length_map, hl]) rus C hns old
  refine PySem.W.kla_codeExpr (wpAny_mono (ht.run [] _ _ H Q I hq) (fun v s' q => ?_) fun e s' q => q)
  obtain ⟨x, H', J, rx, q⟩ := q
  exact ⟨x, H', J.os, J.bare, J.base, J.hok, rx, q⟩
end
end Own

/-! from M06 -/
namespace Own
open PySem PySem.Spec PyProof.Rows L2 LamX NdefX
section
variable {X : Cx} {pins : List (Addr × Obj)} {σ : L2.St} {H : Hp} {s : Shared} {cl : List (Str × Addr)} {fr : List Str} {ws : List (Option V)}
/-- what captured cells held at the entry they hold still -/
theorem cells_still (C : CellsAt cl fr ws X.s_0.heap X.H_0) (hx : ∀ b, b ∉ X.ex ∨ ∀ y, cl.lookup y ≠ some b) (I : Inv X pins σ H s) : CellsAt cl fr ws s.heap H := by
  have nx : ∀ {y c}, cl.lookup y = some c → c ∉ X.ex := fun {y c} e => (hx c).elim id fun z => absurd e (z y)
  have still : ∀ {y c v}, cl.lookup y = some c → X.s_0.heap.IsCell c v → s.heap.IsCell c v := fun {y c v} e ⟨o, ho, hd⟩ => by
    obtain ⟨sl, z⟩ := I.base.any ho (C.all y c e).1 (nx e)
    exact ⟨_, z, hd⟩
  constructor
  · exact C.len
  · intro y c e
    obtain ⟨n, v, z⟩ := C.all y c e
    obtain ⟨o, ho, _⟩ := id z
    exact ⟨I.base.free c o ho n (nx e), v, still e z⟩
  · exact C.inj
  · intro i y e
    obtain ⟨c, hc, hv⟩ := C.has i y e
    refine ⟨c, hc, fun v ev => ?_⟩
    obtain ⟨u, r, z⟩ := hv v ev
    exact ⟨u, r, still hc z⟩
/-- the call of a made lambda -/
theorem run_lam {CX : CXT} {k : Nat} {f : Addr} {F : NF} {b : Expr} {sp : List (Option V) → Hp → VK → XK → Prop} {Q : VK} {E : XK} (G : LOk X.prog X.w X.K X.mg X.base CX k f F b fr sp) (hr : Room k X.A) (hx : Passes CX X E) (I : Inv X pins σ H s)
    (hf : LamAt H f F b) (hc : H F.c = some (CodeO F.c F.qual)) (C : CellsAt F.cl fr ws s.heap H) (q : sp ws H Q E) : wpAny (model X.prog X.w) X.A (call (.ref f) []) (EP X pins σ Q) X.xe s := by
  refine wpAny_call (codeAny_mono (G.run _ _ _ _ _ _ _ hr I.env0 hf hc C q) fun r s' z => ?_)
  rcases r with e | fl
  · exact hx pins σ H s e s' I z
  · cases fl
    case ret u => exact I.after z
    all_goals exact False.elim z
/-- deed(), deed a name whose slot holds a lambda; what it captured is known at the entry of this very def -/
theorem pe_deed {CX : CXT} {k i : Nat} {f : Addr} {F : NF} {b : Expr} {sp : List (Option V) → Hp → VK → XK → Prop} {E : XK} {a : Str} {p1 p2 : Pos} (C : CellsAt F.cl fr ws X.s_0.heap X.H_0) (hex : X.ex = []) (G : LOk X.prog X.w X.K X.mg X.base CX k f F b fr sp) (hr : Room k X.A)
    (hx : Passes CX X E) (hN : X.N[i]? = some a) (hv : Vis X.env.scope a) (hd : (a == ("__debug__" : Str)) = false := by decide) (hcd : (a == ("__classdict__" : Str)) = false := by decide) :
    PE X (.Call (.Name a p1) [] [] p2) (fun σ H Q => σ[i]? = some (some (.ref f)) ∧ LamAt H f F b ∧ H F.c = some (CodeO F.c F.qual) ∧ sp ws H Q E) := by
  constructor
  intro pins s σ H Q I h
  obtain ⟨hs, hf, hc, q⟩ := h
  refine wpAny_Call_Name_kw (thn ((pe_var (pos := p1) hN hv hd hcd).run pins s σ H (fun v H1 => v = .ref f ∧ H1 = H) I ⟨.ref f, hs, rfl, rfl⟩) ?_)
  rintro u s1 ⟨v, H1, I1, r1, rfl, rfl⟩
  obtain rfl : u = Value.ref f := r1
  obtain ⟨dV, doc, pm, ctv, ho, _⟩ := lamO_at I1.hok hf
  refine PySem.W.callWith_F0 ⟨_, _, _, _, ho⟩ ?_
  exact run_lam G hr hx I1 hf hc (cells_still C (fun _ => .inl (by rw [hex]; simp)) I1) q
end
section
variable {X : Cx}
/-- a list comprehension's reading, the element's depending on the def's slots as the block begins -/
def tLcD (wi : TI) (g : TG) (te : L2.St → TE) (vs : List Nat) : TE := fun σ H Q => tLc wi g tYes (te σ) vs σ H Q
theorem pe_lcD {elt tg iter : Expr} {scope : Scope} {own : List (Str × Nat)} {pos : Pos} {wi : TI} {g : TG} {te : L2.St → TE} (hc : X.calm = true) (hN : X.N.Nodup) (hi : PI X tg iter wi) (ok : BlkOk X.N X.env.scope scope own)
    (hg : ∀ (s : Shared) (H : Hp) (C : Addr) (cl : List (Str × Addr)) (fp : List Addr), PG (X.blk s H scope (compEnvC scope cl C X.env) fp) tg g)
    (he : ∀ (pins : List (Addr × Obj)) (σ : L2.St) (s : Shared) (H : Hp) (C : Addr) (cl : List (Str × Addr)) (fp : List Addr), Inv X pins σ H s → (∀ b ∈ fp, FpOk X pins H b) → PE (X.blk s H scope (compEnvC scope cl C X.env) fp) elt (te σ))
    (hs : ∀ x, foldedSetIterable iter X.env x = pure x := by intro _; rfl) : PE X (.ListComp elt [⟨tg, iter, [], 0⟩] scope pos) (tLcD wi g te (own.map (·.2))) := by
  constructor
  intro pins s σ H Q I h
  have cap : ∀ y ∈ scope.names, y.2 = .free → ∃ c, X.env.cells.lookup y.1 = some c := fun y hy e => (ok.free y hy e).elim (fun z => I.ok.has _ (.inl z)) (fun z => I.ok.has _ (.inr z))
  rw [eval_ListComp]
  refine wpAny_comprehension_free (use := none) rfl hs (closure_ok cap) ok.kind (fun y hy e => (ok.uniq y hy).trans (congrArg some e)) ?_
  refine thn (hi.run pins s σ H _ I h) fun itr sA hA => thn hA fun _ sB hB => ?_
  obtain ⟨it, fp, tn, J, HB, rfl, IB, T, tB, fB, q⟩ := hB
  have nD : HB sB.heap.objs.size = none := IB.hok.fresh (Nat.le_refl _)
  obtain ⟨W, ⟨m0, w0⟩, turn⟩ := q _ nD
  refine wpAny_newObj_type (newEnv_comp ?_) (by show 0 ≤ sizeLine; decide)
  have inSz : ∀ b ∈ fp, b < sB.heap.objs.size := fun b hb => (T.obj _ _ tB b hb).elim fun _ z => Heap.lt_size z.1
  -- the new list stands
  generalize hsC : ({ sB with heap := sB.heap.push { cls := .type "list", data := .seq ([] : List Value).toArray } } : Shared) = sC
  have heapC : sC.heap = sB.heap.push { cls := .type "list", data := .seq ([] : List Value).toArray } := by subst hsC; rfl
  have toC : ∀ b o, sB.heap.get? b = some o → sC.heap.get? b = some o := fun b o z => by rw [heapC]; exact Heap.get?_push_of_some _ z
  generalize hD : sB.heap.objs.size = D at nD w0 turn inSz
  have IC : Inv X pins σ (upd HB D (.lst [])) sC := by
    have z := IB.laid (a := D) (o := .lst []) (t' := sB.toks) (h' := sC.heap) toC (Nat.le_of_eq hD) ⟨Nat.zero_le _, [], 0, .nil, by rw [heapC, ← hD]; exact Heap.get?_push_size _ rfl⟩
    subst hsC
    exact z
  generalize hHC : upd HB D (.lst []) = HC at IC w0
  have fC : ∀ b ∈ fp, FpOk X pins HC b ∧ b < sC.heap.objs.size := fun b hb => by
    have lt := inSz b hb
    refine ⟨⟨?_, (fB b hb).2⟩, ?_⟩
    · rw [← hHC, upd_ne (Nat.ne_of_lt lt)]
      exact (fB b hb).1
    · rw [heapC, Heap.size_push, hD]
      exact Nat.lt_succ_of_lt lt
  have tC : tn 0 sC.heap := T.keep _ _ _ tB fun b _ o z => toC b o z
  have blk := block_start IC ok hN fC
  generalize hcl : cellsFrom (sC.heap.objs.size + 1) scope.names (cloFrom X.env.cells scope.names []) = cells at blk ⊢
  have hgB := hg sC HC sC.heap.objs.size cells fp
  have heB := he pins σ sC HC sC.heap.objs.size cells fp IC (fun b hb => (fC b hb).1)
  have htB : PTs (X.blk sC HC scope (compEnvC scope cells sC.heap.objs.size X.env) fp) [] tYes := pts_nil
  show codeAny _ _ (.compStart (.ListComp elt [⟨tg, iter, [], 0⟩] scope pos) 0 (.ref it) (.ref D) (compEnvC scope cells sC.heap.objs.size X.env)) (compPost (model X.prog X.w) X.A X.xe none (EP X pins σ Q) (.ref D) sC.heap.objs.size) { sC with heap := pushCells (sC.heap.push { cls := .type "dict", data := .dict #[] }) scope.names }
  generalize hce : compEnvC scope cells sC.heap.objs.size X.env = ce at blk hgB heB htB ⊢
  have ceL : ce.locals = sC.heap.objs.size := by rw [← hce]; rfl
  generalize hsE : ({ sC with heap := pushCells (sC.heap.push { cls := .type "dict", data := .dict #[] }) scope.names } : Shared) = sE at blk ⊢
  have tE : tn 0 sE.heap := T.keep _ _ _ tC fun b _ o z => by rw [← hsE]; exact pushCells_keeps _ _ _ _ (Heap.get?_push_of_some _ z)
  -- the iterator's objects as the block sees them
  have seen : ∀ {σ' : L2.St} {H' : Hp} {s' : Shared}, Inv (X.blk sC HC scope ce fp) [] σ' H' s' → (∀ b ∈ fp, H' b = none) → ∀ b ∈ fp, FpOk (X.blk sC HC scope ce fp) [] H' b := fun {σ' H' s'} J' n b hb => by
    have z1 := J'.ok.exf b hb
    exact ⟨n b hb, z1.1, J'.ok.exfs b hb, .inl hb, z1.2, fun p hp => absurd (show p ∈ ([] : List (Addr × Obj)) ++ [] from hp) (by simp)⟩
  have whole : codeAny (model X.prog X.w) X.A (.compLoop (.ListComp elt [⟨tg, iter, [], 0⟩] scope pos) 0 (.ref it) (.ref D) ce) (compPost (model X.prog X.w) X.A X.xe none (EP X pins σ Q) (.ref D) sC.heap.objs.size) sE := by
    refine compLoop_any (fun n s' => ∃ (i : Nat) (H' : Hp), W i n H' ∧ (∀ b ∈ fp, H' b = none) ∧ tn i s'.heap ∧ Inv (X.blk sC HC scope ce fp) [] (wipe σ (own.map (·.2))) H' s') ?_ m0 ⟨0, HC, w0, fun b hb => (fC b hb).1.1, tE, blk⟩
    rintro n sF ⟨i, HF, wF, nF, tF, IF⟩
    rcases turn i n HF wF with ⟨hstop, hq⟩ | ⟨hgo, Nx, hNx, step⟩
    · have fin := T.done (X.blk sC HC scope ce fp) rfl rfl rfl hc i [] sF _ HF (fun _ _ => False) IF (seen IF nF) tF hstop
      refine thnF fin ?_
      rintro _ sG ⟨rfl, IG⟩
      have IX : Inv X pins σ HF sG := IC.call' (ch := fp) IG.os IG.base IG.hok IG.bare fun b hb => by
        obtain ⟨⟨_, a1, a2, a3, a4, a5⟩, _⟩ := fC b hb
        exact ⟨a3, a1, a4, a5⟩
      have free : HF sC.heap.objs.size = none := by
        have z : HF ce.locals = none := IG.free
        rw [← ceL]
        exact z
      obtain ⟨m, hn, _⟩ := IG.loc
      have hn : sG.heap.Ns ce.locals m := hn
      rw [ceL] at hn
      obtain ⟨f0, f1, f2, f3, f4, f5⟩ := IC.fpOk (H' := HF) (Nat.le_refl _) free
      exact ⟨m, hn, fun h2 sb => ⟨.ref D, HF, IX.turned (t' := sG.toks) (fun b o hb e => (sb.2 b hb).trans e) f0 f1 f3 f4 f5, rfl, hq⟩⟩
    · have nxt := T.item (X.blk sC HC scope ce fp) rfl rfl rfl hc i [] sF _ HF (fun _ _ => False) IF (seen IF nF) tF hgo
      refine thnF nxt ?_
      rintro _ sG ⟨u, rfl, hG⟩
      refine thnF hG ?_
      rintro _ sI ⟨x, HI, II, rI, yI, tI, nI⟩
      have pinned := II.pinned (seen II nI) (T.obj _ _ tI)
      refine thnF (hgB.run _ sI _ HI x u _ pinned rI (step x HI yI)) ?_
      rintro _ sJ ⟨σJ, HJ, IJ, hwJ, qJ⟩
      refine thnF (htB.run _ sJ σJ HJ _ IJ qJ) ?_
      rintro b sK ⟨HK, IK, qK⟩
      have again : ∀ {s' : Shared} {H' : Hp}, Inv (X.blk sC HC scope ce fp) ([] ++ pinsAt fp sI.heap) σJ H' s' → Nx H' → ∃ m, m < n ∧ ∃ (i : Nat) (H' : Hp), W i m H' ∧ (∀ b ∈ fp, H' b = none) ∧ tn i s'.heap ∧ Inv (X.blk sC HC scope ce fp) [] (wipe σ (own.map (·.2))) H' s' := fun {s' H'} J' hx => by
        obtain ⟨m', lt, w'⟩ := hNx H' hx
        have pn : ∀ b ∈ fp, ∀ o, sI.heap.get? b = some o → s'.heap.get? b = some o ∧ H' b = none := fun b hb o z => by
          have y := J'.pin (b, o) (List.mem_append_right _ (List.mem_append_right _ (mem_pinsAt hb z)))
          exact ⟨y.1, y.2.1⟩
        refine ⟨m', lt, i + 1, H', w', fun b hb => ?_, T.keep _ _ _ tI fun b hb o z => (pn b hb o z).1, ?_⟩
        · obtain ⟨o, z, _⟩ := T.obj _ _ tI b hb
          exact (pn b hb o z).2
        · refine (J'.unpinned (pins := [])).weak (by rw [← hwJ, wipe_length]) fun j v z => ?_
          rw [← hwJ] at z
          exact (wipe_some z).1
      cases b
      case false =>
        simp only [Bool.false_eq_true, if_false] at qK ⊢
        exact again IK qK
      case true =>
        simp only [if_true] at qK ⊢
        refine thnF (heB.run _ sK σJ HK _ IK qK) ?_
        rintro z sL ⟨y, HL, IL, rL, acc, hacc, hlen, hnx⟩
        exact app_ok (X := X.blk sC HC scope ce fp) IL hacc hlen rL fun sM IM => again IM hnx
  exact codeAny_compStart_list whole (T.self X.A 0 _ _ _ tE whole)
end
end Own

/-! from N06 -/
namespace Own
open PySem PySem.Spec PyProof.Rows L2 LamX NdefX
/-- a def of the text as its callers know it -/
structure DefOk (P : Program) (w : World) (K : PySem.W.Frag) (mg : Str → Option Value) (base : Heap) (CX : CXT) (x : Str) (k : Nat) (ps : List Str) (sp : Sp) : Prop where
  ex : ∃ (f : Addr) (fd : FuncData), FnOk P w K mg base CX k f fd ps sp ∧ mg x = some (.ref f) ∧ PySem.W.keepIn K (.ref f) = true ∧ Binds K fd ps []
/-- .. as the top has left it -/
structure At (K : PySem.W.Frag) (mg : Str → Option Value) (x : Str) (st : Stmt) (ps : List Str) : Prop where
  ex : ∃ (f : Addr) (fd : FuncData), Fun K x x st f fd ∧ mg x = some (.ref f) ∧ Binds K fd ps []
theorem At.ok {P : Program} {w : World} {K : PySem.W.Frag} {mg : Str → Option Value} {base : Heap} {CX : CXT} {x : Str} {st : Stmt} {k : Nat} {ps : List Str} {sp : Sp} (a : At K mg x st ps) (h : ∀ (f : Addr) (fd : FuncData), Fun K x x st f fd → FnOk P w K mg base CX k f fd ps sp) :
    DefOk P w K mg base CX x k ps sp := by
  obtain ⟨f, fd, F, g, b⟩ := a.ex
  exact ⟨f, fd, h f fd F, g, F.kp, b⟩
section
variable {X : Cx} {CX : CXT} {k j : Nat} {ps : List Str} {sp : Sp} {E : XK} {x : Str} {p pos : Pos} {e : Expr} {es : List Expr} {t : TA}
theorem pe_def (D : DefOk X.prog X.w X.K X.mg X.base CX x k ps sp) (hr : Room j X.A) (hj : k ≤ j) (hg : Gl X x) (hx : Passes CX X E) (ha : PA X (e :: es) t) (hdb : (x == ("__debug__" : Str)) = false := by decide)
    (he : starEach (e :: es) X.env = (false, eval e X.env) :: starEach es X.env := by rfl) (hpl : (backTo pos (starEach es X.env)).any (·.1) = false := by rfl) : PE X (.Call (.Name x p) (e :: es) [] pos) (tCall sp [] E t) := by
  obtain ⟨f, fd, F, g, kp, b⟩ := D.ex
  exact pe_call F (hr.mono hj) hg g kp b .nil hx ha hdb he hpl
theorem pe_def0 (D : DefOk X.prog X.w X.K X.mg X.base CX x k ps sp) (hr : Room j X.A) (hj : k ≤ j) (hg : Gl X x) (hx : Passes CX X E) (hdb : (x == ("__debug__" : Str)) = false := by decide) : PE X (.Call (.Name x p) [] [] pos) (tCall sp [] E tNil) := by
  obtain ⟨f, fd, F, g, kp, b⟩ := D.ex
  exact pe_call0 F (hr.mono hj) hg g kp b .nil hx hdb
end
/-- a def whose first argument is a lambda; sp: what it makes of the lambda's promise and of the other arguments -/
structure LamDef (P : Program) (w : World) (K : PySem.W.Frag) (mg : Str → Option Value) (base : Heap) (g : Addr) (k : Nat) (sp : (Hp → VK → XK → Prop) → List V → Hp → VK → Prop) : Prop where
  run : ∀ (A : Around) (outer : List Env) (s : Shared) (H : Hp) (us : List Value) (f : Addr) (vs : List V) (F : NF) (b : Expr) (fr : List Str) (ws : List (Option V)) (spl : List (Option V) → Hp → VK → XK → Prop) (kl : Nat) (Q : VK), Room k A → kl < k → Env0 P w K mg base A outer s H →
    Vals (.ref f :: vs) us → LOk P w K mg base (L2.CX P w) kl f F b fr spl → LamAt H f F b → H F.c = some (CodeO F.c F.qual) → CellsAt F.cl fr ws s.heap H → sp (spl ws) vs H Q →
    codeAny (model P w) A (.call (.ref g) ⟨us, []⟩) (CR CX0 outer P w H s Q E0) s
structure LamDefAt (P : Program) (w : World) (K : PySem.W.Frag) (mg : Str → Option Value) (base : Heap) (x : Str) (k : Nat) (sp : (Hp → VK → XK → Prop) → List V → Hp → VK → Prop) : Prop where
  ex : ∃ g : Addr, LamDef P w K mg base g k sp ∧ mg x = some (.ref g) ∧ PySem.W.keepIn K (.ref g) = true
/-- one of several lambdas: its words by its code object's address, its body, the captured names and their values, its promise -/
structure Lam where
  nf : Addr → NF
  b : Expr
  fr : List Str
  ws : List (Option V)
  sp : List (Option V) → Hp → VK → XK → Prop
def tLamCall {ι : Type} (L : ι → Lam) (sp : (Hp → VK → XK → Prop) → List V → Hp → VK → Prop) (t : TA) : TE := fun σ H Q => t σ H fun vs H1 => ∃ (i : ι) (f c' : Addr) (rest : List V), vs = .ref f :: rest ∧ LamAt H1 f ((L i).nf c') (L i).b ∧
  H1 ((L i).nf c').c = some (CodeO ((L i).nf c').c ((L i).nf c').qual) ∧ sp ((L i).sp (L i).ws) rest H1 Q
theorem pe_lamcall {ι : Type} {X : Cx} {L : ι → Lam} {k kl j : Nat} {sp : (Hp → VK → XK → Prop) → List V → Hp → VK → Prop} {x : Str} {p pos : Pos} {e : Expr} {es : List Expr} {t : TA} (D : LamDefAt X.prog X.w X.K X.mg X.base x k sp) (hkl : kl < k) (hr : Room j X.A) (hj : k ≤ j)
    (G : ∀ (i : ι) (f c' : Addr), LOk X.prog X.w X.K X.mg X.base (L2.CX X.prog X.w) kl f ((L i).nf c') (L i).b (L i).fr (L i).sp) (C : ∀ (i : ι) (c' : Addr), CellsAt ((L i).nf c').cl (L i).fr (L i).ws X.s_0.heap X.H_0) (hxc : ∀ (i : ι) (c' b : Addr), b ∉ X.ex ∨ ∀ y, ((L i).nf c').cl.lookup y ≠ some b)
    (hg : Gl X x) (ha : PA X (e :: es) t) (hdb : (x == ("__debug__" : Str)) = false := by decide) (he : starEach (e :: es) X.env = (false, eval e X.env) :: starEach es X.env := by rfl) (hpl : (backTo pos (starEach es X.env)).any (·.1) = false := by rfl) :
    PE X (.Call (.Name x p) (e :: es) [] pos) (tLamCall L sp t) := by
  obtain ⟨g, R, gm, kp⟩ := D.ex
  constructor
  intro pins s σ H Q I h
  refine wpAny_Call_Name_kw (ld_glob I hg gm ?_ hdb)
  refine PySem.W.callWith_K (h₀ := X.base) I.ok.mod.kin kp (thn (ha.run pos pins s σ H _ I h) ?_) he hpl
  rintro us s1 ⟨vs, H1, I1, r, i, f, c', rest, rfl, hf, hc, q⟩
  refine ⟨I1.kIn, wpAny_call (codeAny_mono (R.run X.A X.stack s1 H1 us f rest _ _ _ _ _ kl Q (hr.mono hj) hkl I1.env0 r (G i f c') hf hc (cells_still (C i c') (hxc i c') I1) q) fun z s' hz => ?_)⟩
  rcases z with er | fl
  · exact (show False from hz).elim
  · cases fl
    case ret u => exact I1.after hz
    all_goals exact False.elim hz
/-- what the def's own cells hold, told to a block that begins -/
theorem cells_blk {X : Cx} {pins : List (Addr × Obj)} {σ : L2.St} {H : Hp} {s : Shared} {scope : Scope} {fr : List Str} {js : List Nat} (I : Inv X pins σ H s) (hfree : ∀ y ∈ scope.names, y.2 = .free → X.env.scope.names.lookup y.1 = some .cell ∨ X.env.scope.names.lookup y.1 = some .free)
    (hfr : ∀ y ∈ fr, (y, NameKind.free) ∈ scope.names) (hjs : js.map (fun j => X.N[j]?) = fr.map some) : CellsAt (cloFrom X.env.cells scope.names []) fr (js.map (slotAt σ)) s.heap H := cells_of I (Caps.made I.ok hfree hfr hjs)
theorem cells_fp {X : Cx} {pins : List (Addr × Obj)} {σ : L2.St} {H : Hp} {s : Shared} {scope : Scope} {fp : List Addr} (I : Inv X pins σ H s) (hfree : ∀ y ∈ scope.names, y.2 = .free → X.env.scope.names.lookup y.1 = some .cell ∨ X.env.scope.names.lookup y.1 = some .free)
    (hfp : ∀ b ∈ fp, FpOk X pins H b) (b : Addr) : b ∉ fp ∨ ∀ y, (cloFrom X.env.cells scope.names []).lookup y ≠ some b := by
  by_cases hb : b ∈ fp
  · refine .inr fun y z => ?_
    have hf : ∀ y ∈ scope.names, y.2 = .free → ∃ c, X.env.cells.lookup y.1 = some c := fun y hy e => (hfree y hy e).elim (fun z => I.ok.has _ (.inl z)) fun z => I.ok.has _ (.inr z)
    exact (hfp b hb).2.2.2.2.1 y b (clo_cm hf z) rfl
  · exact .inl hb
end Own

/-! from S06 -/
namespace PySem.SeqAt
open AutoSeq1 (wpAny_loadPart')
open MeetsSeq
theorem own_str_dict0 (b : Str) (u : Tok) (l : Addr) (es : Array DictEntry) (ep : Nat) :
    Meets (Builtin.«str.__eq__» ⟨[.str b u, .ref l], []⟩) (fun _ R s => s.heap.get? l = some ({ cls := .type "dict", dict := none, data := .dict es ep, slots := #[] } : Obj) ∧ R (.ok (.ret .notImplemented)) s) :=
  .of_wp fun prog w A R s h => by
    obtain ⟨hp, g, d, tk, os⟩ := s
    obtain ⟨hl, h⟩ := h
    wp_walk using wpAny_loadPart' hl, wpAny_load hl
    exact ⟨_, rfl, h⟩
theorem own_dict_str0 (b : Str) (u : Tok) (l : Addr) (es : Array DictEntry) (ep : Nat) :
    Meets (Builtin.«dict.__eq__» ⟨[.ref l, .str b u], []⟩) (fun _ R s => s.heap.get? l = some ({ cls := .type "dict", dict := none, data := .dict es ep, slots := #[] } : Obj) ∧ R (.ok (.ret .notImplemented)) s) :=
  .of_wp fun prog w A R s h => by
    obtain ⟨hp, g, d, tk, os⟩ := s
    obtain ⟨hl, h⟩ := h
    have f1 := F.sub_str_dict
    wp_walk using wpAny_loadPart' hl, wpAny_load hl
    exact ⟨_, rfl, h⟩
theorem own_rc_str_dict {A : Around} {s : Shared} {l : Addr} {es : Array DictEntry} {ep : Nat} (b : Str) (u : Tok) (ho : s.heap.get? l = some ({ cls := .type "dict", dict := none, data := .dict es ep, slots := #[] } : Obj)) (hu : A.units < cLine) : RcAt A s (.str b u) (.ref l) false :=
  fun prog w E Q h => by
    refine rc_eq_decline_or (k := false) (typeIs_str s b u) ⟨_, ho, rfl⟩ (by decide) F.sub_dict_str F.slot_str_eq F.slot_dict_eq_refl ?_ ?_ ?_ (.inr hu) h
    · exact fun _ hq => call_meets F.slot_str_eq (typeIs_str s b u) F.entry_str_eq (F.args_str_eq_2 _ _) (own_str_dict0 b u l es ep) ⟨ho, hq⟩
    · exact fun _ hq => call_meets F.slot_dict_eq_refl ⟨_, ho, rfl⟩ F.entry_dict_eq (F.args_dict_eq_2 _ _) (own_dict_str0 b u l es ep) ⟨ho, hq⟩
    · exact fun _ hq => wpAny_of_eq (rfl : isSame (.str b u) (.ref l) = pure false) hq
theorem own_eq_str_dict {A : Around} {s : Shared} {l : Addr} {es : Array DictEntry} {ep : Nat} (b : Str) (u : Tok) (ho : s.heap.get? l = some ({ cls := .type "dict", dict := none, data := .dict es ep, slots := #[] } : Obj)) (hu : A.units < cLine) : EqAt A s (.str b u) (.ref l) false :=
  fun prog w E Q h => by
    unfold eqBool
    refine wpAny_holding (wpAny_ite_split (fun z => absurd (eq_of_beq z) nofun) fun _ => ?_)
    exact wpAny_bind (own_rc_str_dict b u ho hu prog w E _ (wpAny_truthy_bool h))
end PySem.SeqAt
namespace Own
open PySem PySem.Spec PyProof.Rows L2
/-- a value that is no text, and no number with a text's place -/
inductive NoTxt (H : Hp) : V → Prop where
  | non : NoTxt H .non
  | bl (b : Bool) : NoTxt H (.bl b)
  | int (i : Int) : NoTxt H (.int i)
  | lst {a : Addr} {xs : List V} (e : H a = some (.lst xs)) : NoTxt H (.ref a)
  | tup {a : Addr} {xs : List V} (e : H a = some (.tup xs)) : NoTxt H (.ref a)
  | dct {a : Addr} {kvs : List (Key × V)} (e : H a = some (.dK kvs)) : NoTxt H (.ref a)
theorem NoTxt.ne {X : Cx} {pins : List (Addr × Obj)} {σ : L2.St} {H : Hp} {s : Shared} {x : V} {v : Value} (I : Inv X pins σ H s) (h : NoTxt H x) (r : RelV x v) {A : Around} (hu : A.units < cLine) (z : Str) (t : Tok) : SeqAt.EqAt A s (.str z t) v false := by
  cases h with
  | non => cases r; exact SeqAt.EqAt.str_none z t
  | bl b => cases r; exact SeqAt.EqAt.str_bool z t b
  | int i =>
    obtain ⟨u, rfl⟩ := r
    exact SeqAt.EqAt.str_int z t i u
  | lst e =>
    cases r
    obtain ⟨its, _, pl, _⟩ := I.list (SqL.of e)
    exact SeqAt.EqAt.str_list z t pl.isList hu
  | tup e =>
    cases r
    obtain ⟨its, _, pl, _⟩ := I.tuple (SqT.of e)
    exact SeqAt.EqAt.str_tuple z t pl hu
  | dct e =>
    cases r
    obtain ⟨_, _, vs, _, ⟨⟨c, dd, da, sl⟩, es, ep, ho, hx, hd, _⟩⟩ := (show ObjOk X.prog X.w H s.heap _ (.dK _) from I.hok _ _ e)
    obtain ⟨rfl, rfl, rfl⟩ := hx
    obtain rfl : da = .dict es ep := hd
    exact SeqAt.own_eq_str_dict z t ho hu
def rNotInW (K : PySem.W.Frag) : R2 := fun x y H Q => ∃ (p : Addr) (zs : List Str), y = .ref p ∧ SqT K H p (zs.map V.str) ∧ NoTxt H x ∧ Q (.bl true) H
theorem op_notInW {X : Cx} (hu : X.A.units + 1 < cLine) : OpR X (compareOp .NotIn) (rNotInW X.K) := by
  intro pins s σ H x y v u Q I rx ry h
  obtain ⟨p, zs, rfl, hq, nt, q⟩ := h
  cases ry
  obtain ⟨its, r, pl, hz⟩ := I.tuple hq
  have txts : ∀ w ∈ its, ∃ (z : Str) (t : Tok), w = .str z t := fun w hw => by
    obtain ⟨i, hi⟩ := List.mem_iff_getElem?.mp hw
    have hlt : i < (zs.map V.str).length := by
      rw [Paired.length r]
      exact (List.getElem?_eq_some_iff.mp hi).1
    obtain ⟨u', h1, h2⟩ := r.get (List.getElem?_eq_getElem hlt)
    rw [hi] at h1
    cases h1
    rw [List.getElem_map] at h2
    obtain ⟨t, z⟩ := h2
    exact ⟨_, t, z⟩
  have hu0 : X.A.units < cLine := Nat.lt_of_le_of_lt (Nat.le_succ _) hu
  have hu' : X.A.in1.units < cLine := by first | exact hu0 | exact hu
  refine SeqAt.notIn_tupleAt (fun _ => false) pl (fun w hw => ?_) ⟨.bl _, H, I, rfl, ?_⟩
  · obtain ⟨z, t, rfl⟩ := txts w (by simpa using hw)
    exact nt.ne I rx hu' z t
  · have e : its.toArray.any (fun _ => false) = false := by simp
    rw [e]
    exact q
end Own


/-! from P06 -/
namespace Own
open PySem PySem.Spec PyProof.Rows L2
inductive Thing (H : Hp) : V → Prop where
  | non : Thing H .non
  | bl (b : Bool) : Thing H (.bl b)
  | int (i : Int) : Thing H (.int i)
  | str (z : Str) : Thing H (.str z)
  | lst {a : Addr} {xs : List V} (e : H a = some (.lst xs)) : Thing H (.ref a)
  | tup {a : Addr} {xs : List V} (e : H a = some (.tup xs)) : Thing H (.ref a)
  | dct {a : Addr} {kvs : List (Key × V)} (e : H a = some (.dK kvs)) : Thing H (.ref a)
theorem Thing.same {H H' : Hp} {x : V} (h : Thing H x) (s : Same H H') : Thing H' x := by
  cases h with
  | non => exact .non
  | bl b => exact .bl b
  | int i => exact .int i
  | str z => exact .str z
  | lst e => exact .lst (s _ _ e)
  | tup e => exact .tup (s _ _ e)
  | dct e => exact .dct (s _ _ e)
def isInt : V → Bool
  | .int _ => true
  | _ => false
def isBl : V → Bool
  | .bl _ => true
  | _ => false
/-- isinstance(x, int), isinstance(x, bool) -/
theorem Thing.isi {K : PySem.W.Frag} {H : Hp} {x : V} (h : Thing H x) : ∃ t : Value, TyX K H x t ∧ PySem.W.kitOne K t (.type "int") = some (isInt x || isBl x) ∧ PySem.W.kitOne K t (.type "bool") = some (isBl x) := by
  cases h with
  | non => exact ⟨_, .base .non, kit_ty (show kitB "NoneType" "int" = some false by decide +kernel), kit_ty (show kitB "NoneType" "bool" = some false by decide +kernel)⟩
  | bl b => exact ⟨_, .base (.bl b), kit_ty (show kitB "bool" "int" = some true by decide +kernel), kit_ty (show kitB "bool" "bool" = some true by decide +kernel)⟩
  | int i => exact ⟨_, .base (.int i), kit_ty (show kitB "int" "int" = some true by decide +kernel), kit_ty (show kitB "int" "bool" = some false by decide +kernel)⟩
  | str z => exact ⟨_, .base (.str z), kit_ty (show kitB "str" "int" = some false by decide +kernel), kit_ty (show kitB "str" "bool" = some false by decide +kernel)⟩
  | lst e => exact ⟨_, .base (.lst e), kit_ty (show kitB "list" "int" = some false by decide +kernel), kit_ty (show kitB "list" "bool" = some false by decide +kernel)⟩
  | tup e => exact ⟨_, .base (.tup e), kit_ty (show kitB "tuple" "int" = some false by decide +kernel), kit_ty (show kitB "tuple" "bool" = some false by decide +kernel)⟩
  | dct e => exact ⟨_, .base (.dK e), kit_ty (show kitB "dict" "int" = some false by decide +kernel), kit_ty (show kitB "dict" "bool" = some false by decide +kernel)⟩
theorem Thing.noTxt {H : Hp} {x : V} (h : Thing H x) : NoTxt H x ∨ ∃ z, x = .str z := by
  cases h with
  | non => exact .inl .non
  | bl b => exact .inl (.bl b)
  | int i => exact .inl (.int i)
  | str z => exact .inr ⟨z, rfl⟩
  | lst e => exact .inl (.lst e)
  | tup e => exact .inl (.tup e)
  | dct e => exact .inl (.dct e)
/-- what a written dict says at a text -/
def KGet (K : PySem.W.Frag) (d : Addr) (z : Str) (r : Option V) : Prop := ∃ ro : Option Value, PySem.W.nsIn K d z = some ro ∧ RelO r ro
section
variable {X : Cx} {d : Addr} {es : Array DictEntry} {n : Nat} {o e f : Expr} {apos cpos : Pos} {td ty tx : TE}
theorem pe_kget2 (D : KDict X.K X.w d es n) (ho : PE X o td) (he : PE X e ty) (hf : PE X f tx) (m : M2 X o "get" apos e f cpos) :
    PE X (.Call (.Attribute o "get" apos) [e, f] [] cpos) (fun σ H Q => td σ H fun x H1 => x = .ref d ∧ ty σ H1 fun y H2 => tx σ H2 fun z H3 => ∃ (t : Str) (r : Option V), y = .str t ∧ KGet X.K d t r ∧ Q (r.getD z) H3) := by
  constructor
  intro pins s σ H Q I h
  refine wpAny_Call_method m.base m.few m.line PySem.F.plainAttrs_dict PySem.F.slot_dict_get PySem.F.type_dict_get (thn (ho.run pins s σ H _ I h) ?_)
  rintro u s1 ⟨x, H1, I1, rx, rfl, q1⟩
  obtain rfl : u = Value.ref d := rx
  refine ⟨kd_type D I1, fun b q => ?_, ?_⟩
  · cases q
    exact ⟨_, I1.kIn _ _ D.at_, rfl⟩
  rw [m.trees]
  refine Calls.callWith_builtin rfl (Calls.evalArgs_plain (Calls.spliced_cons (thn (he.run pins s1 σ H1 _ I1 q1) ?_)))
  rintro iv s2 ⟨y, H2, I2, ry, q2⟩
  refine Calls.spliced_cons (thn (hf.run pins s2 σ H2 _ I2 q2) ?_)
  rintro fv s3 ⟨z, H3, I3, rz, t, r, rfl, ⟨ro, hk, rr⟩, q3⟩
  refine Calls.spliced_nil ?_
  obtain ⟨tk, rfl⟩ := ry
  show wpAny _ _ (call (.builtin "dict.get") [.ref d, .str t tk, fv]) _ _ _
  refine call_meetsIn PySem.F.slot_dict_get (kd_type D I3) PySem.F.entry_dict_get (PySem.F.args_dict_get_3 _ _ _) (meets_dict_get_default (strKind X.prog X.w) d (strKind_is X.prog X.w t tk) D.low fv) ⟨_, PySem.W.mapOf_K (prog := X.prog) I3.kIn D.at_ D.lit, ?_⟩
  rw [PySem.W.find_K D.at_ hk]
  refine ⟨r.getD z, H3, I3.tok _, ?_, q3⟩
  cases r with
  | none =>
    cases ro with
    | none => exact rz
    | some u => exact rr.elim
  | some v =>
    cases ro with
    | none => exact rr.elim
    | some u => exact rr
end
/-! ### an error class whose __init__ keeps one field -/
structure ErrC (P : Program) (w : World) (K : PySem.W.Frag) (mg : Str → Option Value) (base : Heap) (x fld : Str) (k : Nat) (C : Addr) (sp : Sp) : Prop where
  g : mg x = some (.ref C)
  oex : OexC K C
  ini : ∃ (fI : Addr) (fd : FuncData), PySem.W.findIn K (.ref C) "__init__" = some (some (.ref fI)) ∧ PySem.W.typeIn K (.ref fI) = some (.type "function") ∧ FnOk P w K mg base CX0 k fI fd ["self", fld] sp ∧ Binds K fd ["self", fld] []
  xf : XfC K C
  te : PySem.W.exmOne K (.ref C) (.ref C) = some true
  noV : PySem.W.findIn K (.ref C) fld = some none
def spErr (C : Addr) (fld : Str) : Sp := fun vs H Q _ => ∃ (a : Addr) (y : V), vs = [.ref a, y] ∧ H a = some (exo a C none) ∧ ∀ dx, H dx = none → dx ≠ a → Q .non (upd (upd H dx (exd dx [(fld, y)])) a (exo a C (some dx)))
/-- such an error leaves: its value x -/
def Bad (C : Addr) (fld : Str) (x : V) (H : Hp) (E : XK) : Prop := ∀ (d : Addr) (H' : Hp), Same H H' → H d = none → H' d = some (.xd [(fld, x)]) → E (.ref C) (some d) H'
theorem Bad.same {C : Addr} {fld : Str} {x : V} {H H1 : Hp} {E : XK} (h : Bad C fld x H E) (s : Same H H1) : Bad C fld x H1 E := fun d H' s' n e => h d H' (s.trans s') (s.free n) e
section
variable {X : Cx} {x fld : Str} {k j : Nat} {C : Addr} {e : Expr} {te : TE} {p pos : Pos}
theorem pmk_err (D : ErrC X.prog X.w X.K X.mg X.base x fld k C (spErr C fld)) (hr : Room j X.A) (hj : k + 1 ≤ j) (hg : Gl X x) (he : PE X e te) (hdb : (x == ("__debug__" : Str)) = false := by decide)
    (hst : starEach (e :: []) X.env = (false, eval e X.env) :: starEach [] X.env := by rfl) (hpl : (backTo pos (starEach [] X.env)).any (·.1) = false := by rfl) :
    PMk X (.Call (.Name x p) [e] [] pos) (tMkO C (spErr C fld) [] (tCons te tNil)) := by
  obtain ⟨fI, fd, iC, tI, F1, b⟩ := D.ini
  exact pmk_oex D.oex iC tI F1 (hr.mono hj) b .nil (fun _ _ _ _ _ _ _ z => z.elim) hg D.g (pa_cons he pa_nil hst) hdb hst hpl
end
/-- the end of such a making -/
theorem bad_mk {C : Addr} {fld : Str} {y : V} {H : Hp} {Q : XK} (h : Bad C fld y H Q) : [y].length ≤ 1000 ∧ ∀ a, H a = none → spErr C fld (.ref a :: ([y] ++ [])) (upd H a (exo a C none))
    (fun v H2 => v = .non ∧ ∃ (d : Addr) (fs : List (Str × V)), H2 a = some (exo a C (some d)) ∧ H2 d = some (exd d fs) ∧ H d = none ∧ Q (.ref C) (some d) (upd (del H2 a) d (.xd fs))) (fun _ _ _ => False) := by
  refine ⟨by show 1 ≤ 1000; decide, fun a na => ⟨a, y, rfl, upd_same, fun dx ndx ne => ⟨rfl, dx, [(fld, y)], upd_same, ?_, ?_, ?_⟩⟩⟩
  · rw [upd_ne ne, upd_same]
  · rw [upd_ne ne] at ndx
    exact ndx
  · have nd : H dx = none := by
      rw [upd_ne ne] at ndx
      exact ndx
    refine h dx _ (fun b o e => ?_) nd upd_same
    have b1 : b ≠ a := ne_of_none e na
    have b2 : b ≠ dx := ne_of_none e nd
    rw [upd_ne b2, del_ne b1, upd_ne b1, upd_ne b2, upd_ne b1]
    exact e
end Own

/-! from U06 -/
namespace Own
open PySem PySem.Spec PyProof.Rows L2
theorem op_mulS {X : Cx} : OpR X (binaryOp .Mult) (fun x y H Q => ∃ (z : Str) (n : Int), x = .str z ∧ y = .int n ∧ MulOk z n ∧ Q (.str (Txt.mul z n)) H) := by
  intro pins s σ H x y v u Q I rx ry h
  obtain ⟨z, n, rfl, rfl, ok, q⟩ := h
  obtain ⟨t, rfl⟩ := rx
  obtain ⟨t', rfl⟩ := ry
  exact SB.mul ok fun t2 k => ⟨.str _, H, I.tok _, ⟨_, rfl⟩, q⟩
theorem zeros_fold : ∀ (n : Nat) (acc : Array Nat), ((List.replicate n #[48]).foldl (· ++ ·) acc).toList = acc.toList ++ List.replicate n 48
  | 0, acc => by simp
  | n + 1, acc => by
    rw [List.replicate_succ, List.foldl_cons, zeros_fold n, Array.toList_append, List.replicate_succ, List.append_assoc]
    rfl
theorem zero_cps : ("0" : Str).cps = #[48] := by decide +kernel
theorem one_cps : ("1" : Str).cps = #[49] := by decide +kernel
theorem zeros (n : Nat) : (Txt.mul "0" (n : Int)).cps.toList = List.replicate n 48 := by
  unfold Txt.mul
  by_cases h0 : n = 0
  · subst h0
    rw [if_pos (by omega)]
    rfl
  · rw [if_neg (by omega)]
    by_cases h1 : n = 1
    · subst h1
      rw [if_pos (by simp), zero_cps]
      rfl
    · have e : ¬ (((n : Int) == 1 || ("0" : Str).length == 0) = true) := by
        have l : ("0" : Str).length = 1 := by decide +kernel
        rw [l]
        simp
        omega
      rw [if_neg e]
      show ((List.replicate (n : Int).toNat ("0" : Str).cps).foldl (· ++ ·) #[]).toList = _
      rw [zero_cps, Int.toNat_natCast, zeros_fold]
      rfl
/-- '1' + '0' * n -/
def tenS (n : Nat) : Str := ("1" : Str) ++ Txt.mul "0" (n : Int)
theorem tenS_list (n : Nat) : (tenS n).cps.toList = 49 :: List.replicate n 48 := by
  have e : (tenS n).cps = ("1" : Str).cps ++ (Txt.mul "0" (n : Int)).cps := rfl
  rw [e, Array.toList_append, zeros, one_cps]
  rfl
theorem tens_val : ∀ (n a : Nat), (List.replicate n 48).foldl (fun acc c => acc * 10 + (c - 48)) a = a * 10 ^ n
  | 0, a => by simp
  | n + 1, a => by
    rw [List.replicate_succ, List.foldl_cons, tens_val n]
    show (a * 10 + 0) * 10 ^ n = a * 10 ^ (n + 1)
    rw [Nat.add_zero, Nat.pow_succ, Nat.mul_assoc, Nat.mul_comm 10]
theorem str_len (x : Str) : x.length = x.cps.toList.length := by
  cases x
  rfl
theorem tenS_len (n : Nat) : (tenS n).length = n + 1 := by
  rw [str_len, tenS_list, List.length_cons, List.length_replicate]
theorem ten_text {n : Nat} (h : n ≤ 600) : PySem.intText? (tenS n) = some ((10 : Int) ^ n) := by
  have e := PySem.intText_digits (x := tenS n) (fun c hc => by
      rw [tenS_list] at hc
      rcases List.mem_cons.mp hc with rfl | hc
      · exact ⟨by decide, by decide⟩
      · have := (List.mem_replicate.mp hc).2
        omega) (by rw [tenS_list]; simp) (by rw [tenS_len]; omega)
  rw [e]
  have z : NumText.digitsVal (tenS n).cps.toList = 10 ^ n := by
    rw [tenS_list]
    unfold NumText.digitsVal
    rw [List.foldl_cons, tens_val]
    simp
  rw [z]
  simp
theorem mulOk0 {n : Nat} (h : n ≤ 600) : MulOk "0" (n : Int) := by
  have l : ("0" : Str).length = 1 := by decide +kernel
  refine ⟨?_, fun h1 h2 => ?_, fun h1 h2 => ?_⟩
  · rw [Bool.or_eq_false_iff]
    exact ⟨decide_eq_false (by omega), decide_eq_false (by omega)⟩
  · rw [l]
    have z := Int.le_ediv_of_mul_le (c := (n : Int)) (a := 1) (b := 2 ^ 63 - 1) (by omega) (by omega)
    omega
  · rw [l, Nat.one_mul, Int.toNat_natCast]
    exact decide_eq_false (by have := sizeLine_eq; omega)
end Own

/-! from V06 -/
namespace Own
theorem ten_pos (n : Nat) : (0 : Int) < (10 : Int) ^ n := Int.pow_pos (by decide)
theorem ten_mono {m n : Nat} (h : m ≤ n) : (10 : Int) ^ m ≤ (10 : Int) ^ n := by
  obtain ⟨k, rfl⟩ := Nat.le.dest h
  rw [Int.pow_add]
  have a := ten_pos m
  have b : (1 : Int) ≤ (10 : Int) ^ k := ten_pos k
  have := Int.mul_le_mul_of_nonneg_left b (Int.le_of_lt a)
  omega
theorem ten_nat (n : Nat) : ((10 : Int) ^ n).natAbs = 10 ^ n := by
  rw [Int.natAbs_pow]
  rfl
theorem ten_lt (n : Nat) : ((10 : Int) ^ n).natAbs < 2 ^ (4 * n + 1) := by
  rw [ten_nat, Nat.pow_succ, Nat.pow_mul]
  have a : 10 ^ n ≤ (2 ^ 4) ^ n := Nat.pow_le_pow_left (by decide) n
  have b : 0 < (2 ^ 4) ^ n := Nat.pow_pos (by decide)
  omega
theorem lt_two {i j : Int} {k : Nat} (h0 : 0 ≤ i) (h1 : i ≤ j) (h : j.natAbs < 2 ^ k) : i.natAbs < 2 ^ k := Nat.lt_of_le_of_lt (by omega) h
end Own

/-! from W06 -/
namespace Own
open PySem PySem.Spec PyProof.Rows L2
theorem merge_app : ∀ (kvs acc : List (Key × V)), ((acc ++ kvs).map (·.1)).Nodup → mergeK acc kvs = acc ++ kvs
  | [], acc, _ => by simp [mergeK]
  | p :: r, acc, h => by
    have hn : valV acc p.1 = none := by
      cases e : valV acc p.1 with
      | none => rfl
      | some v =>
        have m := valV_in e
        rw [List.map_append, List.nodup_append] at h
        exact absurd rfl (h.2.2 p.1 m p.1 (by simp))
    have z := merge_app r (acc ++ [p]) (by
      rw [List.append_assoc]
      exact h)
    show mergeK (putK acc p.1 p.2) r = acc ++ p :: r
    rw [putK_new _ hn, z, List.append_assoc]
    rfl
theorem merge_new {kvs : List (Key × V)} (h : (kvs.map (·.1)).Nodup) : mergeK [] kvs = kvs := merge_app kvs [] h
/-- a dict of texts -/
def txK (l : List (Str × V)) : List (Key × V) := l.map fun p => (Sum.inr p.1, p.2)
theorem txK_val : ∀ (l : List (Str × V)) (z : Str), valV (txK l) (Sum.inr z : Key) = l.lookup z
  | [], z => rfl
  | p :: r, z => by
    obtain ⟨a, v⟩ := p
    by_cases h : a = z
    · subst h
      rw [show txK ((a, v) :: r) = (Sum.inr a, v) :: txK r from rfl, valV_pos rfl]
      simp [List.lookup]
    · rw [show txK ((a, v) :: r) = (Sum.inr a, v) :: txK r from rfl, valV_neg (fun e => h (Sum.inr.inj e)), txK_val r z]
      have hb : (z == a) = false := by simpa using fun e : z = a => h e.symm
      simp [List.lookup, hb]
theorem DGet.tx {H : Hp} {a : Addr} {l : List (Str × V)} (z : Str) (e : H a = some (.dK (txK l))) : DGet H a (.str z) (l.lookup z) := by
  have q := DGet.k (k := (Sum.inr z : Key)) e
  rw [txK_val] at q
  exact q
end Own

/-! from Y06 -/
namespace Own
open PySem PySem.Spec PyProof.Rows L2
/-- a flat value's datum -/
def datV : V → PyData
  | .bl b => .bool b
  | .int i => .int i
  | .str z => .str z
  | _ => .none
def okF : V → Bool
  | .non => true
  | .bl _ => true
  | .int _ => true
  | .str z => PyData.strOk z
  | _ => false
/-- a value handed in that is equal to itself -/
inductive Odd (H : Hp) : V → Prop where
  | flat {x : V} (h : okF x = true) : Odd H x
  | lst {a : Addr} {xs : List V} (e : H a = some (.lst xs)) (f : xs.all okF = true) : Odd H (.ref a)
  | tup {a : Addr} {xs : List V} (e : H a = some (.tup xs)) (f : xs.all okF = true) : Odd H (.ref a)
  | dct {a : Addr} {kvs : List (Key × V)} (e : H a = some (.dK kvs)) (n : (kvs.map (·.1)).Nodup) (f : ∀ p ∈ kvs, flatB p.2 = true) : Odd H (.ref a)
theorem Odd.same {H H' : Hp} {x : V} (h : Odd H x) (s : Same H H') : Odd H' x := by
  cases h with
  | flat h => exact .flat h
  | lst e f => exact .lst (s _ _ e) f
  | tup e f => exact .tup (s _ _ e) f
  | dct e n f => exact .dct (s _ _ e) n f
theorem Odd.thing {H : Hp} {x : V} (h : Odd H x) : Thing H x := by
  cases h with
  | flat h =>
    cases x <;> first | exact .non | exact .bl _ | exact .int _ | exact .str _ | (simp [okF] at h)
  | lst e f => exact .lst e
  | tup e f => exact .tup e
  | dct e n f => exact .dct e
theorem dp_flat {K : PySem.W.Frag} {H : Hp} {x : V} (h : okF x = true) : Dp K H x (datV x) ∧ (datV x).canLay0 = true ∧ (datV x).depth = 0 := by
  cases x <;> first
    | exact ⟨.non, by simp [datV, PyData.canLay0], by simp [datV, PyData.depth]⟩
    | exact ⟨.bl _, by simp [datV, PyData.canLay0], by simp [datV, PyData.depth]⟩
    | exact ⟨.int _, by simp [datV, PyData.canLay0], by simp [datV, PyData.depth]⟩
    | exact ⟨.str _, by simpa [datV, PyData.canLay0, okF] using h, by simp [datV, PyData.depth]⟩
    | (simp [okF] at h)
theorem dp_flats {K : PySem.W.Frag} {H : Hp} : ∀ {xs : List V}, xs.all okF = true → DpAll K H xs (xs.map datV) ∧ PyData.canLayAll0 (xs.map datV) = true ∧ PyData.depthAll (xs.map datV) = 0
  | [], _ => ⟨.nil, by simp [PyData.canLayAll0], by simp [PyData.depthAll]⟩
  | x :: r, h => by
    rw [List.all_cons, Bool.and_eq_true] at h
    obtain ⟨a1, a2, a3⟩ := dp_flat (K := K) (H := H) h.1
    obtain ⟨b1, b2, b3⟩ := dp_flats (K := K) (H := H) h.2
    exact ⟨.cons a1 b1, by simp [PyData.canLayAll0, a2, b2], by simp [PyData.depthAll, a3, b3]⟩
/-- x == x of such a value: the three rules -/
theorem op_eqOdd {X : Cx} (hu : X.A.units + 64 < cLine) : OpR X (compareOp .Eq) (fun x y H Q => (∃ a b : Int, x = .int a ∧ y = .int b ∧ Q (.bl (decide (a = b))) H) ∨ (Odd H x ∧ y = x ∧ Q (.bl true) H)) := by
  intro pins s σ H x y v u Q I rx ry h
  rcases h with ⟨a, b, rfl, rfl, q⟩ | ⟨od, rfl, q⟩
  · refine op_eq pins s σ H _ _ v u Q I rx ry ⟨rfl, ?_⟩
    have e : decide (V.int a = V.int b) = decide (a = b) := by simp
    rw [e]
    exact q
  · cases od with
    | flat h =>
      obtain ⟨a1, a2, a3⟩ := dp_flat (K := X.K) (H := H) h
      have sh : SeqAt.shaped (datV y) = true := by
        unfold SeqAt.shaped
        rw [a2, a3]
        rfl
      refine op_eqD hu pins s σ H _ _ v u Q I rx ry ⟨_, _, a1, a1, sh, sh, ?_⟩
      rw [SeqAt.eqv_refl _ (SeqAt.canLay_of_shaped sh)]
      exact q
    | @lst a xs e f =>
      obtain ⟨a1, a2, a3⟩ := dp_flats (K := X.K) (H := H) f
      have sh : SeqAt.shaped (.list (xs.map datV)) = true := by
        unfold SeqAt.shaped
        simp [PyData.canLay0, PyData.depth, a2, a3]
      have d : Dp X.K H (.ref a) (.list (xs.map datV)) := .lst (SqL.of e) a1
      refine op_eqD hu pins s σ H _ _ v u Q I rx ry ⟨_, _, d, d, sh, sh, ?_⟩
      rw [SeqAt.eqv_refl _ (SeqAt.canLay_of_shaped sh)]
      exact q
    | @tup a xs e f =>
      obtain ⟨a1, a2, a3⟩ := dp_flats (K := X.K) (H := H) f
      have sh : SeqAt.shaped (.tuple (xs.map datV)) = true := by
        unfold SeqAt.shaped
        simp [PyData.canLay0, PyData.depth, a2, a3]
      have d : Dp X.K H (.ref a) (.tuple (xs.map datV)) := .tup (SqT.of e) a1
      refine op_eqD hu pins s σ H _ _ v u Q I rx ry ⟨_, _, d, d, sh, sh, ?_⟩
      rw [SeqAt.eqv_refl _ (SeqAt.canLay_of_shaped sh)]
      exact q
    | @dct a kvs e n f => exact op_eq_dict (by omega) pins s σ H _ _ v u Q I rx ry ⟨a, a, kvs, rfl, rfl, e, e, n, f, q⟩
end Own

/-! from AA06 -/
namespace Own
open PySem PySem.Spec PyProof.Rows L2 LamX NdefX
section
variable {X : Cx} {cl : List (Str × Addr)} {fr : List Str} {ws : List (Option V)}
/-- as pe_deed, what it may let out told by the slots -/
theorem pe_deedS {CX : CXT} {k i : Nat} {f : Addr} {F : NF} {b : Expr} {sp : List (Option V) → Hp → VK → XK → Prop} {E : L2.St → XK} {a : Str} {p1 p2 : Pos} (C : CellsAt F.cl fr ws X.s_0.heap X.H_0) (hex : X.ex = []) (G : LOk X.prog X.w X.K X.mg X.base CX k f F b fr sp) (hr : Room k X.A)
    (hx : ∀ σ, PassesAt CX X σ (E σ)) (hN : X.N[i]? = some a) (hv : Vis X.env.scope a) (hd : (a == ("__debug__" : Str)) = false := by decide) (hcd : (a == ("__classdict__" : Str)) = false := by decide) :
    PE X (.Call (.Name a p1) [] [] p2) (fun σ H Q => σ[i]? = some (some (.ref f)) ∧ LamAt H f F b ∧ H F.c = some (CodeO F.c F.qual) ∧ sp ws H Q (E σ)) := by
  constructor
  intro pins s σ H Q I h
  obtain ⟨hs, hf, hc, q⟩ := h
  refine wpAny_Call_Name_kw (thn ((pe_var (pos := p1) hN hv hd hcd).run pins s σ H (fun v H1 => v = .ref f ∧ H1 = H) I ⟨.ref f, hs, rfl, rfl⟩) ?_)
  rintro u s1 ⟨v, H1, I1, r1, rfl, rfl⟩
  obtain rfl : u = Value.ref f := r1
  obtain ⟨dV, doc, pm, ctv, ho, _⟩ := lamO_at I1.hok hf
  refine PySem.W.callWith_F0 ⟨_, _, _, _, ho⟩ ?_
  have C' := cells_still C (fun _ => .inl (by rw [hex]; simp)) I1
  refine wpAny_call (codeAny_mono (G.run _ _ _ _ _ _ _ hr I1.env0 hf hc C' q) fun r s' z => ?_)
  rcases r with e | fl
  · exact hx σ pins _ _ e s' I1 z
  · cases fl
    case ret u => exact I1.after z
    all_goals exact False.elim z
end
end Own

/-! from CC06 -/
namespace Own
open PySem PySem.Spec PyProof.Rows L2 LamX NdefX
/-- at q stands the pair of a lambda and v -/
def RowAt (H : Hp) (nf : Addr → NF) (b : Expr) (v : V) (q : Addr) : Prop := ∃ f c' : Addr, H q = some (.tup [.ref f, v]) ∧ LamAt H f (nf c') b ∧ H (nf c').c = some (CodeO (nf c').c (nf c').qual)
section
variable {H H' : Hp} {nf : Addr → NF} {b : Expr} {v x : V} {q r : Addr} {l : List V} {o : HO}
theorem RowAt.ext (h : RowAt H nf b v q) (e : ExtN H H') : RowAt H' nf b v q := by
  obtain ⟨f, c', h1, h2, h3⟩ := h
  exact ⟨f, c', e _ _ h1 (fun ps z => by cases z), h2.ext e, e _ _ h3 codeO_ne⟩
theorem LamAt.put {f : Addr} {F : NF} (h : LamAt H f F b) (hr : H r = some (.lst l)) : LamAt (upd H r o) f F b := by
  obtain ⟨dV, h1, h2⟩ := h
  have a : f ≠ r := ne_of h1 hr (by unfold LamO; intro z; cases z)
  refine ⟨dV, (upd_ne a).trans h1, ?_⟩
  rcases h2 with z | ⟨n, T, z, q⟩
  · exact .inl z
  · have a : T ≠ r := ne_of q hr (by intro z; cases z)
    exact .inr ⟨n, T, z, (upd_ne a).trans q⟩
theorem RowAt.put (h : RowAt H nf b v q) (hr : H r = some (.lst l)) : RowAt (upd H r o) nf b v q := by
  obtain ⟨f, c', h1, h2, h3⟩ := h
  have a : q ≠ r := ne_of h1 hr (by intro z; cases z)
  have c : (nf c').c ≠ r := ne_of h3 hr (by unfold CodeO; intro z; cases z)
  exact ⟨f, c', (upd_ne a).trans h1, h2.put hr, (upd_ne c).trans h3⟩
theorem Odd.ext (h : Odd H x) (e : ExtN H H') : Odd H' x := by
  cases h with
  | flat h => exact .flat h
  | lst e' f => exact .lst (e _ _ e' (fun ps z => by cases z)) f
  | tup e' f => exact .tup (e _ _ e' (fun ps z => by cases z)) f
  | dct e' n f => exact .dct (e _ _ e' (fun ps z => by cases z)) n f
theorem Odd.off (h : Odd H x) (n : H r = none) : x ≠ .ref r := by
  cases h with
  | flat h => intro z; rw [z] at h; cases h
  | lst e f => intro z; rw [V.ref.inj z, n] at e; cases e
  | tup e f => intro z; rw [V.ref.inj z, n] at e; cases e
  | dct e n' f => intro z; rw [V.ref.inj z, n] at e; cases e
theorem Odd.put (h : Odd H x) (n : x ≠ .ref r) : Odd (upd H r o) x := by
  cases h with
  | flat h => exact .flat h
  | lst e f => exact .lst ((upd_ne (fun z => n (by rw [z]))).trans e) f
  | tup e f => exact .tup ((upd_ne (fun z => n (by rw [z]))).trans e) f
  | dct e n' f => exact .dct ((upd_ne (fun z => n (by rw [z]))).trans e) n' f
theorem tabs_put {T : List (Addr × Str)} (h : Tabs T H) (hr : H r = some (.lst l)) : Tabs T (upd H r o) := fun p hp => by
  obtain ⟨ps, h1, h2, h3⟩ := h p hp
  have a : p.1 ≠ r := ne_of h1 hr (by intro z; cases z)
  refine ⟨ps, (upd_ne a).trans h1, h2, fun pos cv hc => ?_⟩
  obtain ⟨c, e1, e2⟩ := h3 pos cv hc
  have b : c ≠ r := ne_of e2 hr (by unfold CodeO; intro z; cases z)
  exact ⟨c, e1, (upd_ne b).trans e2⟩
theorem extN_new (h : H r = none) : ExtN H (upd H r o) := ExtN.of fun b u e => (upd_ne (ne_of_none e h)).trans e
theorem ExtN.same (s : Same H H') : ExtN H H' := ExtN.of s
end
theorem Pen_odd {d : Addr} {B : Int} (h : Pen H d B) (o : Odd H x) : x ≠ .ref d := by
  obtain ⟨p, ns, c, l, e, _⟩ := h.ex
  intro z
  rw [z] at o
  cases o with
  | flat h => cases h
  | lst e' f => rw [e] at e'; cases e'
  | tup e' f => rw [e] at e'; cases e'
  | dct e' n f =>
    rw [e] at e'
    cases e'
    have := f _ (List.mem_cons_self ..)
    cases this
theorem Odd.keep {d : Addr} (h : Odd H x) (n : x ≠ .ref d) (k : Keep d H H') : Odd H' x := by
  cases h with
  | flat h => exact .flat h
  | lst e f => exact .lst (k _ _ (fun z => n (by rw [z])) e) f
  | tup e f => exact .tup (k _ _ (fun z => n (by rw [z])) e) f
  | dct e n' f => exact .dct (k _ _ (fun z => n (by rw [z])) e) n' f
theorem tabs_keep {T : List (Addr × Str)} {d : Addr} {B : Int} (h : Tabs T H) (hp : Pen H d B) (k : Keep d H H') : Tabs T H' := fun p hq => by
  obtain ⟨pp, ns, cc, ll, ed, _⟩ := hp.ex
  obtain ⟨ps, h1, h2, h3⟩ := h p hq
  have a : p.1 ≠ d := ne_of h1 ed (by intro z; cases z)
  refine ⟨ps, k _ _ a h1, h2, fun pos cv hc => ?_⟩
  obtain ⟨c, e1, e2⟩ := h3 pos cv hc
  have b : c ≠ d := ne_of e2 ed (by unfold CodeO; intro z; cases z)
  exact ⟨c, e1, k _ _ b e2⟩
/-- a list at r of pairs of a lambda and a value; x, y: two odd values -/
structure Bag {ι : Type} (nf : ι → Addr → NF) (bf : ι → Expr) (H : Hp) (r : Addr) (R : List (ι × V × Addr)) (x y : V) : Prop where
  l : H r = some (.lst (R.map fun p => .ref p.2.2))
  rows : ∀ p ∈ R, RowAt H (nf p.1) (bf p.1) p.2.1 p.2.2
  ox : Odd H x
  oy : Odd H y
  xr : x ≠ .ref r
  yr : y ≠ .ref r
theorem Bag.ext {ι : Type} {nf : ι → Addr → NF} {bf : ι → Expr} {R : List (ι × V × Addr)} {y : V} (h : Bag nf bf H r R x y) (e : ExtN H H') : Bag nf bf H' r R x y :=
  ⟨e _ _ h.l (fun ps z => by cases z), fun p hp => (h.rows p hp).ext e, h.ox.ext e, h.oy.ext e, h.xr, h.yr⟩
theorem Bag.set {ι : Type} {nf : ι → Addr → NF} {bf : ι → Expr} {R : List (ι × V × Addr)} {y : V} {D : Addr} {zs : List V} (h : Bag nf bf H r R x y) (hD : H D = some (.lst zs)) (n : D ≠ r) (nx : x ≠ .ref D) (ny : y ≠ .ref D) : Bag nf bf (upd H D o) r R x y :=
  ⟨(upd_ne n.symm).trans h.l, fun p hp => (h.rows p hp).put hD, h.ox.put nx, h.oy.put ny, h.xr, h.yr⟩
theorem Bag.add {ι : Type} {nf : ι → Addr → NF} {bf : ι → Expr} {R : List (ι × V × Addr)} {y v : V} {H1 : Hp} {i : ι} {f c' q : Addr} (h : Bag nf bf H r R x y) (e : ExtN H H1) (a : LamAt H1 f (nf i c') (bf i)) (c : H1 (nf i c').c = some (CodeO (nf i c').c (nf i c').qual)) (nq : H1 q = none) :
    upd H1 q (.tup [.ref f, v]) r = some (.lst (R.map fun p => .ref p.2.2)) ∧ Bag nf bf (upd (upd H1 q (.tup [.ref f, v])) r (.lst (R.map (fun p => .ref p.2.2) ++ [.ref q]))) r (R ++ [(i, v, q)]) x y := by
  have g := (h.ext e).ext (extN_new (o := .tup [.ref f, v]) nq)
  have e2 := extN_new (o := HO.tup [.ref f, v]) nq
  refine ⟨g.l, by rw [upd_same, List.map_append]; rfl, fun p hp => ?_, g.ox.put g.xr, g.oy.put g.yr, g.xr, g.yr⟩
  rcases List.mem_append.mp hp with hp | hp
  · exact (g.rows p hp).put g.l
  · rw [List.mem_singleton.mp hp]
    exact RowAt.put ⟨f, c', upd_same, a.ext e2, e2 _ _ c codeO_ne⟩ g.l
/-- a def of the text and its code object -/
structure AtC (K : PySem.W.Frag) (mg : Str → Option Value) (x : Str) (st : Stmt) (ps : List Str) (c : Addr) : Prop where
  ex : ∃ (f : Addr) (oc : Value) (od : Option Addr) (kV doc pm : Value) (an : Option Addr) (ct : Value) (osl : Array (Option Value)), K.lookup f = some ⟨oc, od, .func (PySem.W.fnOf x x (defArgs st) (defBody st) (defScope st) .none kV doc pm an (.ref c) ct), osl⟩ ∧ PySem.W.codeIn K (.ref c) x = true ∧
    mg x = some (.ref f) ∧ PySem.W.keepIn K (.ref f) = true ∧ Binds K (PySem.W.fnOf x x (defArgs st) (defBody st) (defScope st) .none kV doc pm an (.ref c) ct) ps []
end Own

namespace Own
open PySem PySem.Spec PyProof.Rows L2 LamX NdefX
theorem log2_lt {n k : Nat} (h : n < 2 ^ k) (hk : 0 < k) : n.log2 < k := by
  by_cases h0 : n = 0
  · subst h0
    simpa using hk
  · exact (Nat.log2_lt h0).mpr h
theorem dm_ok {n d : Int} (h0 : 0 < d) (h : d.natAbs < 2 ^ 1000) : CDivP n d := by
  refine ⟨h0, ?_⟩
  have a := log2_lt h (by decide)
  unfold Builtin.divisionGoesByPylong
  have e : ¬ (d == 0) = true := by simp; omega
  have z : ¬ (d.natAbs.log2 / 30 + 1 > 300) := by omega
  simp only [e, Bool.false_eq_true, if_false]
  rw [decide_eq_false z]
  rfl
theorem up_two {n a b : Nat} (h : n < 2 ^ a) (l : a ≤ b) : n < 2 ^ b := Nat.lt_of_lt_of_le h (Nat.pow_le_pow_right (by decide) l)
theorem add_lt {i j : Int} {a : Nat} (hi : i.natAbs < 2 ^ a) (hj : j.natAbs < 2 ^ a) : (i + j).natAbs < 2 ^ (a + 1) := by
  rw [Nat.pow_succ]
  omega
end Own

namespace Own
open PySem PySem.Spec PyProof.Rows L2 LamX NdefX
/-- what the law leans on of an error's class -/
def oexB (K : PySem.W.Frag) (C : Addr) : Bool := (match K.lookup C with
  | some ⟨.type t, _, .cls cd, sl⟩ => decide (t = "type") && (cd.hasDict && (!cd.hasDel && ((match cd.mro with
    | .ref D :: bm => decide (D = C) && PySem.HandSPX.refsVE bm
    | _ => false) && (match sl.toList with
    | [_, _, _, _, some (.builtin n), _] => decide (n = "ValueError.__new__")
    | _ => false))))
  | _ => false) && (decide (PySem.W.findIn K (.ref C) "__setattr__" = some (some (.builtin "object.__setattr__"))) && (decide (PySem.W.subIn K (.ref C) (.type "BaseException") = some true) && (decide (PySem.W.typeIn K (.ref C) = some (.type "type")) && PySem.W.keepIn K (.ref C))))
theorem oexB_ok {K : PySem.W.Frag} {C : Addr} (h : oexB K C = true) : OexC K C := by
  obtain ⟨h0, h⟩ := He.ba h
  obtain ⟨h1, h⟩ := He.ba h
  obtain ⟨h2, h⟩ := He.ba h
  obtain ⟨h3, h4⟩ := He.ba h
  refine ⟨?_, of_decide_eq_true h1, of_decide_eq_true h2, of_decide_eq_true h3, h4⟩
  cases q : K.lookup C with
  | none => rw [q] at h0; cases h0
  | some o =>
    rw [q] at h0
    obtain ⟨oc, od, dt, ⟨sl⟩⟩ := o
    cases oc with
    | type t =>
      cases dt with
      | cls cd =>
        obtain ⟨nm, bs, mro, ns, qn, hd, sn, sub, ab, col, del⟩ := cd
        obtain ⟨a1, a⟩ := He.ba h0
        obtain ⟨a2, a⟩ := He.ba a
        obtain ⟨a3, a⟩ := He.ba a
        obtain ⟨a4, a5⟩ := He.ba a
        have e1 : t = "type" := of_decide_eq_true a1
        have e2 : hd = true := a2
        have e3 : del = false := by
          have z : (!del) = true := a3
          simpa using z
        subst e1 e2 e3
        cases mro with
        | nil => cases a4
        | cons m bm =>
          cases m with
          | ref D =>
            obtain ⟨b1, b2⟩ := He.ba (show (decide (D = C) && PySem.HandSPX.refsVE bm) = true from a4)
            have e4 : D = C := of_decide_eq_true b1
            subst e4
            match sl, a5 with
            | [k0, k1, k2, k3, some (.builtin n), k5], z =>
              have e5 : n = "ValueError.__new__" := of_decide_eq_true z
              subst e5
              exact ⟨_, _, _, _, _, _, _, _, _, _, _, _, _, _, _, rfl, b2⟩
          | _ => cases a4
      | _ => cases h0
    | _ => cases dt <;> cases h0
def isTup (K : PySem.W.Frag) (a : Addr) : Bool := match K.lookup a with
  | some ⟨.type c, _, _, _⟩ => decide (c = "tuple")
  | _ => false
theorem isTup_ok {K : PySem.W.Frag} {a : Addr} (h : isTup K a = true) : ∃ o : Obj, K.lookup a = some o ∧ o.cls = .type "tuple" := by
  unfold isTup at h
  cases q : K.lookup a with
  | none => rw [q] at h; cases h
  | some o =>
    rw [q] at h
    obtain ⟨oc, od, dt, sl⟩ := o
    cases oc with
    | type c => exact ⟨_, rfl, congrArg Value.type (of_decide_eq_true h)⟩
    | _ => cases h
section
variable {P : Program} {w : World} {K : PySem.W.Frag} {mg : Str → Option Value} {h : Heap}
theorem fun_of {x qual : Str} {st : Stmt} {f : Addr} {fd : FuncData} (F : FunD K x qual (defArgs st) (defBody st) (defScope st) [] [] f fd) : Fun K x qual st f fd := by
  obtain ⟨oc, od, dV, kV, doc, pm, an, cdv, ct, osl, rfl, lk, hcd, hD, _⟩ := F.ex
  rcases hD with ⟨_, rfl⟩ | ⟨n, _⟩
  · exact ⟨⟨oc, od, kV, doc, pm, an, cdv, ct, osl, rfl, lk, hcd⟩, F.kp⟩
  · exact absurd rfl n
theorem at_of {x : Str} {st : Stmt} {ps : List Str} {f : Addr} {fd : FuncData} (F : FunD K x x (defArgs st) (defBody st) (defScope st) [] [] f fd) (g : mg x = some (.ref f))
    (b : ∀ (kV doc pm : Value) (an : Option Addr) (cdv ct : Value) (us : List Value), us.length = ps.length → bindArgs (PySem.W.fnOf x x (defArgs st) (defBody st) (defScope st) .none kV doc pm an cdv ct) ⟨us, []⟩ = pure (ps.zip us)) : At K mg x st ps :=
  ⟨f, fd, fun_of F, g, (fun_of F).binds b⟩
end
end Own
namespace Own
/-- built-in names that no module takes -/
structure Blt (mg : PySem.Str → Option PySem.Value) : Prop where
  isi : mg "isinstance" = none
  int : mg "int" = none
  bool : mg "bool" = none
  len : mg "len" = none
  list : mg "list" = none
  range : mg "range" = none
  tuple : mg "tuple" = none
  all : mg "all" = none
  dm : mg "divmod" = none
  min : mg "min" = none
  max : mg "max" = none
  str : mg "str" = none
  abs : mg "abs" = none
  dict : mg "dict" = none
  any : mg "any" = none
end Own

/-! own layer, of no law: OWNB: OWNY for the pen of OWN (cells, count, left). -/
namespace Own
open PySem PySem.Spec PyProof.Rows L2 LamX NdefX
/-- all but the pen's dict is as it was; its list is the same one -/
structure KeepP (d : Addr) (H H' : Hp) : Prop where
  k : ∀ x o, x ≠ d → H x = some o → H' x = some o
  c : ∀ p m l, H d = some (.dK (penK p m l)) → ∃ m' l', H' d = some (.dK (penK p m' l'))
instance {d : Addr} {H H' : Hp} : CoeFun (KeepP d H H') (fun _ => ∀ x o, x ≠ d → H x = some o → H' x = some o) := ⟨KeepP.k⟩
section
variable {d p x : Addr} {o : HO} {H H' H1 H2 : Hp} {m l m' l' : Int}
theorem penK_inj {p p' : Addr} {m m' l l' : Int} (h : penK p m l = penK p' m' l') : p = p' := by
  unfold penK at h
  have z := (List.cons.inj h).1
  exact V.ref.inj (Prod.mk.inj z).2
theorem KeepP.refl : KeepP d H H := ⟨fun _ _ _ e => e, fun _ m l e => ⟨m, l, e⟩⟩
theorem KeepP.trans (h : KeepP d H H1) (k : KeepP d H1 H2) : KeepP d H H2 :=
  ⟨fun x o n e => k.k x o n (h.k x o n e), fun p m l e => by
    obtain ⟨m1, l1, e1⟩ := h.c p m l e
    exact k.c p m1 l1 e1⟩
theorem KeepP.same (s : Same H H') : KeepP d H H' := ⟨fun x o _ e => s x o e, fun p m l e => ⟨m, l, s _ _ e⟩⟩
theorem KeepP.new (h : H p = none) : KeepP d H (upd H p o) := KeepP.same (same_new h)
theorem KeepP.put (hd : H d = some (.dK (penK p m l))) : KeepP d H (upd H d (.dK (penK p m' l'))) :=
  ⟨fun x o n e => (upd_ne n).trans e, fun p' m1 l1 e => by
    have z := e.symm.trans hd
    have y := penK_inj (HO.dK.inj (Option.some.inj z))
    rw [y]
    exact ⟨m', l', upd_same⟩⟩
/-- x is not the pen's list -/
def OffP (H : Hp) (d x : Addr) : Prop := ∀ p m l, H d = some (.dK (penK p m l)) → p ≠ x
theorem OffP.of {B : Int} (hp : Pen H d B) (h : H x = none) : OffP H d x := fun p m l e => by
  obtain ⟨p0, ns, m0, l0, e0, e1, _⟩ := hp.ex
  have y := penK_inj (HO.dK.inj (Option.some.inj (e.symm.trans e0)))
  rw [y]
  exact ne_of_none e1 h
theorem OffP.keep {B : Int} (h : OffP H d x) (hp : Pen H d B) (k : KeepP d H H') : OffP H' d x := fun p m l e => by
  obtain ⟨p0, ns, m0, l0, e0, _⟩ := hp.ex
  obtain ⟨m1, l1, e1⟩ := k.c p0 m0 l0 e0
  have y := penK_inj (HO.dK.inj (Option.some.inj (e.symm.trans e1)))
  rw [y]
  exact h p0 m0 l0 e0
theorem OffP.at_ {y : Addr} (h : OffP H d x) (n : d ≠ y) : OffP (upd H y o) d x := fun p m l e => h p m l ((upd_ne n).symm.trans e)
/-- a list that is not the pen's is stored anew -/
theorem Pen.put {B : Int} {xs : List V} (hp : Pen H d B) (hx : H x = some (.lst xs)) (f : OffP H d x) : Pen (upd H x o) d B := by
  obtain ⟨p, ns, m, l, e1, e2, e3, e4, e5⟩ := hp.ex
  have n1 : d ≠ x := ne_of e1 hx (by intro z; cases z)
  exact ⟨p, ns, m, l, (upd_ne n1).trans e1, (upd_ne (f p m l e1)).trans e2, e3, e4, e5⟩
theorem Pen.ne_lst {B : Int} {xs : List V} (hp : Pen H d B) (hx : H x = some (.lst xs)) : d ≠ x := by
  obtain ⟨p, ns, m, l, e1, _⟩ := hp.ex
  exact ne_of e1 hx (by intro z; cases z)
/-- .. and over what was not there at first -/
theorem KeepP.over (k : KeepP d H H') (n : H x = none) : KeepP d H (upd H' x o) :=
  ⟨fun y u m e => (upd_ne (ne_of_none e n)).trans (k.k y u m e), fun p m l e => by
    obtain ⟨m1, l1, e1⟩ := k.c p m l e
    exact ⟨m1, l1, (upd_ne (ne_of_none e n)).trans e1⟩⟩
theorem KeepP.lst {B : Int} {xs : List V} (k : KeepP d H H') (hp : Pen H d B) (h : H x = some (.lst xs)) : H' x = some (.lst xs) := k.k _ _ (hp.ne_lst h).symm h
end
end Own

/-! k09: the pen's defs (made from k06's by genpen.py). -/
namespace K09
open PySem PySem.Spec PyProof.Rows L2 LamX NdefX Own
def topS (i : Nat) : Stmt := PySem.Challenge.pw_figurestay_k09_shapes_and_columns.main.body.getD i (.Pass ⟨0, 0, 0, 0⟩)
abbrev sBegin : Stmt := topS 29
abbrev sDraw : Stmt := topS 30
abbrev sPick : Stmt := topS 31
abbrev sTen : Stmt := topS 32
abbrev sFigs : Stmt := topS 33
abbrev sWrong : Stmt := topS 38
abbrev sSame : Stmt := topS 39
abbrev sRefd : Stmt := topS 40
section
variable {P : Program} {w : World} {K : PySem.W.Frag} {mg : Str → Option Value} {base : Heap} {C : Addr}
theorem scBegin : FnScope ["_law_script"] ["_law_script"] (defScope sBegin) := ⟨rfl, rfl, rfl, by decide +kernel, rfl, by decide +kernel, by decide +kernel⟩
theorem scDraw : FnScope ["_law_pen", "_law_span", "_law_digit", "_law_count", "_law_cell", "_law_first", "_law_blend"] ["_law_pen", "_law_span"] (defScope sDraw) := ⟨rfl, rfl, rfl, by decide +kernel, rfl, by decide +kernel, by decide +kernel⟩
/-- draw(pen, n): an int from 0 to n - 1; the pen has begun one draw more -/
def spDraw : Sp := fun vs H Q _ => ∃ (d : Addr) (n B : Int), vs = [.ref d, .int n] ∧ Pen H d B ∧ B ≤ 1000000000 ∧ 0 < n ∧ n ≤ 1000000 ∧
  ∀ (v : Int) (H' : Hp), 0 ≤ v → v < n → KeepP d H H' → Pen H' d (B + 1) → Q (.int v) H'
end
theorem neD_nil {xs : List Int} : PyData.eqv (.list (xs.map PyData.int)) (.list []) = decide (xs = []) := by
  cases xs with
  | nil => rfl
  | cons a r => rfl
theorem dp_ints {K : PySem.W.Frag} {H : Hp} : ∀ ns : List Int, DpAll K H (ns.map V.int) (ns.map PyData.int)
  | [] => .nil
  | a :: r => .cons (.int a) (dp_ints r)
theorem lay_ints : ∀ ns : List Int, PyData.canLayAll0 (ns.map PyData.int) = true
  | [] => by simp only [List.map_nil, PyData.canLayAll0]
  | a :: r => by simp only [List.map_cons, PyData.canLayAll0, PyData.canLay0, lay_ints r, Bool.and_self]
theorem dep_ints : ∀ ns : List Int, PyData.depthAll (ns.map PyData.int) ≤ 1
  | [] => by simp [PyData.depthAll]
  | a :: r => by
    have z := dep_ints r
    simp only [List.map_cons, PyData.depthAll, PyData.depth]
    omega
theorem sh_ints (ns : List Int) : SeqAt.shaped (.list (ns.map PyData.int)) = true := by
  have a := lay_ints ns
  have b := dep_ints ns
  have z : (PyData.list (ns.map PyData.int)).depth ≤ 64 := by
    simp only [PyData.depth]
    omega
  unfold SeqAt.shaped
  rw [Bool.and_eq_true]
  exact ⟨by simpa [PyData.canLay0] using a, decide_eq_true z⟩
theorem get_left {H : Hp} {d p : Addr} {c l : Int} (h : H d = some (.dK (penK p c l))) : DGet H d (V.str "left") (some (.int l)) := by
  have z := DGet.k (k := (Sum.inr "left" : Key)) h
  rw [pen_left] at z
  exact z
theorem get_count {H : Hp} {d p : Addr} {c l : Int} (h : H d = some (.dK (penK p c l))) : DGet H d (V.str "count") (some (.int c)) := by
  have z := DGet.k (k := (Sum.inr "count" : Key)) h
  rw [pen_count] at z
  exact z
theorem get_cells {H : Hp} {d p : Addr} {c l : Int} (h : H d = some (.dK (penK p c l))) : DGet H d (V.str "cells") (some (.ref p)) := by
  have z := DGet.k (k := (Sum.inr "cells" : Key)) h
  rw [pen_cells] at z
  exact z
theorem put_at_left {H : Hp} {d p : Addr} {c l l' : Int} (h : H d = some (.dK (penK p c l))) : DPut H d (V.str "left") (.int l') (upd H d (.dK (penK p c l'))) := by
  have z := DPut.k (k := (Sum.inr "left" : Key)) (v := .int l') h (by show 3 < sizeLine; decide)
  rw [put_left] at z
  exact z
theorem put_at_count {H : Hp} {d p : Addr} {c l c' : Int} (h : H d = some (.dK (penK p c l))) : DPut H d (V.str "count") (.int c') (upd H d (.dK (penK p c' l))) := by
  have z := DPut.k (k := (Sum.inr "count" : Key)) (v := .int c') h (by show 3 < sizeLine; decide)
  rw [put_count] at z
  exact z
section
variable {P : Program} {w : World} {K : PySem.W.Frag} {mg : Str → Option Value} {base : Heap}
theorem ok_draw {f : Addr} {fd : FuncData} (F : Fun K "_law_draw" "_law_draw" sDraw f fd) (mi : mg "int" = none) (ml : mg "len" = none) : FnOk P w K mg base CX0 1 f fd ["_law_pen", "_law_span"] spDraw := by
  refine F.ok scDraw (fun vs H Q E h => ?_) (fun cdv A outer s H vs Q E hr h => ?_)
  · obtain ⟨d, n, B, rfl, _⟩ := h
    rfl
  · obtain ⟨d, n, B, rfl, hp, hB, h0, h1, q⟩ := h
    have hu := hu_of hr
    have nd := scDraw.nd
    refine ⟨_, pss_cons (ps_if (pt_cmpR op_ge (pe_dget hu (pv 0) pe_str (fun _ _ => rfl)) (pv 1) (nomark _))
        (pss_cons (ps_set (i := 2) nd rfl (.inl rfl) (pe_op op_mod (pe_callTy call_int1 (by rfl) mi (by decide +kernel) (pa_cons (pe_dget hu (pv 0) pe_str (fun _ _ => rfl)) pa_nil)) (pv 1)))
        (pss_cons (ps_dput hu (pv 0) pe_str (pe_op op_fdiv (pe_dget hu (pv 0) pe_str (fun _ _ => rfl)) (pv 1)) rfl)
        (pss_one (ps_ret (pv 2))))) pss_nil)
      (pss_cons (ps_set (i := 3) nd rfl (.inl rfl) (pe_dget hu (pv 0) pe_str (fun _ _ => rfl)))
      (pss_cons (ps_dput hu (pv 0) pe_str (pe_op op_add (pv 3) pe_int) rfl)
      (pss_cons (ps_set (i := 4) nd rfl (.inl rfl) (pe_op op_add (pe_op op_mul pe_int (pv 3)) pe_int))
      (C8.pss_cut (ps_if (pt_cmpR (op_neD hr.units) (pe_dget hu (pv 0) pe_str (fun _ _ => rfl)) (pe_lst pa_nil) (nomark _))
        (pss_one (ps_set (i := 4) nd rfl (.inl rfl) (pe_ix ix_list (pe_dget hu (pv 0) pe_str (fun _ _ => rfl)) (pe_op op_mod (pe_callTy call_int1 (by rfl) mi (by decide +kernel) (pa_cons (pv 3) pa_nil)) (pe_callB call_len_seq (by rfl) ml PySem.boot_len (pa_cons (pe_dget hu (pv 0) pe_str (fun _ _ => rfl)) pa_nil))) (fun _ _ => rfl)))) pss_nil)
      (C8.pss_cut (ps_if (PW.pt (pw_and (pt_cmpR op_lt (pv 3) (pe_callB call_len_seq (by rfl) ml PySem.boot_len (pa_cons (pe_dget hu (pv 0) pe_str (fun _ _ => rfl)) pa_nil)) (nomark _)) (pw_and1 (pt_cmpR op_ge (pv 4) (pe_op op_pow pe_int pe_int) (nomark _)))))
        (pss_cons (ps_dput hu (pv 0) pe_str (pe_op op_fdiv (pe_op op_sub (pv 4) (pe_op op_pow pe_int pe_int)) (pv 1)) rfl)
        (pss_one (ps_ret (pe_op op_mod (pe_callTy call_int1 (by rfl) mi (by decide +kernel) (pa_cons (pe_op op_sub (pv 4) (pe_op op_pow pe_int pe_int)) pa_nil)) (pv 1))))) pss_nil)
      (pss_cons (ps_set (i := 5) nd rfl (.inl rfl) (pe_op op_add (pe_op op_mul (pe_op op_mod (pe_callTy call_int1 (by rfl) mi (by decide +kernel) (pa_cons (pv 4) pa_nil)) pe_int) pe_int) (pe_op op_mul (pe_op op_mul pe_int (pv 3)) (pv 3))))
      (pss_cons (ps_set (i := 6) nd rfl (.inl rfl) (pe_op op_mod (pe_callTy call_int1 (by rfl) mi (by decide +kernel) (pa_cons (pe_op op_add (pe_op op_add (pv 5) (pe_op op_mul pe_int (pv 3))) pe_int) pa_nil)) pe_int))
      (pss_cons (ps_set (i := 6) nd rfl (.inl rfl) (pe_op op_mod (pe_callTy call_int1 (by rfl) mi (by decide +kernel) (pa_cons (pe_op op_mul (pv 6) (pe_op op_add (pv 6) pe_int)) pa_nil)) pe_int))
      (pss_one (ps_ret (pe_op op_mod (pe_callTy call_int1 (by rfl) mi (by decide +kernel) (pa_cons (pe_op op_fdiv (pe_op op_mod (pe_callTy call_int1 (by rfl) mi (by decide +kernel) (pa_cons (pe_op op_add (pe_op op_mul (pv 6) (pv 6)) (pe_op op_mul pe_int (pv 6))) pa_nil)) pe_int) pe_int) pa_nil)) (pv 1)))))))))))), ?_⟩
    obtain ⟨p, ns, c, l, hd, hps, hns, hc0, hcB⟩ := hp.ex
    have npd : p ≠ d := ne_of hps hd (by intro z; cases z)
    have n0 : n ≠ 0 := by omega
    have nB : n < 1073741824 := by omega
    have pn : ∀ {H' : Hp} {c' l' : Int}, H' p = some (.lst (ns.map V.int)) → H' d = some (.dK (penK p c' l')) → 0 ≤ c' → c' ≤ B + 1 → Pen H' d (B + 1) := fun {H' c' l'} a b e g => ⟨p, ns, c', l', b, a, hns, e, g⟩
    -- pen['left'] >= span
    refine ⟨_, rfl, d, .int l, rfl, get_left hd, _, rfl, l, n, rfl, rfl, _, rfl, ite2 (fun hln => ?_) (fun hln => ?_)⟩
    · refine ⟨_, rfl, d, .int l, rfl, get_left hd, .inl ⟨l, rfl, _, rfl, l, n, rfl, rfl, h0, ?_⟩⟩
      refine ⟨_, rfl, d, .int l, rfl, get_left hd, _, rfl, l, n, rfl, rfl, ⟨h0, nB⟩, _, rfl, d, _, rfl, put_at_left hd, ?_⟩
      refine ⟨_, rfl, ?_⟩
      exact q _ _ (Int.emod_nonneg _ n0) (Int.emod_lt_of_pos _ h0) (KeepP.put hd) (pn (by rw [upd_ne npd]; exact hps) upd_same hc0 (by omega))
    · refine ⟨_, rfl, d, .int c, rfl, get_count hd, ?_⟩
      refine ⟨_, rfl, _, _, rfl, rfl, _, rfl, d, _, rfl, put_at_count hd, ?_⟩
      refine ⟨_, rfl, _, c, rfl, rfl, .inl ⟨by decide, by decide⟩, _, _, rfl, rfl, ?_⟩
      generalize eH1 : upd H d (.dK (penK p (c + 1) l)) = H1
      have hd1 : H1 d = some (.dK (penK p (c + 1) l)) := by rw [← eH1]; exact upd_same
      have hp1 : H1 p = some (.lst (ns.map V.int)) := by rw [← eH1, upd_ne npd]; exact hps
      have k1 : KeepP d H H1 := by rw [← eH1]; exact KeepP.put hd
      -- if pen['cells'] != []
      have hcl : ∀ {H2 : Hp}, H2 d = some (.dK (penK p (c + 1) l)) → H2 p = some (.lst (ns.map V.int)) → DGet H2 d (V.str "cells") (some (.ref p)) ∧ (SqL K H2 p (ns.map V.int) ∨ SqT K H2 p (ns.map V.int)) := fun {H2} a b => ⟨get_cells a, .inl (SqL.of b)⟩
      refine ⟨fun σ H2 => (∃ x : Int, σ = [some (.ref d), some (.int n), none, some (.int c), some (.int x), none, none]) ∧ H2 d = some (.dK (penK p (c + 1) l)) ∧ H2 p = some (.lst (ns.map V.int)) ∧ KeepP d H H2, ?_, ?_⟩
      · refine ⟨_, rfl, d, .ref p, rfl, get_cells hd1, Nat.zero_le _, fun e ne => ?_⟩
        have he1 : ∀ {b o}, H1 b = some o → (upd H1 e (.lst [])) b = some o := fun {b o} z => by rw [upd_ne (ne_of_none z ne)]; exact z
        refine ⟨.list (ns.map PyData.int), .list [], .lst (SqL.of (he1 hp1)) (dp_ints _), .lst (SqL.of upd_same) .nil, sh_ints _, sh_ints [], _, rfl, ?_⟩
        rw [neD_nil]
        generalize eH2 : upd H1 e (.lst []) = H2
        have hd2 : H2 d = some (.dK (penK p (c + 1) l)) := by rw [← eH2]; exact he1 hd1
        have hp2 : H2 p = some (.lst (ns.map V.int)) := by rw [← eH2]; exact he1 hp1
        have k2 : KeepP d H H2 := by rw [← eH2]; exact k1.trans (KeepP.new ne)
        refine ite2 (fun hne => ?_) (fun hne => ?_)
        · have hn0 : 0 < ns.length := by
            cases ns with
            | nil => simp at hne
            | cons a r => exact Nat.zero_lt_succ _
          have hpos : (0 : Int) < ((ns.map V.int).length : Int) := by rw [List.length_map]; omega
          obtain ⟨j, hj⟩ : ∃ j : Nat, c % ((ns.map V.int).length : Int) = (j : Int) := ⟨(c % ((ns.map V.int).length : Int)).toNat, (Int.toNat_of_nonneg (Int.emod_nonneg _ (by omega))).symm⟩
          have hjl : j < ns.length := by
            have z := Int.emod_lt_of_pos c hpos
            rw [hj, List.length_map] at z
            omega
          refine ⟨_, rfl, d, .ref p, rfl, get_cells hd2, _, rfl, .inl ⟨c, rfl, _, rfl, d, .ref p, rfl, get_cells hd2, p, _, rfl, .inl (SqL.of hp2), _, _, rfl, rfl, hpos, p, _, _, .int (ns[j]'hjl), rfl, rfl, SqL.of hp2, at_of hj (by rw [List.getElem?_map, List.getElem?_eq_getElem hjl]; rfl), ?_⟩⟩
          exact ⟨⟨_, rfl⟩, hd2, hp2, k2⟩
        · exact ⟨⟨_, rfl⟩, hd2, hp2, k2⟩
      · rintro σ2 H2 ⟨⟨x, rfl⟩, hd2, hp2, k2⟩
        refine ⟨fun σ H3 => σ = [some (.ref d), some (.int n), none, some (.int c), some (.int x), none, none] ∧ H3 = H2, ?_, ?_⟩
        · refine ⟨_, rfl, _, rfl, d, .ref p, rfl, get_cells hd2, p, _, rfl, .inl (SqL.of hp2), _, _, rfl, rfl, _, rfl, ite2 (fun _ => ?_) (fun _ => ⟨rfl, rfl⟩)⟩
          refine ⟨_, rfl, _, _, rfl, rfl, ⟨by decide, by decide, by decide⟩, _, _, rfl, rfl, _, rfl, ite2 (fun _ => ?_) (fun _ => ⟨rfl, rfl⟩)⟩
          refine ⟨_, rfl, _, _, rfl, rfl, ⟨by decide, by decide, by decide⟩, _, _, rfl, rfl, _, rfl, _, _, rfl, rfl, ⟨h0, nB⟩, _, rfl, d, _, rfl, put_at_left hd2, ?_⟩
          refine ⟨_, rfl, _, _, rfl, rfl, ⟨by decide, by decide, by decide⟩, _, _, rfl, rfl, .inl ⟨_, rfl, _, rfl, _, _, rfl, rfl, h0, ?_⟩⟩
          exact q _ _ (Int.emod_nonneg _ n0) (Int.emod_lt_of_pos _ h0) (k2.trans (KeepP.put hd2)) (pn (by rw [upd_ne npd]; exact hp2) upd_same (by omega) (by omega))
        · rintro σ3 H3 ⟨rfl, rfl⟩
          have hc64 : -(2 ^ 64) < c ∧ c < 2 ^ 64 := ⟨by omega, by omega⟩
          refine ⟨_, rfl, .inl ⟨x, rfl, _, _, rfl, rfl, (show (0 : Int) < 2147482811 by decide), _, _, rfl, rfl, .inr ⟨by decide, by decide⟩, ?_⟩⟩
          refine ⟨_, rfl, _, c, rfl, rfl, .inl ⟨by decide, by decide⟩, _, rfl, _, c, rfl, rfl, .inr hc64, _, _, rfl, rfl, ?_⟩
          refine ⟨_, rfl, _, rfl, _, c, rfl, rfl, .inl ⟨by decide, by decide⟩, _, _, rfl, rfl, _, _, rfl, rfl, .inl ⟨_, rfl, _, _, rfl, rfl, (show (0 : Int) < 2147482873 by decide), ?_⟩⟩
          skip
          dsimp only
          generalize x % 2147482811 * 60013 + 35023 * c * c = y1
          have hy2 := Int.emod_lt_of_pos (y1 + 151 * c + 23) (show (0 : Int) < 2147482873 by decide)
          have hy20 := Int.emod_nonneg (y1 + 151 * c + 23) (show (2147482873 : Int) ≠ 0 by decide)
          generalize (y1 + 151 * c + 23) % 2147482873 = y2 at hy2 hy20
          refine ⟨_, rfl, _, rfl, y2, _, rfl, rfl, y2, _, rfl, rfl, .inl ⟨by omega, by omega⟩, .inl ⟨_, rfl, _, _, rfl, rfl, (show (0 : Int) < 2147482951 by decide), ?_⟩⟩
          skip
          dsimp only
          have hy3 := Int.emod_lt_of_pos (y2 * (y2 + 90007)) (show (0 : Int) < 2147482951 by decide)
          have hy30 := Int.emod_nonneg (y2 * (y2 + 90007)) (show (2147482951 : Int) ≠ 0 by decide)
          generalize (y2 * (y2 + 90007)) % 2147482951 = y3 at hy3 hy30
          refine ⟨_, rfl, _, rfl, y3, y3, rfl, rfl, .inl ⟨by omega, by omega⟩, _, rfl, _, y3, rfl, rfl, .inl ⟨by decide, by decide⟩, _, _, rfl, rfl, .inl ⟨_, rfl, _, _, rfl, rfl, (show (0 : Int) < 2147483033 by decide), _, _, rfl, rfl, ⟨(show (0 : Int) < 64 by decide), (show (64 : Int) < 1073741824 by decide)⟩, .inl ⟨_, rfl, _, rfl, _, n, rfl, rfl, h0, ?_⟩⟩⟩
          exact q _ _ (Int.emod_nonneg _ n0) (Int.emod_lt_of_pos _ h0) k2 (pn hp2 hd2 (by omega) (by omega))
end
section
variable {P : Program} {w : World} {K : PySem.W.Frag} {mg : Str → Option Value} {base : Heap} {C : Addr}
theorem ok_draw' (A : At K mg "_law_draw" sDraw ["_law_pen", "_law_span"]) (T : Blt mg) : DefOk P w K mg base CX0 "_law_draw" 1 ["_law_pen", "_law_span"] spDraw := A.ok fun f fd F => ok_draw F T.int T.len
def spBegin (K : PySem.W.Frag) : Sp := fun vs H Q _ => ∃ (a : Addr) (ns : List Int), vs = [.ref a] ∧ SqL K H a (ns.map V.int) ∧ ns.length ≤ 63 ∧ ∀ (d : Addr) (H' : Hp), H d = none → Same H H' → Pen H' d 0 → Q (.ref d) H'
theorem take63 (xs : List V) (h : xs.length ≤ 63) : cutV xs none (some 63) = xs := by
  unfold cutV
  rw [HT.sIx_none, show HT.sIx xs.length xs.length (some 63) = min 63 xs.length from HT.sIx_nat xs.length xs.length 63, List.drop_zero, Nat.min_eq_right h, Nat.sub_zero, List.take_length]
theorem ok_begin (A : At K mg "_law_begin" sBegin ["_law_script"]) (T : Blt mg) : DefOk P w K mg base CX0 "_law_begin" 1 ["_law_script"] (spBegin K) := by
  refine A.ok fun f fd F => F.ok scBegin (fun vs H Q E h => ?_) (fun cdv A outer s H vs Q E hr h => ?_)
  · obtain ⟨a, ns, rfl, _⟩ := h
    rfl
  · obtain ⟨a, ns, rfl, hS, hl, q⟩ := h
    refine ⟨_, pss_one (ps_ret (pe_disp (pps_cons pe_str (pe_callTy call_list_of (by rfl) T.list (by decide +kernel) (pa_cons (pe_slice sl_list (pv 0) po_none (po_some pe_int)) pa_nil))
      (pps_cons pe_str pe_int (pps_cons pe_str pe_int pps_nil))) (by rfl) (by rfl) (fun z => by cases z) (by decide))), ?_⟩
    intro d hd
    have s0 : Same H (upd H d (.dK [])) := same_new hd
    refine ⟨_, rfl, 63, rfl, a, _, rfl, s0.seq hS, fun c hc => ?_⟩
    rw [take63 _ (by rw [List.length_map]; exact hl)]
    have s1 : Same H (upd (upd H d (.dK [])) c (.lst (ns.map V.int))) := s0.trans (same_new hc)
    refine ⟨c, _, rfl, .inl (SqL.of upd_same), fun p hp => ?_⟩
    have s2 : Same (upd (upd H d (.dK [])) c (.lst (ns.map V.int))) (upd (upd (upd H d (.dK [])) c (.lst (ns.map V.int))) p (.lst (ns.map V.int))) := same_new hp
    have hdd : upd (upd (upd H d (.dK [])) c (.lst (ns.map V.int))) p (.lst (ns.map V.int)) d = some (.dK []) := s2 _ _ (same_new hc _ _ upd_same)
    have npd : p ≠ d := fun z => by
      rw [z] at hp
      have := same_new (o := .lst (ns.map V.int)) hc _ _ (upd_same (H := H) (a := d) (o := .dK []))
      rw [hp] at this
      cases this
    refine ⟨hdd, [(Sum.inr "cells", .ref p), (Sum.inr "count", .int 0), (Sum.inr "left", .int 0)], rfl, by show 3 ≤ 15; decide, ?_⟩
    have em : mergeK [] [(Sum.inr "cells", V.ref p), (Sum.inr "count", V.int 0), (Sum.inr "left", V.int 0)] = penK p 0 0 := by
      unfold mergeK
      rw [List.foldl_cons, putK_new _ valV_nil, List.foldl_cons, putK_new _ (by
        rw [List.nil_append, valV_neg (fun e => ne_txt.1 (Sum.inr.inj e)), valV_nil]), List.foldl_cons, putK_new _ (by
        show valV [_, _] _ = none
        rw [valV_neg (fun e => ne_txt.2.1 (Sum.inr.inj e)), valV_neg (fun e => ne_txt.2.2.1 (Sum.inr.inj e)), valV_nil])]
      rfl
    rw [em]
    refine q d _ hd (fun b o e => ?_) ⟨p, ns, 0, 0, upd_same, ?_, hl, by omega, by omega⟩
    · rw [upd_ne (ne_of_none e hd)]
      exact s2 _ _ (s1 _ _ e)
    · rw [upd_ne npd]
      exact upd_same
theorem scPick : FnScope ["_law_pen", "_law_some"] ["_law_pen", "_law_some"] (defScope sPick) := ⟨rfl, rfl, rfl, by decide +kernel, rfl, by decide +kernel, by decide +kernel⟩
def spPick : Sp := fun vs H Q _ => ∃ (d a : Addr) (xs : List V) (B : Int), vs = [.ref d, .ref a] ∧ H a = some (.lst xs) ∧ xs ≠ [] ∧ xs.length ≤ 1000 ∧ Pen H d B ∧ B ≤ 1000000000 ∧ ∀ (x : V) (H' : Hp), x ∈ xs → KeepP d H H' → Pen H' d (B + 1) → Q x H'
theorem ok_pick (A : At K mg "_law_pick" sPick ["_law_pen", "_law_some"]) (T : Blt mg) (D : DefOk P w K mg base CX0 "_law_draw" 1 ["_law_pen", "_law_span"] spDraw) : DefOk P w K mg base CX0 "_law_pick" 2 ["_law_pen", "_law_some"] spPick := by
  refine A.ok fun f fd F => F.ok scPick (fun vs H Q E h => ?_) (fun cdv A outer s H vs Q E hr h => ?_)
  · obtain ⟨d, a, xs, B, rfl, _⟩ := h
    rfl
  · obtain ⟨d, a, xs, B, rfl, ha, hne, hl, hp, hB, q⟩ := h
    refine ⟨_, pss_one (ps_ret (pe_ix ix_list (pv 1) (pe_def D hr (by decide) (by rfl) pass0 (pa_cons (pv 0) (pa_cons (pe_callB call_len_seq (by rfl) T.len PySem.boot_len (pa_cons (pv 1) pa_nil)) pa_nil))) (fun _ _ => rfl))), ?_⟩
    have h0 : 0 < xs.length := List.length_pos_iff.mpr hne
    refine ⟨_, rfl, _, rfl, _, rfl, a, xs, rfl, .inl (SqL.of ha), d, (xs.length : Int), B, rfl, hp, hB, by omega, by omega, fun v H' h1 h2 kp hp' => ?_⟩
    have nad : a ≠ d := by
      obtain ⟨p, ns, c, l, e, _⟩ := hp.ex
      exact ne_of ha e (by intro z; cases z)
    obtain ⟨j, rfl⟩ : ∃ j : Nat, v = (j : Int) := ⟨v.toNat, (Int.toNat_of_nonneg h1).symm⟩
    have hj : j < xs.length := by omega
    exact ⟨a, xs, _, xs[j], rfl, rfl, SqL.of (kp _ _ nad ha), atI_nat (List.getElem?_eq_getElem hj), q _ _ (List.getElem_mem hj) kp hp'⟩
theorem scTen : FnScope ["_law_number"] ["_law_number"] (defScope sTen) := ⟨rfl, rfl, rfl, by decide +kernel, rfl, by decide +kernel, by decide +kernel⟩
def spTen : Sp := fun vs H Q _ => ∃ n : Nat, vs = [.int n] ∧ n ≤ 600 ∧ Q (.int ((10 : Int) ^ n)) H
theorem ok_ten (A : At K mg "_law_ten" sTen ["_law_number"]) (T : Blt mg) : DefOk P w K mg base CX0 "_law_ten" 1 ["_law_number"] spTen := by
  refine A.ok fun f fd F => F.ok scTen (fun vs H Q E h => ?_) (fun cdv A outer s H vs Q E hr h => ?_)
  · obtain ⟨n, rfl, _⟩ := h
    rfl
  · obtain ⟨n, rfl, hn, q⟩ := h
    refine ⟨_, pss_one (ps_ret (pe_callTy call_int_str (by rfl) T.int (by decide +kernel) (pa_cons (pe_op op_add_str pe_str (pe_op op_mulS pe_str (pv 0))) pa_nil))), ?_⟩
    have hl : ("1" : Str).length + (Txt.mul "0" (n : Int)).length ≤ sizeLine := by
      have a : ("1" : Str).length = 1 := by decide +kernel
      have b : (Txt.mul "0" (n : Int)).length = n := by rw [str_len, zeros, List.length_replicate]
      have c := sizeLine_eq
      omega
    exact ⟨_, rfl, _, _, rfl, rfl, mulOk0 hn, _, _, rfl, rfl, hl, tenS n, _, rfl, ten_text hn, by rw [tenS_len]; omega, q⟩
end
section
variable {P : Program} {w : World} {K : PySem.W.Frag} {mg : Str → Option Value} {base : Heap} {C : Addr}
theorem scFigs : FnScope ["_law_pen", "_law_most", "_law_many", "_law_manner", "_law_number", "_law_k", "_law_tail", "_law_head"] ["_law_pen", "_law_most"] (defScope sFigs) := ⟨rfl, rfl, rfl, by decide +kernel, rfl, by decide +kernel, by decide +kernel⟩
def spFigs : Sp := fun vs H Q _ => ∃ (d : Addr) (M : Nat) (B : Int), vs = [.ref d, .int M] ∧ 1 ≤ M ∧ M ≤ 600 ∧ Pen H d B ∧ B ≤ 900000000 ∧ ∀ (v : Int) (H' : Hp), 0 ≤ v → v ≤ 3 * (10 : Int) ^ M → KeepP d H H' → Pen H' d (B + 200) → Q (.int v) H'
theorem ok_figs (A : At K mg "_law_figures" sFigs ["_law_pen", "_law_most"]) (T : Blt mg) (D : DefOk P w K mg base CX0 "_law_draw" 1 ["_law_pen", "_law_span"] spDraw) (D2 : DefOk P w K mg base CX0 "_law_ten" 1 ["_law_number"] spTen) :
    DefOk P w K mg base CX0 "_law_figures" 2 ["_law_pen", "_law_most"] spFigs := by
  refine A.ok fun f fd F => F.ok scFigs (fun vs H Q E h => ?_) (fun cdv A outer s H vs Q E hr h => ?_)
  · obtain ⟨d, M, B, rfl, _⟩ := h
    rfl
  · obtain ⟨d, M, B, rfl, hM1, hM2, hp, hB, q⟩ := h
    have nd := scFigs.nd
    refine ⟨_, pss_cons (ps_par (i := 2) (j := 3) (by rfl) nd rfl rfl (by decide) rfl rfl (pa_cons (pe_op op_add pe_int (pe_def D hr (by decide) (by rfl) pass0 (pa_cons (pv 0) (pa_cons (pv 1) pa_nil)))) (pa_cons (pe_def D hr (by decide) (by rfl) pass0 (pa_cons (pv 0) (pa_cons pe_int pa_nil))) pa_nil)) (by rfl))
      (pss_cons (ps_if (pt_cmpR op_eq (pv 3) pe_int (nomark _)) (pss_one (ps_ret (pe_def D hr (by decide) (by rfl) pass0 (pa_cons (pv 0) (pa_cons pe_int pa_nil))))) pss_nil)
      (pss_cons (ps_if (pt_cmpR op_eq (pv 3) pe_int (nomark _)) (pss_one (ps_ret (pe_op op_sub (pe_def D2 hr (by decide) (by rfl) pass0 (pa_cons (pv 2) pa_nil)) pe_int))) pss_nil)
      (pss_cons (ps_if (pt_cmpR op_eq (pv 3) pe_int (nomark _)) (pss_one (ps_ret (pe_def D2 hr (by decide) (by rfl) pass0 (pa_cons (pe_op op_sub (pv 2) pe_int) pa_nil)))) pss_nil)
      (pss_cons (ps_set (i := 4) nd rfl (.inl rfl) pe_int)
      (pss_cons (ps_for PassesOwn.never rfl (pi_range1 (by rfl) T.range (pa_cons (pe_op op_add (pe_op op_fdiv (pv 2) pe_int) pe_int) pa_nil)) (pg_name (i := 5) nd rfl (.inl rfl))
        (pss_one (ps_set (i := 4) nd rfl (.inl rfl) (pe_op op_add (pe_op op_mul (pe_op op_pow pe_int pe_int) (pv 4)) (pe_def D hr (by decide) (by rfl) pass0 (pa_cons (pv 0) (pa_cons (pe_op op_pow pe_int pe_int) pa_nil)))))))
      (pss_cons (ps_set (i := 4) nd rfl (.inl rfl) (pe_op op_mod (pe_callTy call_int1 (by rfl) T.int (by decide +kernel) (pa_cons (pv 4) pa_nil)) (pe_def D2 hr (by decide) (by rfl) pass0 (pa_cons (pv 2) pa_nil))))
      (pss_cons (ps_set (i := 6) nd rfl (.inl rfl) (pe_op op_add pe_int (pe_def D hr (by decide) (by rfl) pass0 (pa_cons (pv 0) (pa_cons (pv 2) pa_nil)))))
      (pss_cons (ps_set (i := 7) nd rfl (.inl rfl) (pe_op op_mulW (pe_op op_fdivW (pv 4) (pe_def D2 hr (by decide) (by rfl) pass0 (pa_cons (pv 6) pa_nil))) (pe_def D2 hr (by decide) (by rfl) pass0 (pa_cons (pv 6) pa_nil))))
      (pss_cons (ps_if (pt_cmpR op_eq (pv 3) pe_int (nomark _)) (pss_one (ps_ret (pv 7))) pss_nil)
      (pss_cons (ps_if (pt_cmpR op_eq (pv 3) pe_int (nomark _)) (pss_one (ps_ret (pe_op op_sub (pe_op op_add (pe_op op_add (pv 7) (pe_op op_mul pe_int (pe_def D2 hr (by decide) (by rfl) pass0 (pa_cons (pe_op op_sub (pv 6) pe_int) pa_nil))))
          (pe_def D hr (by decide) (by rfl) pass0 (pa_cons (pv 0) (pa_cons pe_int pa_nil)))) pe_int))) pss_nil)
      (pss_one (ps_ret (pv 4))))))))))))), ?_⟩
    -- many, manner
    refine ⟨_, rfl, _, rfl, d, (M : Int), B, rfl, hp, by omega, by omega, by omega, fun m0 H1 a1 a2 k1 p1 => ?_⟩
    obtain ⟨m1, rfl⟩ : ∃ m1 : Nat, m0 = (m1 : Int) := ⟨m0.toNat, (Int.toNat_of_nonneg a1).symm⟩
    refine ⟨_, _, rfl, rfl, _, rfl, d, 7, B + 1, rfl, p1, by omega, by decide, by decide, fun manner H2 b1 b2 k2 p2 => ?_⟩
    have eM : (1 : Int) + (m1 : Int) = ((m1 + 1 : Nat) : Int) := by omega
    refine ⟨_, _, rfl, ?_⟩
    dsimp only
    rw [eM]
    generalize hm : m1 + 1 = m
    have hm1 : 1 ≤ m := by omega
    have hmM : m ≤ M := by omega
    have tm : (10 : Int) ^ m ≤ (10 : Int) ^ M := ten_mono hmM
    have t0 := ten_pos m
    have t1 : (10 : Int) ≤ (10 : Int) ^ M := by
      have := ten_mono hM1
      simpa using this
    have kk := k1.trans k2
    refine ⟨_, rfl, rfl, _, rfl, ite2 (fun e => ?_) (fun e => ?_)⟩
    · refine ⟨_, rfl, d, 10, B + 1 + 1, rfl, p2, by omega, by decide, by decide, fun v H3 c1 c2 k3 p3 => ?_⟩
      exact q v H3 c1 (by omega) (kk.trans k3) (p3.mono (by omega))
    refine ⟨_, rfl, rfl, _, rfl, ite2 (fun e => ?_) (fun e => ?_)⟩
    · refine ⟨_, rfl, m, rfl, by omega, _, _, rfl, rfl, ?_⟩
      exact q _ H2 (by omega) (by omega) kk (p2.mono (by omega))
    refine ⟨_, rfl, rfl, _, rfl, ite2 (fun e => ?_) (fun e => ?_)⟩
    · refine ⟨_, rfl, _, _, rfl, rfl, m - 1, by simp; omega, by omega, ?_⟩
      have := ten_pos (m - 1)
      have z : (10 : Int) ^ (m - 1) ≤ (10 : Int) ^ M := ten_mono (by omega)
      exact q _ H2 (by omega) (by omega) kk (p2.mono (by omega))
    -- the loop
    have hn : ((m : Int) / 6 + 1).toNat ≤ 101 := by omega
    refine ⟨_, rfl, _, _, rfl, rfl, ⟨by decide, by decide⟩, _, _, rfl, rfl, _, rfl, by omega, by omega, for_range (lo := 0) (n := ((m : Int) / 6 + 1).toNat)
      (fun i σ H' => ∃ (v : Int) (y : Option V), σ = [some (.ref d), some (.int M), some (.int m), some (.int manner), some (.int v), y, none, none] ∧ KeepP d H H' ∧ Pen H' d (B + 2 + i)) ⟨0, none, rfl, kk, p2.mono (by omega)⟩ ?_ ?_⟩
    · rintro i σ H3 hi ⟨v, y, rfl, k3, p3⟩
      refine ⟨_, _, rfl, rfl, ⟨by decide, by decide, by decide⟩, _, rfl, _, v, rfl, rfl, .inl ⟨by decide, by decide⟩, _, rfl, _, _, rfl, rfl, ⟨by decide, by decide, by decide⟩, d, _, B + 2 + i, rfl, p3, by omega, by decide, by decide, fun x H4 c1 c2 k4 p4 => ?_⟩
      exact ⟨_, _, rfl, rfl, _, _, rfl, k3.trans k4, p4.mono (by omega)⟩
    · rintro σ H3 ⟨v, y, rfl, k3, p3⟩
      have p3 : Pen H3 d (B + 110) := p3.mono (by omega)
      refine ⟨_, rfl, .inl ⟨v, rfl, _, rfl, m, rfl, by omega, _, _, rfl, rfl, t0, ?_⟩⟩
      have n0 := Int.emod_nonneg v (show (10 : Int) ^ m ≠ 0 by omega)
      have n1 := Int.emod_lt_of_pos v t0
      dsimp only [gName, List.set]
      generalize v % (10 : Int) ^ m = n at n0 n1
      refine ⟨_, rfl, _, rfl, d, (m : Int), _, rfl, p3, by omega, by omega, by omega, fun u H4 c1 c2 k4 p4 => ?_⟩
      obtain ⟨u1, rfl⟩ : ∃ u1 : Nat, u = (u1 : Int) := ⟨u.toNat, (Int.toNat_of_nonneg c1).symm⟩
      have eT : (1 : Int) + (u1 : Int) = ((u1 + 1 : Nat) : Int) := by omega
      refine ⟨_, _, rfl, rfl, ?_⟩
      dsimp only [gName, List.set]
      rw [eT]
      generalize ht : u1 + 1 = t
      have ht1 : 1 ≤ t := by omega
      have htm : t ≤ m := by omega
      have tt := ten_pos t
      have tb := ten_lt t
      have hd0 : 0 ≤ n / (10 : Int) ^ t := Int.ediv_nonneg n0 (Int.le_of_lt tt)
      have hd1 : n / (10 : Int) ^ t * (10 : Int) ^ t ≤ n := by
        have := Int.emod_nonneg n (show (10 : Int) ^ t ≠ 0 by omega)
        have z := Int.emod_add_mul_ediv n ((10 : Int) ^ t)
        rw [Int.mul_comm] at z
        omega
      have hdn : n / (10 : Int) ^ t ≤ n := Int.ediv_le_self _ n0
      have hd2 : 0 ≤ n / (10 : Int) ^ t * (10 : Int) ^ t := Int.mul_nonneg hd0 (Int.le_of_lt tt)
      have nb : n.natAbs < 2 ^ (4 * m + 1) := lt_two n0 (Int.le_of_lt n1) (ten_lt m)
      have db : (n / (10 : Int) ^ t).natAbs < 2 ^ (4 * m + 1) := lt_two hd0 hdn nb
      refine ⟨_, rfl, _, rfl, t, rfl, by omega, n, _, rfl, rfl, wide_div tt tb (by omega) (by omega), _, rfl, t, rfl, by omega, _, _, rfl, rfl, wide_mul db tb (by omega) (by omega) (by omega), ?_⟩
      dsimp only [gName, List.set]
      generalize n / (10 : Int) ^ t * (10 : Int) ^ t = hd at hd1 hd2
      have kf := k3.trans k4
      refine ⟨_, rfl, rfl, _, rfl, ite2 (fun e => ?_) (fun e => ?_)⟩
      · exact ⟨_, rfl, q _ _ hd2 (by omega) kf (p4.mono (by omega))⟩
      refine ⟨_, rfl, rfl, _, rfl, ite2 (fun e => ?_) (fun e => ?_)⟩
      · have tu := ten_pos (t - 1)
        have tv : (10 : Int) ^ (t - 1) * 10 = (10 : Int) ^ t := by
          rw [← Int.pow_succ]
          congr 1
          omega
        have tw : (10 : Int) ^ t ≤ (10 : Int) ^ M := ten_mono (by omega)
        refine ⟨_, rfl, _, rfl, _, _, rfl, rfl, t - 1, by simp; omega, by omega, _, _, rfl, rfl, .inl ⟨by decide, by decide⟩, _, _, rfl, rfl, _, rfl, d, 3, _, rfl, p4, by omega, by decide, by decide, fun x H5 e1 e2 k5 p5 => ?_⟩
        refine ⟨_, _, rfl, rfl, _, _, rfl, rfl, ?_⟩
        exact q _ _ (by omega) (by omega) (kf.trans k5) (p5.mono (by omega))
      · exact ⟨_, rfl, q _ _ n0 (by omega) kf (p4.mono (by omega))⟩
end
section
variable {P : Program} {w : World} {K : PySem.W.Frag} {mg : Str → Option Value} {base : Heap} {C : Addr}
theorem scSame : FnScope ["_law_one", "_law_other"] ["_law_one", "_law_other"] (defScope sSame) := ⟨rfl, rfl, rfl, by decide +kernel, rfl, by decide +kernel, by decide +kernel⟩
def spSame : Sp := fun vs H Q _ => (∃ a b : Int, vs = [.int a, .int b] ∧ Q (.bl (decide (a = b))) H) ∨ ∃ x : V, vs = [x, x] ∧ Odd H x ∧ Q (.bl true) H
theorem ok_same (A : At K mg "_law_same" sSame ["_law_one", "_law_other"]) (T : Blt mg) : DefOk P w K mg base CX0 "_law_same" 1 ["_law_one", "_law_other"] spSame := by
  refine A.ok fun f fd F => F.ok scSame (fun vs H Q E h => ?_) (fun cdv A outer s H vs Q E hr h => ?_)
  · rcases h with ⟨a, b, rfl, _⟩ | ⟨x, rfl, _⟩
    · rfl
    · rfl
  · refine ⟨_, pss_one (ps_ret (pe_and (pe_cmpR (op_eqOdd hr.units) (pv 0) (pv 1) (nomark _))
      (pe_one (pe_cmpR op_eq (pe_callB call_isi (by rfl) T.isi (by decide +kernel) (pa_cons (pv 0) (pa_cons (pe_bltn (v := .ty "bool") (by rfl) T.bool (by decide +kernel) rfl) pa_nil)))
        (pe_callB call_isi (by rfl) T.isi (by decide +kernel) (pa_cons (pv 1) (pa_cons (pe_bltn (v := .ty "bool") (by rfl) T.bool (by decide +kernel) rfl) pa_nil))) (nomark _))))), ?_⟩
    rcases h with ⟨a, b, rfl, q⟩ | ⟨x, rfl, od, q⟩
    · refine ⟨_, rfl, _, rfl, .inl ⟨a, b, rfl, rfl, _, rfl, ite2 (fun e => ?_) (fun e => ?_)⟩⟩
      · obtain ⟨t1, h1, _, k1⟩ := (Thing.int (H := H) a).isi (K := K)
        obtain ⟨t2, h2, _, k2⟩ := (Thing.int (H := H) b).isi (K := K)
        refine ⟨_, rfl, _, _, t1, _, _, rfl, .ty _, h1, k1, _, rfl, _, _, t2, _, _, rfl, .ty _, h2, k2, rfl, ?_⟩
        rw [e] at q
        exact q
      · rw [eq_false_of_ne_true e] at q
        exact q
    · refine ⟨_, rfl, _, rfl, .inr ⟨od, rfl, _, rfl, iteT ?_⟩⟩
      obtain ⟨t1, h1, _, k1⟩ := od.thing.isi (K := K)
      refine ⟨_, rfl, _, _, t1, _, _, rfl, .ty _, h1, k1, _, rfl, _, _, t1, _, _, rfl, .ty _, h1, k1, rfl, ?_⟩
      have e : decide (V.bl (isBl x) = V.bl (isBl x)) = true := decide_eq_true rfl
      show Q (.bl (decide (V.bl (isBl x) = V.bl (isBl x)))) H
      rw [e]
      exact q
/-! ### odd values that are drawn -/
/-- no integer; which texts -/
structure Wrong (H : Hp) (x : V) : Prop where
  od : Odd H x
  ni : Own.isInt x = false
  nt : ∀ z : Str, x = .str z → z = "1" ∨ z = "" ∨ z = "Cut"
theorem Wrong.same {H H' : Hp} {x : V} (h : Wrong H x) (s : Same H H') : Wrong H' x := ⟨h.od.same s, h.ni, h.nt⟩
theorem scWrong : FnScope ["_law_pen"] ["_law_pen"] (defScope sWrong) := ⟨rfl, rfl, rfl, by decide +kernel, rfl, by decide +kernel, by decide +kernel⟩
def spWrong : Sp := fun vs H Q _ => ∃ (d : Addr) (B : Int), vs = [.ref d] ∧ Pen H d B ∧ B ≤ 1000000000 ∧ ∀ (x : V) (H' : Hp), Wrong H' x → KeepP d H H' → Pen H' d (B + 1) → Q x H'
theorem ok_wrong (A : At K mg "_law_wrong" sWrong ["_law_pen"]) (D : DefOk P w K mg base CX0 "_law_pick" 2 ["_law_pen", "_law_some"] spPick) : DefOk P w K mg base CX0 "_law_wrong" 3 ["_law_pen"] spWrong := by
  refine A.ok fun f fd F => F.ok scWrong (fun vs H Q E h => ?_) (fun cdv A outer s H vs Q E hr h => ?_)
  · obtain ⟨d, B, rfl, _⟩ := h
    rfl
  · obtain ⟨d, B, rfl, hp, hB, q⟩ := h
    refine ⟨_, pss_one (ps_ret (pe_def D hr (by decide) (by rfl) pass0 (pa_cons (pv 0) (pa_cons (pe_lst (pa_cons pe_non (pa_cons pe_bl (pa_cons pe_bl (pa_cons pe_str (pa_cons pe_str (pa_cons pe_str
      (pa_cons (pe_tup (pa_cons pe_int (pa_cons pe_int pa_nil))) (pa_cons (pe_tup pa_nil) (pa_cons (pe_lst (pa_cons pe_int pa_nil)) (pa_cons pe_dnewK (pa_cons (pe_disp (pps_cons pe_str pe_int pps_nil) (by rfl) (by rfl) (fun z => by cases z) (by decide)) pa_nil)))))))))))) pa_nil)))), ?_⟩
    refine ⟨_, rfl, by show 2 ≤ sizeLine; decide, fun t1 n1 => ⟨Nat.zero_le _, fun t2 n2 => ⟨by show 1 ≤ sizeLine; decide, fun t3 n3 => ?_⟩⟩⟩
    intro t4 n4 t5 n5
    refine ⟨upd_same, txK [("a", .int 1)], rfl, by show 1 ≤ 15; decide, by show 11 ≤ sizeLine; decide, fun l nl => ?_⟩
    have em : mergeK [] (txK [("a", V.int 1)]) = txK [("a", V.int 1)] := merge_new (by decide +kernel)
    rw [upd_upd, em] at nl ⊢
    generalize hh1 : upd H t1 (HO.tup [.int 1, .int 2]) = H1 at n2 n3 n4 n5 nl ⊢
    have s1 : Same H H1 := hh1 ▸ same_new n1
    have e1 : H1 t1 = some (HO.tup [.int 1, .int 2]) := hh1 ▸ upd_same
    generalize hh2 : upd H1 t2 (HO.tup []) = H2 at n3 n4 n5 nl ⊢
    have s2 : Same H1 H2 := hh2 ▸ same_new n2
    have e2 : H2 t2 = some (HO.tup []) := hh2 ▸ upd_same
    generalize hh3 : upd H2 t3 (HO.lst [.int 1]) = H3 at n4 n5 nl ⊢
    have s3 : Same H2 H3 := hh3 ▸ same_new n3
    have e3 : H3 t3 = some (HO.lst [.int 1]) := hh3 ▸ upd_same
    generalize hh4 : upd H3 t4 (HO.dK []) = H4 at n5 nl ⊢
    have s4 : Same H3 H4 := hh4 ▸ same_new n4
    have e4 : H4 t4 = some (HO.dK []) := hh4 ▸ upd_same
    generalize hh5 : upd H4 t5 (HO.dK (txK [("a", V.int 1)])) = H5 at nl ⊢
    have s5 : Same H4 H5 := hh5 ▸ same_new n5
    have e5 : H5 t5 = some (HO.dK (txK [("a", V.int 1)])) := hh5 ▸ upd_same
    have s6 : Same H5 (upd H5 l (HO.lst [.non, .bl true, .bl false, .str "1", .str "", .str "Cut", .ref t1, .ref t2, .ref t3, .ref t4, .ref t5])) := same_new nl
    have sA : Same H (upd H5 l (HO.lst [.non, .bl true, .bl false, .str "1", .str "", .str "Cut", .ref t1, .ref t2, .ref t3, .ref t4, .ref t5])) := (((((s1.trans s2).trans s3).trans s4).trans s5).trans s6)
    have f1 := s6 _ _ (s5 _ _ (s4 _ _ (s3 _ _ (s2 _ _ e1))))
    have f2 := s6 _ _ (s5 _ _ (s4 _ _ (s3 _ _ e2)))
    have f3 := s6 _ _ (s5 _ _ (s4 _ _ e3))
    have f4 := s6 _ _ (s5 _ _ e4)
    have f5 := s6 _ _ e5
    refine ⟨d, l, _, B, rfl, upd_same, by simp, by show 11 ≤ 1000; decide, hp.same sA, hB, fun x H' hx kp hp' => q x H' ?_ ((KeepP.same sA).trans kp) hp'⟩
    obtain ⟨p0, ns0, c0, l0, hd0, _⟩ := (hp.same s1).ex
    have d1 : t1 ≠ d := ne_of e1 hd0 (by intro z; cases z)
    obtain ⟨p0, ns0, c0, l0, hd0, _⟩ := hp.ex
    have d2 : t2 ≠ d := (ne_of_none (s1 _ _ hd0) n2).symm
    have d3 : t3 ≠ d := (ne_of_none (s2 _ _ (s1 _ _ hd0)) n3).symm
    have d4 : t4 ≠ d := (ne_of_none (s3 _ _ (s2 _ _ (s1 _ _ hd0))) n4).symm
    have d5 : t5 ≠ d := (ne_of_none (s4 _ _ (s3 _ _ (s2 _ _ (s1 _ _ hd0)))) n5).symm
    have g1 := kp _ _ d1 f1
    have g2 := kp _ _ d2 f2
    have g3 := kp _ _ d3 f3
    have g4 := kp _ _ d4 f4
    have g5 := kp _ _ d5 f5
    simp only [List.mem_cons, List.not_mem_nil, or_false] at hx
    rcases hx with rfl | rfl | rfl | rfl | rfl | rfl | rfl | rfl | rfl | rfl | rfl
    · exact ⟨.flat rfl, rfl, fun z e => by cases e⟩
    · exact ⟨.flat rfl, rfl, fun z e => by cases e⟩
    · exact ⟨.flat rfl, rfl, fun z e => by cases e⟩
    · exact ⟨.flat (by decide +kernel), rfl, fun z e => by cases e; simp⟩
    · exact ⟨.flat (by decide +kernel), rfl, fun z e => by cases e; simp⟩
    · exact ⟨.flat (by decide +kernel), rfl, fun z e => by cases e; simp⟩
    · exact ⟨.tup g1 rfl, rfl, fun z e => by cases e⟩
    · exact ⟨.tup g2 rfl, rfl, fun z e => by cases e⟩
    · exact ⟨.lst g3 rfl, rfl, fun z e => by cases e⟩
    · exact ⟨.dct g4 (by simp) (by simp), rfl, fun z e => by cases e⟩
    · exact ⟨.dct g5 (by simp [txK]) (by simp [txK, flatB]), rfl, fun z e => by cases e⟩
end
section
variable {P : Program} {w : World} {K : PySem.W.Frag} {mg : Str → Option Value} {base : Heap} {C : Addr}
theorem scRefd : FnScope ["_law_deed", "_law_value", "_law_told_here", "e"] ["_law_deed", "_law_value"] (defScope sRefd) := ⟨rfl, rfl, rfl, by decide +kernel, rfl, by decide +kernel, by decide +kernel⟩
def spRefd (C : Addr) : (Hp → VK → XK → Prop) → List V → Hp → VK → Prop := fun tl rest H Q => ∃ v : V, rest = [v] ∧ Odd H v ∧ (∀ (Q' : VK) (E' : XK), Bad C "value" v H E' → tl H Q' E') ∧ ∀ H', Same H H' → Q (.bl true) H'
theorem ld_refd (A : At K mg "_law_refused" sRefd ["_law_deed", "_law_value"]) (T : ErrC P w K mg base "BadValue" "value" 1 C (spErr C "value")) (D : DefOk P w K mg base CX0 "_law_same" 1 ["_law_one", "_law_other"] spSame) : LamDefAt P w K mg base "_law_refused" 6 (spRefd C) := by
  obtain ⟨g, fd, F, gm, b⟩ := A.ex
  refine ⟨g, ⟨fun A outer s H us f vs FF bb fr ws spl kl Q hr hkl e0 r G hf hc CC q => ?_⟩, gm, F.kp⟩
  have KX : K.In s.heap := e0.mod.kin.keeps fun b o e => (e0.bs b o e).1
  obtain ⟨v, rfl, od, q1, q2⟩ := q
  have hb := b s us KX (by rw [List.append_nil, ← r.length]; rfl)
  rw [List.append_nil] at hb
  obtain ⟨oc, od', kV, doc, pm, an, cdv, ct, osl, rfl, lk, hcd⟩ := F.ex
  refine LamX.run_ofS (N := ["_law_deed", "_law_value", "_law_told_here", "e"]) lk hcd scRefd hr e0 hb r rfl fun hr' => ?_
  have nd := scRefd.nd
  refine ⟨_, pss_cons (ps_set (i := 2) nd rfl (.inl rfl) pe_non)
    (pss_cons (ps_try_as (i := 3) (c := .ref C) rfl rfl nd rfl rfl ⟨rfl, by decide, .inl T.g⟩ L2.takes0
        (fun W pn xe tk _ => pss_one (ps_expr (pe_deedS (i := 0) (E := WE W) CC rfl G (hr'.mono (by omega)) (fun σ => passAt tk σ) rfl (.inl rfl))))
        (fun a oe cls d pn hz hf => pss_one (ps_set (i := 2) nd rfl (.inl rfl) (pe_tup (pa_cons (pe_xf T.xf T.noV hz hf (pv 3)) pa_nil)))))
    (pss_one (ps_ret (pe_and (pe_cmpR op_notN (pv 2) pe_non (nomark _)) (pe_one (pe_def D hr' (by decide) (by rfl) pass0 (pa_cons (pe_ix ix_tup (pv 2) pe_int (fun _ _ => rfl)) (pa_cons (pv 1) pa_nil)))))))), ?_⟩
  refine ⟨rfl, hf, hc, q1 _ _ fun d H1 s1 nd1 e1 => ⟨true, T.te, fun _ a na => ?_, fun z => nomatch z⟩⟩
  refine ⟨_, rfl, rfl, rfl, d, _, v, rfl, e1, by simp [List.lookup], by show 1 ≤ sizeLine; decide, fun p np => ?_⟩
  refine ⟨_, rfl, rfl, _, rfl, iteT ?_⟩
  have s2 : Same H1 (upd H1 p (.tup [v])) := same_new np
  refine ⟨_, rfl, p, [v], 0, v, rfl, rfl, SqT.of upd_same, rfl, v, rfl, .inr ⟨v, rfl, (od.same s1).same s2, ?_⟩⟩
  exact q2 _ (s1.trans s2)
end
end K09

/-! own layer, of no law: OWN2: operators by an own class. -/
namespace Own
open PySem PySem.Spec PyProof.Rows L2 LamX NdefX
section
variable {X : Cx} {pins : List (Addr × Obj)} {σ : L2.St} {H : Hp} {s : Shared}
theorem back_of {Q : VK} {A : Around} {c : Sem Value} (h : wpAny (model X.prog X.w) A c (EP X pins σ Q) X.xe s) : wpAny (model X.prog X.w) A c (PySem.W.CmpBack (EP X pins σ Q)) X.xe s := by
  refine wpAny_mono h (fun v s' q => ?_) fun _ _ e => e
  obtain ⟨y, H', I', r, q'⟩ := q
  cases v with
  | notImplemented => cases y <;> first | exact (nomatch r) | (obtain ⟨_, z⟩ := r; cases z)
  | _ => exact ⟨y, H', I', r, q'⟩
variable {CX : CXT} {n : Nat} {C f : Addr} {fd : FuncData} {ps : List Str} {sp : Sp} {E : XK} {op : Operator}
/-- x op y, both of the class at C, whose own method takes them -/
theorem op_own (F : FnOk X.prog X.w X.K X.mg X.base CX n f fd ps sp) (hr : Room n X.A) (hc : PySem.W.selfFirst X.K C = true) (hs : PySem.W.findIn X.K (.ref C) (PySem.dunder op.info.2) = some (some (.ref f))) (hf : PySem.W.isFn X.K (.ref f) = true) (hb : Binds X.K fd ps []) (hx : Passes CX X E) :
    OpR X (binaryOp op) (fun x y H Q => ∃ a b dx dy fs gs, x = V.ref a ∧ y = V.ref b ∧ H a = some (.ins C dx fs) ∧ H b = some (.ins C dy gs) ∧ sp [.ref a, .ref b] H Q E) := by
  intro pins s σ H x y v u Q I rx ry h
  obtain ⟨a, b, dx, dy, fs, gs, rfl, rfl, ha, hb', q⟩ := h
  cases rx
  cases ry
  obtain ⟨mA, J, _⟩ := ins_get I.hok ha
  obtain ⟨mB, J', _⟩ := ins_get I.hok hb'
  obtain ⟨od, J, _⟩ := J.look
  obtain ⟨od', J', _⟩ := J'.look
  obtain ⟨m, hF⟩ := I.fr
  exact PySem.W.binop_K hF I.ok.mod.kin J J'.type hc hs hf (back_of (run_fn F hr hb .nil hx I (.cons (show L2.RelV (V.ref a) (Value.ref a) from rfl) (.cons (show L2.RelV (V.ref b) (Value.ref b) from rfl) .nil)) q))
/-- -x of the class at C -/
theorem un_own (F : FnOk X.prog X.w X.K X.mg X.base CX n f fd ps sp) (hr : Room n X.A) (hs : PySem.W.findIn X.K (.ref C) "__neg__" = some (some (.ref f))) (hf : PySem.W.isFn X.K (.ref f) = true) (hb : Binds X.K fd ps []) (hx : Passes CX X E) :
    UnR X (unaryOp .USub) (fun x H Q => ∃ a dx fs, x = V.ref a ∧ H a = some (.ins C dx fs) ∧ sp [.ref a] H Q E) := by
  intro pins s σ H x v Q I rx h
  obtain ⟨a, dx, fs, rfl, ha, q⟩ := h
  cases rx
  obtain ⟨mA, J, _⟩ := ins_get I.hok ha
  obtain ⟨od, J, _⟩ := J.look
  obtain ⟨m, hF⟩ := I.fr
  exact PySem.W.ksp_neg hF I.ok.mod.kin J hs hf (run_fn F hr hb .nil hx I (.cons (show L2.RelV (V.ref a) (Value.ref a) from rfl) .nil) q)
end
end Own

/-! own layer, of no law: OWN3: an own class and a built-in value, on either side. -/
namespace Own
open PySem PySem.Spec PySem.Calls PyProof.Rows
section
variable {prog : Program} {w : World} {A : Around} {E : Value → Shared → Prop} {s : Shared} {K : PySem.W.Frag} {x C f : Addr} {ox : Obj} {od : Option Obj} {T : String}
open PySem.W in
/-- own op built-in -/
theorem own_left {op : Operator} {b : Value} {r : Bool} {back ours : Option Value} {Q : Value → Shared → Prop} (KX : K.In s.heap) (J : InstAt s.heap x ox C od) (tb : Looks (model prog w) s.heap (typeOf b) (.type T)) (one : selfFirst K C = true)
    (me : findIn K (.ref C) (PySem.dunder op.info.2) = some (some (.ref f))) (fn : isFn K (.ref f) = true) (mr : findIn K (.ref C) (dunderR op.info.2) = some ours) (mp : ours = none ∨ ∃ g : Addr, ours = some (.ref g))
    (slot : fillsNumberSlot (.type T) op.info.2 = pure r) (their : typeLookup (.type T) (dunderR op.info.2) = pure back) (nosub : subIn K (.type T) (.ref C) = some false)
    (go : wpAny (model prog w) A (call (.ref f) [.ref x, b]) (PySem.W.CmpBack Q) E s) : wpAny (model prog w) A (binaryOp op (.ref x) b) Q E s := by
  obtain ⟨cd, tl, c1, c2⟩ := ksp_first one
  obtain ⟨sy, nm, e⟩ : ∃ sy nm, op.info = (sy, nm) := ⟨_, _, rfl⟩
  rw [e] at me mr slot their
  have did := ksp_try KX J me fn go
  obtain ⟨hp, gs, dr, tk, os⟩ := s
  have q1 : Looks (model prog w) hp (typeOf (.ref x)) (.ref C) := J.type
  have q3 : Looks (model prog w) hp (fillsNumberSlot (.ref C) nm) true := fills_K KX c1 c2 me
  have q4 : Looks (model prog w) hp (fillsNumberSlot (.type T) nm) r := Looks.of_pure slot
  have q5 : Looks (model prog w) hp (isSubtype (.type T) (.ref C)) false := looks_subIn KX nosub
  have q6 : Looks (model prog w) hp (numberSlotInPython (.ref C) nm) true := ksp_inPy KX me mr mp
  have q7 : Looks (model prog w) hp (numberSlotInPython (.type T) nm) false := Looks.of_pure rfl
  have q8 : Looks (model prog w) hp (typeLookup (.type T) (dunderR nm)) back := Looks.of_pure their
  have ne : (Value.ref C == Value.type T) = false := by rw [beq_eq_false_iff_ne]; intro z; cases z
  unfold binaryOp
  rw [e]
  dsimp only
  refine wpAny_holding (wpAny_bind ?_)
  unfold binaryOp1
  refine wpAny_bind (q1.at (wpAny_bind (tb.at (wpAny_bind (q3.at ?_)))))
  rw [ne]
  simp only [Bool.false_eq_true, if_false]
  cases r
  · ksp_lk
    refine wpAny_mono did (fun u s' z => ?_) fun _ _ z => z
    obtain ⟨v, rfl, hv⟩ := z
    ksp_lk
    exact hv
  · ksp_lk
    refine wpAny_mono did (fun u s' z => ?_) fun _ _ z => z
    obtain ⟨v, rfl, hv⟩ := z
    ksp_lk
    exact hv
open PySem.W in
/-- built-in op own: the built-in's own slot stands off, the class's reflected method takes them -/
theorem own_right {op : Operator} {a : Value} {l : Bool} {Q : Value → Shared → Prop} (KX : K.In s.heap) (J : InstAt s.heap x ox C od) (ta : ∀ s' : Shared, (∀ b o, s.heap.get? b = some o → s'.heap.get? b = some o) → Looks (model prog w) s'.heap (typeOf a) (.type T)) (one : selfFirst K C = true)
    (mr : findIn K (.ref C) (dunderR op.info.2) = some (some (.ref f))) (fn : isFn K (.ref f) = true) (fills : ∀ h : Heap, K.In h → Looks (model prog w) h (fillsNumberSlot (.ref C) op.info.2) true)
    (slot : fillsNumberSlot (.type T) op.info.2 = pure l) (nosub : subIn K (.ref C) (.type T) = some false)
    (off : l = true → ∀ {R : Option Value → Shared → Prop} {s' : Shared}, (∀ b o, s.heap.get? b = some o → s'.heap.get? b = some o) → (∀ t : Tok, R none { s' with toks := t }) → wpAny (model prog w) A (tryMethod a (PySem.dunder op.info.2) (.ref x)) R E s')
    (go : ∀ t : Tok, wpAny (model prog w) A (call (.ref f) [.ref x, a]) (PySem.W.CmpBack Q) E { s with toks := t }) : wpAny (model prog w) A (binaryOp op a (.ref x)) Q E s := by
  obtain ⟨sy, nm, e⟩ : ∃ sy nm, op.info = (sy, nm) := ⟨_, _, rfl⟩
  rw [e] at mr slot fills off
  have did : ∀ t : Tok, wpAny (model prog w) A (tryMethod (.ref x) (dunderR nm) a) (fun u s' => ∃ v, u = some v ∧ Q v s') E { s with toks := t } := fun t => ksp_try (s := { s with toks := t }) KX J mr fn (go t)
  have here := ta s fun _ _ z => z
  have q3 := fills s.heap KX
  obtain ⟨hp, gs, dr, tk, os⟩ := s
  have q1 : Looks (model prog w) hp (typeOf (.ref x)) (.ref C) := J.type
  have q2 : Looks (model prog w) hp (typeOf a) (.type T) := here
  have q4 : Looks (model prog w) hp (fillsNumberSlot (.type T) nm) l := Looks.of_pure slot
  have q5 : Looks (model prog w) hp (isSubtype (.ref C) (.type T)) false := looks_subIn KX nosub
  have q6 : Looks (model prog w) hp (fillsNumberSlot (.ref C) nm) true := q3
  have q7 : Looks (model prog w) hp (numberSlotInPython (.type T) nm) false := Looks.of_pure rfl
  have ne : (Value.type T == Value.ref C) = false := by rw [beq_eq_false_iff_ne]; intro z; cases z
  unfold binaryOp
  rw [e]
  dsimp only
  refine wpAny_holding (wpAny_bind ?_)
  unfold binaryOp1
  refine wpAny_bind (q2.at (wpAny_bind (q1.at (wpAny_bind (q4.at ?_)))))
  rw [ne]
  simp only [Bool.false_eq_true, if_false]
  refine wpAny_bind (q6.at ?_)
  cases l
  · ksp_lk
    refine wpAny_mono (did tk) (fun u s' z => ?_) fun _ _ z => z
    obtain ⟨v, rfl, hv⟩ := z
    ksp_lk
    exact hv
  · ksp_lk
    refine off rfl (fun _ _ z => z) fun t => ?_
    ksp_lk
    refine wpAny_mono (did t) (fun u s' z => ?_) fun _ _ z => z
    obtain ⟨v, rfl, hv⟩ := z
    ksp_lk
    exact hv
end
end Own

/-! own layer, of no law: OWN4. -/
namespace Own
open PySem PySem.Spec PySem.Calls PyProof.Rows AutoSeq1
def tys : List String := ["NoneType", "bool", "int", "str", "list", "tuple", "dict"]
theorem fill_add : ∀ T ∈ tys, fillsNumberSlot (.type T) "add" = pure (T == "int" || T == "bool") := by
  intro T hT
  simp only [tys, List.mem_cons, List.not_mem_nil, or_false] at hT
  rcases hT with rfl | rfl | rfl | rfl | rfl | rfl | rfl <;> kernel_rfl
theorem fill_sub : ∀ T ∈ tys, fillsNumberSlot (.type T) "sub" = pure (T == "int" || T == "bool") := by
  intro T hT
  simp only [tys, List.mem_cons, List.not_mem_nil, or_false] at hT
  rcases hT with rfl | rfl | rfl | rfl | rfl | rfl | rfl <;> kernel_rfl
theorem fill_mul : ∀ T ∈ tys, fillsNumberSlot (.type T) "mul" = pure (T == "int" || T == "bool") := by
  intro T hT
  simp only [tys, List.mem_cons, List.not_mem_nil, or_false] at hT
  rcases hT with rfl | rfl | rfl | rfl | rfl | rfl | rfl <;> kernel_rfl
theorem refl_add : ∀ T ∈ tys, typeLookup (.type T) (dunderR "add") = pure (if (T == "int" || T == "bool") = true then some (.builtin "int.__radd__") else none) := by
  intro T hT
  simp only [tys, List.mem_cons, List.not_mem_nil, or_false] at hT
  rcases hT with rfl | rfl | rfl | rfl | rfl | rfl | rfl <;> (rw [typeLookup_type, builtinLookup_eq_fast]; kernel_rfl)
theorem refl_sub : ∀ T ∈ tys, typeLookup (.type T) (dunderR "sub") = pure (if (T == "int" || T == "bool") = true then some (.builtin "int.__rsub__") else none) := by
  intro T hT
  simp only [tys, List.mem_cons, List.not_mem_nil, or_false] at hT
  rcases hT with rfl | rfl | rfl | rfl | rfl | rfl | rfl <;> (rw [typeLookup_type, builtinLookup_eq_fast]; kernel_rfl)
theorem refl_mul : ∀ T ∈ tys, typeLookup (.type T) (dunderR "mul") = pure (if (T == "int" || T == "bool") = true then some (.builtin "int.__rmul__") else if T == "str" then some (.builtin "str.__rmul__") else if T == "list" then some (.builtin "list.__rmul__") else if T == "tuple" then some (.builtin "tuple.__rmul__") else none) := by
  intro T hT
  simp only [tys, List.mem_cons, List.not_mem_nil, or_false] at hT
  rcases hT with rfl | rfl | rfl | rfl | rfl | rfl | rfl <;> (rw [typeLookup_type, builtinLookup_eq_fast]; kernel_rfl)
/-- an int's own slot stands off an object that is no int -/
theorem off_meets {nm : String} {x : Addr} {v : Value} {i : Int} {g : Int → Int → Sem Fin} (hv : (∃ t, v = .int i t) ∨ ∃ b, v = .bool b) : Meets (Builtin.Int.intBinary nm g false ⟨[v, .ref x], []⟩) (fun _ R s => ∃ o, s.heap.get? x = some o ∧ o.data = .plain ∧ R (.ok (.ret .notImplemented)) s) := by
  intro prog w A R s h
  obtain ⟨o, e, d, q⟩ := h
  obtain ⟨hp, gs, dr, tk, os⟩ := s
  rcases hv with ⟨t, rfl⟩ | ⟨b, rfl⟩
  · unfold Builtin.Int.intBinary
    wp_walk using wpAny_loadPart' e
    rw [d]
    exact wpAny_pure (wpAny_bind (wpAny_rule (wpAny_pure q)))
  · unfold Builtin.Int.intBinary
    wp_walk using wpAny_loadPart' e
    rw [d]
    exact wpAny_pure (wpAny_bind (wpAny_rule (wpAny_pure q)))
section
variable {prog : Program} {w : World} {A : Around} {E : Value → Shared → Prop} {s : Shared} {x : Addr} {o : Obj} {v : Value} {i : Int}
/-- .. so its method gives none -/
theorem off_try {T id : String} {nm : String} {nb : String} {g : Int → Int → Sem PySem.Fin} {R : Option Value → Shared → Prop} (hv : (∃ t, v = .int i t) ∨ ∃ b, v = .bool b) (ho : s.heap.get? x = some o) (hd : o.data = .plain) (hT : s.TypeIs v T) (slot : Slot T (dunder nm) id)
    (entry : entryFor table id = some (Builtin.Int.intBinary nb g false)) (args : argsOk id ⟨[v, .ref x], []⟩) (h : R none s) : wpAny (model prog w) A (tryMethod v (dunder nm) (.ref x)) R E s := by
  unfold tryMethod
  exact wpAny_bind (wpAny_callSpecial?_slot hT slot (call_meets slot hT entry args (off_meets hv) ⟨o, ho, hd, wpAny_pure h⟩))
theorem off_add {R : Option Value → Shared → Prop} (ho : s.heap.get? x = some o) (hd : o.data = .plain) (h : R none s) : (∀ t, v = .int i t → wpAny (model prog w) A (tryMethod v (dunder "add") (.ref x)) R E s) ∧ (∀ b, v = .bool b → wpAny (model prog w) A (tryMethod v (dunder "add") (.ref x)) R E s) := by
  refine ⟨fun t e => ?_, fun b e => ?_⟩
  · exact off_try (T := "int") (i := i) (.inl ⟨t, e⟩) ho hd (by rw [e]; exact rfl) F.slot_int_add F.entry_int_add (F.args_int_add_2 _ _) h
  · exact off_try (T := "bool") (i := i) (.inr ⟨b, e⟩) ho hd (by rw [e]; exact rfl) F.slot_bool_add F.entry_int_add (F.args_int_add_2 _ _) h
end
end Own

/-! own layer, of no law: OWN5: rules for an own class's operators with what is handed in. -/
namespace Own
open PySem PySem.Spec PyProof.Rows L2 LamX NdefX
/-- what an operator's built-in slots say -/
structure OpB (op : Operator) : Prop where
  fill : ∀ T ∈ tys, fillsNumberSlot (.type T) op.info.2 = pure (T == "int" || T == "bool")
  back : ∀ T ∈ tys, ∃ r, typeLookup (.type T) (dunderR op.info.2) = pure r
  off : ∀ {prog : Program} {w : World} {A : Around} {E : Value → Shared → Prop} {s : Shared} {x : Addr} {o : Obj} {v : Value} {i : Int} {R : Option Value → Shared → Prop}, s.heap.get? x = some o → o.data = .plain → ((∃ t, v = .int i t) ∨ ∃ b, v = .bool b) → R none s →
    wpAny (model prog w) A (tryMethod v (PySem.dunder op.info.2) (.ref x)) R E s
theorem opb_add : OpB .Add := ⟨fill_add, fun T h => ⟨_, refl_add T h⟩, fun {prog w A E s x o v i R} ho hd hv h => by
  rcases hv with ⟨t, e⟩ | ⟨b, e⟩
  · exact off_try (T := "int") (i := i) (.inl ⟨t, e⟩) ho hd (by rw [e]; exact rfl) F.slot_int_add F.entry_int_add (F.args_int_add_2 _ _) h
  · exact off_try (T := "bool") (i := i) (.inr ⟨b, e⟩) ho hd (by rw [e]; exact rfl) F.slot_bool_add F.entry_int_add (F.args_int_add_2 _ _) h⟩
theorem opb_sub : OpB .Sub := ⟨fill_sub, fun T h => ⟨_, refl_sub T h⟩, fun {prog w A E s x o v i R} ho hd hv h => by
  rcases hv with ⟨t, e⟩ | ⟨b, e⟩
  · exact off_try (T := "int") (i := i) (.inl ⟨t, e⟩) ho hd (by rw [e]; exact rfl) F.slot_int_sub F.entry_int_sub (F.args_int_sub_2 _ _) h
  · exact off_try (T := "bool") (i := i) (.inr ⟨b, e⟩) ho hd (by rw [e]; exact rfl) F.slot_bool_sub F.entry_int_sub (F.args_int_sub_2 _ _) h⟩
theorem opb_mul : OpB .Mult := ⟨fill_mul, fun T h => ⟨_, refl_mul T h⟩, fun {prog w A E s x o v i R} ho hd hv h => by
  rcases hv with ⟨t, e⟩ | ⟨b, e⟩
  · exact off_try (T := "int") (i := i) (.inl ⟨t, e⟩) ho hd (by rw [e]; exact rfl) F.slot_int_mul F.entry_int_mul (F.args_int_mul_2 _ _) h
  · exact off_try (T := "bool") (i := i) (.inr ⟨b, e⟩) ho hd (by rw [e]; exact rfl) F.slot_bool_mul F.entry_int_mul (F.args_int_mul_2 _ _) h⟩
section
variable {X : Cx} {pins : List (Addr × Obj)} {σ : L2.St} {H : Hp} {s : Shared}
/-- of which built-in type a thing is -/
theorem thing_ty {x : V} {v : Value} (I : Inv X pins σ H s) (t : Thing H x) (r : RelV x v) : ∃ T ∈ tys, PySem.W.Looks (model X.prog X.w) s.heap (typeOf v) (.type T) ∧ ((T == "int" || T == "bool") = true → ∃ i : Int, (∃ t, v = .int i t) ∨ ∃ b, v = .bool b) := by
  cases t with
  | non =>
    obtain rfl : v = .none := r
    exact ⟨"NoneType", by simp [tys], .of_pure rfl, fun z => absurd z (by decide)⟩
  | bl b =>
    obtain rfl : v = .bool b := r
    exact ⟨"bool", by simp [tys], .of_pure rfl, fun _ => ⟨0, .inr ⟨b, rfl⟩⟩⟩
  | int i =>
    obtain ⟨t, rfl⟩ := r
    exact ⟨"int", by simp [tys], .of_pure rfl, fun _ => ⟨i, .inl ⟨t, rfl⟩⟩⟩
  | str z =>
    obtain ⟨t, rfl⟩ := r
    exact ⟨"str", by simp [tys], .of_pure rfl, fun z => absurd z (by decide)⟩
  | @lst a xs e =>
    obtain rfl : v = .ref a := r
    obtain ⟨_, its, n, _, ho⟩ := I.hok a _ e
    exact ⟨"list", by simp [tys], fun A Q E s' k q => wpAny_typeOf_ref (k _ _ ho) q, fun z => absurd z (by decide)⟩
  | @tup a xs e =>
    obtain rfl : v = .ref a := r
    obtain ⟨_, its, _, o, ho, hc, _⟩ := I.hok a _ e
    exact ⟨"tuple", by simp [tys], fun A Q E s' k q => wpAny_typeOf_ref (k _ _ ho) (by rw [hc]; exact q), fun z => absurd z (by decide)⟩
  | @dct a kvs e =>
    obtain rfl : v = .ref a := r
    obtain ⟨_, _, vs, _, o, es, ep, ho, hc, _⟩ := I.hok a _ e
    exact ⟨"dict", by simp [tys], fun A Q E s' k q => wpAny_typeOf_ref (k _ _ ho) (by rw [hc.1]; exact q), fun z => absurd z (by decide)⟩
variable {CX : CXT} {n : Nat} {C f g : Addr} {fd : FuncData} {ps : List Str} {sp : Sp} {E : XK} {op : Operator}
/-- own op thing -/
theorem op_ownL (B : OpB op) (F : FnOk X.prog X.w X.K X.mg X.base CX n f fd ps sp) (hr : Room n X.A) (hc : PySem.W.selfFirst X.K C = true) (hs : PySem.W.findIn X.K (.ref C) (PySem.dunder op.info.2) = some (some (.ref f))) (hf : PySem.W.isFn X.K (.ref f) = true)
    (hm : PySem.W.findIn X.K (.ref C) (dunderR op.info.2) = some (some (.ref g))) (hsub : ∀ T ∈ tys, PySem.W.subIn X.K (.type T) (.ref C) = some false) (hb : Binds X.K fd ps []) (hx : Passes CX X E) :
    OpR X (binaryOp op) (fun x y H Q => ∃ a dx fs, x = V.ref a ∧ H a = some (.ins C dx fs) ∧ Thing H y ∧ sp [.ref a, y] H Q E) := by
  intro pins s σ H x y v u Q I rx ry h
  obtain ⟨a, dx, fs, rfl, ha, ty, q⟩ := h
  cases rx
  obtain ⟨mA, J, _⟩ := ins_get I.hok ha
  obtain ⟨od, J, _⟩ := J.look
  obtain ⟨T, hT, lk, _⟩ := thing_ty I ty ry
  obtain ⟨r, hbk⟩ := B.back T hT
  exact own_left I.kIn J lk hc hs hf hm (.inr ⟨g, rfl⟩) (B.fill T hT) hbk (hsub T hT) (back_of (run_fn F hr hb .nil hx I (.cons (show L2.RelV (V.ref a) (Value.ref a) from rfl) (.cons ry .nil)) q))
/-- thing op own -/
theorem op_ownR (B : OpB op) (F : FnOk X.prog X.w X.K X.mg X.base CX n f fd ps sp) (hr : Room n X.A) (hc : PySem.W.selfFirst X.K C = true) (hs : PySem.W.findIn X.K (.ref C) (PySem.dunder op.info.2) = some (some (.ref g))) (hf : PySem.W.isFn X.K (.ref f) = true)
    (hm : PySem.W.findIn X.K (.ref C) (dunderR op.info.2) = some (some (.ref f))) (hsub : ∀ T ∈ tys, PySem.W.subIn X.K (.ref C) (.type T) = some false) (hb : Binds X.K fd ps []) (hx : Passes CX X E) :
    OpR X (binaryOp op) (fun x y H Q => ∃ b dy fs, y = V.ref b ∧ H b = some (.ins C dy fs) ∧ Thing H x ∧ sp [.ref b, x] H Q E) := by
  intro pins s σ H x y v u Q I rx ry h
  obtain ⟨b, dy, fs, rfl, hb', tx, q⟩ := h
  cases ry
  obtain ⟨mB, J, _⟩ := ins_get I.hok hb'
  obtain ⟨od, J, _⟩ := J.look
  obtain ⟨T, hT, lk, num⟩ := thing_ty I tx rx
  obtain ⟨cd, tl, c1, c2⟩ := PySem.W.ksp_first hc
  refine own_right I.kIn J (fun s' k => lk.keeps k) hc hm hf (fun h K' => PySem.W.fills_K K' c1 c2 hs) (B.fill T hT) (hsub T hT) (fun z R s' k hR => ?_) fun t => ?_
  · obtain ⟨i, hi⟩ := num z
    obtain ⟨_, _, _, ho, _⟩ := I.hok b _ hb'
    exact B.off (k _ _ ho) rfl hi (hR s'.toks)
  · exact back_of (run_fn F hr hb .nil hx (I.tok t) (.cons (show L2.RelV (V.ref b) (Value.ref b) from rfl) (.cons rx .nil)) q)
end
end Own

/-! own layer, of no law: OWN6: == and abs of an own class. -/
namespace Own
open PySem PySem.Spec PyProof.Rows L2 LamX NdefX
section
variable {X : Cx} {pins : List (Addr × Obj)} {σ : L2.St} {H : Hp} {s : Shared}
variable {CX : CXT} {n : Nat} {C f : Addr} {fd : FuncData} {ps : List Str} {sp : Sp} {E : XK}
/-- own == anything -/
theorem op_ownEq (F : FnOk X.prog X.w X.K X.mg X.base CX n f fd ps sp) (hr : Room n X.A) (hs : PySem.W.findIn X.K (.ref C) "__eq__" = some (some (.ref f))) (hf : PySem.W.isFn X.K (.ref f) = true) (hsub : ∀ T ∈ tys, PySem.W.subIn X.K (.type T) (.ref C) = some false) (hb : Binds X.K fd ps []) (hx : Passes CX X E) :
    OpR X (compareOp .Eq) (fun x y H Q => ∃ a dx fs, x = V.ref a ∧ H a = some (.ins C dx fs) ∧ ((∃ b dy gs, y = V.ref b ∧ H b = some (.ins C dy gs)) ∨ Thing H y) ∧ sp [.ref a, y] H Q E) := by
  intro pins s σ H x y v u Q I rx ry h
  obtain ⟨a, dx, fs, rfl, ha, ty, q⟩ := h
  cases rx
  obtain ⟨mA, J, _⟩ := ins_get I.hok ha
  obtain ⟨od, J, _⟩ := J.look
  obtain ⟨m, hF⟩ := I.fr
  have un : X.A.units < cLine := by
    have := hr.units
    omega
  show wpAny (model X.prog X.w) X.A (richCompare .Eq (.ref a) u) (EP X pins σ Q) X.xe s
  have call := back_of (run_fn F hr hb .nil hx I (.cons (show L2.RelV (V.ref a) (Value.ref a) from rfl) (.cons ry .nil)) q)
  rcases ty with ⟨b, dy, gs, rfl, hb'⟩ | ty
  · cases ry
    obtain ⟨mB, J', _⟩ := ins_get I.hok hb'
    obtain ⟨od', J', _⟩ := J'.look
    exact PySem.W.cmp_K (op := .Eq) (tb := .ref C) un hF I.ok.mod.kin J J'.type (by simp [PySem.W.notFirst]) hs hf call
  · obtain ⟨T, hT, lk, _⟩ := thing_ty I ty ry
    exact PySem.W.cmp_K (op := .Eq) (tb := .type T) un hF I.ok.mod.kin J lk (by unfold PySem.W.notFirst; rw [hsub T hT]; simp) hs hf call
/-- abs(own) -/
theorem call_absOwn (F : FnOk X.prog X.w X.K X.mg X.base CX n f fd ps sp) (hr : Room (n + 1) X.A) (hs : PySem.W.findIn X.K (.ref C) "__abs__" = some (some (.ref f))) (hf : PySem.W.isFn X.K (.ref f) = true) (hb : Binds X.K fd ps []) (hx : Passes CX X E) :
    CallR X (.builtin "abs") (fun xs H Q => ∃ a dx fs, xs = [V.ref a] ∧ H a = some (.ins C dx fs) ∧ sp [.ref a] H Q E) := by
  intro pins s σ H xs us Q I rs h
  obtain ⟨a, dx, fs, rfl, ha, q⟩ := h
  obtain ⟨u, rfl, rx⟩ := vals1 rs
  cases rx
  obtain ⟨mA, J, _⟩ := ins_get I.hok ha
  obtain ⟨od, J, _⟩ := J.look
  have A1 : Room n X.A.in1 := hr.in1
  refine PySem.Calls.call_function_entry kind_abs plain_abs entry_abs (args_abs _) ?_
  unfold Builtin.«abs»
  refine wpAny_bind (m := oneArg "abs" _) (wpAny_pure ?_)
  refine wpAny_bind (m := callSpecial? (.ref a) (Str.ofString "__abs__")) (PySem.W.special_fn I.kIn J hs (beq_iff_eq.mp hf) ?_)
  have e0 : Env0 X.prog X.w X.K X.mg X.base X.A.in1 X.stack s H := by
    have e := I.env0
    exact ⟨e.frames, e.mod, e.bs, e.bsz, e.funs, e.frf, e.hok, e.bare⟩
  have r1 : Vals [V.ref a] [Value.ref a] := .cons (show L2.RelV (V.ref a) (Value.ref a) from rfl) .nil
  have hl := F.len _ _ _ _ q
  refine wpAny_call (codeAny_mono (F.run X.A.in1 X.stack s H ⟨[.ref a], []⟩ [.ref a] [.ref a] Q E A1 e0 (by
    have z := hb s [.ref a] I.kIn (by simpa using hl)
    simpa using z) r1 q) fun r s' hq => ?_)
  cases r with
  | error e => exact hx pins σ H s e s' I hq
  | ok fl =>
    cases fl with
    | ret w => exact wpAny_pure ⟨_, rfl, I.after hq⟩
    | next => exact False.elim hq
    | brk => exact False.elim hq
    | cont => exact False.elim hq
end
end Own

/-! own layer, of no law: OWN7: != of an own class that has == alone. -/
namespace Own
open PySem PySem.Spec PySem.Calls PyProof.Rows
section
variable {prog : Program} {w : World} {A : Around} {E : Value → Shared → Prop} {s : Shared} {K : PySem.W.Frag} {x C f : Addr} {ox : Obj} {od : Option Obj}
open PySem.W in
theorem ne_body {b : Value} {Q : Fin → Shared → Prop} (un : A.units < cLine) (KX : K.In s.heap) (J : InstAt s.heap x ox C od) (eq : findIn K (.ref C) "__eq__" = some (some (.ref f))) (fn : isFn K (.ref f) = true)
    (go : wpAny (model prog w) A (call (.ref f) [.ref x, b]) (fun v s' => ∃ c, v = .bool c ∧ Q (.done (.ret (.bool (!c)))) s') E s) : wpAny (model prog w) A (Builtin.«object.__ne__» ⟨[.ref x, b], []⟩) Q E s := by
  unfold Builtin.«object.__ne__»
  refine wpAny_bind (m := slotArgs "__ne__" 1 _) (wpAny_pure ?_)
  dsimp only
  refine wpAny_bind (wpAny_cRoomFor un ?_)
  refine wpAny_bind (m := callSpecialIfBound? (.ref x) (Str.ofString "__eq__") [b]) (ifBound_K KX J eq fn (wpAny_mono go (fun v s' z => ?_) fun _ _ e => e))
  obtain ⟨c, rfl, q⟩ := z
  exact wpAny_bind (wpAny_truthy_bool (wpAny_pure q))
theorem ne_args (a b : Value) : argsOk "object.__ne__" ⟨[a, b], []⟩ := F.cmpArgs_ne a b
theorem ne_bind (self : Value) : bindSpecial (.builtin "object.__ne__") self = pure (.builtin "object.__ne__", [self]) :=
  (Slot.of (T := "object") (name := "__ne__") (owner := "object") (n := "__ne__") (by rw [typeLookup_type, builtinLookup_eq_fast]; kernel_rfl) (by decide +kernel) (by decide +kernel) (by decide +kernel) (.inl (by decide +kernel)) (by rw [isSubtype_type]; kernel_rfl)).bind self
open PySem.W in
theorem ne_try {b : Value} {Q : Option Value → Shared → Prop} (un : A.units + 1 < cLine) (KX : K.In s.heap) (J : InstAt s.heap x ox C od) (ne : findIn K (.ref C) "__ne__" = some (some (.builtin "object.__ne__"))) (obj : subIn K (.ref C) (.type "object") = some true) (eq : findIn K (.ref C) "__eq__" = some (some (.ref f))) (fn : isFn K (.ref f) = true)
    (go : wpAny (model prog w) A.in1 (call (.ref f) [.ref x, b]) (fun v s' => ∃ c, v = .bool c ∧ Q (some (.bool (!c))) s') E s) : wpAny (model prog w) A (tryCompare (.ref x) "__ne__" b) Q E s := by
  have isO : Looks (model prog w) s.heap (isInstance (.ref x) (.type "object")) true := J.type.andThen (looks_subIn KX obj)
  have run : wpAny (model prog w) A (call (.builtin "object.__ne__") [.ref x, b]) (fun v s' => ∃ c : Bool, v = .bool c ∧ Q (some (.bool c)) s') E s := by
    refine wpAny_call (codeAny_call_builtin (by decide +kernel) F.cmpEntry_ne (check_slot F.cmpKind_ne F.cmpSplit_ne isO (ne_args _ _) (ne_body (A := A.in1) (by exact un) KX J eq fn (wpAny_mono go (fun v s' z => ?_) fun _ _ e => e))))
    obtain ⟨c, rfl, q⟩ := z
    exact ⟨c, rfl, ⟨!c, rfl, q⟩⟩
  have fin : wpAny (model prog w) A (call (.builtin "object.__ne__") ([.ref x] ++ [b]) >>= fun v => pure (some v)) (fun r s' => ∃ c : Bool, r = some (.bool c) ∧ Q (some (.bool c)) s') E s := wpAny_bind (wpAny_mono run (fun v s' z => by
    obtain ⟨c, rfl, q⟩ := z
    exact wpAny_pure ⟨c, rfl, q⟩) fun _ _ e => e)
  have whole : wpAny (model prog w) A (callSpecialIfBound? (.ref x) "__ne__" [b]) (fun r s' => ∃ c : Bool, r = some (.bool c) ∧ Q (some (.bool c)) s') E s := by
    simp only [callSpecialIfBound?, bindSpecialIfBound?]
    refine wpAny_holding (wpAny_bind (wpAny_bind (wpAny_bind (J.type.here ((looks_findIn KX ne).here ?_)))))
    refine wpAny_bind (wpAny_askSetting (wpAny_ite ?_))
    split
    · rw [ne_bind]
      exact wpAny_bind (wpAny_pure (wpAny_pure fin))
    · rw [ne_bind]
      exact wpAny_tryCatch (wpAny_bind (wpAny_pure (wpAny_pure fin)))
  unfold tryCompare
  refine wpAny_bind (wpAny_mono whole (fun r s' z => ?_) fun _ _ e => e)
  obtain ⟨c, rfl, q⟩ := z
  exact wpAny_pure q
open PySem.W in
/-- own != b -/
theorem own_ne {b tb : Value} {Q : Value → Shared → Prop} (un : A.units + 1 < cLine) (KX : K.In s.heap) (J : InstAt s.heap x ox C od) (lk : Looks (model prog w) s.heap (typeOf b) tb) (nf : notFirst K C tb = true) (ne : findIn K (.ref C) "__ne__" = some (some (.builtin "object.__ne__"))) (obj : subIn K (.ref C) (.type "object") = some true)
    (eq : findIn K (.ref C) "__eq__" = some (some (.ref f))) (fn : isFn K (.ref f) = true) (go : wpAny (model prog w) A.in1 (call (.ref f) [.ref x, b]) (fun v s' => ∃ c, v = .bool c ∧ Q (.bool (!c)) s') E s) : wpAny (model prog w) A (richCompare .NotEq (.ref x) b) Q E s := by
  have one : wpAny (model prog w) A (tryCompare (.ref x) "__ne__" b) (fun r s' => ∃ v, r = some v ∧ Q v s') E s := ne_try un KX J ne obj eq fn (wpAny_mono go (fun v s' z => by
    obtain ⟨c, rfl, q⟩ := z
    exact ⟨c, rfl, _, rfl, q⟩) fun _ _ e => e)
  unfold richCompare
  simp only [oneThing_ref]
  refine wpAny_holding (wpAny_bind (wpAny_cRoomFor (Nat.lt_of_succ_lt un) ?_))
  refine wpAny_bind (J.type.here (wpAny_bind (lk.here ?_)))
  split
  · rename_i hd
    have sb : subIn K tb (.ref C) = some false := by
      unfold notFirst at nf
      rcases Bool.or_eq_true_iff.mp nf with z | z
      · rw [beq_iff_eq.mp z] at hd
        simp at hd
      · exact beq_iff_eq.mp z
    refine wpAny_bind ((looks_subIn KX sb).here ?_)
    rw [if_neg Bool.false_ne_true]
    refine wpAny_bind (wpAny_mono one (fun r s' z => ?_) fun _ _ z => z)
    obtain ⟨v, rfl, hv⟩ := z
    exact wpAny_pure hv
  · refine wpAny_bind (wpAny_pure ?_)
    rw [if_neg Bool.false_ne_true]
    refine wpAny_bind (wpAny_mono one (fun r s' z => ?_) fun _ _ z => z)
    obtain ⟨v, rfl, hv⟩ := z
    exact wpAny_pure hv
end
end Own

/-! own layer, of no law: OWN8: the rule of !=. -/
namespace Own
open PySem PySem.Spec PyProof.Rows L2 LamX NdefX
section
variable {X : Cx} {pins : List (Addr × Obj)} {σ : L2.St} {H : Hp} {s : Shared}
variable {CX : CXT} {n : Nat} {C f : Addr} {fd : FuncData} {ps : List Str} {sp : Sp} {E : XK}
/-- a def's run one call deeper -/
theorem run_in1 {us : List Value} {vs : List V} {Q : VK} {R : Value → Shared → Prop} (F : FnOk X.prog X.w X.K X.mg X.base CX n f fd ps sp) (hr : Room (n + 1) X.A) (hb : Binds X.K fd ps []) (hx : Passes CX X E) (I : Inv X pins σ H s) (r : Vals vs us) (q : sp vs H Q E)
    (k : ∀ v s', EP X pins σ Q v s' → R v s') : wpAny (model X.prog X.w) X.A.in1 (call (.ref f) us) R X.xe s := by
  have e0 : Env0 X.prog X.w X.K X.mg X.base X.A.in1 X.stack s H := by
    have e := I.env0
    exact ⟨e.frames, e.mod, e.bs, e.bsz, e.funs, e.frf, e.hok, e.bare⟩
  have hl := F.len _ _ _ _ q
  have bt : BindsTo s fd ⟨us, []⟩ (ps.zip us) := by
    have z := hb s us I.kIn (by rw [List.append_nil, ← r.length]; exact hl)
    rw [List.append_nil] at z
    exact z
  refine wpAny_call (codeAny_mono (F.run X.A.in1 X.stack s H ⟨us, []⟩ us vs Q E hr.in1 e0 bt r q) fun r s' hq => ?_)
  cases r with
  | error e => exact hx pins σ H s e s' I hq
  | ok fl =>
    cases fl with
    | ret w => exact k _ _ (I.after hq)
    | next => exact False.elim hq
    | brk => exact False.elim hq
    | cont => exact False.elim hq
/-- own != anything -/
theorem op_ownNe (F : FnOk X.prog X.w X.K X.mg X.base CX n f fd ps sp) (hr : Room (n + 1) X.A) (ne : PySem.W.findIn X.K (.ref C) "__ne__" = some (some (.builtin "object.__ne__"))) (obj : PySem.W.subIn X.K (.ref C) (.type "object") = some true) (hs : PySem.W.findIn X.K (.ref C) "__eq__" = some (some (.ref f))) (hf : PySem.W.isFn X.K (.ref f) = true)
    (hsub : ∀ T ∈ tys, PySem.W.subIn X.K (.type T) (.ref C) = some false) (hb : Binds X.K fd ps []) (hx : Passes CX X E) :
    OpR X (compareOp .NotEq) (fun x y H Q => ∃ a dx fs, x = V.ref a ∧ H a = some (.ins C dx fs) ∧ ((∃ b dy gs, y = V.ref b ∧ H b = some (.ins C dy gs)) ∨ Thing H y) ∧ sp [.ref a, y] H (fun v H' => ∃ c, v = .bl c ∧ Q (.bl (!c)) H') E) := by
  intro pins s σ H x y v u Q I rx ry h
  obtain ⟨a, dx, fs, rfl, ha, ty, q⟩ := h
  cases rx
  obtain ⟨mA, J, _⟩ := ins_get I.hok ha
  obtain ⟨od, J, _⟩ := J.look
  have un : X.A.units + 1 < cLine := by
    have := hr.un
    omega
  show wpAny (model X.prog X.w) X.A (richCompare .NotEq (.ref a) u) (EP X pins σ Q) X.xe s
  have go : wpAny (model X.prog X.w) X.A.in1 (call (.ref f) [.ref a, u]) (fun v s' => ∃ c, v = .bool c ∧ EP X pins σ Q (.bool (!c)) s') X.xe s := run_in1 F hr hb hx I (.cons (show L2.RelV (V.ref a) (Value.ref a) from rfl) (.cons ry .nil)) q fun v s' z => by
    obtain ⟨z, H', I', rz, c, rfl, q'⟩ := z
    obtain rfl : v = .bool c := rz
    exact ⟨c, rfl, .bl (!c), H', I', rfl, q'⟩
  rcases ty with ⟨b, dy, gs, rfl, hb'⟩ | ty
  · cases ry
    obtain ⟨mB, J', _⟩ := ins_get I.hok hb'
    obtain ⟨od', J', _⟩ := J'.look
    exact own_ne un I.kIn J J'.type (by simp [PySem.W.notFirst]) ne obj hs hf go
  · obtain ⟨T, hT, lk, _⟩ := thing_ty I ty ry
    exact own_ne un I.kIn J lk (by unfold PySem.W.notFirst; rw [hsub T hT]; simp) ne obj hs hf go
end
end Own

/-! k09: the program's checks, powers of ten. -/
namespace K09
open PySem PySem.Spec PyProof.Rows L2 LamX NdefX Own
abbrev pInt : Stmt := topS 7
abbrev pWhole : Stmt := topS 8
abbrev pNInt : Stmt := topS 9
abbrev pNWhole : Stmt := topS 10
abbrev pTenTo : Stmt := topS 12
section
variable {P : Program} {w : World} {K : PySem.W.Frag} {mg : Str → Option Value} {base : Heap} {C aT : Addr}
theorem scpInt : FnScope ["value"] ["value"] (defScope pInt) := ⟨rfl, rfl, rfl, by decide +kernel, rfl, by decide +kernel, by decide +kernel⟩
def spIsInt : Sp := fun vs H Q _ => ∃ x : V, vs = [x] ∧ Thing H x ∧ Q (.bl (Own.isInt x)) H
theorem ok_isInt (A : At K mg "is_an_integer" pInt ["value"]) (T : Blt mg) : DefOk P w K mg base CX0 "is_an_integer" 1 ["value"] spIsInt := by
  refine A.ok fun f fd F => F.ok scpInt (fun vs H Q E h => ?_) (fun cdv A outer s H vs Q E hr h => ?_)
  · obtain ⟨x, rfl, _⟩ := h
    rfl
  · obtain ⟨x, rfl, th, q⟩ := h
    refine ⟨_, pss_one (ps_ret (pe_and (pe_callB call_isi (by rfl) T.isi (by decide +kernel) (pa_cons (pv 0) (pa_cons (pe_bltn (v := .ty "int") (by rfl) T.int (by decide +kernel) rfl) pa_nil)))
      (pe_one (pe_not (pe_callB call_isi (by rfl) T.isi (by decide +kernel) (pa_cons (pv 0) (pa_cons (pe_bltn (v := .ty "bool") (by rfl) T.bool (by decide +kernel) rfl) pa_nil))))))), ?_⟩
    obtain ⟨t, ht, h1, h2⟩ := th.isi (K := K)
    have hb : isBl x = true → Own.isInt x = false := by cases x <;> simp [Own.isInt, isBl]
    refine ⟨_, rfl, x, .ty "int", t, _, _, rfl, .ty _, ht, h1, _, rfl, ite2 (fun e => ?_) (fun e => ?_)⟩
    · refine ⟨_, rfl, x, .ty "bool", t, _, _, rfl, .ty _, ht, h2, _, rfl, ?_⟩
      have z : (!isBl x) = Own.isInt x := by cases e1 : Own.isInt x <;> cases e2 : isBl x <;> simp_all
      rw [z]
      exact q
    · have z : false = Own.isInt x := by cases e1 : Own.isInt x <;> cases e2 : isBl x <;> simp_all
      rw [z]
      exact q
/-- an integer from 0 on -/
def isWh : V → Bool
  | .int i => decide (0 ≤ i)
  | _ => false
theorem scpWhole : FnScope ["value"] ["value"] (defScope pWhole) := ⟨rfl, rfl, rfl, by decide +kernel, rfl, by decide +kernel, by decide +kernel⟩
def spIsWh : Sp := fun vs H Q _ => ∃ x : V, vs = [x] ∧ Thing H x ∧ Q (.bl (isWh x)) H
theorem ok_isWh (A : At K mg "is_whole_number" pWhole ["value"]) (D : DefOk P w K mg base CX0 "is_an_integer" 1 ["value"] spIsInt) : DefOk P w K mg base CX0 "is_whole_number" 2 ["value"] spIsWh := by
  refine A.ok fun f fd F => F.ok scpWhole (fun vs H Q E h => ?_) (fun cdv A outer s H vs Q E hr h => ?_)
  · obtain ⟨x, rfl, _⟩ := h
    rfl
  · obtain ⟨x, rfl, th, q⟩ := h
    refine ⟨_, pss_one (ps_ret (pe_and (pe_def D hr (by decide) (by rfl) pass0 (pa_cons (pv 0) pa_nil)) (pe_one (pe_cmpR op_ge (pv 0) pe_int (nomark _))))), ?_⟩
    refine ⟨_, rfl, x, rfl, th, _, rfl, ite2 (fun e => ?_) (fun e => ?_)⟩
    · cases x <;> first | (exact ⟨_, rfl, _, _, rfl, rfl, q⟩) | (simp [Own.isInt] at e)
    · have z : isWh x = false := by cases x <;> first | rfl | (simp [Own.isInt] at e)
      rw [z] at q
      exact q
theorem scpNInt : FnScope ["value"] ["value"] (defScope pNInt) := ⟨rfl, rfl, rfl, by decide +kernel, rfl, by decide +kernel, by decide +kernel⟩
def spNInt (C : Addr) : Sp := fun vs H Q E => ∃ x : V, vs = [x] ∧ Thing H x ∧ (Own.isInt x = true → Q .non H) ∧ (Own.isInt x = false → Bad C "value" x H E)
theorem ok_nInt (A : At K mg "need_integer" pNInt ["value"]) (T : ErrC P w K mg base "BadValue" "value" 1 C (spErr C "value")) (D : DefOk P w K mg base CX0 "is_an_integer" 1 ["value"] spIsInt) : DefOk P w K mg base (L2.CX P w) "need_integer" 3 ["value"] (spNInt C) := by
  refine A.ok fun f fd F => F.okX scpNInt (fun vs H Q E h => ?_) (fun cdv A outer s H vs Q E hr h => ?_)
  · obtain ⟨x, rfl, _⟩ := h
    rfl
  · obtain ⟨x, rfl, th, q1, q2⟩ := h
    refine ⟨_, pss_one (ps_if (pt_not (pt_val (pe_def D hr (by decide) (by rfl) pass0 (pa_cons (pv 0) pa_nil)))) (pss_one (ps_raise rfl (takes_of rfl rfl rfl rfl) (pmk_err T hr (by decide) (by rfl) (pv 0)))) pss_nil), ?_⟩
    refine ⟨_, rfl, x, rfl, th, _, rfl, ite2 (fun e => ?_) (fun e => ?_)⟩
    · exact ⟨_, rfl, bad_mk (q2 (by simpa using e))⟩
    · exact q1 (by simpa using e)
theorem scpNWh : FnScope ["value"] ["value"] (defScope pNWhole) := ⟨rfl, rfl, rfl, by decide +kernel, rfl, by decide +kernel, by decide +kernel⟩
def spNWh (C : Addr) : Sp := fun vs H Q E => ∃ x : V, vs = [x] ∧ Thing H x ∧ (isWh x = true → Q .non H) ∧ (isWh x = false → Bad C "value" x H E)
theorem ok_nWh (A : At K mg "need_whole_number" pNWhole ["value"]) (T : ErrC P w K mg base "BadValue" "value" 1 C (spErr C "value")) (D : DefOk P w K mg base CX0 "is_whole_number" 2 ["value"] spIsWh) : DefOk P w K mg base (L2.CX P w) "need_whole_number" 3 ["value"] (spNWh C) := by
  refine A.ok fun f fd F => F.okX scpNWh (fun vs H Q E h => ?_) (fun cdv A outer s H vs Q E hr h => ?_)
  · obtain ⟨x, rfl, _⟩ := h
    rfl
  · obtain ⟨x, rfl, th, q1, q2⟩ := h
    refine ⟨_, pss_one (ps_if (pt_not (pt_val (pe_def D hr (by decide) (by rfl) pass0 (pa_cons (pv 0) pa_nil)))) (pss_one (ps_raise rfl (takes_of rfl rfl rfl rfl) (pmk_err T hr (by decide) (by rfl) (pv 0)))) pss_nil), ?_⟩
    refine ⟨_, rfl, x, rfl, th, _, rfl, ite2 (fun e => ?_) (fun e => ?_)⟩
    · exact ⟨_, rfl, bad_mk (q2 (by simpa using e))⟩
    · exact q1 (by simpa using e)
/-! ### ten_to: a table below sixteen, then halves -/
def tensL : List Int := (List.range 16).map fun i => (10 : Int) ^ i
theorem scTenTo : FnScope ["places", "half"] ["places"] (defScope pTenTo) := ⟨rfl, rfl, rfl, by decide +kernel, rfl, by decide +kernel, by decide +kernel⟩
def spTenTo (k : Nat) : Sp := fun vs H Q _ => ∃ n : Nat, vs = [.int n] ∧ n < 16 * 2 ^ k ∧ Q (.int ((10 : Int) ^ n)) H
theorem bot_of {x : Str} {st : Stmt} {ps : List Str} (A : At K mg x st ps) : DefOk P w K mg base CX0 x 0 ps (fun _ _ _ _ => False) :=
  A.ok fun f fd F => ⟨fun _ _ _ _ h => h.elim, fun _ _ _ _ _ _ _ _ _ _ _ _ _ h => h.elim⟩
theorem tens_at {n : Nat} (h : n < 16) : atI (tensL.map V.int) (n : Int) = some (.int ((10 : Int) ^ n)) := by
  refine atI_nat ?_
  rw [List.getElem?_map]
  unfold tensL
  rw [List.getElem?_map, List.getElem?_range h]
  rfl
theorem tens_len : ((tensL.map V.int).length : Int) = 16 := by decide +kernel
theorem tenTo_step {k N : Nat} {spD : Sp} (A : At K mg "ten_to" pTenTo ["places"]) (T : Blt mg) (gT : mg "TENS" = some (.ref aT)) (tens : ∀ H : Hp, SqT K H aT (tensL.map V.int)) (hN : N ≤ 4096) (D : DefOk P w K mg base CX0 "ten_to" k ["places"] spD)
    (h : ∀ (n : Nat) (H : Hp) (Q : VK) (E : XK), 16 ≤ n → n < N → Q (.int ((10 : Int) ^ (n / 2))) H → spD [.int ((n / 2 : Nat) : Int)] H Q E) : DefOk P w K mg base CX0 "ten_to" (k + 1) ["places"] (fun vs H Q _ => ∃ n : Nat, vs = [.int n] ∧ n < N ∧ Q (.int ((10 : Int) ^ n)) H) := by
  refine A.ok fun f fd F => F.ok scTenTo (fun vs H Q E h => ?_) (fun cdv A outer s H vs Q E hr hq => ?_)
  · obtain ⟨n, rfl, _⟩ := h
    rfl
  · obtain ⟨n, rfl, hn, q⟩ := hq
    have nd := scTenTo.nd
    refine ⟨_, pss_cons (ps_if (pt_cmpR op_lt (pv 0) (pe_callB call_len_seq (by rfl) T.len PySem.boot_len (pa_cons (pe_glob (v := .ref aT) (by rfl) gT rfl) pa_nil)) (nomark _)) (pss_one (ps_ret (pe_ix ix_tup (pe_glob (v := .ref aT) (by rfl) gT rfl) (pv 0) (fun _ _ => rfl)))) pss_nil)
      (pss_cons (ps_set (i := 1) nd rfl (.inl rfl) (pe_def (E := E0) D hr (Nat.le_refl _) (by rfl) pass0 (pa_cons (pe_op op_fdiv (pv 0) pe_int) pa_nil)))
      (pss_cons (ps_if (pt_cmpR op_eq (pe_op op_mod (pv 0) pe_int) pe_int (nomark _)) (pss_one (ps_ret (pe_op op_mulW (pe_op op_mulW (pv 1) (pv 1)) pe_int))) pss_nil)
      (pss_one (ps_ret (pe_op op_mulW (pv 1) (pv 1)))))), ?_⟩
    refine ⟨_, rfl, aT, _, rfl, .inr (tens H), _, _, rfl, rfl, _, rfl, ite2 (fun e => ?_) (fun e => ?_)⟩
    · have hl : n < 16 := by
        have z := of_decide_eq_true e
        rw [tens_len] at z
        omega
      exact ⟨_, rfl, aT, _, _, _, rfl, rfl, tens H, tens_at hl, q⟩
    · have hg : 16 ≤ n := by
        have z : ¬ ((n : Int) < ((tensL.map V.int).length : Int)) := fun z => e (decide_eq_true z)
        rw [tens_len] at z
        omega
      refine ⟨_, rfl, _, _, rfl, rfl, ⟨by decide, by decide⟩, ?_⟩
      have e2 : (n : Int) / 2 = ((n / 2 : Nat) : Int) := by omega
      dsimp only
      rw [e2]
      refine h n H _ _ hg hn ?_
      have b := ten_lt (n / 2)
      have b2 : ((10 : Int) ^ (n / 2) * (10 : Int) ^ (n / 2)).natAbs < 2 ^ (4 * (n / 2) + 1 + (4 * (n / 2) + 1)) := wide_lt b b
      refine ⟨_, rfl, _, _, rfl, rfl, (show (0 : Int) < 2 by decide), rfl, _, rfl, ite2 (fun e => ?_) (fun e => ?_)⟩
      · have ho : (n : Int) % 2 = 1 := by simpa using e
        refine ⟨_, rfl, _, rfl, _, _, rfl, rfl, wide_mul b b (by omega) (by omega) (by omega), _, _, rfl, rfl, wide_mul b2 (show ((10 : Int)).natAbs < 2 ^ 4 by decide) (by omega) (by decide) (by omega), ?_⟩
        have ex : (10 : Int) ^ (n / 2) * (10 : Int) ^ (n / 2) * 10 = (10 : Int) ^ n := by
          rw [← Int.pow_add, ← Int.pow_succ]
          congr 1
          omega
        show Q (.int ((10 : Int) ^ (n / 2) * (10 : Int) ^ (n / 2) * 10)) H
        rw [ex]
        exact q
      · have ho : (n : Int) % 2 ≠ 1 := by simpa using e
        refine ⟨_, rfl, _, rfl, _, _, rfl, rfl, wide_mul b b (by omega) (by omega) (by omega), ?_⟩
        have ex : (10 : Int) ^ (n / 2) * (10 : Int) ^ (n / 2) = (10 : Int) ^ n := by
          rw [← Int.pow_add]
          congr 1
          omega
        show Q (.int ((10 : Int) ^ (n / 2) * (10 : Int) ^ (n / 2))) H
        rw [ex]
        exact q
theorem ok_tenTo (A : At K mg "ten_to" pTenTo ["places"]) (T : Blt mg) (gT : mg "TENS" = some (.ref aT)) (tens : ∀ H : Hp, SqT K H aT (tensL.map V.int)) : ∀ k : Nat, k ≤ 8 → DefOk P w K mg base CX0 "ten_to" (k + 1) ["places"] (spTenTo k)
  | 0, _ => tenTo_step A T gT tens (by decide) (bot_of A) fun n H Q E h1 h2 _ => absurd h1 (by omega)
  | k + 1, hk => by
    have le : 16 * 2 ^ (k + 1) ≤ 4096 := by
      have := Nat.pow_le_pow_right (show 0 < 2 by decide) hk
      omega
    refine tenTo_step A T gT tens le (ok_tenTo A T gT tens k (by omega)) fun n H Q E h1 h2 q => ⟨n / 2, rfl, ?_, q⟩
    rw [Nat.pow_succ] at h2
    omega
end
end K09

/-! k09: without_zeros. -/
namespace K09
open PySem PySem.Spec PyProof.Rows L2 LamX NdefX Own
abbrev pWz : Stmt := topS 16
/-- u' at the scale s' is u at s, at its own scale -/
structure IsLow (u : Int) (s : Nat) (u' : Int) (s' : Nat) : Prop where
  le : s' ≤ s
  eq : u = u' * (10 : Int) ^ (s - s')
  own : s' = 0 ∨ u' % 10 ≠ 0
theorem low_step {u u' : Int} {s s' st : Nat} (h1 : s' ≤ s) (h2 : st ≤ s') (e : u = u' * (10 : Int) ^ (s - s')) (d : (10 : Int) ^ st ∣ u') : u = u' / (10 : Int) ^ st * (10 : Int) ^ (s - (s' - st)) := by
  obtain ⟨c, rfl⟩ := d
  have p : (10 : Int) ^ st ≠ 0 := Int.ne_of_gt (ten_pos st)
  rw [Int.mul_ediv_cancel_left _ p, e]
  have z : s - (s' - st) = st + (s - s') := by omega
  rw [z, Int.pow_add, Int.mul_comm ((10 : Int) ^ st) c, Int.mul_assoc]
theorem dvd_step {u' : Int} {st : Nat} (d : (10 : Int) ^ st ∣ u') (n : ¬ (10 : Int) ^ (2 * st) ∣ u') : ¬ (10 : Int) ^ st ∣ u' / (10 : Int) ^ st := by
  obtain ⟨c, rfl⟩ := d
  have p : (10 : Int) ^ st ≠ 0 := Int.ne_of_gt (ten_pos st)
  rw [Int.mul_ediv_cancel_left _ p]
  rintro ⟨k, rfl⟩
  refine n ⟨k, ?_⟩
  have z : 2 * st = st + st := by omega
  rw [z, Int.pow_add, Int.mul_assoc]
/-- what the halving steps leave -/
def Half (u' : Int) (s' st : Nat) : Prop := (st = 0 ∧ (s' = 0 ∨ u' % 10 ≠ 0)) ∨ ((∃ j, st = 2 ^ j) ∧ ¬ (2 * st ≤ s' ∧ (10 : Int) ^ (2 * st) ∣ u'))
theorem half_next {u' : Int} {s' st : Nat} (hp : ∃ j, st = 2 ^ j) (n : ¬ (st ≤ s' ∧ (10 : Int) ^ st ∣ u')) : Half u' s' (st / 2) := by
  obtain ⟨j, rfl⟩ := hp
  cases j with
  | zero =>
    refine .inl ⟨rfl, ?_⟩
    by_cases h : s' = 0
    · exact .inl h
    · refine .inr fun z => n ⟨by simp; omega, ?_⟩
      simpa using Int.dvd_of_emod_eq_zero z
  | succ j =>
    have e : 2 ^ (j + 1) / 2 = 2 ^ j := by rw [Nat.pow_succ]; omega
    refine .inr ⟨⟨j, e⟩, ?_⟩
    rw [e]
    have e2 : 2 * 2 ^ j = 2 ^ (j + 1) := by rw [Nat.pow_succ]; omega
    rw [e2]
    exact n
section
variable {P : Program} {w : World} {K : PySem.W.Frag} {mg : Str → Option Value} {base : Heap}
theorem scWz : FnScope ["units", "scale", "step", "block"] ["units", "scale"] (defScope pWz) := ⟨rfl, rfl, rfl, by decide +kernel, rfl, by decide +kernel, by decide +kernel⟩
def spWz : Sp := fun vs H Q _ => ∃ (u : Int) (s : Nat), vs = [.int u, .int s] ∧ s < 2000 ∧ ∀ (u' : Int) (s' : Nat) (p : Addr), IsLow u s u' s' → H p = none → Q (.ref p) (upd H p (.tup [.int u', .int s']))
theorem ok_wz (A : At K mg "without_zeros" pWz ["units", "scale"]) (D : DefOk P w K mg base CX0 "ten_to" 9 ["places"] (spTenTo 8)) : DefOk P w K mg base CX0 "without_zeros" 10 ["units", "scale"] spWz := by
  refine A.ok fun f fd F => F.ok scWz (fun vs H Q E h => ?_) (fun cdv A outer s0 H vs Q E hr h => ?_)
  · obtain ⟨u, s, rfl, _⟩ := h
    rfl
  · obtain ⟨u, s, rfl, hs, q⟩ := h
    have nd := scWz.nd
    refine ⟨_, pss_cons (ps_if (PW.pt (pw_or (pt_cmpR op_eq (pv 1) pe_int (nomark _)) (pw_or1 (pt_cmpR op_ne (pe_op op_mod (pv 0) pe_int) pe_int (nomark _))))) (pss_one (ps_ret (pe_tup (pa_cons (pv 0) (pa_cons (pv 1) pa_nil))))) pss_nil)
      (pss_cons (ps_if (pt_cmpR op_eq (pv 0) pe_int (nomark _)) (pss_one (ps_ret (pe_tup (pa_cons pe_int (pa_cons pe_int pa_nil))))) pss_nil)
      (pss_cons (ps_set (i := 2) nd rfl (.inl rfl) pe_int)
      (pss_cons (ps_while PassesOwn.never (pt_cmpR op_le (pe_op op_mul (pv 2) pe_int) (pv 1) (nomark _)) (pss_one (ps_set (i := 2) nd rfl (.inl rfl) (pe_op op_mul (pv 2) pe_int))))
      (pss_cons (ps_while PassesOwn.never (pt_cmpR op_gt (pv 2) pe_int (nomark _)) (pss_cons (ps_set (i := 3) nd rfl (.inl rfl) (pe_def D hr (by decide) (by rfl) pass0 (pa_cons (pv 2) pa_nil)))
        (pss_cons (ps_if (PW.pt (pw_and (pt_cmpR op_le (pv 2) (pv 1) (nomark _)) (pw_and1 (pt_cmpR op_eq (pe_op op_mod (pv 0) (pv 3)) pe_int (nomark _)))))
          (pss_one (ps_par (i := 0) (j := 1) (by rfl) nd rfl rfl (by decide) rfl rfl (pa_cons (pe_op op_fdivW (pv 0) (pv 3)) (pa_cons (pe_op op_sub (pv 1) (pv 2)) pa_nil)) (by rfl))) pss_nil)
        (pss_one (ps_set (i := 2) nd rfl (.inl rfl) (pe_op op_fdiv (pv 2) pe_int))))))
      (pss_one (ps_ret (pe_tup (pa_cons (pv 0) (pa_cons (pv 1) pa_nil))))))))), ?_⟩
    refine ⟨_, rfl, rfl, _, rfl, ite2 (fun e => iteT ?_) (fun e => ?_)⟩
    · have h0 : s = 0 := by simpa using e
      subst h0
      exact ⟨_, rfl, _, rfl, by show 2 ≤ sizeLine; decide, fun p np => q u 0 p ⟨Nat.le_refl _, by simp, .inl rfl⟩ np⟩
    have hs0 : s ≠ 0 := by simpa using e
    refine ⟨_, rfl, _, _, rfl, rfl, (show (0 : Int) < 10 by decide), rfl, _, rfl, ite2 (fun e => ?_) (fun e => ?_)⟩
    · have h0 : u % 10 ≠ 0 := by simpa using e
      exact ⟨_, rfl, _, rfl, by show 2 ≤ sizeLine; decide, fun p np => q u s p ⟨Nat.le_refl _, by simp, .inr h0⟩ np⟩
    refine ⟨_, rfl, rfl, _, rfl, ite2 (fun e => ?_) (fun e => ?_)⟩
    · have h0 : u = 0 := by simpa using e
      exact ⟨by show 2 ≤ sizeLine; decide, fun p np => q 0 0 p ⟨Nat.zero_le _, by rw [h0]; simp, .inl rfl⟩ np⟩
    dsimp only [gName, List.set]
    refine ⟨fun m σ H' => H' = H ∧ ∃ j : Nat, σ = [some (.int u), some (.int s), some (.int ((2 ^ j : Nat) : Int)), none] ∧ 2 ^ j ≤ s ∧ m = s - 2 ^ j, ⟨_, rfl, 0, rfl, by simp; omega, rfl⟩, ?_⟩
    rintro m σ H1 ⟨rfl, j, rfl, hj, rfl⟩
    have jp : 0 < 2 ^ j := Nat.pow_pos (by decide)
    refine ⟨_, rfl, _, _, rfl, rfl, .inr ⟨by decide, by decide⟩, _, rfl, _, _, rfl, rfl, _, rfl, ite2 (fun e => ?_) (fun e => ?_)⟩
    · have hle : ((2 ^ j : Nat) : Int) * 2 ≤ (s : Int) := of_decide_eq_true e
      refine ⟨fun σ' H' => H' = H1 ∧ σ' = [some (.int u), some (.int s), some (.int ((2 ^ (j + 1) : Nat) : Int)), none], fun σ' H' z => ⟨s - 2 ^ (j + 1), ?_, z.1, j + 1, z.2, ?_, rfl⟩, ?_⟩
      · rw [Nat.pow_succ]
        omega
      · rw [Nat.pow_succ]
        omega
      · refine ⟨_, rfl, _, _, rfl, rfl, .inr ⟨by decide, by decide⟩, rfl, ?_⟩
        have e2 : ((2 ^ j : Nat) : Int) * 2 = ((2 ^ (j + 1) : Nat) : Int) := by
          rw [Nat.pow_succ]
          omega
        dsimp only [gName, List.set]
        rw [e2]
    have hgt : ¬ ((2 ^ j : Nat) : Int) * 2 ≤ (s : Int) := fun z => e (decide_eq_true z)
    refine ⟨fun m σ H' => H' = H1 ∧ ∃ (u' : Int) (s' st : Nat) (bl : Option V), σ = [some (.int u'), some (.int s'), some (.int st), bl] ∧ m = st ∧ st < 2000 ∧ s' ≤ s ∧ u = u' * (10 : Int) ^ (s - s') ∧ Half u' s' st, ⟨_, rfl, u, s, 2 ^ j, none, rfl, rfl, by omega, Nat.le_refl _, by simp, .inr ⟨⟨j, rfl⟩, fun z => by omega⟩⟩, ?_⟩
    rintro m σ H2 ⟨rfl, u', s', st, bl, rfl, hm, hst, hle, eu, hf⟩
    have hm := hm.symm
    subst hm
    refine ⟨_, rfl, _, _, rfl, rfl, _, rfl, ite2 (fun e => ?_) (fun e => ?_)⟩
    · have h0 : 0 < st := by
        have z : (0 : Int) < (st : Int) := of_decide_eq_true e
        omega
      obtain ⟨hp, hn⟩ : (∃ j, st = 2 ^ j) ∧ ¬ (2 * st ≤ s' ∧ (10 : Int) ^ (2 * st) ∣ u') := by
        rcases hf with ⟨z, _⟩ | z
        · omega
        · exact z
      refine ⟨fun σ' H' => H' = H2 ∧ ∃ (u2 : Int) (s2 : Nat) (bl : Option V), σ' = [some (.int u2), some (.int s2), some (.int ((st / 2 : Nat) : Int)), bl] ∧ s2 ≤ s ∧ u = u2 * (10 : Int) ^ (s - s2) ∧ Half u2 s2 (st / 2), fun σ' H' ⟨z1, u2, s2, bl, z2, z3, z4, z5⟩ => ⟨st / 2, by omega, z1, u2, s2, st / 2, bl, z2, rfl, by omega, z3, z4, z5⟩, ?_⟩
      have e2 : (st : Int) / 2 = ((st / 2 : Nat) : Int) := by omega
      have tp := ten_pos st
      refine ⟨_, rfl, st, rfl, by show st < 16 * 2 ^ 8; omega, ?_⟩
      refine ⟨_, rfl, _, rfl, _, _, rfl, rfl, _, rfl, ite2 (fun e => ?_) (fun e => ?_)⟩
      · have l1 : st ≤ s' := by
          have z : (st : Int) ≤ (s' : Int) := of_decide_eq_true e
          omega
        refine ⟨_, rfl, _, rfl, _, _, rfl, rfl, tp, rfl, _, rfl, ite2 (fun e => ?_) (fun e => ?_)⟩
        · have d1 : (10 : Int) ^ st ∣ u' := Int.dvd_of_emod_eq_zero (by simpa using e)
          refine ⟨_, rfl, _, rfl, _, _, rfl, rfl, wide_div tp (ten_lt st) (by omega) (by omega), _, rfl, _, rfl, _, _, rfl, rfl, _, _, rfl, ?_⟩
          refine ⟨_, rfl, _, _, rfl, rfl, ⟨by decide, by decide⟩, ?_⟩
          dsimp only [gName, List.set]
          rw [e2]
          have e3 : (s' : Int) - (st : Int) = ((s' - st : Nat) : Int) := by omega
          rw [e3]
          refine ⟨rfl, u' / (10 : Int) ^ st, s' - st, some (.int ((10 : Int) ^ st)), rfl, by omega, low_step hle l1 eu d1, half_next hp fun z => ?_⟩
          by_cases l2 : 2 * st ≤ s'
          · exact dvd_step d1 (fun d2 => hn ⟨l2, d2⟩) z.2
          · omega
        · refine ⟨_, rfl, _, _, rfl, rfl, ⟨by decide, by decide⟩, ?_⟩
          dsimp only [gName, List.set]
          rw [e2]
          have nd1 : ¬ (10 : Int) ^ st ∣ u' := fun z => e (decide_eq_true (by show V.int (u' % (10 : Int) ^ st) = V.int 0; rw [Int.emod_eq_zero_of_dvd z]))
          exact ⟨rfl, u', s', some (.int ((10 : Int) ^ st)), rfl, hle, eu, half_next hp fun z => nd1 z.2⟩
      · have l1 : ¬ st ≤ s' := fun z => e (decide_eq_true (by omega))
        refine ⟨_, rfl, _, _, rfl, rfl, ⟨by decide, by decide⟩, ?_⟩
        dsimp only [gName, List.set]
        rw [e2]
        exact ⟨rfl, u', s', some (.int ((10 : Int) ^ st)), rfl, hle, eu, half_next hp fun z => l1 z.1⟩
    · have h0 : st = 0 := by
        have z : ¬ (0 : Int) < (st : Int) := fun z => e (decide_eq_true z)
        omega
      have own : s' = 0 ∨ u' % 10 ≠ 0 := by
        rcases hf with ⟨_, z⟩ | ⟨⟨j, z⟩, _⟩
        · exact z
        · have := Nat.pow_pos (n := j) (show 0 < 2 by decide)
          omega
      exact ⟨_, rfl, _, rfl, by show 2 ≤ sizeLine; decide, fun p np => q u' s' p ⟨hle, eu, own⟩ np⟩
end
end K09

/-! own layer, of no law: OWN9: an attribute as one of several targets. -/
namespace Own
open PySem PySem.Spec PyProof.Rows L2 LamX NdefX
section
variable {X : Cx} {o : Expr} {ta : TE} {f : Str} {pos : Pos}
def gFld (K : PySem.W.Frag) (ta : TE) (f : Str) : TG := fun y σ H Q => ta σ H fun x H2 => ∃ a C dx fs, x = V.ref a ∧ H2 a = some (.ins C dx fs) ∧ Cls K C ∧ NoAttr K C f ∧ fs.length < 1000 ∧ Q σ (upd H2 a (.ins C dx (putF f y fs)))
theorem pg_fld (ha : PE X o ta) : PG X (.Attribute o f pos) (gFld X.K ta f) := by
  refine ⟨fun pins s σ H v u Q I r h => ?_⟩
  have e : assign (.Attribute o f pos) X.env u = (do
      let ov ← holding [u] (eval o X.env)
      standAt pos.atName
      holding [u, ov] (setAttr ov f u)
      PySem.release [u, ov] []) := rfl
  rw [e]
  refine wpAny_bind (wpAny_holding (thn (ha.run pins s σ H _ I h) fun ov s1 z => ?_))
  obtain ⟨x, H1, I1, rx, a, C, dx, fs, rfl, ea, c, n, l, q⟩ := z
  obtain rfl : ov = Value.ref a := rx
  refine wpAny_bind (wpAny_standAt (wpAny_bind (wpAny_holding (setattr_ok I1 ea c n l r fun s3 I3 => ?_))))
  exact wpAny_release ⟨σ, _, I3, q⟩
end
end Own

/-! own layer, of no law: a number told as what is ahead of the point and the digits behind it -/
namespace Own
open PySem PySem.Spec PyProof.Rows L2 LamX NdefX
/-- ahead of the point -/
def wFl (u : Int) (s : Nat) : Int := if s = 0 then u else u / (10 : Int) ^ s
/-- the digits behind it -/
def wMo (u : Int) (s : Nat) : Str := if s = 0 then "" else Txt.zfill (Str.ofString (toString (u % (10 : Int) ^ s))) (s : Int)
def wRow (u : Int) (s : Nat) : List (Str × V) := [("units", .int u), ("scale", .int s), ("floor", .int (wFl u s)), ("more", .str (wMo u s))]
theorem wNe : (("scale" : Str) == "units") = false ∧ (("floor" : Str) == "units") = false ∧ (("floor" : Str) == "scale") = false ∧ (("more" : Str) == "units") = false ∧ (("more" : Str) == "scale") = false ∧ (("more" : Str) == "floor") = false := by decide +kernel
theorem wLk_u (u : Int) (s : Nat) : (wRow u s).lookup ("units" : Str) = some (.int u) := by simp [wRow, List.lookup]
theorem wLk_s (u : Int) (s : Nat) : (wRow u s).lookup ("scale" : Str) = some (.int s) := by simp [wRow, List.lookup, wNe]
theorem wLk_f (u : Int) (s : Nat) : (wRow u s).lookup ("floor" : Str) = some (.int (wFl u s)) := by simp [wRow, List.lookup, wNe]
theorem wLk_m (u : Int) (s : Nat) : (wRow u s).lookup ("more" : Str) = some (.str (wMo u s)) := by simp [wRow, List.lookup, wNe]
theorem wLk_no {m : Str} (u : Int) (s : Nat) (h1 : (m == "units") = false) (h2 : (m == "scale") = false) (h3 : (m == "floor") = false := by decide +kernel) (h4 : (m == "more") = false := by decide +kernel) : (wRow u s).lookup m = none := by simp [wRow, List.lookup, h1, h2, h3, h4]
theorem put4 (a b c d : V) : putF "more" d (putF "floor" c (putF "scale" b (putF "units" a []))) = ([("units", a), ("scale", b), ("floor", c), ("more", d)] : List (Str × V)) := by
  have e1 : ¬ (("units" : Str) = "scale") := by decide +kernel
  have e2 : ¬ (("units" : Str) = "floor") := by decide +kernel
  have e3 : ¬ (("units" : Str) = "more") := by decide +kernel
  have e4 : ¬ (("scale" : Str) = "floor") := by decide +kernel
  have e5 : ¬ (("scale" : Str) = "more") := by decide +kernel
  have e6 : ¬ (("floor" : Str) = "more") := by decide +kernel
  simp [putF, e1, e2, e3, e4, e5, e6]
/-! ### the digits -/
theorem numL_cons (n : Nat) : ∃ c l, TL.numL n = c :: l ∧ 48 ≤ c ∧ c ≤ 57 := by
  cases h : TL.numL n with
  | nil => exact absurd h (TL.numL_ne n)
  | cons c l =>
    have z := TL.numL_digits n c (by rw [h]; exact List.mem_cons_self ..)
    exact ⟨c, l, rfl, z.1, z.2⟩
theorem zf_list (n s : Nat) : (Txt.zfill (Str.ofString (toString (n : Int))) (s : Int)).cps.toList = List.replicate (s - (TL.numL n).length) 48 ++ TL.numL n := by
  have e : (Str.ofString (toString (n : Int))).cps.toList = TL.numL n := TL.tl_num n
  have l : (Str.ofString (toString (n : Int))).length = (TL.numL n).length := by rw [TL.len_tl]; exact congrArg List.length e
  generalize Str.ofString (toString (n : Int)) = x at e l
  unfold Txt.zfill
  by_cases h : (s : Int) ≤ (x.length : Int)
  · rw [if_pos h, e, show s - (TL.numL n).length = 0 by omega]
    rfl
  · rw [if_neg h]
    obtain ⟨c, r, ec, h1, h2⟩ := numL_cons n
    have hd : x.cps[0]? = some c := by
      rw [← Array.getElem?_toList, e, ec]
      rfl
    unfold zfilled
    rw [hd]
    split
    · rename_i z
      have := Option.some.inj z
      omega
    · rename_i z
      have := Option.some.inj z
      omega
    · rw [PyProof.Rows.padded_list, e, l]
      simp
theorem val_zeros : ∀ (k : Nat) (l : List Nat), NumText.digitsVal (List.replicate k 48 ++ l) = NumText.digitsVal l
  | 0, l => rfl
  | k + 1, l => by
    show NumText.digitsVal (48 :: (List.replicate k 48 ++ l)) = _
    exact val_zeros k l
theorem ten_nc (s : Nat) : ((10 : Int) ^ s) = ((10 ^ s : Nat) : Int) := by simp
theorem wMod (u : Int) (s : Nat) : ∃ n : Nat, u % (10 : Int) ^ s = (n : Int) ∧ n < 10 ^ s := by
  have p : 0 < 10 ^ s := Nat.pow_pos (by decide)
  rw [ten_nc]
  have a := Int.emod_nonneg u (show ((10 ^ s : Nat) : Int) ≠ 0 by omega)
  have b := Int.emod_lt_of_pos u (show (0 : Int) < ((10 ^ s : Nat) : Int) by omega)
  exact ⟨(u % ((10 ^ s : Nat) : Int)).toNat, by omega, by omega⟩
theorem wMo_list {u : Int} {s n : Nat} (h : s ≠ 0) (e : u % (10 : Int) ^ s = (n : Int)) : (wMo u s).cps.toList = List.replicate (s - (TL.numL n).length) 48 ++ TL.numL n := by
  unfold wMo
  rw [if_neg h, e]
  exact zf_list n s
theorem wMo_zero (u : Int) : (wMo u 0).cps.toList = [] := by
  have e : wMo u 0 = "" := by
    unfold wMo
    rw [if_pos rfl]
  rw [e]
  rfl
theorem wMo_len (u : Int) (s : Nat) : (wMo u s).cps.toList.length = s := by
  by_cases h : s = 0
  · subst h
    rw [wMo_zero]
    rfl
  · obtain ⟨n, e, l⟩ := wMod u s
    rw [wMo_list h e, List.length_append, List.length_replicate]
    have := TL.numL_len (Nat.pos_of_ne_zero h) l
    omega
theorem w_inj {u u2 : Int} {s s2 : Nat} (h1 : wFl u s = wFl u2 s2) (h2 : wMo u s = wMo u2 s2) : u = u2 ∧ s = s2 := by
  have e : s = s2 := by
    have a := wMo_len u s
    have b := wMo_len u2 s2
    rw [h2] at a
    omega
  subst e
  refine ⟨?_, rfl⟩
  by_cases h : s = 0
  · subst h
    exact h1
  · obtain ⟨n, e, l⟩ := wMod u s
    obtain ⟨n2, e2, l2⟩ := wMod u2 s
    have a := wMo_list h e
    have b := wMo_list h e2
    rw [h2, b] at a
    have v := congrArg NumText.digitsVal a
    rw [val_zeros, val_zeros, TL.numL_val, TL.numL_val] at v
    unfold wFl at h1
    rw [if_neg h, if_neg h] at h1
    have d1 := Int.mul_ediv_add_emod u ((10 : Int) ^ s)
    have d2 := Int.mul_ediv_add_emod u2 ((10 : Int) ^ s)
    rw [← d1, ← d2, h1, e, e2, v]
theorem w_ok (u : Int) (s : Nat) : PyData.strOk (wMo u s) = true := by
  have all : ∀ c ∈ (wMo u s).cps.toList, c < 0x110000 := fun c hc => by
    by_cases h : s = 0
    · subst h
      rw [wMo_zero] at hc
      cases hc
    · obtain ⟨n, e, l⟩ := wMod u s
      rw [wMo_list h e] at hc
      rcases List.mem_append.mp hc with z | z
      · rw [(List.mem_replicate.mp z).2]
        decide
      · have := TL.numL_digits n c z
        omega
  unfold PyData.strOk
  rw [Array.all_eq_true_iff_forall_mem]
  intro c hc
  exact decide_eq_true (all c (Array.mem_toList_iff.mpr hc))
/-- the two halves as data -/
theorem w_dp {K : PySem.W.Frag} {H : Hp} {a : Addr} {i : Int} {t : Str} (e : H a = some (.tup [.int i, .str t])) : Dp K H (.ref a) (.tuple [.int i, .str t]) := .tup (SqT.of e) (.cons (.int i) (.cons (.str t) .nil))
theorem w_sh (u : Int) (s : Nat) : SeqAt.shaped (.tuple [.int (wFl u s), .str (wMo u s)]) = true := by
  unfold SeqAt.shaped
  simp [PyData.canLay0, PyData.canLayAll0, PyData.depth, PyData.depthAll, w_ok]
theorem w_eqv (u u2 : Int) (s s2 : Nat) : PyData.eqv (.tuple [.int (wFl u s), .str (wMo u s)]) (.tuple [.int (wFl u2 s2), .str (wMo u2 s2)]) = (decide (u = u2) && decide (s = s2)) := by
  simp only [PyData.eqv, PyData.eqvAll, Bool.and_true]
  by_cases h : u = u2 ∧ s = s2
  · obtain ⟨rfl, rfl⟩ := h
    simp
  · have r : (decide (u = u2) && decide (s = s2)) = false := by
      rw [← Bool.decide_and]
      exact decide_eq_false h
    rw [r]
    have n : ¬ (wFl u s = wFl u2 s2 ∧ wMo u s = wMo u2 s2) := fun z => h (w_inj z.1 z.2)
    by_cases h1 : wFl u s = wFl u2 s2
    · have h2 : wMo u s ≠ wMo u2 s2 := fun z => n ⟨h1, z⟩
      rw [beq_false_of_ne h2, Bool.and_false]
    · rw [beq_false_of_ne h1, Bool.false_and]
/-- a list of statements that is never come to -/
theorem pss_dead {X : Cx} {ss : List Stmt} : PSs X ss (fun _ _ _ => False) := ⟨fun _ _ _ _ _ _ h => h.elim⟩
theorem dm_wide {n d : Int} (h0 : 0 < d) (h : d.natAbs < 2 ^ 9000) : CDivP n d := by
  refine ⟨h0, ?_⟩
  have a := log2_lt h (by decide)
  unfold Builtin.divisionGoesByPylong
  have e : ¬ (d == 0) = true := by simp; omega
  have z : ¬ (d.natAbs.log2 / 30 + 1 > 300) := by omega
  simp only [e, Bool.false_eq_true, if_false]
  rw [decide_eq_false z]
  rfl
end Own

/-! k09: digits_of, parted. -/
namespace K09
open PySem PySem.Spec PyProof.Rows L2 LamX NdefX Own
abbrev pDig : Stmt := topS 13
abbrev pPart : Stmt := topS 17
section
variable {P : Program} {w : World} {K : PySem.W.Frag} {mg : Str → Option Value} {base : Heap}
theorem scDig : FnScope ["number", "places", "ahead", "behind"] ["number"] (defScope pDig) := ⟨rfl, rfl, rfl, by decide +kernel, rfl, by decide +kernel, by decide +kernel⟩
/-- a number of few digits -/
def spDig : Sp := fun vs H Q _ => ∃ n : Nat, vs = [.int n] ∧ n < 10 ^ 500 ∧ Q (.str (Str.ofString (toString (n : Int)))) H
theorem small_log {n : Nat} (h : n < 10 ^ 500) : n.log2 < 1700 := log2_lt (Nat.lt_of_lt_of_le h (by decide +kernel)) (by decide)
theorem ok_dig (A : At K mg "digits_of" pDig ["number"]) (B : Blt mg) : DefOk P w K mg base CX0 "digits_of" 1 ["number"] spDig := by
  refine A.ok fun f fd F => F.ok scDig (fun vs H Q E h => ?_) (fun cdv A outer s0 H vs Q E hr h => ?_)
  · obtain ⟨n, rfl, _⟩ := h
    rfl
  · obtain ⟨n, rfl, hn, q⟩ := h
    have nd := scDig.nd
    refine ⟨_, pss_cons (ps_if (pt_cmpR op_lt (pe_bits (pv 0)) pe_int (nomark _)) (pss_one (ps_ret (pe_callTy call_str_int (by rfl) B.str (by decide +kernel) (pa_cons (pv 0) pa_nil)))) pss_nil) pss_dead, ?_⟩
    have lg := small_log hn
    have bits : Builtin.Int.intBits (n : Int) ≤ 1700 := by
      unfold Builtin.Int.intBits
      split
      · omega
      · have e : (n : Int).natAbs = n := by omega
        rw [e]
        omega
    refine ⟨_, rfl, n, rfl, _, _, rfl, rfl, _, rfl, ite2 (fun _ => ?_) (fun e => ?_)⟩
    · refine ⟨_, rfl, n, rfl, ?_, q⟩
      have e : (n : Int).natAbs = n := by omega
      rw [e]
      omega
    · exact absurd (decide_eq_true (by omega)) e
theorem scPart : FnScope ["units", "scale", "floor", "more"] ["units", "scale"] (defScope pPart) := ⟨rfl, rfl, rfl, by decide +kernel, rfl, by decide +kernel, by decide +kernel⟩
def spPart : Sp := fun vs H Q _ => ∃ (u : Int) (s : Nat), vs = [.int u, .int s] ∧ s < 500 ∧ ∀ (p : Addr) (H' : Hp), Same H H' → H' p = some (.tup [.int (wFl u s), .str (wMo u s)]) → Q (.ref p) H'
theorem ok_part (A : At K mg "parted" pPart ["units", "scale"]) (B : Blt mg) (D1 : DefOk P w K mg base CX0 "ten_to" 9 ["places"] (spTenTo 8)) (D2 : DefOk P w K mg base CX0 "digits_of" 1 ["number"] spDig) : DefOk P w K mg base CX0 "parted" 10 ["units", "scale"] spPart := by
  refine A.ok fun f fd F => F.ok scPart (fun vs H Q E h => ?_) (fun cdv A outer s0 H vs Q E hr h => ?_)
  · obtain ⟨u, s, rfl, _⟩ := h
    rfl
  · obtain ⟨u, s, rfl, hs, q⟩ := h
    have nd := scPart.nd
    refine ⟨_, pss_cons (ps_if (pt_cmpR op_eq (pv 1) pe_int (nomark _)) (pss_one (ps_ret (pe_tup (pa_cons (pv 0) (pa_cons pe_str pa_nil))))) pss_nil)
      (pss_cons (ps_asg (pe_callB call_divmodW (by rfl) B.dm (by decide +kernel) (pa_cons (pv 0) (pa_cons (pe_def D1 hr (by decide) (by rfl) pass0 (pa_cons (pv 1) pa_nil)) pa_nil))) (pg_tup rfl (pgs_cons (pg_name (i := 2) nd rfl (.inl rfl)) (pgs_cons (pg_name (i := 3) nd rfl (.inl rfl)) pgs_nil))))
      (pss_one (ps_ret (pe_tup (pa_cons (pv 2) (pa_cons (pe_bm PySem.F.plainAttrs_str PySem.F.slot_str_zfill PySem.F.type_str_zfill mt_zfill (pe_def D2 hr (by decide) (by rfl) pass0 (pa_cons (pv 3) pa_nil)) (pa_cons (pv 1) pa_nil)) pa_nil)))))), ?_⟩
    refine ⟨_, rfl, rfl, _, rfl, ite2 (fun e => ?_) (fun e => ?_)⟩
    · have h0 : s = 0 := by simpa using e
      subst h0
      refine ⟨_, rfl, by show 2 ≤ sizeLine; decide, fun p np => q p _ (same_new np) ?_⟩
      rw [upd_same]
      unfold wFl wMo
      rw [if_pos rfl, if_pos rfl]
    · have h0 : s ≠ 0 := by simpa using e
      refine ⟨_, rfl, _, rfl, s, rfl, by show s < 16 * 2 ^ 8; omega, _, _, rfl, dm_wide (ten_pos s) (up_two (ten_lt s) (by omega)), fun p hp => ?_⟩
      obtain ⟨n, en, hn⟩ := wMod u s
      have s1 : Same H (upd H p (.tup [.int (u / (10 : Int) ^ s), .int (u % (10 : Int) ^ s)])) := same_new hp
      refine ⟨p, _, rfl, SqT.of upd_same, rfl, _, _, rfl, _, _, rfl, rfl, ?_⟩
      have e1 : wFl u s = u / (10 : Int) ^ s := by
        unfold wFl
        rw [if_neg h0]
      have e2 : wMo u s = Txt.zfill (Str.ofString (toString (n : Int))) (s : Int) := by
        unfold wMo
        rw [if_neg h0, en]
      rw [en] at s1 ⊢
      dsimp only [gName, List.set]
      refine ⟨_, rfl, _, rfl, n, rfl, Nat.lt_of_lt_of_le hn (Nat.pow_le_pow_right (by decide) (by omega)), rfl, _, rfl, _, _, rfl, rfl, padOk_of (by omega) (by omega), by show 2 ≤ sizeLine; decide, fun p2 np2 => ?_⟩
      refine q p2 _ (s1.trans (same_new np2)) ?_
      rw [upd_same, e1, e2]
end
end K09

/-! k09: the class Worth. -/
namespace K09
open PySem PySem.Spec PyProof.Rows L2 LamX NdefX Own
abbrev wI (i : Nat) : Stmt := inClass (topS 15) i
section
variable {P : Program} {w : World} {K : PySem.W.Frag} {mg : Str → Option Value} {base : Heap} {C W : Addr}
/-- what the class is -/
structure WorthC (K : PySem.W.Frag) (mg : Str → Option Value) (W : Addr) : Prop where
  g : mg "Worth" = some (.ref W)
  cls : Cls K W
  nu : NoAttr K W "units"
  ns : NoAttr K W "scale"
  nf : NoAttr K W "floor"
  nm : NoAttr K W "more"
/-- a Worth stands at a: u units at the scale s -/
def WAt (W : Addr) (H : Hp) (a : Addr) (u : Int) (s : Nat) : Prop := ∃ dx, H a = some (.ins W dx (wRow u s))
theorem scWI : FnScope ["self", "units", "scale"] ["self", "units", "scale"] (defScope (wI 0)) := ⟨rfl, rfl, rfl, by decide +kernel, rfl, by decide +kernel, by decide +kernel⟩
/-- __init__ -/
def spWI (C W : Addr) : Sp := fun vs H Q E => ∃ (a dx : Addr) (x y : V), vs = [.ref a, x, y] ∧ H a = some (.ins W dx []) ∧ Thing H x ∧ Thing H y ∧ (Own.isInt x = false → Bad C "value" x H E) ∧ (Own.isInt x = true → isWh y = false → Bad C "value" y H E) ∧
  ∀ (u : Int) (s : Nat), x = .int u → y = .int s → s < 500 ∧ ∀ (u' : Int) (s' : Nat) (H' : Hp), IsLow u s u' s' → Keep a H H' → H' a = some (.ins W dx (wRow u' s')) → Q .non H'
theorem isWh_nat {y : V} (h : isWh y = true) : ∃ s : Nat, y = .int s := by
  cases y with
  | int i =>
    have z : 0 ≤ i := of_decide_eq_true h
    exact ⟨i.toNat, by rw [Int.toNat_of_nonneg z]⟩
  | _ => cases h
theorem ok_wI {f : Addr} {fd : FuncData} {dvs : List V} (F : FunD K "__init__" "Worth.__init__" (defArgs (wI 0)) (defBody (wI 0)) (defScope (wI 0)) dvs [] f fd) (T : WorthC K mg W) (D1 : DefOk P w K mg base (L2.CX P w) "need_integer" 3 ["value"] (spNInt C)) (D2 : DefOk P w K mg base (L2.CX P w) "need_whole_number" 3 ["value"] (spNWh C))
    (D3 : DefOk P w K mg base CX0 "without_zeros" 10 ["units", "scale"] spWz) (D4 : DefOk P w K mg base CX0 "parted" 10 ["units", "scale"] spPart) : FnOk P w K mg base (L2.CX P w) 11 f fd ["self", "units", "scale"] (spWI C W) := by
  refine F.ok scWI (fun vs H Q E h => ?_) (fun cdv A outer s0 H vs Q E hr h => ?_)
  · obtain ⟨a, dx, x, y, rfl, _⟩ := h
    rfl
  · obtain ⟨a, dx, x, y, rfl, ha, tx, ty, q1, q2, q3⟩ := h
    refine ⟨_, pss_cons (ps_expr (pe_def (E := E) D1 hr (by decide) (by rfl) (passes_call (takes_of rfl rfl rfl rfl) fun _ _ _ _ z => z) (pa_cons (pv 1) pa_nil)))
      (pss_cons (ps_expr (pe_def (E := E) D2 hr (by decide) (by rfl) (passes_call (takes_of rfl rfl rfl rfl) fun _ _ _ _ z => z) (pa_cons (pv 2) pa_nil)))
      (pss_cons (ps_asg (pe_def D3 hr (by decide) (by rfl) pass0 (pa_cons (pv 1) (pa_cons (pv 2) pa_nil))) (pg_tup rfl (pgs_cons (pg_fld (pv 0)) (pgs_cons (pg_fld (pv 0)) pgs_nil))))
      (pss_one (ps_asg (pe_def D4 hr (by decide) (by rfl) pass0 (pa_cons (pe_fld (pv 0) (by rfl)) (pa_cons (pe_fld (pv 0) (by rfl)) pa_nil))) (pg_tup rfl (pgs_cons (pg_fld (pv 0)) (pgs_cons (pg_fld (pv 0)) pgs_nil))))))), ?_⟩
    refine ⟨_, rfl, x, rfl, tx, fun hx => ?_, q1⟩
    refine ⟨_, rfl, y, rfl, ty, fun hy => ?_, q2 hx⟩
    obtain ⟨s, rfl⟩ := isWh_nat hy
    obtain ⟨u, rfl⟩ : ∃ u, x = .int u := by
      cases x <;> first | exact ⟨_, rfl⟩ | (simp [Own.isInt] at hx)
    obtain ⟨hs, q⟩ := q3 u s rfl rfl
    refine ⟨_, rfl, _, rfl, u, s, rfl, by omega, fun u' s' p lw np => ?_⟩
    have na : a ≠ p := ne_of_none ha np
    have ha1 : upd H p (.tup [.int u', .int s']) a = some (.ins W dx []) := (upd_ne na).trans ha
    refine ⟨p, _, rfl, SqT.of upd_same, rfl, _, _, rfl, ⟨_, rfl, a, W, dx, [], rfl, ha1, T.cls, T.nu, by decide, ?_⟩⟩
    refine ⟨_, _, rfl, ⟨_, rfl, a, W, dx, _, rfl, upd_same, T.cls, T.ns, by show 1 < 1000; decide, ?_⟩⟩
    refine ⟨rfl, ?_⟩
    rw [upd_upd]
    have k1 : Keep a H (upd (upd H p (.tup [.int u', .int s'])) a (.ins W dx (putF "scale" (.int s') (putF "units" (.int u') [])))) := (Keep.new np).trans Keep.at
    have ha2 : upd (upd H p (.tup [.int u', .int s'])) a (.ins W dx (putF "scale" (.int s') (putF "units" (.int u') []))) a = some (.ins W dx (putF "scale" (.int s') (putF "units" (.int u') []))) := upd_same
    generalize upd (upd H p (.tup [.int u', .int s'])) a (.ins W dx (putF "scale" (.int s') (putF "units" (.int u') []))) = H1 at k1 ha2 ⊢
    have e0 : ¬ (("units" : Str) = "scale") := by decide +kernel
    have e1 : (putF "scale" (.int s') (putF "units" (.int u') []) : List (Str × V)).lookup ("units" : Str) = some (V.int u') := by simp [putF, e0, List.lookup]
    have e2 : (putF "scale" (.int s') (putF "units" (.int u') []) : List (Str × V)).lookup ("scale" : Str) = some (V.int s') := by simp [putF, e0, List.lookup, wNe]
    have le := lw.le
    refine ⟨_, rfl, a, W, dx, _, .int u', rfl, ha2, T.cls, T.nu, e1, _, rfl, a, W, dx, _, .int s', rfl, ha2, T.cls, T.ns, e2, u', s', rfl, by omega, fun p2 H2 s2 h2 => ?_⟩
    have ha3 := s2 _ _ ha2
    have n2 : a ≠ p2 := ne_of ha3 h2 (by intro z; cases z)
    refine ⟨p2, _, rfl, SqT.of h2, rfl, _, _, rfl, ⟨_, rfl, a, W, dx, _, rfl, ha3, T.cls, T.nf, by show 2 < 1000; decide, ?_⟩⟩
    refine ⟨_, _, rfl, ⟨_, rfl, a, W, dx, _, rfl, upd_same, T.cls, T.nm, by show 3 < 1000; decide, ?_⟩⟩
    refine ⟨rfl, ?_⟩
    rw [upd_upd, put4]
    exact q u' s' _ lw ((k1.trans (Keep.same s2)).trans Keep.at) upd_same
end
end K09

/-! k09: Worths made; as_worth, units_at, sign. -/
namespace Own
open PySem PySem.Spec PyProof.Rows L2 LamX NdefX
theorem Thing.tyx {K : PySem.W.Frag} {H : Hp} {x : V} (h : Thing H x) : ∃ T ∈ tys, TyX K H x (.type T) := by
  cases h with
  | non => exact ⟨"NoneType", by simp [tys], .base .non⟩
  | bl b => exact ⟨"bool", by simp [tys], .base (.bl b)⟩
  | int i => exact ⟨"int", by simp [tys], .base (.int i)⟩
  | str z => exact ⟨"str", by simp [tys], .base (.str z)⟩
  | lst e => exact ⟨"list", by simp [tys], .base (.lst e)⟩
  | tup e => exact ⟨"tuple", by simp [tys], .base (.tup e)⟩
  | dct e => exact ⟨"dict", by simp [tys], .base (.dK e)⟩
end Own
namespace K09
open PySem PySem.Spec PyProof.Rows L2 LamX NdefX Own
abbrev pAsW : Stmt := topS 18
section
variable {P : Program} {w : World} {K : PySem.W.Frag} {mg : Str → Option Value} {base : Heap} {C W : Addr}
/-- isinstance by the class -/
structure WIs (K : PySem.W.Frag) (W : Addr) : Prop where
  ha : PySem.W.findIn K (.ref W) "__class__" = some (some (.builtin "object.__class__"))
  hn : PySem.W.specialIn K (.builtin "object.__class__") "__get__" = some (some (.builtin "getset_descriptor.__get__"))
  ht : PySem.W.takesIn K (.builtin "object.__class__") = some true
  hm : PySem.W.mroIn K W (.type "object") = some true
  no : ∀ T ∈ tys, PySem.W.kitOne K (.type T) (.ref W) = some false
/-- how the class is called -/
structure WMk (P : Program) (w : World) (K : PySem.W.Frag) (mg : Str → Option Value) (base : Heap) (C W : Addr) : Prop where
  ex : ∃ (fI : Addr) (fd : FuncData), Mk K W fI ∧ FnOk P w K mg base (L2.CX P w) 11 fI fd ["self", "units", "scale"] (spWI C W) ∧ Binds K fd ["self", "units", "scale"] [] ∧ ∃ ds, Vals [V.int 0] ds ∧ Binds K fd ["self", "units", "scale"] ds
theorem WAt.same {H H' : Hp} {a : Addr} {u : Int} {s : Nat} (h : WAt W H a u s) (z : Same H H') : WAt W H' a u s := by
  obtain ⟨dx, e⟩ := h
  exact ⟨dx, z _ _ e⟩
/-- what the call Worth(x, y) gives -/
def spWorth (C W : Addr) : Sp := fun vs H Q E => ∃ x y : V, vs = [x, y] ∧ Thing H x ∧ Thing H y ∧ (Own.isInt x = false → Bad C "value" x H E) ∧ (Own.isInt x = true → isWh y = false → Bad C "value" y H E) ∧
  ∀ (u : Int) (s : Nat), x = .int u → y = .int s → s < 500 ∧ ∀ (u' : Int) (s' : Nat) (a : Addr) (H' : Hp), IsLow u s u' s' → Same H H' → H a = none → WAt W H' a u' s' → Q (.ref a) H'
theorem worth_make {vs : List V} {H : Hp} {Q : VK} {E : XK} (h : spWorth C W vs H Q E) (a dx : Addr) (na : H a = none) (nd : H dx = none) (ne : dx ≠ a) : spWI C W (.ref a :: vs) (upd (upd H dx (.own a)) a (.ins W dx [])) (fun v H2 => v = .non ∧ Q (.ref a) H2) E := by
  obtain ⟨x, y, rfl, tx, ty, q1, q2, q3⟩ := h
  have na1 : upd H dx (.own a) a = none := (upd_ne ne.symm).trans na
  have s1 : Same H (upd (upd H dx (.own a)) a (.ins W dx [])) := (same_new nd).trans (same_new na1)
  refine ⟨a, dx, x, y, rfl, upd_same, tx.same s1, ty.same s1, fun z => (q1 z).same s1, fun z1 z2 => (q2 z1 z2).same s1, fun u s e1 e2 => ?_⟩
  obtain ⟨hs, q⟩ := q3 u s e1 e2
  refine ⟨hs, fun u' s' H' lw kp ha => ⟨rfl, q u' s' a H' lw (fun b o e => ?_) na ⟨dx, ha⟩⟩⟩
  have ba : b ≠ a := ne_of_none e na
  exact kp _ _ ba (s1 _ _ e)
section
variable {X : Cx} {k : Nat} {E : XK} {x : Str} {p pos : Pos} {e1 e2 : Expr} {t : TA}
/-- Worth(e1, e2) -/
theorem pe_worth (M : WMk X.prog X.w X.K X.mg X.base C W) (T : WorthC X.K X.mg W) (hr : Room k X.A) (hk : 12 ≤ k) (hg : Gl X "Worth") (hx : Passes (L2.CX X.prog X.w) X E) (ha : PA X [e1, e2] t)
    (he : starEach [e1, e2] X.env = (false, eval e1 X.env) :: starEach [e2] X.env := by rfl) (hpl : (backTo pos (starEach [e2] X.env)).any (·.1) = false := by rfl) : PE X (.Call (.Name "Worth" p) [e1, e2] [] pos) (tCall (spWorth C W) [] E t) := by
  obtain ⟨fI, fd, mk, F, b2, _⟩ := M.ex
  constructor
  intro pins s σ H Q I h
  refine wpAny_Call_Name_kw (ld_glob I hg T.g ?_ (by decide))
  refine PySem.W.callWith_K (h₀ := X.base) I.ok.mod.kin mk.kp (thn (ha.run pos pins s σ H _ I h) ?_) he hpl
  rintro us s1 ⟨vs, H1, I1, r, q⟩
  refine ⟨I1.kIn, run_make mk F (hr.mono hk) b2 .nil hx I1 r fun a dx na nd ne => ?_⟩
  rw [List.append_nil] at q ⊢
  exact worth_make q a dx na nd ne
/-- Worth(e1) -/
theorem pe_worth1 (M : WMk X.prog X.w X.K X.mg X.base C W) (T : WorthC X.K X.mg W) (hr : Room k X.A) (hk : 12 ≤ k) (hg : Gl X "Worth") (hx : Passes (L2.CX X.prog X.w) X E) {te : TE} (ha : PE X e1 te)
    (he : starEach [e1] X.env = (false, eval e1 X.env) :: starEach [] X.env := by rfl) (hpl : (backTo pos (starEach [] X.env)).any (·.1) = false := by rfl) : PE X (.Call (.Name "Worth" p) [e1] [] pos) (fun σ H Q => tCons te tNil σ H fun vs H1 => ∃ v, vs = [v] ∧ spWorth C W [v, .int 0] H1 Q E) := by
  obtain ⟨fI, fd, mk, F, _, ds, rd, b1⟩ := M.ex
  constructor
  intro pins s σ H Q I h
  refine wpAny_Call_Name_kw (ld_glob I hg T.g ?_ (by decide))
  refine PySem.W.callWith_K (h₀ := X.base) I.ok.mod.kin mk.kp (thn ((pa_cons ha pa_nil he).run pos pins s σ H (fun vs H1 => ∃ v, vs = [v] ∧ spWorth C W [v, .int 0] H1 Q E) I h) ?_) he hpl
  rintro us s1 ⟨vs, H1, I1, r, v, rfl, q⟩
  exact ⟨I1.kIn, run_make mk F (hr.mono hk) b1 rd hx I1 r fun a dx na nd ne => worth_make q a dx na nd ne⟩
end
/-! ### as_worth -/
theorem scAsW : FnScope ["value"] ["value"] (defScope pAsW) := ⟨rfl, rfl, rfl, by decide +kernel, rfl, by decide +kernel, by decide +kernel⟩
/-- a Worth as it is; an integer at the scale 0; anything else refused -/
def spAsW (C W : Addr) : Sp := fun vs H Q E => ∃ x : V, vs = [x] ∧ ((∃ (a : Addr) (u : Int) (s : Nat), x = .ref a ∧ WAt W H a u s ∧ Q (.ref a) H) ∨
  (Thing H x ∧ (Own.isInt x = false → Bad C "value" x H E) ∧ ∀ (u : Int) (a : Addr) (H' : Hp), x = .int u → Same H H' → H a = none → WAt W H' a u 0 → Q (.ref a) H'))
theorem low0 {u u' : Int} {s' : Nat} (h : IsLow u 0 u' s') : u' = u ∧ s' = 0 := by
  have a := h.le
  have z : s' = 0 := by omega
  subst z
  have e := h.eq
  simp at e
  exact ⟨e.symm, rfl⟩
theorem ok_asW (A : At K mg "as_worth" pAsW ["value"]) (B : Blt mg) (T : WorthC K mg W) (I : WIs K W) (M : WMk P w K mg base C W) : DefOk P w K mg base (L2.CX P w) "as_worth" 13 ["value"] (spAsW C W) := by
  refine A.ok fun f fd F => F.okX scAsW (fun vs H Q E h => ?_) (fun cdv A outer s H vs Q E hr h => ?_)
  · obtain ⟨x, rfl, _⟩ := h
    rfl
  · obtain ⟨x, rfl, h⟩ := h
    refine ⟨_, pss_one (ps_ret (pe_ifExp (pt_val (pe_callB call_isi (by rfl) B.isi (by decide +kernel) (pa_cons (pv 0) (pa_cons (pe_glob (v := .ref W) (by rfl) T.g rfl) pa_nil)))) (pv 0)
      (pe_worth1 (E := E) M T hr (by decide) (by rfl) (passes_call (takes_of rfl rfl rfl rfl) fun _ _ _ _ z => z) (pv 0)))), ?_⟩
    rcases h with ⟨a, u, s', rfl, wa, q⟩ | ⟨th, q1, q2⟩
    · obtain ⟨dx, ea⟩ := id wa
      refine ⟨_, rfl, _, _, _, _, true, rfl, .own W, .base (.ins ea T.cls I.ha I.hn I.ht I.hm), by unfold PySem.W.kitOne; rw [if_pos (by simp)], _, rfl, iteT ⟨_, rfl, q⟩⟩
    · obtain ⟨ty, hty, tx⟩ := th.tyx (K := K)
      refine ⟨_, rfl, _, _, _, _, false, rfl, .own W, tx, I.no ty hty, _, rfl, iteF ⟨_, rfl, _, rfl, _, _, rfl, th, .int 0, q1, (fun _ z => absurd z (by decide)), fun u s e1 e2 => ?_⟩⟩
      have e3 : (0 : Int) = (s : Int) := V.int.inj e2
      obtain rfl : s = 0 := by omega
      refine ⟨by decide, fun u' s' a H' lw sm na wa => ?_⟩
      obtain ⟨rfl, rfl⟩ := low0 lw
      exact q2 _ a H' e1 sm na wa
end
end K09

/-! k09: units_at, sign, +. -/
namespace K09
open PySem PySem.Spec PyProof.Rows L2 LamX NdefX Own
section
variable {P : Program} {w : World} {K : PySem.W.Frag} {mg : Str → Option Value} {base : Heap} {C C2 W : Addr}
theorem scUat : FnScope ["self", "scale"] ["self", "scale"] (defScope (wI 14)) := ⟨rfl, rfl, rfl, by decide +kernel, rfl, by decide +kernel, by decide +kernel⟩
/-- units_at, at a scale that the worth has -/
def spUat (W : Addr) : Sp := fun vs H Q _ => ∃ (a : Addr) (u : Int) (s n : Nat), vs = [.ref a, .int n] ∧ WAt W H a u s ∧ s ≤ n ∧ n < 500 ∧ u.natAbs < 2 ^ 90000 ∧ Q (.int (u * (10 : Int) ^ (n - s))) H
theorem lk_u (u : Int) (s : Nat) : (wRow u s).lookup ("units" : Str) = some (.int u) := wLk_u u s
theorem lk_s (u : Int) (s : Nat) : (wRow u s).lookup ("scale" : Str) = some (.int s) := wLk_s u s
theorem ok_uat {f : Addr} {fd : FuncData} (F : Fun K "units_at" "Worth.units_at" (wI 14) f fd) (T : WorthC K mg W) (T2 : ErrC P w K mg base "TooFine" "scale" 1 C2 (spErr C2 "scale")) (D1 : DefOk P w K mg base (L2.CX P w) "need_whole_number" 3 ["value"] (spNWh C)) (D2 : DefOk P w K mg base CX0 "ten_to" 9 ["places"] (spTenTo 8)) :
    FnOk P w K mg base (L2.CX P w) 10 f fd ["self", "scale"] (spUat W) := by
  refine F.okX scUat (fun vs H Q E h => ?_) (fun cdv A outer s0 H vs Q E hr h => ?_)
  · obtain ⟨a, u, s, n, rfl, _⟩ := h
    rfl
  · obtain ⟨a, u, s, n, rfl, ⟨dx, ea⟩, hle, hn, hu, q⟩ := h
    refine ⟨_, pss_cons (ps_expr (pe_def (E := E) D1 hr (by decide) (by rfl) (passes_call (takes_of rfl rfl rfl rfl) fun _ _ _ _ z => z) (pa_cons (pv 1) pa_nil)))
      (pss_cons (ps_if (pt_cmpR op_lt (pv 1) (pe_fld (pv 0) (by rfl)) (nomark _)) (pss_one (ps_raise rfl (takes_of rfl rfl rfl rfl) (pmk_err T2 hr (by decide) (by rfl) (pe_fld (pv 0) (by rfl))))) pss_nil)
      (pss_one (ps_ret (pe_op op_mulW (pe_fld (pv 0) (by rfl)) (pe_def (E := E) D2 hr (by decide) (by rfl) pass0 (pa_cons (pe_op op_sub (pv 1) (pe_fld (pv 0) (by rfl))) pa_nil)))))), ?_⟩
    refine ⟨_, rfl, .int n, rfl, .int _, fun _ => ?_, fun z => ?_⟩
    · refine ⟨_, rfl, _, rfl, a, W, dx, _, .int s, rfl, ea, T.cls, T.ns, lk_s _ _, _, _, rfl, rfl, _, rfl, ite2 (fun e => ?_) (fun e => ?_)⟩
      · have z : (n : Int) < (s : Int) := of_decide_eq_true e
        omega
      · refine ⟨_, rfl, a, W, dx, _, .int u, rfl, ea, T.cls, T.nu, lk_u _ _, _, rfl, _, rfl, a, W, dx, _, .int s, rfl, ea, T.cls, T.ns, lk_s _ _, _, _, rfl, rfl, ?_⟩
        have e2 : (n : Int) - (s : Int) = ((n - s : Nat) : Int) := by omega
        dsimp only
        rw [e2]
        exact ⟨n - s, rfl, by omega, _, _, rfl, rfl, wide_mul hu (ten_lt (n - s)) (by decide) (by omega) (by omega), q⟩
    · have z' : isWh (.int (n : Int)) = true := by
        show decide (0 ≤ (n : Int)) = true
        exact decide_eq_true (by omega)
      rw [z'] at z
      cases z
end
end K09

/-! k09: sums and differences of Worths. -/
namespace K09
open PySem PySem.Spec PyProof.Rows L2 LamX NdefX Own
section
variable {P : Program} {w : World} {K : PySem.W.Frag} {mg : Str → Option Value} {base : Heap} {C C2 W : Addr}
/-- a method by its name -/
structure WMeth (P : Program) (w : World) (K : PySem.W.Frag) (mg : Str → Option Value) (base : Heap) (W : Addr) (m : Str) (k : Nat) (ps : List Str) (sp : Sp) : Prop where
  ex : ∃ (f : Addr) (fd : FuncData), Meth K W m f ∧ FnOk P w K mg base (L2.CX P w) k f fd ps sp ∧ Binds K fd ps []
/-- u units at the scale s, told at the scale n -/
def at_ (u : Int) (s n : Nat) : Int := u * (10 : Int) ^ (n - s)
/-- what a new worth of v units at n is told as -/
def Gives (W : Addr) (H : Hp) (v : Int) (n : Nat) (Q : VK) : Prop := ∀ (u' : Int) (s' : Nat) (p : Addr) (H' : Hp), IsLow v n u' s' → Same H H' → H p = none → WAt W H' p u' s' → Q (.ref p) H'
def Small (u : Int) (s : Nat) : Prop := s < 250 ∧ u.natAbs < 2 ^ 40000
/-- self op other, other a worth, an integer or refused -/
def spBin (C W : Addr) (f : Int → Int → Int) : Sp := fun vs H Q E => ∃ (a : Addr) (u : Int) (s : Nat) (y : V), vs = [.ref a, y] ∧ WAt W H a u s ∧ Small u s ∧
  ((∃ (b : Addr) (u2 : Int) (s2 : Nat), y = .ref b ∧ WAt W H b u2 s2 ∧ Small u2 s2 ∧ Gives W H (f (at_ u s (max s s2)) (at_ u2 s2 (max s s2))) (max s s2) Q) ∨
    (Thing H y ∧ (Own.isInt y = false → Bad C "value" y H E) ∧ ∀ n : Int, y = .int n → Small n 0 ∧ Gives W H (f (at_ u s s) (at_ n 0 s)) s Q))
theorem Gives.same {H H' : Hp} {v : Int} {n : Nat} {Q : VK} (h : Gives W H v n Q) (s : Same H H') : Gives W H' v n Q := fun u' s' p H2 lw s2 np wp => h u' s' p H2 lw (s.trans s2) (s.free np) wp
theorem lk_m {m : Str} (u : Int) (s : Nat) (h1 : (m == "units") = false) (h2 : (m == "scale") = false) (h3 : (m == "floor") = false := by decide +kernel) (h4 : (m == "more") = false := by decide +kernel) : (wRow u s).lookup m = none := wLk_no u s h1 h2 h3 h4
theorem at_lt {u : Int} {s n : Nat} (h : u.natAbs < 2 ^ 40000) (hn : n < 500) : (at_ u s n).natAbs < 2 ^ 50000 := up_two (wide_lt h (ten_lt (n - s))) (by omega)
theorem scAdd : FnScope ["self", "other", "scale"] ["self", "other"] (defScope (wI 4)) := ⟨rfl, rfl, rfl, by decide +kernel, rfl, by decide +kernel, by decide +kernel⟩
theorem max_if (s s2 : Nat) : (if ((s2 : Nat) : Int) > ((s : Nat) : Int) then ((s2 : Nat) : Int) else ((s : Nat) : Int)) = ((max s s2 : Nat) : Int) := by
  by_cases h : s < s2
  · rw [if_pos (by omega)]
    omega
  · rw [if_neg (by omega)]
    omega
theorem ok_add {g : Addr} {fd : FuncData} (F : Fun K "__add__" "Worth.__add__" (wI 4) g fd) (B : Blt mg) (T : WorthC K mg W) (M : WMk P w K mg base C W) (D1 : DefOk P w K mg base (L2.CX P w) "as_worth" 13 ["value"] (spAsW C W)) (D2 : WMeth P w K mg base W "units_at" 10 ["self", "scale"] (spUat W)) :
    FnOk P w K mg base (L2.CX P w) 14 g fd ["self", "other"] (spBin C W (· + ·)) := by
  refine F.okX scAdd (fun vs H Q E h => ?_) (fun cdv A outer s0 H vs Q E hr h => ?_)
  · obtain ⟨a, u, s, y, rfl, _⟩ := h
    rfl
  · obtain ⟨a, u, s, y, rfl, wa, sm, h⟩ := h
    obtain ⟨fU, fdU, mU, FU, bU⟩ := D2.ex
    have nd := scAdd.nd
    refine ⟨_, C8.pss_cut (ps_set (i := 1) nd rfl (.inl rfl) (pe_def (E := E) D1 hr (by decide) (by rfl) (passes_call (takes_of rfl rfl rfl rfl) fun _ _ _ _ z => z) (pa_cons (pv 1) pa_nil)))
      (pss_cons (ps_set (i := 2) nd rfl (.inl rfl) (pe_callB (call_max2 rfl) (by rfl) B.max (by decide +kernel) (pa_cons (pe_fld (pv 0) (by rfl)) (pa_cons (pe_fld (pv 1) (by rfl)) pa_nil))))
      (pss_one (ps_ret (pe_worth (E := E) M T hr (by decide) (by rfl) (passes_call (takes_of rfl rfl rfl rfl) fun _ _ _ _ z => z)
        (pa_cons (pe_op op_add (pe_meth (E := E) (pv 0) T.cls mU FU (hr.mono (by decide)) bU .nil (passes_call (takes_of rfl rfl rfl rfl) fun _ _ _ _ z => z) (pa_cons (pv 2) pa_nil))
          (pe_meth (E := E) (pv 1) T.cls mU FU (hr.mono (by decide)) bU .nil (passes_call (takes_of rfl rfl rfl rfl) fun _ _ _ _ z => z) (pa_cons (pv 2) pa_nil))) (pa_cons (pv 2) pa_nil)))))), ?_⟩
    refine ⟨fun σ H1 => ∃ (b : Addr) (u2 : Int) (s2 : Nat), σ = [some (.ref a), some (.ref b), none] ∧ WAt W H1 a u s ∧ WAt W H1 b u2 s2 ∧ Small u2 s2 ∧ Gives W H1 (at_ u s (max s s2) + at_ u2 s2 (max s s2)) (max s s2) Q, ?_, ?_⟩
    · refine ⟨_, rfl, y, rfl, ?_⟩
      rcases h with ⟨b, u2, s2, rfl, wb, sm2, gv⟩ | ⟨th, bad, hn⟩
      · exact .inl ⟨b, u2, s2, rfl, wb, b, u2, s2, rfl, wa, wb, sm2, gv⟩
      · refine .inr ⟨th, bad, fun n p H' e sm' np wp => ⟨p, n, 0, rfl, wa.same sm', wp, (hn n e).1, ?_⟩⟩
        rw [show max s 0 = s by omega]
        exact (hn n e).2.same sm'
    · rintro σ H1 ⟨b, u2, s2, rfl, ⟨dx, ea⟩, ⟨dy, eb⟩, sm2, gv⟩
      refine ⟨_, rfl, a, W, dx, _, .int s, rfl, ea, T.cls, T.ns, lk_s _ _, _, rfl, b, W, dy, _, .int s2, rfl, eb, T.cls, T.ns, lk_s _ _, _, _, rfl, ?_⟩
      dsimp only [gName, List.set]
      rw [max_if]
      have m1 : max s s2 < 500 := by
        have := sm.1
        have := sm2.1
        omega
      refine ⟨_, rfl, a, dx, _, rfl, ea, lk_m _ _ (by decide +kernel) (by decide +kernel), _, rfl, a, u, s, max s s2, rfl, ⟨dx, ea⟩, by omega, m1, up_two sm.2 (by decide), ?_⟩
      refine ⟨_, rfl, b, dy, _, rfl, eb, lk_m _ _ (by decide +kernel) (by decide +kernel), _, rfl, b, u2, s2, max s s2, rfl, ⟨dy, eb⟩, by omega, m1, up_two sm2.2 (by decide), ?_⟩
      refine ⟨_, _, rfl, rfl, _, rfl, .int _, .int _, rfl, .int _, .int _, (fun z => by cases z), (fun _ z => ?_), fun U S e1 e2 => ?_⟩
      · have z' : isWh (.int ((max s s2 : Nat) : Int)) = true := by
          show decide (0 ≤ ((max s s2 : Nat) : Int)) = true
          exact decide_eq_true (by omega)
        rw [z'] at z
        cases z
      · have e3 : ((max s s2 : Nat) : Int) = (S : Int) := V.int.inj e2
        obtain rfl : S = max s s2 := by omega
        have e4 := V.int.inj e1
        rw [← e4]
        exact ⟨m1, fun u' s' p H' lw sm' np wp => gv u' s' p H' lw sm' np wp⟩
end
end K09

/-! k09: the other operators of Worths. -/
namespace K09
open PySem PySem.Spec PyProof.Rows L2 LamX NdefX Own
section
variable {P : Program} {w : World} {K : PySem.W.Frag} {mg : Str → Option Value} {base : Heap} {C C2 W : Addr}
theorem scSub : FnScope ["self", "other", "scale"] ["self", "other"] (defScope (wI 6)) := ⟨rfl, rfl, rfl, by decide +kernel, rfl, by decide +kernel, by decide +kernel⟩
theorem ok_sub {g : Addr} {fd : FuncData} (F : Fun K "__sub__" "Worth.__sub__" (wI 6) g fd) (B : Blt mg) (T : WorthC K mg W) (M : WMk P w K mg base C W) (D1 : DefOk P w K mg base (L2.CX P w) "as_worth" 13 ["value"] (spAsW C W)) (D2 : WMeth P w K mg base W "units_at" 10 ["self", "scale"] (spUat W)) :
    FnOk P w K mg base (L2.CX P w) 14 g fd ["self", "other"] (spBin C W (· - ·)) := by
  refine F.okX scSub (fun vs H Q E h => ?_) (fun cdv A outer s0 H vs Q E hr h => ?_)
  · obtain ⟨a, u, s, y, rfl, _⟩ := h
    rfl
  · obtain ⟨a, u, s, y, rfl, wa, sm, h⟩ := h
    obtain ⟨fU, fdU, mU, FU, bU⟩ := D2.ex
    have nd := scSub.nd
    refine ⟨_, C8.pss_cut (ps_set (i := 1) nd rfl (.inl rfl) (pe_def (E := E) D1 hr (by decide) (by rfl) (passes_call (takes_of rfl rfl rfl rfl) fun _ _ _ _ z => z) (pa_cons (pv 1) pa_nil)))
      (pss_cons (ps_set (i := 2) nd rfl (.inl rfl) (pe_callB (call_max2 rfl) (by rfl) B.max (by decide +kernel) (pa_cons (pe_fld (pv 0) (by rfl)) (pa_cons (pe_fld (pv 1) (by rfl)) pa_nil))))
      (pss_one (ps_ret (pe_worth (E := E) M T hr (by decide) (by rfl) (passes_call (takes_of rfl rfl rfl rfl) fun _ _ _ _ z => z)
        (pa_cons (pe_op op_sub (pe_meth (E := E) (pv 0) T.cls mU FU (hr.mono (by decide)) bU .nil (passes_call (takes_of rfl rfl rfl rfl) fun _ _ _ _ z => z) (pa_cons (pv 2) pa_nil))
          (pe_meth (E := E) (pv 1) T.cls mU FU (hr.mono (by decide)) bU .nil (passes_call (takes_of rfl rfl rfl rfl) fun _ _ _ _ z => z) (pa_cons (pv 2) pa_nil))) (pa_cons (pv 2) pa_nil)))))), ?_⟩
    refine ⟨fun σ H1 => ∃ (b : Addr) (u2 : Int) (s2 : Nat), σ = [some (.ref a), some (.ref b), none] ∧ WAt W H1 a u s ∧ WAt W H1 b u2 s2 ∧ Small u2 s2 ∧ Gives W H1 (at_ u s (max s s2) - at_ u2 s2 (max s s2)) (max s s2) Q, ?_, ?_⟩
    · refine ⟨_, rfl, y, rfl, ?_⟩
      rcases h with ⟨b, u2, s2, rfl, wb, sm2, gv⟩ | ⟨th, bad, hn⟩
      · exact .inl ⟨b, u2, s2, rfl, wb, b, u2, s2, rfl, wa, wb, sm2, gv⟩
      · refine .inr ⟨th, bad, fun n p H' e sm' np wp => ⟨p, n, 0, rfl, wa.same sm', wp, (hn n e).1, ?_⟩⟩
        rw [show max s 0 = s by omega]
        exact (hn n e).2.same sm'
    · rintro σ H1 ⟨b, u2, s2, rfl, ⟨dx, ea⟩, ⟨dy, eb⟩, sm2, gv⟩
      refine ⟨_, rfl, a, W, dx, _, .int s, rfl, ea, T.cls, T.ns, lk_s _ _, _, rfl, b, W, dy, _, .int s2, rfl, eb, T.cls, T.ns, lk_s _ _, _, _, rfl, ?_⟩
      dsimp only [gName, List.set]
      rw [max_if]
      have m1 : max s s2 < 500 := by
        have := sm.1
        have := sm2.1
        omega
      refine ⟨_, rfl, a, dx, _, rfl, ea, lk_m _ _ (by decide +kernel) (by decide +kernel), _, rfl, a, u, s, max s s2, rfl, ⟨dx, ea⟩, by omega, m1, up_two sm.2 (by decide), ?_⟩
      refine ⟨_, rfl, b, dy, _, rfl, eb, lk_m _ _ (by decide +kernel) (by decide +kernel), _, rfl, b, u2, s2, max s s2, rfl, ⟨dy, eb⟩, by omega, m1, up_two sm2.2 (by decide), ?_⟩
      refine ⟨_, _, rfl, rfl, _, rfl, .int _, .int _, rfl, .int _, .int _, (fun z => by cases z), (fun _ z => ?_), fun U S e1 e2 => ?_⟩
      · have z' : isWh (.int ((max s s2 : Nat) : Int)) = true := by
          show decide (0 ≤ ((max s s2 : Nat) : Int)) = true
          exact decide_eq_true (by omega)
        rw [z'] at z
        cases z
      · have e3 : ((max s s2 : Nat) : Int) = (S : Int) := V.int.inj e2
        obtain rfl : S = max s s2 := by omega
        have e4 := V.int.inj e1
        rw [← e4]
        exact ⟨m1, fun u' s' p H' lw sm' np wp => gv u' s' p H' lw sm' np wp⟩
/-- other op self, other no worth -/
def spRef (C W : Addr) (f : Int → Int → Int) : Sp := fun vs H Q E => ∃ (a : Addr) (u : Int) (s : Nat) (y : V), vs = [.ref a, y] ∧ WAt W H a u s ∧ Small u s ∧ Thing H y ∧ (Own.isInt y = false → Bad C "value" y H E) ∧ ∀ n : Int, y = .int n → Small n 0 ∧ Gives W H (f (at_ n 0 s) (at_ u s s)) s Q
theorem scRadd : FnScope ["self", "other"] ["self", "other"] (defScope (wI 5)) := ⟨rfl, rfl, rfl, by decide +kernel, rfl, by decide +kernel, by decide +kernel⟩
/-- the class's own operator -/
structure WOp (P : Program) (w : World) (K : PySem.W.Frag) (mg : Str → Option Value) (base : Heap) (W : Addr) (op : Operator) (k : Nat) (sp : Sp) : Prop where
  ex : ∃ (f : Addr) (fd : FuncData), PySem.W.selfFirst K W = true ∧ PySem.W.findIn K (.ref W) (PySem.dunder op.info.2) = some (some (.ref f)) ∧ PySem.W.isFn K (.ref f) = true ∧ FnOk P w K mg base (L2.CX P w) k f fd ["self", "other"] sp ∧ Binds K fd ["self", "other"] []
theorem ok_radd {g : Addr} {fd : FuncData} (F : Fun K "__radd__" "Worth.__radd__" (wI 5) g fd) (D1 : DefOk P w K mg base (L2.CX P w) "as_worth" 13 ["value"] (spAsW C W)) (D2 : WOp P w K mg base W .Add 14 (spBin C W (· + ·))) :
    FnOk P w K mg base (L2.CX P w) 15 g fd ["self", "other"] (spRef C W (· + ·)) := by
  refine F.okX scRadd (fun vs H Q E h => ?_) (fun cdv A outer s0 H vs Q E hr h => ?_)
  · obtain ⟨a, u, s, y, rfl, _⟩ := h
    rfl
  · obtain ⟨a, u, s, y, rfl, wa, sm, th, bad, hn⟩ := h
    obtain ⟨fA, fdA, c1, c2, c3, FA, bA⟩ := D2.ex
    refine ⟨_, pss_one (ps_ret (pe_op (op_own (op := .Add) (E := E) FA hr c1 c2 c3 bA (passes_call (takes_of rfl rfl rfl rfl) fun _ _ _ _ z => z)) (pe_def (E := E) D1 hr (by decide) (by rfl) (passes_call (takes_of rfl rfl rfl rfl) fun _ _ _ _ z => z) (pa_cons (pv 1) pa_nil)) (pv 0))), ?_⟩
    refine ⟨_, rfl, y, rfl, .inr ⟨th, bad, fun n p H' e sm' np wp => ?_⟩⟩
    obtain ⟨sn, gv⟩ := hn n e
    obtain ⟨dx, ea⟩ := wa.same sm'
    obtain ⟨dp, ep⟩ := id wp
    refine ⟨_, rfl, p, a, dp, dx, _, _, rfl, rfl, ep, ea, p, n, 0, .ref a, rfl, wp, sn, .inl ⟨a, u, s, rfl, ⟨dx, ea⟩, sm, ?_⟩⟩
    rw [show max 0 s = s by omega]
    exact gv.same sm'
theorem scRsub : FnScope ["self", "other"] ["self", "other"] (defScope (wI 7)) := ⟨rfl, rfl, rfl, by decide +kernel, rfl, by decide +kernel, by decide +kernel⟩
theorem ok_rsub {g : Addr} {fd : FuncData} (F : Fun K "__rsub__" "Worth.__rsub__" (wI 7) g fd) (D1 : DefOk P w K mg base (L2.CX P w) "as_worth" 13 ["value"] (spAsW C W)) (D2 : WOp P w K mg base W .Sub 14 (spBin C W (· - ·))) :
    FnOk P w K mg base (L2.CX P w) 15 g fd ["self", "other"] (spRef C W (· - ·)) := by
  refine F.okX scRsub (fun vs H Q E h => ?_) (fun cdv A outer s0 H vs Q E hr h => ?_)
  · obtain ⟨a, u, s, y, rfl, _⟩ := h
    rfl
  · obtain ⟨a, u, s, y, rfl, wa, sm, th, bad, hn⟩ := h
    obtain ⟨fA, fdA, c1, c2, c3, FA, bA⟩ := D2.ex
    refine ⟨_, pss_one (ps_ret (pe_op (op_own (op := .Sub) (E := E) FA hr c1 c2 c3 bA (passes_call (takes_of rfl rfl rfl rfl) fun _ _ _ _ z => z)) (pe_def (E := E) D1 hr (by decide) (by rfl) (passes_call (takes_of rfl rfl rfl rfl) fun _ _ _ _ z => z) (pa_cons (pv 1) pa_nil)) (pv 0))), ?_⟩
    refine ⟨_, rfl, y, rfl, .inr ⟨th, bad, fun n p H' e sm' np wp => ?_⟩⟩
    obtain ⟨sn, gv⟩ := hn n e
    obtain ⟨dx, ea⟩ := wa.same sm'
    obtain ⟨dp, ep⟩ := id wp
    refine ⟨_, rfl, p, a, dp, dx, _, _, rfl, rfl, ep, ea, p, n, 0, .ref a, rfl, wp, sn, .inl ⟨a, u, s, rfl, ⟨dx, ea⟩, sm, ?_⟩⟩
    rw [show max 0 s = s by omega]
    exact gv.same sm'
end
end K09

/-! k09: products, negatives, sizes, signs, equality of Worths. -/
namespace K09
open PySem PySem.Spec PyProof.Rows L2 LamX NdefX Own
section
variable {P : Program} {w : World} {K : PySem.W.Frag} {mg : Str → Option Value} {base : Heap} {C C2 W : Addr}
theorem isWh_cast (n : Nat) : isWh (.int (n : Int)) = true := by
  show decide (0 ≤ (n : Int)) = true
  exact decide_eq_true (by omega)
/-- a new worth of v units at n -/
theorem worth_of {H : Hp} {v : Int} {n : Nat} {Q : VK} {E : XK} (hn : n < 500) (gv : Gives W H v n Q) : spWorth C W [.int v, .int n] H Q E := by
  refine ⟨.int v, .int n, rfl, .int _, .int _, (fun z => by cases z), (fun _ z => ?_), fun U S e1 e2 => ?_⟩
  · rw [isWh_cast] at z
    cases z
  · have e3 : (n : Int) = (S : Int) := V.int.inj e2
    obtain rfl : S = n := by omega
    rw [← V.int.inj e1]
    exact ⟨hn, gv⟩
theorem scMul : FnScope ["self", "other"] ["self", "other"] (defScope (wI 8)) := ⟨rfl, rfl, rfl, by decide +kernel, rfl, by decide +kernel, by decide +kernel⟩
def spMulW (C W : Addr) : Sp := fun vs H Q E => ∃ (a : Addr) (u : Int) (s : Nat) (y : V), vs = [.ref a, y] ∧ WAt W H a u s ∧ Small u s ∧
  ((∃ (b : Addr) (u2 : Int) (s2 : Nat), y = .ref b ∧ WAt W H b u2 s2 ∧ Small u2 s2 ∧ Gives W H (u * u2) (s + s2) Q) ∨ (Thing H y ∧ (Own.isInt y = false → Bad C "value" y H E) ∧ ∀ n : Int, y = .int n → Small n 0 ∧ Gives W H (u * n) s Q))
theorem ok_mul {g : Addr} {fd : FuncData} (F : Fun K "__mul__" "Worth.__mul__" (wI 8) g fd) (T : WorthC K mg W) (M : WMk P w K mg base C W) (D1 : DefOk P w K mg base (L2.CX P w) "as_worth" 13 ["value"] (spAsW C W)) :
    FnOk P w K mg base (L2.CX P w) 14 g fd ["self", "other"] (spMulW C W) := by
  refine F.okX scMul (fun vs H Q E h => ?_) (fun cdv A outer s0 H vs Q E hr h => ?_)
  · obtain ⟨a, u, s, y, rfl, _⟩ := h
    rfl
  · obtain ⟨a, u, s, y, rfl, wa, sm, h⟩ := h
    have nd := scMul.nd
    refine ⟨_, C8.pss_cut (ps_set (i := 1) nd rfl (.inl rfl) (pe_def (E := E) D1 hr (by decide) (by rfl) (passes_call (takes_of rfl rfl rfl rfl) fun _ _ _ _ z => z) (pa_cons (pv 1) pa_nil)))
      (pss_one (ps_ret (pe_worth (E := E) M T hr (by decide) (by rfl) (passes_call (takes_of rfl rfl rfl rfl) fun _ _ _ _ z => z)
        (pa_cons (pe_op op_mulW (pe_fld (pv 0) (by rfl)) (pe_fld (pv 1) (by rfl))) (pa_cons (pe_op op_add (pe_fld (pv 0) (by rfl)) (pe_fld (pv 1) (by rfl))) pa_nil))))), ?_⟩
    refine ⟨fun σ H1 => ∃ (b : Addr) (u2 : Int) (s2 : Nat), σ = [some (.ref a), some (.ref b)] ∧ WAt W H1 a u s ∧ WAt W H1 b u2 s2 ∧ Small u2 s2 ∧ Gives W H1 (u * u2) (s + s2) Q, ?_, ?_⟩
    · refine ⟨_, rfl, y, rfl, ?_⟩
      rcases h with ⟨b, u2, s2, rfl, wb, sm2, gv⟩ | ⟨th, bad, hn⟩
      · exact .inl ⟨b, u2, s2, rfl, wb, b, u2, s2, rfl, wa, wb, sm2, gv⟩
      · exact .inr ⟨th, bad, fun n p H' e sm' np wp => ⟨p, n, 0, rfl, wa.same sm', wp, (hn n e).1, (hn n e).2.same sm'⟩⟩
    · rintro σ H1 ⟨b, u2, s2, rfl, ⟨dx, ea⟩, ⟨dy, eb⟩, sm2, gv⟩
      refine ⟨_, rfl, a, W, dx, _, .int u, rfl, ea, T.cls, T.nu, lk_u _ _, _, rfl, b, W, dy, _, .int u2, rfl, eb, T.cls, T.nu, lk_u _ _, _, _, rfl, rfl, wide_mul sm.2 sm2.2 (by decide) (by decide) (by decide), ?_⟩
      refine ⟨_, rfl, a, W, dx, _, .int s, rfl, ea, T.cls, T.ns, lk_s _ _, _, rfl, b, W, dy, _, .int s2, rfl, eb, T.cls, T.ns, lk_s _ _, _, _, rfl, rfl, ?_⟩
      have e2 : (s : Int) + (s2 : Int) = ((s + s2 : Nat) : Int) := by omega
      dsimp only
      rw [e2]
      have l1 := sm.1
      have l2 := sm2.1
      exact worth_of (by omega) gv
theorem scRmul : FnScope ["self", "other"] ["self", "other"] (defScope (wI 9)) := ⟨rfl, rfl, rfl, by decide +kernel, rfl, by decide +kernel, by decide +kernel⟩
def spRmul (C W : Addr) : Sp := fun vs H Q E => ∃ (a : Addr) (u : Int) (s : Nat) (y : V), vs = [.ref a, y] ∧ WAt W H a u s ∧ Small u s ∧ Thing H y ∧ (Own.isInt y = false → Bad C "value" y H E) ∧ ∀ n : Int, y = .int n → Small n 0 ∧ Gives W H (n * u) s Q
theorem ok_rmul {g : Addr} {fd : FuncData} (F : Fun K "__rmul__" "Worth.__rmul__" (wI 9) g fd) (D1 : DefOk P w K mg base (L2.CX P w) "as_worth" 13 ["value"] (spAsW C W)) (D2 : WOp P w K mg base W .Mult 14 (spMulW C W)) :
    FnOk P w K mg base (L2.CX P w) 15 g fd ["self", "other"] (spRmul C W) := by
  refine F.okX scRmul (fun vs H Q E h => ?_) (fun cdv A outer s0 H vs Q E hr h => ?_)
  · obtain ⟨a, u, s, y, rfl, _⟩ := h
    rfl
  · obtain ⟨a, u, s, y, rfl, wa, sm, th, bad, hn⟩ := h
    obtain ⟨fA, fdA, c1, c2, c3, FA, bA⟩ := D2.ex
    refine ⟨_, pss_one (ps_ret (pe_op (op_own (op := .Mult) (E := E) FA hr c1 c2 c3 bA (passes_call (takes_of rfl rfl rfl rfl) fun _ _ _ _ z => z)) (pe_def (E := E) D1 hr (by decide) (by rfl) (passes_call (takes_of rfl rfl rfl rfl) fun _ _ _ _ z => z) (pa_cons (pv 1) pa_nil)) (pv 0))), ?_⟩
    refine ⟨_, rfl, y, rfl, .inr ⟨th, bad, fun n p H' e sm' np wp => ?_⟩⟩
    obtain ⟨sn, gv⟩ := hn n e
    obtain ⟨dx, ea⟩ := wa.same sm'
    obtain ⟨dp, ep⟩ := id wp
    refine ⟨_, rfl, p, a, dp, dx, _, _, rfl, rfl, ep, ea, p, n, 0, .ref a, rfl, wp, sn, .inl ⟨a, u, s, rfl, ⟨dx, ea⟩, sm, ?_⟩⟩
    rw [show 0 + s = s by omega]
    exact gv.same sm'
theorem scNeg : FnScope ["self"] ["self"] (defScope (wI 10)) := ⟨rfl, rfl, rfl, by decide +kernel, rfl, by decide +kernel, by decide +kernel⟩
def spUn (W : Addr) (f : Int → Int) : Sp := fun vs H Q _ => ∃ (a : Addr) (u : Int) (s : Nat), vs = [.ref a] ∧ WAt W H a u s ∧ Small u s ∧ Gives W H (f u) s Q
theorem ok_neg {g : Addr} {fd : FuncData} (F : Fun K "__neg__" "Worth.__neg__" (wI 10) g fd) (T : WorthC K mg W) (M : WMk P w K mg base C W) : FnOk P w K mg base (L2.CX P w) 13 g fd ["self"] (spUn W fun u => -u) := by
  refine F.okX scNeg (fun vs H Q E h => ?_) (fun cdv A outer s0 H vs Q E hr h => ?_)
  · obtain ⟨a, u, s, rfl, _⟩ := h
    rfl
  · obtain ⟨a, u, s, rfl, ⟨dx, ea⟩, sm, gv⟩ := h
    refine ⟨_, pss_one (ps_ret (pe_worth (E := E) M T hr (by decide) (by rfl) (passes_call (takes_of rfl rfl rfl rfl) fun _ _ _ _ z => z) (pa_cons (pe_un un_neg (pe_fld (pv 0) (by rfl))) (pa_cons (pe_fld (pv 0) (by rfl)) pa_nil)))), ?_⟩
    refine ⟨_, rfl, a, W, dx, _, .int u, rfl, ea, T.cls, T.nu, lk_u _ _, u, rfl, _, rfl, a, W, dx, _, .int s, rfl, ea, T.cls, T.ns, lk_s _ _, ?_⟩
    have l1 := sm.1
    exact worth_of (by omega) gv
theorem scAbs : FnScope ["self"] ["self"] (defScope (wI 11)) := ⟨rfl, rfl, rfl, by decide +kernel, rfl, by decide +kernel, by decide +kernel⟩
theorem ok_abs {g : Addr} {fd : FuncData} (F : Fun K "__abs__" "Worth.__abs__" (wI 11) g fd) (B : Blt mg) (T : WorthC K mg W) (M : WMk P w K mg base C W) : FnOk P w K mg base (L2.CX P w) 13 g fd ["self"] (spUn W fun u => if u < 0 then -u else u) := by
  refine F.okX scAbs (fun vs H Q E h => ?_) (fun cdv A outer s0 H vs Q E hr h => ?_)
  · obtain ⟨a, u, s, rfl, _⟩ := h
    rfl
  · obtain ⟨a, u, s, rfl, ⟨dx, ea⟩, sm, gv⟩ := h
    refine ⟨_, pss_one (ps_ret (pe_worth (E := E) M T hr (by decide) (by rfl) (passes_call (takes_of rfl rfl rfl rfl) fun _ _ _ _ z => z) (pa_cons (pe_callB call_abs (by rfl) B.abs (by decide +kernel) (pa_cons (pe_fld (pv 0) (by rfl)) pa_nil)) (pa_cons (pe_fld (pv 0) (by rfl)) pa_nil)))), ?_⟩
    refine ⟨_, rfl, a, W, dx, _, .int u, rfl, ea, T.cls, T.nu, lk_u _ _, u, rfl, _, rfl, a, W, dx, _, .int s, rfl, ea, T.cls, T.ns, lk_s _ _, ?_⟩
    have l1 := sm.1
    exact worth_of (by omega) gv
theorem scSgn : FnScope ["self"] ["self"] (defScope (wI 13)) := ⟨rfl, rfl, rfl, by decide +kernel, rfl, by decide +kernel, by decide +kernel⟩
def sgn (u : Int) : Int := if u = 0 then 0 else if 0 < u then 1 else -1
def spSgn (W : Addr) : Sp := fun vs H Q _ => ∃ (a : Addr) (u : Int) (s : Nat), vs = [.ref a] ∧ WAt W H a u s ∧ Q (.int (sgn u)) H
theorem ok_sgn {g : Addr} {fd : FuncData} (F : Fun K "sign" "Worth.sign" (wI 13) g fd) (T : WorthC K mg W) : FnOk P w K mg base (L2.CX P w) 1 g fd ["self"] (spSgn W) := by
  refine F.okX scSgn (fun vs H Q E h => ?_) (fun cdv A outer s0 H vs Q E hr h => ?_)
  · obtain ⟨a, u, s, rfl, _⟩ := h
    rfl
  · obtain ⟨a, u, s, rfl, ⟨dx, ea⟩, q⟩ := h
    refine ⟨_, pss_cons (ps_if (pt_cmpR op_eq (pe_fld (pv 0) (by rfl)) pe_int (nomark _)) (pss_one (ps_ret pe_int)) pss_nil)
      (pss_one (ps_ret (pe_ifExp (pt_cmpR op_gt (pe_fld (pv 0) (by rfl)) pe_int (nomark _)) pe_int (pe_un un_neg pe_int)))), ?_⟩
    unfold sgn at q
    refine ⟨_, rfl, a, W, dx, _, .int u, rfl, ea, T.cls, T.nu, lk_u _ _, rfl, _, rfl, ite2 (fun e => ?_) (fun e => ?_)⟩
    · have h0 : u = 0 := by simpa using e
      rw [if_pos h0] at q
      exact q
    · have h0 : u ≠ 0 := by simpa using e
      rw [if_neg h0] at q
      refine ⟨_, rfl, a, W, dx, _, .int u, rfl, ea, T.cls, T.nu, lk_u _ _, _, _, rfl, rfl, _, rfl, ite2 (fun e => ?_) (fun e => ?_)⟩
      · rw [if_pos (of_decide_eq_true e)] at q
        exact q
      · rw [if_neg (fun z => e (decide_eq_true z))] at q
        exact ⟨_, rfl, q⟩
end
end K09

/-! k09: == of Worths, compare. -/
namespace K09
open PySem PySem.Spec PyProof.Rows L2 LamX NdefX Own
abbrev pNeedW : Stmt := topS 19
section
variable {P : Program} {w : World} {K : PySem.W.Frag} {mg : Str → Option Value} {base : Heap} {C C2 W : Addr}
theorem scEq : FnScope ["self", "other"] ["self", "other"] (defScope (wI 1)) := ⟨rfl, rfl, rfl, by decide +kernel, rfl, by decide +kernel, by decide +kernel⟩
def spEqW (W : Addr) : Sp := fun vs H Q _ => ∃ (a : Addr) (u : Int) (s : Nat) (y : V), vs = [.ref a, y] ∧ WAt W H a u s ∧ ((∃ (b : Addr) (u2 : Int) (s2 : Nat), y = .ref b ∧ WAt W H b u2 s2 ∧ ∀ H', Same H H' → Q (.bl (decide (u = u2) && decide (s = s2))) H') ∨ (Thing H y ∧ Q (.bl false) H))
theorem ok_eq {g : Addr} {fd : FuncData} (F : Fun K "__eq__" "Worth.__eq__" (wI 1) g fd) (B : Blt mg) (T : WorthC K mg W) (I : WIs K W) : FnOk P w K mg base (L2.CX P w) 1 g fd ["self", "other"] (spEqW W) := by
  refine F.okX scEq (fun vs H Q E h => ?_) (fun cdv A outer s0 H vs Q E hr h => ?_)
  · obtain ⟨a, u, s, y, rfl, _⟩ := h
    rfl
  · obtain ⟨a, u, s, y, rfl, ⟨dx, ea⟩, h⟩ := h
    refine ⟨_, pss_cons (ps_if (pt_not (pt_val (pe_callB call_isi (by rfl) B.isi (by decide +kernel) (pa_cons (pv 1) (pa_cons (pe_glob (v := .ref W) (by rfl) T.g rfl) pa_nil))))) (pss_one (ps_ret pe_bl)) pss_nil)
      (pss_one (ps_ret (pe_cmpR (op_eqD hr.units) (pe_tup (pa_cons (pe_fld (pv 0) (by rfl)) (pa_cons (pe_fld (pv 0) (by rfl)) pa_nil))) (pe_tup (pa_cons (pe_fld (pv 1) (by rfl)) (pa_cons (pe_fld (pv 1) (by rfl)) pa_nil))) (nomark _)))), ?_⟩
    rcases h with ⟨b, u2, s2, rfl, ⟨dy, eb⟩, q⟩ | ⟨th, q⟩
    · refine ⟨_, rfl, _, _, _, _, true, rfl, .own W, .base (.ins eb T.cls I.ha I.hn I.ht I.hm), by unfold PySem.W.kitOne; rw [if_pos (by simp)], _, rfl, iteF ?_⟩
      refine ⟨_, rfl, a, W, dx, _, .int (wFl u s), rfl, ea, T.cls, T.nf, wLk_f u s, _, rfl, a, W, dx, _, .str (wMo u s), rfl, ea, T.cls, T.nm, wLk_m u s, by show 2 ≤ sizeLine; decide, fun p np => ?_⟩
      have s1 := same_new (o := HO.tup [.int (wFl u s), .str (wMo u s)]) np
      have e1 : upd H p (.tup [.int (wFl u s), .str (wMo u s)]) p = some (.tup [.int (wFl u s), .str (wMo u s)]) := upd_same
      generalize upd H p (.tup [.int (wFl u s), .str (wMo u s)]) = H1 at s1 e1 ⊢
      have eb1 := s1 _ _ eb
      refine ⟨_, rfl, b, W, dy, _, .int (wFl u2 s2), rfl, eb1, T.cls, T.nf, wLk_f u2 s2, _, rfl, b, W, dy, _, .str (wMo u2 s2), rfl, eb1, T.cls, T.nm, wLk_m u2 s2, by show 2 ≤ sizeLine; decide, fun p2 np2 => ?_⟩
      have s2' := same_new (o := HO.tup [.int (wFl u2 s2), .str (wMo u2 s2)]) np2
      refine ⟨_, _, w_dp (s2' _ _ e1), w_dp upd_same, w_sh u s, w_sh u2 s2, ?_⟩
      rw [w_eqv]
      exact q _ (s1.trans s2')
    · obtain ⟨ty, hty, tx⟩ := th.tyx (K := K)
      exact ⟨_, rfl, _, _, _, _, false, rfl, .own W, tx, I.no ty hty, _, rfl, iteT q⟩
theorem scNeedW : FnScope ["value"] ["value"] (defScope pNeedW) := ⟨rfl, rfl, rfl, by decide +kernel, rfl, by decide +kernel, by decide +kernel⟩
def spNeedW (C W : Addr) : Sp := fun vs H Q E => ∃ x : V, vs = [x] ∧ ((∃ (a : Addr) (u : Int) (s : Nat), x = .ref a ∧ WAt W H a u s ∧ Q .non H) ∨ (Thing H x ∧ Bad C "value" x H E))
theorem ok_needW (A : At K mg "need_worth" pNeedW ["value"]) (B : Blt mg) (T : WorthC K mg W) (I : WIs K W) (TE : ErrC P w K mg base "BadValue" "value" 1 C (spErr C "value")) : DefOk P w K mg base (L2.CX P w) "need_worth" 3 ["value"] (spNeedW C W) := by
  refine A.ok fun f fd F => F.okX scNeedW (fun vs H Q E h => ?_) (fun cdv A outer s H vs Q E hr h => ?_)
  · obtain ⟨x, rfl, _⟩ := h
    rfl
  · obtain ⟨x, rfl, h⟩ := h
    refine ⟨_, pss_one (ps_if (pt_not (pt_val (pe_callB call_isi (by rfl) B.isi (by decide +kernel) (pa_cons (pv 0) (pa_cons (pe_glob (v := .ref W) (by rfl) T.g rfl) pa_nil))))) (pss_one (ps_raise rfl (takes_of rfl rfl rfl rfl) (pmk_err TE hr (by decide) (by rfl) (pv 0)))) pss_nil), ?_⟩
    rcases h with ⟨a, u, s', rfl, ⟨dx, ea⟩, q⟩ | ⟨th, bad⟩
    · exact ⟨_, rfl, _, _, _, _, true, rfl, .own W, .base (.ins ea T.cls I.ha I.hn I.ht I.hm), by unfold PySem.W.kitOne; rw [if_pos (by simp)], _, rfl, iteF q⟩
    · obtain ⟨ty, hty, tx⟩ := th.tyx (K := K)
      exact ⟨_, rfl, _, _, _, _, false, rfl, .own W, tx, I.no ty hty, _, rfl, iteT ⟨_, rfl, bad_mk bad⟩⟩
theorem sgn_mul {u : Int} {n : Nat} : sgn (u * (10 : Int) ^ n) = sgn u := by
  have p := ten_pos n
  unfold sgn
  by_cases h : u = 0
  · subst h
    simp
  · have h1 : u * (10 : Int) ^ n ≠ 0 := Int.mul_ne_zero h (by omega)
    rw [if_neg h, if_neg h1]
    by_cases h2 : 0 < u
    · rw [if_pos h2, if_pos (Int.mul_pos h2 p)]
    · have h3 : u * (10 : Int) ^ n < 0 := Int.mul_neg_of_neg_of_pos (by omega) p
      rw [if_neg h2, if_neg (by omega)]
end
end K09

/-! k09: the law's small defs. -/
namespace K09
open PySem PySem.Spec PyProof.Rows L2 LamX NdefX Own
abbrev sDrawn : Stmt := topS 34
abbrev sTold : Stmt := topS 36
abbrev sWorth : Stmt := topS 37
section
variable {P : Program} {w : World} {K : PySem.W.Frag} {mg : Str → Option Value} {base : Heap} {C C2 W : Addr}
theorem scWorth : FnScope ["_law_row"] ["_law_row"] (defScope sWorth) := ⟨rfl, rfl, rfl, by decide +kernel, rfl, by decide +kernel, by decide +kernel⟩
/-- Worth(row[0], row[1]) -/
def spWth (W : Addr) : Sp := fun vs H Q _ => ∃ (r : Addr) (u : Int) (s : Nat), vs = [.ref r] ∧ H r = some (.tup [.int u, .int s]) ∧ s < 500 ∧ Gives W H u s Q
theorem ok_worth (A : At K mg "_law_worth" sWorth ["_law_row"]) (T : WorthC K mg W) (M : WMk P w K mg base C W) : DefOk P w K mg base CX0 "_law_worth" 13 ["_law_row"] (spWth W) := by
  refine A.ok fun f fd F => F.ok scWorth (fun vs H Q E h => ?_) (fun cdv A outer s0 H vs Q E hr h => ?_)
  · obtain ⟨r, u, s, rfl, _⟩ := h
    rfl
  · obtain ⟨r, u, s, rfl, er, hs, gv⟩ := h
    refine ⟨_, pss_one (ps_ret (pe_worth (C := C) (E := E0) M T hr (by decide) (by rfl) passL (pa_cons (pe_ix ix_tup (pv 0) pe_int (fun _ _ => rfl)) (pa_cons (pe_ix ix_tup (pv 0) pe_int (fun _ _ => rfl)) pa_nil)))), ?_⟩
    exact ⟨_, rfl, r, _, 0, _, rfl, rfl, SqT.of er, rfl, _, rfl, r, _, 1, _, rfl, rfl, SqT.of er, rfl, worth_of hs gv⟩
theorem scDrawn : FnScope ["_law_pen", "_law_units", "_law_scale"] ["_law_pen"] (defScope sDrawn) := ⟨rfl, rfl, rfl, by decide +kernel, rfl, by decide +kernel, by decide +kernel⟩
/-- a worth as a pair -/
def spDrawn : Sp := fun vs H Q _ => ∃ (d : Addr) (B : Int), vs = [.ref d] ∧ Pen H d B ∧ B ≤ 800000000 ∧ ∀ (u : Int) (s : Nat) (r : Addr) (H' : Hp), u.natAbs < 2 ^ 202 → s ≤ 40 → KeepP d H H' → Pen H' d (B + 1000) → H' r = some (.tup [.int u, .int s]) → r ≠ d → Q (.ref r) H'
theorem fig60 {v : Int} (h0 : 0 ≤ v) (h : v ≤ 3 * (10 : Int) ^ 60) : v.natAbs < 2 ^ 201 := by
  have c : (3 * (10 : Int) ^ 60) < 2 ^ 201 := by decide +kernel
  have e : ((2 : Int) ^ 201) = ((2 ^ 201 : Nat) : Int) := by decide +kernel
  omega
theorem ok_drawn (A : At K mg "_law_drawn" sDrawn ["_law_pen"]) (D1 : DefOk P w K mg base CX0 "_law_draw" 1 ["_law_pen", "_law_span"] spDraw) (D2 : DefOk P w K mg base CX0 "_law_pick" 2 ["_law_pen", "_law_some"] spPick) (D3 : DefOk P w K mg base CX0 "_law_figures" 2 ["_law_pen", "_law_most"] spFigs) :
    DefOk P w K mg base CX0 "_law_drawn" 3 ["_law_pen"] spDrawn := by
  refine A.ok fun f fd F => F.ok scDrawn (fun vs H Q E h => ?_) (fun cdv A outer s0 H vs Q E hr h => ?_)
  · obtain ⟨d, B, rfl, _⟩ := h
    rfl
  · obtain ⟨d, B, rfl, hp, hB, q⟩ := h
    have nd := scDrawn.nd
    refine ⟨_, pss_cons (ps_par (i := 1) (j := 2) (by rfl) nd rfl rfl (by decide) rfl rfl (pa_cons (pe_def D3 hr (by decide) (by rfl) pass0 (pa_cons (pv 0) (pa_cons pe_int pa_nil)))
        (pa_cons (pe_def D2 hr (by decide) (by rfl) pass0 (pa_cons (pv 0) (pa_cons (pe_lst (pa_cons pe_int (pa_cons pe_int (pa_cons pe_int (pa_cons (pe_def D1 hr (by decide) (by rfl) pass0 (pa_cons (pv 0) (pa_cons pe_int pa_nil))) pa_nil))))) pa_nil))) pa_nil)) (by rfl))
      (pss_one (ps_ret (pe_tup (pa_cons (pe_op op_mulW (pe_def D2 hr (by decide) (by rfl) pass0 (pa_cons (pv 0) (pa_cons (pe_lst (pa_cons pe_int (pa_cons (pe_un un_neg pe_int) pa_nil))) pa_nil))) (pv 1)) (pa_cons (pv 2) pa_nil))))), ?_⟩
    refine ⟨_, rfl, d, 60, B, rfl, by decide, by decide, hp, by omega, fun v H1 a1 a2 k1 p1 => ?_⟩
    refine ⟨_, rfl, _, rfl, d, 41, _, rfl, p1, by omega, by decide, by decide, fun z H2 b1 b2 k2 p2 => ?_⟩
    refine ⟨by show 4 ≤ sizeLine; decide, fun l nl => ?_⟩
    refine ⟨d, l, _, _, rfl, upd_same, by simp, by show 4 ≤ 1000; decide, p2.same (same_new nl), by omega, fun x H3 hx k3 p3 => ?_⟩
    have hx : ∃ s : Nat, x = .int s ∧ s ≤ 40 := by
      simp only [List.mem_cons, List.not_mem_nil, or_false] at hx
      rcases hx with rfl | rfl | rfl | rfl
      · exact ⟨0, rfl, by decide⟩
      · exact ⟨1, rfl, by decide⟩
      · exact ⟨2, rfl, by decide⟩
      · exact ⟨z.toNat, by rw [Int.toNat_of_nonneg b1], by omega⟩
    obtain ⟨s, rfl, hs⟩ := hx
    refine ⟨_, _, rfl, ?_⟩
    refine ⟨_, rfl, _, rfl, by show 2 ≤ sizeLine; decide, fun l2 nl2 => ?_⟩
    refine ⟨d, l2, _, _, rfl, upd_same, by simp, by show 2 ≤ 1000; decide, p3.same (same_new nl2), by omega, fun x H4 hx k4 p4 => ?_⟩
    have hx : ∃ y : Int, x = .int y ∧ y.natAbs < 2 ^ 1 := by
      simp only [List.mem_cons, List.not_mem_nil, or_false] at hx
      rcases hx with rfl | rfl
      · exact ⟨_, rfl, by decide⟩
      · exact ⟨_, rfl, by decide⟩
    obtain ⟨y, rfl, hy⟩ := hx
    have f1 := fig60 a1 a2
    refine ⟨_, rfl, _, _, rfl, rfl, wide_mul hy f1 (by decide) (by decide) (by decide), _, rfl, by show 2 ≤ sizeLine; decide, fun r nr => ?_⟩
    obtain ⟨pp, ns, cc, ll, ed, _⟩ := id p4.ex
    refine q _ s r _ (up_two (wide_lt hy f1) (by decide)) hs (((k1.trans k2).trans ((KeepP.new nl).trans k3)).trans (((KeepP.new nl2).trans k4).trans (KeepP.new nr))) ((p4.same (same_new nr)).mono (by omega)) upd_same (ne_of_none ed nr).symm
end
end K09

/-! k09: told. -/
namespace K09
open PySem PySem.Spec PyProof.Rows L2 LamX NdefX Own
section
variable {P : Program} {w : World} {K : PySem.W.Frag} {mg : Str → Option Value} {base : Heap} {C C2 W : Addr}
theorem scTold : FnScope ["_law_worth_here", "_law_part"] ["_law_worth_here"] (defScope sTold) := ⟨rfl, rfl, rfl, by decide +kernel, rfl, by decide +kernel, by decide +kernel⟩
def spTold (W : Addr) : Sp := fun vs H Q _ => ∃ (a : Addr) (u : Int) (s : Nat), vs = [.ref a] ∧ WAt W H a u s ∧ ∀ (r : Addr) (H' : Hp), Same H H' → H r = none → H' r = some (.tup [.int u, .int s]) → Q (.ref r) H'
theorem ok_told (A : At K mg "_law_told" sTold ["_law_worth_here"]) (B : Blt mg) (T : WorthC K mg W) (I : WIs K W) : DefOk P w K mg base CX0 "_law_told" 1 ["_law_worth_here"] (spTold W) := by
  refine A.ok fun f fd F => F.ok scTold (fun vs H Q E h => ?_) (fun cdv A outer s0 H vs Q E hr h => ?_)
  · obtain ⟨a, u, s, rfl, _⟩ := h
    rfl
  · obtain ⟨a, u, s, rfl, ⟨dx, ea⟩, q⟩ := h
    have nd := scTold.nd
    refine ⟨_, pss_cons (ps_if (pt_not (pt_val (pe_callB call_isi (by rfl) B.isi (by decide +kernel) (pa_cons (pv 0) (pa_cons (pe_glob (v := .ref W) (by rfl) T.g rfl) pa_nil))))) (pss_one (ps_ret pe_non)) pss_nil)
      (pss_cons (ps_for PassesOwn.never rfl (pi_tup (pe_tup (pa_cons (pe_fld (pv 0) (by rfl)) (pa_cons (pe_fld (pv 0) (by rfl)) pa_nil)))) (pg_name (i := 1) nd rfl (.inl rfl))
        (pss_one (ps_if (PW.pt (pw_or (pt_not (pt_val (pe_callB call_isi (by rfl) B.isi (by decide +kernel) (pa_cons (pv 1) (pa_cons (pe_bltn (v := .ty "int") (by rfl) B.int (by decide +kernel) rfl) pa_nil)))))
          (pw_or1 (pt_val (pe_callB call_isi (by rfl) B.isi (by decide +kernel) (pa_cons (pv 1) (pa_cons (pe_bltn (v := .ty "bool") (by rfl) B.bool (by decide +kernel) rfl) pa_nil))))))) (pss_one (ps_ret pe_non)) pss_nil)))
      (pss_one (ps_ret (pe_tup (pa_cons (pe_fld (pv 0) (by rfl)) (pa_cons (pe_fld (pv 0) (by rfl)) pa_nil)))))), ?_⟩
    refine ⟨_, rfl, _, _, _, _, true, rfl, .own W, .base (.ins ea T.cls I.ha I.hn I.ht I.hm), by unfold PySem.W.kitOne; rw [if_pos (by simp)], _, rfl, iteF ?_⟩
    refine ⟨_, rfl, a, W, dx, _, .int u, rfl, ea, T.cls, T.nu, lk_u _ _, _, rfl, a, W, dx, _, .int s, rfl, ea, T.cls, T.ns, lk_s _ _, by show 2 ≤ sizeLine; decide, fun p np => ?_⟩
    have s1 := same_new (o := HO.tup [.int u, .int s]) np
    refine ⟨p, rfl, ⟨_, SqT.of upd_same⟩, for_tup (K := K) (xs := [.int u, .int s]) (fun i σ H' => (∃ y : Option V, σ = [some (.ref a), y]) ∧ H' = upd H p (.tup [.int u, .int s])) ⟨⟨none, rfl⟩, rfl⟩ (fun i σ H' _ z => by rw [z.2]; exact SqT.of upd_same) ?_ ?_⟩
    · rintro i x σ H' hx ⟨⟨y, rfl⟩, rfl⟩
      have hi : ∃ n : Int, x = .int n := by
        have m := List.mem_of_getElem? hx
        simp only [List.mem_cons, List.not_mem_nil, or_false] at m
        rcases m with rfl | rfl
        · exact ⟨_, rfl⟩
        · exact ⟨_, rfl⟩
      obtain ⟨n, rfl⟩ := hi
      obtain ⟨t, h1, h2, h3⟩ := (Thing.int (H := upd H p (.tup [.int u, .int s])) n).isi (K := K)
      refine ⟨_, rfl, _, _, t, _, _, rfl, .ty _, h1, h2, _, rfl, iteF ⟨_, rfl, _, _, t, _, _, rfl, .ty _, h1, h3, _, rfl, iteF ?_⟩⟩
      exact ⟨⟨_, rfl⟩, rfl⟩
    · rintro σ H' ⟨⟨y, rfl⟩, rfl⟩
      have ea1 := s1 _ _ ea
      refine ⟨_, rfl, a, W, dx, _, .int u, rfl, ea1, T.cls, T.nu, lk_u _ _, _, rfl, a, W, dx, _, .int s, rfl, ea1, T.cls, T.ns, lk_s _ _, by show 2 ≤ sizeLine; decide, fun r nr => ?_⟩
      exact q r _ (s1.trans (same_new nr)) (s1.free nr) upd_same
end
end K09

/-! k09: the zeros behind a number, as its text tells them. -/
namespace Own
open PySem PySem.Spec PyProof.Rows L2
def isZ (c : Nat) : Bool := (#[48] : Array Nat).contains c
theorem isZ_iff (c : Nat) : isZ c = true ↔ c = 48 := by
  unfold isZ
  simp
/-- zeros at the end -/
def zz (l : List Nat) : Nat := (l.reverse.takeWhile isZ).length
theorem zz_snoc (l : List Nat) (c : Nat) : zz (l ++ [c]) = if isZ c = true then zz l + 1 else 0 := by
  unfold zz
  rw [List.reverse_append, List.reverse_singleton, List.singleton_append, List.takeWhile_cons]
  by_cases h : isZ c = true
  · rw [if_pos h, if_pos h, List.length_cons]
  · rw [if_neg h, if_neg h]
    rfl
theorem zz_cons {c : Nat} (h : isZ c = false) : ∀ l : List Nat, zz (c :: l) = zz l := by
  intro l
  unfold zz
  rw [List.reverse_cons, List.takeWhile_append]
  split
  · rename_i e
    rw [List.takeWhile_cons, h]
    simp [e]
  · rfl
theorem zz_num : ∀ n : Nat, 0 < n → 10 ^ zz (TL.numL n) ∣ n ∧ ¬ 10 ^ (zz (TL.numL n) + 1) ∣ n := by
  intro n
  induction n using Nat.strongRecOn with
  | _ n ih =>
    intro h0
    by_cases h : n < 10
    · rw [TL.numL_lt h]
      have e : zz ([48 + n] : List Nat) = 0 := by
        have z := zz_snoc [] (48 + n)
        rw [List.nil_append] at z
        rw [z, if_neg]
        rw [isZ_iff]
        omega
      rw [e]
      exact ⟨by simp, by simp; omega⟩
    · rw [TL.numL_step (by omega), zz_snoc]
      by_cases hz : n % 10 = 0
      · rw [if_pos (by rw [isZ_iff]; omega)]
        obtain ⟨i1, i2⟩ := ih (n / 10) (by omega) (by omega)
        have en : n = 10 * (n / 10) := by omega
        refine ⟨?_, fun d => i2 ?_⟩
        · rw [en, Nat.pow_succ, Nat.mul_comm]
          have : 10 * (n / 10) / 10 = n / 10 := by omega
          rw [this]
          exact Nat.mul_dvd_mul_left 10 i1
        · rw [en, Nat.pow_succ, Nat.mul_comm] at d
          have : 10 * (n / 10) / 10 = n / 10 := by omega
          rw [this] at d
          exact Nat.dvd_of_mul_dvd_mul_left (by decide) d
      · rw [if_neg (by rw [isZ_iff]; omega)]
        exact ⟨by simp, by simp; omega⟩
open PySem.Builtin PySem.Builtin.Str in
/-- len(x) - len(x.rstrip('0')) -/
theorem strip_len (x : PySem.Str) : (Txt.rstripChars x "0").length = x.length - zz x.cps.toList := by
  have e0 : ("0" : PySem.Str).cps = #[48] := zero_cps
  unfold Txt.rstripChars
  rw [stripBy_eq, e0]
  have e1 : stripLo (#[48] : Array Nat).contains false x = 0 := rfl
  have e2 : stripHi (#[48] : Array Nat).contains true x 0 = x.length - zz x.cps.toList := rfl
  rw [e1, e2]
  have l : x.length = x.cps.size := rfl
  show (x.cps.extract 0 (x.length - zz x.cps.toList)).size = _
  rw [Array.size_extract, l]
  omega
theorem zz_le (l : List Nat) : zz l ≤ l.length := by
  unfold zz
  have := takeWhile_len_le isZ l.reverse
  rw [List.length_reverse] at this
  exact this
/-- an integer's text: as many zeros at its end as it has -/
theorem zz_int {u : Int} (h : u ≠ 0) : (10 : Int) ^ zz (PySem.Str.ofString (toString u)).cps.toList ∣ u ∧ ¬ (10 : Int) ^ (zz (PySem.Str.ofString (toString u)).cps.toList + 1) ∣ u := by
  have nat : ∀ n : Nat, 0 < n → (10 : Int) ^ zz (TL.numL n) ∣ (n : Int) ∧ ¬ (10 : Int) ^ (zz (TL.numL n) + 1) ∣ (n : Int) := fun n hn => by
    obtain ⟨a, b⟩ := zz_num n hn
    have c : ∀ k : Nat, ((10 : Int) ^ k) = ((10 ^ k : Nat) : Int) := fun k => by simp
    rw [c, c]
    exact ⟨Int.natCast_dvd_natCast.mpr a, fun z => b (Int.natCast_dvd_natCast.mp z)⟩
  by_cases h0 : 0 < u
  · obtain ⟨n, rfl⟩ : ∃ n : Nat, u = (n : Int) := ⟨u.toNat, (Int.toNat_of_nonneg (by omega)).symm⟩
    have e : (PySem.Str.ofString (toString (n : Int))).cps.toList = TL.numL n := TL.tl_num n
    rw [e]
    exact nat n (by omega)
  · have hu : u < 0 := by omega
    obtain ⟨n, hn⟩ : ∃ n : Nat, 0 - u = (n : Int) := ⟨(0 - u).toNat, (Int.toNat_of_nonneg (by omega)).symm⟩
    have e : (PySem.Str.ofString (toString u)).cps.toList = 45 :: TL.numL n := by
      rw [toString_neg hu, hn, PyProof.Rows.signs_ofString, String.toList_append, List.map_append, ← PyProof.Rows.signs_ofString (toString (n : Int))]
      have e : (PySem.Str.ofString (toString (n : Int))).cps.toList = TL.numL n := TL.tl_num n
      rw [e]
      rfl
    rw [e, zz_cons (by decide +kernel)]
    obtain ⟨a, b⟩ := nat n (by omega)
    have eu : u = -(n : Int) := by omega
    rw [eu]
    exact ⟨(Int.dvd_neg).mpr a, fun z => b ((Int.dvd_neg).mp z)⟩
end Own

/-! k09: low. -/
namespace K09
open PySem PySem.Spec PyProof.Rows L2 LamX NdefX Own
abbrev sLow : Stmt := topS 35
theorem low_uniq {u : Int} {s : Nat} {u1 u2 : Int} {s1 s2 : Nat} (a : IsLow u s u1 s1) (b : IsLow u s u2 s2) (h : s1 ≤ s2) : u1 = u2 ∧ s1 = s2 := by
  have p := ten_pos (s - s2)
  have e : u1 * (10 : Int) ^ (s2 - s1) = u2 := by
    have z := a.eq.symm.trans b.eq
    have le := b.le
    have e2 : s - s1 = (s2 - s1) + (s - s2) := by omega
    rw [e2, Int.pow_add, ← Int.mul_assoc] at z
    exact Int.eq_of_mul_eq_mul_right (by omega) z
  by_cases hs : s1 = s2
  · subst hs
    simp at e
    exact ⟨e, rfl⟩
  · exfalso
    rcases b.own with z | z
    · omega
    · refine z ?_
      rw [← e]
      have e3 : s2 - s1 = (s2 - s1 - 1) + 1 := by omega
      rw [e3, Int.pow_succ, ← Int.mul_assoc]
      exact Int.mul_emod_left _ _
theorem low_eq {u : Int} {s : Nat} {u1 u2 : Int} {s1 s2 : Nat} (a : IsLow u s u1 s1) (b : IsLow u s u2 s2) : u1 = u2 ∧ s1 = s2 := by
  rcases Nat.le_total s1 s2 with h | h
  · exact low_uniq a b h
  · obtain ⟨x, y⟩ := low_uniq b a h
    exact ⟨x.symm, y.symm⟩
theorem low_of {u : Int} {s z : Nat} (d : (10 : Int) ^ z ∣ u) (n : ¬ (10 : Int) ^ (z + 1) ∣ u) : IsLow u s (u / (10 : Int) ^ min s z) (s - min s z) := by
  obtain ⟨c, rfl⟩ := d
  have p := ten_pos (min s z)
  have e : (10 : Int) ^ z = (10 : Int) ^ min s z * (10 : Int) ^ (z - min s z) := by
    rw [← Int.pow_add]
    congr 1
    omega
  have q : (10 : Int) ^ z * c / (10 : Int) ^ min s z = (10 : Int) ^ (z - min s z) * c := by
    rw [e, Int.mul_assoc, Int.mul_ediv_cancel_left _ (by omega)]
  refine ⟨by omega, ?_, ?_⟩
  · rw [q, show s - (s - min s z) = min s z by omega, e]
    rw [Int.mul_assoc, Int.mul_comm]
  · by_cases h : s ≤ z
    · exact .inl (by omega)
    · refine .inr fun m => n ?_
      rw [q, show z - min s z = 0 by omega] at m
      simp at m
      obtain ⟨k, rfl⟩ := Int.dvd_of_emod_eq_zero (by simpa using m : c % 10 = 0)
      exact ⟨k, by rw [Int.pow_succ, Int.mul_assoc]⟩
section
variable {P : Program} {w : World} {K : PySem.W.Frag} {mg : Str → Option Value} {base : Heap} {C C2 W : Addr}
theorem scLow : FnScope ["_law_units", "_law_scale", "_law_text", "_law_tail"] ["_law_units", "_law_scale"] (defScope sLow) := ⟨rfl, rfl, rfl, by decide +kernel, rfl, by decide +kernel, by decide +kernel⟩
def spLow : Sp := fun vs H Q _ => ∃ (u : Int) (s : Nat), vs = [.int u, .int s] ∧ u.natAbs < 2 ^ 1900 ∧ s ≤ 600 ∧ ∀ (u' : Int) (s' : Nat) (r : Addr), IsLow u s u' s' → H r = none → Q (.ref r) (upd H r (.tup [.int u', .int s']))
theorem min_if (s z : Nat) : (if ((z : Nat) : Int) < ((s : Nat) : Int) then ((z : Nat) : Int) else ((s : Nat) : Int)) = ((min s z : Nat) : Int) := by
  by_cases h : z < s
  · rw [if_pos (by omega)]
    omega
  · rw [if_neg (by omega)]
    omega
theorem text_len {u : Int} (h : u.natAbs < 2 ^ 1900) : (Str.ofString (toString u)).length ≤ 601 := by
  have b : ∀ n : Nat, n < 2 ^ 1900 → (TL.numL n).length ≤ 600 := fun n hn => TL.numL_len (by decide) (Nat.lt_of_lt_of_le hn (by decide +kernel))
  have l : ∀ n : Nat, (Str.ofString (toString (n : Int))).length = (TL.numL n).length := fun n => by
    rw [str_len]
    have e : (PySem.Str.ofString (toString (n : Int))).cps.toList = TL.numL n := TL.tl_num n
    rw [e]
  by_cases h0 : 0 ≤ u
  · obtain ⟨n, rfl⟩ : ∃ n : Nat, u = (n : Int) := ⟨u.toNat, (Int.toNat_of_nonneg h0).symm⟩
    rw [l n]
    have := b n (by simpa using h)
    omega
  · obtain ⟨n, hn⟩ : ∃ n : Nat, 0 - u = (n : Int) := ⟨(0 - u).toNat, (Int.toNat_of_nonneg (by omega)).symm⟩
    rw [len_text_neg (by omega), hn, l n]
    have := b n (by have e : n = u.natAbs := by omega
                    rw [e]; exact h)
    omega
theorem ok_low (A : At K mg "_law_low" sLow ["_law_units", "_law_scale"]) (B : Blt mg) (D : DefOk P w K mg base CX0 "_law_ten" 1 ["_law_number"] spTen) : DefOk P w K mg base CX0 "_law_low" 2 ["_law_units", "_law_scale"] spLow := by
  refine A.ok fun f fd F => F.ok scLow (fun vs H Q E h => ?_) (fun cdv A outer s0 H vs Q E hr h => ?_)
  · obtain ⟨u, s, rfl, _⟩ := h
    rfl
  · obtain ⟨u, s, rfl, hu, hs, q⟩ := h
    have nd := scLow.nd
    refine ⟨_, pss_cons (ps_if (pt_cmpR op_eq (pv 0) pe_int (nomark _)) (pss_one (ps_ret (pe_tup (pa_cons pe_int (pa_cons pe_int pa_nil))))) pss_nil)
      (pss_cons (ps_set (i := 2) nd rfl (.inl rfl) (pe_callTy call_str_int (by rfl) B.str (by decide +kernel) (pa_cons (pv 0) pa_nil)))
      (pss_cons (ps_set (i := 3) nd rfl (.inl rfl) (pe_callB (call_min2 rfl) (by rfl) B.min (by decide +kernel) (pa_cons (pv 1) (pa_cons (pe_op op_sub (pe_callB call_len_str (by rfl) B.len PySem.boot_len (pa_cons (pv 2) pa_nil))
        (pe_callB call_len_str (by rfl) B.len PySem.boot_len (pa_cons (pe_bm PySem.F.plainAttrs_str PySem.F.slot_str_rstrip PySem.F.type_str_rstrip mt_rstripChars (pv 2) (pa_cons pe_str pa_nil)) pa_nil))) pa_nil))))
      (pss_one (ps_ret (pe_tup (pa_cons (pe_op op_fdivW (pv 0) (pe_def D hr (by decide) (by rfl) pass0 (pa_cons (pv 3) pa_nil))) (pa_cons (pe_op op_sub (pv 1) (pv 3)) pa_nil))))))), ?_⟩
    refine ⟨_, rfl, rfl, _, rfl, ite2 (fun e => ?_) (fun e => ?_)⟩
    · have h0 : u = 0 := by simpa using e
      exact ⟨by show 2 ≤ sizeLine; decide, fun r nr => q 0 0 r ⟨Nat.zero_le _, by rw [h0]; simp, .inl rfl⟩ nr⟩
    · have h0 : u ≠ 0 := by simpa using e
      have tl := text_len hu
      have big : (601 : Nat) ≤ sizeLine := by have := sizeLine_eq; omega
      refine ⟨_, rfl, u, rfl, log2_lt (up_two hu (by decide)) (by decide), ?_⟩
      have sl := len_rstripChars (Str.ofString (toString u)) "0"
      refine ⟨_, rfl, _, rfl, Str.ofString (toString u), rfl, by omega, _, rfl, rfl, Str.ofString (toString u), "0", rfl, rfl, by omega, _, rfl, by omega, _, _, rfl, rfl, _, _, rfl, ?_⟩
      have zl := zz_le (Str.ofString (toString u)).cps.toList
      rw [← str_len] at zl
      have e1 : ((Str.ofString (toString u)).length : Int) - ((Txt.rstripChars (Str.ofString (toString u)) "0").length : Int) = ((zz (Str.ofString (toString u)).cps.toList : Nat) : Int) := by
        rw [strip_len]
        omega
      obtain ⟨d1, d2⟩ := zz_int h0
      dsimp only [gName, List.set]
      rw [e1, min_if]
      generalize zz (Str.ofString (toString u)).cps.toList = z at d1 d2 zl
      have lw := low_of (s := s) d1 d2
      have e2 : (s : Int) - ((min s z : Nat) : Int) = ((s - min s z : Nat) : Int) := by omega
      have tp := ten_pos (min s z)
      refine ⟨_, rfl, _, rfl, min s z, rfl, ?_, u, _, rfl, rfl, wide_div tp (ten_lt (min s z)) (by omega) (by omega), _, rfl, _, rfl, _, _, rfl, rfl, by show 2 ≤ sizeLine; decide, fun r nr => ?_⟩
      · omega
      · dsimp only
        rw [e2]
        exact q _ _ r lw nr
end
end K09

/-! own layer, of no law: OWNX: isinstance of a caught error with a field; a def called with a lambda written there. -/
namespace Own
open PySem PySem.Spec PyProof.Rows L2 LamX NdefX
/-- isinstance(e, c), e the exception with a dict that the suite holds -/
theorem call_isED {X : Cx} {a D : Addr} {oe : Obj} {cls : Value} {d : Option Addr} {pn : List (Addr × Obj)} (C : ExcC X.K D) (hz : Zc cls d oe) (hf : ∃ vs, oe.data = .fields vs) : CallR (X.suite a ((a, oe) :: pn)) (.builtin "isinstance")
    (fun xs H Q => ∃ (c : V) (cv : Value) (b : Bool) (dd : Addr) (fs : List (Str × V)), xs = [.ref a, c] ∧ cls = .ref D ∧ d = some dd ∧ H dd = some (.xd fs) ∧ ClsV c cv ∧ PySem.W.kitOne X.K (.ref D) cv = some b ∧ Q (.bl b) H) := by
  intro pins s σ H xs us Q I r h
  obtain ⟨c, cv, b, dd, fs, rfl, rfl, rfl, ea, hcv, e, q⟩ := h
  obtain ⟨u1, u2, rfl, r1, r2⟩ := vals2 r
  have ec := hcv.eq r2
  subst ec
  cases (show u1 = Value.ref a from r1)
  obtain ⟨hget, _⟩ := I.pin (a, oe) (List.mem_append.mpr (.inl List.mem_cons_self))
  obtain ⟨vs, hv⟩ := hf
  have hx : ObjOk X.prog X.w H s.heap dd (.xd fs) := I.hok dd _ ea
  obtain ⟨mA, hns, hr⟩ := hx
  obtain ⟨od, ho, hl⟩ := lookIn_ns hns
  have J : PySem.W.InstAt s.heap a oe D (some od) := ⟨hget, hz.1, by unfold PySem.W.notCls; rw [hv] <;> rfl, by rw [hz.2]; exact ho⟩
  obtain ⟨cd, hc, _⟩ := PySem.W.any_some C.hd
  exact PySem.W.kia_one (PySem.W.kitx_exc (by rw [hc]; rfl) C.hg C.hk C.hs C.ha C.hn C.ht C.hm) I.kIn J e (fun z => nomatch z) fun tk => ⟨.bl b, H, I.kept (t' := tk) fun _ _ z => z, rfl, q⟩
/-- x(lambda: ..), the lambda without parameters -/
def tLamDir (X : Cx) (T : List (Addr × Str)) (params : Arguments) (body : Expr) (scope : Scope) (js : List Nat) (sp : (Hp → VK → XK → Prop) → List V → Hp → VK → Prop) (spl : List (Option V) → Hp → VK → XK → Prop) : TE :=
  fun σ H Q => tCons (tLamV X T params body scope) tNil σ H fun vs H1 => ∃ f c' : Addr, vs = [.ref f] ∧ LamAt H1 f (lamF X params scope c') body ∧ H1 c' = some (CodeO c' (X.env.qual ++ "<lambda>")) ∧ sp (spl (js.map (slotAt σ))) [] H1 Q
theorem pe_lamdir {X : Cx} {T : List (Addr × Str)} {params : Arguments} {body : Expr} {scope : Scope} {js : List Nat} {fr : List Str} {k kl j : Nat} {sp : (Hp → VK → XK → Prop) → List V → Hp → VK → Prop} {spl : List (Option V) → Hp → VK → XK → Prop} {x : Str} {p pos lpos : Pos}
    (D : LamDefAt X.prog X.w X.K X.mg X.base x k sp) (hkl : kl < k) (hr : Room j X.A) (hj : k ≤ j) (G : ∀ (f c' : Addr), LOk X.prog X.w X.K X.mg X.base (L2.CX X.prog X.w) kl f (lamF X params scope c') body fr spl)
    (hl : PE X (.Lambda params body scope lpos) (tLamV X T params body scope))
    (hfree : ∀ y ∈ scope.names, y.2 = .free → X.env.scope.names.lookup y.1 = some .cell ∨ X.env.scope.names.lookup y.1 = some .free) (hfr : ∀ y ∈ fr, (y, NameKind.free) ∈ scope.names) (hjs : js.map (fun j => X.N[j]?) = fr.map some)
    (hg : Gl X x) (hdb : (x == ("__debug__" : Str)) = false := by decide) (he : starEach [.Lambda params body scope lpos] X.env = (false, eval (.Lambda params body scope lpos) X.env) :: starEach [] X.env := by rfl) (hpl : (backTo pos (starEach [] X.env)).any (·.1) = false := by rfl) :
    PE X (.Call (.Name x p) [.Lambda params body scope lpos] [] pos) (tLamDir X T params body scope js sp spl) := by
  obtain ⟨g, R, gm, kp⟩ := D.ex
  have ha := pa_cons hl pa_nil
  constructor
  intro pins s σ H Q I h
  refine wpAny_Call_Name_kw (ld_glob I hg gm ?_ hdb)
  refine PySem.W.callWith_K (h₀ := X.base) I.ok.mod.kin kp (thn (ha.run pos pins s σ H _ I h) ?_) he hpl
  rintro us s1 ⟨vs, H1, I1, r, f, c', rfl, hf, hc, q⟩
  refine ⟨I1.kIn, wpAny_call (codeAny_mono (R.run X.A X.stack s1 H1 us f [] _ _ _ _ _ kl Q (hr.mono hj) hkl I1.env0 r (G f c') hf hc (cells_blk I1 hfree hfr hjs) q) fun z s' hz => ?_)⟩
  rcases z with er | fl
  · exact (show False from hz).elim
  · cases fl
    case ret u => exact I1.after hz
    all_goals exact False.elim hz
/-- x is flat, or an object -/
def Selfy (x : V) : Prop := flatV x = true ∨ ∃ a, x = .ref a
theorem Odd.selfy {H : Hp} {x : V} (h : Odd H x) : Selfy x := by
  cases h with
  | flat h => exact .inl (by cases x <;> first | rfl | (simp [okF] at h))
  | lst e f => exact .inr ⟨_, rfl⟩
  | tup e f => exact .inr ⟨_, rfl⟩
  | dct e n f => exact .inr ⟨_, rfl⟩
theorem eqV_self {x : V} (h : flatV x = true) : eqV x x = true := by
  cases x <;> first | (cases h; done) | rfl | (simp [eqV]; done)
theorem selfy_at {A : Around} {s : Shared} {x : V} {u v : Value} (h : Selfy x) (ru : RelV x u) (rv : RelV x v) : SeqAt.EqAt A s u v true := by
  rcases h with h | ⟨a, rfl⟩
  · have z := eqAt_V (A := A) (s := s) ru rv h h
    rw [eqV_self h] at z
    exact z
  · cases (show u = Value.ref a from ru)
    cases (show v = Value.ref a from rv)
    exact SeqAt.EqAt.same _
/-- [x] == [x], [x] != [x] -/
def rOne (K : PySem.W.Frag) (b : Bool) : R2 := fun x y H Q => ∃ (l m : Addr) (z : V), x = .ref l ∧ y = .ref m ∧ SqL K H l [z] ∧ SqL K H m [z] ∧ Selfy z ∧ Q (.bl b) H
section
variable {X : Cx}
theorem one_at {pins : List (Addr × Obj)} {σ : L2.St} {H : Hp} {s : Shared} {l m : Addr} {z : V} (I : Inv X pins σ H s) (h1 : SqL X.K H l [z]) (h2 : SqL X.K H m [z]) (hz : Selfy z) : ∃ i1 i2 : Value, s.heap.IsList l #[i1] ∧ s.heap.IsList m #[i2] ∧ ∀ A : Around, SeqAt.EqAt A s i1 i2 true := by
  obtain ⟨its1, r1, l1, _⟩ := I.list h1
  obtain ⟨its2, r2, l2, _⟩ := I.list h2
  obtain ⟨v1, rfl, q1⟩ := r1.one
  obtain ⟨v2, rfl, q2⟩ := r2.one
  exact ⟨v1, v2, l1.isList, l2.isList, fun A => selfy_at hz q1 q2⟩
theorem op_eqOne (hu : X.A.units + 64 < cLine) : OpR X (compareOp .Eq) (rOne X.K true) := by
  intro pins s σ H x y v u Q I rx ry h
  obtain ⟨l, m, z, rfl, rfl, h1, h2, hz, q⟩ := h
  cases (show v = Value.ref l from rx)
  cases (show u = Value.ref m from ry)
  obtain ⟨i1, i2, e1, e2, at_⟩ := one_at I h1 h2 hz
  have := SeqAt.RcAt.lists (A := X.A) (e := fun _ => true) e1 e2 rfl (by omega) (fun j j1 j2 => by
    have a : j = 0 := by have : j < 1 := j1; omega
    subst a
    exact at_ _)
  exact this X.prog X.w _ _ ⟨.bl true, H, I, rfl, q⟩
theorem op_neOne (hu : X.A.units + 64 < cLine) : OpR X (compareOp .NotEq) (rOne X.K false) := by
  intro pins s σ H x y v u Q I rx ry h
  obtain ⟨l, m, z, rfl, rfl, h1, h2, hz, q⟩ := h
  cases (show v = Value.ref l from rx)
  cases (show u = Value.ref m from ry)
  obtain ⟨i1, i2, e1, e2, at_⟩ := one_at I h1 h2 hz
  have := SeqAt.RcNeAt.lists (A := X.A) (e := fun _ => true) e1 e2 rfl (by omega) (fun j j1 j2 => by
    have a : j = 0 := by have : j < 1 := j1; omega
    subst a
    exact at_ _)
  exact this X.prog X.w _ _ ⟨.bl false, H, I, rfl, q⟩
end
end Own

/-! own layer, of no law: OWNQ: a pen with any names for its cells, its count and what is left. -/
namespace Own
open PySem PySem.Spec PyProof.Rows L2 LamX NdefX
def penG (a b c : Str) (p : Addr) (m l : Int) : List (Key × V) := [(Sum.inr a, V.ref p), (Sum.inr b, V.int m), (Sum.inr c, V.int l)]
/-- the three names are unlike -/
def Un3 (a b c : Str) : Prop := ¬ a = b ∧ ¬ a = c ∧ ¬ b = c
section
variable {a b c : Str} {p d : Addr} {m l m' l' : Int} {H H' : Hp} {B B' : Int}
theorem gpen_a (u : Un3 a b c) (h : H d = some (.dK (penG a b c p m l))) : DGet H d (V.str a) (some (.ref p)) := by
  have z := DGet.k (k := (Sum.inr a : Key)) h
  have e : valV (penG a b c p m l) (Sum.inr a : Key) = some (.ref p) := valV_pos rfl
  rw [e] at z
  exact z
theorem gpen_b (u : Un3 a b c) (h : H d = some (.dK (penG a b c p m l))) : DGet H d (V.str b) (some (.int m)) := by
  have z := DGet.k (k := (Sum.inr b : Key)) h
  have e : valV (penG a b c p m l) (Sum.inr b : Key) = some (.int m) := by
    unfold penG
    rw [valV_neg (fun e => u.1 (Sum.inr.inj e)), valV_pos rfl]
  rw [e] at z
  exact z
theorem gpen_c (u : Un3 a b c) (h : H d = some (.dK (penG a b c p m l))) : DGet H d (V.str c) (some (.int l)) := by
  have z := DGet.k (k := (Sum.inr c : Key)) h
  have e : valV (penG a b c p m l) (Sum.inr c : Key) = some (.int l) := by
    unfold penG
    rw [valV_neg (fun e => u.2.1 (Sum.inr.inj e)), valV_neg (fun e => u.2.2 (Sum.inr.inj e)), valV_pos rfl]
  rw [e] at z
  exact z
theorem ppen_b (u : Un3 a b c) (h : H d = some (.dK (penG a b c p m l))) : DPut H d (V.str b) (.int m') (upd H d (.dK (penG a b c p m' l))) := by
  have z := DPut.k (k := (Sum.inr b : Key)) (v := .int m') h (by show 3 < sizeLine; decide)
  have e : putK (penG a b c p m l) (Sum.inr b : Key) (.int m') = penG a b c p m' l := by
    unfold penG putK
    simp [key_dec u.1, key_dec (show ¬ c = b from fun e => u.2.2 e.symm), u.1, u.2.2, show ¬ c = b from fun e => u.2.2 e.symm]
  rw [e] at z
  exact z
theorem ppen_c (u : Un3 a b c) (h : H d = some (.dK (penG a b c p m l))) : DPut H d (V.str c) (.int l') (upd H d (.dK (penG a b c p m l'))) := by
  have z := DPut.k (k := (Sum.inr c : Key)) (v := .int l') h (by show 3 < sizeLine; decide)
  have e : putK (penG a b c p m l) (Sum.inr c : Key) (.int l') = penG a b c p m l' := by
    unfold penG putK
    simp [key_dec u.2.1, key_dec u.2.2, u.2.1, u.2.2]
  rw [e] at z
  exact z
/-- the pen stands at d: at most B draws were begun -/
structure PenG (a b c : Str) (H : Hp) (d : Addr) (B : Int) : Prop where
  ex : ∃ (p : Addr) (ns : List Int) (m l : Int), H d = some (.dK (penG a b c p m l)) ∧ H p = some (.lst (ns.map V.int)) ∧ ns.length ≤ 63 ∧ 0 ≤ m ∧ m ≤ B
theorem PenG.mono (h : PenG a b c H d B) (z : B ≤ B') : PenG a b c H d B' := by
  obtain ⟨p, ns, m, l, e1, e2, e3, f, g⟩ := h.ex
  exact ⟨p, ns, m, l, e1, e2, e3, f, by omega⟩
theorem PenG.same (h : PenG a b c H d B) (s : Same H H') : PenG a b c H' d B := by
  obtain ⟨p, ns, m, l, e1, e2, e3, f, g⟩ := h.ex
  exact ⟨p, ns, m, l, s _ _ e1, s _ _ e2, e3, f, g⟩
theorem PenG.at_ (h : PenG a b c H d B) : ∃ kvs, H d = some (.dK kvs) ∧ ∃ q ∈ kvs, flatB q.2 = false := by
  obtain ⟨p, ns, m, l, e, _⟩ := h.ex
  exact ⟨_, e, _, List.mem_cons_self, rfl⟩
theorem PenG.odd {x : V} (h : PenG a b c H d B) (o : Odd H x) : x ≠ .ref d := by
  obtain ⟨kvs, e, q, hq, f⟩ := h.at_
  intro z
  rw [z] at o
  cases o with
  | flat h => cases h
  | lst e' f => rw [e] at e'; cases e'
  | tup e' f => rw [e] at e'; cases e'
  | dct e' n g =>
    rw [e] at e'
    cases e'
    rw [g _ hq] at f
    cases f
theorem tabs_keepG {T : List (Addr × Str)} (h : Tabs T H) (hp : PenG a b c H d B) (k : Keep d H H') : Tabs T H' := fun p hq => by
  obtain ⟨kvs, ed, _⟩ := hp.at_
  obtain ⟨ps, h1, h2, h3⟩ := h p hq
  have a : p.1 ≠ d := ne_of h1 ed (by intro z; cases z)
  refine ⟨ps, k _ _ a h1, h2, fun pos cv hc => ?_⟩
  obtain ⟨c, e1, e2⟩ := h3 pos cv hc
  have b : c ≠ d := ne_of e2 ed (by unfold CodeO; intro z; cases z)
  exact ⟨c, e1, k _ _ b e2⟩
end
/-- the dict that begins a pen, written out -/
theorem merge_pen {a b c : Str} (u : Un3 a b c) (p : Addr) (m l : Int) : mergeK [] [(Sum.inr a, V.ref p), (Sum.inr b, V.int m), (Sum.inr c, V.int l)] = penG a b c p m l := by
  unfold mergeK
  rw [List.foldl_cons, putK_new _ valV_nil, List.foldl_cons, putK_new _ (by
    rw [List.nil_append, valV_neg (fun e => u.1 (Sum.inr.inj e)), valV_nil]), List.foldl_cons, putK_new _ (by
    show valV [_, _] _ = none
    rw [valV_neg (fun e => u.2.1 (Sum.inr.inj e)), valV_neg (fun e => u.2.2 (Sum.inr.inj e)), valV_nil])]
  rfl
theorem cut63 (xs : List V) (h : xs.length ≤ 63) : cutV xs none (some 63) = xs := by
  unfold cutV
  rw [HT.sIx_none, show HT.sIx xs.length xs.length (some 63) = min 63 xs.length from HT.sIx_nat xs.length xs.length 63, List.drop_zero, Nat.min_eq_right h, Nat.sub_zero, List.take_length]
theorem neG_nil {xs : List Int} : PyData.eqv (.list (xs.map PyData.int)) (.list []) = decide (xs = []) := by
  cases xs with
  | nil => rfl
  | cons a r => rfl
theorem dpG_ints {K : PySem.W.Frag} {H : Hp} : ∀ ns : List Int, DpAll K H (ns.map V.int) (ns.map PyData.int)
  | [] => .nil
  | a :: r => .cons (.int a) (dpG_ints r)
theorem layG_ints : ∀ ns : List Int, PyData.canLayAll0 (ns.map PyData.int) = true
  | [] => by simp only [List.map_nil, PyData.canLayAll0]
  | a :: r => by simp only [List.map_cons, PyData.canLayAll0, PyData.canLay0, layG_ints r, Bool.and_self]
theorem depG_ints : ∀ ns : List Int, PyData.depthAll (ns.map PyData.int) ≤ 1
  | [] => by simp [PyData.depthAll]
  | a :: r => by
    have z := depG_ints r
    simp only [List.map_cons, PyData.depthAll, PyData.depth]
    omega
theorem shG_ints (ns : List Int) : SeqAt.shaped (.list (ns.map PyData.int)) = true := by
  have a := layG_ints ns
  have b := depG_ints ns
  have z : (PyData.list (ns.map PyData.int)).depth ≤ 64 := by
    simp only [PyData.depth]
    omega
  unfold SeqAt.shaped
  rw [Bool.and_eq_true]
  exact ⟨by simpa [PyData.canLay0] using a, decide_eq_true z⟩
end Own

/-! own layer, of no law: OWNY: what drawing keeps, the pen's list among it. -/
namespace Own
open PySem PySem.Spec PyProof.Rows L2 LamX NdefX
/-- all but the pen's dict is as it was; its list is the same one -/
structure KeepG (a b c : Str) (d : Addr) (H H' : Hp) : Prop where
  k : ∀ x o, x ≠ d → H x = some o → H' x = some o
  c : ∀ p m l, H d = some (.dK (penG a b c p m l)) → ∃ m' l', H' d = some (.dK (penG a b c p m' l'))
instance {a b c : Str} {d : Addr} {H H' : Hp} : CoeFun (KeepG a b c d H H') (fun _ => ∀ x o, x ≠ d → H x = some o → H' x = some o) := ⟨KeepG.k⟩
section
variable {a b c : Str} {d p x : Addr} {o : HO} {H H' H1 H2 : Hp} {m l m' l' : Int}
theorem penG_inj {p p' : Addr} {m m' l l' : Int} (h : penG a b c p m l = penG a b c p' m' l') : p = p' := by
  unfold penG at h
  have z := (List.cons.inj h).1
  exact V.ref.inj (Prod.mk.inj z).2
theorem KeepG.refl : KeepG a b c d H H := ⟨fun _ _ _ e => e, fun _ m l e => ⟨m, l, e⟩⟩
theorem KeepG.trans (h : KeepG a b c d H H1) (k : KeepG a b c d H1 H2) : KeepG a b c d H H2 :=
  ⟨fun x o n e => k.k x o n (h.k x o n e), fun p m l e => by
    obtain ⟨m1, l1, e1⟩ := h.c p m l e
    exact k.c p m1 l1 e1⟩
theorem KeepG.same (s : Same H H') : KeepG a b c d H H' := ⟨fun x o _ e => s x o e, fun p m l e => ⟨m, l, s _ _ e⟩⟩
theorem KeepG.new (h : H p = none) : KeepG a b c d H (upd H p o) := KeepG.same (same_new h)
theorem KeepG.put (hd : H d = some (.dK (penG a b c p m l))) : KeepG a b c d H (upd H d (.dK (penG a b c p m' l'))) :=
  ⟨fun x o n e => (upd_ne n).trans e, fun p' m1 l1 e => by
    have z := e.symm.trans hd
    have y := penG_inj (HO.dK.inj (Option.some.inj z))
    rw [y]
    exact ⟨m', l', upd_same⟩⟩
/-- x is not the pen's list -/
def OffG (a b c : Str) (H : Hp) (d x : Addr) : Prop := ∀ p m l, H d = some (.dK (penG a b c p m l)) → p ≠ x
theorem OffG.of {B : Int} (hp : PenG a b c H d B) (h : H x = none) : OffG a b c H d x := fun p m l e => by
  obtain ⟨p0, ns, m0, l0, e0, e1, _⟩ := hp.ex
  have y := penG_inj (HO.dK.inj (Option.some.inj (e.symm.trans e0)))
  rw [y]
  exact ne_of_none e1 h
theorem OffG.keep {B : Int} (h : OffG a b c H d x) (hp : PenG a b c H d B) (k : KeepG a b c d H H') : OffG a b c H' d x := fun p m l e => by
  obtain ⟨p0, ns, m0, l0, e0, _⟩ := hp.ex
  obtain ⟨m1, l1, e1⟩ := k.c p0 m0 l0 e0
  have y := penG_inj (HO.dK.inj (Option.some.inj (e.symm.trans e1)))
  rw [y]
  exact h p0 m0 l0 e0
theorem OffG.at_ {y : Addr} (h : OffG a b c H d x) (n : d ≠ y) : OffG a b c (upd H y o) d x := fun p m l e => h p m l ((upd_ne n).symm.trans e)
/-- a list that is not the pen's is stored anew -/
theorem PenG.put {B : Int} {xs : List V} (hp : PenG a b c H d B) (hx : H x = some (.lst xs)) (f : OffG a b c H d x) : PenG a b c (upd H x o) d B := by
  obtain ⟨p, ns, m, l, e1, e2, e3, e4, e5⟩ := hp.ex
  have n1 : d ≠ x := ne_of e1 hx (by intro z; cases z)
  exact ⟨p, ns, m, l, (upd_ne n1).trans e1, (upd_ne (f p m l e1)).trans e2, e3, e4, e5⟩
theorem PenG.ne_lst {B : Int} {xs : List V} (hp : PenG a b c H d B) (hx : H x = some (.lst xs)) : d ≠ x := by
  obtain ⟨p, ns, m, l, e1, _⟩ := hp.ex
  exact ne_of e1 hx (by intro z; cases z)
/-- .. and over what was not there at first -/
theorem KeepG.over (k : KeepG a b c d H H') (n : H x = none) : KeepG a b c d H (upd H' x o) :=
  ⟨fun y u m e => (upd_ne (ne_of_none e n)).trans (k.k y u m e), fun p m l e => by
    obtain ⟨m1, l1, e1⟩ := k.c p m l e
    exact ⟨m1, l1, (upd_ne (ne_of_none e n)).trans e1⟩⟩
theorem KeepG.lst {B : Int} {xs : List V} (k : KeepG a b c d H H') (hp : PenG a b c H d B) (h : H x = some (.lst xs)) : H' x = some (.lst xs) := k.k _ _ (hp.ne_lst h).symm h
end
end Own

/-! own layer, of no law: OWNP: properties of the program's classes, told by the top. -/
namespace Own
open PySem PySem.Spec PyProof.Rows L2 LamX NdefX
/-- the getter of a property: (class, its name) -/
def pgA (K : PySem.W.Frag) (p : Str × Option Str) : Addr := match PySem.W.findIn K (.ref (He.ga K p.1)) (p.2.getD "") with
  | some (some (.ref q)) => (match PySem.W.recIn K q "property" with
    | some (.ref g :: _) => g
    | _ => 0)
  | _ => 0
def fnWA (K : PySem.W.Frag) (a : Addr) : He.FnW := match K.lookup a with
  | some ⟨_, _, .func fd, _⟩ => some (fd.name, fd.qualname, fd.params, fd.body, fd.scope, fd.globals, fd.closure, fd.builtins)
  | _ => none
def okA (K : PySem.W.Frag) (a : Addr) (q : Str) : Bool := PySem.W.keepIn K (.ref a) && (match K.lookup a with
  | some ⟨_, _, .func fd, _⟩ => PySem.W.codeIn K fd.code q && (He.dflB K fd.defaults [] && He.kwdB K fd.kwdefaults [])
  | _ => false)
def propB (K : PySem.W.Frag) (p : Str × Option Str) (q : Str) : Bool := (match PySem.W.findIn K (.ref (He.ga K p.1)) (p.2.getD "") with
  | some (some (.ref r)) => decide (PySem.W.specialIn K (.ref r) "__get__" = some (some (.builtin "property.__get__"))) && (decide (PySem.W.takesIn K (.ref r) = some true) && (match PySem.W.recIn K r "property" with
    | some (.ref _ :: _) => true
    | _ => false))
  | _ => false) && okA K (pgA K p) q
theorem funD_at {K : PySem.W.Frag} {a : Addr} {d : He.DefD} (e : fnWA K a = d.val) (c : okA K a d.qual = true) : ∃ fd, FunD K d.name d.qual d.params d.body d.scope [] [] a fd := by
  obtain ⟨kp, c2⟩ := He.ba c
  unfold fnWA at e
  cases q : K.lookup a with
  | none =>
    rw [q] at c2
    cases c2
  | some o =>
    obtain ⟨oc, od, dt, osl⟩ := o
    rw [q] at c2 e
    cases dt with
    | func fd =>
      obtain ⟨n1, n2, n3, n4, n5, n6, n7, n8, n9, n10, n11, n12, n13, n14, n15⟩ := fd
      have e2 : (some (n1, n2, n3, n4, n5, n6, n7, n15) : He.FnW) = some (d.name, d.qual, d.params, .stmts d.body, d.scope, mainGlobals, [], builtinsNs) := e
      simp only [Option.some.injEq, Prod.mk.injEq] at e2
      obtain ⟨h1, h2, h3, h4, h5, h6, h7, h8⟩ := e2
      subst h1 h2 h3 h4 h5 h6 h7 h8
      have c3 : (PySem.W.codeIn K n13 d.qual && (He.dflB K n8 [] && He.kwdB K n9 [])) = true := c2
      obtain ⟨k1, k2⟩ := He.ba c3
      obtain ⟨k3, k4⟩ := He.ba k2
      exact ⟨_, ⟨oc, od, n8, n9, n10, n11, n12, n13, n14, osl, rfl, q, k1, He.dflB_ok k3, He.kwdB_ok k4⟩, kp⟩
    | _ => cases c2
theorem prop_ok {K : PySem.W.Frag} {C f : Str} {q : Str} (h : propB K (C, some f) q = true) : (∃ p, PropOf K (He.ga K C) f p (pgA K (C, some f))) ∧ okA K (pgA K (C, some f)) q = true := by
  obtain ⟨h1, h2⟩ := He.ba h
  refine ⟨?_, h2⟩
  have h1 : (match PySem.W.findIn K (.ref (He.ga K C)) f with
    | some (some (.ref r)) => decide (PySem.W.specialIn K (.ref r) "__get__" = some (some (.builtin "property.__get__"))) && (decide (PySem.W.takesIn K (.ref r) = some true) && (match PySem.W.recIn K r "property" with
      | some (.ref _ :: _) => true
      | _ => false))
    | _ => false) = true := h1
  have e : pgA K (C, some f) = (match PySem.W.findIn K (.ref (He.ga K C)) f with
    | some (some (.ref q)) => (match PySem.W.recIn K q "property" with
      | some (.ref g :: _) => g
      | _ => 0)
    | _ => 0) := rfl
  cases a : PySem.W.findIn K (.ref (He.ga K C)) f with
  | none => rw [a] at h1; cases h1
  | some a1 =>
    cases a1 with
    | none => rw [a] at h1; cases h1
    | some v =>
      cases v with
      | ref r =>
        rw [a] at h1 e
        obtain ⟨b1, b2⟩ := He.ba h1
        obtain ⟨b2, b3⟩ := He.ba b2
        have b3 : (match PySem.W.recIn K r "property" with
          | some (.ref _ :: _) => true
          | _ => false) = true := b3
        have e : pgA K (C, some f) = (match PySem.W.recIn K r "property" with
          | some (.ref g :: _) => g
          | _ => 0) := e
        refine ⟨r, a, of_decide_eq_true b1, of_decide_eq_true b2, ?_⟩
        cases c : PySem.W.recIn K r "property" with
        | none => rw [c] at b3; cases b3
        | some l =>
          cases l with
          | nil => rw [c] at b3; cases b3
          | cons x rest =>
            cases x with
            | ref g =>
              rw [c] at e
              have e : pgA K (C, some f) = g := e
              rw [e]
              exact ⟨rest, rfl⟩
            | _ => rw [c] at b3; cases b3
      | _ => rw [a] at h1; cases h1
/-- what is told: the getters' texts besides -/
structure SaysP (ps : List He.DefD) (K : PySem.W.Frag) : Prop where
  g : ps.map (fun d => fnWA K (pgA K d.at_)) = ps.map He.DefD.val
theorem SaysP.at_ {ps : List He.DefD} {K : PySem.W.Frag} (c : SaysP ps K) (i : Nat) {d : He.DefD} (h : ps[i]? = some d) : fnWA K (pgA K d.at_) = d.val := by
  have e : (ps.map fun d => fnWA K (pgA K d.at_))[i]? = (ps.map He.DefD.val)[i]? := by rw [c.g]
  rw [List.getElem?_map, List.getElem?_map, h] at e
  exact Option.some.inj e
abbrev AlP : Type := He.AlX × List He.FnW
def obsP (n : Nat) (fa : List He.Fa) (fn : List He.DefD) (ts : List He.Tab) (tf : List He.Defn) (ex : PySem.W.Frag → Bool) (ps : List He.DefD) (g : Addr → Option Obj) : AlP :=
  (He.obsX n fa fn ts tf ex g, ps.map fun d => fnWA (He.frT g (He.asD g n)) (pgA (He.frT g (He.asD g n)) d.at_))
def valP (fn : List He.DefD) (ts : List He.Tab) (ps : List He.DefD) (w : World) : AlP := (He.valX fn ts w, ps.map He.DefD.val)
def hookP (n : Nat) (fa : List He.Fa) (fn : List He.DefD) (ts : List He.Tab) (tf : List He.Defn) (ex : PySem.W.Frag → Bool) (ps : List He.DefD) : PySem.W.Hook where
  α := AlP
  obs := fun s => obsP n fa fn ts tf ex ps s.heap.get?
  val := fun w => valP fn ts ps w
  says := fun w h => ∃ K : PySem.W.Frag, K.In h ∧ He.SaysX fa fn ts tf ex w h K ∧ SaysP ps K
  of := fun _ _ e => ⟨_, He.frT_in, He.saysX_of (congrArg (fun z : AlP => z.1) e), ⟨congrArg (fun z : AlP => z.2) e⟩⟩
  keeps := fun _ _ _ ⟨K, hK, c, d⟩ k => ⟨K, PySem.W.Frag.In.keeps hK k, ⟨c.t, c.more, c.hd, c.out, fun p hp => k _ _ (c.empty p hp)⟩, d⟩
theorem obsP_eq {n : Nat} {fa : List He.Fa} {fn : List He.DefD} {ts : List He.Tab} {tf : List He.Defn} {ex : PySem.W.Frag → Bool} {ps : List He.DefD} {g : Addr → Option Obj} {s : Shared} (h : ∀ a, g a = s.heap.get? a) : obsP n fa fn ts tf ex ps g = (hookP n fa fn ts tf ex ps).obs s := by
  have e : g = s.heap.get? := funext h
  rw [e] <;> rfl
end Own

/-! own layer, of no law: OWNW: the nine ways, their mathematics. -/
namespace Own
open PySem PySem.Spec PyProof.Rows L2 LamX NdefX
def waysL : List Str := ["floor", "ceiling", "cut", "away", "halfup", "halfdown", "halfeven", "halfaway", "halfcut"]
def mirrL : List (Str × Str) := [("floor", "ceiling"), ("ceiling", "floor"), ("halfup", "halfdown"), ("halfdown", "halfup")]
def halvL : List (Str × Str) := [("halfup", "ceiling"), ("halfdown", "floor"), ("halfeven", "even"), ("halfaway", "away"), ("halfcut", "cut")]
def baseUp (w : Str) (b : Int) : Bool := if w = "even" then decide (b % 2 = 1) else if w = "cut" then decide (b < 0) else if w = "away" then decide (0 ≤ b) else decide (w = "ceiling")
def goesUp (w : Str) (b p : Int) : Bool := match halvL.lookup w with
  | some h => if p = 0 then baseUp h b else decide (0 < p)
  | none => baseUp w b
def near (n d : Int) (w : Str) : Int := if n % d = 0 then n / d else if goesUp w (n / d) (2 * (n % d) - d) = true then n / d + 1 else n / d
def mirr (w : Str) : Str := (mirrL.lookup w).getD w
theorem dec_int (a b : Int) : decide (V.int a = V.int b) = decide (a = b) := by simp
theorem dec_str (a b : Str) : decide (V.str a = V.str b) = decide (a = b) := by simp
/-- what the walk asks of the top: the names of built-ins are free; the tables -/
structure Txt (P : Program) (w : World) (K : PySem.W.Frag) (mg : Str → Option Value) (base : Heap) (C aW aM aH : Addr) (eM : Array DictEntry) (nM : Nat) (eH : Array DictEntry) (nH : Nat) : Prop where
  isi : mg "isinstance" = none
  int : mg "int" = none
  bool : mg "bool" = none
  len : mg "len" = none
  list : mg "list" = none
  range : mg "range" = none
  tuple : mg "tuple" = none
  all : mg "all" = none
  dm : mg "divmod" = none
  err : ErrC P w K mg base "BadValue" "value" 1 C (spErr C "value")
  gW : mg "WAYS" = some (.ref aW)
  ways : ∀ H : Hp, SqT K H aW (waysL.map V.str)
  gM : mg "MIRRORS" = some (.ref aM)
  dM : KDict K w aM eM nM
  mirr : ∀ z ∈ waysL, KGet K aM z ((mirrL.lookup z).map V.str)
  gH : mg "HALVES" = some (.ref aH)
  dH : KDict K w aH eH nH
  halv : ∀ z ∈ waysL, KGet K aH z ((halvL.lookup z).map V.str)
def isWay : V → Bool
  | .str z => decide (z ∈ waysL)
  | _ => false
theorem isWay_str {x : V} (h : isWay x = true) : ∃ z ∈ waysL, x = .str z := by
  cases x with
  | str z => exact ⟨z, by simpa [isWay] using h, rfl⟩
  | _ => simp [isWay] at h
theorem way_cases {z : Str} (h : z ∈ waysL) : z = "floor" ∨ z = "ceiling" ∨ z = "cut" ∨ z = "away" ∨ z = "halfup" ∨ z = "halfdown" ∨ z = "halfeven" ∨ z = "halfaway" ∨ z = "halfcut" := by
  simpa [waysL] using h
def baseK (z : Str) : Nat := if z = "even" then 0 else if z = "cut" then 1 else if z = "away" then 2 else if z = "ceiling" then 3 else 4
def kUp : Nat → Int → Bool
  | 0, b => decide (b % 2 = 1)
  | 1, b => decide (b < 0)
  | 2, b => decide (0 ≤ b)
  | 3, _ => true
  | _, _ => false
theorem base_k (z : Str) (b : Int) : baseUp z b = kUp (baseK z) b := by
  unfold baseUp baseK
  by_cases h1 : z = "even"
  · rw [if_pos h1, if_pos h1]
    rfl
  rw [if_neg h1, if_neg h1]
  by_cases h2 : z = "cut"
  · rw [if_pos h2, if_pos h2]
    rfl
  rw [if_neg h2, if_neg h2]
  by_cases h3 : z = "away"
  · rw [if_pos h3, if_pos h3]
    rfl
  rw [if_neg h3, if_neg h3]
  by_cases h4 : z = "ceiling"
  · rw [if_pos h4, decide_eq_true h4]
    rfl
  · rw [if_neg h4, decide_eq_false h4]
    rfl
theorem goes_none {z : Str} {k : Nat} (h : halvL.lookup z = none) (hk : baseK z = k) (b p : Int) : goesUp z b p = kUp k b := by
  unfold goesUp
  rw [h, ← hk]
  exact base_k z b
theorem goes_some {z y : Str} {k : Nat} (h : halvL.lookup z = some y) (hk : baseK y = k) (b p : Int) : goesUp z b p = if p = 0 then kUp k b else decide (0 < p) := by
  unfold goesUp
  rw [h, ← hk, ← base_k]
theorem mirr_of {z y : Str} (h : (mirrL.lookup z).getD z = y) : mirr z = y := h
theorem goes_mirr {z : Str} (hz : z ∈ waysL) (b p : Int) : goesUp (mirr z) (-b - 1) (-p) = !goesUp z b p := by
  rcases way_cases hz with rfl | rfl | rfl | rfl | rfl | rfl | rfl | rfl | rfl
  · rw [mirr_of (y := "ceiling") (by decide +kernel), goes_none (k := 3) (by decide +kernel) (by decide +kernel), goes_none (k := 4) (by decide +kernel) (by decide +kernel)]
    rfl
  · rw [mirr_of (y := "floor") (by decide +kernel), goes_none (k := 4) (by decide +kernel) (by decide +kernel), goes_none (k := 3) (by decide +kernel) (by decide +kernel)]
    rfl
  · rw [mirr_of (y := "cut") (by decide +kernel), goes_none (k := 1) (by decide +kernel) (by decide +kernel), goes_none (k := 1) (by decide +kernel) (by decide +kernel)]
    show decide (-b - 1 < 0) = !decide (b < 0)
    by_cases h : b < 0
    · rw [decide_eq_true h, decide_eq_false (by omega)]; rfl
    · rw [decide_eq_false h, decide_eq_true (by omega)]; rfl
  · rw [mirr_of (y := "away") (by decide +kernel), goes_none (k := 2) (by decide +kernel) (by decide +kernel), goes_none (k := 2) (by decide +kernel) (by decide +kernel)]
    show decide (0 ≤ -b - 1) = !decide (0 ≤ b)
    by_cases h : 0 ≤ b
    · rw [decide_eq_true h, decide_eq_false (by omega)]; rfl
    · rw [decide_eq_false h, decide_eq_true (by omega)]; rfl
  · rw [mirr_of (y := "halfdown") (by decide +kernel), goes_some (k := 4) (y := "floor") (by decide +kernel) (by decide +kernel), goes_some (k := 3) (y := "ceiling") (by decide +kernel) (by decide +kernel)]
    by_cases h : p = 0
    · rw [if_pos h, if_pos (by omega)]; rfl
    · rw [if_neg h, if_neg (by omega)]
      by_cases h : 0 < p
      · rw [decide_eq_true h, decide_eq_false (by omega)]; rfl
      · rw [decide_eq_false h, decide_eq_true (by omega)]; rfl
  · rw [mirr_of (y := "halfup") (by decide +kernel), goes_some (k := 3) (y := "ceiling") (by decide +kernel) (by decide +kernel), goes_some (k := 4) (y := "floor") (by decide +kernel) (by decide +kernel)]
    by_cases h : p = 0
    · rw [if_pos h, if_pos (by omega)]; rfl
    · rw [if_neg h, if_neg (by omega)]
      by_cases h : 0 < p
      · rw [decide_eq_true h, decide_eq_false (by omega)]; rfl
      · rw [decide_eq_false h, decide_eq_true (by omega)]; rfl
  · rw [mirr_of (y := "halfeven") (by decide +kernel), goes_some (k := 0) (y := "even") (by decide +kernel) (by decide +kernel), goes_some (k := 0) (y := "even") (by decide +kernel) (by decide +kernel)]
    by_cases h : p = 0
    · rw [if_pos h, if_pos (by omega)]
      show decide ((-b - 1) % 2 = 1) = !decide (b % 2 = 1)
      by_cases h : b % 2 = 1
      · rw [decide_eq_true h, decide_eq_false (by omega)]; rfl
      · rw [decide_eq_false h, decide_eq_true (by omega)]; rfl
    · rw [if_neg h, if_neg (by omega)]
      by_cases h : 0 < p
      · rw [decide_eq_true h, decide_eq_false (by omega)]; rfl
      · rw [decide_eq_false h, decide_eq_true (by omega)]; rfl
  · rw [mirr_of (y := "halfaway") (by decide +kernel), goes_some (k := 2) (y := "away") (by decide +kernel) (by decide +kernel), goes_some (k := 2) (y := "away") (by decide +kernel) (by decide +kernel)]
    by_cases h : p = 0
    · rw [if_pos h, if_pos (by omega)]
      show decide (0 ≤ -b - 1) = !decide (0 ≤ b)
      by_cases h : 0 ≤ b
      · rw [decide_eq_true h, decide_eq_false (by omega)]; rfl
      · rw [decide_eq_false h, decide_eq_true (by omega)]; rfl
    · rw [if_neg h, if_neg (by omega)]
      by_cases h : 0 < p
      · rw [decide_eq_true h, decide_eq_false (by omega)]; rfl
      · rw [decide_eq_false h, decide_eq_true (by omega)]; rfl
  · rw [mirr_of (y := "halfcut") (by decide +kernel), goes_some (k := 1) (y := "cut") (by decide +kernel) (by decide +kernel), goes_some (k := 1) (y := "cut") (by decide +kernel) (by decide +kernel)]
    by_cases h : p = 0
    · rw [if_pos h, if_pos (by omega)]
      show decide (-b - 1 < 0) = !decide (b < 0)
      by_cases h : b < 0
      · rw [decide_eq_true h, decide_eq_false (by omega)]; rfl
      · rw [decide_eq_false h, decide_eq_true (by omega)]; rfl
    · rw [if_neg h, if_neg (by omega)]
      by_cases h : 0 < p
      · rw [decide_eq_true h, decide_eq_false (by omega)]; rfl
      · rw [decide_eq_false h, decide_eq_true (by omega)]; rfl
theorem mirr_mem {z : Str} (hz : z ∈ waysL) : mirr z ∈ waysL := by
  rcases way_cases hz with rfl | rfl | rfl | rfl | rfl | rfl | rfl | rfl | rfl <;> decide +kernel
theorem near_mirr {n d : Int} {z : Str} (h0 : 0 < d) (hz : z ∈ waysL) : near (-n) d (mirr z) = -near n d z := by
  have r0 := Int.emod_nonneg n (show d ≠ 0 by omega)
  have r1 := Int.emod_lt_of_pos n h0
  have em := Int.emod_add_mul_ediv n d
  unfold near
  by_cases h : n % d = 0
  · have e1 : (-n) % d = 0 := Int.emod_eq_zero_of_dvd ((Int.dvd_neg).mpr (Int.dvd_of_emod_eq_zero h))
    rw [if_pos h, if_pos e1, Int.neg_ediv_of_dvd (Int.dvd_of_emod_eq_zero h)]
  · have e3 : -n = (d - n % d) + d * (-(n / d) - 1) := by
      rw [Int.mul_sub, Int.mul_neg]
      omega
    have e1 : (-n) % d = d - n % d := by
      rw [e3, Int.add_mul_emod_self_left, Int.emod_eq_of_lt (by omega) (by omega)]
    have e2 : (-n) / d = -(n / d) - 1 := by
      rw [e3, Int.add_mul_ediv_left _ _ (by omega), Int.ediv_eq_zero_of_lt (by omega) (by omega)]
      omega
    rw [if_neg h, e1, e2, if_neg (by omega)]
    have e4 : 2 * (d - n % d) - d = -(2 * (n % d) - d) := by omega
    rw [e4, goes_mirr hz]
    cases goesUp z (n / d) (2 * (n % d) - d)
    · show (if true = true then -(n / d) - 1 + 1 else _) = -(if false = true then _ else n / d)
      rw [if_pos rfl, if_neg (by decide)]
      omega
    · show (if false = true then _ else -(n / d) - 1) = -(if true = true then n / d + 1 else _)
      rw [if_pos rfl, if_neg (by decide)]
      omega
end Own

/-! own layer, of no law: OWNE: an error class whose __init__ keeps nothing. -/
namespace Own
open PySem PySem.Spec PyProof.Rows L2 LamX NdefX
section
variable {X : Cx}
theorem del_new {H : Hp} {a : Addr} {o : HO} (h : H a = none) : del (upd H a o) a = H := by
  funext b
  by_cases e : b = a
  · rw [e, del_same, h]
  · rw [del_ne e, upd_ne e]
theorem mk_endN {pins : List (Addr × Obj)} {σ : L2.St} {H1 H2 : Hp} {Q : XK} {hp hp2 h2 : Heap} {g1 g2 : Array GenState} {d1 d2 : Drawn} {t1 t2 : Nat} {os1 os2 : OsState} {a C : Addr} (T : Raises X (.ref C)) (I1 : Inv X pins σ H1 ⟨hp, g1, d1, t1, os1⟩)
    (ha : hp.objs.size ≤ a) (k : ∀ b o, hp.get? b = some o → hp2.get? b = some o) (un : Un (frs X.stack) [] (upd H1 a (exo a C none)) H2 hp2 h2) (hok : HOk X.prog X.w H2 h2) (ho : os2 = os1) (hb : AllBare g2)
    (ea : H2 a = some (exo a C none)) (q : Q (.ref C) none (del H2 a)) : MkP X pins σ Q (.ref a) ⟨h2, g2, d2, t2, os2⟩ := by
  obtain ⟨t0, hoe⟩ := exo_at hok ea
  have hn : H1 a = none := I1.hok.fresh ha
  obtain ⟨G, g1', g2'⟩ := restrict h2 fun b => decide (b ≠ a)
  have gk : ∀ b, b ≠ a → G.get? b = h2.get? b := fun b hb => g1' b (decide_eq_true hb)
  have ge : G.get? a = none := g2' a (by simp)
  have nha : ∀ {b : Addr} {o : Obj}, hp.get? b = some o → b ≠ a := fun {b o} z => Nat.ne_of_lt (Nat.lt_of_lt_of_le (Heap.lt_size z) ha)
  have up : ∀ {b : Addr}, b ≠ a → H1 b = none → upd H1 a (exo a C none) b = none := fun {b} hb n => by rw [upd_ne hb]; exact n
  have U : Un (frs X.stack) [] H1 (del H2 a) hp G := {
    keep := fun b o z n hf hx => by
      rw [gk b (nha z)]
      exact un.keep b o (k b o z) (up (nha z) n) hf hx
    slot := fun b o z n hf hx => by
      rw [gk b (nha z)]
      exact un.slot b o (k b o z) (up (nha z) n) hf hx
    free := fun b o z n hx => by
      rw [del_ne (nha z)]
      exact un.free b o (k b o z) (up (nha z) n) hx
    there := fun b o z hx => by
      rw [gk b (nha z)]
      exact un.there b o (k b o z) hx
    tups := fun b xs z => by
      rw [del_ne (ne_of_none z hn)]
      exact un.tups b xs (by rw [upd_ne (ne_of_none z hn)]; exact z)
    frzs := fun b o v z => by
      rw [del_ne (ne_of_none z hn)]
      exact un.frzs b o v (by rw [upd_ne (ne_of_none z hn)]; exact z)
    tbls := fun b ps z => by
      rw [del_ne (ne_of_none z hn)]
      exact un.tbls b ps (by rw [upd_ne (ne_of_none z hn)]; exact z) }
  have hok3 : HOk X.prog X.w (del H2 a) G := fun b o z => by
    have hba : b ≠ a := fun e => by
      rw [e, del_same] at z
      cases z
    rw [del_ne hba] at z
    have noa : ∀ {c : Addr}, H2 c = some (.own b) → c ≠ a := fun {c} hc => at_ne ea hc exo_own
    exact (hok b o z).stay (fun c v hc y => by
        have hca : c ≠ a := by
          rcases hc with hc | hc
          · rw [hc]
            exact hba
          · exact noa hc
        rw [gk c hca]
        exact y)
      (fun c hc => by rw [del_ne (noa hc)]; exact hc) (fun c xs hc => by rw [del_ne (at_ne ea hc exo_tup)]; exact hc)
  have J : Inv X pins σ (del H2 a) ⟨G, g2, d2, t2, os2⟩ := I1.call' (ch := []) ho U hok3 hb (fun b z => absurd z (by simp))
  refine ⟨a, _, _, ⟨G, g2, d2, t2, os2⟩, _, .ref C, none, rfl, J, fun b o z => ?_, ge, hoe, ⟨rfl, rfl⟩, rfl, rfl, del_same, rfl, hb, T, q⟩
  by_cases hba : b = a
  · rw [hba, ge] at z
    cases z
  · exact (gk b hba).symm.trans z
/-- C(), an own error class whose __init__ takes self alone and does nothing -/
theorem pmk_oex0 {x : Str} {C fI : Addr} {k : Nat} {fd : FuncData} {sp : Sp} {p pos : Pos} (T : OexC X.K C) (iC : PySem.W.findIn X.K (.ref C) "__init__" = some (some (.ref fI))) (tI : PySem.W.typeIn X.K (.ref fI) = some (.type "function"))
    (F1 : FnOk X.prog X.w X.K X.mg X.base CX0 k fI fd ["self"] sp) (hr : Room (k + 1) X.A) (hb : Binds X.K fd ["self"] []) (hg : Gl X x) (hm : X.mg x = some (.ref C)) (hdb : (x == ("__debug__" : Str)) = false := by decide) :
    PMk X (.Call (.Name x p) [] [] pos) (fun _ H Q => ∀ a, H a = none → sp [.ref a] (upd H a (exo a C none)) (fun v H2 => v = .non ∧ H2 a = some (exo a C none) ∧ Q (.ref C) none (del H2 a)) (fun _ _ _ => False)) := by
  intro pins s σ H Q I h
  obtain ⟨nm, q, N, bs, bm, sn, sub, ab, col, dd, k0, k1, k2, k3, k5, hC, hbm⟩ := T.cls
  refine wpAny_Call_Name_kw (ld_glob I hg hm ?_ hdb)
  refine PySem.W.callWith_K0 I.kIn T.kC ?_
  show wpAny _ _ (call (.ref C) []) _ _ _
  obtain ⟨hp, g, dr, tk, os⟩ := s
  have hsz : hp.objs.size ≤ hp.objs.size + 1 := Nat.le_succ _
  have hq := h (hp.objs.size + 1) (I.hok.fresh hsz)
  have kk : ∀ b o, hp.get? b = some o → ((hp.push (PySem.W.kdv_tup [])).push (PySem.HandSPX.excO C hp.objs.size)).get? b = some o := fun b o e => Heap.get?_push_of_some _ (Heap.get?_push_of_some _ e)
  have hget : ((hp.push (PySem.W.kdv_tup [])).push (PySem.HandSPX.excO C hp.objs.size)).get? (hp.objs.size + 1) = some (PySem.HandSPX.excO C hp.objs.size) := by heap_get
  have I2 : Inv X pins σ (upd H (hp.objs.size + 1) (exo (hp.objs.size + 1) C none)) ⟨(hp.push (PySem.W.kdv_tup [])).push (PySem.HandSPX.excO C hp.objs.size), g, dr, tk, os⟩ :=
    I.laid (t' := tk) (a := hp.objs.size + 1) (o := exo (hp.objs.size + 1) C none) (h' := (hp.push (PySem.W.kdv_tup [])).push (PySem.HandSPX.excO C hp.objs.size)) kk hsz (exo_ok hget)
  have r2 : Vals [V.ref (hp.objs.size + 1)] [Value.ref (hp.objs.size + 1)] := .cons rfl .nil
  refine wpAny_call (PySem.HandSPX.call_own F.excBase_ValueError (fun Y => PySem.HandSPX.refsVE_contains Y bm hbm) (I.kIn _ _ hC) (PySem.W.looks_findIn I.kIn iC) (fun self => PySem.W.bind_fn I.kIn self tI) (by show 0 ≤ sizeLine; exact Nat.zero_le _)
    (codeAny_mono (F1.run _ X.stack _ _ ⟨[Value.ref (hp.objs.size + 1)], []⟩ [Value.ref (hp.objs.size + 1)] _ _ (fun _ _ _ => False) (hr.make C [] []) (I2.env0.make C [] []) (hb _ [Value.ref (hp.objs.size + 1)] I2.kIn rfl) r2 hq) fun r s' hq' => ?_))
  cases r with
  | error er => exact False.elim hq'
  | ok fl =>
    cases fl with
    | ret u =>
      obtain ⟨v, H2, os2, bare2, un2, hok2, rv, ev, ea, q2⟩ := hq'
      subst ev
      obtain ⟨h2, g2, d2, t2, os'⟩ := s'
      exact ⟨rv, mk_endN (raises_own T.exC T.tyC) I hsz kk un2 hok2 os2 bare2 ea q2⟩
    | next => exact False.elim hq'
    | brk => exact False.elim hq'
    | cont => exact False.elim hq'
end
/-- an error class without fields -/
structure ErrN (P : Program) (w : World) (K : PySem.W.Frag) (mg : Str → Option Value) (base : Heap) (x : Str) (C : Addr) : Prop where
  g : mg x = some (.ref C)
  oex : OexC K C
  ini : ∃ (fI : Addr) (fd : FuncData), PySem.W.findIn K (.ref C) "__init__" = some (some (.ref fI)) ∧ PySem.W.typeIn K (.ref fI) = some (.type "function") ∧ FnOk P w K mg base CX0 1 fI fd ["self"] (fun vs H Q _ => ∃ a : Addr, vs = [.ref a] ∧ Q .non H) ∧ Binds K fd ["self"] []
section
variable {X : Cx} {x : Str} {j : Nat} {C : Addr} {p pos : Pos}
theorem pmk_errN (D : ErrN X.prog X.w X.K X.mg X.base x C) (hr : Room j X.A) (hj : 2 ≤ j) (hg : Gl X x) (hdb : (x == ("__debug__" : Str)) = false := by decide) : PMk X (.Call (.Name x p) [] [] pos) (fun _ H Q => Q (.ref C) none H) := by
  obtain ⟨fI, fd, iC, tI, F1, b⟩ := D.ini
  intro pins s σ H Q I h
  exact pmk_oex0 D.oex iC tI F1 (hr.mono hj) b hg D.g hdb pins s σ H Q I fun a na => ⟨a, rfl, rfl, upd_same, by rw [del_new na]; exact h⟩
end
end Own

/-! own layer, of no law: OWNN: rounding as a fraction's. -/
namespace Own
open PySem PySem.Spec PyProof.Rows L2 LamX NdefX
theorem near_lo {n d : Int} (t : Str) : n / d ≤ near n d t := by
  unfold near
  split
  · exact Int.le_refl _
  · split <;> omega
theorem near_hi {n d : Int} (t : Str) : near n d t ≤ n / d + 1 := by
  unfold near
  split
  · omega
  · split <;> omega
theorem near_mul {k d : Int} (h : 0 < d) (t : Str) : near (k * d) d t = k := by
  unfold near
  rw [if_pos (Int.mul_emod_left k d), Int.mul_ediv_cancel _ (by omega)]
theorem goes_up_mono {z : Str} {b p p' : Int} (h : p ≤ p') (g : goesUp z b p = true) : goesUp z b p' = true := by
  unfold goesUp at g ⊢
  cases e : halvL.lookup z with
  | none =>
    rw [e] at g
    exact g
  | some y =>
    rw [e] at g
    dsimp only at g ⊢
    by_cases h1 : p = 0
    · rw [if_pos h1] at g
      by_cases h2 : p' = 0
      · rw [if_pos h2]
        exact g
      · rw [if_neg h2]
        exact decide_eq_true (by omega)
    · rw [if_neg h1] at g
      have h3 : 0 < p := of_decide_eq_true g
      rw [if_neg (by omega)]
      exact decide_eq_true (by omega)
/-- what goesUp asks of p is its sign alone -/
theorem goes_scale {z : Str} {b p c : Int} (hc : 0 < c) : goesUp z b (p * c) = goesUp z b p := by
  unfold goesUp
  cases e : halvL.lookup z with
  | none => rfl
  | some y =>
    dsimp only
    by_cases h : p = 0
    · subst h
      simp
    · have h1 : p * c ≠ 0 := Int.mul_ne_zero h (by omega)
      rw [if_neg h, if_neg h1]
      by_cases h2 : 0 < p
      · rw [decide_eq_true h2, decide_eq_true (Int.mul_pos h2 hc)]
      · have h3 : p * c < 0 := Int.mul_neg_of_neg_of_pos (by omega) hc
        rw [decide_eq_false h2, decide_eq_false (by omega)]
theorem near_scale {n d c : Int} (hd : 0 < d) (hc : 0 < c) (t : Str) : near (n * c) (d * c) t = near n d t := by
  have e1 : n * c / (d * c) = n / d := Int.mul_ediv_mul_of_pos_left n d hc
  have e2 : n * c % (d * c) = n % d * c := by
    rw [Int.emod_def, e1, Int.emod_def, Int.sub_mul]
    congr 1
    simp only [Int.mul_assoc, Int.mul_comm, Int.mul_left_comm]
  unfold near
  rw [e1, e2]
  by_cases h : n % d = 0
  · rw [if_pos h, if_pos (by rw [h, Int.zero_mul])]
  · rw [if_neg h, if_neg (Int.mul_ne_zero h (by omega))]
    have e3 : 2 * (n % d * c) - d * c = (2 * (n % d) - d) * c := by rw [Int.sub_mul, Int.mul_assoc]
    rw [e3, goes_scale hc]
/-- it hangs on the fraction alone -/
theorem near_ratio {n d n' d' : Int} (hd : 0 < d) (hd' : 0 < d') (h : n * d' = n' * d) (t : Str) : near n d t = near n' d' t := by
  rw [← near_scale (n := n) (d := d) hd hd' t, h, Int.mul_comm d d', near_scale hd' hd t]
theorem near_mono0 {n n' d : Int} (hd : 0 < d) (h : n ≤ n') (t : Str) : near n d t ≤ near n' d t := by
  have a : n / d ≤ n' / d := Int.ediv_le_ediv hd h
  by_cases e : n / d = n' / d
  · have r0 := Int.emod_nonneg n (show d ≠ 0 by omega)
    have r1 := Int.emod_lt_of_pos n hd
    have m := Int.emod_add_mul_ediv n d
    have m' := Int.emod_add_mul_ediv n' d
    rw [← e] at m'
    have hr : n % d ≤ n' % d := by omega
    by_cases h0 : n % d = 0
    · have z : near n d t = n / d := by
        unfold near
        rw [if_pos h0]
      rw [z, e]
      exact near_lo t
    · have hx : ¬ n' % d = 0 := by omega
      unfold near
      rw [if_neg h0, if_neg hx, ← e]
      by_cases g : goesUp t (n / d) (2 * (n % d) - d) = true
      · rw [if_pos g, if_pos (goes_up_mono (by omega) g)]
        exact Int.le_refl _
      · rw [if_neg g]
        split <;> omega
  · have z1 := near_hi (n := n) (d := d) t
    have z2 := near_lo (n := n') (d := d) t
    omega
theorem near_mono {n d n' d' : Int} (hd : 0 < d) (hd' : 0 < d') (h : n * d' ≤ n' * d) (t : Str) : near n d t ≤ near n' d' t := by
  rw [← near_scale (n := n) (d := d) hd hd' t, ← near_scale (n := n') (d := d') hd' hd t, Int.mul_comm d' d]
  exact near_mono0 (Int.mul_pos hd hd') h t
theorem near_nat {n d : Int} (hd : 0 < d) (t : Str) : (near n d t).natAbs ≤ n.natAbs + 1 := by
  have a := near_lo (n := n) (d := d) t
  have b := near_hi (n := n) (d := d) t
  have c := Int.natAbs_ediv_le_natAbs n d
  omega
/-- what a rounded number keeps to -/
def absZ (u : Int) : Int := if u < 0 then -u else u
def keepP (off : Int) (nr fr : Bool) : List (Str × V) := [("floor", .bl (decide (off < 0))), ("ceiling", .bl (decide (off > 0))), ("cut", .bl nr), ("away", .bl fr)]
def keepH (off : Int) (nr fr ev : Bool) : List (Str × V) := [("halfup", .bl (decide (off > 0))), ("halfdown", .bl (decide (off < 0))), ("halfeven", .bl ev), ("halfaway", .bl fr), ("halfcut", .bl nr)]
theorem keep_ok {n d : Int} (h0 : 0 < d) (hr : n % d ≠ 0) {z : Str} (hz : z ∈ waysL) : absZ (near n d z * d - n) < d ∧
    (∀ v, (keepP (near n d z * d - n) (decide (absZ (near n d z) * d < absZ n)) (decide (absZ (near n d z) * d > absZ n))).lookup z = some v → v = .bl true) ∧
    ((keepP (near n d z * d - n) (decide (absZ (near n d z) * d < absZ n)) (decide (absZ (near n d z) * d > absZ n))).lookup z = none → (2 * absZ (near n d z * d - n) ≠ d → 2 * absZ (near n d z * d - n) < d) ∧
      (2 * absZ (near n d z * d - n) = d → (keepH (near n d z * d - n) (decide (absZ (near n d z) * d < absZ n)) (decide (absZ (near n d z) * d > absZ n)) (decide (near n d z % 2 = 0))).lookup z = some (.bl true))) := by
  have r0 := Int.emod_nonneg n (show d ≠ 0 by omega)
  have r1 := Int.emod_lt_of_pos n h0
  have em := Int.emod_add_mul_ediv n d
  have eu : near n d z = if goesUp z (n / d) (2 * (n % d) - d) = true then n / d + 1 else n / d := by
    unfold near
    rw [if_neg hr]
  rw [eu]
  generalize n / d = q at em ⊢
  generalize n % d = r at hr r0 r1 em ⊢
  have em2 : q * d = n - r := by rw [Int.mul_comm]; omega
  have e1 : (q + 1) * d = n - r + d := by rw [Int.add_mul, em2, Int.one_mul]
  have e2 : -q * d = r - n := by rw [Int.neg_mul, em2]; omega
  have e3 : -(q + 1) * d = r - n - d := by rw [Int.neg_mul, e1]; omega
  have sg : (0 ≤ q ∧ 0 < n) ∨ (q < 0 ∧ n < 0) := by
    by_cases h : 0 ≤ q
    · have := Int.mul_nonneg h (Int.le_of_lt h0)
      exact .inl ⟨h, by omega⟩
    · have h2 : (q + 1) * d ≤ 0 := by
        have := Int.mul_nonneg (show 0 ≤ -(q + 1) by omega) (Int.le_of_lt h0)
        rw [Int.neg_mul] at this
        omega
      exact .inr ⟨by omega, by omega⟩
  -- the four numbers, up or not
  have up1 : ∀ b : Bool, (if b = true then q + 1 else q) * d - n = if b = true then d - r else -r := fun b => by cases b <;> simp <;> omega
  have up2 : ∀ b : Bool, absZ (if b = true then d - r else -r) = if b = true then d - r else r := fun b => by
    unfold absZ
    cases b <;> simp <;> omega
  have up3 : ∀ b : Bool, decide (absZ (if b = true then q + 1 else q) * d < absZ n) = (if b = true then decide (q < 0) else decide (0 ≤ q)) ∧ decide (absZ (if b = true then q + 1 else q) * d > absZ n) = (if b = true then decide (0 ≤ q) else decide (q < 0)) := fun b => by
    unfold absZ
    rcases sg with ⟨a, c⟩ | ⟨a, c⟩
    · cases b
      · simp only [Bool.false_eq_true, if_false]
        rw [if_neg (by omega), if_neg (by omega), em2, decide_eq_true (show n - r < n by omega), decide_eq_false (show ¬ n - r > n by omega), decide_eq_true a, decide_eq_false (by omega)]
        exact ⟨rfl, rfl⟩
      · simp only [if_true]
        rw [if_neg (by omega), if_neg (by omega), e1, decide_eq_false (show ¬ n - r + d < n by omega), decide_eq_true (show n - r + d > n by omega), decide_eq_true a, decide_eq_false (by omega)]
        exact ⟨rfl, rfl⟩
    · cases b
      · simp only [Bool.false_eq_true, if_false]
        rw [if_pos a, if_pos c, e2, decide_eq_false (show ¬ r - n < -n by omega), decide_eq_true (show r - n > -n by omega), decide_eq_true a, decide_eq_false (by omega)]
        exact ⟨rfl, rfl⟩
      · simp only [if_true]
        have e4 : (if q + 1 < 0 then -(q + 1) else q + 1) * d = r - n - d := by
          split
          · exact e3
          · have : q + 1 = 0 := by omega
            rw [this] at e1 ⊢
            omega
        rw [if_pos c, e4, decide_eq_true (show r - n - d < -n by omega), decide_eq_false (show ¬ r - n - d > -n by omega), decide_eq_true a, decide_eq_false (by omega)]
        exact ⟨rfl, rfl⟩
  generalize hb : goesUp z q (2 * r - d) = b
  rw [up1, (up3 b).1, (up3 b).2, up2]
  clear up1 up2 up3 eu e1 e2 e3 em em2
  refine ⟨by cases b <;> simp <;> omega, ?_⟩
  rcases way_cases hz with rfl | rfl | rfl | rfl | rfl | rfl | rfl | rfl | rfl
  · rw [goes_none (k := 4) (by decide +kernel) (by decide +kernel)] at hb
    subst hb
    refine ⟨fun v e => ?_, fun e => by cases (show some _ = none from e)⟩
    have e' := Option.some.inj e
    rw [← e']
    simp [kUp]
    omega
  · rw [goes_none (k := 3) (by decide +kernel) (by decide +kernel)] at hb
    subst hb
    refine ⟨fun v e => ?_, fun e => by cases (show some _ = none from e)⟩
    have e' := Option.some.inj e
    rw [← e']
    simp [kUp]
    omega
  · rw [goes_none (k := 1) (by decide +kernel) (by decide +kernel)] at hb
    subst hb
    refine ⟨fun v e => ?_, fun e => by cases (show some _ = none from e)⟩
    have e' := Option.some.inj e
    rw [← e']
    rcases sg with ⟨a, c⟩ | ⟨a, c⟩
    all_goals (simp [kUp] <;> omega)
  · rw [goes_none (k := 2) (by decide +kernel) (by decide +kernel)] at hb
    subst hb
    refine ⟨fun v e => ?_, fun e => by cases (show some _ = none from e)⟩
    have e' := Option.some.inj e
    rw [← e']
    rcases sg with ⟨a, c⟩ | ⟨a, c⟩
    all_goals (simp [kUp] <;> omega)
  · rw [goes_some (y := "ceiling") (k := 3) (by decide +kernel) (by decide +kernel)] at hb
    refine ⟨fun v e => (by cases (show none = some v from e)), fun _ => ⟨fun hn => ?_, fun he => ?_⟩⟩
    · by_cases g : 2 * r - d = 0
      · exact absurd (show 2 * (if b = true then d - r else r) = d by cases b <;> simp <;> omega) hn
      · rw [if_neg g] at hb
        subst hb
        by_cases g2 : 0 < 2 * r - d
        · rw [decide_eq_true g2, if_pos rfl]
          omega
        · rw [decide_eq_false g2, if_neg (by decide)]
          omega
    · have g : 2 * r - d = 0 := by cases b <;> simp at he <;> omega
      rw [if_pos g] at hb
      subst hb
      refine congrArg some (congrArg V.bl ?_)
      simp only [kUp]
      rcases sg with ⟨a, c⟩ | ⟨a, c⟩
      all_goals (simp <;> (repeat split) <;> omega)
  · rw [goes_some (y := "floor") (k := 4) (by decide +kernel) (by decide +kernel)] at hb
    refine ⟨fun v e => (by cases (show none = some v from e)), fun _ => ⟨fun hn => ?_, fun he => ?_⟩⟩
    · by_cases g : 2 * r - d = 0
      · exact absurd (show 2 * (if b = true then d - r else r) = d by cases b <;> simp <;> omega) hn
      · rw [if_neg g] at hb
        subst hb
        by_cases g2 : 0 < 2 * r - d
        · rw [decide_eq_true g2, if_pos rfl]
          omega
        · rw [decide_eq_false g2, if_neg (by decide)]
          omega
    · have g : 2 * r - d = 0 := by cases b <;> simp at he <;> omega
      rw [if_pos g] at hb
      subst hb
      refine congrArg some (congrArg V.bl ?_)
      simp only [kUp]
      rcases sg with ⟨a, c⟩ | ⟨a, c⟩
      all_goals (simp <;> (repeat split) <;> omega)
  · rw [goes_some (y := "even") (k := 0) (by decide +kernel) (by decide +kernel)] at hb
    refine ⟨fun v e => (by cases (show none = some v from e)), fun _ => ⟨fun hn => ?_, fun he => ?_⟩⟩
    · by_cases g : 2 * r - d = 0
      · exact absurd (show 2 * (if b = true then d - r else r) = d by cases b <;> simp <;> omega) hn
      · rw [if_neg g] at hb
        subst hb
        by_cases g2 : 0 < 2 * r - d
        · rw [decide_eq_true g2, if_pos rfl]
          omega
        · rw [decide_eq_false g2, if_neg (by decide)]
          omega
    · have g : 2 * r - d = 0 := by cases b <;> simp at he <;> omega
      rw [if_pos g] at hb
      subst hb
      refine congrArg some (congrArg V.bl ?_)
      simp only [kUp]
      rcases sg with ⟨a, c⟩ | ⟨a, c⟩
      all_goals (simp <;> (repeat split) <;> omega)
  · rw [goes_some (y := "away") (k := 2) (by decide +kernel) (by decide +kernel)] at hb
    refine ⟨fun v e => (by cases (show none = some v from e)), fun _ => ⟨fun hn => ?_, fun he => ?_⟩⟩
    · by_cases g : 2 * r - d = 0
      · exact absurd (show 2 * (if b = true then d - r else r) = d by cases b <;> simp <;> omega) hn
      · rw [if_neg g] at hb
        subst hb
        by_cases g2 : 0 < 2 * r - d
        · rw [decide_eq_true g2, if_pos rfl]
          omega
        · rw [decide_eq_false g2, if_neg (by decide)]
          omega
    · have g : 2 * r - d = 0 := by cases b <;> simp at he <;> omega
      rw [if_pos g] at hb
      subst hb
      refine congrArg some (congrArg V.bl ?_)
      simp only [kUp]
      rcases sg with ⟨a, c⟩ | ⟨a, c⟩
      all_goals (simp <;> (repeat split) <;> omega)
  · rw [goes_some (y := "cut") (k := 1) (by decide +kernel) (by decide +kernel)] at hb
    refine ⟨fun v e => (by cases (show none = some v from e)), fun _ => ⟨fun hn => ?_, fun he => ?_⟩⟩
    · by_cases g : 2 * r - d = 0
      · exact absurd (show 2 * (if b = true then d - r else r) = d by cases b <;> simp <;> omega) hn
      · rw [if_neg g] at hb
        subst hb
        by_cases g2 : 0 < 2 * r - d
        · rw [decide_eq_true g2, if_pos rfl]
          omega
        · rw [decide_eq_false g2, if_neg (by decide)]
          omega
    · have g : 2 * r - d = 0 := by cases b <;> simp at he <;> omega
      rw [if_pos g] at hb
      subst hb
      refine congrArg some (congrArg V.bl ?_)
      simp only [kUp]
      rcases sg with ⟨a, c⟩ | ⟨a, c⟩
      all_goals (simp <;> (repeat split) <;> omega)
end Own

/-! k09: the class Shape. -/
namespace K09
open PySem PySem.Spec PyProof.Rows L2 LamX NdefX Own
abbrev shI (i : Nat) : Stmt := inClass (topS 22) i
abbrev pNShape : Stmt := topS 999
/-- what the class is -/
structure ShapeC (K : PySem.W.Frag) (mg : Str → Option Value) (S : Addr) : Prop where
  g : mg "Shape" = some (.ref S)
  cls : Cls K S
  nw : NoAttr K S "whole"
  ns : NoAttr K S "scale"
/-- a Shape stands at a: u whole figures, s places -/
def SAt (S : Addr) (H : Hp) (a : Addr) (u s : Nat) : Prop := ∃ dx, H a = some (.ins S dx [("whole", .int u), ("scale", .int s)])
theorem SAt.same {S a : Addr} {H H' : Hp} {u s : Nat} (h : SAt S H a u s) (z : Same H H') : SAt S H' a u s := by
  obtain ⟨dx, e⟩ := h
  exact ⟨dx, z _ _ e⟩
theorem lkW (u s : V) : (([("whole", u), ("scale", s)] : List (Str × V))).lookup ("whole" : Str) = some u := by simp [List.lookup]
theorem lkS (u s : V) : (([("whole", u), ("scale", s)] : List (Str × V))).lookup ("scale" : Str) = some s := by
  have e : (("scale" : Str) == "whole") = false := by decide +kernel
  simp [List.lookup, e]
theorem putS2 (u s : V) : putF "scale" s (putF "whole" u []) = ([("whole", u), ("scale", s)] : List (Str × V)) := by
  have e : ¬ (("whole" : Str) = "scale") := by decide +kernel
  simp [putF, e]
section
variable {P : Program} {w : World} {K : PySem.W.Frag} {mg : Str → Option Value} {base : Heap} {C CN S : Addr}
theorem scSI : FnScope ["self", "whole", "scale"] ["self", "whole", "scale"] (defScope (shI 0)) := ⟨rfl, rfl, rfl, by decide +kernel, rfl, by decide +kernel, by decide +kernel⟩
def spSI (C CN S : Addr) : Sp := fun vs H Q E => ∃ (a dx : Addr) (x y : V), vs = [.ref a, x, y] ∧ H a = some (.ins S dx []) ∧ Thing H x ∧ Thing H y ∧ (isWh x = false → Bad C "value" x H E) ∧ (isWh x = true → isWh y = false → Bad C "value" y H E) ∧
  ∀ (u s : Nat), x = .int u → y = .int s → (u = 0 → s = 0 → E (.ref CN) none H) ∧ (¬ (u = 0 ∧ s = 0) → Q .non (upd H a (.ins S dx [("whole", .int u), ("scale", .int s)])))
theorem ok_sI {f : Addr} {fd : FuncData} (F : Fun K "__init__" "Shape.__init__" (shI 0) f fd) (T : ShapeC K mg S) (TN : ErrN P w K mg base "NoFigures" CN) (D2 : DefOk P w K mg base (L2.CX P w) "need_whole_number" 3 ["value"] (spNWh C)) :
    FnOk P w K mg base (L2.CX P w) 4 f fd ["self", "whole", "scale"] (spSI C CN S) := by
  refine F.okX scSI (fun vs H Q E h => ?_) (fun cdv A outer s0 H vs Q E hr h => ?_)
  · obtain ⟨a, dx, x, y, rfl, _⟩ := h
    rfl
  · obtain ⟨a, dx, x, y, rfl, ha, tx, ty, q1, q2, q3⟩ := h
    refine ⟨_, pss_cons (ps_expr (pe_def (E := E) D2 hr (by decide) (by rfl) (passes_call (takes_of rfl rfl rfl rfl) fun _ _ _ _ z => z) (pa_cons (pv 1) pa_nil)))
      (pss_cons (ps_expr (pe_def (E := E) D2 hr (by decide) (by rfl) (passes_call (takes_of rfl rfl rfl rfl) fun _ _ _ _ z => z) (pa_cons (pv 2) pa_nil)))
      (pss_cons (ps_if (PW.pt (pw_and (pt_cmpR op_eq (pv 1) pe_int (nomark _)) (pw_and1 (pt_cmpR op_eq (pv 2) pe_int (nomark _))))) (pss_one (ps_raise rfl (takes_of rfl rfl rfl rfl) (pmk_errN TN hr (by decide) (by rfl)))) pss_nil)
      (pss_cons (ps_fld (pv 0) (pv 1) rfl) (pss_one (ps_fld (pv 0) (pv 2) rfl))))), ?_⟩
    refine ⟨_, rfl, x, rfl, tx, fun hx => ?_, q1⟩
    refine ⟨_, rfl, y, rfl, ty, fun hy => ?_, q2 hx⟩
    obtain ⟨u, rfl⟩ := isWh_nat hx
    obtain ⟨s, rfl⟩ := isWh_nat hy
    obtain ⟨q4, q5⟩ := q3 u s rfl rfl
    refine ⟨_, rfl, rfl, _, rfl, ite2 (fun e => ?_) (fun e => ?_)⟩
    · have u0 : u = 0 := by
        have z : (u : Int) = 0 := by simpa using e
        omega
      refine ⟨_, rfl, rfl, _, rfl, ite2 (fun e2 => ?_) (fun e2 => ?_)⟩
      · have s0 : s = 0 := by
          have z : (s : Int) = 0 := by simpa using e2
          omega
        exact q4 u0 s0
      · have s0 : s ≠ 0 := by
          have z : ¬ (s : Int) = 0 := by simpa using e2
          omega
        refine ⟨_, rfl, _, rfl, a, S, dx, [], rfl, ha, T.cls, T.nw, by decide, ?_⟩
        refine ⟨_, rfl, _, rfl, a, S, dx, _, rfl, upd_same, T.cls, T.ns, by show 1 < 1000; decide, ?_⟩
        rw [upd_upd, putS2]
        exact q5 (fun z => s0 z.2)
    · have u0 : u ≠ 0 := by
        have z : ¬ (u : Int) = 0 := by simpa using e
        omega
      refine ⟨_, rfl, _, rfl, a, S, dx, [], rfl, ha, T.cls, T.nw, by decide, ?_⟩
      refine ⟨_, rfl, _, rfl, a, S, dx, _, rfl, upd_same, T.cls, T.ns, by show 1 < 1000; decide, ?_⟩
      rw [upd_upd, putS2]
      exact q5 (fun z => u0 z.1)
end
end K09

/-! k09: Shapes made, told, needed. -/
namespace K09
open PySem PySem.Spec PyProof.Rows L2 LamX NdefX Own
section
variable {P : Program} {w : World} {K : PySem.W.Frag} {mg : Str → Option Value} {base : Heap} {C CN S : Addr}
theorem isWh_no {n : Nat} {p : Prop} (z : isWh (.int (n : Int)) = false) : p := by
  rw [isWh_cast] at z
  cases z
/-- how the class is called -/
structure SMk (P : Program) (w : World) (K : PySem.W.Frag) (mg : Str → Option Value) (base : Heap) (C CN S : Addr) : Prop where
  ex : ∃ (fI : Addr) (fd : FuncData), Mk K S fI ∧ FnOk P w K mg base (L2.CX P w) 4 fI fd ["self", "whole", "scale"] (spSI C CN S) ∧ Binds K fd ["self", "whole", "scale"] []
/-- what the call Shape(x, y) gives -/
def spShape (C CN S : Addr) : Sp := fun vs H Q E => ∃ x y : V, vs = [x, y] ∧ Thing H x ∧ Thing H y ∧ (isWh x = false → Bad C "value" x H E) ∧ (isWh x = true → isWh y = false → Bad C "value" y H E) ∧
  ∀ (u s : Nat), x = .int u → y = .int s → (u = 0 → s = 0 → ∀ H', Same H H' → E (.ref CN) none H') ∧ (¬ (u = 0 ∧ s = 0) → ∀ (a : Addr) (H' : Hp), Same H H' → H a = none → SAt S H' a u s → Q (.ref a) H')
theorem shape_make {vs : List V} {H : Hp} {Q : VK} {E : XK} (h : spShape C CN S vs H Q E) (a dx : Addr) (na : H a = none) (nd : H dx = none) (ne : dx ≠ a) : spSI C CN S (.ref a :: vs) (upd (upd H dx (.own a)) a (.ins S dx [])) (fun v H2 => v = .non ∧ Q (.ref a) H2) E := by
  obtain ⟨x, y, rfl, tx, ty, q1, q2, q3⟩ := h
  have na1 : upd H dx (.own a) a = none := (upd_ne ne.symm).trans na
  have s1 : Same H (upd (upd H dx (.own a)) a (.ins S dx [])) := (same_new nd).trans (same_new na1)
  refine ⟨a, dx, x, y, rfl, upd_same, tx.same s1, ty.same s1, fun z => (q1 z).same s1, fun z1 z2 => (q2 z1 z2).same s1, fun u s e1 e2 => ?_⟩
  obtain ⟨q4, q5⟩ := q3 u s e1 e2
  refine ⟨fun z1 z2 => q4 z1 z2 _ s1, fun z => ⟨rfl, q5 z a _ (fun b o e => ?_) na ⟨dx, upd_same⟩⟩⟩
  rw [upd_upd]
  exact ((same_new nd).trans (same_new na1)) _ _ e
/-- a Shape of whole numbers that are not both 0 -/
theorem shape_of {u s : Nat} {H : Hp} {Q : VK} {E : XK} (h : ¬ (u = 0 ∧ s = 0)) (q : ∀ (a : Addr) (H' : Hp), Same H H' → H a = none → SAt S H' a u s → Q (.ref a) H') : spShape C CN S [.int u, .int s] H Q E := by
  refine ⟨.int u, .int s, rfl, .int _, .int _, fun z => isWh_no z, fun _ z => isWh_no z, fun u' s' e1 e2 => ?_⟩
  obtain rfl : u = u' := by have := V.int.inj e1; omega
  obtain rfl : s = s' := by have := V.int.inj e2; omega
  exact ⟨fun z1 z2 => absurd ⟨z1, z2⟩ h, fun _ => q⟩
section
variable {X : Cx} {k : Nat} {E : XK} {p pos : Pos} {e e1 e2 : Expr} {t : TA} {ta : TE}
theorem pe_shape (M : SMk X.prog X.w X.K X.mg X.base C CN S) (T : ShapeC X.K X.mg S) (hr : Room k X.A) (hk : 5 ≤ k) (hg : Gl X "Shape") (hx : Passes (L2.CX X.prog X.w) X E) (ha : PA X [e1, e2] t)
    (he : starEach [e1, e2] X.env = (false, eval e1 X.env) :: starEach [e2] X.env := by rfl) (hpl : (backTo pos (starEach [e2] X.env)).any (·.1) = false := by rfl) : PE X (.Call (.Name "Shape" p) [e1, e2] [] pos) (tCall (spShape C CN S) [] E t) := by
  obtain ⟨fI, fd, mk, F, b2⟩ := M.ex
  constructor
  intro pins s σ H Q I h
  refine wpAny_Call_Name_kw (ld_glob I hg T.g ?_ (by decide))
  refine PySem.W.callWith_K (h₀ := X.base) I.ok.mod.kin mk.kp (thn (ha.run pos pins s σ H _ I h) ?_) he hpl
  rintro us s1 ⟨vs, H1, I1, r, q⟩
  refine ⟨I1.kIn, run_make mk F (hr.mono hk) b2 .nil hx I1 r fun a dx na nd ne => ?_⟩
  rw [List.append_nil] at q ⊢
  exact shape_make q a dx na nd ne
end
/-! ### width -/
theorem scWid : FnScope ["self"] ["self"] (defScope (shI 2)) := ⟨rfl, rfl, rfl, by decide +kernel, rfl, by decide +kernel, by decide +kernel⟩
def spWid (S : Addr) : Sp := fun vs H Q _ => ∃ (a : Addr) (u s : Nat), vs = [.ref a] ∧ SAt S H a u s ∧ Q (.int ((u + s : Nat) : Int)) H
theorem ok_wid {f : Addr} {fd : FuncData} (F : Fun K "width" "Shape.width" (shI 2) f fd) (T : ShapeC K mg S) : FnOk P w K mg base CX0 1 f fd ["self"] (spWid S) := by
  refine F.ok scWid (fun vs H Q E h => ?_) (fun cdv A outer s0 H vs Q E hr h => ?_)
  · obtain ⟨a, u, s, rfl, _⟩ := h
    rfl
  · obtain ⟨a, u, s, rfl, ⟨dx, ea⟩, q⟩ := h
    refine ⟨_, pss_one (ps_ret (pe_op op_add (pe_fld (pv 0) (by rfl)) (pe_fld (pv 0) (by rfl)))), ?_⟩
    exact ⟨_, rfl, a, S, dx, _, .int u, rfl, ea, T.cls, T.nw, lkW _ _, _, rfl, a, S, dx, _, .int s, rfl, ea, T.cls, T.ns, lkS _ _, _, _, rfl, rfl, q⟩
/-- the property -/
structure SWid (P : Program) (w : World) (K : PySem.W.Frag) (mg : Str → Option Value) (base : Heap) (S : Addr) : Prop where
  ex : ∃ (p g : Addr) (fd : FuncData), PropOf K S "width" p g ∧ FnOk P w K mg base CX0 1 g fd ["self"] (spWid S) ∧ Binds K fd ["self"] []
section
variable {X : Cx} {k : Nat} {pos : Pos} {e : Expr} {ta : TE}
theorem pe_width (D : SWid X.prog X.w X.K X.mg X.base S) (T : ShapeC X.K X.mg S) (hr : Room k X.A) (hk : 2 ≤ k) (he : PE X e ta) (hab : attributeBase e "width" X.env (eval e X.env) = eval e X.env) : PE X (.Attribute e "width" pos) (tProp S (spWid S) [] E0 ta) := by
  obtain ⟨p, g, fd, hp, F, b⟩ := D.ex
  exact pe_prop he T.cls hp F (hr.mono hk) b .nil pass0 hab
end
/-! ### need_shape -/
end
end K09

/-! k09: Shapes: what fits, the greatest, ==. -/
namespace K09
open PySem PySem.Spec PyProof.Rows L2 LamX NdefX Own
abbrev pBel : Stmt := topS 24
section
variable {P : Program} {w : World} {K : PySem.W.Frag} {mg : Str → Option Value} {base : Heap} {C CN W S : Addr}
theorem scBel : FnScope ["worth", "whole"] ["worth", "whole"] (defScope pBel) := ⟨rfl, rfl, rfl, by decide +kernel, rfl, by decide +kernel, by decide +kernel⟩
def spBel (W : Addr) : Sp := fun vs H Q _ => ∃ (b : Addr) (u : Int) (s n : Nat), vs = [.ref b, .int n] ∧ WAt W H b u s ∧ n + s < 2000 ∧ Q (.bl (decide (absZ u < (10 : Int) ^ (n + s)))) H
theorem ok_bel (A : At K mg "is_below_ten_to" pBel ["worth", "whole"]) (B : Blt mg) (T : WorthC K mg W) (DT : DefOk P w K mg base CX0 "ten_to" 9 ["places"] (spTenTo 8)) : DefOk P w K mg base CX0 "is_below_ten_to" 10 ["worth", "whole"] (spBel W) := by
  refine A.ok fun f fd F => F.ok scBel (fun vs H Q E h => ?_) (fun cdv A outer s0 H vs Q E hr h => ?_)
  · obtain ⟨b, u, s, n, rfl, _⟩ := h
    rfl
  · obtain ⟨b, u, s, n, rfl, ⟨dx, ea⟩, hn, q⟩ := h
    refine ⟨_, pss_one (ps_ret (pe_cmpR op_lt (pe_callB call_abs (by rfl) B.abs (by decide +kernel) (pa_cons (pe_fld (pv 0) (by rfl)) pa_nil)) (pe_def DT hr (by decide) (by rfl) pass0 (pa_cons (pe_op op_add (pv 1) (pe_fld (pv 0) (by rfl))) pa_nil)) (nomark _))), ?_⟩
    refine ⟨_, rfl, b, W, dx, _, .int u, rfl, ea, T.cls, T.nu, lk_u _ _, u, rfl, _, rfl, _, rfl, b, W, dx, _, .int s, rfl, ea, T.cls, T.ns, lk_s _ _, _, _, rfl, rfl, ?_⟩
    have e : (n : Int) + (s : Int) = ((n + s : Nat) : Int) := by omega
    dsimp only
    rw [e]
    exact ⟨n + s, rfl, by show n + s < 16 * 2 ^ 8; omega, _, _, rfl, rfl, q⟩
theorem scFits : FnScope ["self", "worth"] ["self", "worth"] (defScope (shI 3)) := ⟨rfl, rfl, rfl, by decide +kernel, rfl, by decide +kernel, by decide +kernel⟩
/-- whether u units at s, told at its own scale, fit n figures ahead of the point and c behind it -/
def fitB (u : Int) (s n c : Nat) : Bool := decide (s ≤ c) && decide (absZ u < (10 : Int) ^ (n + s))
def spFits (C W S : Addr) : Sp := fun vs H Q E => ∃ (a : Addr) (n c : Nat) (x : V), vs = [.ref a, x] ∧ SAt S H a n c ∧ ((Thing H x ∧ Bad C "value" x H E) ∨ ∃ (b : Addr) (u : Int) (s : Nat), x = .ref b ∧ WAt W H b u s ∧ n + s < 2000 ∧ Q (.bl (fitB u s n c)) H)
theorem ok_fits {g : Addr} {fd : FuncData} (F : Fun K "fits" "Shape.fits" (shI 3) g fd) (T : WorthC K mg W) (TS : ShapeC K mg S) (DNW : DefOk P w K mg base (L2.CX P w) "need_worth" 3 ["value"] (spNeedW C W)) (DB : DefOk P w K mg base CX0 "is_below_ten_to" 10 ["worth", "whole"] (spBel W)) :
    FnOk P w K mg base (L2.CX P w) 11 g fd ["self", "worth"] (spFits C W S) := by
  refine F.okX scFits (fun vs H Q E h => ?_) (fun cdv A outer s0 H vs Q E hr h => ?_)
  · obtain ⟨a, n, c, x, rfl, _⟩ := h
    rfl
  · obtain ⟨a, n, c, x, rfl, ⟨dx, ea⟩, h⟩ := h
    refine ⟨_, pss_cons (ps_expr (pe_def (E := E) DNW hr (by decide) (by rfl) (passes_call (takes_of rfl rfl rfl rfl) fun _ _ _ _ z => z) (pa_cons (pv 1) pa_nil)))
      (pss_one (ps_ret (pe_and (pe_cmpR op_le (pe_fld (pv 1) (by rfl)) (pe_fld (pv 0) (by rfl)) (nomark _)) (pe_one (pe_def DB hr (by decide) (by rfl) pass0 (pa_cons (pv 1) (pa_cons (pe_fld (pv 0) (by rfl)) pa_nil))))))), ?_⟩
    rcases h with ⟨th, bad⟩ | ⟨b, u, s, rfl, wb, hn, q⟩
    · exact ⟨_, rfl, x, rfl, .inr ⟨th, bad⟩⟩
    · obtain ⟨dy, eb⟩ := id wb
      refine ⟨_, rfl, _, rfl, .inl ⟨b, u, s, rfl, wb, ?_⟩⟩
      unfold fitB at q
      refine ⟨_, rfl, b, W, dy, _, .int s, rfl, eb, T.cls, T.ns, lk_s _ _, _, rfl, a, S, dx, _, .int c, rfl, ea, TS.cls, TS.ns, lkS _ _, _, _, rfl, rfl, _, rfl, ite2 (fun e => ?_) (fun e => ?_)⟩
      · have z : (s : Int) ≤ (c : Int) := of_decide_eq_true e
        rw [decide_eq_true (show s ≤ c by omega), Bool.true_and] at q
        exact ⟨_, rfl, _, rfl, a, S, dx, _, .int n, rfl, ea, TS.cls, TS.nw, lkW _ _, b, u, s, n, rfl, wb, hn, q⟩
      · have z : ¬ (s : Int) ≤ (c : Int) := fun y => e (decide_eq_true y)
        rw [decide_eq_false (show ¬ s ≤ c by omega), Bool.false_and] at q
        exact q
theorem scGrt : FnScope ["self"] ["self"] (defScope (shI 4)) := ⟨rfl, rfl, rfl, by decide +kernel, rfl, by decide +kernel, by decide +kernel⟩
def spGrt (W S : Addr) : Sp := fun vs H Q _ => ∃ (a : Addr) (n c : Nat), vs = [.ref a] ∧ SAt S H a n c ∧ n + c < 2000 ∧ c < 500 ∧ Gives W H ((10 : Int) ^ (n + c) - 1) c Q
theorem ok_grt {g : Addr} {fd : FuncData} (F : Fun K "greatest" "Shape.greatest" (shI 4) g fd) (T : WorthC K mg W) (M : WMk P w K mg base C W) (TS : ShapeC K mg S) (SW : SWid P w K mg base S) (DT : DefOk P w K mg base CX0 "ten_to" 9 ["places"] (spTenTo 8)) :
    FnOk P w K mg base (L2.CX P w) 13 g fd ["self"] (spGrt W S) := by
  refine F.okX scGrt (fun vs H Q E h => ?_) (fun cdv A outer s0 H vs Q E hr h => ?_)
  · obtain ⟨a, n, c, rfl, _⟩ := h
    rfl
  · obtain ⟨a, n, c, rfl, sa, hn, hc, gv⟩ := h
    refine ⟨_, pss_one (ps_ret (pe_worth (C := C) (E := E) M T hr (by decide) (by rfl) (passes_call (takes_of rfl rfl rfl rfl) fun _ _ _ _ z => z) (pa_cons (pe_op op_sub (pe_def DT hr (by decide) (by rfl) pass0 (pa_cons (pe_width SW TS hr (by decide) (pv 0) (by rfl)) pa_nil)) pe_int) (pa_cons (pe_fld (pv 0) (by rfl)) pa_nil)))), ?_⟩
    obtain ⟨dx, ea⟩ := id sa
    refine ⟨_, rfl, a, dx, _, rfl, ea, a, n, c, rfl, sa, ?_⟩
    refine ⟨n + c, rfl, by show n + c < 16 * 2 ^ 8; omega, _, _, rfl, rfl, _, rfl, a, S, dx, _, .int c, rfl, ea, TS.cls, TS.ns, lkS _ _, ?_⟩
    exact worth_of hc gv
theorem scSEq : FnScope ["self", "other"] ["self", "other"] (defScope (shI 1)) := ⟨rfl, rfl, rfl, by decide +kernel, rfl, by decide +kernel, by decide +kernel⟩
/-- == of a Shape with another, with an instance of another class, with anything else -/
def spSEq (S : Addr) : Sp := fun vs H Q _ => ∃ (a : Addr) (n c : Nat) (y : V), vs = [.ref a, y] ∧ SAt S H a n c ∧ ((∃ (b : Addr) (n2 c2 : Nat), y = .ref b ∧ SAt S H b n2 c2 ∧ Q (.bl (decide (n = n2) && decide (c = c2))) H) ∨
  (∃ (D b db : Addr) (fs : List (Str × V)), y = .ref b ∧ H b = some (.ins D db fs) ∧ Cls K D ∧ WIs K D ∧ PySem.W.kitOne K (.ref D) (.ref S) = some false ∧ Q (.bl false) H) ∨ (Thing H y ∧ Q (.bl false) H))
theorem ok_sEq {g : Addr} {fd : FuncData} (F : Fun K "__eq__" "Shape.__eq__" (shI 1) g fd) (B : Blt mg) (TS : ShapeC K mg S) (I : WIs K S) : FnOk P w K mg base (L2.CX P w) 1 g fd ["self", "other"] (spSEq (K := K) S) := by
  refine F.okX scSEq (fun vs H Q E h => ?_) (fun cdv A outer s0 H vs Q E hr h => ?_)
  · obtain ⟨a, n, c, y, rfl, _⟩ := h
    rfl
  · obtain ⟨a, n, c, y, rfl, ⟨dx, ea⟩, h⟩ := h
    refine ⟨_, pss_one (ps_ret (pe_and (pe_callB call_isi (by rfl) B.isi (by decide +kernel) (pa_cons (pv 1) (pa_cons (pe_glob (v := .ref S) (by rfl) TS.g rfl) pa_nil))) (pe_and (pe_cmpR op_eq (pe_fld (pv 0) (by rfl)) (pe_fld (pv 1) (by rfl)) (nomark _)) (pe_one (pe_cmpR op_eq (pe_fld (pv 0) (by rfl)) (pe_fld (pv 1) (by rfl)) (nomark _)))))), ?_⟩
    rcases h with ⟨b, n2, c2, rfl, ⟨dy, eb⟩, q⟩ | ⟨D, b, db, fs, rfl, eb, cD, iD, kD, q⟩ | ⟨th, q⟩
    · refine ⟨_, rfl, _, _, _, _, true, rfl, .own S, .base (.ins eb TS.cls I.ha I.hn I.ht I.hm), by unfold PySem.W.kitOne; rw [if_pos (by simp)], _, rfl, iteT ?_⟩
      refine ⟨_, rfl, a, S, dx, _, .int n, rfl, ea, TS.cls, TS.nw, lkW _ _, _, rfl, b, S, dy, _, .int n2, rfl, eb, TS.cls, TS.nw, lkW _ _, rfl, _, rfl, ite2 (fun e => ?_) (fun e => ?_)⟩
      · have h0 : n = n2 := by
          have z : (n : Int) = (n2 : Int) := by simpa using e
          omega
        refine ⟨_, rfl, a, S, dx, _, .int c, rfl, ea, TS.cls, TS.ns, lkS _ _, _, rfl, b, S, dy, _, .int c2, rfl, eb, TS.cls, TS.ns, lkS _ _, rfl, ?_⟩
        show Q (.bl (decide (V.int (c : Int) = V.int (c2 : Int)))) H
        rw [show decide (V.int (c : Int) = V.int (c2 : Int)) = (decide (n = n2) && decide (c = c2)) by
          rw [decide_eq_true h0, Bool.true_and]
          exact decide_eq_decide.mpr ⟨fun z => by have := V.int.inj z; omega, fun z => by rw [z]⟩]
        exact q
      · have h0 : n ≠ n2 := fun z => e (by rw [z]; simp)
        rw [decide_eq_false h0, Bool.false_and] at q
        exact q
    · exact ⟨_, rfl, _, _, _, _, false, rfl, .own S, .base (.ins eb cD iD.ha iD.hn iD.ht iD.hm), kD, _, rfl, iteF q⟩
    · obtain ⟨ty, hty, tx⟩ := th.tyx (K := K)
      exact ⟨_, rfl, _, _, _, _, false, rfl, .own S, tx, I.no ty hty, _, rfl, iteF q⟩
end
end K09

/-! k09: the class Column. -/
namespace K09
open PySem PySem.Spec PyProof.Rows L2 LamX NdefX Own
abbrev coI (i : Nat) : Stmt := inClass (topS 23) i
def marksL : List Str := ["signed", "unsigned", "positive"]
def isMark : V → Bool
  | .str z => decide (z ∈ marksL)
  | _ => false
theorem isMark_ok {z : Str} (h : z ∈ marksL) : isMark (.str z) = true := decide_eq_true h
theorem inV_txt (z : Str) (l : List Str) : inV (.str z) (l.map V.str) = decide (z ∈ l) := by
  unfold inV
  rw [List.any_map]
  induction l with
  | nil => rfl
  | cons a r ih =>
    rw [List.any_cons, ih]
    show (a == z || decide (z ∈ r)) = decide (z ∈ a :: r)
    by_cases h : a = z
    · subst h
      simp
    · have h' : ¬ z = a := fun e => h e.symm
      simp [h, h']
section
variable {P : Program} {w : World} {K : PySem.W.Frag} {mg : Str → Option Value} {base : Heap} {C CN W S Co aM fs : Addr} {fds : FuncData}
/-- what the class is -/
structure ColC (K : PySem.W.Frag) (mg : Str → Option Value) (Co : Addr) : Prop where
  g : mg "Column" = some (.ref Co)
  cls : Cls K Co
  ns : NoAttr K Co "shape"
  nm : NoAttr K Co "mark"
def cRow (sh : Addr) (m : Str) : List (Str × V) := [("shape", .ref sh), ("mark", .str m)]
theorem cLk_s (sh : Addr) (m : Str) : (cRow sh m).lookup ("shape" : Str) = some (.ref sh) := by simp [cRow, List.lookup]
theorem cLk_m (sh : Addr) (m : Str) : (cRow sh m).lookup ("mark" : Str) = some (.str m) := by
  have e : (("mark" : Str) == "shape") = false := by decide +kernel
  simp [cRow, List.lookup, e]
theorem cLk_no {x : Str} (sh : Addr) (m : Str) (h1 : (x == "shape") = false) (h2 : (x == "mark") = false) : (cRow sh m).lookup x = none := by simp [cRow, List.lookup, h1, h2]
theorem putC (u s : V) : putF "mark" s (putF "shape" u []) = ([("shape", u), ("mark", s)] : List (Str × V)) := by
  have e : ¬ (("shape" : Str) = "mark") := by decide +kernel
  simp [putF, e]
/-- a Column stands at a: n figures ahead of the point, c behind it, the mark m -/
def CAt (Co S : Addr) (H : Hp) (a : Addr) (n c : Nat) (m : Str) : Prop := ∃ dx sh, H a = some (.ins Co dx (cRow sh m)) ∧ SAt S H sh n c
theorem CAt.same {a : Addr} {H H' : Hp} {n c : Nat} {m : Str} (h : CAt Co S H a n c m) (z : Same H H') : CAt Co S H' a n c m := by
  obtain ⟨dx, sh, e, s⟩ := h
  exact ⟨dx, sh, z _ _ e, s.same z⟩
theorem scCI : FnScope ["self", "whole", "scale", "mark"] ["self", "whole", "scale", "mark"] (defScope (coI 0)) := ⟨rfl, rfl, rfl, by decide +kernel, rfl, by decide +kernel, by decide +kernel⟩
def spCI (C CN Co S : Addr) : Sp := fun vs H Q E => ∃ (a dx : Addr) (x y z : V), vs = [.ref a, x, y, z] ∧ H a = some (.ins Co dx []) ∧ Thing H x ∧ Thing H y ∧ Thing H z ∧ (isWh x = false → Bad C "value" x H E) ∧ (isWh x = true → isWh y = false → Bad C "value" y H E) ∧ (isWh x = true → isWh y = true → isMark z = false → Bad C "value" z H E) ∧
  ∀ (n c : Nat) (m : Str), m ∈ marksL → x = .int n → y = .int c → z = .str m → (n = 0 → c = 0 → ∀ H', Same H H' → E (.ref CN) none H') ∧ (¬ (n = 0 ∧ c = 0) → ∀ (sh : Addr) (H' : Hp), Keep a H H' → H' a = some (.ins Co dx (cRow sh m)) → SAt S H' sh n c → Q .non H')
theorem ok_cI {f : Addr} {fd : FuncData} {dvs : List V} (F : FunD K "__init__" "Column.__init__" (defArgs (coI 0)) (defBody (coI 0)) (defScope (coI 0)) dvs [] f fd) (TC : ColC K mg Co) (TS : ShapeC K mg S) (MS : SMk P w K mg base C CN S) (gM : mg "MARKS" = some (.ref aM)) (marks : ∀ H : Hp, SqT K H aM (marksL.map V.str))
    (TB : ErrC P w K mg base "BadValue" "value" 1 C (spErr C "value")) (DN : DefOk P w K mg base (L2.CX P w) "need_whole_number" 3 ["value"] (spNWh C)) : FnOk P w K mg base (L2.CX P w) 6 f fd ["self", "whole", "scale", "mark"] (spCI C CN Co S) := by
  refine F.ok scCI (fun vs H Q E h => ?_) (fun cdv A outer s0 H vs Q E hr h => ?_)
  · obtain ⟨a, dx, x, y, z, rfl, _⟩ := h
    rfl
  · obtain ⟨a, dx, x, y, z, rfl, ha, tx, ty, tz, q1, q2, q3, q4⟩ := h
    refine ⟨_, pss_cons (ps_expr (pe_def (E := E) DN hr (by decide) (by rfl) (passes_call (takes_of rfl rfl rfl rfl) fun _ _ _ _ z => z) (pa_cons (pv 1) pa_nil)))
      (pss_cons (ps_expr (pe_def (E := E) DN hr (by decide) (by rfl) (passes_call (takes_of rfl rfl rfl rfl) fun _ _ _ _ z => z) (pa_cons (pv 2) pa_nil)))
      (pss_cons (ps_if (pt_cmpR (OpR.or op_notIn_seq (op_notInW (hu_of hr))) (pv 3) (pe_glob (v := .ref aM) (by rfl) gM rfl) (by rfl)) (pss_one (ps_raise rfl (takes_of rfl rfl rfl rfl) (pmk_err TB hr (by decide) (by rfl) (pv 3)))) pss_nil)
      (pss_cons (ps_fld (pv 0) (pe_shape (C := C) (CN := CN) (E := E) MS TS hr (by decide) (by rfl) (passes_call (takes_of rfl rfl rfl rfl) fun _ _ _ _ z => z) (pa_cons (pv 1) (pa_cons (pv 2) pa_nil))) rfl)
      (pss_one (ps_fld (pv 0) (pv 3) rfl))))), ?_⟩
    refine ⟨_, rfl, x, rfl, tx, fun hx => ?_, q1⟩
    refine ⟨_, rfl, y, rfl, ty, fun hy => ?_, q2 hx⟩
    obtain ⟨n, rfl⟩ := isWh_nat hx
    obtain ⟨c, rfl⟩ := isWh_nat hy
    rcases tz.noTxt with nt | ⟨m, rfl⟩
    · have hz : isMark z = false := by cases nt <;> rfl
      exact ⟨_, rfl, .inr ⟨aM, marksL, rfl, marks H, nt, _, rfl, iteT ⟨_, rfl, bad_mk (q3 hx hy hz)⟩⟩⟩
    refine ⟨_, rfl, .inl ⟨aM, _, rfl, .inr (marks H), rfl, by decide +kernel, _, rfl, ?_⟩⟩
    show if (if true = true then !inV (.str m) (marksL.map V.str) else inV (.str m) (marksL.map V.str)) = true then _ else _
    rw [if_pos rfl, inV_txt]
    refine ite2 (fun e => ?_) (fun e => ?_)
    · exact ⟨_, rfl, bad_mk (q3 hx hy (by simpa [isMark] using e))⟩
    have hm : m ∈ marksL := by simpa using e
    obtain ⟨q5, q6⟩ := q4 n c m hm rfl rfl rfl
    refine ⟨_, rfl, _, rfl, ?_⟩
    dsimp only [tNil]
    rw [List.append_nil]
    refine ⟨.int n, .int c, rfl, .int _, .int _, fun z => isWh_no z, fun _ z => isWh_no z, fun u s e1 e2 => ?_⟩
    obtain rfl : n = u := by have := V.int.inj e1; omega
    obtain rfl : c = s := by have := V.int.inj e2; omega
    refine ⟨q5, fun nz sh H1 s1 _ hs => ?_⟩
    have ha1 := s1 _ _ ha
    refine ⟨_, rfl, a, Co, dx, [], rfl, ha1, TC.cls, TC.ns, by decide, ?_⟩
    refine ⟨_, rfl, _, rfl, a, Co, dx, _, rfl, upd_same, TC.cls, TC.nm, by show 1 < 1000; decide, ?_⟩
    rw [upd_upd, putC]
    refine q6 nz sh _ ((Keep.same s1).trans Keep.at) upd_same ?_
    obtain ⟨ds, es⟩ := hs
    exact ⟨ds, (upd_ne (fun z => by rw [z, ha1] at es; cases es)).trans es⟩
theorem scCEq : FnScope ["self", "other"] ["self", "other"] (defScope (coI 1)) := ⟨rfl, rfl, rfl, by decide +kernel, rfl, by decide +kernel, by decide +kernel⟩
/-- how two Shapes are compared -/
structure SEq (P : Program) (w : World) (K : PySem.W.Frag) (mg : Str → Option Value) (base : Heap) (S f : Addr) (fd : FuncData) : Prop where
  at_ : PySem.W.findIn K (.ref S) "__eq__" = some (some (.ref f))
  isf : PySem.W.isFn K (.ref f) = true
  fn : FnOk P w K mg base (L2.CX P w) 1 f fd ["self", "other"] (spSEq (K := K) S)
  bd : Binds K fd ["self", "other"] []
  sub : ∀ T ∈ tys, PySem.W.subIn K (.type T) (.ref S) = some false
def spCEq (Co S : Addr) : Sp := fun vs H Q _ => ∃ (a : Addr) (n c : Nat) (m : Str) (y : V), vs = [.ref a, y] ∧ CAt Co S H a n c m ∧ ((∃ (b : Addr) (n2 c2 : Nat) (m2 : Str), y = .ref b ∧ CAt Co S H b n2 c2 m2 ∧ Q (.bl ((decide (n = n2) && decide (c = c2)) && decide (m = m2))) H) ∨
  (∃ (D b db : Addr) (fs : List (Str × V)), y = .ref b ∧ H b = some (.ins D db fs) ∧ Cls K D ∧ WIs K D ∧ PySem.W.kitOne K (.ref D) (.ref Co) = some false ∧ Q (.bl false) H))
theorem ok_cEq {g : Addr} {fd : FuncData} (F : Fun K "__eq__" "Column.__eq__" (coI 1) g fd) (B : Blt mg) (TC : ColC K mg Co) (I : WIs K Co) (EQ : SEq P w K mg base S fs fds) : FnOk P w K mg base (L2.CX P w) 3 g fd ["self", "other"] (spCEq (K := K) Co S) := by
  refine F.okX scCEq (fun vs H Q E h => ?_) (fun cdv A outer s0 H vs Q E hr h => ?_)
  · obtain ⟨a, n, c, m, y, rfl, _⟩ := h
    rfl
  · obtain ⟨a, n, c, m, y, rfl, ⟨dx, sh, ea, hs⟩, h⟩ := h
    refine ⟨_, pss_one (ps_ret (pe_and (pe_callB call_isi (by rfl) B.isi (by decide +kernel) (pa_cons (pv 1) (pa_cons (pe_glob (v := .ref Co) (by rfl) TC.g rfl) pa_nil))) (pe_and (pe_cmpR (op_ownEq (E := E) EQ.fn (hr.mono (by decide)) EQ.at_ EQ.isf EQ.sub EQ.bd (passes_call (takes_of rfl rfl rfl rfl) fun _ _ _ _ z => z)) (pe_fld (pv 0) (by rfl)) (pe_fld (pv 1) (by rfl)) (nomark _)) (pe_one (pe_cmpR op_eq (pe_fld (pv 0) (by rfl)) (pe_fld (pv 1) (by rfl)) (nomark _)))))), ?_⟩
    rcases h with ⟨b, n2, c2, m2, rfl, ⟨dy, sh2, eb, hs2⟩, q⟩ | ⟨D, b, db, fs, rfl, eb, cD, iD, kD, q⟩
    · refine ⟨_, rfl, _, _, _, _, true, rfl, .own Co, .base (.ins eb TC.cls I.ha I.hn I.ht I.hm), by unfold PySem.W.kitOne; rw [if_pos (by simp)], _, rfl, iteT ?_⟩
      obtain ⟨d1, e1⟩ := id hs
      obtain ⟨d2, e2⟩ := id hs2
      refine ⟨_, rfl, a, Co, dx, _, .ref sh, rfl, ea, TC.cls, TC.ns, cLk_s _ _, _, rfl, b, Co, dy, _, .ref sh2, rfl, eb, TC.cls, TC.ns, cLk_s _ _, sh, d1, _, rfl, e1, .inl ⟨sh2, d2, _, rfl, e2⟩, sh, n, c, .ref sh2, rfl, hs, .inl ⟨sh2, n2, c2, rfl, hs2, _, rfl, ite2 (fun z => ?_) (fun z => ?_)⟩⟩
      · rw [z, Bool.true_and] at q
        refine ⟨_, rfl, a, Co, dx, _, .str m, rfl, ea, TC.cls, TC.nm, cLk_m _ _, _, rfl, b, Co, dy, _, .str m2, rfl, eb, TC.cls, TC.nm, cLk_m _ _, rfl, ?_⟩
        show Q (.bl (decide (V.str m = V.str m2))) H
        rw [Own.dec_str]
        exact q
      · have z' : (decide (n = n2) && decide (c = c2)) = false := by
          cases y : (decide (n = n2) && decide (c = c2)) with
          | false => rfl
          | true => exact absurd y z
        rw [z', Bool.false_and] at q
        exact q
    · exact ⟨_, rfl, _, _, _, _, false, rfl, .own Co, .base (.ins eb cD iD.ha iD.hn iD.ht iD.hm), kD, _, rfl, iteF q⟩
end
end K09

/-! k09: Columns made, what they hold, their ends. -/
namespace K09
open PySem PySem.Spec PyProof.Rows L2 LamX NdefX Own
section
variable {P : Program} {w : World} {K : PySem.W.Frag} {mg : Str → Option Value} {base : Heap} {C CN W S Co aM fs : Addr} {fds : FuncData}
/-- how the class is called -/
structure CMk (P : Program) (w : World) (K : PySem.W.Frag) (mg : Str → Option Value) (base : Heap) (C CN Co S : Addr) : Prop where
  ex : ∃ (fI : Addr) (fd : FuncData), Mk K Co fI ∧ FnOk P w K mg base (L2.CX P w) 6 fI fd ["self", "whole", "scale", "mark"] (spCI C CN Co S) ∧ Binds K fd ["self", "whole", "scale", "mark"] [] ∧ ∃ ds, Vals [V.str "signed"] ds ∧ Binds K fd ["self", "whole", "scale", "mark"] ds
/-- what the call Column(x, y, z) gives -/
def spCol (C CN Co S : Addr) : Sp := fun vs H Q E => ∃ x y z : V, vs = [x, y, z] ∧ Thing H x ∧ Thing H y ∧ Thing H z ∧ (isWh x = false → Bad C "value" x H E) ∧ (isWh x = true → isWh y = false → Bad C "value" y H E) ∧ (isWh x = true → isWh y = true → isMark z = false → Bad C "value" z H E) ∧
  ∀ (n c : Nat) (m : Str), m ∈ marksL → x = .int n → y = .int c → z = .str m → (n = 0 → c = 0 → ∀ H', Same H H' → E (.ref CN) none H') ∧ (¬ (n = 0 ∧ c = 0) → ∀ (a : Addr) (H' : Hp), Same H H' → H a = none → CAt Co S H' a n c m → Q (.ref a) H')
theorem col_make {vs : List V} {H : Hp} {Q : VK} {E : XK} (h : spCol C CN Co S vs H Q E) (a dx : Addr) (na : H a = none) (nd : H dx = none) (ne : dx ≠ a) : spCI C CN Co S (.ref a :: vs) (upd (upd H dx (.own a)) a (.ins Co dx [])) (fun v H2 => v = .non ∧ Q (.ref a) H2) E := by
  obtain ⟨x, y, z, rfl, tx, ty, tz, q1, q2, q3, q4⟩ := h
  have na1 : upd H dx (.own a) a = none := (upd_ne ne.symm).trans na
  have s1 : Same H (upd (upd H dx (.own a)) a (.ins Co dx [])) := (same_new nd).trans (same_new na1)
  refine ⟨a, dx, x, y, z, rfl, upd_same, tx.same s1, ty.same s1, tz.same s1, fun e => (q1 e).same s1, fun e1 e2 => (q2 e1 e2).same s1, fun e1 e2 e3 => (q3 e1 e2 e3).same s1, fun n c m hm e1 e2 e3 => ?_⟩
  obtain ⟨q5, q6⟩ := q4 n c m hm e1 e2 e3
  refine ⟨fun z1 z2 H' s2 => q5 z1 z2 H' (s1.trans s2), fun nz sh H' kp ha hs => ⟨rfl, q6 nz a H' (fun b o e => ?_) na ⟨dx, sh, ha, hs⟩⟩⟩
  exact kp _ _ (ne_of_none e na) (s1 _ _ e)
/-- a Column of whole numbers that are not both 0 -/
theorem col_of {n c : Nat} {m : Str} {H : Hp} {Q : VK} {E : XK} (hm : m ∈ marksL) (h : ¬ (n = 0 ∧ c = 0)) (q : ∀ (a : Addr) (H' : Hp), Same H H' → H a = none → CAt Co S H' a n c m → Q (.ref a) H') : spCol C CN Co S [.int n, .int c, .str m] H Q E := by
  refine ⟨.int n, .int c, .str m, rfl, .int _, .int _, .str _, fun z => isWh_no z, fun _ z => isWh_no z, fun _ _ z => absurd (z.symm.trans (isMark_ok hm)) (by decide), fun n' c' m' _ e1 e2 e3 => ?_⟩
  obtain rfl : n = n' := by have := V.int.inj e1; omega
  obtain rfl : c = c' := by have := V.int.inj e2; omega
  obtain rfl := V.str.inj e3
  exact ⟨fun z1 z2 => absurd ⟨z1, z2⟩ h, fun _ => q⟩
section
variable {X : Cx} {k : Nat} {E : XK} {p pos : Pos} {e e1 e2 e3 : Expr} {t : TA} {ta : TE}
theorem pe_col3 (M : CMk X.prog X.w X.K X.mg X.base C CN Co S) (T : ColC X.K X.mg Co) (hr : Room k X.A) (hk : 7 ≤ k) (hg : Gl X "Column") (hx : Passes (L2.CX X.prog X.w) X E) (ha : PA X [e1, e2, e3] t)
    (he : starEach [e1, e2, e3] X.env = (false, eval e1 X.env) :: starEach [e2, e3] X.env := by rfl) (hpl : (backTo pos (starEach [e2, e3] X.env)).any (·.1) = false := by rfl) : PE X (.Call (.Name "Column" p) [e1, e2, e3] [] pos) (tCall (spCol C CN Co S) [] E t) := by
  obtain ⟨fI, fd, mk, F, b2, _⟩ := M.ex
  constructor
  intro pins s σ H Q I h
  refine wpAny_Call_Name_kw (ld_glob I hg T.g ?_ (by decide))
  refine PySem.W.callWith_K (h₀ := X.base) I.ok.mod.kin mk.kp (thn (ha.run pos pins s σ H _ I h) ?_) he hpl
  rintro us s1 ⟨vs, H1, I1, r, q⟩
  refine ⟨I1.kIn, run_make mk F (hr.mono hk) b2 .nil hx I1 r fun a dx na nd ne => ?_⟩
  rw [List.append_nil] at q ⊢
  exact col_make q a dx na nd ne
theorem pe_col2 (M : CMk X.prog X.w X.K X.mg X.base C CN Co S) (T : ColC X.K X.mg Co) (hr : Room k X.A) (hk : 7 ≤ k) (hg : Gl X "Column") (hx : Passes (L2.CX X.prog X.w) X E) (ha : PA X [e1, e2] t)
    (he : starEach [e1, e2] X.env = (false, eval e1 X.env) :: starEach [e2] X.env := by rfl) (hpl : (backTo pos (starEach [e2] X.env)).any (·.1) = false := by rfl) : PE X (.Call (.Name "Column" p) [e1, e2] [] pos) (tCall (spCol C CN Co S) [.str "signed"] E t) := by
  obtain ⟨fI, fd, mk, F, _, ds, rd, b1⟩ := M.ex
  constructor
  intro pins s σ H Q I h
  refine wpAny_Call_Name_kw (ld_glob I hg T.g ?_ (by decide))
  refine PySem.W.callWith_K (h₀ := X.base) I.ok.mod.kin mk.kp (thn (ha.run pos pins s σ H _ I h) ?_) he hpl
  rintro us s1 ⟨vs, H1, I1, r, q⟩
  exact ⟨I1.kIn, run_make mk F (hr.mono hk) b1 rd hx I1 r fun a dx na nd ne => col_make q a dx na nd ne⟩
end
/-! ### what a Column holds -/
theorem scHld : FnScope ["self", "worth"] ["self", "worth"] (defScope (coI 2)) := ⟨rfl, rfl, rfl, by decide +kernel, rfl, by decide +kernel, by decide +kernel⟩
def hldB (u : Int) (s n c : Nat) (m : Str) : Bool := fitB u s n c && (if m = "positive" then decide (u > 0) else if m = "signed" then true else decide (u ≥ 0))
/-- a method of Shapes, of Columns -/
structure SMeth (P : Program) (w : World) (K : PySem.W.Frag) (mg : Str → Option Value) (base : Heap) (S : Addr) (m : Str) (k : Nat) (ps : List Str) (sp : Sp) : Prop where
  ex : ∃ (f : Addr) (fd : FuncData), Meth K S m f ∧ FnOk P w K mg base (L2.CX P w) k f fd ps sp ∧ Binds K fd ps []
theorem sLk_no {x : Str} (u s : V) (h1 : (x == "whole") = false) (h2 : (x == "scale") = false) : (([("whole", u), ("scale", s)] : List (Str × V))).lookup x = none := by simp [List.lookup, h1, h2]
def spHld (C W Co S : Addr) : Sp := fun vs H Q E => ∃ (a : Addr) (n c : Nat) (m : Str) (x : V), vs = [.ref a, x] ∧ CAt Co S H a n c m ∧ ((Thing H x ∧ Bad C "value" x H E) ∨ ∃ (b : Addr) (u : Int) (s : Nat), x = .ref b ∧ WAt W H b u s ∧ n + s < 2000 ∧ Q (.bl (hldB u s n c m)) H)
theorem ok_hld {g : Addr} {fd : FuncData} (F : Fun K "holds" "Column.holds" (coI 2) g fd) (T : WorthC K mg W) (TS : ShapeC K mg S) (TC : ColC K mg Co) (DF : SMeth P w K mg base S "fits" 11 ["self", "worth"] (spFits C W S)) : FnOk P w K mg base (L2.CX P w) 12 g fd ["self", "worth"] (spHld C W Co S) := by
  refine F.okX scHld (fun vs H Q E h => ?_) (fun cdv A outer s0 H vs Q E hr h => ?_)
  · obtain ⟨a, n, c, m, x, rfl, _⟩ := h
    rfl
  · obtain ⟨a, n, c, m, x, rfl, ⟨dx, sh, ea, hs⟩, h⟩ := h
    obtain ⟨fF, fdF, mF, FF, bF⟩ := DF.ex
    refine ⟨_, pss_cons (ps_if (pt_not (pt_val (pe_meth (E := E) (pe_fld (pv 0) (by rfl)) TS.cls mF FF (hr.mono (by decide)) bF .nil (passes_call (takes_of rfl rfl rfl rfl) fun _ _ _ _ z => z) (pa_cons (pv 1) pa_nil)))) (pss_one (ps_ret pe_bl)) pss_nil)
      (pss_cons (ps_if (pt_cmpR op_eq (pe_fld (pv 0) (by rfl)) pe_str (nomark _)) (pss_one (ps_ret (pe_cmpR op_gt (pe_fld (pv 1) (by rfl)) pe_int (nomark _)))) pss_nil)
      (pss_one (ps_ret (pe_or (pe_cmpR op_eq (pe_fld (pv 0) (by rfl)) pe_str (nomark _)) (pe_one (pe_cmpR op_ge (pe_fld (pv 1) (by rfl)) pe_int (nomark _))))))), ?_⟩
    obtain ⟨d1, e1⟩ := id hs
    rcases h with ⟨th, bad⟩ | ⟨b, u, s, rfl, wb, hn, q⟩
    · exact ⟨_, rfl, a, Co, dx, _, .ref sh, rfl, ea, TC.cls, TC.ns, cLk_s _ _, sh, d1, _, rfl, e1, sLk_no _ _ (by decide +kernel) (by decide +kernel), _, rfl, sh, n, c, x, rfl, hs, .inl ⟨th, bad⟩⟩
    · obtain ⟨db, eb⟩ := id wb
      refine ⟨_, rfl, a, Co, dx, _, .ref sh, rfl, ea, TC.cls, TC.ns, cLk_s _ _, sh, d1, _, rfl, e1, sLk_no _ _ (by decide +kernel) (by decide +kernel), _, rfl, sh, n, c, .ref b, rfl, hs, .inr ⟨b, u, s, rfl, wb, hn, _, rfl, ?_⟩⟩
      unfold hldB at q
      cases hf : fitB u s n c with
      | false =>
        rw [hf, Bool.false_and] at q
        exact iteT q
      | true =>
        rw [hf, Bool.true_and] at q
        refine iteF ⟨_, rfl, a, Co, dx, _, .str m, rfl, ea, TC.cls, TC.nm, cLk_m _ _, rfl, _, rfl, ite2 (fun e => ?_) (fun e => ?_)⟩
        · have z : m = "positive" := by simpa using e
          rw [if_pos z] at q
          exact ⟨_, rfl, b, W, db, _, .int u, rfl, eb, T.cls, T.nu, lk_u _ _, _, _, rfl, rfl, q⟩
        · have z : m ≠ "positive" := fun y => e (by rw [y]; simp)
          rw [if_neg z] at q
          refine ⟨_, rfl, a, Co, dx, _, .str m, rfl, ea, TC.cls, TC.nm, cLk_m _ _, rfl, _, rfl, ite2 (fun e => ?_) (fun e => ?_)⟩
          · have z : m = "signed" := by simpa using e
            rw [if_pos z] at q
            exact q
          · have z : m ≠ "signed" := fun y => e (by rw [y]; simp)
            rw [if_neg z] at q
            exact ⟨_, rfl, b, W, db, _, .int u, rfl, eb, T.cls, T.nu, lk_u _ _, _, _, rfl, rfl, q⟩
theorem scHgs : FnScope ["self"] ["self"] (defScope (coI 4)) := ⟨rfl, rfl, rfl, by decide +kernel, rfl, by decide +kernel, by decide +kernel⟩
def spHgs (W Co S : Addr) : Sp := fun vs H Q _ => ∃ (a : Addr) (n c : Nat) (m : Str), vs = [.ref a] ∧ CAt Co S H a n c m ∧ n + c < 2000 ∧ c < 500 ∧ Gives W H ((10 : Int) ^ (n + c) - 1) c Q
theorem ok_hgs {g : Addr} {fd : FuncData} (F : Fun K "highest" "Column.highest" (coI 4) g fd) (TS : ShapeC K mg S) (TC : ColC K mg Co) (DG : SMeth P w K mg base S "greatest" 13 ["self"] (spGrt W S)) : FnOk P w K mg base (L2.CX P w) 14 g fd ["self"] (spHgs W Co S) := by
  refine F.okX scHgs (fun vs H Q E h => ?_) (fun cdv A outer s0 H vs Q E hr h => ?_)
  · obtain ⟨a, n, c, m, rfl, _⟩ := h
    rfl
  · obtain ⟨a, n, c, m, rfl, ⟨dx, sh, ea, hs⟩, hn, hc, gv⟩ := h
    obtain ⟨fG, fdG, mG, FG, bG⟩ := DG.ex
    refine ⟨_, pss_one (ps_ret (pe_meth0 (E := E) (pe_fld (pv 0) (by rfl)) TS.cls mG FG (hr.mono (by decide)) bG .nil (passes_call (takes_of rfl rfl rfl rfl) fun _ _ _ _ z => z))), ?_⟩
    obtain ⟨d1, e1⟩ := id hs
    exact ⟨_, rfl, a, Co, dx, _, .ref sh, rfl, ea, TC.cls, TC.ns, cLk_s _ _, sh, d1, _, rfl, e1, sLk_no _ _ (by decide +kernel) (by decide +kernel), sh, n, c, rfl, hs, hn, hc, gv⟩
theorem scSml : FnScope ["self", "first"] ["self"] (defScope (coI 5)) := ⟨rfl, rfl, rfl, by decide +kernel, rfl, by decide +kernel, by decide +kernel⟩
def firstOf (m : Str) : Nat := if m = "positive" then 1 else 0
def spSml (W Co S : Addr) : Sp := fun vs H Q _ => ∃ (a : Addr) (n c : Nat) (m : Str), vs = [.ref a] ∧ CAt Co S H a n c m ∧ c < 500 ∧ ∀ (p1 p2 r : Addr) (u1 u2 : Int) (s1 s2 : Nat) (H' : Hp), Same H H' → H' r = some (.tup [.ref p1, .ref p2]) → WAt W H' p1 u1 s1 → IsLow (firstOf m : Nat) c u1 s1 → WAt W H' p2 u2 s2 → IsLow ((firstOf m : Nat) + 1) c u2 s2 → Q (.ref r) H'
theorem ok_sml {g : Addr} {fd : FuncData} (F : Fun K "small" "Column.small" (coI 5) g fd) (T : WorthC K mg W) (M : WMk P w K mg base C W) (TS : ShapeC K mg S) (TC : ColC K mg Co) : FnOk P w K mg base (L2.CX P w) 13 g fd ["self"] (spSml W Co S) := by
  refine F.okX scSml (fun vs H Q E h => ?_) (fun cdv A outer s0 H vs Q E hr h => ?_)
  · obtain ⟨a, n, c, m, rfl, _⟩ := h
    rfl
  · obtain ⟨a, n, c, m, rfl, ⟨dx, sh, ea, hs⟩, hc, q⟩ := h
    have nd := scSml.nd
    refine ⟨_, C8.pss_cut (ps_set (i := 1) nd rfl (.inl rfl) (pe_ifExp (pt_cmpR op_eq (pe_fld (pv 0) (by rfl)) pe_str (nomark _)) pe_int pe_int))
      (pss_one (ps_ret (pe_tup (pa_cons (pe_worth (C := C) (E := E) M T hr (by decide) (by rfl) (passes_call (takes_of rfl rfl rfl rfl) fun _ _ _ _ z => z) (pa_cons (pv 1) (pa_cons (pe_fld (pe_fld (pv 0) (by rfl)) (by rfl)) pa_nil))) (pa_cons (pe_worth (C := C) (E := E) M T hr (by decide) (by rfl) (passes_call (takes_of rfl rfl rfl rfl) fun _ _ _ _ z => z) (pa_cons (pe_op op_add (pv 1) pe_int) (pa_cons (pe_fld (pe_fld (pv 0) (by rfl)) (by rfl)) pa_nil))) pa_nil))))), ?_⟩
    refine ⟨fun σ H' => σ = [some (.ref a), some (.int (firstOf m : Nat))] ∧ H' = H, ?_, ?_⟩
    · refine ⟨_, rfl, a, Co, dx, _, .str m, rfl, ea, TC.cls, TC.nm, cLk_m _ _, rfl, _, rfl, ite2 (fun e => ?_) (fun e => ?_)⟩
      · have z : m = "positive" := by simpa using e
        refine ⟨?_, rfl⟩
        unfold firstOf
        rw [if_pos z]
        rfl
      · have z : m ≠ "positive" := fun y => e (by rw [y]; simp)
        refine ⟨?_, rfl⟩
        unfold firstOf
        rw [if_neg z]
        rfl
    · rintro σ H1 ⟨rfl, rfl⟩
      obtain ⟨d1, e1⟩ := id hs
      refine ⟨_, rfl, _, rfl, a, Co, dx, _, .ref sh, rfl, ea, TC.cls, TC.ns, cLk_s _ _, sh, S, d1, _, .int c, rfl, e1, TS.cls, TS.ns, lkS _ _, ?_⟩
      dsimp only [tNil]
      rw [List.append_nil]
      refine worth_of (C := C) (v := (firstOf m : Nat)) (n := c) hc fun u1 s1 p1 H2 l1 sm1 _ w1 => ?_
      have ea2 := sm1 _ _ ea
      have e12 := sm1 _ _ e1
      refine ⟨_, rfl, _, _, rfl, rfl, _, rfl, a, Co, dx, _, .ref sh, rfl, ea2, TC.cls, TC.ns, cLk_s _ _, sh, S, d1, _, .int c, rfl, e12, TS.cls, TS.ns, lkS _ _, ?_⟩
      dsimp only [tNil]
      rw [List.append_nil]
      refine worth_of (C := C) (v := (firstOf m : Nat) + 1) (n := c) hc fun u2 s2 p2 H3 l2 sm2 _ w2 => ?_
      refine ⟨by show 2 ≤ sizeLine; decide, fun r nr => ?_⟩
      have sm3 := same_new (o := HO.tup [.ref p1, .ref p2]) nr
      exact q p1 p2 r u1 u2 s1 s2 _ ((sm1.trans sm2).trans sm3) upd_same ((w1.same sm2).same sm3) l1 (w2.same sm3) l2
theorem scLws : FnScope ["self"] ["self"] (defScope (coI 3)) := ⟨rfl, rfl, rfl, by decide +kernel, rfl, by decide +kernel, by decide +kernel⟩
def lowOf (n c : Nat) (m : Str) : Int := if m = "signed" then -((10 : Int) ^ (n + c) - 1) else (firstOf m : Nat)
def spLws (W Co S : Addr) : Sp := fun vs H Q _ => ∃ (a : Addr) (n c : Nat) (m : Str), vs = [.ref a] ∧ CAt Co S H a n c m ∧ n + c < 400 ∧ c < 200 ∧ ∀ (p : Addr) (u : Int) (s : Nat) (H' : Hp), Same H H' → WAt W H' p u s → IsLow (lowOf n c m) c u s → Q (.ref p) H'
/-- -x of Worths -/
structure WNeg (P : Program) (w : World) (K : PySem.W.Frag) (mg : Str → Option Value) (base : Heap) (W : Addr) : Prop where
  ex : ∃ (f : Addr) (fd : FuncData), PySem.W.findIn K (.ref W) "__neg__" = some (some (.ref f)) ∧ PySem.W.isFn K (.ref f) = true ∧ FnOk P w K mg base (L2.CX P w) 13 f fd ["self"] (spUn W fun u => -u) ∧ Binds K fd ["self"] []
theorem low_neg1 {v u : Int} {n s : Nat} (h : IsLow v n u s) : IsLow (-v) n (-u) s := ⟨h.le, by rw [h.eq, Int.neg_mul], h.own.elim .inl fun z => .inr (by omega)⟩
theorem low_trans {v u u' : Int} {n s s' : Nat} (h : IsLow v n u s) (k : IsLow u s u' s') : IsLow v n u' s' := by
  have l1 := h.le
  have l2 := k.le
  refine ⟨by omega, ?_, k.own⟩
  rw [h.eq, k.eq, Int.mul_assoc, ← Int.pow_add]
  congr 2
  omega
theorem low_natA {v u : Int} {m s : Nat} (h : IsLow v m u s) : u.natAbs ≤ v.natAbs := by
  have p := ten_pos (m - s)
  rw [h.eq, Int.natAbs_mul]
  exact Nat.le_mul_of_pos_right _ (by omega)
theorem ok_lws {g : Addr} {fd : FuncData} (F : Fun K "lowest" "Column.lowest" (coI 3) g fd) (T : WorthC K mg W) (TS : ShapeC K mg S) (TC : ColC K mg Co) (WN : WNeg P w K mg base W) (DG : SMeth P w K mg base S "greatest" 13 ["self"] (spGrt W S)) (DM : SMeth P w K mg base Co "small" 13 ["self"] (spSml W Co S)) :
    FnOk P w K mg base (L2.CX P w) 15 g fd ["self"] (spLws W Co S) := by
  refine F.okX scLws (fun vs H Q E h => ?_) (fun cdv A outer s0 H vs Q E hr h => ?_)
  · obtain ⟨a, n, c, m, rfl, _⟩ := h
    rfl
  · obtain ⟨a, n, c, m, rfl, hca, hn, hc, q⟩ := h
    obtain ⟨fG, fdG, mG, FG, bG⟩ := DG.ex
    obtain ⟨fM, fdM, mM, FM, bM⟩ := DM.ex
    obtain ⟨fN, fdN, fn1, fn2, FN, bN⟩ := WN.ex
    obtain ⟨dx, sh, ea, hs⟩ := id hca
    refine ⟨_, pss_cons (ps_if (pt_cmpR op_eq (pe_fld (pv 0) (by rfl)) pe_str (nomark _)) (pss_one (ps_ret (pe_un (un_own (E := E) FN (hr.mono (by decide)) fn1 fn2 bN (passes_call (takes_of rfl rfl rfl rfl) fun _ _ _ _ z => z)) (pe_meth0 (E := E) (pe_fld (pv 0) (by rfl)) TS.cls mG FG (hr.mono (by decide)) bG .nil (passes_call (takes_of rfl rfl rfl rfl) fun _ _ _ _ z => z))))) pss_nil)
      (pss_one (ps_ret (pe_ix ix_tup (pe_meth0 (E := E) (pv 0) TC.cls mM FM (hr.mono (by decide)) bM .nil (passes_call (takes_of rfl rfl rfl rfl) fun _ _ _ _ z => z)) pe_int (fun _ _ => rfl)))), ?_⟩
    obtain ⟨d1, e1⟩ := id hs
    refine ⟨_, rfl, a, Co, dx, _, .str m, rfl, ea, TC.cls, TC.nm, cLk_m _ _, rfl, _, rfl, ite2 (fun e => ?_) (fun e => ?_)⟩
    · have z : m = "signed" := by simpa using e
      refine ⟨_, rfl, a, Co, dx, _, .ref sh, rfl, ea, TC.cls, TC.ns, cLk_s _ _, sh, d1, _, rfl, e1, sLk_no _ _ (by decide +kernel) (by decide +kernel), sh, n, c, rfl, hs, by omega, by omega, fun u s p H1 lw sm np wp => ?_⟩
      obtain ⟨dp, ep⟩ := id wp
      have bu : u.natAbs < 2 ^ 40000 := by
        refine Nat.lt_of_le_of_lt (low_natA lw) ?_
        have b := ten_lt (n + c)
        have p0 := ten_pos (n + c)
        have b2 := up_two b (show 4 * (n + c) + 1 ≤ 40000 by omega)
        omega
      refine ⟨p, dp, _, rfl, ep, p, u, s, rfl, wp, ⟨by have := lw.le; omega, bu⟩, fun u2 s2 p2 H2 lw2 sm2 np2 wp2 => ?_⟩
      refine q p2 u2 s2 H2 (sm.trans sm2) wp2 ?_
      unfold lowOf
      rw [if_pos z]
      exact low_trans (low_neg1 lw) lw2
    · have z : m ≠ "signed" := fun y => e (by rw [y]; simp)
      obtain ⟨dx', sh', ea', _⟩ := id hca
      refine ⟨_, rfl, a, dx, _, rfl, ea, cLk_no _ _ (by decide +kernel) (by decide +kernel), a, n, c, m, rfl, hca, by omega, fun p1 p2 r u1 u2 s1 s2 H1 sm er w1 l1 w2 l2 => ?_⟩
      refine ⟨r, _, 0, _, rfl, rfl, SqT.of er, rfl, q p1 u1 s1 H1 sm w1 ?_⟩
      unfold lowOf
      rw [if_neg z]
      exact l1
end
end K09

/-! own layer, of no law: OWNM: max(ints, default=d). -/
namespace Own
open PySem PySem.Spec PyProof.Rows L2 LamX NdefX
def rMaxDf (K : PySem.W.Frag) : List V → List V → Hp → VK → Prop := fun vs zs H Q => ∃ (a : Addr) (ns : List Int) (d : Int), vs = [V.ref a] ∧ zs = [V.int d] ∧ SqL K H a (ns.map V.int) ∧ (ns = [] → Q (.int d) H) ∧ ∀ m, m ∈ ns → (∀ y, y ∈ ns → y ≤ m) → Q (.int m) H
theorem max_mem : ∀ (ys : List Int) (x : Int), PySem.W.maxOf x ys ∈ x :: ys ∧ ∀ y, y ∈ x :: ys → y ≤ PySem.W.maxOf x ys := by
  intro ys
  induction ys with
  | nil =>
    intro x
    exact ⟨List.mem_cons_self .., fun y hy => by rw [List.mem_singleton.mp hy]; exact Int.le_refl _⟩
  | cons z zs ih =>
    intro x
    have e : PySem.W.maxOf x (z :: zs) = PySem.W.maxOf (if x < z then z else x) zs := by
      show List.foldl _ (if PySem.W.DatumOrd.lt x z = true then z else x) zs = _
      have : (PySem.W.DatumOrd.lt x z = true) = (x < z) := by
        show (decide (x < z) = true) = _
        simp
      simp only [this]
      rfl
    rw [e]
    obtain ⟨h1, h2⟩ := ih (if x < z then z else x)
    constructor
    · rcases List.mem_cons.mp h1 with h | h
      · rw [h]
        split
        · exact List.mem_cons_of_mem _ (List.mem_cons_self ..)
        · exact List.mem_cons_self ..
      · exact List.mem_cons_of_mem _ (List.mem_cons_of_mem _ h)
    · intro y hy
      have hb := h2 _ (List.mem_cons_self ..)
      rcases List.mem_cons.mp hy with h | h
      · subst h
        refine Int.le_trans ?_ hb
        split <;> omega
      · rcases List.mem_cons.mp h with h | h
        · subst h
          refine Int.le_trans ?_ hb
          split <;> omega
        · exact h2 _ (List.mem_cons_of_mem _ h)
theorem cr_maxDf {X : Cx} (hc : X.calm = true) (hu : X.A.units + 64 < cLine) : CallRK X (.builtin "max") [Str.ofString "default"] (rMaxDf X.K) := by
  intro pins s σ H vs zs us ws Q I r rz h
  obtain ⟨a, ns, d, rfl, rfl, hs, q0, q1⟩ := h
  obtain rfl := Vals.ref1 r
  obtain ⟨w1, rfl, t, rfl⟩ := vals1 rz
  obtain ⟨its, rv, hl, _⟩ := I.list hs
  show wpAny _ _ (call (.builtin "max") [.ref a] [(Str.ofString "default", .int d t)]) _ _ _
  refine PySem.W.max_list_datum_default (α := Int) (xs := ns) (I.ok.hd hc) hl.isList (PySem.W.HoldAll.of_ints rv.ints) (by show _ + 1 + 0 < _; omega) (fun e h' tk hk => ⟨.int d, H, I.kept hk, ⟨_, rfl⟩, q0 e⟩) (fun y ys i v h' tk e hi hv hk => ?_)
  subst e
  obtain ⟨as, r⟩ := hv
  have r : Reads h' v (.int (PySem.W.maxOf y ys)) as := r
  cases r
  obtain ⟨h1, h2⟩ := max_mem ys y
  exact ⟨.int (PySem.W.maxOf y ys), H, I.kept hk, ⟨_, rfl⟩, q1 _ h1 h2⟩
end Own

/-! k09: figures ahead of the point, least shapes. -/
namespace Own
open PySem PySem.Spec PyProof.Rows L2 LamX NdefX
theorem digits_lt (l : List Nat) (h : NumText.AllDigits l) : NumText.digitsVal l < 10 ^ l.length := by
  have key : ∀ (r : List Nat), NumText.AllDigits r.reverse → NumText.digitsVal r.reverse < 10 ^ r.length := by
    intro r
    induction r with
    | nil => intro _; show 0 < 1; decide
    | cons c r ih =>
      intro h
      rw [List.reverse_cons] at h ⊢
      have a := ih fun x hx => h x (List.mem_append_left _ hx)
      have b := h c (List.mem_append_right _ (List.mem_singleton.mpr rfl))
      rw [NumText.digitsVal_snoc, List.length_cons, Nat.pow_succ]
      omega
  have z := key l.reverse (by rw [List.reverse_reverse]; exact h)
  rw [List.reverse_reverse, List.length_reverse] at z
  exact z
theorem numL_iff {n k : Nat} (h : 0 < n) : (TL.numL n).length ≤ k ↔ n < 10 ^ k := by
  constructor
  · intro z
    have a := digits_lt (TL.numL n) (TL.numL_digits n)
    rw [TL.numL_val] at a
    exact Nat.lt_of_lt_of_le a (Nat.pow_le_pow_right (by decide) z)
  · intro z
    refine TL.numL_len (Nat.pos_of_ne_zero fun y => ?_) z
    rw [y] at z
    simp at z
    omega
/-- figures ahead of the point -/
def wfig (u : Int) (s : Nat) : Nat := if absZ u / (10 : Int) ^ s = 0 then 0 else (TL.numL (absZ u / (10 : Int) ^ s).toNat).length
theorem wfig_le {u : Int} {s n : Nat} : wfig u s ≤ n ↔ absZ u < (10 : Int) ^ (n + s) := by
  have p := ten_pos s
  have a0 : 0 ≤ absZ u := by unfold absZ; split <;> omega
  have q0 := Int.ediv_nonneg a0 (Int.le_of_lt p)
  have key : absZ u < (10 : Int) ^ (n + s) ↔ absZ u / (10 : Int) ^ s < (10 : Int) ^ n := by
    rw [Int.pow_add]
    exact (Int.ediv_lt_iff_lt_mul p).symm
  rw [key]
  unfold wfig
  generalize absZ u / (10 : Int) ^ s = I at q0
  by_cases h : I = 0
  · rw [if_pos h, h]
    exact ⟨fun _ => ten_pos n, fun _ => Nat.zero_le _⟩
  · rw [if_neg h]
    obtain ⟨i, rfl⟩ : ∃ i : Nat, I = (i : Int) := ⟨I.toNat, (Int.toNat_of_nonneg q0).symm⟩
    rw [Int.toNat_natCast, numL_iff (by omega), ten_nc]
    omega
/-- m is the greatest of l, 0 where there is none -/
def IsMax (l : List Nat) (m : Nat) : Prop := (∀ x ∈ l, x ≤ m) ∧ (m = 0 ∨ m ∈ l)
end Own
namespace K09
open PySem PySem.Spec PyProof.Rows L2 LamX NdefX Own
abbrev pNL : Stmt := topS 11
abbrev pWf : Stmt := topS 25
abbrev pSS : Stmt := topS 26
abbrev pLs : Stmt := topS 27
def lcScope : Expr → Scope
  | .ListComp _ _ s _ => s
  | _ => ⟨.function, [], false, false, []⟩
def asgArg : Stmt → Expr
  | .Assign _ (.Call _ (a :: _) _ _) _ => a
  | _ => .Constant .none 0 ⟨0, 0, 0, 0⟩
abbrev nLs : List Str := ["worths", "worth", "whole", "scale"]
abbrev bLs (i : Nat) : Stmt := (defBody pLs).getD i (.Pass ⟨0, 0, 0, 0⟩)
theorem blkM1 : BlkOk nLs (defScope pLs) (lcScope (asgArg (bLs 2))) [("worth", 1)] := blkOk_by (by decide +kernel)
theorem blkM2 : BlkOk nLs (defScope pLs) (lcScope (asgArg (bLs 3))) [("worth", 1)] := blkOk_by (by decide +kernel)
section
variable {P : Program} {w : World} {K : PySem.W.Frag} {mg : Str → Option Value} {base : Heap} {C CN W S Co : Addr}
theorem kit_lst {K : PySem.W.Frag} : PySem.W.kitAny K (.type "list") [.type "list", .type "tuple"] = some true :=
  kitAny_cons (b := true) (kit_ty (show kitB "list" "list" = some true by decide +kernel)) (fun z => nomatch z) (fun _ => rfl)
theorem kit_int {K : PySem.W.Frag} : PySem.W.kitAny K (.type "int") [.type "list", .type "tuple"] = some false :=
  kitAny_cons (b := false) (kit_ty (show kitB "int" "list" = some false by decide +kernel)) (fun _ => kitAny_cons (b := false) (kit_ty (show kitB "int" "tuple" = some false by decide +kernel)) (fun _ => rfl) (fun z => nomatch z)) (fun z => nomatch z)
theorem scNL : FnScope ["value"] ["value"] (defScope pNL) := ⟨rfl, rfl, rfl, by decide +kernel, rfl, by decide +kernel, by decide +kernel⟩
def spNL (C : Addr) : Sp := fun vs H Q E => ∃ x : V, vs = [x] ∧ ((∃ (l : Addr) (xs : List V), x = .ref l ∧ H l = some (.lst xs) ∧ ∀ H', Same H H' → Q .non H') ∨ (∃ i : Int, x = .int i ∧ Bad C "value" x H E))
theorem ok_nL (A : At K mg "need_list" pNL ["value"]) (B : Blt mg) (TB : ErrC P w K mg base "BadValue" "value" 1 C (spErr C "value")) : DefOk P w K mg base (L2.CX P w) "need_list" 3 ["value"] (spNL C) := by
  refine A.ok fun f fd F => F.okX scNL (fun vs H Q E h => ?_) (fun cdv A outer s0 H vs Q E hr h => ?_)
  · obtain ⟨x, rfl, _⟩ := h
    rfl
  · obtain ⟨x, rfl, h⟩ := h
    refine ⟨_, pss_one (ps_if (pt_not (pt_val (pe_callB call_isiT (by rfl) B.isi (by decide +kernel) (pa_cons (pv 0) (pa_cons (pe_tup (pa_cons (pe_bltn (v := .ty "list") (by rfl) B.list (by decide +kernel) rfl) (pa_cons (pe_bltn (v := .ty "tuple") (by rfl) B.tuple (by decide +kernel) rfl) pa_nil))) pa_nil))))) (pss_one (ps_raise rfl (takes_of rfl rfl rfl rfl) (pmk_err TB hr (by decide) (by rfl) (pv 0)))) pss_nil), ?_⟩
    rcases h with ⟨l, xs, rfl, hl, q⟩ | ⟨i, rfl, bad⟩
    · refine ⟨_, rfl, by show 2 ≤ sizeLine; decide, fun p np => ?_⟩
      have s3 := same_new (o := HO.tup [.ty "list", .ty "tuple"]) np
      exact ⟨.ref l, p, [.ty "list", .ty "tuple"], .type "list", [.type "list", .type "tuple"], true, rfl, upd_same, .cons (.ty _) (.cons (.ty _) .nil), .base (.lst (s3 _ _ hl)), kit_lst, _, rfl, iteF (q _ s3)⟩
    · refine ⟨_, rfl, by show 2 ≤ sizeLine; decide, fun p np => ?_⟩
      have s3 := same_new (o := HO.tup [.ty "list", .ty "tuple"]) np
      exact ⟨.int i, p, [.ty "list", .ty "tuple"], .type "int", [.type "list", .type "tuple"], false, rfl, upd_same, .cons (.ty _) (.cons (.ty _) .nil), .base (.int i), kit_int, _, rfl, iteT ⟨_, rfl, bad_mk (bad.same s3)⟩⟩
theorem scWf : FnScope ["units", "scale", "integer"] ["units", "scale"] (defScope pWf) := ⟨rfl, rfl, rfl, by decide +kernel, rfl, by decide +kernel, by decide +kernel⟩
def spWf : Sp := fun vs H Q _ => ∃ (u : Int) (s : Nat), vs = [.int u, .int s] ∧ u.natAbs < 2 ^ 1600 ∧ s < 500 ∧ Q (.int (wfig u s : Nat)) H
theorem ok_wf (A : At K mg "whole_figures" pWf ["units", "scale"]) (B : Blt mg) (DT : DefOk P w K mg base CX0 "ten_to" 9 ["places"] (spTenTo 8)) (DG : DefOk P w K mg base CX0 "digits_of" 1 ["number"] spDig) : DefOk P w K mg base CX0 "whole_figures" 10 ["units", "scale"] spWf := by
  refine A.ok fun f fd F => F.ok scWf (fun vs H Q E h => ?_) (fun cdv A outer s0 H vs Q E hr h => ?_)
  · obtain ⟨u, s, rfl, _⟩ := h
    rfl
  · obtain ⟨u, s, rfl, bu, hs, q⟩ := h
    have nd := scWf.nd
    refine ⟨_, pss_cons (ps_set (i := 2) nd rfl (.inl rfl) (pe_op op_fdivW (pe_callB call_abs (by rfl) B.abs (by decide +kernel) (pa_cons (pv 0) pa_nil)) (pe_def DT hr (by decide) (by rfl) pass0 (pa_cons (pv 1) pa_nil))))
      (pss_one (ps_ret (pe_ifExp (pt_cmpR op_eq (pv 2) pe_int (nomark _)) pe_int (pe_callB call_len_str (by rfl) B.len PySem.boot_len (pa_cons (pe_def DG hr (by decide) (by rfl) pass0 (pa_cons (pv 2) pa_nil)) pa_nil))))), ?_⟩
    have p := ten_pos s
    have a0 : 0 ≤ absZ u := by unfold absZ; split <;> omega
    have q0 := Int.ediv_nonneg a0 (Int.le_of_lt p)
    refine ⟨_, rfl, u, rfl, _, rfl, s, rfl, by show s < 16 * 2 ^ 8; omega, _, _, rfl, rfl, wide_div p (ten_lt s) (by omega) (by omega), ?_⟩
    dsimp only [gName, List.set]
    unfold wfig absZ at q
    refine ⟨_, rfl, rfl, _, rfl, ite2 (fun e => ?_) (fun e => ?_)⟩
    · have z : (if u < 0 then -u else u) / (10 : Int) ^ s = 0 := by simpa using e
      rw [if_pos z] at q
      exact q
    · have z : ¬ (if u < 0 then -u else u) / (10 : Int) ^ s = 0 := by simpa using e
      rw [if_neg z] at q
      have q0 : 0 ≤ (if u < 0 then -u else u) / (10 : Int) ^ s := q0
      have bq : ((if u < 0 then -u else u) / (10 : Int) ^ s) ≤ u.natAbs := by
        have a1 : (if u < 0 then -u else u) = (u.natAbs : Int) := by split <;> omega
        rw [a1]
        exact Int.ediv_le_self _ (by omega)
      generalize (if u < 0 then -u else u) / (10 : Int) ^ s = I at q q0 z bq
      obtain ⟨i, rfl⟩ : ∃ i : Nat, I = (i : Int) := ⟨I.toNat, (Int.toNat_of_nonneg q0).symm⟩
      have hi : i < 10 ^ 500 := by
        have e : (2 : Nat) ^ 1600 ≤ 10 ^ 500 := by decide +kernel
        omega
      refine ⟨_, rfl, i, rfl, hi, Str.ofString (toString (i : Int)), rfl, ?_⟩
      rw [Int.toNat_natCast] at q
      have el : (Str.ofString (toString (i : Int))).length = (TL.numL i).length := by
        rw [TL.len_tl]
        exact congrArg List.length (TL.tl_num i)
      rw [el]
      exact ⟨by have := TL.numL_len (by decide) hi; have := PySem.sizeLine_eq; omega, q⟩
theorem scSS : FnScope ["whole", "scale"] ["whole", "scale"] (defScope pSS) := ⟨rfl, rfl, rfl, by decide +kernel, rfl, by decide +kernel, by decide +kernel⟩
def spSS (S : Addr) : Sp := fun vs H Q _ => ∃ n c : Nat, vs = [.int n, .int c] ∧ ∀ (a : Addr) (H' : Hp), Same H H' → H a = none → SAt S H' a (max n (if c = 0 then 1 else 0)) c → Q (.ref a) H'
theorem ok_ss (A : At K mg "some_shape" pSS ["whole", "scale"]) (B : Blt mg) (TS : ShapeC K mg S) (MS : SMk P w K mg base C CN S) : DefOk P w K mg base (L2.CX P w) "some_shape" 6 ["whole", "scale"] (spSS S) := by
  refine A.ok fun f fd F => F.okX scSS (fun vs H Q E h => ?_) (fun cdv A outer s0 H vs Q E hr h => ?_)
  · obtain ⟨n, c, rfl, _⟩ := h
    rfl
  · obtain ⟨n, c, rfl, q⟩ := h
    refine ⟨_, pss_one (ps_ret (pe_shape (C := C) (CN := CN) (E := E) MS TS hr (by decide) (by rfl) (passes_call (takes_of rfl rfl rfl rfl) fun _ _ _ _ z => z) (pa_cons (pe_callB (call_max2 rfl) (by rfl) B.max (by decide +kernel) (pa_cons (pv 0) (pa_cons (pe_ifExp (pt_cmpR op_eq (pv 1) pe_int (nomark _)) pe_int pe_int) pa_nil))) (pa_cons (pv 1) pa_nil)))), ?_⟩
    have fin : ∀ k : Nat, k = (if c = 0 then 1 else 0) → spShape C CN S ([.int (if ((k : Nat) : Int) > (n : Int) then ((k : Nat) : Int) else (n : Int)), .int c]) H Q E := fun k hk => by
      have e : (if ((k : Nat) : Int) > (n : Int) then ((k : Nat) : Int) else (n : Int)) = ((max n k : Nat) : Int) := by split <;> omega
      rw [e]
      refine shape_of (fun z => ?_) fun a H' s na sa => q a H' s na (by rw [← hk]; exact sa)
      obtain ⟨z1, z2⟩ := z
      rw [if_pos z2] at hk
      omega
    refine ⟨_, rfl, _, rfl, rfl, _, rfl, ite2 (fun e => ?_) (fun e => ?_)⟩
    · have z : c = 0 := by
        have y : (c : Int) = 0 := by simpa using e
        omega
      exact ⟨_, _, rfl, _, rfl, fin 1 (by rw [if_pos z])⟩
    · have z : ¬ c = 0 := fun y => e (by rw [y]; simp)
      exact ⟨_, _, rfl, _, rfl, fin 0 (by rw [if_neg z])⟩
end
end K09

/-! k09: least shapes. -/
namespace Own
open PySem PySem.Spec PyProof.Rows L2 LamX NdefX
inductive Ents {β : Type} (R : V → β → Prop) : List V → List β → Prop where
  | nil : Ents R [] []
  | cons {x : V} {e : β} {xs : List V} {es : List β} : R x e → Ents R xs es → Ents R (x :: xs) (e :: es)
section
variable {β : Type} {R R' : V → β → Prop} {xs : List V} {es : List β}
theorem Ents.mono (h : Ents R xs es) (f : ∀ x e, R x e → R' x e) : Ents R' xs es := by
  induction h with
  | nil => exact .nil
  | cons r _ ih => exact .cons (f _ _ r) ih
theorem Ents.len (h : Ents R xs es) : xs.length = es.length := by
  induction h with
  | nil => rfl
  | cons _ _ ih => rw [List.length_cons, List.length_cons, ih]
theorem Ents.app {ys : List V} {fs : List β} (h : Ents R xs es) (k : Ents R ys fs) : Ents R (xs ++ ys) (es ++ fs) := by
  induction h with
  | nil => exact k
  | cons r _ ih => exact .cons r ih
theorem Ents.snoc {x : V} {e : β} (h : Ents R xs es) (r : R x e) : Ents R (xs ++ [x]) (es ++ [e]) := h.app (.cons r .nil)
theorem Ents.get (h : Ents R xs es) : ∀ {i : Nat} {x : V}, xs[i]? = some x → ∃ e, es[i]? = some e ∧ R x e := by
  induction h with
  | nil => intro i x z; simp at z
  | cons r _ ih =>
    intro i x z
    cases i with
    | zero =>
      have z' := Option.some.inj z
      subst z'
      exact ⟨_, rfl, r⟩
    | succ i => exact ih z
end
theorem maxDf_nat {K : PySem.W.Frag} {H : Hp} {Q : VK} {a : Addr} {l : List Nat} (h : SqL K H a (l.map fun n => V.int (n : Nat))) (q : ∀ m : Nat, IsMax l m → Q (.int m) H) : rMaxDf K [.ref a] [.int 0] H Q := by
  refine ⟨a, l.map fun n : Nat => (n : Int), 0, rfl, rfl, by rw [List.map_map]; exact h, fun e => q 0 ⟨?_, .inl rfl⟩, fun m hm hy => ?_⟩
  · have e' : l = [] := List.map_eq_nil_iff.mp e
    rw [e']
    intro x hx
    cases hx
  · obtain ⟨n, hn, rfl⟩ := List.mem_map.mp hm
    exact q n ⟨fun x hx => by have := hy _ (List.mem_map_of_mem (f := fun n : Nat => (n : Int)) hx); omega, .inr hn⟩
theorem Ents.get2 {β : Type} {R : V → β → Prop} {xs : List V} {es : List β} (h : Ents R xs es) : ∀ {i : Nat} {e : β}, es[i]? = some e → ∃ x, xs[i]? = some x ∧ R x e := by
  induction h with
  | nil => intro i e h; simp at h
  | @cons x e xs es r t ih =>
    intro i e' h
    cases i with
    | zero => exact ⟨x, rfl, by simpa using (by simpa using h : e = e') ▸ r⟩
    | succ i => exact ih (by simpa using h)
end Own
namespace K09
open PySem PySem.Spec PyProof.Rows L2 LamX NdefX Own
open PySem PySem.Spec PyProof.Rows L2 LamX NdefX Own
section
variable {P : Program} {w : World} {K : PySem.W.Frag} {mg : Str → Option Value} {base : Heap} {C CN W S Co : Addr}
theorem scLs : FnScope ["worths", "worth", "whole", "scale"] ["worths"] (defScope pLs) := ⟨rfl, rfl, rfl, by decide +kernel, rfl, by decide +kernel, by decide +kernel⟩
/-- Worths in a list -/
def RowW (W : Addr) (H : Hp) (r : V) (e : Int × Nat) : Prop := ∃ a, r = .ref a ∧ WAt W H a e.1 e.2
theorem RowW.same {W : Addr} {H H' : Hp} {r : V} {e : Int × Nat} (h : RowW W H r e) (z : Same H H') : RowW W H' r e := by
  obtain ⟨a, e1, e2⟩ := h
  exact ⟨a, e1, e2.same z⟩
def spLs (C W S : Addr) : Sp := fun vs H Q E => ∃ x : V, vs = [x] ∧ ((∃ i : Int, x = .int i ∧ Bad C "value" x H E) ∨
  ∃ (l : Addr) (pre post : List V) (ws : List (Int × Nat)), x = .ref l ∧ H l = some (.lst (pre ++ post)) ∧ Ents (RowW W H) pre ws ∧ ws.length ≤ 1000 ∧ (∀ r ∈ ws, r.1.natAbs < 2 ^ 1600 ∧ r.2 < 500) ∧
    ((∃ (y : V) (rest : List V), post = y :: rest ∧ Thing H y ∧ Bad C "value" y H E) ∨ (post = [] ∧ ∀ m c : Nat, IsMax (ws.map fun r => wfig r.1 r.2) m → IsMax (ws.map Prod.snd) c → ∀ (a : Addr) (H' : Hp), Same H H' → SAt S H' a (max m (if c = 0 then 1 else 0)) c → Q (.ref a) H')))
theorem ok_ls (A : At K mg "least_shape" pLs ["worths"]) (B : Blt mg) (T : WorthC K mg W) (DL : DefOk P w K mg base (L2.CX P w) "need_list" 3 ["value"] (spNL C)) (DNW : DefOk P w K mg base (L2.CX P w) "need_worth" 3 ["value"] (spNeedW C W)) (DF : DefOk P w K mg base CX0 "whole_figures" 10 ["units", "scale"] spWf)
    (DSS : DefOk P w K mg base (L2.CX P w) "some_shape" 6 ["whole", "scale"] (spSS S)) : DefOk P w K mg base (L2.CX P w) "least_shape" 12 ["worths"] (spLs C W S) := by
  refine A.ok fun f fd F => F.okX scLs (fun vs H Q E h => ?_) (fun cdv A outer s0 H vs Q E hr h => ?_)
  · obtain ⟨x, rfl, _⟩ := h
    rfl
  · obtain ⟨x, rfl, h⟩ := h
    have nd := scLs.nd
    refine ⟨_, pss_cons (ps_expr (pe_def (E := E) DL hr (by decide) (by rfl) (passes_call (takes_of rfl rfl rfl rfl) fun _ _ _ _ z => z) (pa_cons (pv 0) pa_nil)))
      (pss_cons (ps_for (passes_of rfl) rfl (pi_list (pv 0)) (pg_name (i := 1) nd rfl (.inl rfl)) (pss_one (ps_expr (pe_def (E := E) DNW hr (by decide) (by rfl) (passes_call (takes_of rfl rfl rfl rfl) fun _ _ _ _ z => z) (pa_cons (pv 1) pa_nil)))))
      (pss_cons (ps_set (i := 2) nd rfl (.inl rfl) (pe_callBK (cr_maxDf rfl hr.units) (by rfl) B.max (by decide +kernel) (pa_cons (pe_lc (own := [("worth", 1)]) (te := tCall spWf [] E0 (tCons (tFld K (tVar 1) "units") (tCons (tFld K (tVar 1) "scale") tNil))) rfl nd (pi_list (pv 0)) blkM1 (fun _ _ _ _ _ => (pg_name (i := 1) nd rfl (.inl rfl))) (fun _ _ _ _ _ => pts_nil) (fun _ _ _ _ _ => pe_def DF hr (by decide) (by rfl) pass0 (pa_cons (pe_fld (pv 1) (by rfl)) (pa_cons (pe_fld (pv 1) (by rfl)) pa_nil)))) pa_nil) (pk_cons pe_int pk_nil)))
      (pss_cons (ps_set (i := 3) nd rfl (.inl rfl) (pe_callBK (cr_maxDf rfl hr.units) (by rfl) B.max (by decide +kernel) (pa_cons (pe_lc (own := [("worth", 1)]) (te := tFld K (tVar 1) "scale") rfl nd (pi_list (pv 0)) blkM2 (fun _ _ _ _ _ => (pg_name (i := 1) nd rfl (.inl rfl))) (fun _ _ _ _ _ => pts_nil) (fun _ _ _ _ _ => pe_fld (pv 1) (by rfl))) pa_nil) (pk_cons pe_int pk_nil)))
      (pss_one (ps_ret (pe_def (E := E) DSS hr (by decide) (by rfl) (passes_call (takes_of rfl rfl rfl rfl) fun _ _ _ _ z => z) (pa_cons (pv 2) (pa_cons (pv 3) pa_nil)))))))), ?_⟩
    rcases h with ⟨i, rfl, bad⟩ | ⟨l, pre, post, ws, rfl, hl, hE, hlen, hb, h⟩
    · exact ⟨_, rfl, _, rfl, .inr ⟨i, rfl, bad⟩⟩
    refine ⟨_, rfl, _, rfl, .inl ⟨l, _, rfl, hl, fun H1 s1 => ?_⟩⟩
    have len := hE.len
    have hl1 := s1 _ _ hl
    refine ⟨_, rfl, l, rfl, ⟨_, SqL.of hl1⟩, for_list (K := K) (xs := pre ++ post) (fun i σ H' => (∃ y : Option V, σ = [some (.ref l), y, none, none]) ∧ H' = H1 ∧ i ≤ pre.length) ⟨⟨_, rfl⟩, rfl, Nat.zero_le _⟩ (fun i σ H' _ z => by rw [z.2.1]; exact SqL.of hl1) ?_ ?_⟩
    · rintro i x σ H2 hx ⟨⟨y1, rfl⟩, rfl, hi⟩
      dsimp only [gName, List.set]
      refine ⟨_, rfl, x, rfl, ?_⟩
      by_cases hp : i < pre.length
      · rw [List.getElem?_append_left hp] at hx
        obtain ⟨e, he, r⟩ := hE.get hx
        obtain ⟨a, rfl, wa⟩ := r.same s1
        exact .inl ⟨a, e.1, e.2, rfl, wa, ⟨_, rfl⟩, rfl, hp⟩
      · obtain rfl : i = pre.length := by omega
        rw [List.getElem?_append_right (Nat.le_refl _), Nat.sub_self] at hx
        rcases h with ⟨y, rest, rfl, th, bad⟩ | ⟨rfl, _⟩
        · obtain rfl : y = x := by simpa using hx
          exact .inr ⟨th.same s1, bad.same s1⟩
        · simp at hx
    · rintro σ H2 ⟨⟨y1, rfl⟩, rfl, hi⟩
      rcases h with ⟨y, rest, rfl, _, _⟩ | ⟨rfl, q⟩
      · rw [List.length_append, List.length_cons] at hi
        omega
      rw [List.append_nil] at hl hl1
      clear hl
      have key : ∀ (H3 : Hp) (D : Addr) (g : Int × Nat → Nat) (xs : List V) (e : Int × Nat) (i : Nat), Same H2 H3 → H2 D = none → H3 D = some (.lst (((ws.take i).map g).map fun n => V.int (n : Nat))) → ws[i]? = some e → ∃ acc, H3 D = some (.lst acc) ∧ acc.length < sizeLine ∧ Same H2 (upd H3 D (.lst (acc ++ [V.int (g e : Nat)]))) ∧ H2 D = none ∧ upd H3 D (.lst (acc ++ [V.int (g e : Nat)])) D = some (.lst (((ws.take (i + 1)).map g).map fun n => V.int (n : Nat))) := by
        intro H3 D g xs e i s2 nD hD he
        refine ⟨_, hD, ?_, ?_, nD, ?_⟩
        · rw [List.length_map, List.length_map, List.length_take]
          have := sizeLine_eq
          omega
        · intro b o eb
          rw [upd_ne (ne_of_none eb nD)]
          exact s2 _ _ eb
        · rw [upd_same, List.take_succ, he]
          simp
      refine ⟨_, rfl, l, rfl, ⟨_, SqL.of hl1⟩, fun D nD => lc_list (K := K) (xs := pre) (fun i H' => Same H2 H' ∧ H2 D = none ∧ H' D = some (.lst (((ws.take i).map fun r => wfig r.1 r.2).map fun n => V.int (n : Nat)))) ⟨same_new nD, nD, by rw [List.take_zero]; exact upd_same⟩ (fun i H' _ z => SqL.of (z.1 _ _ hl1)) ?_ ?_⟩
      · rintro i x H3 hx ⟨s2, nD, hD⟩
        obtain ⟨e, he, r⟩ := hE.get hx
        obtain ⟨a, rfl, dw, ew⟩ := (r.same s1).same s2
        have he' : e ∈ ws := List.mem_of_getElem? he
        obtain ⟨b1, b2⟩ := hb e he'
        dsimp only [gName, List.set]
        refine ⟨rfl, ?_⟩
        unfold tYes
        dsimp only
        rw [if_pos rfl]
        refine ⟨_, rfl, a, W, dw, _, .int e.1, rfl, ew, T.cls, T.nu, lk_u _ _, _, rfl, a, W, dw, _, .int e.2, rfl, ew, T.cls, T.ns, lk_s _ _, e.1, e.2, rfl, b1, b2, ?_⟩
        exact key H3 D (fun r => wfig r.1 r.2) pre e i s2 nD hD he
      rintro H3 ⟨s2, nD, hD⟩
      rw [show ws.take pre.length = ws by rw [len]; exact List.take_length] at hD
      dsimp only [tNil, tCons, tC]
      refine maxDf_nat (K := K) (SqL.of hD) fun m hm => ?_
      dsimp only [gName, List.set]
      have hl3 := s2 _ _ hl1
      refine ⟨_, rfl, l, rfl, ⟨_, SqL.of hl3⟩, fun D2 nD2 => lc_list (K := K) (xs := pre) (fun i H' => Same H3 H' ∧ H3 D2 = none ∧ H' D2 = some (.lst (((ws.take i).map Prod.snd).map fun n => V.int (n : Nat)))) ⟨same_new nD2, nD2, by rw [List.take_zero]; exact upd_same⟩ (fun i H' _ z => SqL.of (z.1 _ _ hl3)) ?_ ?_⟩
      · rintro i x H4 hx ⟨s3, nD2, hD2⟩
        obtain ⟨e, he, r⟩ := hE.get hx
        obtain ⟨a, rfl, dw, ew⟩ := ((r.same s1).same s2).same s3
        dsimp only [gName, List.set]
        refine ⟨rfl, ?_⟩
        unfold tYes
        dsimp only
        rw [if_pos rfl]
        refine ⟨_, rfl, a, W, dw, _, .int e.2, rfl, ew, T.cls, T.ns, lk_s _ _, ?_⟩
        refine ⟨_, hD2, ?_, ?_, nD2, ?_⟩
        · rw [List.length_map, List.length_map, List.length_take]
          have := sizeLine_eq
          omega
        · intro b o eb
          rw [upd_ne (ne_of_none eb nD2)]
          exact s3 _ _ eb
        · rw [upd_same, List.take_succ, he]
          simp
      rintro H4 ⟨s3, _, hD2⟩
      rw [show ws.take pre.length = ws by rw [len]; exact List.take_length] at hD2
      dsimp only [tNil, tCons, tC]
      refine maxDf_nat (K := K) (SqL.of hD2) fun c hc => ?_
      dsimp only [gName, List.set]
      exact ⟨_, rfl, _, rfl, m, c, rfl, fun a H' s4 _ hs => q m c hm hc a H' (((s1.trans s2).trans s3).trans s4) hs⟩
end
end K09

/-! k09: the law's small defs. -/
namespace K09
open PySem PySem.Spec PyProof.Rows L2 LamX NdefX Own
abbrev sShape : Stmt := topS 42
abbrev sSeen : Stmt := topS 43
/-- a pair of ints, as data -/
theorem dp_two {K : PySem.W.Frag} {H : Hp} {a : Addr} {u v : Int} (e : H a = some (.tup [.int u, .int v])) : Dp K H (.ref a) (.tuple [.int u, .int v]) := .tup (SqT.of e) (.cons (.int u) (.cons (.int v) .nil))
theorem sh_two (u v : Int) : SeqAt.shaped (.tuple [.int u, .int v]) = true := by
  unfold SeqAt.shaped
  simp [PyData.canLay0, PyData.canLayAll0, PyData.depth, PyData.depthAll]
def Two (H : Hp) (r : Addr) (u s : Nat) : Prop := H r = some (.tup [.int u, .int s])
section
variable {P : Program} {w : World} {K : PySem.W.Frag} {mg : Str → Option Value} {base : Heap} {C CN S D aO : Addr}
theorem scShape : FnScope ["_law_pen", "_law_most", "_law_whole", "_law_scale"] ["_law_pen", "_law_most"] (defScope sShape) := ⟨rfl, rfl, rfl, by decide +kernel, rfl, by decide +kernel, by decide +kernel⟩
def spLShape : Sp := fun vs H Q _ => ∃ (d : Addr) (m : Nat) (B : Int), vs = [.ref d, .int m] ∧ 1 ≤ m ∧ m ≤ 100 ∧ Pen H d B ∧ B ≤ 800000000 ∧ ∀ (u s : Nat) (r : Addr) (H' : Hp), u ≤ m → s ≤ m → ¬ (u = 0 ∧ s = 0) → KeepP d H H' → Pen H' d (B + 10) → Two H' r u s → r ≠ d → Q (.ref r) H'
theorem ok_lshape (A : At K mg "_law_shape" sShape ["_law_pen", "_law_most"]) (D1 : DefOk P w K mg base CX0 "_law_draw" 1 ["_law_pen", "_law_span"] spDraw) (D2 : DefOk P w K mg base CX0 "_law_pick" 2 ["_law_pen", "_law_some"] spPick) : DefOk P w K mg base CX0 "_law_shape" 3 ["_law_pen", "_law_most"] spLShape := by
  refine A.ok fun f fd F => F.ok scShape (fun vs H Q E h => ?_) (fun cdv A outer s0 H vs Q E hr h => ?_)
  · obtain ⟨d, m, B, rfl, _⟩ := h
    rfl
  · obtain ⟨d, m, B, rfl, hm1, hm2, hp, hB, q⟩ := h
    have nd := scShape.nd
    refine ⟨_, pss_cons (ps_par (i := 2) (j := 3) (by rfl) nd rfl rfl (by decide) rfl rfl (pa_cons (pe_def D1 hr (by decide) (by rfl) pass0 (pa_cons (pv 0) (pa_cons (pe_op op_add (pv 1) pe_int) pa_nil))) (pa_cons (pe_def D1 hr (by decide) (by rfl) pass0 (pa_cons (pv 0) (pa_cons (pe_op op_add (pv 1) pe_int) pa_nil))) pa_nil)) (by rfl))
      (pss_cons (ps_asg (pe_def D2 hr (by decide) (by rfl) pass0 (pa_cons (pv 0) (pa_cons (pe_lst (pa_cons (pe_tup (pa_cons (pv 2) (pa_cons (pv 3) pa_nil))) (pa_cons (pe_tup (pa_cons (pv 2) (pa_cons (pv 3) pa_nil))) (pa_cons (pe_tup (pa_cons pe_int (pa_cons (pv 3) pa_nil))) (pa_cons (pe_tup (pa_cons (pv 2) (pa_cons pe_int pa_nil))) (pa_cons (pe_tup (pa_cons pe_int (pa_cons pe_int pa_nil))) pa_nil)))))) pa_nil)))
          (pg_tup rfl (pgs_cons (pg_name (i := 2) nd rfl (.inl rfl)) (pgs_cons (pg_name (i := 3) nd rfl (.inl rfl)) pgs_nil))))
      (pss_cons (ps_if (pt_cmpR op_eq (pe_op op_add (pv 2) (pv 3)) pe_int (nomark _)) (pss_one (ps_ret (pe_tup (pa_cons pe_int (pa_cons pe_int pa_nil))))) pss_nil)
      (pss_one (ps_ret (pe_tup (pa_cons (pv 2) (pa_cons (pv 3) pa_nil))))))), ?_⟩
    have gm : (m : Int) + 1 = ((m + 1 : Nat) : Int) := by omega
    refine ⟨_, rfl, _, rfl, _, _, rfl, rfl, d, (m : Int) + 1, B, rfl, hp, by omega, by omega, by omega, fun x H1 a1 a2 k1 p1 => ?_⟩
    refine ⟨_, rfl, _, rfl, _, _, rfl, rfl, d, (m : Int) + 1, _, rfl, p1, by omega, by omega, by omega, fun y H2 b1 b2 k2 p2 => ?_⟩
    obtain ⟨x, rfl⟩ : ∃ n : Nat, x = (n : Int) := ⟨x.toNat, (Int.toNat_of_nonneg a1).symm⟩
    obtain ⟨y, rfl⟩ : ∃ n : Nat, y = (n : Int) := ⟨y.toNat, (Int.toNat_of_nonneg b1).symm⟩
    refine ⟨_, _, rfl, ?_⟩
    dsimp only [gName, List.set]
    refine ⟨_, rfl, _, rfl, _, rfl, by show 2 ≤ sizeLine; decide, fun r1 m1 => ?_⟩
    have t1 := same_new (o := HO.tup [.int x, .int y]) m1
    have f1 : Two (upd H2 r1 (HO.tup [.int x, .int y])) r1 x y := upd_same
    generalize upd H2 r1 (HO.tup [.int x, .int y]) = A1 at t1 f1 ⊢
    refine ⟨_, rfl, _, rfl, by show 2 ≤ sizeLine; decide, fun r2 m2 => ?_⟩
    have t2 := same_new (o := HO.tup [.int x, .int y]) m2
    have f2 : Two (upd A1 r2 (HO.tup [.int x, .int y])) r2 x y := upd_same
    generalize upd A1 r2 (HO.tup [.int x, .int y]) = A2 at t2 f2 ⊢
    refine ⟨_, rfl, by show 2 ≤ sizeLine; decide, fun r3 m3 => ?_⟩
    have t3 := same_new (o := HO.tup [.int 0, .int y]) m3
    have f3 : Two (upd A2 r3 (HO.tup [.int 0, .int y])) r3 0 y := upd_same
    generalize upd A2 r3 (HO.tup [.int 0, .int y]) = A3 at t3 f3 ⊢
    refine ⟨_, rfl, by show 2 ≤ sizeLine; decide, fun r4 m4 => ?_⟩
    have t4 := same_new (o := HO.tup [.int x, .int 0]) m4
    have f4 : Two (upd A3 r4 (HO.tup [.int x, .int 0])) r4 x 0 := upd_same
    generalize upd A3 r4 (HO.tup [.int x, .int 0]) = A4 at t4 f4 ⊢
    refine ⟨by show 2 ≤ sizeLine; decide, fun r5 m5 => ?_⟩
    have t5 := same_new (o := HO.tup [.int 1, .int 1]) m5
    have f5 : Two (upd A4 r5 (HO.tup [.int 1, .int 1])) r5 1 1 := upd_same
    generalize upd A4 r5 (HO.tup [.int 1, .int 1]) = A5 at t5 f5 ⊢
    refine ⟨by show 5 ≤ sizeLine; decide, fun l nl => ?_⟩
    have sl := same_new (o := HO.lst [.ref r1, .ref r2, .ref r3, .ref r4, .ref r5]) nl
    have all : ∀ v ∈ ([.ref r1, .ref r2, .ref r3, .ref r4, .ref r5] : List V), ∃ (r : Addr) (u s : Nat), v = .ref r ∧ Two (upd A5 l (HO.lst [.ref r1, .ref r2, .ref r3, .ref r4, .ref r5])) r u s ∧ u ≤ m ∧ s ≤ m := by
      intro v hv
      simp only [List.mem_cons, List.not_mem_nil, or_false] at hv
      rcases hv with rfl | rfl | rfl | rfl | rfl
      · exact ⟨r1, x, y, rfl, sl _ _ (t5 _ _ (t4 _ _ (t3 _ _ (t2 _ _ f1)))), by omega, by omega⟩
      · exact ⟨r2, x, y, rfl, sl _ _ (t5 _ _ (t4 _ _ (t3 _ _ f2))), by omega, by omega⟩
      · exact ⟨r3, 0, y, rfl, sl _ _ (t5 _ _ (t4 _ _ f3)), by omega, by omega⟩
      · exact ⟨r4, x, 0, rfl, sl _ _ (t5 _ _ f4), by omega, by omega⟩
      · exact ⟨r5, 1, 1, rfl, sl _ _ f5, by omega, by omega⟩
    have sA : Same H2 (upd A5 l (HO.lst [.ref r1, .ref r2, .ref r3, .ref r4, .ref r5])) := ((((t1.trans t2).trans t3).trans t4).trans t5).trans sl
    refine ⟨d, l, _, _, rfl, upd_same, by simp, by show 5 ≤ 1000; decide, p2.same sA, by omega, fun v H3 hv k3 p3 => ?_⟩
    obtain ⟨r, u, s, rfl, er, hu, hs⟩ := all v hv
    obtain ⟨pp, ns, cc, ll, ed, _⟩ := id (p2.same sA).ex
    have rd : r ≠ d := ne_of er ed (by intro y; cases y)
    have er3 := k3 _ _ rd er
    have kk := ((k1.trans k2).trans (KeepP.same sA)).trans k3
    refine ⟨r, _, rfl, SqT.of er3, rfl, _, _, rfl, _, _, rfl, rfl, ?_⟩
    dsimp only [gName, List.set]
    obtain ⟨pp3, ns3, cc3, ll3, ed3, _⟩ := id p3.ex
    refine ⟨_, rfl, _, rfl, _, _, rfl, rfl, rfl, _, rfl, ite2 (fun g => ?_) (fun g => ?_)⟩
    · refine ⟨by show 2 ≤ sizeLine; decide, fun r6 m6 => ?_⟩
      exact q 1 0 r6 _ (by omega) (by omega) (by omega) (kk.trans (KeepP.new m6)) ((p3.same (same_new m6)).mono (by omega)) upd_same (ne_of_none ed3 m6).symm
    · have z : ¬ (u : Int) + (s : Int) = 0 := by simpa using g
      refine ⟨_, rfl, _, rfl, by show 2 ≤ sizeLine; decide, fun r6 m6 => ?_⟩
      exact q u s r6 _ hu hs (by omega) (kk.trans (KeepP.new m6)) ((p3.same (same_new m6)).mono (by omega)) upd_same (ne_of_none ed3 m6).symm
theorem scSeen : FnScope ["_law_shape_here", "_law_part"] ["_law_shape_here"] (defScope sSeen) := ⟨rfl, rfl, rfl, by decide +kernel, rfl, by decide +kernel, by decide +kernel⟩
def spSeen (S : Addr) : Sp := fun vs H Q _ => ∃ (a : Addr) (u s : Nat), vs = [.ref a] ∧ SAt S H a u s ∧ ∀ (r : Addr) (H' : Hp), Same H H' → H r = none → Two H' r u s → Q (.ref r) H'
theorem ok_seen (A : At K mg "_law_seen" sSeen ["_law_shape_here"]) (B : Blt mg) (T : ShapeC K mg S) (I : WIs K S) : DefOk P w K mg base CX0 "_law_seen" 1 ["_law_shape_here"] (spSeen S) := by
  refine A.ok fun f fd F => F.ok scSeen (fun vs H Q E h => ?_) (fun cdv A outer s0 H vs Q E hr h => ?_)
  · obtain ⟨a, u, s, rfl, _⟩ := h
    rfl
  · obtain ⟨a, u, s, rfl, ⟨dx, ea⟩, q⟩ := h
    have nd := scSeen.nd
    refine ⟨_, pss_cons (ps_if (pt_not (pt_val (pe_callB call_isi (by rfl) B.isi (by decide +kernel) (pa_cons (pv 0) (pa_cons (pe_glob (v := .ref S) (by rfl) T.g rfl) pa_nil))))) (pss_one (ps_ret pe_non)) pss_nil)
      (pss_cons (ps_for PassesOwn.never rfl (pi_tup (pe_tup (pa_cons (pe_fld (pv 0) (by rfl)) (pa_cons (pe_fld (pv 0) (by rfl)) pa_nil)))) (pg_name (i := 1) nd rfl (.inl rfl))
        (pss_one (ps_if (PW.pt (pw_or (pt_not (pt_val (pe_callB call_isi (by rfl) B.isi (by decide +kernel) (pa_cons (pv 1) (pa_cons (pe_bltn (v := .ty "int") (by rfl) B.int (by decide +kernel) rfl) pa_nil)))))
          (pw_or1 (pt_val (pe_callB call_isi (by rfl) B.isi (by decide +kernel) (pa_cons (pv 1) (pa_cons (pe_bltn (v := .ty "bool") (by rfl) B.bool (by decide +kernel) rfl) pa_nil))))))) (pss_one (ps_ret pe_non)) pss_nil)))
      (pss_one (ps_ret (pe_tup (pa_cons (pe_fld (pv 0) (by rfl)) (pa_cons (pe_fld (pv 0) (by rfl)) pa_nil)))))), ?_⟩
    refine ⟨_, rfl, _, _, _, _, true, rfl, .own S, .base (.ins ea T.cls I.ha I.hn I.ht I.hm), by unfold PySem.W.kitOne; rw [if_pos (by simp)], _, rfl, iteF ?_⟩
    refine ⟨_, rfl, a, S, dx, _, .int u, rfl, ea, T.cls, T.nw, lkW _ _, _, rfl, a, S, dx, _, .int s, rfl, ea, T.cls, T.ns, lkS _ _, by show 2 ≤ sizeLine; decide, fun p np => ?_⟩
    have s1 := same_new (o := HO.tup [.int u, .int s]) np
    refine ⟨p, rfl, ⟨_, SqT.of upd_same⟩, for_tup (K := K) (xs := [.int u, .int s]) (fun i σ H' => (∃ y : Option V, σ = [some (.ref a), y]) ∧ H' = upd H p (.tup [.int u, .int s])) ⟨⟨none, rfl⟩, rfl⟩ (fun i σ H' _ z => by rw [z.2]; exact SqT.of upd_same) ?_ ?_⟩
    · rintro i x σ H' hx ⟨⟨y, rfl⟩, rfl⟩
      have hi : ∃ n : Int, x = .int n := by
        have m := List.mem_of_getElem? hx
        simp only [List.mem_cons, List.not_mem_nil, or_false] at m
        rcases m with rfl | rfl
        · exact ⟨_, rfl⟩
        · exact ⟨_, rfl⟩
      obtain ⟨n, rfl⟩ := hi
      obtain ⟨t, h1, h2, h3⟩ := (Thing.int (H := upd H p (.tup [.int u, .int s])) n).isi (K := K)
      refine ⟨_, rfl, _, _, t, _, _, rfl, .ty _, h1, h2, _, rfl, iteF ⟨_, rfl, _, _, t, _, _, rfl, .ty _, h1, h3, _, rfl, iteF ?_⟩⟩
      exact ⟨⟨_, rfl⟩, rfl⟩
    · rintro σ H' ⟨⟨y, rfl⟩, rfl⟩
      have ea1 := s1 _ _ ea
      refine ⟨_, rfl, a, S, dx, _, .int u, rfl, ea1, T.cls, T.nw, lkW _ _, _, rfl, a, S, dx, _, .int s, rfl, ea1, T.cls, T.ns, lkS _ _, by show 2 ≤ sizeLine; decide, fun r nr => ?_⟩
      exact q r _ (s1.trans (same_new nr)) (s1.free nr) upd_same
end
end K09

/-! k09: the law: what fits, what is asked. -/
namespace K09
open PySem PySem.Spec PyProof.Rows L2 LamX NdefX Own
abbrev sFits : Stmt := topS 41
abbrev sAsk : Stmt := topS 44
def junkE : Expr := .Constant .none 0 ⟨0, 0, 0, 0⟩
def retE : Stmt → Expr
  | .Return (some e) _ => e
  | _ => junkE
def asgV : Stmt → Expr
  | .Assign _ e _ => e
  | _ => junkE
def binR : Expr → Expr
  | .BinOp _ _ r _ => r
  | _ => junkE
def argN (i : Nat) : Expr → Expr
  | .Call _ l _ _ => l.getD i junkE
  | .List l _ => l.getD i junkE
  | .Compare a _ _ _ => a
  | _ => junkE
def for0 : Stmt → Stmt
  | .For _ _ (s :: _) _ _ => s
  | s => s
def ifE : Stmt → Expr
  | .If e _ _ _ => e
  | _ => junkE
abbrev inD (s : Stmt) (i : Nat) : Stmt := (defBody s).getD i (.Pass ⟨0, 0, 0, 0⟩)
abbrev nAk : List Str := ["_law_pen", "_law_whole", "_law_scale", "_law_most", "_law_rows", "_law_row"]
theorem blkAk : BlkOk nAk (defScope sAsk) (lcScope (binR (retE (inD sAsk 3)))) [("_law_row", 5)] := blkOk_by (by decide +kernel)
/-- a row of the law -/
def RowT (H : Hp) (r : V) (e : Int × Nat) : Prop := ∃ a, r = .ref a ∧ H a = some (.tup [.int e.1, .int e.2])
theorem RowT.same {H H' : Hp} {r : V} {e : Int × Nat} (h : RowT H r e) (z : Same H H') : RowT H' r e := by
  obtain ⟨a, e1, e2⟩ := h
  exact ⟨a, e1, z _ _ e2⟩
theorem RowT.keep {H H' : Hp} {d : Addr} {B : Int} {r : V} {e : Int × Nat} (h : RowT H r e) (hp : Pen H d B) (k : KeepP d H H') : RowT H' r e := by
  obtain ⟨a, e1, e2⟩ := h
  obtain ⟨p, ns, c, l, ed, _⟩ := hp.ex
  exact ⟨a, e1, k _ _ (ne_of e2 ed (by intro z; cases z)) e2⟩
section
variable {P : Program} {w : World} {K : PySem.W.Frag} {mg : Str → Option Value} {base : Heap} {C CN W S Co : Addr}
theorem scFt : FnScope ["_law_row", "_law_whole", "_law_scale", "_law_units", "_law_own"] ["_law_row", "_law_whole", "_law_scale"] (defScope sFits) := ⟨rfl, rfl, rfl, by decide +kernel, rfl, by decide +kernel, by decide +kernel⟩
def spLF : Sp := fun vs H Q _ => ∃ (r : Addr) (u : Int) (s n c : Nat), vs = [.ref r, .int n, .int c] ∧ H r = some (.tup [.int u, .int s]) ∧ u.natAbs < 2 ^ 1500 ∧ n + s ≤ 600 ∧ ∀ (u' : Int) (s' : Nat) (H' : Hp), IsLow u s u' s' → Same H H' → Q (.bl (fitB u' s' n c)) H'
theorem ok_lF (A : At K mg "_law_fits" sFits ["_law_row", "_law_whole", "_law_scale"]) (B : Blt mg) (D4 : DefOk P w K mg base CX0 "_law_ten" 1 ["_law_number"] spTen) (D6 : DefOk P w K mg base CX0 "_law_low" 2 ["_law_units", "_law_scale"] spLow) : DefOk P w K mg base CX0 "_law_fits" 3 ["_law_row", "_law_whole", "_law_scale"] spLF := by
  refine A.ok fun f fd F => F.ok scFt (fun vs H Q E h => ?_) (fun cdv A outer s0 H vs Q E hr h => ?_)
  · obtain ⟨r, u, s, n, c, rfl, _⟩ := h
    rfl
  · obtain ⟨r, u, s, n, c, rfl, er, hu, hn, q⟩ := h
    have nd := scFt.nd
    refine ⟨_, pss_cons (ps_asg (pe_def D6 hr (by decide) (by rfl) pass0 (pa_cons (pe_ix ix_tup (pv 0) pe_int (fun _ _ => rfl)) (pa_cons (pe_ix ix_tup (pv 0) pe_int (fun _ _ => rfl)) pa_nil))) (pg_tup rfl (pgs_cons (pg_name (i := 3) nd rfl (.inl rfl)) (pgs_cons (pg_name (i := 4) nd rfl (.inl rfl)) pgs_nil))))
      (pss_one (ps_ret (pe_and (pe_cmpR op_le (pv 4) (pv 2) (nomark _)) (pe_one (pe_cmpR op_lt (pe_callB call_abs (by rfl) B.abs (by decide +kernel) (pa_cons (pv 3) pa_nil)) (pe_def D4 hr (by decide) (by rfl) pass0 (pa_cons (pe_op op_add (pv 1) (pv 4)) pa_nil)) (nomark _)))))), ?_⟩
    refine ⟨_, rfl, r, _, 0, _, rfl, rfl, SqT.of er, rfl, _, rfl, r, _, 1, _, rfl, rfl, SqT.of er, rfl, u, s, rfl, up_two hu (by decide), by omega, fun u' s' x lw nx => ?_⟩
    have s1 := same_new (o := HO.tup [.int u', .int s']) nx
    refine ⟨x, _, rfl, SqT.of upd_same, rfl, _, _, rfl, _, _, rfl, rfl, ?_⟩
    dsimp only [gName, List.set]
    have q := q u' s' _ lw s1
    have hle := lw.le
    unfold fitB absZ at q
    refine ⟨_, rfl, _, rfl, _, _, rfl, rfl, ?_⟩
    refine ⟨_, rfl, ite2 (fun e => ?_) (fun e => ?_)⟩
    · have z : s' ≤ c := by
        have y : (s' : Int) ≤ (c : Int) := by simpa using e
        omega
      refine ⟨_, rfl, u', rfl, _, rfl, _, rfl, _, _, rfl, rfl, n + s', rfl, by omega, _, _, rfl, rfl, ?_⟩
      simpa [z] using q
    · have z : ¬ s' ≤ c := fun y => e (by simpa using Int.ofNat_le.mpr y)
      simpa [z] using q
theorem scAk : FnScope ["_law_pen", "_law_whole", "_law_scale", "_law_most", "_law_rows", "_law_row"] ["_law_pen", "_law_whole", "_law_scale"] (defScope sAsk) := ⟨rfl, rfl, rfl, by decide +kernel, rfl, by decide +kernel, by decide +kernel⟩
def spAsk : Sp := fun vs H Q _ => ∃ (d : Addr) (n c : Nat) (B : Int), vs = [.ref d, .int n, .int c] ∧ n ≤ 40 ∧ c ≤ 40 ∧ ¬ (n = 0 ∧ c = 0) ∧ Pen H d B ∧ B ≤ 700000000 ∧ ∀ (l : Addr) (xs : List V) (rs : List (Int × Nat)) (H' : Hp), KeepP d H H' → Pen H' d (B + 3000) → H' l = some (.lst xs) → Ents (RowT H') xs rs → (∀ r ∈ rs, r.1.natAbs < 2 ^ 300 ∧ r.2 ≤ 41) → Q (.ref l) H'
theorem ok_ask (A : At K mg "_law_asked" sAsk ["_law_pen", "_law_whole", "_law_scale"]) (B : Blt mg) (D3 : DefOk P w K mg base CX0 "_law_figures" 2 ["_law_pen", "_law_most"] spFigs) (D4 : DefOk P w K mg base CX0 "_law_ten" 1 ["_law_number"] spTen) (D5 : DefOk P w K mg base CX0 "_law_drawn" 3 ["_law_pen"] spDrawn) : DefOk P w K mg base CX0 "_law_asked" 4 ["_law_pen", "_law_whole", "_law_scale"] spAsk := by
  refine A.ok fun f fd F => F.ok scAk (fun vs H Q E h => ?_) (fun cdv A outer s0 H vs Q E hr h => ?_)
  · obtain ⟨d, n, c, B, rfl, _⟩ := h
    rfl
  · obtain ⟨d, n, c, B0, rfl, hn, hc, nz, hp, hB, q⟩ := h
    have nd := scAk.nd
    refine ⟨_, pss_cons (ps_set (i := 3) nd rfl (.inl rfl) (pe_def D4 hr (by decide) (by rfl) pass0 (pa_cons (pe_op op_add (pv 1) (pv 2)) pa_nil)))
      (pss_cons (ps_set (i := 4) nd rfl (.inl rfl) (pe_lst (pa_cons (pe_tup (pa_cons (pe_op op_sub (pv 3) pe_int) (pa_cons (pv 2) pa_nil))) (pa_cons (pe_tup (pa_cons (pv 3) (pa_cons (pv 2) pa_nil))) (pa_cons (pe_tup (pa_cons (pe_op op_sub (pe_op op_mulW pe_int (pv 3)) pe_int) (pa_cons (pe_op op_add (pv 2) pe_int) pa_nil))) (pa_cons (pe_tup (pa_cons pe_int (pa_cons pe_int pa_nil))) (pa_cons (pe_tup (pa_cons pe_int (pa_cons (pv 2) pa_nil))) (pa_cons (pe_tup (pa_cons pe_int (pa_cons (pe_op op_add (pv 2) pe_int) pa_nil))) pa_nil))))))))
      (pss_cons (ps_set (i := 4) nd rfl (.inl rfl) (pe_op op_cat (pv 4) (pe_lst (pa_cons (pe_def D5 hr (by decide) (by rfl) pass0 (pa_cons (pv 0) pa_nil)) (pa_cons (pe_def D5 hr (by decide) (by rfl) pass0 (pa_cons (pv 0) pa_nil)) (pa_cons (pe_tup (pa_cons (pe_def D3 hr (by decide) (by rfl) pass0 (pa_cons (pv 0) (pa_cons (pe_op op_add (pv 1) (pv 2)) pa_nil))) (pa_cons (pv 2) pa_nil))) pa_nil))))))
      (pss_one (ps_ret (pe_op op_cat (pv 4) (pe_lc (own := [("_law_row", 5)]) (te := tTup (tCons (tUn (rU fun i => .int (-i)) (tOp (rIxT K) (tVar 5) (tC (.int 0)))) (tCons (tOp (rIxT K) (tVar 5) (tC (.int 1))) tNil))) rfl nd (pi_list (pv 4)) blkAk (fun _ _ _ _ _ => (pg_name (i := 5) nd rfl (.inl rfl))) (fun _ _ _ _ _ => pts_nil) (fun _ _ _ _ _ => (pe_tup (pa_cons (pe_un un_neg (pe_ix ix_tup (pv 5) pe_int (fun _ _ => rfl))) (pa_cons (pe_ix ix_tup (pv 5) pe_int (fun _ _ => rfl)) pa_nil)))))))))), ?_⟩
    have M0 := ten_pos (n + c)
    have M1 : ((10 : Int) ^ (n + c)).natAbs < 2 ^ 270 := by
      have := ten_mono (show n + c ≤ 80 by omega)
      have e : (10 : Int) ^ 80 < 2 ^ 270 := by decide +kernel
      have e2 : ((2 : Int) ^ 270) = ((2 ^ 270 : Nat) : Int) := by decide +kernel
      omega
    refine ⟨_, rfl, _, rfl, _, _, rfl, rfl, n + c, rfl, by omega, ?_⟩
    dsimp only [gName, List.set]
    generalize (10 : Int) ^ (n + c) = M at M0 M1 ⊢
    have M2 : ∀ k : Int, k.natAbs ≤ 10 * M.natAbs + 10 → k.natAbs < 2 ^ 300 := fun k hk => by
      have e : 10 * 2 ^ 270 + 10 < 2 ^ 300 := by decide +kernel
      omega
    refine ⟨_, rfl, _, _, rfl, rfl, _, rfl, by show 2 ≤ sizeLine; decide, fun r1 m1 => ?_⟩
    have t1 := same_new (o := HO.tup [.int (M - 1), .int (c : Int)]) m1
    have f1 : RowT (upd H r1 (HO.tup [.int (M - 1), .int (c : Int)])) (.ref r1) ((M - 1), c) := ⟨r1, rfl, upd_same⟩
    generalize upd H r1 (HO.tup [.int (M - 1), .int (c : Int)]) = A1 at t1 f1 ⊢
    refine ⟨_, rfl, _, rfl, by show 2 ≤ sizeLine; decide, fun r2 m2 => ?_⟩
    have t2 := same_new (o := HO.tup [.int M, .int (c : Int)]) m2
    have f2 : RowT (upd A1 r2 (HO.tup [.int M, .int (c : Int)])) (.ref r2) (M, c) := ⟨r2, rfl, upd_same⟩
    generalize upd A1 r2 (HO.tup [.int M, .int (c : Int)]) = A2 at t2 f2 ⊢
    refine ⟨_, rfl, _, _, rfl, rfl, wide_mul (show (10 : Int).natAbs < 2 ^ 4 by decide) M1 (by decide) (by decide) (by decide), _, _, rfl, rfl, _, rfl, _, _, rfl, rfl, by show 2 ≤ sizeLine; decide, fun r3 m3 => ?_⟩
    have t3 := same_new (o := HO.tup [.int (10 * M - 1), .int ((c : Int) + 1)]) m3
    have f3 : RowT (upd A2 r3 (HO.tup [.int (10 * M - 1), .int ((c : Int) + 1)])) (.ref r3) ((10 * M - 1), c + 1) := ⟨r3, rfl, upd_same⟩
    generalize upd A2 r3 (HO.tup [.int (10 * M - 1), .int ((c : Int) + 1)]) = A3 at t3 f3 ⊢
    refine ⟨by show 2 ≤ sizeLine; decide, fun r4 m4 => ?_⟩
    have t4 := same_new (o := HO.tup [.int 0, .int 0]) m4
    have f4 : RowT (upd A3 r4 (HO.tup [.int 0, .int 0])) (.ref r4) (0, 0) := ⟨r4, rfl, upd_same⟩
    generalize upd A3 r4 (HO.tup [.int 0, .int 0]) = A4 at t4 f4 ⊢
    refine ⟨_, rfl, by show 2 ≤ sizeLine; decide, fun r5 m5 => ?_⟩
    have t5 := same_new (o := HO.tup [.int 1, .int (c : Int)]) m5
    have f5 : RowT (upd A4 r5 (HO.tup [.int 1, .int (c : Int)])) (.ref r5) (1, c) := ⟨r5, rfl, upd_same⟩
    generalize upd A4 r5 (HO.tup [.int 1, .int (c : Int)]) = A5 at t5 f5 ⊢
    refine ⟨_, rfl, _, _, rfl, rfl, by show 2 ≤ sizeLine; decide, fun r6 m6 => ?_⟩
    have t6 := same_new (o := HO.tup [.int 1, .int ((c : Int) + 1)]) m6
    have f6 : RowT (upd A5 r6 (HO.tup [.int 1, .int ((c : Int) + 1)])) (.ref r6) (1, c + 1) := ⟨r6, rfl, upd_same⟩
    generalize upd A5 r6 (HO.tup [.int 1, .int ((c : Int) + 1)]) = A6 at t6 f6 ⊢
    have s16 := (t2.trans t3).trans ((t4.trans t5).trans t6)
    have s1 := t1.trans s16
    have E1 : Ents (RowT A6) [.ref r1, .ref r2, .ref r3, .ref r4, .ref r5, .ref r6] [(M - 1, c), (M, c), (10 * M - 1, c + 1), (0, 0), (1, c), (1, c + 1)] :=
      .cons (f1.same s16) (.cons (f2.same ((t3.trans t4).trans (t5.trans t6))) (.cons (f3.same (t4.trans (t5.trans t6))) (.cons (f4.same (t5.trans t6)) (.cons (f5.same t6) (.cons f6 .nil)))))
    have b1 : ∀ r ∈ [(M - 1, c), (M, c), (10 * M - 1, c + 1), ((0 : Int), 0), (1, c), (1, c + 1)], r.1.natAbs < 2 ^ 300 ∧ r.2 ≤ 41 := by
      intro r hr
      simp only [List.mem_cons, List.not_mem_nil, or_false] at hr
      rcases hr with rfl | rfl | rfl | rfl | rfl | rfl
      · exact ⟨M2 _ (by show (M - 1).natAbs ≤ _; omega), by show c ≤ 41; omega⟩
      · exact ⟨M2 _ (by show M.natAbs ≤ _; omega), by show c ≤ 41; omega⟩
      · exact ⟨M2 _ (by show (10 * M - 1).natAbs ≤ _; omega), by show c + 1 ≤ 41; omega⟩
      · exact ⟨by decide, by decide⟩
      · exact ⟨show (1 : Int).natAbs < 2 ^ 300 by decide, by show c ≤ 41; omega⟩
      · exact ⟨show (1 : Int).natAbs < 2 ^ 300 by decide, by show c + 1 ≤ 41; omega⟩
    have len1 : [(M - 1, c), (M, c), (10 * M - 1, c + 1), ((0 : Int), 0), (1, c), (1, c + 1)].length = 6 := rfl
    generalize [(M - 1, c), (M, c), (10 * M - 1, c + 1), ((0 : Int), 0), (1, c), (1, c + 1)] = rs1 at E1 b1 len1
    clear f1 f2 f3 f4 f5 f6 t1 t2 t3 t4 t5 t6 m1 m2 m3 m4 m5 m6 s16 M2
    refine ⟨by show 6 ≤ sizeLine; decide, fun l1 n1 => ?_⟩
    have sl1 := same_new (o := HO.lst [.ref r1, .ref r2, .ref r3, .ref r4, .ref r5, .ref r6]) n1
    have el1 : upd A6 l1 (HO.lst [.ref r1, .ref r2, .ref r3, .ref r4, .ref r5, .ref r6]) l1 = some (.lst [.ref r1, .ref r2, .ref r3, .ref r4, .ref r5, .ref r6]) := upd_same
    generalize upd A6 l1 (HO.lst [.ref r1, .ref r2, .ref r3, .ref r4, .ref r5, .ref r6]) = A7 at sl1 el1 ⊢
    have E1 := E1.mono fun _ _ z => z.same sl1
    have s1 := s1.trans sl1
    generalize [V.ref r1, .ref r2, .ref r3, .ref r4, .ref r5, .ref r6] = xs1 at E1 el1
    dsimp only [gName, List.set]
    have p1 := hp.same s1
    have pn : ∀ {H' : Hp} {B' : Int} {x : Addr} {xs : List V}, Pen H' d B' → H' x = some (.lst xs) → x ≠ d := fun {H' B' x xs} hp' hx => by
      obtain ⟨pp, ns, cc, ll, ed, _⟩ := hp'.ex
      exact ne_of hx ed (by intro z; cases z)
    have pt : ∀ {H' : Hp} {B' : Int} {x : Addr} {xs : List V}, Pen H' d B' → H' x = some (.tup xs) → x ≠ d := fun {H' B' x xs} hp' hx => by
      obtain ⟨pp, ns, cc, ll, ed, _⟩ := hp'.ex
      exact ne_of hx ed (by intro z; cases z)
    refine ⟨_, rfl, _, rfl, d, _, rfl, p1, by omega, fun u8 s8 r8 B1 bu8 bs8 k8 p8 e8 n8 => ?_⟩
    refine ⟨_, rfl, d, _, rfl, p8, by omega, fun u9 s9 r9 B2 bu9 bs9 k9 p9 e9 n9 => ?_⟩
    refine ⟨_, rfl, _, rfl, _, rfl, _, _, rfl, rfl, d, n + c, _, rfl, by omega, by omega, p9, by omega, fun v B3 v0 v1 k10 p10 => ?_⟩
    refine ⟨_, rfl, by show 2 ≤ sizeLine; decide, fun r10 m10 => ?_⟩
    have e8' := k10 _ _ n8 (k9 _ _ n8 e8)
    have e9' := k10 _ _ n9 e9
    have E2 := ((E1.mono fun _ _ z => z.keep p1 k8).mono fun _ _ z => z.keep p8 k9).mono fun _ _ z => z.keep p9 k10
    have el2 := k10 _ _ (pn p9 (k9 _ _ (pn p8 (k8 _ _ (pn p1 el1) el1)) (k8 _ _ (pn p1 el1) el1))) (k9 _ _ (pn p8 (k8 _ _ (pn p1 el1) el1)) (k8 _ _ (pn p1 el1) el1))
    have kk := ((KeepP.same s1).trans k8).trans (k9.trans k10)
    clear E1 el1 k8 k9 k10 p8 p9 e8 e9 s1 p1
    have t10 := same_new (o := HO.tup [.int v, .int c]) m10
    have f10 : RowT (upd B3 r10 (HO.tup [.int v, .int c])) (.ref r10) (v, c) := ⟨r10, rfl, upd_same⟩
    generalize upd B3 r10 (HO.tup [.int v, .int c]) = B4 at t10 f10 ⊢
    refine ⟨by show 3 ≤ sizeLine; decide, fun l2 n2 => ?_⟩
    have sl2 := same_new (o := HO.lst [.ref r8, .ref r9, .ref r10]) n2
    have el3 : upd B4 l2 (HO.lst [.ref r8, .ref r9, .ref r10]) l2 = some (.lst [.ref r8, .ref r9, .ref r10]) := upd_same
    generalize upd B4 l2 (HO.lst [.ref r8, .ref r9, .ref r10]) = B5 at sl2 el3 ⊢
    have s35 := t10.trans sl2
    have E3 : Ents (RowT B5) [.ref r8, .ref r9, .ref r10] [(u8, s8), (u9, s9), (v, c)] :=
      .cons ⟨r8, rfl, s35 _ _ e8'⟩ (.cons ⟨r9, rfl, s35 _ _ e9'⟩ (.cons (f10.same sl2) .nil))
    have lx := E2.len
    refine ⟨l1, l2, xs1, _, rfl, rfl, s35 _ _ el2, el3, ?_, fun l3 n3 => ?_⟩
    · show xs1.length + 3 ≤ sizeLine
      have := sizeLine_eq
      omega
    have sl3 := same_new (o := HO.lst (xs1 ++ [.ref r8, .ref r9, .ref r10])) n3
    have el4 : upd B5 l3 (HO.lst (xs1 ++ [.ref r8, .ref r9, .ref r10])) l3 = some (.lst (xs1 ++ [.ref r8, .ref r9, .ref r10])) := upd_same
    generalize upd B5 l3 (HO.lst (xs1 ++ [.ref r8, .ref r9, .ref r10])) = B6 at sl3 el4 ⊢
    have E4 : Ents (RowT B6) (xs1 ++ [.ref r8, .ref r9, .ref r10]) (rs1 ++ [(u8, s8), (u9, s9), (v, c)]) := (E2.mono fun _ _ z => z.same (s35.trans sl3)).app (E3.mono fun _ _ z => z.same sl3)
    have b4 : ∀ r ∈ rs1 ++ [(u8, s8), (u9, s9), (v, c)], r.1.natAbs < 2 ^ 300 ∧ r.2 ≤ 41 := by
      intro r hr
      rcases List.mem_append.mp hr with hr | hr
      · exact b1 r hr
      simp only [List.mem_cons, List.not_mem_nil, or_false] at hr
      rcases hr with rfl | rfl | rfl
      · exact ⟨up_two bu8 (by decide), by show s8 ≤ 41; omega⟩
      · exact ⟨up_two bu9 (by decide), by show s9 ≤ 41; omega⟩
      · refine ⟨?_, by show c ≤ 41; omega⟩
        have := ten_mono (show n + c ≤ 80 by omega)
        have e : 3 * (10 : Int) ^ 80 < 2 ^ 300 := by decide +kernel
        have e2 : ((2 : Int) ^ 300) = ((2 ^ 300 : Nat) : Int) := by decide +kernel
        show v.natAbs < 2 ^ 300
        omega
    have kk4 := kk.trans (KeepP.same (s35.trans sl3))
    have p4 := p10.same (s35.trans sl3)
    have len4 : (rs1 ++ [(u8, s8), (u9, s9), (v, c)]).length = 9 := by rw [List.length_append, len1]; rfl
    generalize rs1 ++ [(u8, s8), (u9, s9), (v, c)] = rs at E4 b4 len4
    generalize xs1 ++ [V.ref r8, .ref r9, .ref r10] = xs at E4 el4
    dsimp only [gName, List.set]
    clear E2 E3 el2 el3 kk p10 t10 f10 sl2 s35 sl3 n2 n3 m10 b1 e8' e9' v0 v1 bu8 bs8 bu9 bs9 n8 n9
    have lx := E4.len
    refine ⟨_, rfl, _, rfl, l3, rfl, ⟨_, SqL.of el4⟩, fun D nD => lc_list (K := K) (xs := xs) (fun i H' => Same B6 H' ∧ B6 D = none ∧ ∃ acc, H' D = some (.lst acc) ∧ Ents (RowT H') acc ((rs.take i).map fun e => (-e.1, e.2))) ⟨same_new nD, nD, [], upd_same, by rw [List.take_zero]; exact .nil⟩ (fun i H' _ z => SqL.of (z.1 _ _ el4)) ?_ ?_⟩
    · rintro i x C1 hx ⟨s5, nD, acc, hD, hA⟩
      obtain ⟨e, he, r⟩ := E4.get hx
      obtain ⟨a, rfl, ea⟩ := r.same s5
      have hi : i < rs.length := (List.getElem?_eq_some_iff.mp he).1
      dsimp only [gName, List.set]
      refine ⟨rfl, ?_⟩
      unfold tYes
      dsimp only
      rw [if_pos rfl]
      refine ⟨_, rfl, a, _, 0, _, rfl, rfl, SqT.of ea, rfl, _, rfl, _, rfl, a, _, 1, _, rfl, rfl, SqT.of ea, rfl, by show 2 ≤ sizeLine; decide, fun p np => ?_⟩
      have s6 := same_new (o := HO.tup [.int (-e.1), .int e.2]) np
      have f6 : RowT (upd C1 p (HO.tup [.int (-e.1), .int e.2])) (.ref p) (-e.1, e.2) := ⟨p, rfl, upd_same⟩
      refine ⟨acc, s6 _ _ hD, ?_, ?_, nD, acc ++ [.ref p], upd_same, ?_⟩
      · have := hA.len
        have := sizeLine_eq
        rw [List.length_map, List.length_take] at *
        omega
      · intro b o eb
        rw [upd_ne (ne_of_none eb nD)]
        exact s6 _ _ (s5 _ _ eb)
      · rw [show (rs.take (i + 1)).map (fun e => (-e.1, e.2)) = (rs.take i).map (fun e => (-e.1, e.2)) ++ [(-e.1, e.2)] by rw [List.take_succ, he]; simp]
        have pu : ∀ (r : V) (e : Int × Nat), RowT (upd C1 p (HO.tup [.int (-e.1), .int e.2])) r e → True := fun _ _ _ => trivial
        refine Ents.snoc (hA.mono fun r' e' z => ?_) ?_
        · obtain ⟨a', rfl, ea'⟩ := z.same s6
          exact ⟨a', rfl, (upd_ne (ne_of ea' (s6 _ _ hD) (by intro z; cases z))).trans ea'⟩
        · obtain ⟨a', ez, ea'⟩ := f6
          exact ⟨a', ez, (upd_ne (ne_of ea' (s6 _ _ hD) (by intro z; cases z))).trans ea'⟩
    · rintro C1 ⟨s5, nD, acc, hD, hA⟩
      rw [show rs.take xs.length = rs by rw [lx]; exact List.take_length] at hA
      have lA := hA.len
      rw [List.length_map] at lA
      refine ⟨l3, D, xs, acc, rfl, rfl, s5 _ _ el4, hD, by have := sizeLine_eq; omega, fun l4 n4 => ?_⟩
      have s6 := same_new (o := HO.lst (xs ++ acc)) n4
      refine q l4 (xs ++ acc) (rs ++ rs.map fun e => (-e.1, e.2)) _ (kk4.trans (KeepP.same (s5.trans s6))) ((p4.same (s5.trans s6)).mono (by omega)) upd_same ((E4.mono fun _ _ z => z.same (s5.trans s6)).app (hA.mono fun _ _ z => z.same s6)) ?_
      intro r hr
      rcases List.mem_append.mp hr with hr | hr
      · exact b4 r hr
      · obtain ⟨e, he, rfl⟩ := List.mem_map.mp hr
        obtain ⟨z1, z2⟩ := b4 e he
        exact ⟨by show (-e.1).natAbs < _; rw [Int.natAbs_neg]; exact z1, z2⟩
end
end K09

/-! k09: the law: the least shape of rows. -/
namespace K09
open PySem PySem.Spec PyProof.Rows L2 LamX NdefX Own
abbrev sLeast : Stmt := topS 45
abbrev nLeast : List Str := ["_law_rows", "_law_scale", "_law_whole", "_law_row"]
theorem blkLe1 : BlkOk nLeast (defScope sLeast) (lcScope (binR (argN 0 (asgV (inD sLeast 0))))) [("_law_row", 3)] := blkOk_by (by decide +kernel)
theorem blkLe2 : BlkOk nLeast (defScope sLeast) (lcScope (argN 0 (ifE (for0 (inD sLeast 1))))) [("_law_row", 3)] := blkOk_by (by decide +kernel)
/-- the rows, brought low -/
def LowsOf (rs ws : List (Int × Nat)) : Prop := rs.length = ws.length ∧ ∀ (i : Nat) (e : Int × Nat), rs[i]? = some e → ∃ e' : Int × Nat, ws[i]? = some e' ∧ IsLow e.1 e.2 e'.1 e'.2
theorem LowsOf.step {rs ws : List (Int × Nat)} {i : Nat} {e : Int × Nat} {u' : Int} {s' : Nat} (h : LowsOf rs ws) (he : rs[i]? = some e) (l : IsLow e.1 e.2 u' s') : ws[i]? = some (u', s') := by
  obtain ⟨e', h1, h2⟩ := h.2 i e he
  obtain ⟨a, b⟩ := low_eq h2 l
  rw [h1, ← a, ← b]
section
variable {P : Program} {w : World} {K : PySem.W.Frag} {mg : Str → Option Value} {base : Heap} {C CN W S Co : Addr}
theorem scLe : FnScope ["_law_rows", "_law_scale", "_law_whole", "_law_row"] ["_law_rows"] (defScope sLeast) := ⟨rfl, rfl, rfl, by decide +kernel, rfl, by decide +kernel, by decide +kernel⟩
def spLst : Sp := fun vs H Q _ => ∃ (l : Addr) (xs : List V) (rs ws : List (Int × Nat)) (m c : Nat), vs = [.ref l] ∧ H l = some (.lst xs) ∧ Ents (RowT H) xs rs ∧ rs.length ≤ 1000 ∧ (∀ r ∈ rs, r.1.natAbs < 2 ^ 1500 ∧ r.2 ≤ 500) ∧ LowsOf rs ws ∧ IsMax (ws.map fun r => wfig r.1 r.2) m ∧ IsMax (ws.map Prod.snd) c ∧ m < 70 ∧
  ∀ (r : Addr) (H' : Hp), Same H H' → H' r = some (.tup [.int (max m (if c = 0 then 1 else 0) : Nat), .int c]) → Q (.ref r) H'
theorem ok_least (A : At K mg "_law_least" sLeast ["_law_rows"]) (B : Blt mg) (D6 : DefOk P w K mg base CX0 "_law_low" 2 ["_law_units", "_law_scale"] spLow) (DFt : DefOk P w K mg base CX0 "_law_fits" 3 ["_law_row", "_law_whole", "_law_scale"] spLF) : DefOk P w K mg base CX0 "_law_least" 4 ["_law_rows"] spLst := by
  refine A.ok fun f fd F => F.ok scLe (fun vs H Q E h => ?_) (fun cdv A outer s0 H vs Q E hr h => ?_)
  · obtain ⟨l, xs, rs, ws, m, c, rfl, _⟩ := h
    rfl
  · obtain ⟨l, xs, rs, ws, m, c, rfl, hl, hE, hlen, hb, hW, hm, hc, h70, q⟩ := h
    have nd := scLe.nd
    refine ⟨_, pss_cons (ps_set (i := 1) nd rfl (.inr rfl) (pe_callB (cr_max rfl) (by rfl) B.max (by decide +kernel) (pa_cons (pe_op op_cat (pe_lst (pa_cons pe_int pa_nil)) (pe_lc (own := [("_law_row", 3)]) (te := tOp (rIxT K) (tCall spLow [] E0 (tCons (tOp (rIxT K) (tVar 3) (tC (.int 0))) (tCons (tOp (rIxT K) (tVar 3) (tC (.int 1))) tNil))) (tC (.int 1))) rfl nd (pi_list (pv 0)) blkLe1 (fun _ _ _ _ _ => (pg_name (i := 3) nd rfl (.inl rfl))) (fun _ _ _ _ _ => pts_nil) (fun _ _ _ _ _ => (pe_ix ix_tup (pe_def D6 hr (by decide) (by rfl) pass0 (pa_cons (pe_ix ix_tup (pv 3) pe_int (fun _ _ => rfl)) (pa_cons (pe_ix ix_tup (pv 3) pe_int (fun _ _ => rfl)) pa_nil))) pe_int (fun _ _ => rfl))))) pa_nil)))
      (pss_cons (ps_for PassesOwn.never rfl (pi_range1 (by rfl) B.range (pa_cons pe_int pa_nil)) (pg_name (i := 2) nd rfl (.inr rfl)) (pss_one (ps_if (pt_val (pe_callB (cr_all rfl) (by rfl) B.all PyProof.Rows.boot_all (pa_cons (pe_lc (own := [("_law_row", 3)]) (te := tCall spLF [] E0 (tCons (tVar 3) (tCons (tVar 2) (tCons (tVar 1) tNil)))) rfl nd (pi_list (pv 0)) blkLe2 (fun _ _ _ _ _ => (pg_name (i := 3) nd rfl (.inl rfl))) (fun _ _ _ _ _ => pts_nil) (fun _ _ _ _ _ => (pe_def DFt hr (by decide) (by rfl) pass0 (pa_cons (pv 3) (pa_cons (pv 2) (pa_cons (pv 1) pa_nil)))))) pa_nil))) (pss_one (ps_ret (pe_tup (pa_cons (pe_callB (call_max2 rfl) (by rfl) B.max (by decide +kernel) (pa_cons (pv 2) (pa_cons (pe_callTy call_int1 (by rfl) B.int (by decide +kernel) (pa_cons (pe_cmpR op_eq (pv 1) pe_int (nomark _)) pa_nil)) pa_nil))) (pa_cons (pv 1) pa_nil))))) pss_nil)))
      (pss_one (ps_ret pe_non))), ?_⟩
    have lx := hE.len
    have lw := hW.1
    refine ⟨by show 1 ≤ sizeLine; decide, fun z0 nz => ?_⟩
    have s1 := same_new (o := HO.lst [.int 0]) nz
    have ez : upd H z0 (HO.lst [.int 0]) z0 = some (.lst [.int 0]) := upd_same
    generalize upd H z0 (HO.lst [.int 0]) = H1 at s1 ez ⊢
    have hl1 := s1 _ _ hl
    refine ⟨_, rfl, l, rfl, ⟨_, SqL.of hl1⟩, fun D nD => lc_list (K := K) (xs := xs) (fun i H' => Same H1 H' ∧ H1 D = none ∧ H' D = some (.lst (((ws.take i).map Prod.snd).map fun n => V.int (n : Nat)))) ⟨same_new nD, nD, by rw [List.take_zero]; exact upd_same⟩ (fun i H' _ z => SqL.of (z.1 _ _ hl1)) ?_ ?_⟩
    · rintro i x H3 hx ⟨s2, nD, hD⟩
      obtain ⟨e, he, r⟩ := hE.get hx
      obtain ⟨a, rfl, ea⟩ := (r.same s1).same s2
      obtain ⟨b1, b2⟩ := hb e (List.mem_of_getElem? he)
      have hi : i < rs.length := (List.getElem?_eq_some_iff.mp he).1
      dsimp only [gName, List.set]
      refine ⟨rfl, ?_⟩
      unfold tYes
      dsimp only
      rw [if_pos rfl]
      refine ⟨_, rfl, a, _, 0, _, rfl, rfl, SqT.of ea, rfl, _, rfl, a, _, 1, _, rfl, rfl, SqT.of ea, rfl, e.1, e.2, rfl, up_two b1 (by decide), by omega, fun u' s' x lw' nx => ?_⟩
      have s3 := same_new (o := HO.tup [.int u', .int s']) nx
      have hw := hW.step he lw'
      refine ⟨x, _, 1, _, rfl, rfl, SqT.of upd_same, rfl, ?_⟩
      refine ⟨_, s3 _ _ hD, ?_, ?_, nD, ?_⟩
      · rw [List.length_map, List.length_map, List.length_take]
        have := sizeLine_eq
        omega
      · intro b o eb
        rw [upd_ne (ne_of_none eb nD)]
        exact s3 _ _ (s2 _ _ eb)
      · rw [upd_same, List.take_succ, hw]
        simp
    rintro H3 ⟨s2, nD, hD⟩
    rw [show ws.take xs.length = ws by rw [lx, lw]; exact List.take_length] at hD
    refine ⟨z0, D, _, _, rfl, rfl, s2 _ _ ez, hD, ?_, fun p np => ?_⟩
    · rw [List.length_map, List.length_map]
      show 1 + ws.length ≤ sizeLine
      have := sizeLine_eq
      omega
    have s3 := same_new (o := HO.lst ([.int 0] ++ ((ws.map Prod.snd).map fun n => V.int (n : Nat)))) np
    have mc : ∀ k : Int, k ∈ 0 :: ((ws.map Prod.snd).map fun n : Nat => (n : Int)) → (∀ y, y ∈ 0 :: ((ws.map Prod.snd).map fun n : Nat => (n : Int)) → y ≤ k) → k = c := by
      intro k hk hy
      obtain ⟨c1, c2⟩ := hc
      have k0 := hy 0 (List.mem_cons_self ..)
      have kc : (c : Int) ≤ k := by
        rcases c2 with z | z
        · omega
        · exact hy _ (List.mem_cons_of_mem _ (List.mem_map_of_mem (f := fun n : Nat => (n : Int)) z))
      rcases List.mem_cons.mp hk with z | z
      · omega
      · obtain ⟨n, hn, rfl⟩ := List.mem_map.mp z
        have := c1 n hn
        omega
    refine ⟨p, 0 :: ((ws.map Prod.snd).map fun n : Nat => (n : Int)), rfl, ?_, Nat.succ_pos _, fun k hk hy => ?_⟩
    · refine SqL.of ?_
      rw [upd_same]
      simp
    obtain rfl := mc k hk hy
    clear mc hk hy
    have s5 := (s1.trans s2).trans s3
    generalize upd H3 p _ = H4 at s3 s5 ⊢
    dsimp only [gName, List.set]
    have hl4 := s3 _ _ (s2 _ _ hl1)
    have hE4 := hE.mono fun _ _ z => z.same s5
    have allI : ∀ i : Nat, (ws.map fun r => fitB r.1 r.2 i c).all id = decide (m ≤ i) := by
      intro i
      obtain ⟨m1, m2⟩ := hm
      obtain ⟨c1, _⟩ := hc
      rw [List.all_map]
      by_cases h : m ≤ i
      · rw [decide_eq_true h]
        refine List.all_eq_true.mpr fun r hr => ?_
        have w1 := m1 _ (List.mem_map_of_mem (f := fun r : Int × Nat => wfig r.1 r.2) hr)
        have w2 := c1 _ (List.mem_map_of_mem (f := Prod.snd) hr)
        show fitB r.1 r.2 i c = true
        unfold fitB
        rw [decide_eq_true w2, Bool.true_and]
        exact decide_eq_true (wfig_le.mp (Nat.le_trans w1 h))
      · rw [decide_eq_false h]
        refine Bool.eq_false_iff.mpr fun z => h ?_
        rcases m2 with z0 | z0
        · omega
        · obtain ⟨r, hr, rfl⟩ := List.mem_map.mp z0
          have y : fitB r.1 r.2 i c = true := List.all_eq_true.mp z r hr
          unfold fitB at y
          exact wfig_le.mpr (of_decide_eq_true (Bool.and_eq_true_iff.mp y).2)
    refine ⟨_, rfl, by decide, by decide, for_range (lo := 0) (n := 70) (fun i σ H' => (∃ y2 y3 : Option V, σ = [some (.ref l), some (.int c), y2, y3]) ∧ Same H4 H' ∧ i ≤ m) ⟨⟨none, none, rfl⟩, Same.refl _, Nat.zero_le _⟩ ?_ ?_⟩
    · rintro i σ H5 hi ⟨⟨y2, y3, rfl⟩, s6, him⟩
      dsimp only [gName, List.set]
      have hl5 := s6 _ _ hl4
      refine ⟨_, rfl, l, rfl, ⟨_, SqL.of hl5⟩, fun D2 nD2 => lc_list (K := K) (xs := xs) (fun k H' => Same H5 H' ∧ H5 D2 = none ∧ H' D2 = some (.lst (((ws.take k).map fun r => fitB r.1 r.2 i c).map V.bl))) ⟨same_new nD2, nD2, by rw [List.take_zero]; exact upd_same⟩ (fun k H' _ z => SqL.of (z.1 _ _ hl5)) ?_ ?_⟩
      · rintro k x H6 hx ⟨s7, nD2, hD2⟩
        obtain ⟨e, he, r⟩ := hE4.get hx
        obtain ⟨a, rfl, ea⟩ := (r.same s6).same s7
        obtain ⟨b1, b2⟩ := hb e (List.mem_of_getElem? he)
        have hi : k < rs.length := (List.getElem?_eq_some_iff.mp he).1
        dsimp only [gName, List.set]
        refine ⟨rfl, ?_⟩
        unfold tYes
        dsimp only
        rw [if_pos rfl]
        refine ⟨_, rfl, _, rfl, _, rfl, a, e.1, e.2, i, c, by rw [List.append_nil, show (0 : Int) + (i : Int) = (i : Int) by omega], ea, b1, by omega, fun u' s' H7 lw' s8 => ?_⟩
        have hw := hW.step he lw'
        refine ⟨_, s8 _ _ hD2, ?_, ?_, nD2, ?_⟩
        · rw [List.length_map, List.length_map, List.length_take]
          have := sizeLine_eq
          omega
        · intro b o eb
          rw [upd_ne (ne_of_none eb nD2)]
          exact s8 _ _ (s7 _ _ eb)
        · rw [upd_same, List.take_succ, hw]
          simp
      rintro H6 ⟨s7, nD2, hD2⟩
      rw [show ws.take xs.length = ws by rw [lx, lw]; exact List.take_length] at hD2
      refine ⟨D2, _, rfl, SqL.of hD2, _, rfl, ?_⟩
      rw [allI i]
      refine ite2 (fun g => ?_) (fun g => ?_)
      · have g : m ≤ i := of_decide_eq_true g
        obtain rfl : m = i := by omega
        refine ⟨_, rfl, _, rfl, rfl, .inr ⟨_, rfl, _, _, rfl, _, rfl, by show 2 ≤ sizeLine; decide, fun r nr => ?_⟩⟩
        refine q r _ (((s5.trans s6).trans s7).trans (same_new nr)) ?_
        rw [upd_same]
        have e : (if (if decide (V.int (c : Int) = V.int 0) = true then (1 : Int) else 0) > 0 + (m : Int) then (if decide (V.int (c : Int) = V.int 0) = true then (1 : Int) else 0) else 0 + (m : Int)) = ((max m (if c = 0 then 1 else 0) : Nat) : Int) := by
          by_cases z : c = 0
          · have a : decide (V.int (c : Int) = V.int 0) = true := decide_eq_true (by rw [z]; rfl)
            rw [if_pos a, if_pos z]
            split <;> omega
          · have a : ¬ decide (V.int (c : Int) = V.int 0) = true := fun y => z (by have := V.int.inj (of_decide_eq_true y); omega)
            rw [if_neg a, if_neg z]
            split <;> omega
        exact congrArg (fun k : Int => some (HO.tup [.int k, .int c])) e
      · have g : ¬ m ≤ i := fun y => g (decide_eq_true y)
        exact ⟨⟨_, _, rfl⟩, s6.trans s7, by omega⟩
    · rintro σ H5 ⟨_, _, z⟩
      omega
end
end K09

/-! k09: the law: shapes. -/
namespace K09
open PySem PySem.Spec PyProof.Rows L2 LamX NdefX Own
abbrev sSR : Stmt := topS 46
abbrev nSR : List Str := ["_law_pen", "_law_whole", "_law_scale", "_law_shape_here", "_law_most", "_law_row", "_law_rows", "_law_told_here", "_law_k"]
theorem blkSR1 : BlkOk nSR (defScope sSR) (lcScope (asgV (inD sSR 3))) [("_law_k", 8)] := blkOk_by (by decide +kernel)
theorem blkSR2 : BlkOk nSR (defScope sSR) (lcScope (argN 2 (argN 1 (asgV (inD sSR 4))))) [("_law_row", 5)] := blkOk_by (by decide +kernel)
theorem blkSR3 : BlkOk nSR (defScope sSR) (lcScope (argN 0 (argN 0 (asgV (inD sSR 5))))) [("_law_row", 5)] := blkOk_by (by decide +kernel)
section
variable {P : Program} {w : World} {K : PySem.W.Frag} {mg : Str → Option Value} {base : Heap} {C CN W S Co : Addr}
theorem odd_bl {H : Hp} (b : Bool) : Odd H (.bl b) := .flat rfl
theorem two_neT {H : Hp} {Q : VK} {r r' : Addr} {u v : Int} (h1 : H r = some (.tup [.int u, .int v])) (h2 : H r' = some (.tup [.int u, .int v])) (q : Q (.bl false) H) : rNeD K (.ref r) (.ref r') H Q := by
  refine ⟨_, _, dp_two h1, dp_two h2, sh_two _ _, sh_two _ _, ?_⟩
  rw [SeqAt.eqv_refl _ (SeqAt.canLay_of_shaped (sh_two _ _))]
  exact q
theorem two_eqT {H : Hp} {Q : VK} {r r' : Addr} {u v : Int} (h1 : H r = some (.tup [.int u, .int v])) (h2 : H r' = some (.tup [.int u, .int v])) (q : Q (.bl true) H) : rEqD K (.ref r) (.ref r') H Q := by
  refine ⟨_, _, dp_two h1, dp_two h2, sh_two _ _, sh_two _ _, ?_⟩
  rw [SeqAt.eqv_refl _ (SeqAt.canLay_of_shaped (sh_two _ _))]
  exact q
theorem RowT.put {H : Hp} {r : V} {e : Int × Nat} {D : Addr} {l : List V} {o : HO} (h : RowT H r e) (hD : H D = some (.lst l)) : RowT (upd H D o) r e := by
  obtain ⟨a, e1, e2⟩ := h
  exact ⟨a, e1, (upd_ne (ne_of e2 hD (by intro z; cases z))).trans e2⟩
theorem RowW.put {H : Hp} {r : V} {e : Int × Nat} {D : Addr} {l : List V} {o : HO} (h : RowW W H r e) (hD : H D = some (.lst l)) : RowW W (upd H D o) r e := by
  obtain ⟨a, e1, dx, e2⟩ := h
  exact ⟨a, e1, dx, (upd_ne (ne_of e2 hD (by intro z; cases z))).trans e2⟩
theorem LowsOf.snoc {rs ws : List (Int × Nat)} {e : Int × Nat} {u' : Int} {s' : Nat} (h : LowsOf rs ws) (l : IsLow e.1 e.2 u' s') : LowsOf (rs ++ [e]) (ws ++ [(u', s')]) := by
  obtain ⟨h1, h2⟩ := h
  refine ⟨by rw [List.length_append, List.length_append, h1]; rfl, fun i x hx => ?_⟩
  by_cases hi : i < rs.length
  · rw [List.getElem?_append_left hi] at hx
    obtain ⟨e', a, b⟩ := h2 i x hx
    exact ⟨e', by rw [List.getElem?_append_left (by omega)]; exact a, b⟩
  · rw [List.getElem?_append_right (by omega)] at hx
    have z : i - rs.length = 0 := by
      have := (List.getElem?_eq_some_iff.mp hx).1
      simp at this
      omega
    rw [z] at hx
    obtain rfl : e = x := by simpa using hx
    exact ⟨(u', s'), by rw [List.getElem?_append_right (by omega), ← h1, z]; rfl, l⟩
theorem LowsOf.mem {rs ws : List (Int × Nat)} {e' : Int × Nat} (h : LowsOf rs ws) (m : e' ∈ ws) : ∃ e ∈ rs, IsLow e.1 e.2 e'.1 e'.2 := by
  obtain ⟨i, hi, rfl⟩ := List.mem_iff_getElem.mp m
  have hr : i < rs.length := by rw [h.1]; exact hi
  obtain ⟨x, a, b⟩ := h.2 i rs[i] (List.getElem?_eq_getElem hr)
  rw [List.getElem?_eq_getElem hi] at a
  obtain rfl := Option.some.inj a
  exact ⟨_, List.getElem_mem hr, b⟩
theorem div50 {u : Int} : (u / (10 : Int) ^ 50).natAbs ≤ u.natAbs := Int.natAbs_ediv_le_natAbs _ _
theorem ten80 {n c : Nat} (hn : n ≤ 40) (hc : c ≤ 40) : ((10 : Int) ^ (n + c)).natAbs < 2 ^ 270 := by
  have M0 := ten_pos (n + c)
  have := ten_mono (show n + c ≤ 80 by omega)
  have e : (10 : Int) ^ 80 < 2 ^ 270 := by decide +kernel
  have e2 : ((2 : Int) ^ 270) = ((2 ^ 270 : Nat) : Int) := by decide +kernel
  omega
theorem scSR : FnScope ["_law_pen", "_law_whole", "_law_scale", "_law_shape_here", "_law_most", "_law_row", "_law_rows", "_law_told_here", "_law_k"] ["_law_pen", "_law_whole", "_law_scale"] (defScope sSR) := ⟨rfl, rfl, rfl, by decide +kernel, rfl, by decide +kernel, by decide +kernel⟩
def spSR : Sp := fun vs H Q _ => ∃ (d : Addr) (n c : Nat) (B : Int), vs = [.ref d, .int n, .int c] ∧ n ≤ 40 ∧ c ≤ 40 ∧ ¬ (n = 0 ∧ c = 0) ∧ Pen H d B ∧ B ≤ 600000000 ∧ ∀ H', KeepP d H H' → Pen H' d (B + 20000) → Q (.bl true) H'
theorem ok_sR (A : At K mg "_law_shape_right" sSR ["_law_pen", "_law_whole", "_law_scale"]) (B : Blt mg) (T : WorthC K mg W) (TS : ShapeC K mg S) (MS : SMk P w K mg base C CN S) (SW : SWid P w K mg base S)
    (MF : SMeth P w K mg base S "fits" 11 ["self", "worth"] (spFits C W S)) (MG : SMeth P w K mg base S "greatest" 13 ["self"] (spGrt W S)) (DLs : DefOk P w K mg base (L2.CX P w) "least_shape" 12 ["worths"] (spLs C W S))
    (D1 : DefOk P w K mg base CX0 "_law_draw" 1 ["_law_pen", "_law_span"] spDraw) (D2 : DefOk P w K mg base CX0 "_law_pick" 2 ["_law_pen", "_law_some"] spPick) (D4 : DefOk P w K mg base CX0 "_law_ten" 1 ["_law_number"] spTen) (D5 : DefOk P w K mg base CX0 "_law_drawn" 3 ["_law_pen"] spDrawn) (D6 : DefOk P w K mg base CX0 "_law_low" 2 ["_law_units", "_law_scale"] spLow)
    (D7 : DefOk P w K mg base CX0 "_law_told" 1 ["_law_worth_here"] (spTold W)) (D8 : DefOk P w K mg base CX0 "_law_worth" 13 ["_law_row"] (spWth W)) (DSm : DefOk P w K mg base CX0 "_law_same" 1 ["_law_one", "_law_other"] spSame) (DFt : DefOk P w K mg base CX0 "_law_fits" 3 ["_law_row", "_law_whole", "_law_scale"] spLF)
    (DSe : DefOk P w K mg base CX0 "_law_seen" 1 ["_law_shape_here"] (spSeen S)) (DA : DefOk P w K mg base CX0 "_law_asked" 4 ["_law_pen", "_law_whole", "_law_scale"] spAsk) (DLe : DefOk P w K mg base CX0 "_law_least" 4 ["_law_rows"] spLst) : DefOk P w K mg base CX0 "_law_shape_right" 15 ["_law_pen", "_law_whole", "_law_scale"] spSR := by
  refine A.ok fun f fd F => F.ok scSR (fun vs H Q E h => ?_) (fun cdv A outer s0 H vs Q E hr h => ?_)
  · obtain ⟨d, n, c, B, rfl, _⟩ := h
    rfl
  · obtain ⟨d, n, c, B0, rfl, hn, hc, nz, hp, hB, q⟩ := h
    have nd := scSR.nd
    obtain ⟨fF, fdF, mF, FF, bF⟩ := MF.ex
    obtain ⟨fG, fdG, mG, FG, bG⟩ := MG.ex
    refine ⟨_, pss_cons (ps_par (i := 3) (j := 4) (by rfl) nd rfl rfl (by decide) rfl rfl (pa_cons (pe_shape (C := C) (CN := CN) (E := E0) MS TS hr (by decide) (by rfl) passL (pa_cons (pv 1) (pa_cons (pv 2) pa_nil))) (pa_cons (pe_tup (pa_cons (pe_op op_sub (pe_def D4 hr (by decide) (by rfl) pass0 (pa_cons (pe_op op_add (pv 1) (pv 2)) pa_nil)) pe_int) (pa_cons (pv 2) pa_nil))) pa_nil)) (by rfl))
      (pss_cons (ps_for PassesOwn.never rfl (pi_list (pe_def DA hr (by decide) (by rfl) pass0 (pa_cons (pv 0) (pa_cons (pv 1) (pa_cons (pv 2) pa_nil))))) (pg_name (i := 5) nd rfl (.inl rfl)) (pss_one (ps_if (pt_not (pt_val (pe_def DSm hr (by decide) (by rfl) pass0 (pa_cons (pe_meth (E := E0) (pv 3) TS.cls mF FF (hr.mono (by decide)) bF .nil passL (pa_cons (pe_def D8 hr (by decide) (by rfl) pass0 (pa_cons (pv 5) pa_nil)) pa_nil)) (pa_cons (pe_def DFt hr (by decide) (by rfl) pass0 (pa_cons (pv 5) (pa_cons (pv 1) (pa_cons (pv 2) pa_nil)))) pa_nil))))) (pss_one (ps_ret pe_bl)) pss_nil)))
      (pss_cons (ps_if (PW.pt (pw_or (pt_cmpR (op_neD hr.units) (pe_def D7 hr (by decide) (by rfl) pass0 (pa_cons (pe_meth0 (E := E0) (pv 3) TS.cls mG FG (hr.mono (by decide)) bG .nil passL) pa_nil)) (pe_def D6 hr (by decide) (by rfl) pass0 (pa_cons (pe_ix ix_tup (pv 4) pe_int (fun _ _ => rfl)) (pa_cons (pe_ix ix_tup (pv 4) pe_int (fun _ _ => rfl)) pa_nil))) (nomark _)) (pw_or1 (pt_not (pt_val (pe_def DSm hr (by decide) (by rfl) pass0 (pa_cons (pe_width SW TS hr (by decide) (pv 3) (by rfl)) (pa_cons (pe_op op_add (pv 1) (pv 2)) pa_nil)))))))) (pss_one (ps_ret pe_bl)) pss_nil)
      (pss_cons (ps_setLc (i := 6) (own := [("_law_k", 8)]) (te := tCall spDrawn [] E0 (tCons (tVar 0) tNil)) rfl nd rfl rfl rfl (pi_range1 (by rfl) B.range (pa_cons (pe_def D1 hr (by decide) (by rfl) pass0 (pa_cons (pv 0) (pa_cons pe_int pa_nil))) pa_nil)) blkSR1 (fun _ _ _ _ _ => (pg_name (i := 8) nd rfl (.inl rfl))) (fun _ _ _ _ _ => pts_nil) (fun _ _ _ _ _ => (pe_def D5 hr (by decide) (by rfl) pass0 (pa_cons (pv 0) pa_nil))))
      (pss_cons (ps_set (i := 6) nd rfl (.inl rfl) (pe_def D2 hr (by decide) (by rfl) pass0 (pa_cons (pv 0) (pa_cons (pe_lst (pa_cons (pv 6) (pa_cons (pv 6) (pa_cons (pe_lc (own := [("_law_row", 5)]) (te := tTup (tCons (tOp (rI CDivW fun i j => .int (i / j)) (tOp (rIxT K) (tVar 5) (tC (.int 0))) (tCall spTen [] E0 (tCons (tC (.int 50)) tNil))) (tCons (tOp (rIxT K) (tVar 5) (tC (.int 1))) tNil))) rfl nd (pi_list (pv 6)) blkSR2 (fun _ _ _ _ _ => (pg_name (i := 5) nd rfl (.inl rfl))) (fun _ _ _ _ _ => pts_nil) (fun _ _ _ _ _ => (pe_tup (pa_cons (pe_op op_fdivW (pe_ix ix_tup (pv 5) pe_int (fun _ _ => rfl)) (pe_def D4 hr (by decide) (by rfl) pass0 (pa_cons pe_int pa_nil))) (pa_cons (pe_ix ix_tup (pv 5) pe_int (fun _ _ => rfl)) pa_nil))))) pa_nil)))) pa_nil))))
      (pss_cons (ps_set (i := 7) nd rfl (.inl rfl) (pe_def DSe hr (by decide) (by rfl) pass0 (pa_cons (pe_def (E := E0) DLs hr (by decide) (by rfl) passL (pa_cons (pe_lc (own := [("_law_row", 5)]) (te := tCall (spWth W) [] E0 (tCons (tVar 5) tNil)) rfl nd (pi_list (pv 6)) blkSR3 (fun _ _ _ _ _ => (pg_name (i := 5) nd rfl (.inl rfl))) (fun _ _ _ _ _ => pts_nil) (fun _ _ _ _ _ => (pe_def D8 hr (by decide) (by rfl) pass0 (pa_cons (pv 5) pa_nil)))) pa_nil)) pa_nil)))
      (pss_one (ps_ret (pe_and (pe_cmpR (op_eqD hr.units) (pe_def DSe hr (by decide) (by rfl) pass0 (pa_cons (pv 3) pa_nil)) (pe_tup (pa_cons (pv 1) (pa_cons (pv 2) pa_nil))) (nomark _)) (pe_one (pe_cmpR (op_eqD hr.units) (pv 7) (pe_def DLe hr (by decide) (by rfl) pass0 (pa_cons (pv 6) pa_nil)) (nomark _))))))))))), ?_⟩
    have M1 := ten80 hn hc
    have M0 := ten_pos (n + c)
    refine ⟨_, rfl, _, rfl, ?_⟩
    dsimp only [tNil]
    try rw [List.append_nil]
    refine shape_of nz fun sh H1 s1 _ hs => ?_
    refine ⟨_, rfl, _, rfl, _, _, rfl, rfl, n + c, rfl, by omega, _, _, rfl, rfl, _, rfl, by show 2 ≤ sizeLine; decide, fun mo nm => ⟨_, _, rfl, ?_⟩⟩
    have s2 := same_new (o := HO.tup [.int ((10 : Int) ^ (n + c) - 1), .int c]) nm
    have em : upd H1 mo (HO.tup [.int ((10 : Int) ^ (n + c) - 1), .int c]) mo = some (.tup [.int ((10 : Int) ^ (n + c) - 1), .int c]) := upd_same
    have hs := hs.same s2
    have s12 := s1.trans s2
    have p2 := hp.same s12
    generalize upd H1 mo (HO.tup [.int ((10 : Int) ^ (n + c) - 1), .int c]) = H2 at em hs s12 p2 ⊢
    clear s2 nm s1
    refine ⟨_, rfl, _, rfl, _, rfl, d, n, c, _, rfl, hn, hc, nz, p2, by omega, fun l xs rs H3 k3 p3 el hE hb => ?_⟩
    have pd : ∀ {x : Addr} {o : HO}, (∀ z, o ≠ .dK z) → H2 x = some o → x ≠ d := fun {x o} ho hx => by
      obtain ⟨pp, ns, cc, ll, ed, _⟩ := p2.ex
      exact ne_of hx ed (ho _)
    have em3 := k3 _ _ (pd (by intro z y; cases y) em) em
    have hs3 : SAt S H3 sh n c := by
      obtain ⟨dx, ea⟩ := hs
      exact ⟨dx, k3 _ _ (pd (by intro z y; cases y) ea) ea⟩
    have k3 := (KeepP.same s12).trans k3
    clear em hs p2 pd s12
    refine ⟨l, rfl, ⟨_, SqL.of el⟩, for_list (K := K) (xs := xs) (fun i σ H' => (∃ y5 : Option V, σ = [some (.ref d), some (.int n), some (.int c), some (.ref sh), some (.ref mo), y5, none, none, none]) ∧ Same H3 H') ⟨⟨_, rfl⟩, Same.refl _⟩ (fun i σ H' _ z => SqL.of (z.2 _ _ el)) ?_ ?_⟩
    · rintro i x σ H4 hx ⟨⟨y5, rfl⟩, s4⟩
      obtain ⟨e, he, r⟩ := hE.get hx
      obtain ⟨a, rfl, ea⟩ := r.same s4
      obtain ⟨b1, b2⟩ := hb e (List.mem_of_getElem? he)
      dsimp only [gName, List.set]
      obtain ⟨d1, e1⟩ := id (hs3.same s4)
      refine ⟨_, rfl, sh, d1, _, rfl, e1, sLk_no _ _ (by decide +kernel) (by decide +kernel), _, rfl, a, e.1, e.2, rfl, ea, by omega, fun u' s' p H5 lw s5 _ wp => ?_⟩
      refine ⟨sh, n, c, .ref p, rfl, (hs3.same s4).same s5, .inr ⟨p, u', s', rfl, wp, by have := lw.le; omega, ?_⟩⟩
      refine ⟨_, rfl, _, rfl, _, rfl, a, e.1, e.2, n, c, rfl, s5 _ _ ea, up_two b1 (by decide), by omega, fun u2 s2 H6 lw2 s6 => ?_⟩
      obtain ⟨rfl, rfl⟩ := low_eq lw lw2
      refine .inr ⟨.bl (fitB u' s' n c), rfl, odd_bl _, ⟨_, rfl, iteF ?_⟩⟩
      exact ⟨⟨_, rfl⟩, (s4.trans s5).trans s6⟩
    rintro σ H4 ⟨⟨y5, rfl⟩, s4⟩
    have em4 := s4 _ _ em3
    have hs4 := hs3.same s4
    have k4 := k3.trans (KeepP.same s4)
    have p4 := p3.same s4
    clear hE hb el k3 p3 em3 hs3
    obtain ⟨d1, e1⟩ := id hs4
    refine ⟨_, rfl, sh, d1, _, rfl, e1, sLk_no _ _ (by decide +kernel) (by decide +kernel), sh, n, c, rfl, hs4, by omega, by omega, fun u1 v1 p1 H5 l1 s5 _ w1 => ?_⟩
    refine ⟨p1, u1, v1, rfl, w1, fun r5 H6 s6 _ e6 => ?_⟩
    have em6 := s6 _ _ (s5 _ _ em4)
    refine ⟨_, rfl, mo, _, 0, _, rfl, rfl, SqT.of em6, rfl, _, rfl, mo, _, 1, _, rfl, rfl, SqT.of em6, rfl, (10 : Int) ^ (n + c) - 1, c, rfl, up_two (show ((10 : Int) ^ (n + c) - 1).natAbs < 2 ^ 270 by omega) (by decide), by omega, fun u2 v2 r7 l2 n7 => ?_⟩
    obtain ⟨rfl, rfl⟩ := low_eq l1 l2
    have s7 := same_new (o := HO.tup [.int u1, .int v1]) n7
    have k7 := k4.trans (KeepP.same ((s5.trans s6).trans s7))
    have p7 := p4.same ((s5.trans s6).trans s7)
    have hs7 := ((hs4.same s5).same s6).same s7
    refine two_neT (K := K) (s7 _ _ e6) upd_same ⟨_, rfl, iteF ?_⟩
    generalize upd H6 r7 _ = H7 at k7 p7 hs7 ⊢
    clear s4 s5 s6 s7 hs4 em6 em4 e6 p4 k4 w1 n7 l1 l2 e1
    obtain ⟨d1, e1⟩ := id hs7
    refine ⟨_, rfl, sh, d1, _, rfl, e1, sh, n, c, rfl, hs7, _, rfl, _, rfl, _, _, rfl, rfl, .inl ⟨_, _, rfl, ?_⟩⟩
    rw [decide_eq_true (by omega)]
    refine ⟨_, rfl, iteF ?_⟩
    refine ⟨_, rfl, d, 7, _, rfl, p7, by omega, by decide, by decide, fun kz H8 a1 a2 k8 p8 => ?_⟩
    have hs8 : SAt S H8 sh n c := by
      obtain ⟨pp, ns, cc, ll, ed, _⟩ := p7.ex
      exact ⟨d1, k8 _ _ (ne_of e1 ed (by intro z; cases z)) e1⟩
    have k8 := k7.trans k8
    clear hs7 e1 k7 p7
    refine ⟨kz, rfl, by omega, by omega, fun D nD => lc_range (lo := 0) (n := kz.toNat) (fun i H' => KeepP d H8 H' ∧ Pen H' d (B0 + 3000 + 1 + 1000 * i) ∧ OffP H' d D ∧ H8 D = none ∧ ∃ (acc : List V) (rs : List (Int × Nat)), H' D = some (.lst acc) ∧ Ents (RowT H') acc rs ∧ rs.length = i ∧ ∀ r ∈ rs, r.1.natAbs < 2 ^ 202 ∧ r.2 ≤ 40)
      ⟨KeepP.new nD, (p8.same (same_new nD)).mono (by omega), (OffP.of p8 nD).at_ (by obtain ⟨pp, ns, cc, ll, ed, _⟩ := p8.ex; exact ne_of_none ed nD), nD, [], [], upd_same, .nil, rfl, fun r hr => by cases hr⟩ ?_ ?_⟩
    · rintro i H9 hi ⟨k9, p9, off, nD, acc, rs, hD, hA, hlen, hb⟩
      dsimp only [gName, List.set]
      refine ⟨rfl, ?_⟩
      unfold tYes
      dsimp only
      rw [if_pos rfl]
      refine ⟨_, rfl, d, _, rfl, p9, by omega, fun u s r H10 bu bs k10 p10 er ner => ?_⟩
      have hD10 := k10.lst p9 hD
      have off10 := off.keep p9 k10
      have dD := p10.ne_lst hD10
      refine ⟨acc, hD10, ?_, (k9.trans k10).over nD, (Pen.put p10 hD10 off10).mono (by omega), off10.at_ dD, nD, acc ++ [.ref r], rs ++ [(u, s)], upd_same, ?_, ?_, ?_⟩
      · have := hA.len
        have := sizeLine_eq
        omega
      · exact Ents.snoc (hA.mono fun _ _ z => (z.keep p9 k10).put hD10) (RowT.put ⟨r, rfl, er⟩ hD10)
      · rw [List.length_append, hlen]
        rfl
      · intro x hx
        rcases List.mem_append.mp hx with z | z
        · exact hb x z
        · obtain rfl := List.mem_singleton.mp z
          exact ⟨bu, bs⟩
    rintro H9 ⟨k9, p9, off, nD, acc, rs, hD, hA, hlen, hb⟩
    have hs9 : SAt S H9 sh n c := by
      obtain ⟨pp, ns, cc, ll, ed, _⟩ := p8.ex
      obtain ⟨dx, ea⟩ := hs8
      exact ⟨dx, k9 _ _ (ne_of ea ed (by intro z; cases z)) ea⟩
    have k9 := k8.trans k9
    clear off nD k8 p8 hs8
    dsimp only [gName, List.set]
    have lA := hA.len
    refine ⟨_, rfl, _, rfl, _, rfl, _, rfl, D, rfl, ⟨_, SqL.of hD⟩, fun D2 nD2 => lc_list (K := K) (xs := acc) (fun i H' => Same H9 H' ∧ H9 D2 = none ∧ ∃ acc2, H' D2 = some (.lst acc2) ∧ Ents (RowT H') acc2 ((rs.take i).map fun e => (e.1 / (10 : Int) ^ 50, e.2))) ⟨same_new nD2, nD2, [], upd_same, by rw [List.take_zero]; exact .nil⟩ (fun i H' _ z => SqL.of (z.1 _ _ hD)) ?_ ?_⟩
    · rintro i x C1 hx ⟨s5, nD2, acc2, hD2, hA2⟩
      obtain ⟨e, he, r⟩ := hA.get hx
      obtain ⟨a, rfl, ea⟩ := r.same s5
      have hi : i < rs.length := (List.getElem?_eq_some_iff.mp he).1
      dsimp only [gName, List.set]
      refine ⟨rfl, ?_⟩
      unfold tYes
      dsimp only
      rw [if_pos rfl]
      refine ⟨_, rfl, a, _, 0, _, rfl, rfl, SqT.of ea, rfl, 50, rfl, by decide, _, _, rfl, rfl, wide_div (ten_pos 50) (show ((10 : Int) ^ 50).natAbs < 2 ^ 200 by decide +kernel) (by decide) (by decide), _, rfl, a, _, 1, _, rfl, rfl, SqT.of ea, rfl, by show 2 ≤ sizeLine; decide, fun p np => ?_⟩
      have s6 := same_new (o := HO.tup [.int (e.1 / (10 : Int) ^ 50), .int e.2]) np
      have f6 : RowT (upd C1 p (HO.tup [.int (e.1 / (10 : Int) ^ 50), .int e.2])) (.ref p) (e.1 / (10 : Int) ^ 50, e.2) := ⟨p, rfl, upd_same⟩
      refine ⟨acc2, s6 _ _ hD2, ?_, ?_, nD2, acc2 ++ [.ref p], upd_same, ?_⟩
      · have := hA2.len
        have := sizeLine_eq
        rw [List.length_map, List.length_take] at *
        omega
      · intro b o eb
        rw [upd_ne (ne_of_none eb nD2)]
        exact s6 _ _ (s5 _ _ eb)
      · rw [show (rs.take (i + 1)).map (fun e => (e.1 / (10 : Int) ^ 50, e.2)) = (rs.take i).map (fun e => (e.1 / (10 : Int) ^ 50, e.2)) ++ [(e.1 / (10 : Int) ^ 50, e.2)] by rw [List.take_succ, he]; simp]
        exact Ents.snoc (hA2.mono fun _ _ z => (z.same s6).put (s6 _ _ hD2)) (f6.put (s6 _ _ hD2))
    rintro C1 ⟨s5, nD2, acc2, hD2, hA2⟩
    rw [show rs.take acc.length = rs by rw [lA]; exact List.take_length] at hA2
    refine ⟨by show 3 ≤ sizeLine; decide, fun l3 n3 => ?_⟩
    have s6 := same_new (o := HO.lst [.ref D, .ref D, .ref D2]) n3
    have p6 := p9.same (s5.trans s6)
    have k6 := k9.trans (KeepP.same (s5.trans s6))
    have hs6 := hs9.same (s5.trans s6)
    refine ⟨d, l3, _, _, rfl, upd_same, by simp, by show 3 ≤ 1000; decide, p6, by omega, fun x C2 hx k10 p10 => ?_⟩
    have some' : ∃ (L : Addr) (xs : List V) (rs : List (Int × Nat)), x = .ref L ∧ C2 L = some (.lst xs) ∧ Ents (RowT C2) xs rs ∧ rs.length ≤ 1000 ∧ ∀ r ∈ rs, r.1.natAbs < 2 ^ 202 ∧ r.2 ≤ 40 := by
      simp only [List.mem_cons, List.not_mem_nil, or_false] at hx
      have c1 : x = .ref D ∨ x = .ref D2 := by rcases hx with z | z | z <;> simp [z]
      rcases c1 with rfl | rfl
      · exact ⟨D, acc, rs, rfl, k10.lst p6 (s6 _ _ (s5 _ _ hD)), (hA.mono fun _ _ z => z.same (s5.trans s6)).mono fun _ _ z => z.keep p6 k10, by omega, hb⟩
      · refine ⟨D2, acc2, _, rfl, k10.lst p6 (s6 _ _ hD2), (hA2.mono fun _ _ z => z.same s6).mono fun _ _ z => z.keep p6 k10, by rw [List.length_map]; omega, fun r hr => ?_⟩
        obtain ⟨e, he, rfl⟩ := List.mem_map.mp hr
        obtain ⟨z1, z2⟩ := hb e he
        exact ⟨Nat.lt_of_le_of_lt div50 z1, z2⟩
    have hs10 : SAt S C2 sh n c := by
      obtain ⟨pp, ns, cc, ll, ed, _⟩ := p6.ex
      obtain ⟨dx, ea⟩ := hs6
      exact ⟨dx, k10 _ _ (ne_of ea ed (by intro z; cases z)) ea⟩
    have k10 := k6.trans k10
    clear hA hA2 hD hD2 hs9 hs6 p6 k6 p9 k9 s5 s6 n3 nD2 hx hlen hb lA
    obtain ⟨L, xs, rs, rfl, hL, hE, hlen, hb⟩ := some'
    have lx := hE.len
    dsimp only [gName, List.set]
    refine ⟨_, rfl, L, rfl, ⟨_, SqL.of hL⟩, fun D3 nD3 => lc_list (K := K) (xs := xs) (fun i H' => Same C2 H' ∧ C2 D3 = none ∧ ∃ (acc : List V) (ws : List (Int × Nat)), H' D3 = some (.lst acc) ∧ Ents (RowW W H') acc ws ∧ LowsOf (rs.take i) ws) ⟨same_new nD3, nD3, [], [], upd_same, .nil, by rw [List.take_zero]; exact ⟨rfl, fun i e h => by simp at h⟩⟩ (fun i H' _ z => SqL.of (z.1 _ _ hL)) ?_ ?_⟩
    · rintro i x C3 hx ⟨s5, nD3, acc, ws, hD3, hA3, hW⟩
      obtain ⟨e, he, r⟩ := hE.get hx
      obtain ⟨a, rfl, ea⟩ := r.same s5
      have hi : i < rs.length := (List.getElem?_eq_some_iff.mp he).1
      obtain ⟨b1, b2⟩ := hb e (List.mem_of_getElem? he)
      dsimp only [gName, List.set]
      refine ⟨rfl, ?_⟩
      unfold tYes
      dsimp only
      rw [if_pos rfl]
      refine ⟨_, rfl, a, e.1, e.2, rfl, ea, by omega, fun u' s' p C4 lw s6 _ wp => ?_⟩
      refine ⟨acc, s6 _ _ hD3, ?_, ?_, nD3, acc ++ [.ref p], ws ++ [(u', s')], upd_same, ?_, ?_⟩
      · have := hA3.len
        have := hW.1
        have := sizeLine_eq
        rw [List.length_take] at *
        omega
      · intro b o eb
        rw [upd_ne (ne_of_none eb nD3)]
        exact s6 _ _ (s5 _ _ eb)
      · exact Ents.snoc (hA3.mono fun _ _ z => (z.same s6).put (s6 _ _ hD3)) (RowW.put ⟨p, rfl, wp⟩ (s6 _ _ hD3))
      · rw [show rs.take (i + 1) = rs.take i ++ [e] by rw [List.take_succ, he]; rfl]
        exact hW.snoc lw
    rintro C3 ⟨s5, nD3, acc, ws, hD3, hA3, hW⟩
    rw [show rs.take xs.length = rs by rw [lx]; exact List.take_length] at hW
    have hwb : ∀ r ∈ ws, r.1.natAbs < 2 ^ 202 ∧ r.2 ≤ 40 := fun r hr => by
      obtain ⟨e, he, lw⟩ := hW.mem hr
      obtain ⟨z1, z2⟩ := hb e he
      exact ⟨Nat.lt_of_le_of_lt (low_natA lw) z1, Nat.le_trans lw.le z2⟩
    refine ⟨.ref D3, rfl, .inr ⟨D3, acc, [], ws, rfl, by rw [List.append_nil]; exact hD3, hA3, by rw [← hW.1]; exact hlen, fun r hr => ⟨up_two (hwb r hr).1 (by decide), by have := (hwb r hr).2; omega⟩, .inr ⟨rfl, fun m cc hm hc' a C4 s6 hsa => ?_⟩⟩⟩
    refine ⟨a, _, _, rfl, hsa, fun r C5 s7 _ tw => ?_⟩
    dsimp only [gName, List.set]
    have s57 := (s5.trans s6).trans s7
    refine ⟨_, rfl, sh, n, c, rfl, hs10.same s57, fun r8 C6 s8 _ tw8 => ?_⟩
    refine ⟨_, rfl, _, rfl, by show 2 ≤ sizeLine; decide, fun r9 n9 => ?_⟩
    have s9 := same_new (o := HO.tup [.int n, .int c]) n9
    refine two_eqT (K := K) (s9 _ _ tw8) upd_same ⟨_, rfl, iteT ?_⟩
    have m70 : m < 70 := by
      rcases hm.2 with z | z
      · omega
      · obtain ⟨w, hw, rfl⟩ := List.mem_map.mp z
        have := (hwb w hw).1
        have k : wfig w.1 w.2 ≤ 61 := by
          refine wfig_le.mpr ?_
          have t := ten_mono (show 61 ≤ 61 + w.2 by omega)
          have e : (2 : Int) ^ 202 < (10 : Int) ^ 61 := by decide +kernel
          have e2 : ((2 : Int) ^ 202) = ((2 ^ 202 : Nat) : Int) := by decide +kernel
          have e3 : absZ w.1 = (w.1.natAbs : Int) := by unfold absZ; split <;> omega
          rw [e3]
          omega
        show wfig w.1 w.2 < 70
        omega
    have s59 := (s57.trans s8).trans s9
    refine ⟨_, rfl, _, rfl, L, xs, rs, ws, m, cc, rfl, s59 _ _ hL, hE.mono fun _ _ z => z.same s59, hlen, fun r hr => ⟨up_two (hb r hr).1 (by decide), by have := (hb r hr).2; omega⟩, hW, hm, hc', m70, fun r10 C7 s10 e10 => ?_⟩
    refine two_eqT (K := K) (s10 _ _ (s9 _ _ (s8 _ _ tw))) e10 ?_
    exact q _ (k10.trans (KeepP.same (s59.trans s10))) ((p10.same (s59.trans s10)).mono (by omega))
end
end K09

/-! k09: the law: Columns. -/
namespace K09
open PySem PySem.Spec PyProof.Rows L2 LamX NdefX Own
abbrev sCR : Stmt := topS 47
abbrev nCR : List Str := ["_law_pen", "_law_whole", "_law_scale", "_law_mark", "_law_kind", "_law_most", "_law_first", "_law_low_here", "_law_row", "_law_units", "_law_due", "_law_told_here", "_law_small", "_law_dues", "_law_worth_here"]
theorem LowsOf.uniq {rs ws ws2 : List (Int × Nat)} (a : LowsOf rs ws) (b : LowsOf rs ws2) : ws = ws2 := by
  refine List.ext_getElem (by rw [← a.1, b.1]) fun i h1 h2 => ?_
  have hr : i < rs.length := by rw [a.1]; exact h1
  obtain ⟨x, x1, x2⟩ := a.2 i rs[i] (List.getElem?_eq_getElem hr)
  obtain ⟨y, y1, y2⟩ := b.2 i rs[i] (List.getElem?_eq_getElem hr)
  rw [List.getElem?_eq_getElem h1] at x1
  rw [List.getElem?_eq_getElem h2] at y1
  obtain rfl := Option.some.inj x1
  obtain rfl := Option.some.inj y1
  obtain ⟨z1, z2⟩ := low_eq x2 y2
  exact Prod.ext z1 z2
theorem four_eqT {K : PySem.W.Frag} {H : Hp} {Q : VK} {a b : Addr} {xs ys : List V} {e1 e2 e3 e4 : Int × Nat} (ha : H a = some (.lst xs)) (hb : H b = some (.lst ys)) (hx : Ents (RowT H) xs [e1, e2, e3, e4]) (hy : Ents (RowT H) ys [e1, e2, e3, e4]) (q : Q (.bl true) H) : rEqD K (.ref a) (.ref b) H Q := by
  have key : ∀ {a : Addr} {xs : List V}, H a = some (.lst xs) → Ents (RowT H) xs [e1, e2, e3, e4] → Dp K H (.ref a) (.list [.tuple [.int e1.1, .int e1.2], .tuple [.int e2.1, .int e2.2], .tuple [.int e3.1, .int e3.2], .tuple [.int e4.1, .int e4.2]]) := by
    intro a xs ha hx
    cases hx with
    | cons r1 hx =>
    cases hx with
    | cons r2 hx =>
    cases hx with
    | cons r3 hx =>
    cases hx with
    | cons r4 hx =>
    cases hx
    obtain ⟨a1, rfl, f1⟩ := r1
    obtain ⟨a2, rfl, f2⟩ := r2
    obtain ⟨a3, rfl, f3⟩ := r3
    obtain ⟨a4, rfl, f4⟩ := r4
    exact .lst (SqL.of ha) (.cons (dp_two f1) (.cons (dp_two f2) (.cons (dp_two f3) (.cons (dp_two f4) .nil))))
  have sh : SeqAt.shaped (.list [.tuple [.int e1.1, .int e1.2], .tuple [.int e2.1, .int e2.2], .tuple [.int e3.1, .int e3.2], .tuple [.int e4.1, .int e4.2]]) = true := by
    unfold SeqAt.shaped
    simp [PyData.canLay0, PyData.canLayAll0, PyData.depth, PyData.depthAll]
  refine ⟨_, _, key ha hx, key hb hy, sh, sh, ?_⟩
  rw [SeqAt.eqv_refl _ (SeqAt.canLay_of_shaped sh)]
  exact q
def cmpL : Expr → Expr
  | .Compare a _ _ _ => a
  | _ => junkE
theorem blkCR1 : BlkOk nCR (defScope sCR) (lcScope (asgV (inD sCR 5))) [("_law_units", 9)] := blkOk_by (by decide +kernel)
theorem blkCR2 : BlkOk nCR (defScope sCR) (lcScope (cmpL (retE (inD sCR 6)))) [("_law_worth_here", 14)] := blkOk_by (by decide +kernel)
section
variable {P : Program} {w : World} {K : PySem.W.Frag} {mg : Str → Option Value} {base : Heap} {C CN W S Co : Addr}
theorem first_of (m : Str) : (if decide (V.str m = V.str "positive") = true then (1 : Int) else 0) = ((firstOf m : Nat) : Int) := by
  unfold firstOf
  by_cases h : m = "positive"
  · rw [if_pos (decide_eq_true (congrArg V.str h)), if_pos h]
    rfl
  · rw [if_neg (fun z => h (V.str.inj (of_decide_eq_true z))), if_neg h]
    rfl
theorem hld_due (u : Int) (s n c : Nat) (m : Str) : hldB u s n c m = (fitB u s n c && (decide (m = "signed") || decide (u ≥ ((firstOf m : Nat) : Int)))) := by
  unfold hldB
  congr 1
  by_cases h : m = "positive"
  · have h2 : ¬ m = "signed" := fun z => by rw [z] at h; revert h; decide +kernel
    rw [if_pos h, decide_eq_false h2, Bool.false_or]
    unfold firstOf
    rw [if_pos h]
    exact decide_eq_decide.mpr ⟨fun z => by omega, fun z => by omega⟩
  · rw [if_neg h]
    by_cases h2 : m = "signed"
    · rw [if_pos h2, decide_eq_true h2, Bool.true_or]
    · rw [if_neg h2, decide_eq_false h2, Bool.false_or]
      unfold firstOf
      rw [if_neg h]
      rfl
theorem scCR : FnScope ["_law_pen", "_law_whole", "_law_scale", "_law_mark", "_law_kind", "_law_most", "_law_first", "_law_low_here", "_law_row", "_law_units", "_law_due", "_law_told_here", "_law_small", "_law_dues", "_law_worth_here"] ["_law_pen", "_law_whole", "_law_scale", "_law_mark"] (defScope sCR) := ⟨rfl, rfl, rfl, by decide +kernel, rfl, by decide +kernel, by decide +kernel⟩
def spCR : Sp := fun vs H Q _ => ∃ (d : Addr) (n c : Nat) (m : Str) (B : Int), vs = [.ref d, .int n, .int c, .str m] ∧ n ≤ 40 ∧ c ≤ 40 ∧ ¬ (n = 0 ∧ c = 0) ∧ m ∈ marksL ∧ Pen H d B ∧ B ≤ 600000000 ∧ ∀ H', KeepP d H H' → Pen H' d (B + 3000) → Q (.bl true) H'
theorem ok_cR (A : At K mg "_law_column_right" sCR ["_law_pen", "_law_whole", "_law_scale", "_law_mark"]) (B : Blt mg) (T : WorthC K mg W) (TC : ColC K mg Co) (MC : CMk P w K mg base C CN Co S)
    (MH : SMeth P w K mg base Co "holds" 12 ["self", "worth"] (spHld C W Co S)) (ML : SMeth P w K mg base Co "lowest" 15 ["self"] (spLws W Co S)) (MG : SMeth P w K mg base Co "highest" 14 ["self"] (spHgs W Co S)) (MM : SMeth P w K mg base Co "small" 13 ["self"] (spSml W Co S))
    (D4 : DefOk P w K mg base CX0 "_law_ten" 1 ["_law_number"] spTen) (D6 : DefOk P w K mg base CX0 "_law_low" 2 ["_law_units", "_law_scale"] spLow)
    (D7 : DefOk P w K mg base CX0 "_law_told" 1 ["_law_worth_here"] (spTold W)) (D8 : DefOk P w K mg base CX0 "_law_worth" 13 ["_law_row"] (spWth W)) (DSm : DefOk P w K mg base CX0 "_law_same" 1 ["_law_one", "_law_other"] spSame) (DFt : DefOk P w K mg base CX0 "_law_fits" 3 ["_law_row", "_law_whole", "_law_scale"] spLF)
    (DSe : DefOk P w K mg base CX0 "_law_seen" 1 ["_law_shape_here"] (spSeen S)) (DA : DefOk P w K mg base CX0 "_law_asked" 4 ["_law_pen", "_law_whole", "_law_scale"] spAsk) : DefOk P w K mg base CX0 "_law_column_right" 17 ["_law_pen", "_law_whole", "_law_scale", "_law_mark"] spCR := by
  refine A.ok fun f fd F => F.ok scCR (fun vs H Q E h => ?_) (fun cdv A outer s0 H vs Q E hr h => ?_)
  · obtain ⟨d, n, c, m, B, rfl, _⟩ := h
    rfl
  · obtain ⟨d, n, c, m, B0, rfl, hn, hc, nz, hm, hp, hB, q⟩ := h
    have nd := scCR.nd
    obtain ⟨fH, fdH, mH, FH, bH⟩ := MH.ex
    obtain ⟨fL, fdL, mL, FL, bL⟩ := ML.ex
    obtain ⟨fG, fdG, mG, FG, bG⟩ := MG.ex
    obtain ⟨fM, fdM, mM, FM, bM⟩ := MM.ex
    refine ⟨_, pss_cons (ps_par3 (i := 4) (j := 5) (l := 6) (by rfl) nd rfl rfl rfl (by decide) (by decide) (by decide) rfl rfl rfl (pa_cons (pe_col3 (C := C) (CN := CN) (E := E0) MC TC hr (by decide) (by rfl) passL (pa_cons (pv 1) (pa_cons (pv 2) (pa_cons (pv 3) pa_nil)))) (pa_cons (pe_op op_sub (pe_def D4 hr (by decide) (by rfl) pass0 (pa_cons (pe_op op_add (pv 1) (pv 2)) pa_nil)) pe_int) (pa_cons (pe_callTy call_int1 (by rfl) B.int (by decide +kernel) (pa_cons (pe_cmpR op_eq (pv 3) pe_str (nomark _)) pa_nil)) pa_nil))) (by rfl))
      (C8.pss_cut (ps_set (i := 7) nd rfl (.inl rfl) (pe_ifExp (pt_cmpR op_eq (pv 3) pe_str (nomark _)) (pe_un un_neg (pv 5)) (pv 6)))
      (pss_cons (ps_for PassesOwn.never rfl (pi_list (pe_def DA hr (by decide) (by rfl) pass0 (pa_cons (pv 0) (pa_cons (pv 1) (pa_cons (pv 2) pa_nil))))) (pg_name (i := 8) nd rfl (.inl rfl)) (pss_cons (ps_set (i := 9) nd rfl (.inl rfl) (pe_ix ix_tup (pe_def D6 hr (by decide) (by rfl) pass0 (pa_cons (pe_ix ix_tup (pv 8) pe_int (fun _ _ => rfl)) (pa_cons (pe_ix ix_tup (pv 8) pe_int (fun _ _ => rfl)) pa_nil))) pe_int (fun _ _ => rfl))) (C8.pss_cut (ps_set (i := 10) nd rfl (.inl rfl) (pe_and (pe_def DFt hr (by decide) (by rfl) pass0 (pa_cons (pv 8) (pa_cons (pv 1) (pa_cons (pv 2) pa_nil)))) (pe_one (pe_or (pe_cmpR op_eq (pv 3) pe_str (nomark _)) (pe_one (pe_cmpR op_ge (pv 9) (pv 6) (nomark _))))))) (pss_one (ps_if (pt_not (pt_val (pe_def DSm hr (by decide) (by rfl) pass0 (pa_cons (pe_meth (E := E0) (pv 4) TC.cls mH FH (hr.mono (by decide)) bH .nil passL (pa_cons (pe_def D8 hr (by decide) (by rfl) pass0 (pa_cons (pv 8) pa_nil)) pa_nil)) (pa_cons (pv 10) pa_nil))))) (pss_one (ps_ret pe_bl)) pss_nil)))))
      (pss_cons (ps_par (i := 11) (j := 12) (by rfl) nd rfl rfl (by decide) rfl rfl (pa_cons (pe_lst (pa_cons (pe_meth0 (E := E0) (pv 4) TC.cls mL FL (hr.mono (by decide)) bL .nil passL) (pa_cons (pe_meth0 (E := E0) (pv 4) TC.cls mG FG (hr.mono (by decide)) bG .nil passL) pa_nil))) (pa_cons (pe_meth0 (E := E0) (pv 4) TC.cls mM FM (hr.mono (by decide)) bM .nil passL) pa_nil)) (by rfl))
      (pss_cons (ps_if (PW.pt (pw_or (pt_not (pt_val (pe_callB call_isi (by rfl) B.isi (by decide +kernel) (pa_cons (pv 12) (pa_cons (pe_bltn (v := .ty "tuple") (by rfl) B.tuple (by decide +kernel) rfl) pa_nil))))) (pw_or (pt_cmpR (op_neD hr.units) (pe_def DSe hr (by decide) (by rfl) pass0 (pa_cons (pe_fld (pv 4) (by rfl)) pa_nil)) (pe_tup (pa_cons (pv 1) (pa_cons (pv 2) pa_nil))) (nomark _)) (pw_or1 (pt_cmpR op_ne (pe_fld (pv 4) (by rfl)) (pv 3) (nomark _)))))) (pss_one (ps_ret pe_bl)) pss_nil)
      (pss_cons (ps_setLc (i := 13) (own := [("_law_units", 9)]) (te := tCall spLow [] E0 (tCons (tVar 9) (tCons (tVar 2) tNil))) rfl nd rfl rfl rfl (pi_tup (pe_tup (pa_cons (pv 7) (pa_cons (pv 5) (pa_cons (pv 6) (pa_cons (pe_op op_add (pv 6) pe_int) pa_nil)))))) blkCR1 (fun _ _ _ _ _ => (pg_name (i := 9) nd rfl (.inl rfl))) (fun _ _ _ _ _ => pts_nil) (fun _ _ _ _ _ => (pe_def D6 hr (by decide) (by rfl) pass0 (pa_cons (pv 9) (pa_cons (pv 2) pa_nil)))))
      (pss_one (ps_ret (pe_cmpR (op_eqD hr.units) (pe_lc (own := [("_law_worth_here", 14)]) (te := tCall (spTold W) [] E0 (tCons (tVar 14) tNil)) rfl nd (pi_list (pe_op op_cat (pv 11) (pe_callTy call_list_of (by rfl) B.list (by decide +kernel) (pa_cons (pv 12) pa_nil)))) blkCR2 (fun _ _ _ _ _ => (pg_name (i := 14) nd rfl (.inl rfl))) (fun _ _ _ _ _ => pts_nil) (fun _ _ _ _ _ => (pe_def D7 hr (by decide) (by rfl) pass0 (pa_cons (pv 14) pa_nil)))) (pv 13) (nomark _))))))))), ?_⟩
    have M1 := ten80 hn hc
    have M0 := ten_pos (n + c)
    refine ⟨_, rfl, _, rfl, _, rfl, ?_⟩
    dsimp only [tNil]
    try rw [List.append_nil]
    refine col_of hm nz fun k H1 s1 nk ck => ?_
    refine ⟨_, rfl, _, rfl, _, _, rfl, rfl, n + c, rfl, by omega, _, _, rfl, rfl, _, rfl, rfl, .inr ⟨_, rfl, _, _, _, rfl, ?_⟩⟩
    rw [first_of m]
    have p1 := hp.same s1
    have k1 : KeepP d H H1 := KeepP.same s1
    have hlow : lowOf n c m = if m = "signed" then -((10 : Int) ^ (n + c) - 1) else ((firstOf m : Nat) : Int) := rfl
    have hM2 : ((10 : Int) ^ (n + c) - 1).natAbs < 2 ^ 270 := by omega
    have fst1 : firstOf m ≤ 1 := by unfold firstOf; split <;> omega
    clear s1 hp nk
    generalize hF : firstOf m = F1 at hlow fst1 ⊢
    refine ⟨fun σ H' => σ = [some (.ref d), some (.int n), some (.int c), some (.str m), some (.ref k), some (.int ((10 : Int) ^ (n + c) - 1)), some (.int (F1 : Nat)), some (.int (lowOf n c m)), none, none, none, none, none, none, none] ∧ H' = H1, ?_, ?_⟩
    · refine ⟨_, rfl, rfl, _, rfl, ite2 (fun e => ?_) (fun e => ?_)⟩
      · have z : m = "signed" := by simpa using e
        refine ⟨_, rfl, _, rfl, ?_, rfl⟩
        rw [hlow, if_pos z]
        rfl
      · have z : m ≠ "signed" := fun y => e (by rw [y]; simp)
        refine ⟨_, rfl, ?_, rfl⟩
        rw [hlow, if_neg z]
        rfl
    rintro σ H2 ⟨rfl, rfl⟩
    refine ⟨_, rfl, _, rfl, _, rfl, d, n, c, _, rfl, hn, hc, nz, p1, by omega, fun l xs rs H3 k3 p3 el hE hb => ?_⟩
    have ck3 : CAt Co S H3 k n c m := by
      obtain ⟨pp, ns, cc, ll, ed, _⟩ := p1.ex
      obtain ⟨dx, sh, ea, ds, es⟩ := ck
      exact ⟨dx, sh, k3 _ _ (ne_of ea ed (by intro z; cases z)) ea, ds, k3 _ _ (ne_of es ed (by intro z; cases z)) es⟩
    have k3 := k1.trans k3
    clear ck p1 k1
    refine ⟨l, rfl, ⟨_, SqL.of el⟩, for_list (K := K) (xs := xs) (fun i σ H' => (∃ y8 y9 y10 : Option V, σ = [some (.ref d), some (.int n), some (.int c), some (.str m), some (.ref k), some (.int ((10 : Int) ^ (n + c) - 1)), some (.int (F1 : Nat)), some (.int (lowOf n c m)), y8, y9, y10, none, none, none, none]) ∧ Same H3 H') ⟨⟨_, _, _, rfl⟩, Same.refl _⟩ (fun i σ H' _ z => SqL.of (z.2 _ _ el)) ?_ ?_⟩
    · rintro i x σ H4 hx ⟨⟨y8, y9, y10, rfl⟩, s4⟩
      obtain ⟨e, he, r⟩ := hE.get hx
      obtain ⟨a, rfl, ea⟩ := r.same s4
      obtain ⟨b1, b2⟩ := hb e (List.mem_of_getElem? he)
      dsimp only [gName, List.set]
      refine ⟨_, rfl, a, _, 0, _, rfl, rfl, SqT.of ea, rfl, _, rfl, a, _, 1, _, rfl, rfl, SqT.of ea, rfl, e.1, e.2, rfl, up_two b1 (by decide), by omega, fun u' s' x lw nx => ?_⟩
      have s5 := same_new (o := HO.tup [.int u', .int s']) nx
      refine ⟨x, _, 0, _, rfl, rfl, SqT.of upd_same, rfl, ?_⟩
      generalize upd H4 x (HO.tup [.int u', .int s']) = H5 at s5 ⊢
      dsimp only [gName, List.set]
      have ea5 := s5 _ _ ea
      refine ⟨fun σ H' => σ = [some (.ref d), some (.int n), some (.int c), some (.str m), some (.ref k), some (.int ((10 : Int) ^ (n + c) - 1)), some (.int (F1 : Nat)), some (.int (lowOf n c m)), some (.ref a), some (.int u'), some (.bl (hldB u' s' n c m)), none, none, none, none] ∧ Same H5 H', ?_, ?_⟩
      · refine ⟨_, rfl, _, rfl, _, rfl, a, e.1, e.2, n, c, rfl, ea5, up_two b1 (by decide), by omega, fun u2 s2 H6 lw2 s6 => ?_⟩
        obtain ⟨rfl, rfl⟩ := low_eq lw lw2
        rw [hld_due, hF]
        refine ⟨_, rfl, ?_⟩
        cases hf : fitB u' s' n c with
        | false => exact iteF ⟨rfl, s6⟩
        | true =>
          refine iteT ⟨_, rfl, rfl, _, rfl, ite2 (fun e => ?_) (fun e => ?_)⟩
          · have z : m = "signed" := by simpa using e
            refine ⟨?_, s6⟩
            rw [decide_eq_true z]
            dsimp only [gName, List.set]
            simp [z]
          · have z : m ≠ "signed" := fun y => e (by rw [y]; simp)
            refine ⟨_, rfl, _, rfl, _, _, rfl, rfl, ?_, s6⟩
            rw [decide_eq_false z, Bool.false_or, Bool.true_and]
            rfl
      rintro σ H6 ⟨rfl, s6⟩
      have s46 := (s4.trans s5).trans s6
      have ea6 := s6 _ _ ea5
      have ck6 := ck3.same s46
      obtain ⟨dk, sk, ek, _⟩ := id ck6
      refine ⟨_, rfl, k, dk, _, rfl, ek, cLk_no _ _ (by decide +kernel) (by decide +kernel), _, rfl, a, e.1, e.2, rfl, ea6, by omega, fun u2 s2 p H7 lw2 s7 _ wp => ?_⟩
      obtain ⟨rfl, rfl⟩ := low_eq lw lw2
      refine ⟨k, n, c, m, .ref p, rfl, ck6.same s7, .inr ⟨p, u', s', rfl, wp, by have := lw.le; omega, ?_⟩⟩
      refine ⟨_, rfl, .inr ⟨.bl (hldB u' s' n c m), rfl, odd_bl _, ⟨_, rfl, iteF ?_⟩⟩⟩
      exact ⟨⟨_, _, _, rfl⟩, s46.trans s7⟩
    rintro σ H4 ⟨⟨y8, y9, y10, rfl⟩, s4⟩
    have ck4 := ck3.same s4
    have k4 := k3.trans (KeepP.same s4)
    have p4 := p3.same s4
    clear hE hb el k3 p3 ck3 s4
    obtain ⟨dk, sk, ek, es⟩ := id ck4
    refine ⟨_, rfl, k, dk, _, rfl, ek, cLk_no _ _ (by decide +kernel) (by decide +kernel), k, n, c, m, rfl, ck4, by omega, by omega, fun pl ul sl H5 s5 wl ll => ?_⟩
    refine ⟨_, rfl, k, dk, _, rfl, s5 _ _ ek, cLk_no _ _ (by decide +kernel) (by decide +kernel), k, n, c, m, rfl, ck4.same s5, by omega, by omega, fun uh sh ph H6 lh s6 _ wh => ?_⟩
    refine ⟨by show 2 ≤ sizeLine; decide, fun l2 n2 => ?_⟩
    have s7 := same_new (o := HO.lst [.ref pl, .ref ph]) n2
    have el2 : upd H6 l2 (HO.lst [.ref pl, .ref ph]) l2 = some (.lst [.ref pl, .ref ph]) := upd_same
    generalize upd H6 l2 (HO.lst [.ref pl, .ref ph]) = H7 at s7 el2 ⊢
    have s57 := (s5.trans s6).trans s7
    refine ⟨_, rfl, k, dk, _, rfl, s57 _ _ ek, cLk_no _ _ (by decide +kernel) (by decide +kernel), k, n, c, m, rfl, ck4.same s57, by omega, fun p1 p2 r u1 u2 v1 v2 H8 s8 er w1 l1 w2 l2' => ⟨_, _, rfl, ?_⟩⟩
    have E8 : Ents (RowW W H8) [.ref pl, .ref ph, .ref p1, .ref p2] [(ul, sl), (uh, sh), (u1, v1), (u2, v2)] :=
      .cons ⟨pl, rfl, ((wl.same s6).same s7).same s8⟩ (.cons ⟨ph, rfl, (wh.same s7).same s8⟩ (.cons ⟨p1, rfl, w1⟩ (.cons ⟨p2, rfl, w2⟩ .nil)))
    rw [hF] at l1 l2'
    have LW : LowsOf [(lowOf n c m, c), ((10 : Int) ^ (n + c) - 1, c), (((F1 : Nat) : Int), c), (((F1 : Nat) : Int) + 1, c)] [(ul, sl), (uh, sh), (u1, v1), (u2, v2)] := by
      refine ⟨rfl, fun i e he => ?_⟩
      match i, he with
      | 0, he => obtain rfl := Option.some.inj he; exact ⟨_, rfl, ll⟩
      | 1, he => obtain rfl := Option.some.inj he; exact ⟨_, rfl, lh⟩
      | 2, he => obtain rfl := Option.some.inj he; exact ⟨_, rfl, l1⟩
      | 3, he => obtain rfl := Option.some.inj he; exact ⟨_, rfl, l2'⟩
      | j + 4, he => simp at he
    have s58 := s57.trans s8
    have ck8 := ck4.same s58
    have k8 := k4.trans (KeepP.same s58)
    have p8 := p4.same s58
    have el8 := s8 _ _ el2
    clear ck4 k4 p4 s5 s6 s7 s57 s8 ek es wl ll lh wh n2 el2 w1 l1 w2 l2' s58
    obtain ⟨dk, sk, ek, es⟩ := id ck8
    dsimp only [gName, List.set]
    refine ⟨_, rfl, _, _, .type "tuple", _, _, rfl, .ty _, .base (.tup er), kit_ty (show kitB "tuple" "tuple" = some true by decide +kernel), _, rfl, iteF ?_⟩
    refine ⟨_, rfl, k, Co, dk, _, .ref sk, rfl, ek, TC.cls, TC.ns, cLk_s _ _, sk, n, c, rfl, es, fun r5 H9 s9 _ tw => ?_⟩
    refine ⟨_, rfl, _, rfl, by show 2 ≤ sizeLine; decide, fun r6 n6 => ?_⟩
    have s10 := same_new (o := HO.tup [.int n, .int c]) n6
    refine two_neT (K := K) (s10 _ _ tw) upd_same ⟨_, rfl, iteF ?_⟩
    generalize upd H9 r6 _ = H10 at s10 ⊢
    have s810 := s9.trans s10
    refine ⟨_, rfl, k, Co, dk, _, .str m, rfl, s810 _ _ ek, TC.cls, TC.nm, cLk_m _ _, _, rfl, rfl, _, rfl, ite2 (fun e => by simp at e) (fun _ => ?_)⟩
    have er10 := s810 _ _ er
    have el10 := s810 _ _ el8
    have E10 := E8.mono fun _ _ z => z.same s810
    have k10 := k8.trans (KeepP.same s810)
    have p10 := p8.same s810
    clear ck8 k8 p8 E8 er el8 s9 s10 s810 ek es tw n6
    have eF : ((F1 : Nat) : Int) + 1 = (((F1 : Nat) : Int) + 1) := rfl
    refine ⟨_, rfl, _, rfl, _, rfl, _, rfl, _, _, rfl, rfl, by show 4 ≤ sizeLine; decide, fun tp ntp => ?_⟩
    have s11 := same_new (o := HO.tup [.int (lowOf n c m), .int ((10 : Int) ^ (n + c) - 1), .int (F1 : Nat), .int (((F1 : Nat) : Int) + 1)]) ntp
    have et : upd H10 tp (HO.tup [.int (lowOf n c m), .int ((10 : Int) ^ (n + c) - 1), .int (F1 : Nat), .int (((F1 : Nat) : Int) + 1)]) tp = some (.tup ([lowOf n c m, (10 : Int) ^ (n + c) - 1, ((F1 : Nat) : Int), ((F1 : Nat) : Int) + 1].map V.int)) := upd_same
    generalize upd H10 tp _ = H11 at s11 et ⊢
    have bl4 : ∀ v ∈ [lowOf n c m, (10 : Int) ^ (n + c) - 1, ((F1 : Nat) : Int), ((F1 : Nat) : Int) + 1], v.natAbs < 2 ^ 300 := by
      have e : 2 ^ 270 < 2 ^ 300 := by decide +kernel
      have e2 : 2 < 2 ^ 300 := by decide +kernel
      intro v hv
      simp only [List.mem_cons, List.not_mem_nil, or_false] at hv
      rcases hv with rfl | rfl | rfl | rfl
      · rw [hlow]
        split <;> omega
      · omega
      · omega
      · omega
    have LW : LowsOf ([lowOf n c m, (10 : Int) ^ (n + c) - 1, ((F1 : Nat) : Int), ((F1 : Nat) : Int) + 1].map fun v => (v, c)) [(ul, sl), (uh, sh), (u1, v1), (u2, v2)] := LW
    generalize [lowOf n c m, (10 : Int) ^ (n + c) - 1, ((F1 : Nat) : Int), ((F1 : Nat) : Int) + 1] = vI at et bl4 LW
    have lv : vI.length = 4 := by
      have := LW.1
      rw [List.length_map] at this
      exact this
    refine ⟨tp, rfl, ⟨_, SqT.of et⟩, fun D nD => lc_tup (K := K) (xs := vI.map V.int) (fun i H' => Same H11 H' ∧ H11 D = none ∧ ∃ (acc : List V) (es : List (Int × Nat)), H' D = some (.lst acc) ∧ Ents (RowT H') acc es ∧ LowsOf ((vI.take i).map fun v => (v, c)) es) ⟨same_new nD, nD, [], [], upd_same, .nil, by rw [List.take_zero]; exact ⟨rfl, fun i e h => by simp at h⟩⟩ (fun i H' _ z => SqT.of (z.1 _ _ et)) ?_ ?_⟩
    · rintro i x C1 hx ⟨s5, nD, acc, es, hD, hA, hW⟩
      rw [List.getElem?_map] at hx
      obtain ⟨v, hv, rfl⟩ := Option.map_eq_some_iff.mp hx
      dsimp only [gName, List.set]
      refine ⟨rfl, ?_⟩
      unfold tYes
      dsimp only
      rw [if_pos rfl]
      refine ⟨_, rfl, _, rfl, v, c, rfl, up_two (bl4 v (List.mem_of_getElem? hv)) (by decide), by omega, fun u' s' x lw nx => ?_⟩
      have s6 := same_new (o := HO.tup [.int u', .int s']) nx
      have hi : i < vI.length := (List.getElem?_eq_some_iff.mp hv).1
      refine ⟨acc, s6 _ _ hD, ?_, ?_, nD, acc ++ [.ref x], es ++ [(u', s')], upd_same, ?_, ?_⟩
      · have := hA.len
        have := hW.1
        have := sizeLine_eq
        rw [List.length_map, List.length_take] at *
        omega
      · intro b o eb
        rw [upd_ne (ne_of_none eb nD)]
        exact s6 _ _ (s5 _ _ eb)
      · exact Ents.snoc (hA.mono fun _ _ z => (z.same s6).put (s6 _ _ hD)) (RowT.put ⟨x, rfl, upd_same⟩ (s6 _ _ hD))
      · rw [show (vI.take (i + 1)).map (fun v => (v, c)) = (vI.take i).map (fun v => (v, c)) ++ [(v, c)] by rw [List.take_succ, hv]; simp]
        exact hW.snoc lw
    rintro C1 ⟨s5, nD, acc, es, hD, hA, hW⟩
    rw [List.length_map, List.take_length] at hW
    obtain rfl := LW.uniq hW
    clear hW LW nD lv et bl4
    dsimp only [gName, List.set]
    have s12 := s11.trans s5
    refine ⟨_, rfl, _, rfl, r, _, rfl, .inr (SqT.of (s12 _ _ er10)), fun l5 n5 => ?_⟩
    have s13 := same_new (o := HO.lst [.ref p1, .ref p2]) n5
    refine ⟨l2, l5, _, _, rfl, rfl, s13 _ _ (s12 _ _ el10), upd_same, by show 4 ≤ sizeLine; decide, fun l6 n6 => ?_⟩
    have s14 := same_new (o := HO.lst ([.ref pl, .ref ph] ++ [.ref p1, .ref p2])) n6
    have s1014 := (s12.trans s13).trans s14
    have el14 : upd (upd C1 l5 (.lst [.ref p1, .ref p2])) l6 (.lst ([.ref pl, .ref ph] ++ [.ref p1, .ref p2])) l6 = some (.lst [.ref pl, .ref ph, .ref p1, .ref p2]) := upd_same
    have E14 := E10.mono fun _ _ z => z.same s1014
    have hD14 := s14 _ _ (s13 _ _ hD)
    have A14 := hA.mono fun _ _ z => z.same (s13.trans s14)
    have k14 := k10.trans (KeepP.same s1014)
    have p14 := p10.same s1014
    generalize upd (upd C1 l5 (.lst [.ref p1, .ref p2])) l6 (.lst ([.ref pl, .ref ph] ++ [.ref p1, .ref p2])) = C2 at el14 E14 hD14 A14 k14 p14 ⊢
    clear s13 s14 s1014 s12 s11 s5 k10 p10 E10 er10 el10 n5 n6 hA hD
    generalize hws : [(ul, sl), (uh, sh), (u1, v1), (u2, v2)] = ws at E14
    generalize hxs : [V.ref pl, .ref ph, .ref p1, .ref p2] = xs6 at E14 el14
    have lx := E14.len
    refine ⟨l6, rfl, ⟨_, SqL.of el14⟩, fun D2 nD2 => lc_list (K := K) (xs := xs6) (fun i H' => Same C2 H' ∧ C2 D2 = none ∧ ∃ acc2 : List V, H' D2 = some (.lst acc2) ∧ Ents (RowT H') acc2 (ws.take i)) ⟨same_new nD2, nD2, [], upd_same, by rw [List.take_zero]; exact .nil⟩ (fun i H' _ z => SqL.of (z.1 _ _ el14)) ?_ ?_⟩
    · rintro i x C3 hx ⟨s5, nD2, acc2, hD2, hA2⟩
      obtain ⟨e, he, rr⟩ := E14.get hx
      obtain ⟨a, rfl, ea⟩ := rr.same s5
      have hi : i < ws.length := (List.getElem?_eq_some_iff.mp he).1
      have lw4 : ws.length = 4 := by rw [← hws]; rfl
      dsimp only [gName, List.set]
      refine ⟨rfl, ?_⟩
      unfold tYes
      dsimp only
      rw [if_pos rfl]
      refine ⟨_, rfl, a, e.1, e.2, rfl, ea, fun r9 C4 s6 _ e9 => ?_⟩
      refine ⟨acc2, s6 _ _ hD2, ?_, ?_, nD2, acc2 ++ [.ref r9], upd_same, ?_⟩
      · have := hA2.len
        have := sizeLine_eq
        rw [List.length_take] at *
        omega
      · intro b o eb
        rw [upd_ne (ne_of_none eb nD2)]
        exact s6 _ _ (s5 _ _ eb)
      · rw [show ws.take (i + 1) = ws.take i ++ [e] by rw [List.take_succ, he]; rfl]
        exact Ents.snoc (hA2.mono fun _ _ z => (z.same s6).put (s6 _ _ hD2)) (RowT.put ⟨r9, rfl, e9⟩ (s6 _ _ hD2))
    rintro C3 ⟨s5, nD2, acc2, hD2, hA2⟩
    rw [lx, List.take_length] at hA2
    subst hws
    refine ⟨_, rfl, four_eqT (K := K) hD2 (s5 _ _ hD14) hA2 (A14.mono fun _ _ z => z.same s5) ?_⟩
    exact q _ (k14.trans (KeepP.same s5)) ((p14.same s5).mono (by omega))
end
end K09

/-! own layer, of no law: OWNC: == of instances of two own classes. -/
namespace Own
open PySem PySem.Spec PyProof.Rows L2 LamX NdefX
section
variable {X : Cx} {pins : List (Addr × Obj)} {σ : L2.St} {H : Hp} {s : Shared}
variable {CX : CXT} {n : Nat} {C f : Addr} {fd : FuncData} {ps : List Str} {sp : Sp} {E : XK}
/-- own == an instance of another own class -/
theorem op_ownEq2 (F : FnOk X.prog X.w X.K X.mg X.base CX n f fd ps sp) (hr : Room n X.A) (hs : PySem.W.findIn X.K (.ref C) "__eq__" = some (some (.ref f))) (hf : PySem.W.isFn X.K (.ref f) = true) (hb : Binds X.K fd ps []) (hx : Passes CX X E) :
    OpR X (compareOp .Eq) (fun x y H Q => ∃ a dx fs, x = V.ref a ∧ H a = some (.ins C dx fs) ∧ (∃ D b dy gs, y = V.ref b ∧ H b = some (.ins D dy gs) ∧ PySem.W.subIn X.K (.ref D) (.ref C) = some false) ∧ sp [.ref a, y] H Q E) := by
  intro pins s σ H x y v u Q I rx ry h
  obtain ⟨a, dx, fs, rfl, ha, ⟨D, b, dy, gs, rfl, hb', hD⟩, q⟩ := h
  cases rx
  obtain ⟨mA, J, _⟩ := ins_get I.hok ha
  obtain ⟨od, J, _⟩ := J.look
  obtain ⟨m, hF⟩ := I.fr
  have un : X.A.units < cLine := by
    have := hr.units
    omega
  show wpAny (model X.prog X.w) X.A (richCompare .Eq (.ref a) u) (EP X pins σ Q) X.xe s
  have call := back_of (run_fn F hr hb .nil hx I (.cons (show L2.RelV (V.ref a) (Value.ref a) from rfl) (.cons ry .nil)) q)
  cases ry
  obtain ⟨mB, J', _⟩ := ins_get I.hok hb'
  obtain ⟨od', J', _⟩ := J'.look
  exact PySem.W.cmp_K (op := .Eq) (tb := .ref D) un hF I.ok.mod.kin J J'.type (by unfold PySem.W.notFirst; rw [hD]; simp) hs hf call
end
end Own

/-! k09: the law: == of Shapes and Columns. -/
namespace K09
open PySem PySem.Spec PyProof.Rows L2 LamX NdefX Own
abbrev sEq : Stmt := topS 48
abbrev nEq : List Str := ["_law_whole", "_law_scale", "_law_mark", "_law_shape_here", "_law_kind", "_law_plain", "_law_rows", "_law_row"]
theorem blkEq : BlkOk nEq (defScope sEq) (lcScope (argN 0 (retE (inD sEq 5)))) [("_law_row", 7)] := blkOk_by (by decide +kernel)
/-- rows of two equal truths -/
def RowsB (H : Hp) (xs : List V) : Prop := ∀ v ∈ xs, ∃ (a : Addr) (x : Bool), v = .ref a ∧ H a = some (.tup [.bl x, .bl x])
theorem RowsB.same {H H' : Hp} {xs : List V} (h : RowsB H xs) (z : Same H H') : RowsB H' xs := fun v hv => by
  obtain ⟨a, x, e, f⟩ := h v hv
  exact ⟨a, x, e, z _ _ f⟩
theorem RowsB.app {H : Hp} {xs ys : List V} (h : RowsB H xs) (k : RowsB H ys) : RowsB H (xs ++ ys) := fun v hv => (List.mem_append.mp hv).elim (h v) (k v)
theorem RowsB.one {H : Hp} {a : Addr} {x : Bool} (e : H a = some (.tup [.bl x, .bl x])) : RowsB H [.ref a] := fun v hv => ⟨a, x, List.mem_singleton.mp hv, e⟩
section
variable {P : Program} {w : World} {K : PySem.W.Frag} {mg : Str → Option Value} {base : Heap} {C CN W S Co fs fc : Addr} {fds fdc : FuncData}
/-- how two Columns are compared -/
structure CEq (P : Program) (w : World) (K : PySem.W.Frag) (mg : Str → Option Value) (base : Heap) (Co S f : Addr) (fd : FuncData) : Prop where
  at_ : PySem.W.findIn K (.ref Co) "__eq__" = some (some (.ref f))
  isf : PySem.W.isFn K (.ref f) = true
  fn : FnOk P w K mg base (L2.CX P w) 3 f fd ["self", "other"] (spCEq (K := K) Co S)
  bd : Binds K fd ["self", "other"] []
  sub : ∀ T ∈ tys, PySem.W.subIn K (.type T) (.ref Co) = some false
  ne : PySem.W.findIn K (.ref Co) "__ne__" = some (some (.builtin "object.__ne__"))
  obj : PySem.W.subIn K (.ref Co) (.type "object") = some true
/-- the two classes are strangers -/
structure Strange (K : PySem.W.Frag) (S Co : Addr) : Prop where
  s1 : PySem.W.subIn K (.ref S) (.ref Co) = some false
  s2 : PySem.W.subIn K (.ref Co) (.ref S) = some false
  k1 : PySem.W.kitOne K (.ref S) (.ref Co) = some false
  k2 : PySem.W.kitOne K (.ref Co) (.ref S) = some false
theorem scEql : FnScope ["_law_whole", "_law_scale", "_law_mark", "_law_shape_here", "_law_kind", "_law_plain", "_law_rows", "_law_row"] ["_law_whole", "_law_scale", "_law_mark"] (defScope sEq) := ⟨rfl, rfl, rfl, by decide +kernel, rfl, by decide +kernel, by decide +kernel⟩
def spEq : Sp := fun vs H Q _ => ∃ (n c : Nat) (m : Str), vs = [.int n, .int c, .str m] ∧ ¬ (n = 0 ∧ c = 0) ∧ m ∈ marksL ∧ ∀ H', Same H H' → Q (.bl true) H'
theorem ok_eq9 (A : At K mg "_law_equal" sEq ["_law_whole", "_law_scale", "_law_mark"]) (B : Blt mg) (TS : ShapeC K mg S) (MS : SMk P w K mg base C CN S) (TC : ColC K mg Co) (MC : CMk P w K mg base C CN Co S)
    (IS : WIs K S) (IC : WIs K Co) (ES : SEq P w K mg base S fs fds) (EC : CEq P w K mg base Co S fc fdc) (St : Strange K S Co) (DSm : DefOk P w K mg base CX0 "_law_same" 1 ["_law_one", "_law_other"] spSame) : DefOk P w K mg base CX0 "_law_equal" 9 ["_law_whole", "_law_scale", "_law_mark"] spEq := by
  refine A.ok fun f fd F => F.ok scEql (fun vs H Q E h => ?_) (fun cdv A outer s0 H vs Q E hr h => ?_)
  · obtain ⟨n, c, m, rfl, _⟩ := h
    rfl
  · obtain ⟨n, c, m, rfl, nz, hm, q⟩ := h
    have nd := scEql.nd
    refine ⟨_, pss_cons (ps_par3 (i := 3) (j := 4) (l := 5) (by rfl) nd rfl rfl rfl (by decide) (by decide) (by decide) rfl rfl rfl (pa_cons (pe_shape (C := C) (CN := CN) (E := E0) MS TS hr (by decide) (by rfl) passL (pa_cons (pv 0) (pa_cons (pv 1) pa_nil))) (pa_cons (pe_col3 (C := C) (CN := CN) (E := E0) MC TC hr (by decide) (by rfl) passL (pa_cons (pv 0) (pa_cons (pv 1) (pa_cons (pv 2) pa_nil)))) (pa_cons (pe_col2 (C := C) (CN := CN) (E := E0) MC TC hr (by decide) (by rfl) passL (pa_cons (pv 0) (pa_cons (pv 1) pa_nil))) pa_nil))) (by rfl))
      (pss_cons (ps_set (i := 6) nd rfl (.inl rfl) (pe_lst (pa_cons (pe_tup (pa_cons (pe_cmpR (op_ownEq (E := E0) ES.fn (hr.mono (by decide)) ES.at_ ES.isf ES.sub ES.bd passL) (pv 3) (pe_shape (C := C) (CN := CN) (E := E0) MS TS hr (by decide) (by rfl) passL (pa_cons (pv 0) (pa_cons (pv 1) pa_nil))) (nomark _)) (pa_cons pe_bl pa_nil))) (pa_cons (pe_tup (pa_cons (pe_cmpR (op_ownEq (E := E0) ES.fn (hr.mono (by decide)) ES.at_ ES.isf ES.sub ES.bd passL) (pv 3) (pe_shape (C := C) (CN := CN) (E := E0) MS TS hr (by decide) (by rfl) passL (pa_cons (pe_op op_add (pv 0) pe_int) (pa_cons (pv 1) pa_nil))) (nomark _)) (pa_cons pe_bl pa_nil))) pa_nil))))
      (pss_cons (ps_set (i := 6) nd rfl (.inl rfl) (pe_op op_cat (pv 6) (pe_lst (pa_cons (pe_tup (pa_cons (pe_cmpR (op_ownEq (E := E0) ES.fn (hr.mono (by decide)) ES.at_ ES.isf ES.sub ES.bd passL) (pv 3) (pe_shape (C := C) (CN := CN) (E := E0) MS TS hr (by decide) (by rfl) passL (pa_cons (pv 0) (pa_cons (pe_op op_add (pv 1) pe_int) pa_nil))) (nomark _)) (pa_cons pe_bl pa_nil))) (pa_cons (pe_tup (pa_cons (pe_cmpR (op_ownEq (E := E0) ES.fn (hr.mono (by decide)) ES.at_ ES.isf ES.sub ES.bd passL) (pv 3) (pe_tup (pa_cons (pv 0) (pa_cons (pv 1) pa_nil))) (nomark _)) (pa_cons pe_bl pa_nil))) pa_nil)))))
      (pss_cons (ps_set (i := 6) nd rfl (.inl rfl) (pe_op op_cat (pv 6) (pe_lst (pa_cons (pe_tup (pa_cons (pe_cmpR (op_ownEq (E := E0) EC.fn (hr.mono (by decide)) EC.at_ EC.isf EC.sub EC.bd passL) (pv 4) (pe_col3 (C := C) (CN := CN) (E := E0) MC TC hr (by decide) (by rfl) passL (pa_cons (pv 0) (pa_cons (pv 1) (pa_cons (pv 2) pa_nil)))) (nomark _)) (pa_cons pe_bl pa_nil))) (pa_cons (pe_tup (pa_cons (pe_cmpR (op_ownNe (E := E0) EC.fn (hr.mono (by decide)) EC.ne EC.obj EC.at_ EC.isf EC.sub EC.bd passL) (pv 4) (pv 5) (nomark _)) (pa_cons (pe_cmpR op_ne (pv 2) pe_str (nomark _)) pa_nil))) pa_nil)))))
      (pss_cons (ps_set (i := 6) nd rfl (.inl rfl) (pe_op op_cat (pv 6) (pe_lst (pa_cons (pe_tup (pa_cons (pe_cmpR (op_ownEq (E := E0) EC.fn (hr.mono (by decide)) EC.at_ EC.isf EC.sub EC.bd passL) (pv 4) (pe_col3 (C := C) (CN := CN) (E := E0) MC TC hr (by decide) (by rfl) passL (pa_cons (pe_op op_add (pv 0) pe_int) (pa_cons (pv 1) (pa_cons (pv 2) pa_nil)))) (nomark _)) (pa_cons pe_bl pa_nil))) (pa_cons (pe_tup (pa_cons (pe_cmpR (op_ownEq2 (E := E0) EC.fn (hr.mono (by decide)) EC.at_ EC.isf EC.bd passL) (pv 4) (pv 3) (nomark _)) (pa_cons pe_bl pa_nil))) (pa_cons (pe_tup (pa_cons (pe_cmpR (op_ownEq2 (E := E0) ES.fn (hr.mono (by decide)) ES.at_ ES.isf ES.bd passL) (pv 3) (pv 4) (nomark _)) (pa_cons pe_bl pa_nil))) pa_nil))))))
      (pss_one (ps_ret (pe_callB (cr_all rfl) (by rfl) B.all PyProof.Rows.boot_all (pa_cons (pe_lc (own := [("_law_row", 7)]) (te := tCall spSame [] E0 (tCons (tOp (rIxT K) (tVar 7) (tC (.int 0))) (tCons (tOp (rIxT K) (tVar 7) (tC (.int 1))) tNil))) rfl nd (pi_list (pv 6)) blkEq (fun _ _ _ _ _ => (pg_name (i := 7) nd rfl (.inl rfl))) (fun _ _ _ _ _ => pts_nil) (fun _ _ _ _ _ => (pe_def DSm hr (by decide) (by rfl) pass0 (pa_cons (pe_ix ix_tup (pv 7) pe_int (fun _ _ => rfl)) (pa_cons (pe_ix ix_tup (pv 7) pe_int (fun _ _ => rfl)) pa_nil))))) pa_nil)))))))), ?_⟩
    have msg : (("signed" : Str) ∈ marksL) := List.mem_cons_self ..
    refine ⟨_, rfl, _, rfl, ?_⟩
    dsimp only [tNil]
    try rw [List.append_nil]
    refine shape_of nz fun sh B1 z1 _ hs => ?_
    refine ⟨_, rfl, _, rfl, _, rfl, ?_⟩
    dsimp only [tNil]
    try rw [List.append_nil]
    refine col_of hm nz fun k B2 z2 _ ck => ?_
    refine ⟨_, rfl, _, rfl, ?_⟩
    dsimp only [tNil]
    try rw [List.append_nil]
    refine col_of msg nz fun kp B3 z3 _ cp => ⟨_, _, _, rfl, ?_⟩
    have hs := (hs.same z2).same z3
    have ck := ck.same z3
    have zz := (z1.trans z2).trans z3
    clear z1 z2 z3
    obtain ⟨dx, es⟩ := id hs
    obtain ⟨dk, sk, ek, _⟩ := id ck
    obtain ⟨dp, sp, ep, _⟩ := id cp
    have cur := Same.refl B3
    have F : RowsB B3 [] := fun v hv => by cases hv
    refine ⟨_, rfl, _, rfl, _, rfl, ?_⟩
    dsimp only [tNil]
    try rw [List.append_nil]
    refine shape_of (u := (n : Nat)) (s := (c : Nat)) nz fun s1 D1 y1 _ hs1 => ?_
    have cur1 := cur.trans y1
    clear cur
    obtain ⟨dd1, ee1⟩ := id hs1
    refine ⟨sh, dx, _, rfl, cur1 _ _ es, .inl ⟨s1, dd1, _, rfl, ee1⟩, sh, n, c, .ref s1, rfl, hs.same cur1, .inl ⟨s1, _, _, rfl, hs1, ?_⟩⟩
    rw [show (decide (n = (n : Nat)) && decide (c = (c : Nat))) = true by simp]
    refine ⟨by show 2 ≤ sizeLine; decide, fun r1 m1 => ?_⟩
    have t1 := same_new (o := HO.tup [.bl true, .bl true]) m1
    have F := (F.same (y1.trans t1)).app (RowsB.one (a := r1) (x := true) upd_same)
    have cur := cur1.trans t1
    generalize upd D1 r1 (HO.tup [.bl true, .bl true]) = A1 at t1 F cur ⊢
    refine ⟨_, rfl, _, rfl, _, _, rfl, rfl, _, rfl, ?_⟩
    dsimp only [tNil]
    try rw [List.append_nil]
    refine shape_of (u := (n + 1 : Nat)) (s := (c : Nat)) (by omega) fun s2 D2 y2 _ hs2 => ?_
    have cur2 := cur.trans y2
    clear cur
    obtain ⟨dd2, ee2⟩ := id hs2
    refine ⟨sh, dx, _, rfl, cur2 _ _ es, .inl ⟨s2, dd2, _, rfl, ee2⟩, sh, n, c, .ref s2, rfl, hs.same cur2, .inl ⟨s2, _, _, rfl, hs2, ?_⟩⟩
    rw [show (decide (n = (n + 1 : Nat)) && decide (c = (c : Nat))) = false by simp]
    refine ⟨by show 2 ≤ sizeLine; decide, fun r2 m2 => ?_⟩
    have t2 := same_new (o := HO.tup [.bl false, .bl false]) m2
    have F := (F.same (y2.trans t2)).app (RowsB.one (a := r2) (x := false) upd_same)
    have cur := cur2.trans t2
    generalize upd D2 r2 (HO.tup [.bl false, .bl false]) = A2 at t2 F cur ⊢
    refine ⟨by show 2 ≤ sizeLine; decide, fun l1 n1 => ?_⟩
    have tl := same_new (o := HO.lst [.ref r1, .ref r2]) n1
    have el : upd A2 l1 (HO.lst [.ref r1, .ref r2]) l1 = some (.lst [.ref r1, .ref r2]) := upd_same
    have G : RowsB (upd A2 l1 (HO.lst [.ref r1, .ref r2])) [.ref r1, .ref r2] := F.same tl
    have cur := cur.trans tl
    have len : [V.ref r1, .ref r2].length ≤ 2 := Nat.le_refl 2
    generalize [V.ref r1, .ref r2] = xs1 at tl el G len cur ⊢
    generalize upd A2 l1 (HO.lst xs1) = G1 at tl el G cur ⊢
    clear F
    have F : RowsB G1 [] := fun v hv => by cases hv
    dsimp only [gName, List.set]
    refine ⟨_, rfl, ?_⟩
    refine ⟨_, rfl, _, rfl, _, rfl, _, _, rfl, rfl, ?_⟩
    dsimp only [tNil]
    try rw [List.append_nil]
    refine shape_of (u := (n : Nat)) (s := (c + 1 : Nat)) (by omega) fun s3 D3 y3 _ hs3 => ?_
    have cur3 := cur.trans y3
    clear cur
    obtain ⟨dd3, ee3⟩ := id hs3
    refine ⟨sh, dx, _, rfl, cur3 _ _ es, .inl ⟨s3, dd3, _, rfl, ee3⟩, sh, n, c, .ref s3, rfl, hs.same cur3, .inl ⟨s3, _, _, rfl, hs3, ?_⟩⟩
    rw [show (decide (n = (n : Nat)) && decide (c = (c + 1 : Nat))) = false by simp]
    refine ⟨by show 2 ≤ sizeLine; decide, fun r3 m3 => ?_⟩
    have t3 := same_new (o := HO.tup [.bl false, .bl false]) m3
    have F := (F.same (y3.trans t3)).app (RowsB.one (a := r3) (x := false) upd_same)
    have cur := cur3.trans t3
    generalize upd D3 r3 (HO.tup [.bl false, .bl false]) = A3 at t3 F cur ⊢
    have el := t3 _ _ (y3 _ _ el)
    have G := G.same (y3.trans t3)
    refine ⟨_, rfl, _, rfl, _, rfl, by show 2 ≤ sizeLine; decide, fun t4' m4' => ?_⟩
    have y4 := same_new (o := HO.tup [.int n, .int c]) m4'
    have cur4 := cur.trans y4
    have et4 : upd A3 t4' (HO.tup [.int n, .int c]) t4' = some (.tup [.int n, .int c]) := upd_same
    clear cur
    generalize upd A3 t4' (HO.tup [.int n, .int c]) = D4 at y4 cur4 et4 ⊢
    refine ⟨sh, dx, _, rfl, cur4 _ _ es, .inr (.tup et4), sh, n, c, .ref t4', rfl, hs.same cur4, .inr (.inr ⟨.tup et4, ?_⟩)⟩
    refine ⟨by show 2 ≤ sizeLine; decide, fun r4 m4 => ?_⟩
    have t4 := same_new (o := HO.tup [.bl false, .bl false]) m4
    have F := (F.same (y4.trans t4)).app (RowsB.one (a := r4) (x := false) upd_same)
    have cur := cur4.trans t4
    generalize upd D4 r4 (HO.tup [.bl false, .bl false]) = A4 at t4 F cur ⊢
    have el := t4 _ _ (y4 _ _ el)
    have G := G.same (y4.trans t4)
    refine ⟨by show 2 ≤ sizeLine; decide, fun q2 n2 => ?_⟩
    have tl := same_new (o := HO.lst [.ref r3, .ref r4]) n2
    have e2 : upd A4 q2 (HO.lst [.ref r3, .ref r4]) q2 = some (.lst [.ref r3, .ref r4]) := upd_same
    generalize upd A4 q2 (HO.lst [.ref r3, .ref r4]) = Gx at tl e2 ⊢
    refine ⟨l1, q2, xs1, _, rfl, rfl, tl _ _ el, e2, by (show xs1.length + 2 ≤ sizeLine); have := sizeLine_eq; omega, fun l2 nn2 => ?_⟩
    have tl2 := same_new (o := HO.lst (xs1 ++ [.ref r3, .ref r4])) nn2
    have el' : upd Gx l2 (HO.lst (xs1 ++ [.ref r3, .ref r4])) l2 = some (.lst (xs1 ++ [.ref r3, .ref r4])) := upd_same
    have G' : RowsB (upd Gx l2 (HO.lst (xs1 ++ [.ref r3, .ref r4]))) (xs1 ++ [.ref r3, .ref r4]) := ((G.same tl).app (F.same tl)).same tl2
    have cur := (cur.trans tl).trans tl2
    have len2 : (xs1 ++ [V.ref r3, .ref r4]).length ≤ 4 := by
      rw [List.length_append]
      show xs1.length + 2 ≤ 4
      omega
    clear F G el e2 tl tl2 nn2
    generalize xs1 ++ [V.ref r3, .ref r4] = xs2 at el' G' len2 cur ⊢
    generalize upd Gx l2 (HO.lst xs2) = G2 at el' G' cur ⊢
    have el := el'
    have G := G'
    have F : RowsB G2 [] := fun v hv => by cases hv
    clear el' G'
    dsimp only [gName, List.set]
    refine ⟨_, rfl, ?_⟩
    refine ⟨_, rfl, _, rfl, _, rfl, _, rfl, ?_⟩
    dsimp only [tNil]
    try rw [List.append_nil]
    refine col_of (n := (n : Nat)) hm nz fun k5 D5 y5 _ ck5 => ?_
    have cur5 := cur.trans y5
    clear cur
    obtain ⟨dd5, ss5, ee5, _⟩ := id ck5
    refine ⟨k, dk, _, rfl, cur5 _ _ ek, .inl ⟨k5, dd5, _, rfl, ee5⟩, k, n, c, m, .ref k5, rfl, ck.same cur5, .inl ⟨k5, _, _, _, rfl, ck5, ?_⟩⟩
    rw [show ((decide (n = (n : Nat)) && decide (c = c)) && decide (m = m)) = true by simp]
    refine ⟨by show 2 ≤ sizeLine; decide, fun r5 m5 => ?_⟩
    have t5 := same_new (o := HO.tup [.bl true, .bl true]) m5
    have F := (F.same (y5.trans t5)).app (RowsB.one (a := r5) (x := true) upd_same)
    have cur := cur5.trans t5
    generalize upd D5 r5 (HO.tup [.bl true, .bl true]) = A5 at t5 F cur ⊢
    have el := t5 _ _ (y5 _ _ el)
    have G := G.same (y5.trans t5)
    have cur6 := cur
    clear cur
    have y6 := Same.refl A5
    refine ⟨_, rfl, _, rfl, k, dk, _, rfl, cur6 _ _ ek, .inl ⟨kp, dp, _, rfl, cur6 _ _ ep⟩, k, n, c, m, .ref kp, rfl, ck.same cur6, .inl ⟨kp, n, c, "signed", rfl, cp.same cur6, ⟨_, rfl, ?_⟩⟩⟩
    rw [show (!((decide (n = n) && decide (c = c)) && decide (m = "signed"))) = (!decide (V.str m = V.str "signed")) by rw [Own.dec_str]; simp]
    refine ⟨_, rfl, rfl, by show 2 ≤ sizeLine; decide, fun r6 m6 => ?_⟩
    have t6 := same_new (o := HO.tup [.bl (!decide (V.str m = V.str "signed")), .bl (!decide (V.str m = V.str "signed"))]) m6
    have F := (F.same (y6.trans t6)).app (RowsB.one (a := r6) (x := (!decide (V.str m = V.str "signed"))) upd_same)
    have cur := cur6.trans t6
    generalize upd A5 r6 (HO.tup [.bl (!decide (V.str m = V.str "signed")), .bl (!decide (V.str m = V.str "signed"))]) = A6 at t6 F cur ⊢
    have el := t6 _ _ (y6 _ _ el)
    have G := G.same (y6.trans t6)
    refine ⟨by show 2 ≤ sizeLine; decide, fun q3 n3 => ?_⟩
    have tl := same_new (o := HO.lst [.ref r5, .ref r6]) n3
    have e2 : upd A6 q3 (HO.lst [.ref r5, .ref r6]) q3 = some (.lst [.ref r5, .ref r6]) := upd_same
    generalize upd A6 q3 (HO.lst [.ref r5, .ref r6]) = Gx at tl e2 ⊢
    refine ⟨l2, q3, xs2, _, rfl, rfl, tl _ _ el, e2, by (show xs2.length + 2 ≤ sizeLine); have := sizeLine_eq; omega, fun l3 nn3 => ?_⟩
    have tl2 := same_new (o := HO.lst (xs2 ++ [.ref r5, .ref r6])) nn3
    have el' : upd Gx l3 (HO.lst (xs2 ++ [.ref r5, .ref r6])) l3 = some (.lst (xs2 ++ [.ref r5, .ref r6])) := upd_same
    have G' : RowsB (upd Gx l3 (HO.lst (xs2 ++ [.ref r5, .ref r6]))) (xs2 ++ [.ref r5, .ref r6]) := ((G.same tl).app (F.same tl)).same tl2
    have cur := (cur.trans tl).trans tl2
    have len3 : (xs2 ++ [V.ref r5, .ref r6]).length ≤ 6 := by
      rw [List.length_append]
      show xs2.length + 2 ≤ 6
      omega
    clear F G el e2 tl tl2 nn3
    generalize xs2 ++ [V.ref r5, .ref r6] = xs3 at el' G' len3 cur ⊢
    generalize upd Gx l3 (HO.lst xs3) = G3 at el' G' cur ⊢
    have el := el'
    have G := G'
    have F : RowsB G3 [] := fun v hv => by cases hv
    clear el' G'
    dsimp only [gName, List.set]
    refine ⟨_, rfl, ?_⟩
    refine ⟨_, rfl, _, rfl, _, _, rfl, rfl, _, rfl, _, rfl, ?_⟩
    dsimp only [tNil]
    try rw [List.append_nil]
    refine col_of (n := (n + 1 : Nat)) hm (by omega) fun k7 D7 y7 _ ck7 => ?_
    have cur7 := cur.trans y7
    clear cur
    obtain ⟨dd7, ss7, ee7, _⟩ := id ck7
    refine ⟨k, dk, _, rfl, cur7 _ _ ek, .inl ⟨k7, dd7, _, rfl, ee7⟩, k, n, c, m, .ref k7, rfl, ck.same cur7, .inl ⟨k7, _, _, _, rfl, ck7, ?_⟩⟩
    rw [show ((decide (n = (n + 1 : Nat)) && decide (c = c)) && decide (m = m)) = false by simp]
    refine ⟨by show 2 ≤ sizeLine; decide, fun r7 m7 => ?_⟩
    have t7 := same_new (o := HO.tup [.bl false, .bl false]) m7
    have F := (F.same (y7.trans t7)).app (RowsB.one (a := r7) (x := false) upd_same)
    have cur := cur7.trans t7
    generalize upd D7 r7 (HO.tup [.bl false, .bl false]) = A7 at t7 F cur ⊢
    have el := t7 _ _ (y7 _ _ el)
    have G := G.same (y7.trans t7)
    have cur8 := cur
    clear cur
    have y8 := Same.refl A7
    refine ⟨_, rfl, _, rfl, k, dk, _, rfl, cur8 _ _ ek, ⟨S, sh, dx, _, rfl, cur8 _ _ es, St.s1⟩, k, n, c, m, .ref sh, rfl, ck.same cur8, .inr ⟨S, sh, dx, _, rfl, cur8 _ _ es, TS.cls, IS, St.k1, ?_⟩⟩
    refine ⟨by show 2 ≤ sizeLine; decide, fun r8 m8 => ?_⟩
    have t8 := same_new (o := HO.tup [.bl false, .bl false]) m8
    have F := (F.same (y8.trans t8)).app (RowsB.one (a := r8) (x := false) upd_same)
    have cur := cur8.trans t8
    generalize upd A7 r8 (HO.tup [.bl false, .bl false]) = A8 at t8 F cur ⊢
    have el := t8 _ _ (y8 _ _ el)
    have G := G.same (y8.trans t8)
    have cur9 := cur
    clear cur
    have y9 := Same.refl A8
    refine ⟨_, rfl, _, rfl, sh, dx, _, rfl, cur9 _ _ es, ⟨Co, k, dk, _, rfl, cur9 _ _ ek, St.s2⟩, sh, n, c, .ref k, rfl, hs.same cur9, .inr (.inl ⟨Co, k, dk, _, rfl, cur9 _ _ ek, TC.cls, IC, St.k2, ?_⟩)⟩
    refine ⟨by show 2 ≤ sizeLine; decide, fun r9 m9 => ?_⟩
    have t9 := same_new (o := HO.tup [.bl false, .bl false]) m9
    have F := (F.same (y9.trans t9)).app (RowsB.one (a := r9) (x := false) upd_same)
    have cur := cur9.trans t9
    generalize upd A8 r9 (HO.tup [.bl false, .bl false]) = A9 at t9 F cur ⊢
    have el := t9 _ _ (y9 _ _ el)
    have G := G.same (y9.trans t9)
    refine ⟨by show 3 ≤ sizeLine; decide, fun q4 n4 => ?_⟩
    have tl := same_new (o := HO.lst [.ref r7, .ref r8, .ref r9]) n4
    have e2 : upd A9 q4 (HO.lst [.ref r7, .ref r8, .ref r9]) q4 = some (.lst [.ref r7, .ref r8, .ref r9]) := upd_same
    generalize upd A9 q4 (HO.lst [.ref r7, .ref r8, .ref r9]) = Gx at tl e2 ⊢
    refine ⟨l3, q4, xs3, _, rfl, rfl, tl _ _ el, e2, by (show xs3.length + 3 ≤ sizeLine); have := sizeLine_eq; omega, fun l4 nn4 => ?_⟩
    have tl2 := same_new (o := HO.lst (xs3 ++ [.ref r7, .ref r8, .ref r9])) nn4
    have el' : upd Gx l4 (HO.lst (xs3 ++ [.ref r7, .ref r8, .ref r9])) l4 = some (.lst (xs3 ++ [.ref r7, .ref r8, .ref r9])) := upd_same
    have G' : RowsB (upd Gx l4 (HO.lst (xs3 ++ [.ref r7, .ref r8, .ref r9]))) (xs3 ++ [.ref r7, .ref r8, .ref r9]) := ((G.same tl).app (F.same tl)).same tl2
    have cur := (cur.trans tl).trans tl2
    have len4 : (xs3 ++ [V.ref r7, .ref r8, .ref r9]).length ≤ 9 := by
      rw [List.length_append]
      show xs3.length + 3 ≤ 9
      omega
    clear F G el e2 tl tl2 nn4
    generalize xs3 ++ [V.ref r7, .ref r8, .ref r9] = xs4 at el' G' len4 cur ⊢
    generalize upd Gx l4 (HO.lst xs4) = G4 at el' G' cur ⊢
    have el := el'
    have G := G'
    have F : RowsB G4 [] := fun v hv => by cases hv
    clear el' G'
    dsimp only [gName, List.set]
    refine ⟨_, rfl, l4, rfl, ⟨_, SqL.of el⟩, fun D nD => lc_list (K := K) (xs := xs4) (fun i H' => Same G4 H' ∧ G4 D = none ∧ H' D = some (.lst ((List.replicate i true).map V.bl))) ⟨same_new nD, nD, upd_same⟩ (fun i H' _ z => SqL.of (z.1 _ _ el)) ?_ ?_⟩
    · rintro i x C1 hx ⟨s5, nD, hD⟩
      have hi : i < xs4.length := (List.getElem?_eq_some_iff.mp hx).1
      obtain ⟨a, x, rfl, ea⟩ := G _ (List.mem_of_getElem? hx)
      have ea := s5 _ _ ea
      dsimp only [gName, List.set]
      refine ⟨rfl, ?_⟩
      unfold tYes
      dsimp only
      rw [if_pos rfl]
      refine ⟨_, rfl, a, _, 0, _, rfl, rfl, SqT.of ea, rfl, _, rfl, a, _, 1, _, rfl, rfl, SqT.of ea, rfl, .inr ⟨.bl x, rfl, odd_bl _, ?_⟩⟩
      refine ⟨_, hD, ?_, ?_, nD, ?_⟩
      · rw [List.length_map, List.length_replicate]
        have := sizeLine_eq
        omega
      · intro b o eb
        rw [upd_ne (ne_of_none eb nD)]
        exact s5 _ _ eb
      · rw [upd_same, List.replicate_succ']
        simp
    rintro C1 ⟨s5, nD, hD⟩
    refine ⟨D, List.replicate xs4.length true, rfl, SqL.of hD, ?_⟩
    rw [show (List.replicate xs4.length true).all id = true from List.all_eq_true.mpr fun b hb => (List.eq_of_mem_replicate hb).symm ▸ rfl]
    exact q _ (zz.trans (cur.trans s5))
end
end K09

/-! own layer, of no law: OWNR: rows of a lambda and the value that it is refused with. -/
namespace Own
open PySem PySem.Spec PyProof.Rows L2 LamX NdefX
/-- what stands stands still, the tables of code and the pen at d apart -/
def KeepT (d : Addr) (H H' : Hp) : Prop := ∀ b o, b ≠ d → H b = some o → (∀ ps, o ≠ .tbl ps) → H' b = some o
/-- objects that neither lists nor tables of code are -/
def Firm (H : Hp) (is : List (Addr × HO)) : Prop := ∀ p ∈ is, H p.1 = some p.2 ∧ (∀ l, p.2 ≠ .lst l) ∧ ∀ ps, p.2 ≠ .tbl ps
theorem Firm.ext {H H' : Hp} {is : List (Addr × HO)} (h : Firm H is) (e : ExtN H H') : Firm H' is := fun p hp => ⟨e _ _ (h p hp).1 (h p hp).2.2, (h p hp).2⟩
theorem Firm.put {H : Hp} {is : List (Addr × HO)} {r : Addr} {l : List V} {o : HO} (h : Firm H is) (hr : H r = some (.lst l)) : Firm (upd H r o) is := fun p hp => ⟨(upd_ne (ne_of (h p hp).1 hr ((h p hp).2.1 l))).trans (h p hp).1, (h p hp).2⟩
def Odds (H : Hp) (vs : List V) : Prop := ∀ x ∈ vs, Odd H x
theorem Odds.ext {H H' : Hp} {vs : List V} (h : Odds H vs) (e : ExtN H H') : Odds H' vs := fun x hx => (h x hx).ext e
theorem Odds.same {H H' : Hp} {vs : List V} (h : Odds H vs) (e : Same H H') : Odds H' vs := fun x hx => (h x hx).same e
theorem Odds.keep {H H' : Hp} {vs : List V} {d : Addr} {B : Int} (h : Odds H vs) (p : Pen H d B) (k : Keep d H H') : Odds H' vs := fun x hx => (h x hx).keep (Pen_odd p (h x hx)) k
theorem Odds.put {H : Hp} {vs : List V} {r : Addr} {o : HO} (h : Odds H vs) (n : ∀ x ∈ vs, x ≠ .ref r) : Odds (upd H r o) vs := fun x hx => (h x hx).put (n x hx)
theorem Odds.cons {H : Hp} {x : V} {vs : List V} (a : Odd H x) (b : Odds H vs) : Odds H (x :: vs) := fun y hy => by
  rcases List.mem_cons.mp hy with rfl | hy
  · exact a
  · exact b y hy
theorem Odds.nil {H : Hp} : Odds H [] := fun y hy => by cases hy
/-- the list of the rows so far, and what else stands: odd values, firm objects -/
structure Rb {ι : Type} (nf : ι → Addr → NF) (bf : ι → Expr) (due : ι → V) (H0 H : Hp) (r : Addr) (k : Nat) (vs : List V) (is : List (Addr × HO)) : Prop where
  ex : ∃ R : List (ι × V × Addr), H r = some (.lst (R.map fun p => .ref p.2.2)) ∧ R.length = k ∧ ∀ p ∈ R, RowAt H (nf p.1) (bf p.1) p.2.1 p.2.2 ∧ p.2.1 = due p.1
  od : Odds H vs
  nr : ∀ x ∈ vs, x ≠ .ref r
  st : Firm H is
  kp : ∀ b o, b ≠ r → H0 b = some o → (∀ ps, o ≠ .tbl ps) → H b = some o
section
variable {ι : Type} {nf : ι → Addr → NF} {bf : ι → Expr} {due : ι → V} {H0 H H1 H' : Hp} {r q : Addr} {k : Nat} {vs : List V} {is : List (Addr × HO)} {v : V} {o : HO}
theorem Rb.ext (h : Rb nf bf due H0 H r k vs is) (e : ExtN H H') : Rb nf bf due H0 H' r k vs is := by
  obtain ⟨R, h1, h2, h3⟩ := h.ex
  exact ⟨⟨R, e _ _ h1 (fun ps z => by cases z), h2, fun p hp => ⟨(h3 p hp).1.ext e, (h3 p hp).2⟩⟩, h.od.ext e, h.nr, h.st.ext e, fun b o n z y => e _ _ (h.kp b o n z y) y⟩
theorem Rb.set {D : Addr} {zs : List V} (h : Rb nf bf due H0 H r k vs is) (hD : H D = some (.lst zs)) (n : D ≠ r) (nx : ∀ x ∈ vs, x ≠ .ref D) (n0 : H0 D = none) : Rb nf bf due H0 (upd H D o) r k vs is := by
  obtain ⟨R, h1, h2, h3⟩ := h.ex
  exact ⟨⟨R, (upd_ne n.symm).trans h1, h2, fun p hp => ⟨(h3 p hp).1.put hD, (h3 p hp).2⟩⟩, h.od.put nx, h.nr, h.st.put hD, fun b o m z y => (upd_ne (ne_of_none z n0)).trans (h.kp b o m z y)⟩
theorem Rb.now (h : Rb nf bf due H0 H r k vs is) : Rb nf bf due H H r k vs is := ⟨h.ex, h.od, h.nr, h.st, fun b o _ e _ => e⟩
theorem Rb.lst (h : Rb nf bf due H0 H r k vs is) : ∃ ys, H r = some (.lst ys) ∧ ys.length = k := by
  obtain ⟨R, h1, h2, h3⟩ := h.ex
  exact ⟨_, h1, by rw [List.length_map]; exact h2⟩
theorem Rb.add {i : ι} {f c' : Addr} (h : Rb nf bf due H0 H r k vs is) (hv : v = due i) (e : ExtN H H1) (a : LamAt H1 f (nf i c') (bf i)) (c : H1 (nf i c').c = some (CodeO (nf i c').c (nf i c').qual)) (nq : H1 q = none) :
    ∃ xs, upd H1 q (.tup [.ref f, v]) r = some (.lst xs) ∧ xs.length = k ∧ Rb nf bf due H0 (upd (upd H1 q (.tup [.ref f, v])) r (.lst (xs ++ [.ref q]))) r (k + 1) vs is := by
  have g := (h.ext e).ext (extN_new (o := .tup [.ref f, v]) nq)
  have e2 := extN_new (o := HO.tup [.ref f, v]) nq
  obtain ⟨R, h1, h2, h3⟩ := g.ex
  refine ⟨_, h1, by rw [List.length_map]; exact h2, ⟨R ++ [(i, v, q)], by rw [upd_same, List.map_append]; rfl, by rw [List.length_append, h2]; rfl, fun p hp => ?_⟩, g.od.put g.nr, g.nr, g.st.put h1, fun b o m z y => (upd_ne m).trans (g.kp b o m z y)⟩
  rcases List.mem_append.mp hp with hp | hp
  · exact ⟨(h3 p hp).1.put h1, (h3 p hp).2⟩
  · rw [List.mem_singleton.mp hp]
    exact ⟨RowAt.put ⟨f, c', upd_same, a.ext e2, e2 _ _ c codeO_ne⟩ h1, hv⟩
/-- the list begins with one row -/
theorem Rb.one {i : ι} {f c' : Addr} (od : Odds H vs) (st : Firm H is) (hv : v = due i) (e : ExtN H H1) (a : LamAt H1 f (nf i c') (bf i)) (c : H1 (nf i c').c = some (CodeO (nf i c').c (nf i c').qual)) (nq : H1 q = none) (nr : upd H1 q (.tup [.ref f, v]) r = none) :
    Rb nf bf due (upd (upd H1 q (.tup [.ref f, v])) r (.lst [.ref q])) (upd (upd H1 q (.tup [.ref f, v])) r (.lst [.ref q])) r 1 vs is ∧ ∀ b o, H b = some o → (∀ ps, o ≠ .tbl ps) → b ≠ r ∧ upd (upd H1 q (.tup [.ref f, v])) r (.lst [.ref q]) b = some o := by
  have y6 := extN_new (o := HO.tup [.ref f, v]) nq
  have eA : ExtN H (upd H1 q (.tup [.ref f, v])) := e.trans y6
  have y8 := extN_new (o := HO.lst [.ref q]) nr
  refine ⟨⟨⟨[(i, v, q)], upd_same, rfl, fun p hp => ?_⟩, (od.ext eA).ext y8, fun x hx => (od.ext eA x hx).off nr, (st.ext eA).ext y8, fun b o _ e _ => e⟩, fun b o z nt => ⟨ne_of_none (eA _ _ z nt) nr, y8 _ _ (eA _ _ z nt) nt⟩⟩
  rw [List.mem_singleton.mp hp]
  exact ⟨RowAt.ext ⟨f, c', upd_same, a.ext y6, y6 _ _ c codeO_ne⟩ y8, hv⟩
end
/-- all([refused(row[0], row[1]) for row in rows]): D the new list -/
theorem rb_all {ι : Type} {K : PySem.W.Frag} {L : ι → Lam} {due : ι → V} {sp : (Hp → VK → XK → Prop) → List V → Hp → VK → Prop} {C : Addr} {fld : Str} {j : Nat} {σ : L2.St} {r D : Addr} {ys : List V} {H0 HA : Hp} {vs : List V} {is : List (Addr × HO)} {k : Nat} {Qd : Hp → Prop}
    (hsp : ∀ (x : V) (H : Hp) (tl : Hp → VK → XK → Prop) (Q : VK), Odd H x → (∀ (Q' : VK) (E' : XK), Bad C fld x H E' → tl H Q' E') → (∀ H', Same H H' → Q (.bl true) H') → sp tl [x] H Q)
    (told : ∀ (H : Hp) (i : ι), Odds H vs → Firm H is → Odd H (due i) ∧ ∀ (Q' : VK) (E' : XK), Bad C fld (due i) H E' → (L i).sp (L i).ws H Q' E')
    (hw : ∀ x : V, wipe ((wipe σ [j]).set j (some x)) [j] = wipe σ [j]) (hv : ∀ x : V, ((wipe σ [j]).set j (some x))[j]? = some (some x))
    (G : Rb (fun i => (L i).nf) (fun i => (L i).b) due H0 HA r k vs is) (hy : HA r = some (.lst ys)) (hk : k ≤ 1000) (nD : HA D = none)
    (q : ∀ H', (∀ b o, b ≠ r → HA b = some o → (∀ ps, o ≠ .tbl ps) → H' b = some o) → (∃ bs : List Bool, H' D = some (.lst (bs.map V.bl)) ∧ bs.all id = true) → Qd H') :
    ∃ Wv : Nat → Nat → Hp → Prop, (∃ m, Wv 0 m (upd HA D (.lst []))) ∧ ∀ i m H, Wv i m H → ((Itl K r).stop i H ∧ Qd H) ∨ ((Itl K r).go i H ∧ ∃ Nx : Hp → Prop, (∀ H', Nx H' → ∃ m', m' < m ∧ Wv (i + 1) m' H') ∧ ∀ x H', (Itl K r).yld i H x H' →
      (gName j) x (wipe σ [j]) H' fun σ2 H2 => wipe σ2 [j] = wipe σ [j] ∧ tYes σ2 H2 fun b H3 => if b = true then (tLamCall L sp (tCons (tOp (rIxT K) (tVar j) (tC (.int 0))) (tCons (tOp (rIxT K) (tVar j) (tC (.int 1))) tNil))) σ2 H3 fun y H4 => ∃ acc, H4 D = some (.lst acc) ∧ acc.length < sizeLine ∧ Nx (upd H4 D (.lst (acc ++ [y]))) else Nx H3) := by
  have hDr : D ≠ r := (ne_of_none hy nD).symm
  have nDx : ∀ x ∈ vs, x ≠ .ref D := fun x hx => (G.od x hx).off nD
  have G0 := G.now
  obtain ⟨R0, hR0, hR1, hR2⟩ := G0.ex
  have hys : ys = R0.map fun p => .ref p.2.2 := by
    have z := hy.symm.trans hR0
    cases z
    rfl
  refine lc_list (K := K) (xs := ys) (fun i H' => Rb (fun i => (L i).nf) (fun i => (L i).b) due HA H' r k vs is ∧ H' r = some (.lst ys) ∧ (∀ p ∈ R0, RowAt H' ((L p.1).nf) ((L p.1).b) p.2.1 p.2.2) ∧ H' D = some (.lst (List.replicate i (.bl true)))) ⟨G0.ext (extN_new nD), (extN_new nD) _ _ hy (fun ps z => by cases z), fun p hp => (hR2 p hp).1.ext (extN_new nD), upd_same⟩ (fun i H' _ hb => SqL.of hb.2.1) ?_ ?_
  · rintro i a H' ha ⟨G1, hr1, hrows, hD⟩
    obtain ⟨hi, _⟩ := List.getElem?_eq_some_iff.mp ha
    rw [hys, List.getElem?_map] at ha
    obtain ⟨pr, hpr, rfl⟩ := Option.map_eq_some_iff.mp ha
    have hmem := List.mem_of_getElem? hpr
    have hve := (hR2 pr hmem).2
    obtain ⟨f, c', h1, h2, h3⟩ := hrows pr hmem
    obtain ⟨o1, o2⟩ := told H' pr.1 G1.od G1.st
    rw [← hve] at o1 o2
    refine ⟨hw _, ?_⟩
    unfold tYes
    dsimp only
    rw [if_pos rfl]
    refine ⟨_, hv _, pr.2.2, _, 0, _, rfl, rfl, SqT.of h1, rfl, _, hv _, pr.2.2, _, 1, _, rfl, rfl, SqT.of h1, rfl, pr.1, f, c', [pr.2.1], rfl, h2, h3, hsp _ _ _ _ o1 o2 fun H2 s2 => ⟨_, s2 _ _ hD, ?_, ?_, ?_, ?_, ?_⟩⟩
    · rw [List.length_replicate]
      have hl : ys.length = k := by rw [hys, List.length_map]; exact hR1
      have := sizeLine_eq
      omega
    · exact (G1.ext (ExtN.of s2)).set (s2 _ _ hD) hDr nDx nD
    · exact (upd_ne hDr.symm).trans (s2 _ _ hr1)
    · exact fun p hp => ((hrows p hp).ext (ExtN.of s2)).put (s2 _ _ hD)
    · rw [upd_same, List.replicate_succ']
  · rintro H' ⟨G1, hr1, hrows, hD⟩
    refine q H' (fun b o n e nt => G1.kp b o n e nt) ⟨List.replicate ys.length true, by rw [List.map_replicate]; exact hD, ?_⟩
    rw [List.all_eq_true]
    intro b hb
    rw [List.eq_of_mem_replicate hb]
    rfl
end Own

/-! k09: the nine lambdas; refused. -/
namespace K09
open PySem PySem.Spec PyProof.Rows L2 LamX NdefX Own
abbrev sRefs : Stmt := topS 50
abbrev sNo : Stmt := topS 49
def noE : Expr := .Constant .none 0 ⟨0, 0, 0, 0⟩
def eltE (i : Nat) : Expr → Expr
  | .List es _ => es.getD i noE
  | .Tuple es _ _ => es.getD i noE
  | _ => noE
def argE : Stmt → Expr
  | .Expr (.Call _ (a :: _) _ _) _ => a
  | _ => noE
def lamArgs : Expr → Arguments
  | .Lambda a _ _ _ => a
  | _ => ⟨[], [], none, [], [], none, []⟩
def lamBody : Expr → Expr
  | .Lambda _ b _ _ => b
  | _ => noE
def lamScope : Expr → Scope
  | .Lambda _ _ s _ => s
  | _ => ⟨.function, [], false, false, []⟩
abbrev bRefs (i : Nat) : Stmt := (defBody sRefs).getD i (.Pass ⟨0, 0, 0, 0⟩)
abbrev lx1 : Expr := eltE 0 (eltE 0 (asgV (bRefs 2)))
abbrev lx2 : Expr := eltE 0 (argE (bRefs 3))
abbrev lx3 : Expr := eltE 0 (argE (bRefs 4))
abbrev lx4 : Expr := eltE 0 (argE (bRefs 5))
abbrev lx5 : Expr := eltE 0 (argE (bRefs 6))
abbrev lx6 : Expr := eltE 0 (argE (bRefs 7))
abbrev lx7 : Expr := eltE 0 (argE (bRefs 8))
abbrev lx8 : Expr := eltE 0 (argE (bRefs 9))
abbrev lx9 : Expr := eltE 0 (argE (bRefs 10))
section
variable {P : Program} {w : World} {K : PySem.W.Frag} {mg : Str → Option Value} {base : Heap} {C CN W S Co : Addr} {X : Cx} {f c' : Addr}
def sq1 (C CN W S Co : Addr) : List (Option V) → Hp → VK → XK → Prop := fun ws H Q E => ∃ wr lo : V, ws = [some wr, some lo] ∧ spShape C CN S [wr, lo] H Q E
def sq2 (C CN W S Co : Addr) : List (Option V) → Hp → VK → XK → Prop := fun ws H Q E => ∃ lo : V, ws = [some lo] ∧ spShape C CN S [.int 0, lo] H Q E
def sq3 (C CN W S Co : Addr) : List (Option V) → Hp → VK → XK → Prop := fun ws H Q E => ∃ wr lo od : V, ws = [some wr, some lo, some od] ∧ spCol C CN Co S [lo, wr, od] H Q E
def sq4 (C CN W S Co : Addr) : List (Option V) → Hp → VK → XK → Prop := fun ws H Q E => ∃ n wr od : V, ws = [some n, some wr, some od] ∧ spCol C CN Co S [n, wr, od] H Q E
def sq5 (C CN W S Co : Addr) : List (Option V) → Hp → VK → XK → Prop := fun ws H Q E => ∃ od : V, ws = [some od] ∧ spCol C CN Co S [.int 0, .int 0, od] H Q E
def sq6 (C CN W S Co : Addr) : List (Option V) → Hp → VK → XK → Prop := fun ws H Q E => ∃ (wr : V) (a : Addr) (n c : Nat), ws = [some wr, some (.ref a)] ∧ SAt S H a n c ∧ Thing H wr ∧ Bad C "value" wr H E
def sq7 (C CN W S Co : Addr) : List (Option V) → Hp → VK → XK → Prop := fun ws H Q E => ∃ (n c : Nat) (wr : V), ws = [some (.int n), some (.int c), some wr] ∧ ¬ (n = 0 ∧ c = 0) ∧ Thing H wr ∧ Bad C "value" wr H E
def sq8 (C CN W S Co : Addr) : List (Option V) → Hp → VK → XK → Prop := fun ws H Q E => ∃ wr lo : V, ws = [some wr, some lo] ∧ Thing H wr ∧ Bad C "value" wr H E
def sq9 (C CN W S Co : Addr) : List (Option V) → Hp → VK → XK → Prop := fun ws H Q E => ∃ i : Int, ws = [some (.int i)] ∧ Bad C "value" (.int i) H E
theorem nsL1 : NScope ["_law_wrong_here", "_law_below"] [] ["_law_wrong_here", "_law_below"] (lamScope lx1) := nscope_by (by decide +kernel)
theorem nsL2 : NScope ["_law_below"] [] ["_law_below"] (lamScope lx2) := nscope_by (by decide +kernel)
theorem nsL3 : NScope ["_law_wrong_here", "_law_below", "_law_odd"] [] ["_law_wrong_here", "_law_below", "_law_odd"] (lamScope lx3) := nscope_by (by decide +kernel)
theorem nsL4 : NScope ["_law_whole", "_law_wrong_here", "_law_odd"] [] ["_law_whole", "_law_wrong_here", "_law_odd"] (lamScope lx4) := nscope_by (by decide +kernel)
theorem nsL5 : NScope ["_law_odd"] [] ["_law_odd"] (lamScope lx5) := nscope_by (by decide +kernel)
theorem nsL6 : NScope ["_law_wrong_here", "_law_shape_here"] [] ["_law_wrong_here", "_law_shape_here"] (lamScope lx6) := nscope_by (by decide +kernel)
theorem nsL7 : NScope ["_law_whole", "_law_scale", "_law_wrong_here"] [] ["_law_whole", "_law_scale", "_law_wrong_here"] (lamScope lx7) := nscope_by (by decide +kernel)
theorem nsL8 : NScope ["_law_wrong_here", "_law_below"] [] ["_law_wrong_here", "_law_below"] (lamScope lx8) := nscope_by (by decide +kernel)
theorem nsL9 : NScope ["_law_below"] [] ["_law_below"] (lamScope lx9) := nscope_by (by decide +kernel)
theorem lok1 (T : WorthC K mg W) (M : WMk P w K mg base C W) (TS : ShapeC K mg S) (MS : SMk P w K mg base C CN S) (TC : ColC K mg Co) (MC : CMk P w K mg base C CN Co S) (MF : SMeth P w K mg base S "fits" 11 ["self", "worth"] (spFits C W S)) (MH : SMeth P w K mg base Co "holds" 12 ["self", "worth"] (spHld C W Co S)) (DLs : DefOk P w K mg base (L2.CX P w) "least_shape" 12 ["worths"] (spLs C W S)) : LOk P w K mg base (L2.CX P w) 14 f (lamF X (lamArgs lx1) (lamScope lx1) c') (lamBody lx1) ["_law_wrong_here", "_law_below"] (sq1 C CN W S Co) := by
  refine lok_of (N := ["_law_wrong_here", "_law_below"]) (ps := []) nsL1 rfl (fun dV doc pm ctv s us hl hd => ?_) (fun A outer s H ws Q E hr hl h => ?_)
  · obtain rfl := List.length_eq_zero_iff.mp hl
    rcases hd with ⟨_, rfl⟩ | ⟨n, _⟩
    · exact .of_eq rfl
    · exact (n rfl).elim
  · obtain ⟨wr, lo, rfl, h⟩ := h
    refine ⟨_, (pe_shape (C := C) (CN := CN) (E := E) MS TS hr (by decide) (by rfl) (passes_call (takes_of rfl rfl rfl rfl) fun _ _ _ _ z => z) (pa_cons (pv 0) (pa_cons (pv 1) pa_nil))), ?_⟩
    refine ⟨_, rfl, _, rfl, ?_⟩
    dsimp only [tNil]
    try rw [List.append_nil]
    exact h
theorem lok2 (T : WorthC K mg W) (M : WMk P w K mg base C W) (TS : ShapeC K mg S) (MS : SMk P w K mg base C CN S) (TC : ColC K mg Co) (MC : CMk P w K mg base C CN Co S) (MF : SMeth P w K mg base S "fits" 11 ["self", "worth"] (spFits C W S)) (MH : SMeth P w K mg base Co "holds" 12 ["self", "worth"] (spHld C W Co S)) (DLs : DefOk P w K mg base (L2.CX P w) "least_shape" 12 ["worths"] (spLs C W S)) : LOk P w K mg base (L2.CX P w) 14 f (lamF X (lamArgs lx2) (lamScope lx2) c') (lamBody lx2) ["_law_below"] (sq2 C CN W S Co) := by
  refine lok_of (N := ["_law_below"]) (ps := []) nsL2 rfl (fun dV doc pm ctv s us hl hd => ?_) (fun A outer s H ws Q E hr hl h => ?_)
  · obtain rfl := List.length_eq_zero_iff.mp hl
    rcases hd with ⟨_, rfl⟩ | ⟨n, _⟩
    · exact .of_eq rfl
    · exact (n rfl).elim
  · obtain ⟨lo, rfl, h⟩ := h
    refine ⟨_, (pe_shape (C := C) (CN := CN) (E := E) MS TS hr (by decide) (by rfl) (passes_call (takes_of rfl rfl rfl rfl) fun _ _ _ _ z => z) (pa_cons pe_int (pa_cons (pv 0) pa_nil))), ?_⟩
    refine ⟨_, rfl, ?_⟩
    dsimp only [tNil]
    try rw [List.append_nil]
    exact h
theorem lok3 (T : WorthC K mg W) (M : WMk P w K mg base C W) (TS : ShapeC K mg S) (MS : SMk P w K mg base C CN S) (TC : ColC K mg Co) (MC : CMk P w K mg base C CN Co S) (MF : SMeth P w K mg base S "fits" 11 ["self", "worth"] (spFits C W S)) (MH : SMeth P w K mg base Co "holds" 12 ["self", "worth"] (spHld C W Co S)) (DLs : DefOk P w K mg base (L2.CX P w) "least_shape" 12 ["worths"] (spLs C W S)) : LOk P w K mg base (L2.CX P w) 14 f (lamF X (lamArgs lx3) (lamScope lx3) c') (lamBody lx3) ["_law_wrong_here", "_law_below", "_law_odd"] (sq3 C CN W S Co) := by
  refine lok_of (N := ["_law_wrong_here", "_law_below", "_law_odd"]) (ps := []) nsL3 rfl (fun dV doc pm ctv s us hl hd => ?_) (fun A outer s H ws Q E hr hl h => ?_)
  · obtain rfl := List.length_eq_zero_iff.mp hl
    rcases hd with ⟨_, rfl⟩ | ⟨n, _⟩
    · exact .of_eq rfl
    · exact (n rfl).elim
  · obtain ⟨wr, lo, od, rfl, h⟩ := h
    refine ⟨_, (pe_col3 (C := C) (CN := CN) (E := E) MC TC hr (by decide) (by rfl) (passes_call (takes_of rfl rfl rfl rfl) fun _ _ _ _ z => z) (pa_cons (pv 1) (pa_cons (pv 0) (pa_cons (pv 2) pa_nil)))), ?_⟩
    refine ⟨_, rfl, _, rfl, _, rfl, ?_⟩
    dsimp only [tNil]
    try rw [List.append_nil]
    exact h
theorem lok4 (T : WorthC K mg W) (M : WMk P w K mg base C W) (TS : ShapeC K mg S) (MS : SMk P w K mg base C CN S) (TC : ColC K mg Co) (MC : CMk P w K mg base C CN Co S) (MF : SMeth P w K mg base S "fits" 11 ["self", "worth"] (spFits C W S)) (MH : SMeth P w K mg base Co "holds" 12 ["self", "worth"] (spHld C W Co S)) (DLs : DefOk P w K mg base (L2.CX P w) "least_shape" 12 ["worths"] (spLs C W S)) : LOk P w K mg base (L2.CX P w) 14 f (lamF X (lamArgs lx4) (lamScope lx4) c') (lamBody lx4) ["_law_whole", "_law_wrong_here", "_law_odd"] (sq4 C CN W S Co) := by
  refine lok_of (N := ["_law_whole", "_law_wrong_here", "_law_odd"]) (ps := []) nsL4 rfl (fun dV doc pm ctv s us hl hd => ?_) (fun A outer s H ws Q E hr hl h => ?_)
  · obtain rfl := List.length_eq_zero_iff.mp hl
    rcases hd with ⟨_, rfl⟩ | ⟨n, _⟩
    · exact .of_eq rfl
    · exact (n rfl).elim
  · obtain ⟨n, wr, od, rfl, h⟩ := h
    refine ⟨_, (pe_col3 (C := C) (CN := CN) (E := E) MC TC hr (by decide) (by rfl) (passes_call (takes_of rfl rfl rfl rfl) fun _ _ _ _ z => z) (pa_cons (pv 0) (pa_cons (pv 1) (pa_cons (pv 2) pa_nil)))), ?_⟩
    refine ⟨_, rfl, _, rfl, _, rfl, ?_⟩
    dsimp only [tNil]
    try rw [List.append_nil]
    exact h
theorem lok5 (T : WorthC K mg W) (M : WMk P w K mg base C W) (TS : ShapeC K mg S) (MS : SMk P w K mg base C CN S) (TC : ColC K mg Co) (MC : CMk P w K mg base C CN Co S) (MF : SMeth P w K mg base S "fits" 11 ["self", "worth"] (spFits C W S)) (MH : SMeth P w K mg base Co "holds" 12 ["self", "worth"] (spHld C W Co S)) (DLs : DefOk P w K mg base (L2.CX P w) "least_shape" 12 ["worths"] (spLs C W S)) : LOk P w K mg base (L2.CX P w) 14 f (lamF X (lamArgs lx5) (lamScope lx5) c') (lamBody lx5) ["_law_odd"] (sq5 C CN W S Co) := by
  refine lok_of (N := ["_law_odd"]) (ps := []) nsL5 rfl (fun dV doc pm ctv s us hl hd => ?_) (fun A outer s H ws Q E hr hl h => ?_)
  · obtain rfl := List.length_eq_zero_iff.mp hl
    rcases hd with ⟨_, rfl⟩ | ⟨n, _⟩
    · exact .of_eq rfl
    · exact (n rfl).elim
  · obtain ⟨od, rfl, h⟩ := h
    refine ⟨_, (pe_col3 (C := C) (CN := CN) (E := E) MC TC hr (by decide) (by rfl) (passes_call (takes_of rfl rfl rfl rfl) fun _ _ _ _ z => z) (pa_cons pe_int (pa_cons pe_int (pa_cons (pv 0) pa_nil)))), ?_⟩
    refine ⟨_, rfl, ?_⟩
    dsimp only [tNil]
    try rw [List.append_nil]
    exact h
theorem lok6 (T : WorthC K mg W) (M : WMk P w K mg base C W) (TS : ShapeC K mg S) (MS : SMk P w K mg base C CN S) (TC : ColC K mg Co) (MC : CMk P w K mg base C CN Co S) (MF : SMeth P w K mg base S "fits" 11 ["self", "worth"] (spFits C W S)) (MH : SMeth P w K mg base Co "holds" 12 ["self", "worth"] (spHld C W Co S)) (DLs : DefOk P w K mg base (L2.CX P w) "least_shape" 12 ["worths"] (spLs C W S)) : LOk P w K mg base (L2.CX P w) 14 f (lamF X (lamArgs lx6) (lamScope lx6) c') (lamBody lx6) ["_law_wrong_here", "_law_shape_here"] (sq6 C CN W S Co) := by
  refine lok_of (N := ["_law_wrong_here", "_law_shape_here"]) (ps := []) nsL6 rfl (fun dV doc pm ctv s us hl hd => ?_) (fun A outer s H ws Q E hr hl h => ?_)
  · obtain rfl := List.length_eq_zero_iff.mp hl
    rcases hd with ⟨_, rfl⟩ | ⟨n, _⟩
    · exact .of_eq rfl
    · exact (n rfl).elim
  · obtain ⟨wr, a, n, c, rfl, sa, th, bad⟩ := h
    obtain ⟨fF, fdF, mF, FF, bF⟩ := MF.ex
    refine ⟨_, (pe_meth (E := E) (pv 1) TS.cls mF FF (hr.mono (by decide)) bF .nil (passes_call (takes_of rfl rfl rfl rfl) fun _ _ _ _ z => z) (pa_cons (pv 0) pa_nil)), ?_⟩
    obtain ⟨dx, ea⟩ := id sa
    exact ⟨_, rfl, a, dx, _, rfl, ea, sLk_no _ _ (by decide +kernel) (by decide +kernel), _, rfl, a, n, c, wr, rfl, sa, .inl ⟨th, bad⟩⟩
theorem lok7 (T : WorthC K mg W) (M : WMk P w K mg base C W) (TS : ShapeC K mg S) (MS : SMk P w K mg base C CN S) (TC : ColC K mg Co) (MC : CMk P w K mg base C CN Co S) (MF : SMeth P w K mg base S "fits" 11 ["self", "worth"] (spFits C W S)) (MH : SMeth P w K mg base Co "holds" 12 ["self", "worth"] (spHld C W Co S)) (DLs : DefOk P w K mg base (L2.CX P w) "least_shape" 12 ["worths"] (spLs C W S)) : LOk P w K mg base (L2.CX P w) 14 f (lamF X (lamArgs lx7) (lamScope lx7) c') (lamBody lx7) ["_law_whole", "_law_scale", "_law_wrong_here"] (sq7 C CN W S Co) := by
  refine lok_of (N := ["_law_whole", "_law_scale", "_law_wrong_here"]) (ps := []) nsL7 rfl (fun dV doc pm ctv s us hl hd => ?_) (fun A outer s H ws Q E hr hl h => ?_)
  · obtain rfl := List.length_eq_zero_iff.mp hl
    rcases hd with ⟨_, rfl⟩ | ⟨n, _⟩
    · exact .of_eq rfl
    · exact (n rfl).elim
  · obtain ⟨n, c, wr, rfl, nz, th, bad⟩ := h
    obtain ⟨fH, fdH, mH, FH, bH⟩ := MH.ex
    refine ⟨_, (pe_meth (E := E) (pe_col2 (C := C) (CN := CN) (E := E) MC TC hr (by decide) (by rfl) (passes_call (takes_of rfl rfl rfl rfl) fun _ _ _ _ z => z) (pa_cons (pv 0) (pa_cons (pv 1) pa_nil))) TC.cls mH FH (hr.mono (by decide)) bH .nil (passes_call (takes_of rfl rfl rfl rfl) fun _ _ _ _ z => z) (pa_cons (pv 2) pa_nil)), ?_⟩
    refine ⟨_, rfl, _, rfl, ?_⟩
    dsimp only [tNil]
    refine col_of (List.mem_cons_self ..) nz fun k H1 s1 nk ck => ?_
    obtain ⟨dk, sk, ek, _⟩ := id ck
    exact ⟨k, dk, _, rfl, ek, cLk_no _ _ (by decide +kernel) (by decide +kernel), _, rfl, k, n, c, "signed", wr, rfl, ck, .inl ⟨th.same s1, bad.same s1⟩⟩
theorem lok8 (T : WorthC K mg W) (M : WMk P w K mg base C W) (TS : ShapeC K mg S) (MS : SMk P w K mg base C CN S) (TC : ColC K mg Co) (MC : CMk P w K mg base C CN Co S) (MF : SMeth P w K mg base S "fits" 11 ["self", "worth"] (spFits C W S)) (MH : SMeth P w K mg base Co "holds" 12 ["self", "worth"] (spHld C W Co S)) (DLs : DefOk P w K mg base (L2.CX P w) "least_shape" 12 ["worths"] (spLs C W S)) : LOk P w K mg base (L2.CX P w) 14 f (lamF X (lamArgs lx8) (lamScope lx8) c') (lamBody lx8) ["_law_wrong_here", "_law_below"] (sq8 C CN W S Co) := by
  refine lok_of (N := ["_law_wrong_here", "_law_below"]) (ps := []) nsL8 rfl (fun dV doc pm ctv s us hl hd => ?_) (fun A outer s H ws Q E hr hl h => ?_)
  · obtain rfl := List.length_eq_zero_iff.mp hl
    rcases hd with ⟨_, rfl⟩ | ⟨n, _⟩
    · exact .of_eq rfl
    · exact (n rfl).elim
  · obtain ⟨wr, lo, rfl, th, bad⟩ := h
    refine ⟨_, (pe_def (E := E) DLs hr (by decide) (by rfl) (passes_call (takes_of rfl rfl rfl rfl) fun _ _ _ _ z => z) (pa_cons (pe_lst (pa_cons (pe_worth1 (C := C) (E := E) M T hr (by decide) (by rfl) (passes_call (takes_of rfl rfl rfl rfl) fun _ _ _ _ z => z) pe_int) (pa_cons (pv 0) (pa_cons (pv 1) pa_nil)))) pa_nil)), ?_⟩
    refine ⟨.int 1, rfl, ?_⟩
    refine worth_of (C := C) (v := 1) (n := 0) (by decide) fun u s' p H1 lw s1 _ wp => ?_
    refine ⟨_, rfl, _, rfl, by show 3 ≤ sizeLine; decide, fun l nl => ?_⟩
    have s2 := same_new (o := HO.lst [.ref p, wr, lo]) nl
    refine ⟨.ref l, rfl, .inr ⟨l, [.ref p], [wr, lo], [(u, s')], rfl, upd_same, .cons ⟨p, rfl, wp.same s2⟩ .nil, (show 1 ≤ 1000 by decide), fun r hr => ?_, .inl ⟨wr, [lo], rfl, (th.same s1).same s2, (bad.same s1).same s2⟩⟩⟩
    obtain rfl := List.mem_singleton.mp hr
    have z := low_natA lw
    have z2 := lw.le
    have e : 1 < 2 ^ 1600 := by decide +kernel
    exact ⟨by show u.natAbs < _; omega, by show s' < 500; omega⟩
theorem lok9 (T : WorthC K mg W) (M : WMk P w K mg base C W) (TS : ShapeC K mg S) (MS : SMk P w K mg base C CN S) (TC : ColC K mg Co) (MC : CMk P w K mg base C CN Co S) (MF : SMeth P w K mg base S "fits" 11 ["self", "worth"] (spFits C W S)) (MH : SMeth P w K mg base Co "holds" 12 ["self", "worth"] (spHld C W Co S)) (DLs : DefOk P w K mg base (L2.CX P w) "least_shape" 12 ["worths"] (spLs C W S)) : LOk P w K mg base (L2.CX P w) 14 f (lamF X (lamArgs lx9) (lamScope lx9) c') (lamBody lx9) ["_law_below"] (sq9 C CN W S Co) := by
  refine lok_of (N := ["_law_below"]) (ps := []) nsL9 rfl (fun dV doc pm ctv s us hl hd => ?_) (fun A outer s H ws Q E hr hl h => ?_)
  · obtain rfl := List.length_eq_zero_iff.mp hl
    rcases hd with ⟨_, rfl⟩ | ⟨n, _⟩
    · exact .of_eq rfl
    · exact (n rfl).elim
  · obtain ⟨i, rfl, h⟩ := h
    refine ⟨_, (pe_def (E := E) DLs hr (by decide) (by rfl) (passes_call (takes_of rfl rfl rfl rfl) fun _ _ _ _ z => z) (pa_cons (pv 0) pa_nil)), ?_⟩
    exact ⟨_, rfl, .int i, rfl, .inl ⟨i, rfl, h⟩⟩
/-- the nine -/
inductive Elv where
  | l1 | l2 | l3 | l4 | l5 | l6 | l7 | l8 | l9
def nfN (X : Cx) : Elv → Addr → NF
  | .l1 => fun c' => lamF X (lamArgs lx1) (lamScope lx1) c'
  | .l2 => fun c' => lamF X (lamArgs lx2) (lamScope lx2) c'
  | .l3 => fun c' => lamF X (lamArgs lx3) (lamScope lx3) c'
  | .l4 => fun c' => lamF X (lamArgs lx4) (lamScope lx4) c'
  | .l5 => fun c' => lamF X (lamArgs lx5) (lamScope lx5) c'
  | .l6 => fun c' => lamF X (lamArgs lx6) (lamScope lx6) c'
  | .l7 => fun c' => lamF X (lamArgs lx7) (lamScope lx7) c'
  | .l8 => fun c' => lamF X (lamArgs lx8) (lamScope lx8) c'
  | .l9 => fun c' => lamF X (lamArgs lx9) (lamScope lx9) c'
def bN : Elv → Expr
  | .l1 => lamBody lx1
  | .l2 => lamBody lx2
  | .l3 => lamBody lx3
  | .l4 => lamBody lx4
  | .l5 => lamBody lx5
  | .l6 => lamBody lx6
  | .l7 => lamBody lx7
  | .l8 => lamBody lx8
  | .l9 => lamBody lx9
def frN : Elv → List Str
  | .l1 => ["_law_wrong_here", "_law_below"]
  | .l2 => ["_law_below"]
  | .l3 => ["_law_wrong_here", "_law_below", "_law_odd"]
  | .l4 => ["_law_whole", "_law_wrong_here", "_law_odd"]
  | .l5 => ["_law_odd"]
  | .l6 => ["_law_wrong_here", "_law_shape_here"]
  | .l7 => ["_law_whole", "_law_scale", "_law_wrong_here"]
  | .l8 => ["_law_wrong_here", "_law_below"]
  | .l9 => ["_law_below"]
def slN : Elv → List Nat
  | .l1 => [3, 4]
  | .l2 => [4]
  | .l3 => [3, 4, 6]
  | .l4 => [1, 3, 6]
  | .l5 => [6]
  | .l6 => [3, 5]
  | .l7 => [1, 2, 3]
  | .l8 => [3, 4]
  | .l9 => [4]
def sqN (C CN W S Co : Addr) : Elv → List (Option V) → Hp → VK → XK → Prop
  | .l1 => sq1 C CN W S Co
  | .l2 => sq2 C CN W S Co
  | .l3 => sq3 C CN W S Co
  | .l4 => sq4 C CN W S Co
  | .l5 => sq5 C CN W S Co
  | .l6 => sq6 C CN W S Co
  | .l7 => sq7 C CN W S Co
  | .l8 => sq8 C CN W S Co
  | .l9 => sq9 C CN W S Co
def lamN (X : Cx) (C CN W S Co : Addr) (σ : L2.St) (i : Elv) : Lam := ⟨nfN X i, bN i, frN i, (slN i).map (slotAt σ), sqN C CN W S Co i⟩
theorem lokNs (T : WorthC K mg W) (M : WMk P w K mg base C W) (TS : ShapeC K mg S) (MS : SMk P w K mg base C CN S) (TC : ColC K mg Co) (MC : CMk P w K mg base C CN Co S) (MF : SMeth P w K mg base S "fits" 11 ["self", "worth"] (spFits C W S)) (MH : SMeth P w K mg base Co "holds" 12 ["self", "worth"] (spHld C W Co S)) (DLs : DefOk P w K mg base (L2.CX P w) "least_shape" 12 ["worths"] (spLs C W S)) {σ : L2.St} (i : Elv) (f c' : Addr) :
    LOk P w K mg base (L2.CX P w) 14 f ((lamN X C CN W S Co σ i).nf c') (lamN X C CN W S Co σ i).b (lamN X C CN W S Co σ i).fr (lamN X C CN W S Co σ i).sp := by
  cases i
  · exact lok1 T M TS MS TC MC MF MH DLs
  · exact lok2 T M TS MS TC MC MF MH DLs
  · exact lok3 T M TS MS TC MC MF MH DLs
  · exact lok4 T M TS MS TC MC MF MH DLs
  · exact lok5 T M TS MS TC MC MF MH DLs
  · exact lok6 T M TS MS TC MC MF MH DLs
  · exact lok7 T M TS MS TC MC MF MH DLs
  · exact lok8 T M TS MS TC MC MF MH DLs
  · exact lok9 T M TS MS TC MC MF MH DLs
end
section
variable {P : Program} {w : World} {K : PySem.W.Frag} {mg : Str → Option Value} {base : Heap} {C CN : Addr}
theorem ld_refdH (A : At K mg "_law_refused" sRefd ["_law_deed", "_law_value"]) (T : ErrC P w K mg base "BadValue" "value" 1 C (spErr C "value")) (D : DefOk P w K mg base CX0 "_law_same" 1 ["_law_one", "_law_other"] spSame) : LamDefAt P w K mg base "_law_refused" 15 (spRefd C) := by
  obtain ⟨g, fd, F, gm, b⟩ := A.ex
  refine ⟨g, ⟨fun A outer s H us f vs FF bb fr ws spl kl Q hr hkl e0 r G hf hc CC q => ?_⟩, gm, F.kp⟩
  have KX : K.In s.heap := e0.mod.kin.keeps fun b o e => (e0.bs b o e).1
  obtain ⟨v, rfl, od, q1, q2⟩ := q
  have hb := b s us KX (by rw [List.append_nil, ← r.length]; rfl)
  rw [List.append_nil] at hb
  obtain ⟨oc, od', kV, doc, pm, an, cdv, ct, osl, rfl, lk, hcd⟩ := F.ex
  refine LamX.run_ofS (N := ["_law_deed", "_law_value", "_law_told_here", "e"]) lk hcd scRefd hr e0 hb r rfl fun hr' => ?_
  have nd := scRefd.nd
  refine ⟨_, pss_cons (ps_set (i := 2) nd rfl (.inl rfl) pe_non)
    (pss_cons (ps_try_as (i := 3) (c := .ref C) rfl rfl nd rfl rfl ⟨rfl, by decide, .inl T.g⟩ L2.takes0
        (fun W pn xe tk _ => pss_one (ps_expr (pe_deedS (i := 0) (E := WE W) CC rfl G (hr'.mono (by omega)) (fun σ => passAt tk σ) rfl (.inl rfl))))
        (fun a oe cls d pn hz hf => pss_one (ps_set (i := 2) nd rfl (.inl rfl) (pe_tup (pa_cons (pe_xf T.xf T.noV hz hf (pv 3)) pa_nil)))))
    (pss_one (ps_ret (pe_and (pe_cmpR op_notN (pv 2) pe_non (nomark _)) (pe_one (pe_def D hr' (by decide) (by rfl) pass0 (pa_cons (pe_ix ix_tup (pv 2) pe_int (fun _ _ => rfl)) (pa_cons (pv 1) pa_nil)))))))), ?_⟩
  refine ⟨rfl, hf, hc, q1 _ _ fun d H1 s1 nd1 e1 => ⟨true, T.te, fun _ a na => ?_, fun z => nomatch z⟩⟩
  refine ⟨_, rfl, rfl, rfl, d, _, v, rfl, e1, by simp [List.lookup], by show 1 ≤ sizeLine; decide, fun p np => ?_⟩
  refine ⟨_, rfl, rfl, _, rfl, iteT ?_⟩
  have s2 : Same H1 (upd H1 p (.tup [v])) := same_new np
  refine ⟨_, rfl, p, [v], 0, v, rfl, rfl, SqT.of upd_same, rfl, v, rfl, .inr ⟨v, rfl, (od.same s1).same s2, ?_⟩⟩
  exact q2 _ (s1.trans s2)
theorem scNo : FnScope ["_law_deed", "_law_told_here"] ["_law_deed"] (defScope sNo) := ⟨rfl, rfl, rfl, by decide +kernel, rfl, by decide +kernel, by decide +kernel⟩
def spNo (CN : Addr) : (Hp → VK → XK → Prop) → List V → Hp → VK → Prop := fun tl rest H Q => rest = [] ∧ (∀ (Q' : VK) (E' : XK), (∀ H', Same H H' → E' (.ref CN) none H') → tl H Q' E') ∧ ∀ H', Same H H' → Q (.bl true) H'
theorem ld_no (A : At K mg "_law_no_figures" sNo ["_law_deed"]) (TN : ErrN P w K mg base "NoFigures" CN) (te : PySem.W.exmOne K (.ref CN) (.ref CN) = some true) : LamDefAt P w K mg base "_law_no_figures" 15 (spNo CN) := by
  obtain ⟨g, fd, F, gm, b⟩ := A.ex
  refine ⟨g, ⟨fun A outer s H us f vs FF bb fr ws spl kl Q hr hkl e0 r G hf hc CC q => ?_⟩, gm, F.kp⟩
  have KX : K.In s.heap := e0.mod.kin.keeps fun b o e => (e0.bs b o e).1
  obtain ⟨rfl, q1, q2⟩ := q
  have hb := b s us KX (by rw [List.append_nil, ← r.length]; rfl)
  rw [List.append_nil] at hb
  obtain ⟨oc, od', kV, doc, pm, an, cdv, ct, osl, rfl, lk, hcd⟩ := F.ex
  refine LamX.run_ofS (N := ["_law_deed", "_law_told_here"]) lk hcd scNo hr e0 hb r rfl fun hr' => ?_
  have nd := scNo.nd
  refine ⟨_, pss_cons (ps_set (i := 1) nd rfl (.inl rfl) pe_bl)
    (pss_cons (ps_try_only (c := .ref CN) rfl rfl ⟨rfl, by decide, .inl TN.g⟩ L2.takes0
        (fun W' pn xe tk _ => pss_one (ps_expr (pe_deedS (i := 0) (E := WE W') CC rfl G (hr'.mono (by omega)) (fun σ => passAt tk σ) rfl (.inl rfl))))
        (fun a oe cls d pn _ _ => pss_one (ps_set (i := 1) nd rfl (.inl rfl) pe_bl)))
    (pss_one (ps_ret (pv 1)))), ?_⟩
  refine ⟨rfl, hf, hc, q1 _ _ fun H1 s1 => ⟨true, te, fun _ x nx => ?_, fun z => nomatch z⟩⟩
  exact ⟨_, rfl, q2 _ s1⟩
end
end K09

/-! k09: refusals. -/
namespace K09
open PySem PySem.Spec PyProof.Rows L2 LamX NdefX Own
def qL : Str := (envOfC "_law_refusals" (defScope sRefs) 0 0 .none).qual ++ "<lambda>"
abbrev nRefs : List Str := ["_law_pen", "_law_whole", "_law_scale", "_law_wrong_here", "_law_below", "_law_shape_here", "_law_odd", "_law_rows", "_law_row"]
theorem scRefs : FnScope nRefs ["_law_pen", "_law_whole", "_law_scale"] (defScope sRefs) := ⟨rfl, rfl, rfl, by decide +kernel, rfl, by decide +kernel, by decide +kernel⟩
theorem fr1 : ∀ y ∈ (lamScope lx1).names, y.2 = .free → (defScope sRefs).names.lookup y.1 = some .cell ∨ (defScope sRefs).names.lookup y.1 = some .free := by decide +kernel
theorem in1 : ∀ y ∈ (["_law_wrong_here", "_law_below"] : List Str), (y, NameKind.free) ∈ (lamScope lx1).names := by decide +kernel
theorem fr2 : ∀ y ∈ (lamScope lx2).names, y.2 = .free → (defScope sRefs).names.lookup y.1 = some .cell ∨ (defScope sRefs).names.lookup y.1 = some .free := by decide +kernel
theorem in2 : ∀ y ∈ (["_law_below"] : List Str), (y, NameKind.free) ∈ (lamScope lx2).names := by decide +kernel
theorem fr3 : ∀ y ∈ (lamScope lx3).names, y.2 = .free → (defScope sRefs).names.lookup y.1 = some .cell ∨ (defScope sRefs).names.lookup y.1 = some .free := by decide +kernel
theorem in3 : ∀ y ∈ (["_law_wrong_here", "_law_below", "_law_odd"] : List Str), (y, NameKind.free) ∈ (lamScope lx3).names := by decide +kernel
theorem fr4 : ∀ y ∈ (lamScope lx4).names, y.2 = .free → (defScope sRefs).names.lookup y.1 = some .cell ∨ (defScope sRefs).names.lookup y.1 = some .free := by decide +kernel
theorem in4 : ∀ y ∈ (["_law_whole", "_law_wrong_here", "_law_odd"] : List Str), (y, NameKind.free) ∈ (lamScope lx4).names := by decide +kernel
theorem fr5 : ∀ y ∈ (lamScope lx5).names, y.2 = .free → (defScope sRefs).names.lookup y.1 = some .cell ∨ (defScope sRefs).names.lookup y.1 = some .free := by decide +kernel
theorem in5 : ∀ y ∈ (["_law_odd"] : List Str), (y, NameKind.free) ∈ (lamScope lx5).names := by decide +kernel
theorem fr6 : ∀ y ∈ (lamScope lx6).names, y.2 = .free → (defScope sRefs).names.lookup y.1 = some .cell ∨ (defScope sRefs).names.lookup y.1 = some .free := by decide +kernel
theorem in6 : ∀ y ∈ (["_law_wrong_here", "_law_shape_here"] : List Str), (y, NameKind.free) ∈ (lamScope lx6).names := by decide +kernel
theorem fr7 : ∀ y ∈ (lamScope lx7).names, y.2 = .free → (defScope sRefs).names.lookup y.1 = some .cell ∨ (defScope sRefs).names.lookup y.1 = some .free := by decide +kernel
theorem in7 : ∀ y ∈ (["_law_whole", "_law_scale", "_law_wrong_here"] : List Str), (y, NameKind.free) ∈ (lamScope lx7).names := by decide +kernel
theorem fr8 : ∀ y ∈ (lamScope lx8).names, y.2 = .free → (defScope sRefs).names.lookup y.1 = some .cell ∨ (defScope sRefs).names.lookup y.1 = some .free := by decide +kernel
theorem in8 : ∀ y ∈ (["_law_wrong_here", "_law_below"] : List Str), (y, NameKind.free) ∈ (lamScope lx8).names := by decide +kernel
theorem fr9 : ∀ y ∈ (lamScope lx9).names, y.2 = .free → (defScope sRefs).names.lookup y.1 = some .cell ∨ (defScope sRefs).names.lookup y.1 = some .free := by decide +kernel
theorem in9 : ∀ y ∈ (["_law_below"] : List Str), (y, NameKind.free) ∈ (lamScope lx9).names := by decide +kernel
theorem blkF : BlkOk nRefs (defScope sRefs) (lcScope (argN 0 (retE (bRefs 11)))) [("_law_row", 8)] := blkOk_by (by decide +kernel)
/-- which value is refused -/
def due (wr od : V) (lo : Int) : Elv → V
  | .l1 => wr
  | .l2 => .int lo
  | .l3 => .int lo
  | .l4 => wr
  | .l5 => od
  | .l6 => wr
  | .l7 => wr
  | .l8 => wr
  | .l9 => .int lo
section
variable {P : Program} {w : World} {K : PySem.W.Frag} {mg : Str → Option Value} {base : Heap} {C CN W S Co : Addr}
theorem wrong_wh {x : V} (nx : Own.isInt x = false) : isWh x = false := by
  cases x <;> first | rfl | (simp [Own.isInt] at nx)
theorem wrong_int {x : V} (nx : Own.isInt x = false) (i : Int) : x ≠ .int i := fun z => by rw [z] at nx; cases nx
/-- each row's value is the one that is refused -/
theorem toldN {X : Cx} {dp rw wr od : V} {sh dx : Addr} {lo : Int} {n c : Nat} {y : Option V} (hlo : lo < 0) (nz : ¬ (n = 0 ∧ c = 0)) (hod : isMark od = false) (nw : Own.isInt wr = false)
    (H : Hp) (i : Elv) (os : Odds H [wr, od]) (fs : Firm H [(sh, .ins S dx [("whole", .int (n : Nat)), ("scale", .int (c : Nat))])]) : Odd H (due wr od lo i) ∧ ∀ (Q' : VK) (E' : XK), Bad C "value" (due wr od lo i) H E' →
    (lamN X C CN W S Co [some dp, some (.int (n : Nat)), some (.int (c : Nat)), some wr, some (.int lo), some (.ref sh), some od, some rw, y] i).sp (lamN X C CN W S Co [some dp, some (.int (n : Nat)), some (.int (c : Nat)), some wr, some (.int lo), some (.ref sh), some od, some rw, y] i).ws H Q' E' := by
  have ow : Odd H wr := os wr (by simp)
  have oo : Odd H od := os od (by simp)
  have sa : SAt S H sh n c := ⟨dx, (fs _ (List.mem_singleton.mpr rfl)).1⟩
  have wlo : isWh (.int lo) = false := decide_eq_false (by omega)
  have ww := wrong_wh nw
  have nlo : ∀ k : Nat, V.int lo ≠ .int k := fun k z => by have := V.int.inj z; omega
  cases i
  · exact ⟨ow, fun Q' E' bad => ⟨wr, .int lo, rfl, wr, .int lo, rfl, ow.thing, .int _, fun _ => bad, fun e => absurd (ww.symm.trans e) (by decide), fun u s e => absurd e (wrong_int nw _)⟩⟩
  · exact ⟨.flat rfl, fun Q' E' bad => ⟨.int lo, rfl, .int 0, .int lo, rfl, .int _, .int _, fun e => absurd e (by decide), fun _ _ => bad, fun u s _ e => absurd e (nlo s)⟩⟩
  · exact ⟨.flat rfl, fun Q' E' bad => ⟨wr, .int lo, od, rfl, .int lo, wr, od, rfl, .int _, ow.thing, oo.thing, fun _ => bad, fun e => absurd (wlo.symm.trans e) (by decide), fun e => absurd (wlo.symm.trans e) (by decide), fun u s m _ e => absurd e (nlo u)⟩⟩
  · exact ⟨ow, fun Q' E' bad => ⟨.int n, wr, od, rfl, .int n, wr, od, rfl, .int _, ow.thing, oo.thing, fun e => absurd e (by rw [isWh_cast]; decide), fun _ _ => bad, fun _ e => absurd (ww.symm.trans e) (by decide), fun u s m _ _ e => absurd e (wrong_int nw _)⟩⟩
  · exact ⟨oo, fun Q' E' bad => ⟨od, rfl, .int 0, .int 0, od, rfl, .int _, .int _, oo.thing, fun e => absurd e (by decide), fun _ e => absurd e (by decide), fun _ _ _ => bad, fun u s m hm _ _ e => absurd (hod.symm.trans (show isMark od = true by rw [e]; exact isMark_ok hm)) (by decide)⟩⟩
  · exact ⟨ow, fun Q' E' bad => ⟨wr, sh, n, c, rfl, sa, ow.thing, bad⟩⟩
  · exact ⟨ow, fun Q' E' bad => ⟨n, c, wr, rfl, nz, ow.thing, bad⟩⟩
  · exact ⟨ow, fun Q' E' bad => ⟨wr, .int lo, rfl, ow.thing, bad⟩⟩
  · exact ⟨.flat rfl, fun Q' E' bad => ⟨lo, rfl, bad⟩⟩
def spRefs (Pt : Addr) : Sp := fun vs H Q _ => ∃ (d : Addr) (n c : Nat) (B : Int), vs = [.ref d, .int n, .int c] ∧ ¬ (n = 0 ∧ c = 0) ∧ Pen H d B ∧ B ≤ 700000000 ∧ Tabs [(Pt, qL)] H ∧ ∀ H', Q (.bl true) H'
theorem ok_refs {c0 Pt : Addr} (A : AtC K mg "_law_refusals" sRefs ["_law_pen", "_law_whole", "_law_scale"] c0) (TB : TabB base mg c0 Pt) (B : Blt mg) (D1 : DefOk P w K mg base CX0 "_law_draw" 1 ["_law_pen", "_law_span"] spDraw) (D2 : DefOk P w K mg base CX0 "_law_pick" 2 ["_law_pen", "_law_some"] spPick)
    (D9 : DefOk P w K mg base CX0 "_law_wrong" 3 ["_law_pen"] spWrong) (T : WorthC K mg W) (M : WMk P w K mg base C W) (TS : ShapeC K mg S) (MS : SMk P w K mg base C CN S) (TC : ColC K mg Co) (MC : CMk P w K mg base C CN Co S) (MF : SMeth P w K mg base S "fits" 11 ["self", "worth"] (spFits C W S)) (MH : SMeth P w K mg base Co "holds" 12 ["self", "worth"] (spHld C W Co S)) (DLs : DefOk P w K mg base (L2.CX P w) "least_shape" 12 ["worths"] (spLs C W S)) (D6 : LamDefAt P w K mg base "_law_refused" 15 (spRefd C)) :
    DefOk P w K mg base CX0 "_law_refusals" 16 ["_law_pen", "_law_whole", "_law_scale"] (spRefs Pt) := by
  obtain ⟨g, oc, od0, kV, doc, pm, an, ct, osl, lk, hcd, gm, kp, bd⟩ := A.ex
  refine ⟨g, _, fn_of lk hcd scRefs (fun vs H Q E h => ?_) (fun A outer s H vs Q E hr h => ?_), gm, kp, bd⟩
  · obtain ⟨d, n, c, B, rfl, _⟩ := h
    rfl
  · obtain ⟨d, n, c, B0, rfl, nz, hp, hB, hT, q⟩ := h
    have nd := scRefs.nd
    have hm : (Pt, qL) ∈ [(Pt, qL)] := List.mem_singleton.mpr rfl
    have hu : ∀ p ∈ [(Pt, qL)], p.1 = Pt → p.2 = qL := fun p hp _ => by rw [List.mem_singleton.mp hp]
    refine ⟨_, pss_cons (ps_asg (pe_tup (pa_cons (pe_def D9 hr (by decide) (by rfl) pass0 (pa_cons (pv 0) pa_nil)) (pa_cons (pe_op op_sub (pe_un un_neg pe_int) (pe_def D1 hr (by decide) (by rfl) pass0 (pa_cons (pv 0) (pa_cons pe_int pa_nil)))) (pa_cons (pe_shape (C := C) (CN := CN) (E := E0) MS TS hr (by decide) (by rfl) passL (pa_cons (pv 1) (pa_cons (pv 2) pa_nil))) pa_nil)))) (pg_tup rfl (pgs_cons (pg_name (i := 3) nd rfl (.inr rfl)) (pgs_cons (pg_name (i := 4) nd rfl (.inr rfl)) (pgs_cons (pg_name (i := 5) nd rfl (.inr rfl)) pgs_nil)))))
      (pss_cons (ps_set (i := 6) nd rfl (.inr rfl) (pe_def D2 hr (by decide) (by rfl) pass0 (pa_cons (pv 0) (pa_cons (pe_lst (pa_cons pe_non (pa_cons pe_bl (pa_cons pe_str (pa_cons pe_str (pa_cons pe_str (pa_cons pe_str (pa_cons pe_int (pa_cons (pe_tup (pa_cons pe_str pa_nil)) pa_nil))))))))) pa_nil))))
      (pss_cons (ps_set (i := 7) nd rfl (.inl rfl) (pe_lst (pa_cons (pe_tup (pa_cons (pe_lamV TB rfl hm hu rfl rfl fr1) (pa_cons (pv 3) pa_nil))) pa_nil)))
      (pss_cons (ps_expr (pe_bm PySem.F.plainAttrs_list PySem.F.slot_list_append PySem.F.type_list_append mt_append (pv 7) (pa_cons (pe_tup (pa_cons (pe_lamV TB rfl hm hu rfl rfl fr2) (pa_cons (pv 4) pa_nil))) pa_nil)))
      (pss_cons (ps_expr (pe_bm PySem.F.plainAttrs_list PySem.F.slot_list_append PySem.F.type_list_append mt_append (pv 7) (pa_cons (pe_tup (pa_cons (pe_lamV TB rfl hm hu rfl rfl fr3) (pa_cons (pv 4) pa_nil))) pa_nil)))
      (pss_cons (ps_expr (pe_bm PySem.F.plainAttrs_list PySem.F.slot_list_append PySem.F.type_list_append mt_append (pv 7) (pa_cons (pe_tup (pa_cons (pe_lamV TB rfl hm hu rfl rfl fr4) (pa_cons (pv 3) pa_nil))) pa_nil)))
      (pss_cons (ps_expr (pe_bm PySem.F.plainAttrs_list PySem.F.slot_list_append PySem.F.type_list_append mt_append (pv 7) (pa_cons (pe_tup (pa_cons (pe_lamV TB rfl hm hu rfl rfl fr5) (pa_cons (pv 6) pa_nil))) pa_nil)))
      (pss_cons (ps_expr (pe_bm PySem.F.plainAttrs_list PySem.F.slot_list_append PySem.F.type_list_append mt_append (pv 7) (pa_cons (pe_tup (pa_cons (pe_lamV TB rfl hm hu rfl rfl fr6) (pa_cons (pv 3) pa_nil))) pa_nil)))
      (pss_cons (ps_expr (pe_bm PySem.F.plainAttrs_list PySem.F.slot_list_append PySem.F.type_list_append mt_append (pv 7) (pa_cons (pe_tup (pa_cons (pe_lamV TB rfl hm hu rfl rfl fr7) (pa_cons (pv 3) pa_nil))) pa_nil)))
      (pss_cons (ps_expr (pe_bm PySem.F.plainAttrs_list PySem.F.slot_list_append PySem.F.type_list_append mt_append (pv 7) (pa_cons (pe_tup (pa_cons (pe_lamV TB rfl hm hu rfl rfl fr8) (pa_cons (pv 3) pa_nil))) pa_nil)))
      (pss_cons (ps_expr (pe_bm PySem.F.plainAttrs_list PySem.F.slot_list_append PySem.F.type_list_append mt_append (pv 7) (pa_cons (pe_tup (pa_cons (pe_lamV TB rfl hm hu rfl rfl fr9) (pa_cons (pv 4) pa_nil))) pa_nil)))
      (pss_one (ps_ret (pe_callB (cr_all rfl) (by rfl) B.all PyProof.Rows.boot_all (pa_cons (pe_lcD (own := [("_law_row", 8)]) (te := fun σ => tLamCall (lamN (cxOf CX0 P w K mg base nRefs "_law_refusals" (defScope sRefs) g (.ref c0) A outer s H E) C CN W S Co σ) (spRefd C) (tCons (tOp (rIxT K) (tVar 8) (tC (.int 0))) (tCons (tOp (rIxT K) (tVar 8) (tC (.int 1))) tNil))) rfl nd (pi_list (pv 7)) blkF (fun _ _ _ _ _ => pg_name (i := 8) nd rfl (.inl rfl))
        (fun pins σ s' H' Cc cl fp I hfp => pe_lamcall (L := lamN _ C CN W S Co σ) D6 (show 14 < 15 by decide) hr (by decide) (lokNs T M TS MS TC MC MF MH DLs) (fun i c' => ?_) (fun i c' b => ?_) (by rfl)
          (pa_cons (pe_ix ix_tup (pv 8) pe_int (fun _ _ => rfl)) (pa_cons (pe_ix ix_tup (pv 8) pe_int (fun _ _ => rfl)) pa_nil)))) pa_nil)))))))))))))), ?_⟩
    · cases i
      · exact cells_blk I fr1 in1 rfl
      · exact cells_blk I fr2 in2 rfl
      · exact cells_blk I fr3 in3 rfl
      · exact cells_blk I fr4 in4 rfl
      · exact cells_blk I fr5 in5 rfl
      · exact cells_blk I fr6 in6 rfl
      · exact cells_blk I fr7 in7 rfl
      · exact cells_blk I fr8 in8 rfl
      · exact cells_blk I fr9 in9 rfl
    · cases i
      · exact cells_fp I fr1 hfp b
      · exact cells_fp I fr2 hfp b
      · exact cells_fp I fr3 hfp b
      · exact cells_fp I fr4 hfp b
      · exact cells_fp I fr5 hfp b
      · exact cells_fp I fr6 hfp b
      · exact cells_fp I fr7 hfp b
      · exact cells_fp I fr8 hfp b
      · exact cells_fp I fr9 hfp b
    · refine ⟨_, rfl, d, B0, rfl, hp, by omega, fun wr H2 wx k2 p2 => ?_⟩
      have T2 := tabs_keep hT hp k2.k
      refine ⟨_, rfl, _, rfl, d, 9, _, rfl, p2, by omega, by decide, by decide, fun v1 H3 b1 b2 k3 p3 => ⟨_, _, rfl, rfl, ?_⟩⟩
      have wo3 : Odds H3 [wr] := (Odds.nil.cons wx.od).keep p2 k3.k
      have T3 := tabs_keep T2 p2 k3.k
      have hlo : -1 - v1 < 0 := by omega
      refine ⟨_, rfl, _, rfl, ?_⟩
      try dsimp only [tNil]
      try rw [List.append_nil]
      refine shape_of nz fun sh H4 s4 _ hs4 => ?_
      obtain ⟨dsh, esh4⟩ := hs4
      have wo4 := wo3.same s4
      have T4 := T3.ext s4
      have p4 := p3.same s4
      refine ⟨by show 3 ≤ sizeLine; decide, fun pt np => ?_⟩
      have s5 := same_new (o := HO.tup [wr, .int (-1 - v1), .ref sh]) np
      refine ⟨pt, _, rfl, SqT.of upd_same, rfl, _, _, rfl, _, _, rfl, _, _, rfl, rfl, ?_⟩
      try dsimp only [gName, List.set]
      generalize upd H4 pt (.tup [wr, .int (-1 - v1), .ref sh]) = H5 at s5 ⊢
      generalize -1 - v1 = lo at hlo ⊢
      have wo5 := wo4.same s5
      have T5 := T4.ext s5
      have p5 := p4.same s5
      have esh5 := s5 _ _ esh4
      have nw := wx.ni
      try dsimp only [gName, List.set]
      clear s4 s5 wo3 wo4 T2 T3 T4 p2 p3 p4 k2 k3 esh4 np b1 b2 wx
      -- odd
      refine ⟨_, rfl, by show 1 ≤ sizeLine; decide, fun r1 m1 => ⟨by show 8 ≤ sizeLine; decide, fun g1 ng1 => ?_⟩⟩
      have s13 := same_new (o := HO.tup [.str "signed"]) m1
      have s14 := same_new (o := HO.lst [.non, .bl true, .str "", .str "Signed", .str "any", .str "negative", .int 0, .ref r1]) ng1
      have er1 := s14 _ _ (upd_same (H := H5) (a := r1) (o := .tup [.str "signed"]))
      have s15 := s13.trans s14
      refine ⟨d, g1, _, _, rfl, upd_same, by simp, by show 8 ≤ 1000; decide, p5.same s15, by omega, fun od H16 hwd k16 p16 => ?_⟩
      obtain ⟨pp, ns, cc, ll, ed, _⟩ := id (p5.same s15).ex
      have er1 := k16 _ _ (ne_of er1 ed (by intro y; cases y)) er1
      have hwd : isMark od = false ∧ Odd H16 od := by
        simp only [List.mem_cons, List.not_mem_nil, or_false] at hwd
        rcases hwd with rfl | rfl | rfl | rfl | rfl | rfl | rfl | rfl
        · exact ⟨rfl, .flat rfl⟩
        · exact ⟨rfl, .flat rfl⟩
        · exact ⟨by decide +kernel, .flat (by decide +kernel)⟩
        · exact ⟨by decide +kernel, .flat (by decide +kernel)⟩
        · exact ⟨by decide +kernel, .flat (by decide +kernel)⟩
        · exact ⟨by decide +kernel, .flat (by decide +kernel)⟩
        · exact ⟨rfl, .flat rfl⟩
        · exact ⟨rfl, .tup er1 (by decide +kernel)⟩
      obtain ⟨hod, ow16⟩ := hwd
      have esh15 := s15 _ _ esh5
      have esh16 := k16 _ _ (ne_of esh15 ed (by intro y; cases y)) esh15
      have T16 := tabs_keep (T5.ext s15) (p5.same s15) k16.k
      have os16 : Odds H16 [wr, od] := fun x hx => by
        have z := (wo5.same s15).keep (p5.same s15) k16.k
        simp only [List.mem_cons, List.not_mem_nil, or_false] at hx
        rcases hx with rfl | rfl
        · exact z _ (by simp)
        · exact ow16
      have fs16 : Firm H16 [(sh, .ins S dsh [("whole", .int (n : Nat)), ("scale", .int (c : Nat))])] := fun p hp => by
        rw [List.mem_singleton.mp hp]
        exact ⟨esh16, fun _ z => (by cases z), fun _ z => (by cases z)⟩
      try dsimp only [gName, List.set]
      clear s13 s14 s15 p5 k16 T5 esh5 esh15 ng1 m1 wo5 er1 ed ow16 esh16
      -- the rows
      refine ⟨T16, fun a1 c1 H6 x6 T6 _ l1 d1 => ⟨_, rfl, by show 2 ≤ sizeLine; decide, fun q1 m1 => ⟨by show 1 ≤ sizeLine; decide, fun r nr => ?_⟩⟩⟩
      have T := (T6.ext (same_new (o := HO.tup [.ref a1, wr]) m1)).ext (same_new (o := HO.lst [.ref q1]) nr)
      have G : ∀ X : Cx, X = (cxOf CX0 P w K mg base nRefs "_law_refusals" (defScope sRefs) g (.ref c0) A outer s H E) → Rb (nfN X) bN (due wr od lo) (upd (upd H6 q1 (.tup [.ref a1, wr])) r (.lst [.ref q1])) (upd (upd H6 q1 (.tup [.ref a1, wr])) r (.lst [.ref q1])) r 1 [wr, od] _ := fun X hX => by
        subst hX
        exact (Rb.one (i := Elv.l1) os16 fs16 rfl x6 l1 d1 m1 nr).1
      have G := G _ rfl
      generalize upd (upd H6 q1 (.tup [.ref a1, wr])) r (.lst [.ref q1]) = H9 at G T ⊢
      clear x6 T6 l1 d1 m1 nr T16 os16 fs16
      obtain ⟨ys, hy, _⟩ := G.lst
      refine ⟨_, rfl, .inl ⟨rfl, _, SqL.of hy⟩, T, fun a c2 H1 x1 T1 _ ll dd => ⟨_, rfl, by show 2 ≤ sizeLine; decide, fun q2 m => ?_⟩⟩
      obtain ⟨xs, u, hl, G⟩ := G.add (i := Elv.l2) (v := .int lo) rfl x1 ll dd m
      refine ⟨r, xs, _, rfl, rfl, u, by rw [hl]; show 1 < sizeLine; decide, ?_⟩
      have T := tabs_put (T1.ext (same_new m)) (o := .lst (xs ++ [.ref q2])) u
      generalize upd (upd H1 q2 (.tup [.ref a, .int lo])) r (.lst (xs ++ [.ref q2])) = H9 at G T ⊢
      clear x1 T1 ll dd m u hl hy
      obtain ⟨ys, hy, _⟩ := G.lst
      refine ⟨_, rfl, .inl ⟨rfl, _, SqL.of hy⟩, T, fun a c2 H1 x1 T1 _ ll dd => ⟨_, rfl, by show 2 ≤ sizeLine; decide, fun q3 m => ?_⟩⟩
      obtain ⟨xs, u, hl, G⟩ := G.add (i := Elv.l3) (v := .int lo) rfl x1 ll dd m
      refine ⟨r, xs, _, rfl, rfl, u, by rw [hl]; show 2 < sizeLine; decide, ?_⟩
      have T := tabs_put (T1.ext (same_new m)) (o := .lst (xs ++ [.ref q3])) u
      generalize upd (upd H1 q3 (.tup [.ref a, .int lo])) r (.lst (xs ++ [.ref q3])) = H9 at G T ⊢
      clear x1 T1 ll dd m u hl hy
      obtain ⟨ys, hy, _⟩ := G.lst
      refine ⟨_, rfl, .inl ⟨rfl, _, SqL.of hy⟩, T, fun a c2 H1 x1 T1 _ ll dd => ⟨_, rfl, by show 2 ≤ sizeLine; decide, fun q4 m => ?_⟩⟩
      obtain ⟨xs, u, hl, G⟩ := G.add (i := Elv.l4) (v := wr) rfl x1 ll dd m
      refine ⟨r, xs, _, rfl, rfl, u, by rw [hl]; show 3 < sizeLine; decide, ?_⟩
      have T := tabs_put (T1.ext (same_new m)) (o := .lst (xs ++ [.ref q4])) u
      generalize upd (upd H1 q4 (.tup [.ref a, wr])) r (.lst (xs ++ [.ref q4])) = H9 at G T ⊢
      clear x1 T1 ll dd m u hl hy
      obtain ⟨ys, hy, _⟩ := G.lst
      refine ⟨_, rfl, .inl ⟨rfl, _, SqL.of hy⟩, T, fun a c2 H1 x1 T1 _ ll dd => ⟨_, rfl, by show 2 ≤ sizeLine; decide, fun q5 m => ?_⟩⟩
      obtain ⟨xs, u, hl, G⟩ := G.add (i := Elv.l5) (v := od) rfl x1 ll dd m
      refine ⟨r, xs, _, rfl, rfl, u, by rw [hl]; show 4 < sizeLine; decide, ?_⟩
      have T := tabs_put (T1.ext (same_new m)) (o := .lst (xs ++ [.ref q5])) u
      generalize upd (upd H1 q5 (.tup [.ref a, od])) r (.lst (xs ++ [.ref q5])) = H9 at G T ⊢
      clear x1 T1 ll dd m u hl hy
      obtain ⟨ys, hy, _⟩ := G.lst
      refine ⟨_, rfl, .inl ⟨rfl, _, SqL.of hy⟩, T, fun a c2 H1 x1 T1 _ ll dd => ⟨_, rfl, by show 2 ≤ sizeLine; decide, fun q6 m => ?_⟩⟩
      obtain ⟨xs, u, hl, G⟩ := G.add (i := Elv.l6) (v := wr) rfl x1 ll dd m
      refine ⟨r, xs, _, rfl, rfl, u, by rw [hl]; show 5 < sizeLine; decide, ?_⟩
      have T := tabs_put (T1.ext (same_new m)) (o := .lst (xs ++ [.ref q6])) u
      generalize upd (upd H1 q6 (.tup [.ref a, wr])) r (.lst (xs ++ [.ref q6])) = H9 at G T ⊢
      clear x1 T1 ll dd m u hl hy
      obtain ⟨ys, hy, _⟩ := G.lst
      refine ⟨_, rfl, .inl ⟨rfl, _, SqL.of hy⟩, T, fun a c2 H1 x1 T1 _ ll dd => ⟨_, rfl, by show 2 ≤ sizeLine; decide, fun q7 m => ?_⟩⟩
      obtain ⟨xs, u, hl, G⟩ := G.add (i := Elv.l7) (v := wr) rfl x1 ll dd m
      refine ⟨r, xs, _, rfl, rfl, u, by rw [hl]; show 6 < sizeLine; decide, ?_⟩
      have T := tabs_put (T1.ext (same_new m)) (o := .lst (xs ++ [.ref q7])) u
      generalize upd (upd H1 q7 (.tup [.ref a, wr])) r (.lst (xs ++ [.ref q7])) = H9 at G T ⊢
      clear x1 T1 ll dd m u hl hy
      obtain ⟨ys, hy, _⟩ := G.lst
      refine ⟨_, rfl, .inl ⟨rfl, _, SqL.of hy⟩, T, fun a c2 H1 x1 T1 _ ll dd => ⟨_, rfl, by show 2 ≤ sizeLine; decide, fun q8 m => ?_⟩⟩
      obtain ⟨xs, u, hl, G⟩ := G.add (i := Elv.l8) (v := wr) rfl x1 ll dd m
      refine ⟨r, xs, _, rfl, rfl, u, by rw [hl]; show 7 < sizeLine; decide, ?_⟩
      have T := tabs_put (T1.ext (same_new m)) (o := .lst (xs ++ [.ref q8])) u
      generalize upd (upd H1 q8 (.tup [.ref a, wr])) r (.lst (xs ++ [.ref q8])) = H9 at G T ⊢
      clear x1 T1 ll dd m u hl hy
      obtain ⟨ys, hy, _⟩ := G.lst
      refine ⟨_, rfl, .inl ⟨rfl, _, SqL.of hy⟩, T, fun a c2 H1 x1 T1 _ ll dd => ⟨_, rfl, by show 2 ≤ sizeLine; decide, fun q9 m => ?_⟩⟩
      obtain ⟨xs, u, hl, G⟩ := G.add (i := Elv.l9) (v := .int lo) rfl x1 ll dd m
      refine ⟨r, xs, _, rfl, rfl, u, by rw [hl]; show 8 < sizeLine; decide, ?_⟩
      have T := tabs_put (T1.ext (same_new m)) (o := .lst (xs ++ [.ref q9])) u
      generalize upd (upd H1 q9 (.tup [.ref a, .int lo])) r (.lst (xs ++ [.ref q9])) = H9 at G T ⊢
      clear x1 T1 ll dd m u hl hy
      -- the comprehension
      obtain ⟨ys, hy, _⟩ := G.lst
      refine ⟨_, rfl, r, rfl, ⟨_, SqL.of hy⟩, fun L nL => ?_⟩
      exact rb_all (L := lamN _ C CN W S Co _) (due := due wr od lo) (C := C) (fld := "value") (fun x H tl Q o1 o2 o3 => ⟨x, rfl, o1, o2, o3⟩) (toldN hlo nz hod nw) (fun _ => rfl) (fun _ => rfl) G hy (show 9 ≤ 1000 by decide) nL fun H' _ ⟨bs, e1, e2⟩ => ⟨L, bs, rfl, SqL.of e1, by rw [e2]; exact q H'⟩
end
end K09

/-! k09: the law. -/
namespace K09
open PySem PySem.Spec PyProof.Rows L2 LamX NdefX Own
abbrev sLaw : Stmt := topS 51
abbrev bLaw (i : Nat) : Stmt := (defBody sLaw).getD i (.Pass ⟨0, 0, 0, 0⟩)
def notE : Expr → Expr
  | .UnaryOp _ e _ => e
  | _ => junkE
abbrev lg1 : Expr := argN 0 (notE (ifE (bLaw 3)))
abbrev lg2 : Expr := argN 0 (notE (ifE (bLaw 4)))
def jlg1 : List Nat := []
def jlg2 : List Nat := [4]
def qG : Str := (envOfC "law" (defScope sLaw) 0 0 .none).qual ++ "<lambda>"
section
variable {P : Program} {w : World} {K : PySem.W.Frag} {mg : Str → Option Value} {base : Heap} {C CN W S Co : Addr} {X : Cx} {f c' : Addr}
theorem Pen_extN {H H' : Hp} {d : Addr} {B : Int} (h : Pen H d B) (e : ExtN H H') : Pen H' d B := by
  obtain ⟨p, ns, c, l, e1, e2, r⟩ := h.ex
  exact ⟨p, ns, c, l, e _ _ e1 (fun ps z => by cases z), e _ _ e2 (fun ps z => by cases z), r⟩
theorem shape_none {H : Hp} {Q : VK} {E : XK} (h : ∀ H', Same H H' → E (.ref CN) none H') : spShape C CN S [.int 0, .int 0] H Q E := by
  refine ⟨.int 0, .int 0, rfl, .int _, .int _, fun e => absurd e (by decide), fun _ e => absurd e (by decide), fun u s e1 e2 => ⟨fun _ _ => h, fun nz => absurd ⟨?_, ?_⟩ nz⟩⟩
  · have := V.int.inj e1
    omega
  · have := V.int.inj e2
    omega
theorem col_none {m : Str} {H : Hp} {Q : VK} {E : XK} (hm : m ∈ marksL) (h : ∀ H', Same H H' → E (.ref CN) none H') : spCol C CN Co S [.int 0, .int 0, .str m] H Q E := by
  refine ⟨.int 0, .int 0, .str m, rfl, .int _, .int _, .str _, fun e => absurd e (by decide), fun _ e => absurd e (by decide), fun _ _ e => absurd (e.symm.trans (isMark_ok hm)) (by decide), fun u s m' _ e1 e2 _ => ⟨fun _ _ => h, fun nz => absurd ⟨?_, ?_⟩ nz⟩⟩
  · have := V.int.inj e1
    omega
  · have := V.int.inj e2
    omega
def sqg1 (C CN S : Addr) : List (Option V) → Hp → VK → XK → Prop := fun ws H Q E => ws = [] ∧ spShape C CN S [.int 0, .int 0] H Q E
def sqg2 (C CN Co S : Addr) : List (Option V) → Hp → VK → XK → Prop := fun ws H Q E => ∃ m : V, ws = [some m] ∧ spCol C CN Co S [.int 0, .int 0, m] H Q E
theorem nsg1 : NScope [] [] [] (lamScope lg1) := nscope_by (by decide +kernel)
theorem nsg2 : NScope ["_law_mark"] [] ["_law_mark"] (lamScope lg2) := nscope_by (by decide +kernel)
theorem frg1 : ∀ y ∈ (lamScope lg1).names, y.2 = .free → (defScope sLaw).names.lookup y.1 = some .cell ∨ (defScope sLaw).names.lookup y.1 = some .free := by decide +kernel
theorem ing1 : ∀ y ∈ ([] : List Str), (y, NameKind.free) ∈ (lamScope lg1).names := by decide +kernel
theorem frg2 : ∀ y ∈ (lamScope lg2).names, y.2 = .free → (defScope sLaw).names.lookup y.1 = some .cell ∨ (defScope sLaw).names.lookup y.1 = some .free := by decide +kernel
theorem ing2 : ∀ y ∈ (["_law_mark"] : List Str), (y, NameKind.free) ∈ (lamScope lg2).names := by decide +kernel
theorem lokg1 (MS : SMk P w K mg base C CN S) (TS : ShapeC K mg S) : LOk P w K mg base (L2.CX P w) 14 f (lamF X (lamArgs lg1) (lamScope lg1) c') (lamBody lg1) [] (sqg1 C CN S) := by
  refine lok_of (N := []) (ps := []) nsg1 rfl (fun dV doc pm ctv s us hl hd => ?_) (fun A outer s H ws Q E hr hl h => ?_)
  · obtain rfl := List.length_eq_zero_iff.mp hl
    rcases hd with ⟨_, rfl⟩ | ⟨n, _⟩
    · exact .of_eq rfl
    · exact (n rfl).elim
  · obtain ⟨rfl, h⟩ := h
    refine ⟨_, (pe_shape (C := C) (CN := CN) (E := E) MS TS hr (by decide) (by rfl) (passes_call (takes_of rfl rfl rfl rfl) fun _ _ _ _ z => z) (pa_cons pe_int (pa_cons pe_int pa_nil))), ?_⟩
    exact h
theorem lokg2 (MC : CMk P w K mg base C CN Co S) (TC : ColC K mg Co) : LOk P w K mg base (L2.CX P w) 14 f (lamF X (lamArgs lg2) (lamScope lg2) c') (lamBody lg2) ["_law_mark"] (sqg2 C CN Co S) := by
  refine lok_of (N := ["_law_mark"]) (ps := []) nsg2 rfl (fun dV doc pm ctv s us hl hd => ?_) (fun A outer s H ws Q E hr hl h => ?_)
  · obtain rfl := List.length_eq_zero_iff.mp hl
    rcases hd with ⟨_, rfl⟩ | ⟨n, _⟩
    · exact .of_eq rfl
    · exact (n rfl).elim
  · obtain ⟨m, rfl, h⟩ := h
    refine ⟨_, (pe_col3 (C := C) (CN := CN) (E := E) MC TC hr (by decide) (by rfl) (passes_call (takes_of rfl rfl rfl rfl) fun _ _ _ _ z => z) (pa_cons pe_int (pa_cons pe_int (pa_cons (pv 0) pa_nil)))), ?_⟩
    exact ⟨_, rfl, h⟩
theorem scLaw : FnScope ["_law_script", "_law_pen", "_law_whole", "_law_scale", "_law_mark"] ["_law_script"] (defScope sLaw) := ⟨rfl, rfl, rfl, by decide +kernel, rfl, by decide +kernel, by decide +kernel⟩
def spLaw (K : PySem.W.Frag) (Pt Pg : Addr) : Sp := fun vs H Q _ => ∃ (a : Addr) (ns : List Int), vs = [.ref a] ∧ SqL K H a (ns.map V.int) ∧ ns.length ≤ 63 ∧ Tabs [(Pt, qL), (Pg, qG)] H ∧ ∀ H', Q (.bl true) H'
theorem ok_law {g cg Pt Pg : Addr} {oc : Value} {od : Option Addr} {kV doc pm : Value} {an : Option Addr} {ct : Value} {osl : Array (Option Value)} (lk : K.lookup g = some ⟨oc, od, .func (PySem.W.fnOf "law" "law" (defArgs sLaw) (defBody sLaw) (defScope sLaw) .none kV doc pm an (.ref cg) ct), osl⟩) (hcd : PySem.W.codeIn K (.ref cg) "law" = true) (TBg : TabB base mg cg Pg) (nPt : Pt ≠ Pg)
    (MS : SMk P w K mg base C CN S) (TS : ShapeC K mg S) (MC : CMk P w K mg base C CN Co S) (TC : ColC K mg Co)
    (D0 : DefOk P w K mg base CX0 "_law_begin" 1 ["_law_script"] (spBegin K)) (D2 : DefOk P w K mg base CX0 "_law_pick" 2 ["_law_pen", "_law_some"] spPick) (DSh : DefOk P w K mg base CX0 "_law_shape" 3 ["_law_pen", "_law_most"] spLShape) (DSR : DefOk P w K mg base CX0 "_law_shape_right" 15 ["_law_pen", "_law_whole", "_law_scale"] spSR)
    (DCR : DefOk P w K mg base CX0 "_law_column_right" 17 ["_law_pen", "_law_whole", "_law_scale", "_law_mark"] spCR) (D10 : LamDefAt P w K mg base "_law_no_figures" 15 (spNo CN)) (DEq : DefOk P w K mg base CX0 "_law_equal" 9 ["_law_whole", "_law_scale", "_law_mark"] spEq) (DRf : DefOk P w K mg base CX0 "_law_refusals" 16 ["_law_pen", "_law_whole", "_law_scale"] (spRefs Pt)) :
    FnOk P w K mg base CX0 18 g (PySem.W.fnOf "law" "law" (defArgs sLaw) (defBody sLaw) (defScope sLaw) .none kV doc pm an (.ref cg) ct) ["_law_script"] (spLaw K Pt Pg) := by
  refine fn_of lk hcd scLaw (fun vs H Q E h => ?_) (fun A outer s H vs Q E hr h => ?_)
  · obtain ⟨a, ns, rfl, _⟩ := h
    rfl
  · obtain ⟨a, ns, rfl, hs, hl, hT, q⟩ := h
    have nd := scLaw.nd
    have hmg : (Pg, qG) ∈ [(Pt, qL), (Pg, qG)] := by simp
    have hug : ∀ p ∈ [(Pt, qL), (Pg, qG)], p.1 = Pg → p.2 = qG := fun p hp e => by
      simp only [List.mem_cons, List.not_mem_nil, or_false] at hp
      rcases hp with rfl | rfl
      · exact absurd e nPt
      · rfl
    refine ⟨_, pss_cons (ps_set (i := 1) nd rfl (.inl rfl) (pe_def D0 hr (by decide) (by rfl) pass0 (pa_cons (pv 0) pa_nil)))
      (pss_cons (ps_asg (pe_tup (pa_cons (pe_def DSh hr (by decide) (by rfl) pass0 (pa_cons (pv 1) (pa_cons pe_int pa_nil))) (pa_cons (pe_def D2 hr (by decide) (by rfl) pass0 (pa_cons (pv 1) (pa_cons (pe_lst (pa_cons pe_str (pa_cons pe_str (pa_cons pe_str pa_nil)))) pa_nil))) pa_nil))) (pg_tup rfl (pgs_cons (pg_tup rfl (pgs_cons (pg_name (i := 2) nd rfl (.inl rfl)) (pgs_cons (pg_name (i := 3) nd rfl (.inl rfl)) pgs_nil))) (pgs_cons (pg_name (i := 4) nd rfl (.inr rfl)) pgs_nil))))
      (pss_cons (ps_if (PW.pt (pw_or (pt_not (pt_val (pe_def DSR hr (by decide) (by rfl) pass0 (pa_cons (pv 1) (pa_cons (pv 2) (pa_cons (pv 3) pa_nil)))))) (pw_or1 (pt_not (pt_val (pe_def DCR hr (by decide) (by rfl) pass0 (pa_cons (pv 1) (pa_cons (pv 2) (pa_cons (pv 3) (pa_cons (pv 4) pa_nil)))))))))) (pss_one (ps_ret pe_bl)) pss_nil)
      (pss_cons (ps_if (pt_not (pt_val (pe_lamdir D10 (show 14 < 15 by decide) hr (by decide) (fun f c' => lokg1 MS TS) (pe_lamV TBg rfl hmg hug rfl rfl frg1) (js := jlg1) frg1 ing1 rfl (by rfl)))) (pss_one (ps_ret pe_bl)) pss_nil)
      (pss_cons (ps_if (pt_not (pt_val (pe_lamdir D10 (show 14 < 15 by decide) hr (by decide) (fun f c' => lokg2 MC TC) (pe_lamV TBg rfl hmg hug rfl rfl frg2) (js := jlg2) frg2 ing2 rfl (by rfl)))) (pss_one (ps_ret pe_bl)) pss_nil)
      (pss_one (ps_ret (pe_and (pe_def DEq hr (by decide) (by rfl) pass0 (pa_cons (pv 2) (pa_cons (pv 3) (pa_cons (pv 4) pa_nil)))) (pe_one (pe_def DRf hr (by decide) (by rfl) pass0 (pa_cons (pv 1) (pa_cons (pv 2) (pa_cons (pv 3) pa_nil)))))))))))), ?_⟩
    refine ⟨_, rfl, a, ns, rfl, hs, hl, fun d H1 nd1 s1 p1 => ?_⟩
    have T1 := hT.ext s1
    dsimp only [gName, List.set]
    refine ⟨_, rfl, d, 40, _, rfl, by decide, by decide, p1, by omega, fun n c r H2 hn hc nz k2 p2 er nr => ?_⟩
    have T2 := tabs_keep T1 p1 k2.k
    refine ⟨_, rfl, by show 3 ≤ sizeLine; decide, fun l nl => ?_⟩
    have sl := same_new (o := HO.lst [.str "signed", .str "unsigned", .str "positive"]) nl
    refine ⟨d, l, _, _, rfl, upd_same, by simp, by show 3 ≤ 1000; decide, p2.same sl, by omega, fun x H3 hx k3 p3 => ?_⟩
    obtain ⟨m, hm, rfl⟩ : ∃ m : Str, m ∈ marksL ∧ x = .str m := by
      simp only [List.mem_cons, List.not_mem_nil, or_false] at hx
      rcases hx with rfl | rfl | rfl
      · exact ⟨_, by decide +kernel, rfl⟩
      · exact ⟨_, by decide +kernel, rfl⟩
      · exact ⟨_, by decide +kernel, rfl⟩
    have T3 := tabs_keep (T2.ext sl) (p2.same sl) k3.k
    have er3 := k3 _ _ nr (sl _ _ er)
    refine ⟨by show 2 ≤ sizeLine; decide, fun pt np => ?_⟩
    have s4 := same_new (o := HO.tup [.ref r, .str m]) np
    have T4 := T3.ext s4
    have p4 := p3.same s4
    have er4 := s4 _ _ er3
    refine ⟨pt, _, rfl, SqT.of upd_same, rfl, _, _, rfl, r, _, rfl, SqT.of er4, rfl, _, _, rfl, _, _, rfl, rfl, ?_⟩
    generalize upd H3 pt _ = H4 at T4 p4 ⊢
    clear hT T1 T2 T3 p1 p2 p3 k2 k3 er er3 er4 s1 sl s4 np nl hx nr nd1
    refine ⟨_, _, rfl, rfl, ?_⟩
    try dsimp only [gName, List.set]
    refine ⟨_, rfl, _, rfl, _, rfl, d, n, c, _, rfl, by omega, by omega, nz, p4, by omega, fun H5 k5 p5 => ⟨_, rfl, iteF ?_⟩⟩
    have T5 := tabs_keep T4 p4 k5.k
    refine ⟨_, rfl, _, rfl, _, rfl, _, rfl, d, n, c, m, _, rfl, by omega, by omega, nz, hm, p5, by omega, fun H6 k6 p6 => ⟨_, rfl, iteF ?_⟩⟩
    have T6 := tabs_keep T5 p5 k6.k
    refine ⟨T6, fun f1 c1 H7 x7 T7 _ l1 d1 => ⟨f1, c1, rfl, l1, d1, rfl, fun Q' E' h => ⟨rfl, shape_none fun H' s => h H' s⟩, fun H8 s8 => ⟨_, rfl, iteF ?_⟩⟩⟩
    have p8 := (Pen_extN p6 x7).same s8
    have T8 := T7.ext s8
    refine ⟨T8, fun f2 c2 H9 x9 T9 _ l2 d2 => ⟨f2, c2, rfl, l2, d2, rfl, fun Q' E' h => ⟨.str m, rfl, col_none hm fun H' s => h H' s⟩, fun H10 s10 => ⟨_, rfl, iteF ?_⟩⟩⟩
    have p10 := (Pen_extN p8 x9).same s10
    have T10 := T9.ext s10
    refine ⟨_, rfl, _, rfl, _, rfl, n, c, m, rfl, nz, hm, fun H11 s11 => ⟨_, rfl, iteT ?_⟩⟩
    exact ⟨_, rfl, _, rfl, _, rfl, d, n, c, _, rfl, nz, p10.same s11, by omega, fun p hp => (T10.ext s11) p (by rw [List.mem_singleton.mp hp]; simp), fun H' => q H'⟩
end
end K09

set_option maxHeartbeats 0
/-! k09: what the top leaves; the end. -/
namespace K09
open PySem PySem.Spec PyProof.Rows L2 LamX NdefX Own
def nmF : Str × Option Str := ("_law_refusals", none)
def nmG : Str × Option Str := ("law", none)
def dfn (x : Str) (i : Nat) : He.DefD := ⟨(x, none), x, x, defArgs (topS i), defBody (topS i), defScope (topS i), [], []⟩
def dMk (x m : Str) (i j : Nat) (pd : List He.Dv) (kd : List (Str × He.Dv)) : He.DefD := ⟨(x, some m), m, x ++ "." ++ m, defArgs (inClass (topS i) j), defBody (inClass (topS i) j), defScope (inClass (topS i) j), pd, kd⟩
def fnL : List He.DefD := [dMk "BadValue" "__init__" 2 0 [] [], dMk "NoFigures" "__init__" 4 0 [] [], dMk "Worth" "__init__" 15 0 [.int 0] [], dMk "Worth" "__neg__" 15 10 [] [], dMk "Shape" "__init__" 22 0 [] [], dMk "Shape" "__eq__" 22 1 [] [], dMk "Shape" "fits" 22 3 [] [], dMk "Shape" "greatest" 22 4 [] [], dMk "Column" "__init__" 23 0 [.str "signed"] [], dMk "Column" "__eq__" 23 1 [] [], dMk "Column" "holds" 23 2 [] [], dMk "Column" "lowest" 23 3 [] [], dMk "Column" "highest" 23 4 [] [], dMk "Column" "small" 23 5 [] [], dfn "is_an_integer" 7, dfn "is_whole_number" 8, dfn "need_integer" 9, dfn "need_whole_number" 10, dfn "need_list" 11, dfn "ten_to" 12, dfn "digits_of" 13, dfn "without_zeros" 16, dfn "parted" 17, dfn "as_worth" 18, dfn "need_worth" 19, dfn "is_below_ten_to" 24, dfn "whole_figures" 25, dfn "some_shape" 26, dfn "least_shape" 27, dfn "_law_begin" 29, dfn "_law_draw" 30, dfn "_law_pick" 31, dfn "_law_ten" 32, dfn "_law_figures" 33, dfn "_law_drawn" 34, dfn "_law_low" 35, dfn "_law_told" 36, dfn "_law_worth" 37, dfn "_law_wrong" 38, dfn "_law_same" 39, dfn "_law_refused" 40, dfn "_law_fits" 41, dfn "_law_shape" 42, dfn "_law_seen" 43, dfn "_law_asked" 44, dfn "_law_least" 45, dfn "_law_shape_right" 46, dfn "_law_column_right" 47, dfn "_law_equal" 48, dfn "_law_no_figures" 49, dfn "_law_refusals" 50, dfn "law" 51]
def psL : List He.DefD := [dMk "Shape" "width" 22 2 [] []]
def gloL : List Str := (["BadValue", "NoFigures", "Worth", "Shape", "Column", "TENS", "MARKS", "is_an_integer", "is_whole_number", "need_integer", "need_whole_number", "need_list", "ten_to", "digits_of", "without_zeros", "parted", "as_worth", "need_worth", "is_below_ten_to", "whole_figures", "some_shape", "least_shape", "_law_begin", "_law_draw", "_law_pick"] : List Str) ++ (["_law_ten", "_law_figures", "_law_drawn", "_law_low", "_law_told", "_law_worth", "_law_wrong", "_law_same", "_law_refused", "_law_fits", "_law_shape", "_law_seen", "_law_asked", "_law_least", "_law_shape_right", "_law_column_right", "_law_equal", "_law_no_figures", "_law_refusals", "law"] : List Str)
def freeL : List Str := ["isinstance", "int", "bool", "len", "list", "range", "tuple", "all", "divmod", "min", "max", "str", "abs", "dict", "any"]
def moreL : List He.Fa := [He.Fa.exm "BadValue" "BadValue" true, .meth "BadValue" "__init__", .noat "BadValue" "value", .keep "BadValue", .exm "NoFigures" "NoFigures" true, .meth "NoFigures" "__init__", .keep "NoFigures", .cls "Worth", .mkr "Worth", .noat "Worth" "units", .noat "Worth" "scale", .noat "Worth" "floor", .noat "Worth" "more", .meth "Worth" "__neg__", .cls "Shape", .mkr "Shape", .noat "Shape" "whole", .noat "Shape" "scale", .meth "Shape" "__eq__", .meth "Shape" "fits", .meth "Shape" "greatest", .cls "Column", .mkr "Column", .noat "Column" "shape", .noat "Column" "mark", .meth "Column" "__eq__", .meth "Column" "holds", .meth "Column" "lowest", .meth "Column" "highest", .meth "Column" "small"]
def faL : List He.Fa := gloL.map He.Fa.glo ++ freeL.map He.Fa.free ++ moreL
def tsL : List He.Tab := []
/-- isinstance by the class -/
def wisB (K : PySem.W.Frag) (W : Addr) : Bool := (decide (PySem.W.findIn K (.ref W) "__class__" = some (some (.builtin "object.__class__"))) && (decide (PySem.W.specialIn K (.builtin "object.__class__") "__get__" = some (some (.builtin "getset_descriptor.__get__"))) &&
  (decide (PySem.W.takesIn K (.builtin "object.__class__") = some true) && (decide (PySem.W.mroIn K W (.type "object") = some true) && ((tys.all fun T => decide (PySem.W.kitOne K (.type T) (.ref W) = some false)))))))
def exL (K : PySem.W.Frag) : Bool := oexB K (He.ga K "BadValue") && (L2.xfB K (He.ga K "BadValue") && (oexB K (He.ga K "NoFigures") && (He.tupB K "TENS" (tensL.map He.Dv.int) && (He.tupB K "MARKS" (marksL.map He.Dv.str) && (wisB K (He.ga K "Worth") && (wisB K (He.ga K "Shape") && ((tys.all fun T => decide (PySem.W.subIn K (.type T) (.ref (He.ga K "Shape")) = some false)) && (wisB K (He.ga K "Column") && ((tys.all fun T => decide (PySem.W.subIn K (.type T) (.ref (He.ga K "Column")) = some false)) && (propB K ("Shape", some "width") "Shape.width" && (decide (PySem.W.subIn K (.ref (He.ga K "Shape")) (.ref (He.ga K "Column")) = some false) && (decide (PySem.W.subIn K (.ref (He.ga K "Column")) (.ref (He.ga K "Shape")) = some false) && (decide (PySem.W.kitOne K (.ref (He.ga K "Shape")) (.ref (He.ga K "Column")) = some false) && (decide (PySem.W.kitOne K (.ref (He.ga K "Column")) (.ref (He.ga K "Shape")) = some false) && (decide (PySem.W.findIn K (.ref (He.ga K "Column")) "__ne__" = some (some (.builtin "object.__ne__"))) && (decide (PySem.W.subIn K (.ref (He.ga K "Column")) (.type "object") = some true) && (decide ((He.cT K nmF).2 ≠ (He.cT K nmG).2))))))))))))))))))
abbrev rowK : PySem.W.OpenRow := PySem.W.OpenLaw.row PySem.Challenge.rw_figurestay_k09_shapes_and_columns
abbrev hkL : PySem.W.Hook := hookP 6 faL fnL tsL [nmF, nmG] exL psL
def obL (s : PySem.W.SharedT) : AlP := obsP 6 faL fnL tsL [nmF, nmG] exL psL (HandSHeadRun.getT s)
theorem obL_eq (s : PySem.W.SharedT) : obL s = hkL.obs s.abs := obsP_eq (HandSHeadRun.getT_eq s)
def looseL : List Str := (["FigureError", "BadValue", "TooFine", "NoFigures", "Worth", "Shape", "Column", "TENS", "MARKS", "is_an_integer", "is_whole_number", "need_integer", "need_whole_number", "need_list", "ten_to", "digits_of", "without_zeros", "parted", "as_worth", "need_worth", "is_below_ten_to", "whole_figures", "some_shape", "least_shape", "_law_begin"] : List Str) ++ (["_law_draw", "_law_pick", "_law_ten", "_law_figures", "_law_drawn", "_law_low", "_law_told", "_law_worth", "_law_wrong", "_law_same", "_law_refused", "_law_fits", "_law_shape", "_law_seen", "_law_asked", "_law_least", "_law_shape_right", "_law_column_right", "_law_equal", "_law_no_figures", "_law_refusals"] : List Str)
end K09

/-! k09: what the top leaves; the end. -/
namespace K09
open PySem PySem.Spec PyProof.Rows L2 LamX NdefX Own
theorem runF (w : World) : HandSHeadRun.RunEq rowK (PySem.W.view rowK.prog [51]) hkL obL 4000 looseL (w.withFollow "special-get-raises" false) := by
  intro os
  kernel_rfl
theorem runT (w : World) : HandSHeadRun.RunEq rowK (PySem.W.view rowK.prog [51]) hkL obL 4000 looseL (w.withFollow "special-get-raises" true) := by
  intro os
  kernel_rfl
theorem runL (w : World) : HandSHeadRun.RunEq rowK (PySem.W.view rowK.prog [51]) hkL obL 4000 looseL w := PySem.W.byRow2 "special-get-raises" (P := fun w => HandSHeadRun.RunEq rowK (PySem.W.view rowK.prog [51]) hkL obL 4000 looseL w) runF runT w
end K09

/-! k09: what the top leaves; the end. -/
namespace K09
open PySem PySem.Spec PyProof.Rows L2 LamX NdefX Own
section
variable {P : Program} {w : World} {K : PySem.W.Frag} {mg : Str → Option Value} {h : Heap}
theorem gloF (X : K.In h) (G : h.Ns mainGlobals mg) (d : He.SaysD faL fnL K) {x : Str} (hx : x ∈ gloL) : mg x = some (.ref (He.ga K x)) :=
  He.glo_ok X G (d.facts (List.mem_append_left _ (List.mem_append_left _ (List.mem_map.mpr ⟨x, hx, rfl⟩))))
theorem freeF (X : K.In h) (G : h.Ns mainGlobals mg) (d : He.SaysD faL fnL K) {x : Str} (hx : x ∈ freeL) : mg x = none :=
  He.free_ok X G (d.facts (List.mem_append_left _ (List.mem_append_right _ (List.mem_map.mpr ⟨x, hx, rfl⟩))))
theorem moreF (d : He.SaysD faL fnL K) {f : He.Fa} (hf : f ∈ moreL) : f.ok K = true := d.facts (List.mem_append_right _ hf)
theorem wis_ok {W : Addr} (h : wisB K W = true) : WIs K W := by
  obtain ⟨z2, y⟩ := He.ba h
  obtain ⟨z3, y⟩ := He.ba y
  obtain ⟨z4, y⟩ := He.ba y
  obtain ⟨z5, z6⟩ := He.ba y
  exact ⟨of_decide_eq_true z2, of_decide_eq_true z3, of_decide_eq_true z4, of_decide_eq_true z5, fun T hT => of_decide_eq_true (List.all_eq_true.mp z6 T hT)⟩
theorem scE_BadValue : FnScope ["self", "value"] ["self", "value"] (defScope (inClass (topS 2) 0)) := ⟨rfl, rfl, rfl, by decide +kernel, rfl, by decide +kernel, by decide +kernel⟩
theorem ok_err_BadValue {base : Heap} {C : Addr} {f : Addr} {fd : FuncData} (F : Fun K "__init__" "BadValue.__init__" (inClass (topS 2) 0) f fd) (T : OexC K C) (no : PySem.W.findIn K (.ref C) "value" = some none) : FnOk P w K mg base CX0 1 f fd ["self", "value"] (spErr C "value") := by
  refine F.ok scE_BadValue (fun vs H Q E h => ?_) (fun cdv A outer s H vs Q E hr h => ?_)
  · obtain ⟨a, y, rfl, _⟩ := h
    rfl
  · obtain ⟨a, y, rfl, ha, q⟩ := h
    refine ⟨_, pss_one (ps_ost (pv 0) (pv 1)), ?_⟩
    exact ⟨_, rfl, _, rfl, a, C, rfl, T, no, .inl ⟨ha, fun dx n1 n2 => q dx n1 n2⟩⟩
theorem scE_NoFigures : FnScope ["self"] ["self"] (defScope (inClass (topS 4) 0)) := ⟨rfl, rfl, rfl, by decide +kernel, rfl, by decide +kernel, by decide +kernel⟩
theorem ok_err_NoFigures {base : Heap} {f : Addr} {fd : FuncData} (F : Fun K "__init__" "NoFigures.__init__" (inClass (topS 4) 0) f fd) : FnOk P w K mg base CX0 1 f fd ["self"] (fun vs H Q _ => ∃ a : Addr, vs = [.ref a] ∧ Q .non H) := by
  refine F.ok scE_NoFigures (fun vs H Q E h => ?_) (fun cdv A outer s H vs Q E hr h => ?_)
  · obtain ⟨a, rfl, _⟩ := h
    rfl
  · obtain ⟨a, rfl, q⟩ := h
    exact ⟨_, pss_one ps_pass, q⟩
theorem law_at {fa : Addr} (X : K.In h) (G : h.Ns mainGlobals mg) (hfa : mg "law" = some (.ref fa)) (c : He.SaysX faL fnL tsL [nmF, nmG] exL w h K) (cp : SaysP psL K) : LawAtS PySem.Challenge.rw_figurestay_k09_shapes_and_columns w K CX0 18 63 "_law_script" mg fa h := by
  have d := c.t.d
  obtain ⟨oex_BadValue, y⟩ := He.ba c.more
  obtain ⟨xf_BadValue, y⟩ := He.ba y
  obtain ⟨oex_NoFigures, y⟩ := He.ba y
  obtain ⟨tup_TENS, y⟩ := He.ba y
  obtain ⟨tup_MARKS, y⟩ := He.ba y
  obtain ⟨wis_Worth, y⟩ := He.ba y
  obtain ⟨wis_Shape, y⟩ := He.ba y
  obtain ⟨sub_Shape, y⟩ := He.ba y
  obtain ⟨wis_Column, y⟩ := He.ba y
  obtain ⟨sub_Column, y⟩ := He.ba y
  obtain ⟨prop_Shape_width, y⟩ := He.ba y
  obtain ⟨st1, y⟩ := He.ba y
  obtain ⟨st2, y⟩ := He.ba y
  obtain ⟨st3, y⟩ := He.ba y
  obtain ⟨st4, y⟩ := He.ba y
  obtain ⟨ne_C, y⟩ := He.ba y
  obtain ⟨obj_C, neT⟩ := He.ba y
  have te_BadValue := He.exm_ok (moreF d (f := .exm "BadValue" "BadValue" true) (List.mem_of_getElem? (i := 0) rfl))
  have mt_BadValue := He.meth_ok (moreF d (f := .meth "BadValue" "__init__") (List.mem_of_getElem? (i := 1) rfl))
  have no_BadValue := He.noat_ok (moreF d (f := .noat "BadValue" "value") (List.mem_of_getElem? (i := 2) rfl))
  obtain ⟨fd_BadValue, F0_BadValue⟩ := d.def_ 0 (d := dMk "BadValue" "__init__" 2 0 [] []) rfl
  have F_BadValue : Fun K "__init__" "BadValue.__init__" (inClass (topS 2) 0) _ fd_BadValue := fun_of F0_BadValue
  have b_BadValue := F_BadValue.binds (ps := ["self", "value"]) fun _ _ _ _ _ _ us hl => match us, hl with | [_, _], _ => rfl
  have te_NoFigures := He.exm_ok (moreF d (f := .exm "NoFigures" "NoFigures" true) (List.mem_of_getElem? (i := 4) rfl))
  have mt_NoFigures := He.meth_ok (moreF d (f := .meth "NoFigures" "__init__") (List.mem_of_getElem? (i := 5) rfl))
  obtain ⟨fd_NoFigures, F0_NoFigures⟩ := d.def_ 1 (d := dMk "NoFigures" "__init__" 4 0 [] []) rfl
  have F_NoFigures : Fun K "__init__" "NoFigures.__init__" (inClass (topS 4) 0) _ fd_NoFigures := fun_of F0_NoFigures
  have b_NoFigures := F_NoFigures.binds (ps := ["self"]) fun _ _ _ _ _ _ us hl => match us, hl with | [_], _ => rfl
  have cls_Worth := He.cls_ok (moreF d (f := .cls "Worth") (List.mem_of_getElem? (i := 7) rfl))
  have mk_Worth := He.mkr_ok (moreF d (f := .mkr "Worth") (List.mem_of_getElem? (i := 8) rfl))
  have no_Worth_units := He.noat_ok (moreF d (f := .noat "Worth" "units") (List.mem_of_getElem? (i := 9) rfl))
  have no_Worth_scale := He.noat_ok (moreF d (f := .noat "Worth" "scale") (List.mem_of_getElem? (i := 10) rfl))
  have no_Worth_floor := He.noat_ok (moreF d (f := .noat "Worth" "floor") (List.mem_of_getElem? (i := 11) rfl))
  have no_Worth_more := He.noat_ok (moreF d (f := .noat "Worth" "more") (List.mem_of_getElem? (i := 12) rfl))
  obtain ⟨fd_Worth, FI_Worth⟩ := d.def_ 2 (d := dMk "Worth" "__init__" 15 0 [.int 0] []) rfl
  have m_Worth_neg := He.meth_ok (moreF d (f := .meth "Worth" "__neg__") (List.mem_of_getElem? (i := 13) rfl))
  obtain ⟨fd_Worth_neg, F_Worth_neg⟩ := d.def_ 3 (d := dMk "Worth" "__neg__" 15 10 [] []) rfl
  have G_Worth_neg : Fun K "__neg__" "Worth.__neg__" (inClass (topS 15) 10) _ fd_Worth_neg := fun_of F_Worth_neg
  have b_Worth_neg := G_Worth_neg.binds (ps := ["self"]) fun _ _ _ _ _ _ us hl => match us, hl with | [_], _ => rfl
  have cls_Shape := He.cls_ok (moreF d (f := .cls "Shape") (List.mem_of_getElem? (i := 14) rfl))
  have mk_Shape := He.mkr_ok (moreF d (f := .mkr "Shape") (List.mem_of_getElem? (i := 15) rfl))
  have no_Shape_whole := He.noat_ok (moreF d (f := .noat "Shape" "whole") (List.mem_of_getElem? (i := 16) rfl))
  have no_Shape_scale := He.noat_ok (moreF d (f := .noat "Shape" "scale") (List.mem_of_getElem? (i := 17) rfl))
  obtain ⟨fd_Shape, FI_Shape⟩ := d.def_ 4 (d := dMk "Shape" "__init__" 22 0 [] []) rfl
  have GI_Shape : Fun K "__init__" "Shape.__init__" (inClass (topS 22) 0) _ fd_Shape := fun_of FI_Shape
  have bI_Shape := GI_Shape.binds (ps := ["self", "whole", "scale"]) fun _ _ _ _ _ _ us hl => match us, hl with | [_, _, _], _ => rfl
  have m_Shape_eq := He.meth_ok (moreF d (f := .meth "Shape" "__eq__") (List.mem_of_getElem? (i := 18) rfl))
  obtain ⟨fd_Shape_eq, F_Shape_eq⟩ := d.def_ 5 (d := dMk "Shape" "__eq__" 22 1 [] []) rfl
  have G_Shape_eq : Fun K "__eq__" "Shape.__eq__" (inClass (topS 22) 1) _ fd_Shape_eq := fun_of F_Shape_eq
  have b_Shape_eq := G_Shape_eq.binds (ps := ["self", "other"]) fun _ _ _ _ _ _ us hl => match us, hl with | [_, _], _ => rfl
  have m_Shape_fits := He.meth_ok (moreF d (f := .meth "Shape" "fits") (List.mem_of_getElem? (i := 19) rfl))
  obtain ⟨fd_Shape_fits, F_Shape_fits⟩ := d.def_ 6 (d := dMk "Shape" "fits" 22 3 [] []) rfl
  have G_Shape_fits : Fun K "fits" "Shape.fits" (inClass (topS 22) 3) _ fd_Shape_fits := fun_of F_Shape_fits
  have b_Shape_fits := G_Shape_fits.binds (ps := ["self", "worth"]) fun _ _ _ _ _ _ us hl => match us, hl with | [_, _], _ => rfl
  have m_Shape_greatest := He.meth_ok (moreF d (f := .meth "Shape" "greatest") (List.mem_of_getElem? (i := 20) rfl))
  obtain ⟨fd_Shape_greatest, F_Shape_greatest⟩ := d.def_ 7 (d := dMk "Shape" "greatest" 22 4 [] []) rfl
  have G_Shape_greatest : Fun K "greatest" "Shape.greatest" (inClass (topS 22) 4) _ fd_Shape_greatest := fun_of F_Shape_greatest
  have b_Shape_greatest := G_Shape_greatest.binds (ps := ["self"]) fun _ _ _ _ _ _ us hl => match us, hl with | [_], _ => rfl
  have cls_Column := He.cls_ok (moreF d (f := .cls "Column") (List.mem_of_getElem? (i := 21) rfl))
  have mk_Column := He.mkr_ok (moreF d (f := .mkr "Column") (List.mem_of_getElem? (i := 22) rfl))
  have no_Column_shape := He.noat_ok (moreF d (f := .noat "Column" "shape") (List.mem_of_getElem? (i := 23) rfl))
  have no_Column_mark := He.noat_ok (moreF d (f := .noat "Column" "mark") (List.mem_of_getElem? (i := 24) rfl))
  obtain ⟨fd_Column, FI_Column⟩ := d.def_ 8 (d := dMk "Column" "__init__" 23 0 [.str "signed"] []) rfl
  have m_Column_eq := He.meth_ok (moreF d (f := .meth "Column" "__eq__") (List.mem_of_getElem? (i := 25) rfl))
  obtain ⟨fd_Column_eq, F_Column_eq⟩ := d.def_ 9 (d := dMk "Column" "__eq__" 23 1 [] []) rfl
  have G_Column_eq : Fun K "__eq__" "Column.__eq__" (inClass (topS 23) 1) _ fd_Column_eq := fun_of F_Column_eq
  have b_Column_eq := G_Column_eq.binds (ps := ["self", "other"]) fun _ _ _ _ _ _ us hl => match us, hl with | [_, _], _ => rfl
  have m_Column_holds := He.meth_ok (moreF d (f := .meth "Column" "holds") (List.mem_of_getElem? (i := 26) rfl))
  obtain ⟨fd_Column_holds, F_Column_holds⟩ := d.def_ 10 (d := dMk "Column" "holds" 23 2 [] []) rfl
  have G_Column_holds : Fun K "holds" "Column.holds" (inClass (topS 23) 2) _ fd_Column_holds := fun_of F_Column_holds
  have b_Column_holds := G_Column_holds.binds (ps := ["self", "worth"]) fun _ _ _ _ _ _ us hl => match us, hl with | [_, _], _ => rfl
  have m_Column_lowest := He.meth_ok (moreF d (f := .meth "Column" "lowest") (List.mem_of_getElem? (i := 27) rfl))
  obtain ⟨fd_Column_lowest, F_Column_lowest⟩ := d.def_ 11 (d := dMk "Column" "lowest" 23 3 [] []) rfl
  have G_Column_lowest : Fun K "lowest" "Column.lowest" (inClass (topS 23) 3) _ fd_Column_lowest := fun_of F_Column_lowest
  have b_Column_lowest := G_Column_lowest.binds (ps := ["self"]) fun _ _ _ _ _ _ us hl => match us, hl with | [_], _ => rfl
  have m_Column_highest := He.meth_ok (moreF d (f := .meth "Column" "highest") (List.mem_of_getElem? (i := 28) rfl))
  obtain ⟨fd_Column_highest, F_Column_highest⟩ := d.def_ 12 (d := dMk "Column" "highest" 23 4 [] []) rfl
  have G_Column_highest : Fun K "highest" "Column.highest" (inClass (topS 23) 4) _ fd_Column_highest := fun_of F_Column_highest
  have b_Column_highest := G_Column_highest.binds (ps := ["self"]) fun _ _ _ _ _ _ us hl => match us, hl with | [_], _ => rfl
  have m_Column_small := He.meth_ok (moreF d (f := .meth "Column" "small") (List.mem_of_getElem? (i := 29) rfl))
  obtain ⟨fd_Column_small, F_Column_small⟩ := d.def_ 13 (d := dMk "Column" "small" 23 5 [] []) rfl
  have G_Column_small : Fun K "small" "Column.small" (inClass (topS 23) 5) _ fd_Column_small := fun_of F_Column_small
  have b_Column_small := G_Column_small.binds (ps := ["self"]) fun _ _ _ _ _ _ us hl => match us, hl with | [_], _ => rfl
  obtain ⟨⟨pa_Shape_width, po_Shape_width⟩, oa_Shape_width⟩ := prop_ok prop_Shape_width
  obtain ⟨fd_Shape_width, F_Shape_width⟩ := funD_at (cp.at_ 0 (d := dMk "Shape" "width" 22 2 [] []) rfl) oa_Shape_width
  have G_Shape_width : Fun K "width" "Shape.width" (inClass (topS 22) 2) _ fd_Shape_width := fun_of F_Shape_width
  have b_Shape_width := G_Shape_width.binds (ps := ["self"]) fun _ _ _ _ _ _ us hl => match us, hl with | [_], _ => rfl
  obtain ⟨fd_is_an_integer, F_is_an_integer⟩ := d.def_ 14 (d := dfn "is_an_integer" 7) rfl
  have A_is_an_integer : At K mg "is_an_integer" (topS 7) ["value"] := at_of F_is_an_integer (gloF X G d (by decide +kernel)) fun _ _ _ _ _ _ us hl => match us, hl with | [_], _ => rfl
  obtain ⟨fd_is_whole_number, F_is_whole_number⟩ := d.def_ 15 (d := dfn "is_whole_number" 8) rfl
  have A_is_whole_number : At K mg "is_whole_number" (topS 8) ["value"] := at_of F_is_whole_number (gloF X G d (by decide +kernel)) fun _ _ _ _ _ _ us hl => match us, hl with | [_], _ => rfl
  obtain ⟨fd_need_integer, F_need_integer⟩ := d.def_ 16 (d := dfn "need_integer" 9) rfl
  have A_need_integer : At K mg "need_integer" (topS 9) ["value"] := at_of F_need_integer (gloF X G d (by decide +kernel)) fun _ _ _ _ _ _ us hl => match us, hl with | [_], _ => rfl
  obtain ⟨fd_need_whole_number, F_need_whole_number⟩ := d.def_ 17 (d := dfn "need_whole_number" 10) rfl
  have A_need_whole_number : At K mg "need_whole_number" (topS 10) ["value"] := at_of F_need_whole_number (gloF X G d (by decide +kernel)) fun _ _ _ _ _ _ us hl => match us, hl with | [_], _ => rfl
  obtain ⟨fd_need_list, F_need_list⟩ := d.def_ 18 (d := dfn "need_list" 11) rfl
  have A_need_list : At K mg "need_list" (topS 11) ["value"] := at_of F_need_list (gloF X G d (by decide +kernel)) fun _ _ _ _ _ _ us hl => match us, hl with | [_], _ => rfl
  obtain ⟨fd_ten_to, F_ten_to⟩ := d.def_ 19 (d := dfn "ten_to" 12) rfl
  have A_ten_to : At K mg "ten_to" (topS 12) ["places"] := at_of F_ten_to (gloF X G d (by decide +kernel)) fun _ _ _ _ _ _ us hl => match us, hl with | [_], _ => rfl
  obtain ⟨fd_digits_of, F_digits_of⟩ := d.def_ 20 (d := dfn "digits_of" 13) rfl
  have A_digits_of : At K mg "digits_of" (topS 13) ["number"] := at_of F_digits_of (gloF X G d (by decide +kernel)) fun _ _ _ _ _ _ us hl => match us, hl with | [_], _ => rfl
  obtain ⟨fd_without_zeros, F_without_zeros⟩ := d.def_ 21 (d := dfn "without_zeros" 16) rfl
  have A_without_zeros : At K mg "without_zeros" (topS 16) ["units", "scale"] := at_of F_without_zeros (gloF X G d (by decide +kernel)) fun _ _ _ _ _ _ us hl => match us, hl with | [_, _], _ => rfl
  obtain ⟨fd_parted, F_parted⟩ := d.def_ 22 (d := dfn "parted" 17) rfl
  have A_parted : At K mg "parted" (topS 17) ["units", "scale"] := at_of F_parted (gloF X G d (by decide +kernel)) fun _ _ _ _ _ _ us hl => match us, hl with | [_, _], _ => rfl
  obtain ⟨fd_as_worth, F_as_worth⟩ := d.def_ 23 (d := dfn "as_worth" 18) rfl
  have A_as_worth : At K mg "as_worth" (topS 18) ["value"] := at_of F_as_worth (gloF X G d (by decide +kernel)) fun _ _ _ _ _ _ us hl => match us, hl with | [_], _ => rfl
  obtain ⟨fd_need_worth, F_need_worth⟩ := d.def_ 24 (d := dfn "need_worth" 19) rfl
  have A_need_worth : At K mg "need_worth" (topS 19) ["value"] := at_of F_need_worth (gloF X G d (by decide +kernel)) fun _ _ _ _ _ _ us hl => match us, hl with | [_], _ => rfl
  obtain ⟨fd_is_below_ten_to, F_is_below_ten_to⟩ := d.def_ 25 (d := dfn "is_below_ten_to" 24) rfl
  have A_is_below_ten_to : At K mg "is_below_ten_to" (topS 24) ["worth", "whole"] := at_of F_is_below_ten_to (gloF X G d (by decide +kernel)) fun _ _ _ _ _ _ us hl => match us, hl with | [_, _], _ => rfl
  obtain ⟨fd_whole_figures, F_whole_figures⟩ := d.def_ 26 (d := dfn "whole_figures" 25) rfl
  have A_whole_figures : At K mg "whole_figures" (topS 25) ["units", "scale"] := at_of F_whole_figures (gloF X G d (by decide +kernel)) fun _ _ _ _ _ _ us hl => match us, hl with | [_, _], _ => rfl
  obtain ⟨fd_some_shape, F_some_shape⟩ := d.def_ 27 (d := dfn "some_shape" 26) rfl
  have A_some_shape : At K mg "some_shape" (topS 26) ["whole", "scale"] := at_of F_some_shape (gloF X G d (by decide +kernel)) fun _ _ _ _ _ _ us hl => match us, hl with | [_, _], _ => rfl
  obtain ⟨fd_least_shape, F_least_shape⟩ := d.def_ 28 (d := dfn "least_shape" 27) rfl
  have A_least_shape : At K mg "least_shape" (topS 27) ["worths"] := at_of F_least_shape (gloF X G d (by decide +kernel)) fun _ _ _ _ _ _ us hl => match us, hl with | [_], _ => rfl
  obtain ⟨fd__law_begin, F__law_begin⟩ := d.def_ 29 (d := dfn "_law_begin" 29) rfl
  have A__law_begin : At K mg "_law_begin" (topS 29) ["_law_script"] := at_of F__law_begin (gloF X G d (by decide +kernel)) fun _ _ _ _ _ _ us hl => match us, hl with | [_], _ => rfl
  obtain ⟨fd__law_draw, F__law_draw⟩ := d.def_ 30 (d := dfn "_law_draw" 30) rfl
  have A__law_draw : At K mg "_law_draw" (topS 30) ["_law_pen", "_law_span"] := at_of F__law_draw (gloF X G d (by decide +kernel)) fun _ _ _ _ _ _ us hl => match us, hl with | [_, _], _ => rfl
  obtain ⟨fd__law_pick, F__law_pick⟩ := d.def_ 31 (d := dfn "_law_pick" 31) rfl
  have A__law_pick : At K mg "_law_pick" (topS 31) ["_law_pen", "_law_some"] := at_of F__law_pick (gloF X G d (by decide +kernel)) fun _ _ _ _ _ _ us hl => match us, hl with | [_, _], _ => rfl
  obtain ⟨fd__law_ten, F__law_ten⟩ := d.def_ 32 (d := dfn "_law_ten" 32) rfl
  have A__law_ten : At K mg "_law_ten" (topS 32) ["_law_number"] := at_of F__law_ten (gloF X G d (by decide +kernel)) fun _ _ _ _ _ _ us hl => match us, hl with | [_], _ => rfl
  obtain ⟨fd__law_figures, F__law_figures⟩ := d.def_ 33 (d := dfn "_law_figures" 33) rfl
  have A__law_figures : At K mg "_law_figures" (topS 33) ["_law_pen", "_law_most"] := at_of F__law_figures (gloF X G d (by decide +kernel)) fun _ _ _ _ _ _ us hl => match us, hl with | [_, _], _ => rfl
  obtain ⟨fd__law_drawn, F__law_drawn⟩ := d.def_ 34 (d := dfn "_law_drawn" 34) rfl
  have A__law_drawn : At K mg "_law_drawn" (topS 34) ["_law_pen"] := at_of F__law_drawn (gloF X G d (by decide +kernel)) fun _ _ _ _ _ _ us hl => match us, hl with | [_], _ => rfl
  obtain ⟨fd__law_low, F__law_low⟩ := d.def_ 35 (d := dfn "_law_low" 35) rfl
  have A__law_low : At K mg "_law_low" (topS 35) ["_law_units", "_law_scale"] := at_of F__law_low (gloF X G d (by decide +kernel)) fun _ _ _ _ _ _ us hl => match us, hl with | [_, _], _ => rfl
  obtain ⟨fd__law_told, F__law_told⟩ := d.def_ 36 (d := dfn "_law_told" 36) rfl
  have A__law_told : At K mg "_law_told" (topS 36) ["_law_worth_here"] := at_of F__law_told (gloF X G d (by decide +kernel)) fun _ _ _ _ _ _ us hl => match us, hl with | [_], _ => rfl
  obtain ⟨fd__law_worth, F__law_worth⟩ := d.def_ 37 (d := dfn "_law_worth" 37) rfl
  have A__law_worth : At K mg "_law_worth" (topS 37) ["_law_row"] := at_of F__law_worth (gloF X G d (by decide +kernel)) fun _ _ _ _ _ _ us hl => match us, hl with | [_], _ => rfl
  obtain ⟨fd__law_wrong, F__law_wrong⟩ := d.def_ 38 (d := dfn "_law_wrong" 38) rfl
  have A__law_wrong : At K mg "_law_wrong" (topS 38) ["_law_pen"] := at_of F__law_wrong (gloF X G d (by decide +kernel)) fun _ _ _ _ _ _ us hl => match us, hl with | [_], _ => rfl
  obtain ⟨fd__law_same, F__law_same⟩ := d.def_ 39 (d := dfn "_law_same" 39) rfl
  have A__law_same : At K mg "_law_same" (topS 39) ["_law_one", "_law_other"] := at_of F__law_same (gloF X G d (by decide +kernel)) fun _ _ _ _ _ _ us hl => match us, hl with | [_, _], _ => rfl
  obtain ⟨fd__law_refused, F__law_refused⟩ := d.def_ 40 (d := dfn "_law_refused" 40) rfl
  have A__law_refused : At K mg "_law_refused" (topS 40) ["_law_deed", "_law_value"] := at_of F__law_refused (gloF X G d (by decide +kernel)) fun _ _ _ _ _ _ us hl => match us, hl with | [_, _], _ => rfl
  obtain ⟨fd__law_fits, F__law_fits⟩ := d.def_ 41 (d := dfn "_law_fits" 41) rfl
  have A__law_fits : At K mg "_law_fits" (topS 41) ["_law_row", "_law_whole", "_law_scale"] := at_of F__law_fits (gloF X G d (by decide +kernel)) fun _ _ _ _ _ _ us hl => match us, hl with | [_, _, _], _ => rfl
  obtain ⟨fd__law_shape, F__law_shape⟩ := d.def_ 42 (d := dfn "_law_shape" 42) rfl
  have A__law_shape : At K mg "_law_shape" (topS 42) ["_law_pen", "_law_most"] := at_of F__law_shape (gloF X G d (by decide +kernel)) fun _ _ _ _ _ _ us hl => match us, hl with | [_, _], _ => rfl
  obtain ⟨fd__law_seen, F__law_seen⟩ := d.def_ 43 (d := dfn "_law_seen" 43) rfl
  have A__law_seen : At K mg "_law_seen" (topS 43) ["_law_shape_here"] := at_of F__law_seen (gloF X G d (by decide +kernel)) fun _ _ _ _ _ _ us hl => match us, hl with | [_], _ => rfl
  obtain ⟨fd__law_asked, F__law_asked⟩ := d.def_ 44 (d := dfn "_law_asked" 44) rfl
  have A__law_asked : At K mg "_law_asked" (topS 44) ["_law_pen", "_law_whole", "_law_scale"] := at_of F__law_asked (gloF X G d (by decide +kernel)) fun _ _ _ _ _ _ us hl => match us, hl with | [_, _, _], _ => rfl
  obtain ⟨fd__law_least, F__law_least⟩ := d.def_ 45 (d := dfn "_law_least" 45) rfl
  have A__law_least : At K mg "_law_least" (topS 45) ["_law_rows"] := at_of F__law_least (gloF X G d (by decide +kernel)) fun _ _ _ _ _ _ us hl => match us, hl with | [_], _ => rfl
  obtain ⟨fd__law_shape_right, F__law_shape_right⟩ := d.def_ 46 (d := dfn "_law_shape_right" 46) rfl
  have A__law_shape_right : At K mg "_law_shape_right" (topS 46) ["_law_pen", "_law_whole", "_law_scale"] := at_of F__law_shape_right (gloF X G d (by decide +kernel)) fun _ _ _ _ _ _ us hl => match us, hl with | [_, _, _], _ => rfl
  obtain ⟨fd__law_column_right, F__law_column_right⟩ := d.def_ 47 (d := dfn "_law_column_right" 47) rfl
  have A__law_column_right : At K mg "_law_column_right" (topS 47) ["_law_pen", "_law_whole", "_law_scale", "_law_mark"] := at_of F__law_column_right (gloF X G d (by decide +kernel)) fun _ _ _ _ _ _ us hl => match us, hl with | [_, _, _, _], _ => rfl
  obtain ⟨fd__law_equal, F__law_equal⟩ := d.def_ 48 (d := dfn "_law_equal" 48) rfl
  have A__law_equal : At K mg "_law_equal" (topS 48) ["_law_whole", "_law_scale", "_law_mark"] := at_of F__law_equal (gloF X G d (by decide +kernel)) fun _ _ _ _ _ _ us hl => match us, hl with | [_, _, _], _ => rfl
  obtain ⟨fd__law_no_figures, F__law_no_figures⟩ := d.def_ 49 (d := dfn "_law_no_figures" 49) rfl
  have A__law_no_figures : At K mg "_law_no_figures" (topS 49) ["_law_deed"] := at_of F__law_no_figures (gloF X G d (by decide +kernel)) fun _ _ _ _ _ _ us hl => match us, hl with | [_], _ => rfl
  obtain ⟨fdR, FR⟩ := d.def_ 50 (d := dfn "_law_refusals" 50) rfl
  obtain ⟨fdL, FL⟩ := d.def_ 51 (d := dfn "law" 51) rfl
  have e := hfa.symm.trans (gloF X G d (x := "law") (by decide +kernel))
  cases e
  have FL' : Fun K "law" "law" sLaw _ fdL := fun_of FL
  have FR' : Fun K "_law_refusals" "_law_refusals" sRefs _ fdR := fun_of FR
  have AR : AtC K mg "_law_refusals" sRefs ["_law_pen", "_law_whole", "_law_scale"] (He.cT K nmF).1 := by
    have bR := FR'.binds (ps := ["_law_pen", "_law_whole", "_law_scale"]) fun _ _ _ _ _ _ us hl => match us, hl with | [_, _, _], _ => rfl
    have gR := gloF X G d (x := "_law_refusals") (by decide +kernel)
    have kR := FR'.kp
    obtain ⟨oc, od, kV, doc, pm, an, cdv, ct, osl, rfl, lk, hcd⟩ := FR'.ex
    obtain ⟨cc, rfl⟩ := He.codeIn_ref hcd
    have ec : He.codeOf K nmF = cc := He.codeOf_eq lk rfl
    refine ⟨_, oc, od, kV, doc, pm, an, ct, osl, ?_, ?_, gR, kR, ?_⟩
    · show K.lookup _ = some ⟨oc, od, .func (PySem.W.fnOf _ _ _ _ _ .none kV doc pm an (.ref (He.codeOf K nmF)) ct), osl⟩
      rw [ec]
      exact lk
    · show PySem.W.codeIn K (.ref (He.codeOf K nmF)) _ = true
      rw [ec]
      exact hcd
    · show Binds K (PySem.W.fnOf _ _ _ _ _ .none kV doc pm an (.ref (He.codeOf K nmF)) ct) _ []
      rw [ec]
      exact bR
  obtain ⟨oc, od, kV, doc, pm, an, cdv, ct, osl, rfl, lk, hcd⟩ := FL'.ex
  obtain ⟨cc, rfl⟩ := He.codeIn_ref hcd
  have ecG : He.codeOf K nmG = cc := He.codeOf_eq lk rfl
  have hL : ∀ (s : Shared) (u : Value), BindsTo s (PySem.W.fnOf "law" "law" (defArgs sLaw) (defBody sLaw) (defScope sLaw) .none kV doc pm an (.ref cc) ct) ⟨[u], []⟩ [("_law_script", u)] := fun s u => .of_eq rfl
  have i1 : nmF ∈ [nmF, nmG] := List.mem_cons_self ..
  have i2 : nmG ∈ [nmF, nmG] := List.mem_cons_of_mem _ (List.mem_singleton.mpr rfl)
  have j1 : He.cT K nmF ∈ [He.cT K nmF, He.cT K nmG] := List.mem_cons_self ..
  have j2 : He.cT K nmG ∈ [He.cT K nmF, He.cT K nmG] := List.mem_cons_of_mem _ (List.mem_singleton.mpr rfl)
  have two : ∀ {p : Addr × Addr}, p ∈ [He.cT K nmF, He.cT K nmG] → p = He.cT K nmF ∨ p = He.cT K nmG := fun hp => (List.mem_cons.mp hp).imp id List.mem_singleton.mp
  refine ⟨_, [He.cT K nmF, He.cT K nmG], spLaw K (He.cT K nmF).2 (He.cT K nmG).2, fun p hp => ?_, fun p hp => ?_, fun p hp => ?_, hL, fun H a ns hl _ hT hs => ⟨a, ns, rfl, hs, hl, fun p hp => ?_, fun _ => rfl⟩, fun base XB GB TBs => ?_⟩
  · rcases two hp with rfl | rfl
    · exact c.empty nmF i1
    · exact c.empty nmG i2
  · rcases two hp with rfl | rfl
    · exact c.out nmF i1
    · exact c.out nmG i2
  · rcases two hp with rfl | rfl
    · exact PySem.W.codeHd_of_K X (c.hd nmF i1)
    · exact PySem.W.codeHd_of_K X (c.hd nmG i2)
  · rcases (List.mem_cons.mp hp).imp id List.mem_singleton.mp with rfl | rfl
    · exact TabS.nil (hT (He.cT K nmF) j1)
    · exact TabS.nil (hT (He.cT K nmG) j2)
  · have TB := TBs (He.cT K nmF) j1
    have TB0 : TabB base mg (He.codeOf K nmG) (He.cT K nmG).2 := TBs (He.cT K nmG) j2
    rw [ecG] at TB0
    have TBg := TB0
    have B : Blt mg := { isi := freeF X G d (by decide +kernel), int := freeF X G d (by decide +kernel), bool := freeF X G d (by decide +kernel), len := freeF X G d (by decide +kernel), list := freeF X G d (by decide +kernel), range := freeF X G d (by decide +kernel), tuple := freeF X G d (by decide +kernel), all := freeF X G d (by decide +kernel), dm := freeF X G d (by decide +kernel), min := freeF X G d (by decide +kernel), max := freeF X G d (by decide +kernel), str := freeF X G d (by decide +kernel), abs := freeF X G d (by decide +kernel), dict := freeF X G d (by decide +kernel), any := freeF X G d (by decide +kernel) }
    have TE_BadValue : ErrC PySem.Challenge.rw_figurestay_k09_shapes_and_columns.prog w K mg base "BadValue" "value" 1 (He.ga K "BadValue") (spErr (He.ga K "BadValue") "value") := ⟨gloF X G d (by decide +kernel), oexB_ok oex_BadValue, ⟨_, fd_BadValue, mt_BadValue.1, beq_iff_eq.mp mt_BadValue.fn, ok_err_BadValue F_BadValue (oexB_ok oex_BadValue) no_BadValue, b_BadValue⟩, L2.xfB_ok xf_BadValue, te_BadValue, no_BadValue⟩
    have TE_NoFigures : ErrN PySem.Challenge.rw_figurestay_k09_shapes_and_columns.prog w K mg base "NoFigures" (He.ga K "NoFigures") := ⟨gloF X G d (by decide +kernel), oexB_ok oex_NoFigures, ⟨_, fd_NoFigures, mt_NoFigures.1, beq_iff_eq.mp mt_NoFigures.fn, ok_err_NoFigures F_NoFigures, b_NoFigures⟩⟩
    have I_Worth : WIs K (He.ga K "Worth") := wis_ok wis_Worth
    have I_Shape : WIs K (He.ga K "Shape") := wis_ok wis_Shape
    have sL_Shape : ∀ T ∈ tys, PySem.W.subIn K (.type T) (.ref (He.ga K "Shape")) = some false := fun T hT => of_decide_eq_true (List.all_eq_true.mp sub_Shape T hT)
    have I_Column : WIs K (He.ga K "Column") := wis_ok wis_Column
    have sL_Column : ∀ T ∈ tys, PySem.W.subIn K (.type T) (.ref (He.ga K "Column")) = some false := fun T hT => of_decide_eq_true (List.all_eq_true.mp sub_Column T hT)
    have T : WorthC K mg (He.ga K "Worth") := ⟨(gloF X G d (by decide +kernel)), cls_Worth, no_Worth_units, no_Worth_scale, no_Worth_floor, no_Worth_more⟩
    have FW' : FunD K "__init__" "Worth.__init__" (defArgs (wI 0)) (defBody (wI 0)) (defScope (wI 0)) [V.int 0] [] _ fd_Worth := FI_Worth
    have bW1 : ∃ ds, Vals [V.int 0] ds ∧ Binds K fd_Worth ["self", "units", "scale"] ds := FW'.binds1 2 0 (by simp) rfl fun T kV doc pm an cdv ct us its hu hi => match us, its, hu, hi with | [_, _], [_], _, _ => ⟨_, rfl, rfl⟩
    have bW0 : Binds K fd_Worth ["self", "units", "scale"] [] := by
      obtain ⟨ds, rd, b⟩ := FW'.binds1 (ps := ["self", "units", "scale"]) 3 1 (by simp) rfl fun T kV doc pm an cdv ct us its hu hi => match us, its, hu, hi with | [_, _, _], [_], _, _ => ⟨_, rfl, rfl⟩
      have e : ds = [] := by cases rd; rfl
      rw [e] at b
      exact b
    have tens : ∀ H : Hp, SqT K H (He.ga K "TENS") (tensL.map V.int) := fun H => by
      have z := He.tupB_ok tup_TENS H
      rw [List.map_map] at z
      exact z
    have D1 := ok_isInt (P := PySem.Challenge.rw_figurestay_k09_shapes_and_columns.prog) (w := w) (base := base) A_is_an_integer B
    have D2 := ok_isWh A_is_whole_number D1
    have D3 := ok_nInt A_need_integer TE_BadValue D1
    have D4 := ok_nWh A_need_whole_number TE_BadValue D2
    have D5 := ok_tenTo (P := PySem.Challenge.rw_figurestay_k09_shapes_and_columns.prog) (w := w) (base := base) A_ten_to B (gloF X G d (by decide +kernel)) tens 8 (by decide)
    have D6 := ok_wz A_without_zeros D5
    have Ddg := ok_dig (P := PySem.Challenge.rw_figurestay_k09_shapes_and_columns.prog) (w := w) (base := base) A_digits_of B
    have Dpt := ok_part A_parted B D5 Ddg
    have M : WMk PySem.Challenge.rw_figurestay_k09_shapes_and_columns.prog w K mg base (He.ga K "BadValue") (He.ga K "Worth") := ⟨_, fd_Worth, mk_Worth, ok_wI FW' T D3 D4 D6 Dpt, bW0, bW1⟩
    have D8 := ok_needW A_need_worth B T I_Worth TE_BadValue
    have marks : ∀ H : Hp, SqT K H (He.ga K "MARKS") (marksL.map V.str) := fun H => by
      have z := He.tupB_ok tup_MARKS H
      rw [List.map_map] at z
      exact z
    have TS : ShapeC K mg (He.ga K "Shape") := ⟨(gloF X G d (by decide +kernel)), cls_Shape, no_Shape_whole, no_Shape_scale⟩
    have MS : SMk PySem.Challenge.rw_figurestay_k09_shapes_and_columns.prog w K mg base (He.ga K "BadValue") (He.ga K "NoFigures") (He.ga K "Shape") := ⟨_, fd_Shape, mk_Shape, ok_sI GI_Shape TS TE_NoFigures D4, bI_Shape⟩
    have SW : SWid PySem.Challenge.rw_figurestay_k09_shapes_and_columns.prog w K mg base (He.ga K "Shape") := ⟨pa_Shape_width, _, fd_Shape_width, po_Shape_width, ok_wid G_Shape_width TS, b_Shape_width⟩
    have Db := ok_bel A_is_below_ten_to B T D5
    have MF : SMeth PySem.Challenge.rw_figurestay_k09_shapes_and_columns.prog w K mg base (He.ga K "Shape") "fits" 11 ["self", "worth"] (spFits (He.ga K "BadValue") (He.ga K "Worth") (He.ga K "Shape")) := ⟨_, fd_Shape_fits, m_Shape_fits, ok_fits G_Shape_fits T TS D8 Db, b_Shape_fits⟩
    have MG : SMeth PySem.Challenge.rw_figurestay_k09_shapes_and_columns.prog w K mg base (He.ga K "Shape") "greatest" 13 ["self"] (spGrt (He.ga K "Worth") (He.ga K "Shape")) := ⟨_, fd_Shape_greatest, m_Shape_greatest, ok_grt G_Shape_greatest T M TS SW D5, b_Shape_greatest⟩
    have ES : SEq PySem.Challenge.rw_figurestay_k09_shapes_and_columns.prog w K mg base (He.ga K "Shape") _ fd_Shape_eq := ⟨m_Shape_eq.1, m_Shape_eq.fn, ok_sEq G_Shape_eq B TS I_Shape, b_Shape_eq, sL_Shape⟩
    have TC : ColC K mg (He.ga K "Column") := ⟨(gloF X G d (by decide +kernel)), cls_Column, no_Column_shape, no_Column_mark⟩
    have FC' : FunD K "__init__" "Column.__init__" (defArgs (coI 0)) (defBody (coI 0)) (defScope (coI 0)) [V.str "signed"] [] _ fd_Column := FI_Column
    have bC1 : ∃ ds, Vals [V.str "signed"] ds ∧ Binds K fd_Column ["self", "whole", "scale", "mark"] ds := FC'.binds1 3 0 (by simp) rfl fun T kV doc pm an cdv ct us its hu hi => match us, its, hu, hi with | [_, _, _], [_], _, _ => ⟨_, rfl, rfl⟩
    have bC0 : Binds K fd_Column ["self", "whole", "scale", "mark"] [] := by
      obtain ⟨ds, rd, b⟩ := FC'.binds1 (ps := ["self", "whole", "scale", "mark"]) 4 1 (by simp) rfl fun T kV doc pm an cdv ct us its hu hi => match us, its, hu, hi with | [_, _, _, _], [_], _, _ => ⟨_, rfl, rfl⟩
      have e : ds = [] := by cases rd; rfl
      rw [e] at b
      exact b
    have MC : CMk PySem.Challenge.rw_figurestay_k09_shapes_and_columns.prog w K mg base (He.ga K "BadValue") (He.ga K "NoFigures") (He.ga K "Column") (He.ga K "Shape") := ⟨_, fd_Column, mk_Column, ok_cI FC' TC TS MS (gloF X G d (by decide +kernel)) marks TE_BadValue D4, bC0, bC1⟩
    have WN : WNeg PySem.Challenge.rw_figurestay_k09_shapes_and_columns.prog w K mg base (He.ga K "Worth") := ⟨_, fd_Worth_neg, m_Worth_neg.1, m_Worth_neg.fn, ok_neg G_Worth_neg T M, b_Worth_neg⟩
    have EC : CEq PySem.Challenge.rw_figurestay_k09_shapes_and_columns.prog w K mg base (He.ga K "Column") (He.ga K "Shape") _ fd_Column_eq := ⟨m_Column_eq.1, m_Column_eq.fn, ok_cEq G_Column_eq B TC I_Column ES, b_Column_eq, sL_Column, of_decide_eq_true ne_C, of_decide_eq_true obj_C⟩
    have MH : SMeth PySem.Challenge.rw_figurestay_k09_shapes_and_columns.prog w K mg base (He.ga K "Column") "holds" 12 ["self", "worth"] (spHld (He.ga K "BadValue") (He.ga K "Worth") (He.ga K "Column") (He.ga K "Shape")) := ⟨_, fd_Column_holds, m_Column_holds, ok_hld G_Column_holds T TS TC MF, b_Column_holds⟩
    have MI : SMeth PySem.Challenge.rw_figurestay_k09_shapes_and_columns.prog w K mg base (He.ga K "Column") "highest" 14 ["self"] (spHgs (He.ga K "Worth") (He.ga K "Column") (He.ga K "Shape")) := ⟨_, fd_Column_highest, m_Column_highest, ok_hgs G_Column_highest TS TC MG, b_Column_highest⟩
    have MM : SMeth PySem.Challenge.rw_figurestay_k09_shapes_and_columns.prog w K mg base (He.ga K "Column") "small" 13 ["self"] (spSml (He.ga K "Worth") (He.ga K "Column") (He.ga K "Shape")) := ⟨_, fd_Column_small, m_Column_small, ok_sml G_Column_small T M TS TC, b_Column_small⟩
    have ML : SMeth PySem.Challenge.rw_figurestay_k09_shapes_and_columns.prog w K mg base (He.ga K "Column") "lowest" 15 ["self"] (spLws (He.ga K "Worth") (He.ga K "Column") (He.ga K "Shape")) := ⟨_, fd_Column_lowest, m_Column_lowest, ok_lws G_Column_lowest T TS TC WN MG MM, b_Column_lowest⟩
    have St : Strange K (He.ga K "Shape") (He.ga K "Column") := ⟨of_decide_eq_true st1, of_decide_eq_true st2, of_decide_eq_true st3, of_decide_eq_true st4⟩
    have F1 := ok_nL A_need_list B TE_BadValue
    have F2 := ok_wf A_whole_figures B D5 Ddg
    have F3 := ok_ss A_some_shape B TS MS
    have DLs := ok_ls A_least_shape B T F1 D8 F2 F3
    have L0 := ok_begin (P := PySem.Challenge.rw_figurestay_k09_shapes_and_columns.prog) (w := w) (base := base) A__law_begin B
    have L1 := ok_draw' (P := PySem.Challenge.rw_figurestay_k09_shapes_and_columns.prog) (w := w) (base := base) A__law_draw B
    have L2 := ok_pick A__law_pick B L1
    have L4 := ok_ten (P := PySem.Challenge.rw_figurestay_k09_shapes_and_columns.prog) (w := w) (base := base) A__law_ten B
    have L3 := ok_figs A__law_figures B L1 L4
    have L5 := ok_drawn A__law_drawn L1 L2 L3
    have L6 := ok_low A__law_low B L4
    have L7 := ok_told (P := PySem.Challenge.rw_figurestay_k09_shapes_and_columns.prog) (w := w) (base := base) A__law_told B T I_Worth
    have L8 := ok_worth A__law_worth T M
    have L9 := ok_wrong A__law_wrong L2
    have Lm := ok_same (P := PySem.Challenge.rw_figurestay_k09_shapes_and_columns.prog) (w := w) (base := base) A__law_same B
    have Lf := ok_lF A__law_fits B L4 L6
    have Lh := ok_lshape A__law_shape L1 L2
    have Ls := ok_seen (P := PySem.Challenge.rw_figurestay_k09_shapes_and_columns.prog) (w := w) (base := base) A__law_seen B TS I_Shape
    have La := ok_ask A__law_asked B L3 L4 L5
    have Le := ok_least A__law_least B L6 Lf
    have LR := ok_sR A__law_shape_right B T TS MS SW MF MG DLs L1 L2 L4 L5 L6 L7 L8 Lm Lf Ls La Le
    have LC := ok_cR A__law_column_right B T TC MC MH ML MI MM L4 L6 L7 L8 Lm Lf Ls La
    have Lq := ok_eq9 A__law_equal B TS MS TC MC I_Shape I_Column ES EC St Lm
    have Ln := ld_no A__law_no_figures TE_NoFigures te_NoFigures
    have Ld := ld_refdH A__law_refused TE_BadValue Lm
    have Lx := ok_refs AR TB B L1 L2 L9 T M TS MS TC MC MF MH DLs Ld
    exact ok_law lk hcd TBg (of_decide_eq_true neT) MS TS MC TC L0 L2 Lh LR LC Ln Lq Lx
end
end K09
open PySem PySem.W PySem.Calls PyProof.Rows
theorem PySem.Challenge.cw_figurestay_k09_shapes_and_columns_holds : PySem.Challenge.rw_figurestay_k09_shapes_and_columns.Holds := by
  w_on; o_law
  refine HandSHeadRun.head_any (r := OpenLaw.row PySem.Challenge.rw_figurestay_k09_shapes_and_columns) (q := view (OpenLaw.row PySem.Challenge.rw_figurestay_k09_shapes_and_columns).prog [51]) (H := K09.hkL) (ob := K09.obL) (M := 4000) (loose := K09.looseL)
    (d := HandSHeadRun.topDef (OpenLaw.row PySem.Challenge.rw_figurestay_k09_shapes_and_columns).prog 51) (kwd := []) K09.obL_eq
    (by kernel_rfl) (fun s => by kernel_rfl) K09.runL (by kernel_rfl) (by kernel_rfl) (by kernel_rfl) (by rfl) (by first | assumption | decide +kernel) (by decide +kernel) ⟨rfl, rfl, rfl, rfl, rfl, by decide +kernel⟩ ?hw ?hc
  case hw => w_witness2
  case hc =>
    refine LamX.walk_ofTsE (l := PySem.Challenge.rw_figurestay_k09_shapes_and_columns) (n := 63) (k := 18) (x := "_law_script") (CX := fun _ => L2.CX0) rfl (by decide) (by kernel_rfl) ⟨rfl, by decide, by decide⟩ ?F (fun _ _ _ _ _ z => z)
    intro w mg fa h Y G hmg0
    obtain ⟨K, KX, c, cp⟩ := Y
    have hmg : mg ("law" : PySem.Str) = some (.ref fa) := by
      have e : (HandSHeadRun.topDef (OpenLaw.row PySem.Challenge.rw_figurestay_k09_shapes_and_columns).prog 51).name = ("law" : PySem.Str) := by kernel_rfl
      rw [← e]
      exact hmg0
    exact ⟨K, KX, K09.law_at KX G hmg c cp⟩
