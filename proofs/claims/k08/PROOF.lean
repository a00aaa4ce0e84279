import PyProof.Rows.All
import Wide.All
import OpenK.AllK
import Wide.FinOn
import HandS.ForMost
import HandS.ForExc
import HandS.Wide
import HandS.WideBits
import HandS.IsInst
import HandS.ExcInit
import HandS.ExcField
import HandS.Nested
import HandS.Deep
import HandS.More
import HandS.Codes
import HandS.Lambda
import KE.KDflt
import KE.IntTextLaws
import HandS.ExcOwn
import HandS.WordsExc
import KE.KStateDown
import HandS.Head0
import HandS.Head1
import HandS.Head2
import HandS.HeadEnd
import HandS.HeadHook1
import HandS.HeadHook2
import HandS.HeadHook3
import HandS.HeadHook4
import HandS.HeadWalk
import KE.KOpsOwn
import HandS.OwnEq
import PyProof.Rows.RuleN_abs
import PyProof.InstNe
import HandS.StrMore
import HandS.Text
import PySem.Challenge.RW_figurestay_k08_whole_shown_as
import Wide.Once
set_option Elab.async false
set_option linter.all false
set_option maxRecDepth 100000
set_option maxHeartbeats 4000000
/-! own layer, of no law: OWN -/
namespace Own
open PySem PySem.Spec PyProof.Rows L2
/-! ### heaps -/
/-- all but what stands at d is as it was -/
def Keep (d : Addr) (H H' : Hp) : Prop := ∀ b o, b ≠ d → H b = some o → H' b = some o
theorem Keep.refl {d : Addr} {H : Hp} : Keep d H H := fun _ _ _ e => e
theorem Keep.trans {d : Addr} {H H1 H2 : Hp} (a : Keep d H H1) (b : Keep d H1 H2) : Keep d H H2 := fun c o n e => b c o n (a c o n e)
theorem Keep.new {d p : Addr} {o : HO} {H : Hp} (h : H p = none) : Keep d H (upd H p o) := fun b u _ e => by
  rw [upd_ne (ne_of_none e h)]
  exact e
theorem Keep.at {d : Addr} {o : HO} {H : Hp} : Keep d H (upd H d o) := fun b u n e => by
  rw [upd_ne n]
  exact e
theorem Keep.same {d : Addr} {H H' : Hp} (s : Same H H') : Keep d H H' := fun b u _ e => s b u e
theorem same_new {H : Hp} {p : Addr} {o : HO} (h : H p = none) : Same H (upd H p o) := fun b u e => by
  rw [upd_ne (ne_of_none e h)]
  exact e
theorem ne_txt : ¬ (("cells" : Str) = "count") ∧ ¬ (("cells" : Str) = "left") ∧ ¬ (("count" : Str) = "left") ∧ ¬ (("count" : Str) = "cells") ∧ ¬ (("left" : Str) = "cells") ∧ ¬ (("left" : Str) = "count") := by decide +kernel
/-- what the pen's dict holds -/
def penK (p : Addr) (c l : Int) : List (Key × V) := [(Sum.inr "cells", V.ref p), (Sum.inr "count", V.int c), (Sum.inr "left", V.int l)]
theorem pen_cells (p : Addr) (c l : Int) : valV (penK p c l) (Sum.inr "cells" : Key) = some (.ref p) := valV_pos rfl
theorem pen_count (p : Addr) (c l : Int) : valV (penK p c l) (Sum.inr "count" : Key) = some (.int c) := by
  unfold penK
  rw [valV_neg (fun e => ne_txt.1 (Sum.inr.inj e)), valV_pos rfl]
theorem pen_left (p : Addr) (c l : Int) : valV (penK p c l) (Sum.inr "left" : Key) = some (.int l) := by
  unfold penK
  rw [valV_neg (fun e => ne_txt.2.1 (Sum.inr.inj e)), valV_neg (fun e => ne_txt.2.2.1 (Sum.inr.inj e)), valV_pos rfl]
theorem key_dec {a b : Str} (h : ¬ a = b) : decide ((Sum.inr a : Key) = Sum.inr b) = false := decide_eq_false fun e => h (Sum.inr.inj e)
theorem put_count (p : Addr) (c l c' : Int) : putK (penK p c l) (Sum.inr "count" : Key) (.int c') = penK p c' l := by
  unfold penK putK
  simp [key_dec ne_txt.1, key_dec ne_txt.2.2.1, key_dec ne_txt.2.2.2.2.2, ne_txt]
theorem put_left (p : Addr) (c l l' : Int) : putK (penK p c l) (Sum.inr "left" : Key) (.int l') = penK p c l' := by
  unfold penK putK
  simp [key_dec ne_txt.2.1, key_dec ne_txt.2.2.1, ne_txt]
/-- the pen stands at d: at most B draws were begun -/
structure Pen (H : Hp) (d : Addr) (B : Int) : Prop where
  ex : ∃ (p : Addr) (ns : List Int) (c l : Int), H d = some (.dK (penK p c l)) ∧ H p = some (.lst (ns.map V.int)) ∧ ns.length ≤ 63 ∧ 0 ≤ c ∧ c ≤ B
theorem Pen.mono {H : Hp} {d : Addr} {B B' : Int} (h : Pen H d B) (z : B ≤ B') : Pen H d B' := by
  obtain ⟨p, ns, c, l, a, b, e, f, g⟩ := h.ex
  exact ⟨p, ns, c, l, a, b, e, f, by omega⟩
theorem Pen.same {H H' : Hp} {d : Addr} {B : Int} (h : Pen H d B) (s : Same H H') : Pen H' d B := by
  obtain ⟨p, ns, c, l, a, b, e, f, g⟩ := h.ex
  exact ⟨p, ns, c, l, s _ _ a, s _ _ b, e, f, g⟩
end Own

/-! from L06 -/
namespace Own
open PySem PySem.Spec PyProof.Rows L2 LamX NdefX
/-- the integers that stand as defaults -/
def dInts : List Expr → List Int
  | .Constant (.int i) _ _ :: r => i :: dInts r
  | _ => []
/-- the tuple of defaults -/
def DfV (H : Hp) (dV : Value) (ds : List Int) : Prop := (ds = [] ∧ dV = .none) ∨ (ds ≠ [] ∧ ∃ T : Addr, dV = .ref T ∧ H T = some (.tup (ds.map V.int)))
def DfIn (h : Heap) (dV : Value) (us : List Value) : Prop := (us = [] ∧ dV = .none) ∨ (us ≠ [] ∧ ∃ T : Addr, dV = .ref T ∧ IsTup h T us.toArray)
/-- a lambda's words in F (its body apart), its defaults dV -/
abbrev lamFd (F : NF) (b : Expr) (dV doc pm ctv : Value) : FuncData := PySem.W.kdv_fn F.name F.qual F.params (.expr b) F.scope F.cl dV doc pm (.ref F.c) ctv
def LamO (f : Addr) (F : NF) (b : Expr) (dV : Value) : HO := .ext fun h => ∃ doc pm ctv : Value, h.get? f = some ({ cls := .type "function", data := .func (lamFd F b dV doc pm ctv) } : Obj)
/-- at f stands the lambda F, whose body is b -/
def LamAt (H : Hp) (f : Addr) (F : NF) (b : Expr) : Prop := ∃ dV : Value, H f = some (LamO f F b dV) ∧ DfV H dV (dInts F.params.defaults)
theorem lamO_ne {f : Addr} {F : NF} {b : Expr} {dV : Value} (ps : Array Value) : LamO f F b dV ≠ .tbl ps := fun z => by
  unfold LamO at z
  cases z
theorem LamAt.ext {H H' : Hp} {f : Addr} {F : NF} {b : Expr} (h : LamAt H f F b) (e : ExtN H H') : LamAt H' f F b := by
  obtain ⟨dV, h1, h2⟩ := h
  refine ⟨dV, e _ _ h1 lamO_ne, ?_⟩
  rcases h2 with z | ⟨n, T, z, q⟩
  · exact .inl z
  · exact .inr ⟨n, T, z, e _ _ q fun ps z => by cases z⟩
theorem lamO_at {P : Program} {w : World} {H : Hp} {h : Heap} {f : Addr} {F : NF} {b : Expr} (hok : HOk P w H h) (e : LamAt H f F b) :
    ∃ dV doc pm ctv : Value, h.get? f = some ({ cls := .type "function", data := .func (lamFd F b dV doc pm ctv) } : Obj) ∧ ∃ us : List Value, Vals ((dInts F.params.defaults).map V.int) us ∧ DfIn h dV us := by
  obtain ⟨dV, h1, h2⟩ := e
  obtain ⟨doc, pm, ctv, z⟩ := (hok f _ h1).1
  refine ⟨dV, doc, pm, ctv, z, ?_⟩
  rcases h2 with ⟨n, z⟩ | ⟨n, T, z, q⟩
  · rw [n]
    exact ⟨[], .nil, .inl ⟨rfl, z⟩⟩
  · obtain ⟨_, its, r, p⟩ := hok T _ q
    refine ⟨its, r, .inr ⟨fun z => ?_, T, z, p⟩⟩
    rw [z] at r
    cases hd : dInts F.params.defaults with
    | nil => exact n hd
    | cons a l =>
      rw [hd] at r
      cases r
section
variable {X : Cx} {pins : List (Addr × Obj)} {σ : L2.St} {H : Hp} {s : Shared}
theorem lam_laid {F : NF} {b : Expr} {dV doc pm ctv : Value} {t' : Nat} (I : Inv X pins σ H s) :
    Inv X pins σ (upd H s.heap.objs.size (LamO s.heap.objs.size F b dV)) { s with heap := s.heap.push ({ cls := .type "function", data := .func (lamFd F b dV doc pm ctv) } : Obj), toks := t' } := by
  have e : (s.heap.push ({ cls := .type "function", data := .func (lamFd F b dV doc pm ctv) } : Obj)).get? s.heap.objs.size = some ({ cls := .type "function", data := .func (lamFd F b dV doc pm ctv) } : Obj) := Heap.get?_push_size _ rfl
  exact I.laid (fun _ _ z => Heap.get?_push_of_some _ z) (Nat.le_refl _) ⟨⟨doc, pm, ctv, e⟩, ⟨_, e⟩, fun _ _ ⟨d, p, c, z⟩ k => ⟨d, p, c, k _ z⟩⟩
/-- the words of the lambda that X makes: c' its code object -/
abbrev lamF (X : Cx) (params : Arguments) (scope : Scope) (c' : Addr) : NF := ⟨"<lambda>", X.env.qual ++ "<lambda>", params, [], scope, cloFrom X.env.cells scope.names [], c'⟩
/-- a lambda made, its defaults laid, and known from now on -/
theorem lam_tail {T : List (Addr × Str)} {c P : Addr} {params : Arguments} {body : Expr} {scope : Scope} {pos : Pos} {fl : Nat} {dV : Value} {E Q : Value → Shared → Prop} (I : Inv X pins σ H s) (TB : TabB X.base X.mg c P) (hcode : X.env.code = .ref c)
    (hm : (P, X.env.qual ++ "<lambda>") ∈ T) (hu : ∀ p ∈ T, p.1 = P → p.2 = X.env.qual ++ "<lambda>") (hT : Tabs T H) (hfree : ∀ y ∈ scope.names, y.2 = .free → ∃ c, X.env.cells.lookup y.1 = some c)
    (k : ∀ (f c' : Addr) (H1 : Hp) (s' : Shared), Inv X pins σ H1 s' → ExtN H H1 → Tabs T H1 → H f = none → H1 f = some (LamO f (lamF X params scope c') body dV) → H1 c' = some (CodeO c' (X.env.qual ++ "<lambda>")) → Q (.ref f) s') :
    wpAny (model X.prog X.w) X.A (makeTail "<lambda>" (X.env.qual ++ "<lambda>") params (.expr body) scope X.env dV .none none pos fl) Q E s := by
  have hTP := hT (P, X.env.qual ++ "<lambda>") hm
  obtain ⟨ps, hP, trip, among⟩ := hTP
  have oP : s.heap.get? P = some { cls := .none, data := .fields ps } := I.hok P _ hP
  have bl := TB.bm.keeps I.bk
  have gl := I.mod.glob.keeps I.bk
  have cd := TB.code.keeps I.bk
  rcases hc : codeAmong pos ps.toList with _ | cv
  · refine PySem.W.kdv_makeTail (closure_ok hfree) I.ok.glob gl hcode cd oP trip hc TB.gP bl ?_
    intro c' ctv doc h' tk hx hge hlt hrec htb
    obtain ⟨c0, oc, vs, t, hc0, hoc, hdc, hvc⟩ := hrec
    obtain rfl : c0 = c' := (Value.ref.inj hc0).symm
    have fresh : H c0 = none := I.hok.fresh hge
    have I1 := inv_table (t' := tk) (q := X.env.qual ++ "<lambda>") (h' := h') I hP (fun b o n e => hx b o n e) htb hge ⟨oc, vs, t, hoc, hdc, hvc⟩
    generalize eH1 : upd (upd H P (.tbl (ps ++ #[rawInt pos.line, rawInt pos.col, .ref c0]))) c0 (CodeO c0 (X.env.qual ++ "<lambda>")) = H1 at I1
    have at1 : H1 c0 = some (CodeO c0 (X.env.qual ++ "<lambda>")) := by rw [← eH1]; exact upd_same
    have ext1 : ExtN H H1 := fun b o e n => by
      have b1 : b ≠ c0 := ne_of_none e fresh
      have b2 : b ≠ P := fun z => n ps (Option.some.inj (e.symm.trans (z ▸ hP)))
      rw [← eH1, upd_ne b1, upd_ne b2]
      exact e
    have tabs1 : Tabs T H1 := fun p hp => by
      by_cases hb : p.1 = P
      · have hq := hu p hp hb
        rw [hq, hb]
        refine ⟨ps ++ #[rawInt pos.line, rawInt pos.col, .ref c0], ?_, ?_, fun p' cv hcv => ?_⟩
        · rw [← eH1, upd_ne (ne_of_none hP fresh), upd_same]
        · rw [Array.toList_append]
          exact PySem.TriplesOk_snoc _ _ _ _ trip
        · rw [Array.toList_append] at hcv
          rcases among_app _ trip hcv with z | z
          · obtain ⟨c1, a1, a2⟩ := among p' cv z
            exact ⟨c1, a1, ext1 _ _ a2 codeO_ne⟩
          · exact ⟨c0, z, at1⟩
      · obtain ⟨qs, a1, a2, a3⟩ := hT p hp
        refine ⟨qs, ?_, a2, fun p' cv hcv => ?_⟩
        · rw [← eH1, upd_ne (ne_of_none a1 fresh), upd_ne hb]
          exact a1
        · obtain ⟨c1, b1, b2⟩ := a3 p' cv hcv
          exact ⟨c1, b1, ext1 _ _ b2 codeO_ne⟩
    have nf1 : H1 h'.objs.size = none := I1.hok.fresh (Nat.le_refl _)
    have I2 := lam_laid (F := lamF X params scope c0) (b := body) (dV := dV) (doc := doc) (pm := (X.mg "__name__").getD .none) (ctv := ctv) (t' := tk) I1
    have up : ∀ b o, H1 b = some o → upd H1 h'.objs.size (LamO h'.objs.size (lamF X params scope c0) body dV) b = some o := fun b o e => (upd_ne (ne_of_none e nf1)).trans e
    exact k _ c0 _ _ I2 (ext1.trans (ExtN.of up)) (tabs1.ext up) (I.hok.fresh (Nat.le_trans hge (Nat.le_of_lt hlt))) upd_same (up _ _ at1)
  · obtain ⟨c', rfl, at0⟩ := among pos cv hc
    refine PySem.W.kdv_makeTailHit (closure_ok hfree) I.ok.glob gl hcode cd oP trip hc bl ?_
    intro ctv doc h' tk hx hsz
    have I1 : Inv X pins σ H { s with heap := h', toks := tk } := I.kept hx
    have nf1 : H h'.objs.size = none := I1.hok.fresh (Nat.le_refl _)
    have I2 := lam_laid (F := lamF X params scope c') (b := body) (dV := dV) (doc := doc) (pm := (X.mg "__name__").getD .none) (ctv := ctv) (t' := tk) I1
    have up : ∀ b o, H b = some o → upd H h'.objs.size (LamO h'.objs.size (lamF X params scope c') body dV) b = some o := fun b o e => (upd_ne (ne_of_none e nf1)).trans e
    exact k _ c' _ _ I2 (ExtN.of up) (hT.ext up) nf1 upd_same (up _ _ at0)
/-- the reading of a lambda as a value -/
def tLamV (X : Cx) (T : List (Addr × Str)) (params : Arguments) (body : Expr) (scope : Scope) : TE := fun _ H Q => Tabs T H ∧ ∀ (f c' : Addr) (H1 : Hp), ExtN H H1 → Tabs T H1 → H f = none →
  LamAt H1 f (lamF X params scope c') body → H1 c' = some (CodeO c' (X.env.qual ++ "<lambda>")) → Q (.ref f) H1
theorem pe_lamV {T : List (Addr × Str)} {c P : Addr} {params : Arguments} {body : Expr} {scope : Scope} {pos : Pos} (TB : TabB X.base X.mg c P) (hcode : X.env.code = .ref c) (hm : (P, X.env.qual ++ "<lambda>") ∈ T)
    (hu : ∀ p ∈ T, p.1 = P → p.2 = X.env.qual ++ "<lambda>") (hdef : params.defaults = []) (hkd : params.kw_defaults = []) (hfr : ∀ y ∈ scope.names, y.2 = .free → X.env.scope.names.lookup y.1 = some .cell ∨ X.env.scope.names.lookup y.1 = some .free) :
    PE X (.Lambda params body scope pos) (tLamV X T params body scope) := by
  refine ⟨fun pins s σ H Q I h => PySem.W.kla_eval ?_ ?_⟩
  · rw [defaultsOf_eq, hdef, hkd]
    rfl
  rw [makeFunction_eq]
  simp only [List.zip_nil_right, List.filterMap_nil, List.isEmpty_nil, if_true, pure_bind]
  refine lam_tail I TB hcode hm hu h.1 (fun y hy e => ?_) fun f c' H1 s' I1 e1 t1 n1 a1 b1 => ⟨.ref f, H1, I1, rfl, h.2 f c' H1 e1 t1 n1 ⟨.none, a1, .inl ⟨by show dInts params.defaults = []; rw [hdef] <;> rfl, rfl⟩⟩ b1⟩
  rcases hfr y hy e with z | z
  · exact I.ok.has _ (.inl z)
  · exact I.ok.has _ (.inr z)
/-- .. with one integer as default -/
theorem pe_lamV1 {T : List (Addr × Str)} {c P : Addr} {params : Arguments} {body : Expr} {scope : Scope} {pos p1 : Pos} {i : Int} {j : Nat} (TB : TabB X.base X.mg c P) (hcode : X.env.code = .ref c) (hm : (P, X.env.qual ++ "<lambda>") ∈ T)
    (hu : ∀ p ∈ T, p.1 = P → p.2 = X.env.qual ++ "<lambda>") (hdef : params.defaults = [.Constant (.int i) j p1]) (hkd : params.kw_defaults = []) (hfr : ∀ y ∈ scope.names, y.2 = .free → X.env.scope.names.lookup y.1 = some .cell ∨ X.env.scope.names.lookup y.1 = some .free) :
    PE X (.Lambda params body scope pos) (tLamV X T params body scope) := by
  refine ⟨fun pins s σ H Q I h => PySem.W.kdv_lam (by rw [hdef]; rfl) hkd ?_⟩
  rw [hdef]
  refine PySem.W.kdv_all1 (thn ((pe_int (X := X) (i := i) (j := j) (pos := p1)).run pins s σ H (fun v H1 => v = .int i ∧ H1 = H) I ⟨rfl, rfl⟩) ?_)
  rintro u s1 ⟨v, H1, I1, r1, rfl, rfl⟩
  refine PySem.W.kdv_all0 ?_
  rw [makeFunction_eq]
  simp only [List.zip_nil_right, List.filterMap_nil, List.isEmpty_nil, List.isEmpty_cons, if_true, pure_bind, Bool.false_eq_true, if_false]
  refine wpAny_bind (wpAny_newTextTuple ?_)
  have nT : H1 s1.heap.objs.size = none := I1.hok.fresh (Nat.le_refl _)
  have I2 : Inv X pins σ (upd H1 s1.heap.objs.size (.tup [.int i])) { s1 with heap := s1.heap.push { cls := .type "tuple", data := .seq [u].toArray } } :=
    I1.laid (t' := s1.toks) (fun _ _ z => Heap.get?_push_of_some _ z) (Nat.le_refl _) ⟨by show 1 ≤ sizeLine; decide, [u], .cons r1 .nil, IsTup.new s1.heap _⟩
  have up : ∀ b o, H1 b = some o → upd H1 s1.heap.objs.size (HO.tup [V.int i]) b = some o := fun b o e => (upd_ne (ne_of_none e nT)).trans e
  refine lam_tail I2 TB hcode hm hu (h.1.ext up) (fun y hy e => ?_) fun f c' H2 s' I3 e1 t1 n1 a1 b1 => ⟨.ref f, H2, I3, rfl, h.2 f c' H2 ((ExtN.of up).trans e1) t1 ?_ ⟨_, a1, .inr ⟨?_, _, rfl, ?_⟩⟩ b1⟩
  · rcases hfr y hy e with z | z
    · exact I.ok.has _ (.inl z)
    · exact I.ok.has _ (.inr z)
  · cases q : H1 f with
    | none => rfl
    | some o => exact (Option.some_ne_none _ ((up _ _ q).symm.trans n1)).elim
  · show dInts params.defaults ≠ []
    rw [hdef]
    simp [dInts]
  · show H2 s1.heap.objs.size = some (.tup ((dInts params.defaults).map V.int))
    rw [hdef]
    exact e1 _ _ upd_same fun ps z => by cases z
end
/-! ### what a lambda promises -/
structure LOk (P : Program) (w : World) (K : PySem.W.Frag) (mg : Str → Option Value) (base : Heap) (CX : CXT) (k : Nat) (f : Addr) (F : NF) (b : Expr) (fr : List Str) (sp : List (Option V) → Hp → VK → XK → Prop) : Prop where
  run : ∀ (A : Around) (outer : List Env) (s : Shared) (H : Hp) (ws : List (Option V)) (Q : VK) (E : XK), Room k A → Env0 P w K mg base A outer s H → LamAt H f F b → H F.c = some (CodeO F.c F.qual) →
    CellsAt F.cl fr ws s.heap H → sp ws H Q E → codeAny (model P w) A (.call (.ref f) ⟨[], []⟩) (CR CX outer P w H s Q E) s
section
variable {CX : CXT} {P : Program} {w : World} {K : PySem.W.Frag} {mg : Str → Option Value} {base : Heap} {N ps fr : List Str} {F : NF} {b : Expr} {f : Addr} {k : Nat} {sp : List (Option V) → Hp → VK → XK → Prop}
theorem lok_of (S : NScope N ps fr F.scope) (hl : (dInts F.params.defaults).length = ps.length)
    (hb : ∀ (dV doc pm ctv : Value) (s : Shared) (us : List Value), us.length = ps.length → DfIn s.heap dV us → BindsTo s (lamFd F b dV doc pm ctv) ⟨[], []⟩ (ps.zip us))
    (hbody : ∀ (A : Around) (outer : List Env) (s : Shared) (H : Hp) (ws : List (Option V)) (Q : VK) (E : XK), Room k (A.deeper (envF F f s.heap.objs.size)) → ws.length = fr.length → sp ws H Q E →
      ∃ t, PE (ncx CX P w K mg base N F f A outer s H E) b t ∧ t (startF N ((dInts F.params.defaults).map V.int) ws) H Q) : LOk P w K mg base CX (k + 1) f F b fr sp := by
  refine ⟨fun A outer s H ws Q E hr e0 hf hc C hsp => ?_⟩
  have lim : s.heap.NoLimit := e0.mod.nolimit.keeps fun b o e => (e0.bs b o e).1
  obtain ⟨dV, doc, pm, ctv, ho, us, rus, hd⟩ := lamO_at e0.hok hf
  have hlu : us.length = ps.length := by rw [← rus.length, List.length_map, hl]
  refine PySem.W.kla_callFunE hr.depth ho rfl S.co S.gen rfl (codeO_at e0.hok hc) ?_
  refine hb dV doc pm ctv s us hlu hd _ _ _ _ ?_
  refine wpAny_newFunctionEnv S.nocell (fun ⟨n, v⟩ hy => S.par n (List.of_mem_zip hy).1) (fun h₁ hns hsb => ⟨lim.fresh _ hsb, ?_⟩) S.kind
  show codeAny _ _ (.expr b (envF F f s.heap.objs.size)) _ _
  obtain ⟨t, ht, hq⟩ := hbody A outer s H ws Q E (hr.deeper _) C.len hsp
  have old : ∀ b o, s.heap.get? b = some o → h₁.get? b = some o := fun b o e => hsb.extBut b o (Nat.ne_of_lt (Heap.lt_size e)) (Heap.get?_push_of_some _ e)
  have I := inv_startN (CX := CX) (N := N) (F := F) (f := f) (E := E) (us := us) (vs := (dInts F.params.defaults).map V.int) (tk := s.toks + (ps.zip us).length) S hr.hd e0 (by rw [List.length_map, hl]) rus C hns old
  refine PySem.W.kla_codeExpr (wpAny_mono (ht.run [] _ _ H Q I hq) (fun v s' q => ?_) fun e s' q => q)
  obtain ⟨x, H', J, rx, q⟩ := q
  exact ⟨x, H', J.os, J.bare, J.base, J.hok, rx, q⟩
end
end Own

/-! from M06 -/
namespace Own
open PySem PySem.Spec PyProof.Rows L2 LamX NdefX
section
variable {X : Cx} {pins : List (Addr × Obj)} {σ : L2.St} {H : Hp} {s : Shared} {cl : List (Str × Addr)} {fr : List Str} {ws : List (Option V)}
/-- what captured cells held at the entry they hold still -/
theorem cells_still (C : CellsAt cl fr ws X.s_0.heap X.H_0) (hx : ∀ b, b ∉ X.ex ∨ ∀ y, cl.lookup y ≠ some b) (I : Inv X pins σ H s) : CellsAt cl fr ws s.heap H := by
  have nx : ∀ {y c}, cl.lookup y = some c → c ∉ X.ex := fun {y c} e => (hx c).elim id fun z => absurd e (z y)
  have still : ∀ {y c v}, cl.lookup y = some c → X.s_0.heap.IsCell c v → s.heap.IsCell c v := fun {y c v} e ⟨o, ho, hd⟩ => by
    obtain ⟨sl, z⟩ := I.base.any ho (C.all y c e).1 (nx e)
    exact ⟨_, z, hd⟩
  constructor
  · exact C.len
  · intro y c e
    obtain ⟨n, v, z⟩ := C.all y c e
    obtain ⟨o, ho, _⟩ := id z
    exact ⟨I.base.free c o ho n (nx e), v, still e z⟩
  · exact C.inj
  · intro i y e
    obtain ⟨c, hc, hv⟩ := C.has i y e
    refine ⟨c, hc, fun v ev => ?_⟩
    obtain ⟨u, r, z⟩ := hv v ev
    exact ⟨u, r, still hc z⟩
/-- the call of a made lambda -/
theorem run_lam {CX : CXT} {k : Nat} {f : Addr} {F : NF} {b : Expr} {sp : List (Option V) → Hp → VK → XK → Prop} {Q : VK} {E : XK} (G : LOk X.prog X.w X.K X.mg X.base CX k f F b fr sp) (hr : Room k X.A) (hx : Passes CX X E) (I : Inv X pins σ H s)
    (hf : LamAt H f F b) (hc : H F.c = some (CodeO F.c F.qual)) (C : CellsAt F.cl fr ws s.heap H) (q : sp ws H Q E) : wpAny (model X.prog X.w) X.A (call (.ref f) []) (EP X pins σ Q) X.xe s := by
  refine wpAny_call (codeAny_mono (G.run _ _ _ _ _ _ _ hr I.env0 hf hc C q) fun r s' z => ?_)
  rcases r with e | fl
  · exact hx pins σ H s e s' I z
  · cases fl
    case ret u => exact I.after z
    all_goals exact False.elim z
/-- deed(), deed a name whose slot holds a lambda; what it captured is known at the entry of this very def -/
theorem pe_deed {CX : CXT} {k i : Nat} {f : Addr} {F : NF} {b : Expr} {sp : List (Option V) → Hp → VK → XK → Prop} {E : XK} {a : Str} {p1 p2 : Pos} (C : CellsAt F.cl fr ws X.s_0.heap X.H_0) (hex : X.ex = []) (G : LOk X.prog X.w X.K X.mg X.base CX k f F b fr sp) (hr : Room k X.A)
    (hx : Passes CX X E) (hN : X.N[i]? = some a) (hv : Vis X.env.scope a) (hd : (a == ("__debug__" : Str)) = false := by decide) (hcd : (a == ("__classdict__" : Str)) = false := by decide) :
    PE X (.Call (.Name a p1) [] [] p2) (fun σ H Q => σ[i]? = some (some (.ref f)) ∧ LamAt H f F b ∧ H F.c = some (CodeO F.c F.qual) ∧ sp ws H Q E) := by
  constructor
  intro pins s σ H Q I h
  obtain ⟨hs, hf, hc, q⟩ := h
  refine wpAny_Call_Name_kw (thn ((pe_var (pos := p1) hN hv hd hcd).run pins s σ H (fun v H1 => v = .ref f ∧ H1 = H) I ⟨.ref f, hs, rfl, rfl⟩) ?_)
  rintro u s1 ⟨v, H1, I1, r1, rfl, rfl⟩
  obtain rfl : u = Value.ref f := r1
  obtain ⟨dV, doc, pm, ctv, ho, _⟩ := lamO_at I1.hok hf
  refine PySem.W.callWith_F0 ⟨_, _, _, _, ho⟩ ?_
  exact run_lam G hr hx I1 hf hc (cells_still C (fun _ => .inl (by rw [hex]; simp)) I1) q
end
section
variable {X : Cx}
/-- a list comprehension's reading, the element's depending on the def's slots as the block begins -/
def tLcD (wi : TI) (g : TG) (te : L2.St → TE) (vs : List Nat) : TE := fun σ H Q => tLc wi g tYes (te σ) vs σ H Q
theorem pe_lcD {elt tg iter : Expr} {scope : Scope} {own : List (Str × Nat)} {pos : Pos} {wi : TI} {g : TG} {te : L2.St → TE} (hc : X.calm = true) (hN : X.N.Nodup) (hi : PI X tg iter wi) (ok : BlkOk X.N X.env.scope scope own)
    (hg : ∀ (s : Shared) (H : Hp) (C : Addr) (cl : List (Str × Addr)) (fp : List Addr), PG (X.blk s H scope (compEnvC scope cl C X.env) fp) tg g)
    (he : ∀ (pins : List (Addr × Obj)) (σ : L2.St) (s : Shared) (H : Hp) (C : Addr) (cl : List (Str × Addr)) (fp : List Addr), Inv X pins σ H s → (∀ b ∈ fp, FpOk X pins H b) → PE (X.blk s H scope (compEnvC scope cl C X.env) fp) elt (te σ))
    (hs : ∀ x, foldedSetIterable iter X.env x = pure x := by intro _; rfl) : PE X (.ListComp elt [⟨tg, iter, [], 0⟩] scope pos) (tLcD wi g te (own.map (·.2))) := by
  constructor
  intro pins s σ H Q I h
  have cap : ∀ y ∈ scope.names, y.2 = .free → ∃ c, X.env.cells.lookup y.1 = some c := fun y hy e => (ok.free y hy e).elim (fun z => I.ok.has _ (.inl z)) (fun z => I.ok.has _ (.inr z))
  rw [eval_ListComp]
  refine wpAny_comprehension_free (use := none) rfl hs (closure_ok cap) ok.kind (fun y hy e => (ok.uniq y hy).trans (congrArg some e)) ?_
  refine thn (hi.run pins s σ H _ I h) fun itr sA hA => thn hA fun _ sB hB => ?_
  obtain ⟨it, fp, tn, J, HB, rfl, IB, T, tB, fB, q⟩ := hB
  have nD : HB sB.heap.objs.size = none := IB.hok.fresh (Nat.le_refl _)
  obtain ⟨W, ⟨m0, w0⟩, turn⟩ := q _ nD
  refine wpAny_newObj_type (newEnv_comp ?_) (by show 0 ≤ sizeLine; decide)
  have inSz : ∀ b ∈ fp, b < sB.heap.objs.size := fun b hb => (T.obj _ _ tB b hb).elim fun _ z => Heap.lt_size z.1
  -- the new list stands
  generalize hsC : ({ sB with heap := sB.heap.push { cls := .type "list", data := .seq ([] : List Value).toArray } } : Shared) = sC
  have heapC : sC.heap = sB.heap.push { cls := .type "list", data := .seq ([] : List Value).toArray } := by subst hsC; rfl
  have toC : ∀ b o, sB.heap.get? b = some o → sC.heap.get? b = some o := fun b o z => by rw [heapC]; exact Heap.get?_push_of_some _ z
  generalize hD : sB.heap.objs.size = D at nD w0 turn inSz
  have IC : Inv X pins σ (upd HB D (.lst [])) sC := by
    have z := IB.laid (a := D) (o := .lst []) (t' := sB.toks) (h' := sC.heap) toC (Nat.le_of_eq hD) ⟨Nat.zero_le _, [], 0, .nil, by rw [heapC, ← hD]; exact Heap.get?_push_size _ rfl⟩
    subst hsC
    exact z
  generalize hHC : upd HB D (.lst []) = HC at IC w0
  have fC : ∀ b ∈ fp, FpOk X pins HC b ∧ b < sC.heap.objs.size := fun b hb => by
    have lt := inSz b hb
    refine ⟨⟨?_, (fB b hb).2⟩, ?_⟩
    · rw [← hHC, upd_ne (Nat.ne_of_lt lt)]
      exact (fB b hb).1
    · rw [heapC, Heap.size_push, hD]
      exact Nat.lt_succ_of_lt lt
  have tC : tn 0 sC.heap := T.keep _ _ _ tB fun b _ o z => toC b o z
  have blk := block_start IC ok hN fC
  generalize hcl : cellsFrom (sC.heap.objs.size + 1) scope.names (cloFrom X.env.cells scope.names []) = cells at blk ⊢
  have hgB := hg sC HC sC.heap.objs.size cells fp
  have heB := he pins σ sC HC sC.heap.objs.size cells fp IC (fun b hb => (fC b hb).1)
  have htB : PTs (X.blk sC HC scope (compEnvC scope cells sC.heap.objs.size X.env) fp) [] tYes := pts_nil
  show codeAny _ _ (.compStart (.ListComp elt [⟨tg, iter, [], 0⟩] scope pos) 0 (.ref it) (.ref D) (compEnvC scope cells sC.heap.objs.size X.env)) (compPost (model X.prog X.w) X.A X.xe none (EP X pins σ Q) (.ref D) sC.heap.objs.size) { sC with heap := pushCells (sC.heap.push { cls := .type "dict", data := .dict #[] }) scope.names }
  generalize hce : compEnvC scope cells sC.heap.objs.size X.env = ce at blk hgB heB htB ⊢
  have ceL : ce.locals = sC.heap.objs.size := by rw [← hce]; rfl
  generalize hsE : ({ sC with heap := pushCells (sC.heap.push { cls := .type "dict", data := .dict #[] }) scope.names } : Shared) = sE at blk ⊢
  have tE : tn 0 sE.heap := T.keep _ _ _ tC fun b _ o z => by rw [← hsE]; exact pushCells_keeps _ _ _ _ (Heap.get?_push_of_some _ z)
  -- the iterator's objects as the block sees them
  have seen : ∀ {σ' : L2.St} {H' : Hp} {s' : Shared}, Inv (X.blk sC HC scope ce fp) [] σ' H' s' → (∀ b ∈ fp, H' b = none) → ∀ b ∈ fp, FpOk (X.blk sC HC scope ce fp) [] H' b := fun {σ' H' s'} J' n b hb => by
    have z1 := J'.ok.exf b hb
    exact ⟨n b hb, z1.1, J'.ok.exfs b hb, .inl hb, z1.2, fun p hp => absurd (show p ∈ ([] : List (Addr × Obj)) ++ [] from hp) (by simp)⟩
  have whole : codeAny (model X.prog X.w) X.A (.compLoop (.ListComp elt [⟨tg, iter, [], 0⟩] scope pos) 0 (.ref it) (.ref D) ce) (compPost (model X.prog X.w) X.A X.xe none (EP X pins σ Q) (.ref D) sC.heap.objs.size) sE := by
    refine compLoop_any (fun n s' => ∃ (i : Nat) (H' : Hp), W i n H' ∧ (∀ b ∈ fp, H' b = none) ∧ tn i s'.heap ∧ Inv (X.blk sC HC scope ce fp) [] (wipe σ (own.map (·.2))) H' s') ?_ m0 ⟨0, HC, w0, fun b hb => (fC b hb).1.1, tE, blk⟩
    rintro n sF ⟨i, HF, wF, nF, tF, IF⟩
    rcases turn i n HF wF with ⟨hstop, hq⟩ | ⟨hgo, Nx, hNx, step⟩
    · have fin := T.done (X.blk sC HC scope ce fp) rfl rfl rfl hc i [] sF _ HF (fun _ _ => False) IF (seen IF nF) tF hstop
      refine thnF fin ?_
      rintro _ sG ⟨rfl, IG⟩
      have IX : Inv X pins σ HF sG := IC.call' (ch := fp) IG.os IG.base IG.hok IG.bare fun b hb => by
        obtain ⟨⟨_, a1, a2, a3, a4, a5⟩, _⟩ := fC b hb
        exact ⟨a3, a1, a4, a5⟩
      have free : HF sC.heap.objs.size = none := by
        have z : HF ce.locals = none := IG.free
        rw [← ceL]
        exact z
      obtain ⟨m, hn, _⟩ := IG.loc
      have hn : sG.heap.Ns ce.locals m := hn
      rw [ceL] at hn
      obtain ⟨f0, f1, f2, f3, f4, f5⟩ := IC.fpOk (H' := HF) (Nat.le_refl _) free
      exact ⟨m, hn, fun h2 sb => ⟨.ref D, HF, IX.turned (t' := sG.toks) (fun b o hb e => (sb.2 b hb).trans e) f0 f1 f3 f4 f5, rfl, hq⟩⟩
    · have nxt := T.item (X.blk sC HC scope ce fp) rfl rfl rfl hc i [] sF _ HF (fun _ _ => False) IF (seen IF nF) tF hgo
      refine thnF nxt ?_
      rintro _ sG ⟨u, rfl, hG⟩
      refine thnF hG ?_
      rintro _ sI ⟨x, HI, II, rI, yI, tI, nI⟩
      have pinned := II.pinned (seen II nI) (T.obj _ _ tI)
      refine thnF (hgB.run _ sI _ HI x u _ pinned rI (step x HI yI)) ?_
      rintro _ sJ ⟨σJ, HJ, IJ, hwJ, qJ⟩
      refine thnF (htB.run _ sJ σJ HJ _ IJ qJ) ?_
      rintro b sK ⟨HK, IK, qK⟩
      have again : ∀ {s' : Shared} {H' : Hp}, Inv (X.blk sC HC scope ce fp) ([] ++ pinsAt fp sI.heap) σJ H' s' → Nx H' → ∃ m, m < n ∧ ∃ (i : Nat) (H' : Hp), W i m H' ∧ (∀ b ∈ fp, H' b = none) ∧ tn i s'.heap ∧ Inv (X.blk sC HC scope ce fp) [] (wipe σ (own.map (·.2))) H' s' := fun {s' H'} J' hx => by
        obtain ⟨m', lt, w'⟩ := hNx H' hx
        have pn : ∀ b ∈ fp, ∀ o, sI.heap.get? b = some o → s'.heap.get? b = some o ∧ H' b = none := fun b hb o z => by
          have y := J'.pin (b, o) (List.mem_append_right _ (List.mem_append_right _ (mem_pinsAt hb z)))
          exact ⟨y.1, y.2.1⟩
        refine ⟨m', lt, i + 1, H', w', fun b hb => ?_, T.keep _ _ _ tI fun b hb o z => (pn b hb o z).1, ?_⟩
        · obtain ⟨o, z, _⟩ := T.obj _ _ tI b hb
          exact (pn b hb o z).2
        · refine (J'.unpinned (pins := [])).weak (by rw [← hwJ, wipe_length]) fun j v z => ?_
          rw [← hwJ] at z
          exact (wipe_some z).1
      cases b
      case false =>
        simp only [Bool.false_eq_true, if_false] at qK ⊢
        exact again IK qK
      case true =>
        simp only [if_true] at qK ⊢
        refine thnF (heB.run _ sK σJ HK _ IK qK) ?_
        rintro z sL ⟨y, HL, IL, rL, acc, hacc, hlen, hnx⟩
        exact app_ok (X := X.blk sC HC scope ce fp) IL hacc hlen rL fun sM IM => again IM hnx
  exact codeAny_compStart_list whole (T.self X.A 0 _ _ _ tE whole)
end
end Own

/-! from N06 -/
namespace Own
open PySem PySem.Spec PyProof.Rows L2 LamX NdefX
/-- a def of the text as its callers know it -/
structure DefOk (P : Program) (w : World) (K : PySem.W.Frag) (mg : Str → Option Value) (base : Heap) (CX : CXT) (x : Str) (k : Nat) (ps : List Str) (sp : Sp) : Prop where
  ex : ∃ (f : Addr) (fd : FuncData), FnOk P w K mg base CX k f fd ps sp ∧ mg x = some (.ref f) ∧ PySem.W.keepIn K (.ref f) = true ∧ Binds K fd ps []
/-- .. as the top has left it -/
structure At (K : PySem.W.Frag) (mg : Str → Option Value) (x : Str) (st : Stmt) (ps : List Str) : Prop where
  ex : ∃ (f : Addr) (fd : FuncData), Fun K x x st f fd ∧ mg x = some (.ref f) ∧ Binds K fd ps []
theorem At.ok {P : Program} {w : World} {K : PySem.W.Frag} {mg : Str → Option Value} {base : Heap} {CX : CXT} {x : Str} {st : Stmt} {k : Nat} {ps : List Str} {sp : Sp} (a : At K mg x st ps) (h : ∀ (f : Addr) (fd : FuncData), Fun K x x st f fd → FnOk P w K mg base CX k f fd ps sp) :
    DefOk P w K mg base CX x k ps sp := by
  obtain ⟨f, fd, F, g, b⟩ := a.ex
  exact ⟨f, fd, h f fd F, g, F.kp, b⟩
section
variable {X : Cx} {CX : CXT} {k j : Nat} {ps : List Str} {sp : Sp} {E : XK} {x : Str} {p pos : Pos} {e : Expr} {es : List Expr} {t : TA}
theorem pe_def (D : DefOk X.prog X.w X.K X.mg X.base CX x k ps sp) (hr : Room j X.A) (hj : k ≤ j) (hg : Gl X x) (hx : Passes CX X E) (ha : PA X (e :: es) t) (hdb : (x == ("__debug__" : Str)) = false := by decide)
    (he : starEach (e :: es) X.env = (false, eval e X.env) :: starEach es X.env := by rfl) (hpl : (backTo pos (starEach es X.env)).any (·.1) = false := by rfl) : PE X (.Call (.Name x p) (e :: es) [] pos) (tCall sp [] E t) := by
  obtain ⟨f, fd, F, g, kp, b⟩ := D.ex
  exact pe_call F (hr.mono hj) hg g kp b .nil hx ha hdb he hpl
theorem pe_def0 (D : DefOk X.prog X.w X.K X.mg X.base CX x k ps sp) (hr : Room j X.A) (hj : k ≤ j) (hg : Gl X x) (hx : Passes CX X E) (hdb : (x == ("__debug__" : Str)) = false := by decide) : PE X (.Call (.Name x p) [] [] pos) (tCall sp [] E tNil) := by
  obtain ⟨f, fd, F, g, kp, b⟩ := D.ex
  exact pe_call0 F (hr.mono hj) hg g kp b .nil hx hdb
end
/-- a def whose first argument is a lambda; sp: what it makes of the lambda's promise and of the other arguments -/
structure LamDef (P : Program) (w : World) (K : PySem.W.Frag) (mg : Str → Option Value) (base : Heap) (g : Addr) (k : Nat) (sp : (Hp → VK → XK → Prop) → List V → Hp → VK → Prop) : Prop where
  run : ∀ (A : Around) (outer : List Env) (s : Shared) (H : Hp) (us : List Value) (f : Addr) (vs : List V) (F : NF) (b : Expr) (fr : List Str) (ws : List (Option V)) (spl : List (Option V) → Hp → VK → XK → Prop) (kl : Nat) (Q : VK), Room k A → kl < k → Env0 P w K mg base A outer s H →
    Vals (.ref f :: vs) us → LOk P w K mg base (L2.CX P w) kl f F b fr spl → LamAt H f F b → H F.c = some (CodeO F.c F.qual) → CellsAt F.cl fr ws s.heap H → sp (spl ws) vs H Q →
    codeAny (model P w) A (.call (.ref g) ⟨us, []⟩) (CR CX0 outer P w H s Q E0) s
structure LamDefAt (P : Program) (w : World) (K : PySem.W.Frag) (mg : Str → Option Value) (base : Heap) (x : Str) (k : Nat) (sp : (Hp → VK → XK → Prop) → List V → Hp → VK → Prop) : Prop where
  ex : ∃ g : Addr, LamDef P w K mg base g k sp ∧ mg x = some (.ref g) ∧ PySem.W.keepIn K (.ref g) = true
/-- one of several lambdas: its words by its code object's address, its body, the captured names and their values, its promise -/
structure Lam where
  nf : Addr → NF
  b : Expr
  fr : List Str
  ws : List (Option V)
  sp : List (Option V) → Hp → VK → XK → Prop
def tLamCall {ι : Type} (L : ι → Lam) (sp : (Hp → VK → XK → Prop) → List V → Hp → VK → Prop) (t : TA) : TE := fun σ H Q => t σ H fun vs H1 => ∃ (i : ι) (f c' : Addr) (rest : List V), vs = .ref f :: rest ∧ LamAt H1 f ((L i).nf c') (L i).b ∧
  H1 ((L i).nf c').c = some (CodeO ((L i).nf c').c ((L i).nf c').qual) ∧ sp ((L i).sp (L i).ws) rest H1 Q
theorem pe_lamcall {ι : Type} {X : Cx} {L : ι → Lam} {k kl j : Nat} {sp : (Hp → VK → XK → Prop) → List V → Hp → VK → Prop} {x : Str} {p pos : Pos} {e : Expr} {es : List Expr} {t : TA} (D : LamDefAt X.prog X.w X.K X.mg X.base x k sp) (hkl : kl < k) (hr : Room j X.A) (hj : k ≤ j)
    (G : ∀ (i : ι) (f c' : Addr), LOk X.prog X.w X.K X.mg X.base (L2.CX X.prog X.w) kl f ((L i).nf c') (L i).b (L i).fr (L i).sp) (C : ∀ (i : ι) (c' : Addr), CellsAt ((L i).nf c').cl (L i).fr (L i).ws X.s_0.heap X.H_0) (hxc : ∀ (i : ι) (c' b : Addr), b ∉ X.ex ∨ ∀ y, ((L i).nf c').cl.lookup y ≠ some b)
    (hg : Gl X x) (ha : PA X (e :: es) t) (hdb : (x == ("__debug__" : Str)) = false := by decide) (he : starEach (e :: es) X.env = (false, eval e X.env) :: starEach es X.env := by rfl) (hpl : (backTo pos (starEach es X.env)).any (·.1) = false := by rfl) :
    PE X (.Call (.Name x p) (e :: es) [] pos) (tLamCall L sp t) := by
  obtain ⟨g, R, gm, kp⟩ := D.ex
  constructor
  intro pins s σ H Q I h
  refine wpAny_Call_Name_kw (ld_glob I hg gm ?_ hdb)
  refine PySem.W.callWith_K (h₀ := X.base) I.ok.mod.kin kp (thn (ha.run pos pins s σ H _ I h) ?_) he hpl
  rintro us s1 ⟨vs, H1, I1, r, i, f, c', rest, rfl, hf, hc, q⟩
  refine ⟨I1.kIn, wpAny_call (codeAny_mono (R.run X.A X.stack s1 H1 us f rest _ _ _ _ _ kl Q (hr.mono hj) hkl I1.env0 r (G i f c') hf hc (cells_still (C i c') (hxc i c') I1) q) fun z s' hz => ?_)⟩
  rcases z with er | fl
  · exact (show False from hz).elim
  · cases fl
    case ret u => exact I1.after hz
    all_goals exact False.elim hz
/-- what the def's own cells hold, told to a block that begins -/
theorem cells_blk {X : Cx} {pins : List (Addr × Obj)} {σ : L2.St} {H : Hp} {s : Shared} {scope : Scope} {fr : List Str} {js : List Nat} (I : Inv X pins σ H s) (hfree : ∀ y ∈ scope.names, y.2 = .free → X.env.scope.names.lookup y.1 = some .cell ∨ X.env.scope.names.lookup y.1 = some .free)
    (hfr : ∀ y ∈ fr, (y, NameKind.free) ∈ scope.names) (hjs : js.map (fun j => X.N[j]?) = fr.map some) : CellsAt (cloFrom X.env.cells scope.names []) fr (js.map (slotAt σ)) s.heap H := cells_of I (Caps.made I.ok hfree hfr hjs)
theorem cells_fp {X : Cx} {pins : List (Addr × Obj)} {σ : L2.St} {H : Hp} {s : Shared} {scope : Scope} {fp : List Addr} (I : Inv X pins σ H s) (hfree : ∀ y ∈ scope.names, y.2 = .free → X.env.scope.names.lookup y.1 = some .cell ∨ X.env.scope.names.lookup y.1 = some .free)
    (hfp : ∀ b ∈ fp, FpOk X pins H b) (b : Addr) : b ∉ fp ∨ ∀ y, (cloFrom X.env.cells scope.names []).lookup y ≠ some b := by
  by_cases hb : b ∈ fp
  · refine .inr fun y z => ?_
    have hf : ∀ y ∈ scope.names, y.2 = .free → ∃ c, X.env.cells.lookup y.1 = some c := fun y hy e => (hfree y hy e).elim (fun z => I.ok.has _ (.inl z)) fun z => I.ok.has _ (.inr z)
    exact (hfp b hb).2.2.2.2.1 y b (clo_cm hf z) rfl
  · exact .inl hb
end Own

/-! from S06 -/
namespace PySem.SeqAt
open AutoSeq1 (wpAny_loadPart')
open MeetsSeq
theorem own_str_dict0 (b : Str) (u : Tok) (l : Addr) (es : Array DictEntry) (ep : Nat) :
    Meets (Builtin.«str.__eq__» ⟨[.str b u, .ref l], []⟩) (fun _ R s => s.heap.get? l = some ({ cls := .type "dict", dict := none, data := .dict es ep, slots := #[] } : Obj) ∧ R (.ok (.ret .notImplemented)) s) :=
  .of_wp fun prog w A R s h => by
    obtain ⟨hp, g, d, tk, os⟩ := s
    obtain ⟨hl, h⟩ := h
    wp_walk using wpAny_loadPart' hl, wpAny_load hl
    exact ⟨_, rfl, h⟩
theorem own_dict_str0 (b : Str) (u : Tok) (l : Addr) (es : Array DictEntry) (ep : Nat) :
    Meets (Builtin.«dict.__eq__» ⟨[.ref l, .str b u], []⟩) (fun _ R s => s.heap.get? l = some ({ cls := .type "dict", dict := none, data := .dict es ep, slots := #[] } : Obj) ∧ R (.ok (.ret .notImplemented)) s) :=
  .of_wp fun prog w A R s h => by
    obtain ⟨hp, g, d, tk, os⟩ := s
    obtain ⟨hl, h⟩ := h
    have f1 := F.sub_str_dict
    wp_walk using wpAny_loadPart' hl, wpAny_load hl
    exact ⟨_, rfl, h⟩
theorem own_rc_str_dict {A : Around} {s : Shared} {l : Addr} {es : Array DictEntry} {ep : Nat} (b : Str) (u : Tok) (ho : s.heap.get? l = some ({ cls := .type "dict", dict := none, data := .dict es ep, slots := #[] } : Obj)) (hu : A.units < cLine) : RcAt A s (.str b u) (.ref l) false :=
  fun prog w E Q h => by
    refine rc_eq_decline_or (k := false) (typeIs_str s b u) ⟨_, ho, rfl⟩ (by decide) F.sub_dict_str F.slot_str_eq F.slot_dict_eq_refl ?_ ?_ ?_ (.inr hu) h
    · exact fun _ hq => call_meets F.slot_str_eq (typeIs_str s b u) F.entry_str_eq (F.args_str_eq_2 _ _) (own_str_dict0 b u l es ep) ⟨ho, hq⟩
    · exact fun _ hq => call_meets F.slot_dict_eq_refl ⟨_, ho, rfl⟩ F.entry_dict_eq (F.args_dict_eq_2 _ _) (own_dict_str0 b u l es ep) ⟨ho, hq⟩
    · exact fun _ hq => wpAny_of_eq (rfl : isSame (.str b u) (.ref l) = pure false) hq
theorem own_eq_str_dict {A : Around} {s : Shared} {l : Addr} {es : Array DictEntry} {ep : Nat} (b : Str) (u : Tok) (ho : s.heap.get? l = some ({ cls := .type "dict", dict := none, data := .dict es ep, slots := #[] } : Obj)) (hu : A.units < cLine) : EqAt A s (.str b u) (.ref l) false :=
  fun prog w E Q h => by
    unfold eqBool
    refine wpAny_holding (wpAny_ite_split (fun z => absurd (eq_of_beq z) nofun) fun _ => ?_)
    exact wpAny_bind (own_rc_str_dict b u ho hu prog w E _ (wpAny_truthy_bool h))
end PySem.SeqAt
namespace Own
open PySem PySem.Spec PyProof.Rows L2
/-- a value that is no text, and no number with a text's place -/
inductive NoTxt (H : Hp) : V → Prop where
  | non : NoTxt H .non
  | bl (b : Bool) : NoTxt H (.bl b)
  | int (i : Int) : NoTxt H (.int i)
  | lst {a : Addr} {xs : List V} (e : H a = some (.lst xs)) : NoTxt H (.ref a)
  | tup {a : Addr} {xs : List V} (e : H a = some (.tup xs)) : NoTxt H (.ref a)
  | dct {a : Addr} {kvs : List (Key × V)} (e : H a = some (.dK kvs)) : NoTxt H (.ref a)
theorem NoTxt.ne {X : Cx} {pins : List (Addr × Obj)} {σ : L2.St} {H : Hp} {s : Shared} {x : V} {v : Value} (I : Inv X pins σ H s) (h : NoTxt H x) (r : RelV x v) {A : Around} (hu : A.units < cLine) (z : Str) (t : Tok) : SeqAt.EqAt A s (.str z t) v false := by
  cases h with
  | non => cases r; exact SeqAt.EqAt.str_none z t
  | bl b => cases r; exact SeqAt.EqAt.str_bool z t b
  | int i =>
    obtain ⟨u, rfl⟩ := r
    exact SeqAt.EqAt.str_int z t i u
  | lst e =>
    cases r
    obtain ⟨its, _, pl, _⟩ := I.list (SqL.of e)
    exact SeqAt.EqAt.str_list z t pl.isList hu
  | tup e =>
    cases r
    obtain ⟨its, _, pl, _⟩ := I.tuple (SqT.of e)
    exact SeqAt.EqAt.str_tuple z t pl hu
  | dct e =>
    cases r
    obtain ⟨_, _, vs, _, ⟨⟨c, dd, da, sl⟩, es, ep, ho, hx, hd, _⟩⟩ := (show ObjOk X.prog X.w H s.heap _ (.dK _) from I.hok _ _ e)
    obtain ⟨rfl, rfl, rfl⟩ := hx
    obtain rfl : da = .dict es ep := hd
    exact SeqAt.own_eq_str_dict z t ho hu
def rNotInW (K : PySem.W.Frag) : R2 := fun x y H Q => ∃ (p : Addr) (zs : List Str), y = .ref p ∧ SqT K H p (zs.map V.str) ∧ NoTxt H x ∧ Q (.bl true) H
theorem op_notInW {X : Cx} (hu : X.A.units + 1 < cLine) : OpR X (compareOp .NotIn) (rNotInW X.K) := by
  intro pins s σ H x y v u Q I rx ry h
  obtain ⟨p, zs, rfl, hq, nt, q⟩ := h
  cases ry
  obtain ⟨its, r, pl, hz⟩ := I.tuple hq
  have txts : ∀ w ∈ its, ∃ (z : Str) (t : Tok), w = .str z t := fun w hw => by
    obtain ⟨i, hi⟩ := List.mem_iff_getElem?.mp hw
    have hlt : i < (zs.map V.str).length := by
      rw [Paired.length r]
      exact (List.getElem?_eq_some_iff.mp hi).1
    obtain ⟨u', h1, h2⟩ := r.get (List.getElem?_eq_getElem hlt)
    rw [hi] at h1
    cases h1
    rw [List.getElem_map] at h2
    obtain ⟨t, z⟩ := h2
    exact ⟨_, t, z⟩
  have hu0 : X.A.units < cLine := Nat.lt_of_le_of_lt (Nat.le_succ _) hu
  have hu' : X.A.in1.units < cLine := by first | exact hu0 | exact hu
  refine SeqAt.notIn_tupleAt (fun _ => false) pl (fun w hw => ?_) ⟨.bl _, H, I, rfl, ?_⟩
  · obtain ⟨z, t, rfl⟩ := txts w (by simpa using hw)
    exact nt.ne I rx hu' z t
  · have e : its.toArray.any (fun _ => false) = false := by simp
    rw [e]
    exact q
end Own


/-! from P06 -/
namespace Own
open PySem PySem.Spec PyProof.Rows L2
inductive Thing (H : Hp) : V → Prop where
  | non : Thing H .non
  | bl (b : Bool) : Thing H (.bl b)
  | int (i : Int) : Thing H (.int i)
  | str (z : Str) : Thing H (.str z)
  | lst {a : Addr} {xs : List V} (e : H a = some (.lst xs)) : Thing H (.ref a)
  | tup {a : Addr} {xs : List V} (e : H a = some (.tup xs)) : Thing H (.ref a)
  | dct {a : Addr} {kvs : List (Key × V)} (e : H a = some (.dK kvs)) : Thing H (.ref a)
theorem Thing.same {H H' : Hp} {x : V} (h : Thing H x) (s : Same H H') : Thing H' x := by
  cases h with
  | non => exact .non
  | bl b => exact .bl b
  | int i => exact .int i
  | str z => exact .str z
  | lst e => exact .lst (s _ _ e)
  | tup e => exact .tup (s _ _ e)
  | dct e => exact .dct (s _ _ e)
def isInt : V → Bool
  | .int _ => true
  | _ => false
def isBl : V → Bool
  | .bl _ => true
  | _ => false
/-- isinstance(x, int), isinstance(x, bool) -/
theorem Thing.isi {K : PySem.W.Frag} {H : Hp} {x : V} (h : Thing H x) : ∃ t : Value, TyX K H x t ∧ PySem.W.kitOne K t (.type "int") = some (isInt x || isBl x) ∧ PySem.W.kitOne K t (.type "bool") = some (isBl x) := by
  cases h with
  | non => exact ⟨_, .base .non, kit_ty (show kitB "NoneType" "int" = some false by decide +kernel), kit_ty (show kitB "NoneType" "bool" = some false by decide +kernel)⟩
  | bl b => exact ⟨_, .base (.bl b), kit_ty (show kitB "bool" "int" = some true by decide +kernel), kit_ty (show kitB "bool" "bool" = some true by decide +kernel)⟩
  | int i => exact ⟨_, .base (.int i), kit_ty (show kitB "int" "int" = some true by decide +kernel), kit_ty (show kitB "int" "bool" = some false by decide +kernel)⟩
  | str z => exact ⟨_, .base (.str z), kit_ty (show kitB "str" "int" = some false by decide +kernel), kit_ty (show kitB "str" "bool" = some false by decide +kernel)⟩
  | lst e => exact ⟨_, .base (.lst e), kit_ty (show kitB "list" "int" = some false by decide +kernel), kit_ty (show kitB "list" "bool" = some false by decide +kernel)⟩
  | tup e => exact ⟨_, .base (.tup e), kit_ty (show kitB "tuple" "int" = some false by decide +kernel), kit_ty (show kitB "tuple" "bool" = some false by decide +kernel)⟩
  | dct e => exact ⟨_, .base (.dK e), kit_ty (show kitB "dict" "int" = some false by decide +kernel), kit_ty (show kitB "dict" "bool" = some false by decide +kernel)⟩
theorem Thing.noTxt {H : Hp} {x : V} (h : Thing H x) : NoTxt H x ∨ ∃ z, x = .str z := by
  cases h with
  | non => exact .inl .non
  | bl b => exact .inl (.bl b)
  | int i => exact .inl (.int i)
  | str z => exact .inr ⟨z, rfl⟩
  | lst e => exact .inl (.lst e)
  | tup e => exact .inl (.tup e)
  | dct e => exact .inl (.dct e)
/-- what a written dict says at a text -/
def KGet (K : PySem.W.Frag) (d : Addr) (z : Str) (r : Option V) : Prop := ∃ ro : Option Value, PySem.W.nsIn K d z = some ro ∧ RelO r ro
section
variable {X : Cx} {d : Addr} {es : Array DictEntry} {n : Nat} {o e f : Expr} {apos cpos : Pos} {td ty tx : TE}
theorem pe_kget2 (D : KDict X.K X.w d es n) (ho : PE X o td) (he : PE X e ty) (hf : PE X f tx) (m : M2 X o "get" apos e f cpos) :
    PE X (.Call (.Attribute o "get" apos) [e, f] [] cpos) (fun σ H Q => td σ H fun x H1 => x = .ref d ∧ ty σ H1 fun y H2 => tx σ H2 fun z H3 => ∃ (t : Str) (r : Option V), y = .str t ∧ KGet X.K d t r ∧ Q (r.getD z) H3) := by
  constructor
  intro pins s σ H Q I h
  refine wpAny_Call_method m.base m.few m.line PySem.F.plainAttrs_dict PySem.F.slot_dict_get PySem.F.type_dict_get (thn (ho.run pins s σ H _ I h) ?_)
  rintro u s1 ⟨x, H1, I1, rx, rfl, q1⟩
  obtain rfl : u = Value.ref d := rx
  refine ⟨kd_type D I1, fun b q => ?_, ?_⟩
  · cases q
    exact ⟨_, I1.kIn _ _ D.at_, rfl⟩
  rw [m.trees]
  refine Calls.callWith_builtin rfl (Calls.evalArgs_plain (Calls.spliced_cons (thn (he.run pins s1 σ H1 _ I1 q1) ?_)))
  rintro iv s2 ⟨y, H2, I2, ry, q2⟩
  refine Calls.spliced_cons (thn (hf.run pins s2 σ H2 _ I2 q2) ?_)
  rintro fv s3 ⟨z, H3, I3, rz, t, r, rfl, ⟨ro, hk, rr⟩, q3⟩
  refine Calls.spliced_nil ?_
  obtain ⟨tk, rfl⟩ := ry
  show wpAny _ _ (call (.builtin "dict.get") [.ref d, .str t tk, fv]) _ _ _
  refine call_meetsIn PySem.F.slot_dict_get (kd_type D I3) PySem.F.entry_dict_get (PySem.F.args_dict_get_3 _ _ _) (meets_dict_get_default (strKind X.prog X.w) d (strKind_is X.prog X.w t tk) D.low fv) ⟨_, PySem.W.mapOf_K (prog := X.prog) I3.kIn D.at_ D.lit, ?_⟩
  rw [PySem.W.find_K D.at_ hk]
  refine ⟨r.getD z, H3, I3.tok _, ?_, q3⟩
  cases r with
  | none =>
    cases ro with
    | none => exact rz
    | some u => exact rr.elim
  | some v =>
    cases ro with
    | none => exact rr.elim
    | some u => exact rr
end
/-! ### an error class whose __init__ keeps one field -/
structure ErrC (P : Program) (w : World) (K : PySem.W.Frag) (mg : Str → Option Value) (base : Heap) (x fld : Str) (k : Nat) (C : Addr) (sp : Sp) : Prop where
  g : mg x = some (.ref C)
  oex : OexC K C
  ini : ∃ (fI : Addr) (fd : FuncData), PySem.W.findIn K (.ref C) "__init__" = some (some (.ref fI)) ∧ PySem.W.typeIn K (.ref fI) = some (.type "function") ∧ FnOk P w K mg base CX0 k fI fd ["self", fld] sp ∧ Binds K fd ["self", fld] []
  xf : XfC K C
  te : PySem.W.exmOne K (.ref C) (.ref C) = some true
  noV : PySem.W.findIn K (.ref C) fld = some none
def spErr (C : Addr) (fld : Str) : Sp := fun vs H Q _ => ∃ (a : Addr) (y : V), vs = [.ref a, y] ∧ H a = some (exo a C none) ∧ ∀ dx, H dx = none → dx ≠ a → Q .non (upd (upd H dx (exd dx [(fld, y)])) a (exo a C (some dx)))
/-- such an error leaves: its value x -/
def Bad (C : Addr) (fld : Str) (x : V) (H : Hp) (E : XK) : Prop := ∀ (d : Addr) (H' : Hp), Same H H' → H d = none → H' d = some (.xd [(fld, x)]) → E (.ref C) (some d) H'
theorem Bad.same {C : Addr} {fld : Str} {x : V} {H H1 : Hp} {E : XK} (h : Bad C fld x H E) (s : Same H H1) : Bad C fld x H1 E := fun d H' s' n e => h d H' (s.trans s') (s.free n) e
section
variable {X : Cx} {x fld : Str} {k j : Nat} {C : Addr} {e : Expr} {te : TE} {p pos : Pos}
theorem pmk_err (D : ErrC X.prog X.w X.K X.mg X.base x fld k C (spErr C fld)) (hr : Room j X.A) (hj : k + 1 ≤ j) (hg : Gl X x) (he : PE X e te) (hdb : (x == ("__debug__" : Str)) = false := by decide)
    (hst : starEach (e :: []) X.env = (false, eval e X.env) :: starEach [] X.env := by rfl) (hpl : (backTo pos (starEach [] X.env)).any (·.1) = false := by rfl) :
    PMk X (.Call (.Name x p) [e] [] pos) (tMkO C (spErr C fld) [] (tCons te tNil)) := by
  obtain ⟨fI, fd, iC, tI, F1, b⟩ := D.ini
  exact pmk_oex D.oex iC tI F1 (hr.mono hj) b .nil (fun _ _ _ _ _ _ _ z => z.elim) hg D.g (pa_cons he pa_nil hst) hdb hst hpl
end
/-- the end of such a making -/
theorem bad_mk {C : Addr} {fld : Str} {y : V} {H : Hp} {Q : XK} (h : Bad C fld y H Q) : [y].length ≤ 1000 ∧ ∀ a, H a = none → spErr C fld (.ref a :: ([y] ++ [])) (upd H a (exo a C none))
    (fun v H2 => v = .non ∧ ∃ (d : Addr) (fs : List (Str × V)), H2 a = some (exo a C (some d)) ∧ H2 d = some (exd d fs) ∧ H d = none ∧ Q (.ref C) (some d) (upd (del H2 a) d (.xd fs))) (fun _ _ _ => False) := by
  refine ⟨by show 1 ≤ 1000; decide, fun a na => ⟨a, y, rfl, upd_same, fun dx ndx ne => ⟨rfl, dx, [(fld, y)], upd_same, ?_, ?_, ?_⟩⟩⟩
  · rw [upd_ne ne, upd_same]
  · rw [upd_ne ne] at ndx
    exact ndx
  · have nd : H dx = none := by
      rw [upd_ne ne] at ndx
      exact ndx
    refine h dx _ (fun b o e => ?_) nd upd_same
    have b1 : b ≠ a := ne_of_none e na
    have b2 : b ≠ dx := ne_of_none e nd
    rw [upd_ne b2, del_ne b1, upd_ne b1, upd_ne b2, upd_ne b1]
    exact e
end Own

/-! from U06 -/
namespace Own
open PySem PySem.Spec PyProof.Rows L2
theorem op_mulS {X : Cx} : OpR X (binaryOp .Mult) (fun x y H Q => ∃ (z : Str) (n : Int), x = .str z ∧ y = .int n ∧ MulOk z n ∧ Q (.str (Txt.mul z n)) H) := by
  intro pins s σ H x y v u Q I rx ry h
  obtain ⟨z, n, rfl, rfl, ok, q⟩ := h
  obtain ⟨t, rfl⟩ := rx
  obtain ⟨t', rfl⟩ := ry
  exact SB.mul ok fun t2 k => ⟨.str _, H, I.tok _, ⟨_, rfl⟩, q⟩
theorem zeros_fold : ∀ (n : Nat) (acc : Array Nat), ((List.replicate n #[48]).foldl (· ++ ·) acc).toList = acc.toList ++ List.replicate n 48
  | 0, acc => by simp
  | n + 1, acc => by
    rw [List.replicate_succ, List.foldl_cons, zeros_fold n, Array.toList_append, List.replicate_succ, List.append_assoc]
    rfl
theorem zero_cps : ("0" : Str).cps = #[48] := by decide +kernel
theorem one_cps : ("1" : Str).cps = #[49] := by decide +kernel
theorem zeros (n : Nat) : (Txt.mul "0" (n : Int)).cps.toList = List.replicate n 48 := by
  unfold Txt.mul
  by_cases h0 : n = 0
  · subst h0
    rw [if_pos (by omega)]
    rfl
  · rw [if_neg (by omega)]
    by_cases h1 : n = 1
    · subst h1
      rw [if_pos (by simp), zero_cps]
      rfl
    · have e : ¬ (((n : Int) == 1 || ("0" : Str).length == 0) = true) := by
        have l : ("0" : Str).length = 1 := by decide +kernel
        rw [l]
        simp
        omega
      rw [if_neg e]
      show ((List.replicate (n : Int).toNat ("0" : Str).cps).foldl (· ++ ·) #[]).toList = _
      rw [zero_cps, Int.toNat_natCast, zeros_fold]
      rfl
/-- '1' + '0' * n -/
def tenS (n : Nat) : Str := ("1" : Str) ++ Txt.mul "0" (n : Int)
theorem tenS_list (n : Nat) : (tenS n).cps.toList = 49 :: List.replicate n 48 := by
  have e : (tenS n).cps = ("1" : Str).cps ++ (Txt.mul "0" (n : Int)).cps := rfl
  rw [e, Array.toList_append, zeros, one_cps]
  rfl
theorem tens_val : ∀ (n a : Nat), (List.replicate n 48).foldl (fun acc c => acc * 10 + (c - 48)) a = a * 10 ^ n
  | 0, a => by simp
  | n + 1, a => by
    rw [List.replicate_succ, List.foldl_cons, tens_val n]
    show (a * 10 + 0) * 10 ^ n = a * 10 ^ (n + 1)
    rw [Nat.add_zero, Nat.pow_succ, Nat.mul_assoc, Nat.mul_comm 10]
theorem str_len (x : Str) : x.length = x.cps.toList.length := by
  cases x
  rfl
theorem tenS_len (n : Nat) : (tenS n).length = n + 1 := by
  rw [str_len, tenS_list, List.length_cons, List.length_replicate]
theorem ten_text {n : Nat} (h : n ≤ 600) : PySem.intText? (tenS n) = some ((10 : Int) ^ n) := by
  have e := PySem.intText_digits (x := tenS n) (fun c hc => by
      rw [tenS_list] at hc
      rcases List.mem_cons.mp hc with rfl | hc
      · exact ⟨by decide, by decide⟩
      · have := (List.mem_replicate.mp hc).2
        omega) (by rw [tenS_list]; simp) (by rw [tenS_len]; omega)
  rw [e]
  have z : NumText.digitsVal (tenS n).cps.toList = 10 ^ n := by
    rw [tenS_list]
    unfold NumText.digitsVal
    rw [List.foldl_cons, tens_val]
    simp
  rw [z]
  simp
theorem mulOk0 {n : Nat} (h : n ≤ 600) : MulOk "0" (n : Int) := by
  have l : ("0" : Str).length = 1 := by decide +kernel
  refine ⟨?_, fun h1 h2 => ?_, fun h1 h2 => ?_⟩
  · rw [Bool.or_eq_false_iff]
    exact ⟨decide_eq_false (by omega), decide_eq_false (by omega)⟩
  · rw [l]
    have z := Int.le_ediv_of_mul_le (c := (n : Int)) (a := 1) (b := 2 ^ 63 - 1) (by omega) (by omega)
    omega
  · rw [l, Nat.one_mul, Int.toNat_natCast]
    exact decide_eq_false (by have := sizeLine_eq; omega)
end Own

/-! from V06 -/
namespace Own
theorem ten_pos (n : Nat) : (0 : Int) < (10 : Int) ^ n := Int.pow_pos (by decide)
theorem ten_mono {m n : Nat} (h : m ≤ n) : (10 : Int) ^ m ≤ (10 : Int) ^ n := by
  obtain ⟨k, rfl⟩ := Nat.le.dest h
  rw [Int.pow_add]
  have a := ten_pos m
  have b : (1 : Int) ≤ (10 : Int) ^ k := ten_pos k
  have := Int.mul_le_mul_of_nonneg_left b (Int.le_of_lt a)
  omega
theorem ten_nat (n : Nat) : ((10 : Int) ^ n).natAbs = 10 ^ n := by
  rw [Int.natAbs_pow]
  rfl
theorem ten_lt (n : Nat) : ((10 : Int) ^ n).natAbs < 2 ^ (4 * n + 1) := by
  rw [ten_nat, Nat.pow_succ, Nat.pow_mul]
  have a : 10 ^ n ≤ (2 ^ 4) ^ n := Nat.pow_le_pow_left (by decide) n
  have b : 0 < (2 ^ 4) ^ n := Nat.pow_pos (by decide)
  omega
theorem lt_two {i j : Int} {k : Nat} (h0 : 0 ≤ i) (h1 : i ≤ j) (h : j.natAbs < 2 ^ k) : i.natAbs < 2 ^ k := Nat.lt_of_le_of_lt (by omega) h
end Own

/-! from W06 -/
namespace Own
open PySem PySem.Spec PyProof.Rows L2
theorem merge_app : ∀ (kvs acc : List (Key × V)), ((acc ++ kvs).map (·.1)).Nodup → mergeK acc kvs = acc ++ kvs
  | [], acc, _ => by simp [mergeK]
  | p :: r, acc, h => by
    have hn : valV acc p.1 = none := by
      cases e : valV acc p.1 with
      | none => rfl
      | some v =>
        have m := valV_in e
        rw [List.map_append, List.nodup_append] at h
        exact absurd rfl (h.2.2 p.1 m p.1 (by simp))
    have z := merge_app r (acc ++ [p]) (by
      rw [List.append_assoc]
      exact h)
    show mergeK (putK acc p.1 p.2) r = acc ++ p :: r
    rw [putK_new _ hn, z, List.append_assoc]
    rfl
theorem merge_new {kvs : List (Key × V)} (h : (kvs.map (·.1)).Nodup) : mergeK [] kvs = kvs := merge_app kvs [] h
/-- a dict of texts -/
def txK (l : List (Str × V)) : List (Key × V) := l.map fun p => (Sum.inr p.1, p.2)
theorem txK_val : ∀ (l : List (Str × V)) (z : Str), valV (txK l) (Sum.inr z : Key) = l.lookup z
  | [], z => rfl
  | p :: r, z => by
    obtain ⟨a, v⟩ := p
    by_cases h : a = z
    · subst h
      rw [show txK ((a, v) :: r) = (Sum.inr a, v) :: txK r from rfl, valV_pos rfl]
      simp [List.lookup]
    · rw [show txK ((a, v) :: r) = (Sum.inr a, v) :: txK r from rfl, valV_neg (fun e => h (Sum.inr.inj e)), txK_val r z]
      have hb : (z == a) = false := by simpa using fun e : z = a => h e.symm
      simp [List.lookup, hb]
theorem DGet.tx {H : Hp} {a : Addr} {l : List (Str × V)} (z : Str) (e : H a = some (.dK (txK l))) : DGet H a (.str z) (l.lookup z) := by
  have q := DGet.k (k := (Sum.inr z : Key)) e
  rw [txK_val] at q
  exact q
end Own

/-! from Y06 -/
namespace Own
open PySem PySem.Spec PyProof.Rows L2
/-- a flat value's datum -/
def datV : V → PyData
  | .bl b => .bool b
  | .int i => .int i
  | .str z => .str z
  | _ => .none
def okF : V → Bool
  | .non => true
  | .bl _ => true
  | .int _ => true
  | .str z => PyData.strOk z
  | _ => false
/-- a value handed in that is equal to itself -/
inductive Odd (H : Hp) : V → Prop where
  | flat {x : V} (h : okF x = true) : Odd H x
  | lst {a : Addr} {xs : List V} (e : H a = some (.lst xs)) (f : xs.all okF = true) : Odd H (.ref a)
  | tup {a : Addr} {xs : List V} (e : H a = some (.tup xs)) (f : xs.all okF = true) : Odd H (.ref a)
  | dct {a : Addr} {kvs : List (Key × V)} (e : H a = some (.dK kvs)) (n : (kvs.map (·.1)).Nodup) (f : ∀ p ∈ kvs, flatB p.2 = true) : Odd H (.ref a)
theorem Odd.same {H H' : Hp} {x : V} (h : Odd H x) (s : Same H H') : Odd H' x := by
  cases h with
  | flat h => exact .flat h
  | lst e f => exact .lst (s _ _ e) f
  | tup e f => exact .tup (s _ _ e) f
  | dct e n f => exact .dct (s _ _ e) n f
theorem Odd.thing {H : Hp} {x : V} (h : Odd H x) : Thing H x := by
  cases h with
  | flat h =>
    cases x <;> first | exact .non | exact .bl _ | exact .int _ | exact .str _ | (simp [okF] at h)
  | lst e f => exact .lst e
  | tup e f => exact .tup e
  | dct e n f => exact .dct e
theorem dp_flat {K : PySem.W.Frag} {H : Hp} {x : V} (h : okF x = true) : Dp K H x (datV x) ∧ (datV x).canLay0 = true ∧ (datV x).depth = 0 := by
  cases x <;> first
    | exact ⟨.non, by simp [datV, PyData.canLay0], by simp [datV, PyData.depth]⟩
    | exact ⟨.bl _, by simp [datV, PyData.canLay0], by simp [datV, PyData.depth]⟩
    | exact ⟨.int _, by simp [datV, PyData.canLay0], by simp [datV, PyData.depth]⟩
    | exact ⟨.str _, by simpa [datV, PyData.canLay0, okF] using h, by simp [datV, PyData.depth]⟩
    | (simp [okF] at h)
theorem dp_flats {K : PySem.W.Frag} {H : Hp} : ∀ {xs : List V}, xs.all okF = true → DpAll K H xs (xs.map datV) ∧ PyData.canLayAll0 (xs.map datV) = true ∧ PyData.depthAll (xs.map datV) = 0
  | [], _ => ⟨.nil, by simp [PyData.canLayAll0], by simp [PyData.depthAll]⟩
  | x :: r, h => by
    rw [List.all_cons, Bool.and_eq_true] at h
    obtain ⟨a1, a2, a3⟩ := dp_flat (K := K) (H := H) h.1
    obtain ⟨b1, b2, b3⟩ := dp_flats (K := K) (H := H) h.2
    exact ⟨.cons a1 b1, by simp [PyData.canLayAll0, a2, b2], by simp [PyData.depthAll, a3, b3]⟩
/-- x == x of such a value: the three rules -/
theorem op_eqOdd {X : Cx} (hu : X.A.units + 64 < cLine) : OpR X (compareOp .Eq) (fun x y H Q => (∃ a b : Int, x = .int a ∧ y = .int b ∧ Q (.bl (decide (a = b))) H) ∨ (Odd H x ∧ y = x ∧ Q (.bl true) H)) := by
  intro pins s σ H x y v u Q I rx ry h
  rcases h with ⟨a, b, rfl, rfl, q⟩ | ⟨od, rfl, q⟩
  · refine op_eq pins s σ H _ _ v u Q I rx ry ⟨rfl, ?_⟩
    have e : decide (V.int a = V.int b) = decide (a = b) := by simp
    rw [e]
    exact q
  · cases od with
    | flat h =>
      obtain ⟨a1, a2, a3⟩ := dp_flat (K := X.K) (H := H) h
      have sh : SeqAt.shaped (datV y) = true := by
        unfold SeqAt.shaped
        rw [a2, a3]
        rfl
      refine op_eqD hu pins s σ H _ _ v u Q I rx ry ⟨_, _, a1, a1, sh, sh, ?_⟩
      rw [SeqAt.eqv_refl _ (SeqAt.canLay_of_shaped sh)]
      exact q
    | @lst a xs e f =>
      obtain ⟨a1, a2, a3⟩ := dp_flats (K := X.K) (H := H) f
      have sh : SeqAt.shaped (.list (xs.map datV)) = true := by
        unfold SeqAt.shaped
        simp [PyData.canLay0, PyData.depth, a2, a3]
      have d : Dp X.K H (.ref a) (.list (xs.map datV)) := .lst (SqL.of e) a1
      refine op_eqD hu pins s σ H _ _ v u Q I rx ry ⟨_, _, d, d, sh, sh, ?_⟩
      rw [SeqAt.eqv_refl _ (SeqAt.canLay_of_shaped sh)]
      exact q
    | @tup a xs e f =>
      obtain ⟨a1, a2, a3⟩ := dp_flats (K := X.K) (H := H) f
      have sh : SeqAt.shaped (.tuple (xs.map datV)) = true := by
        unfold SeqAt.shaped
        simp [PyData.canLay0, PyData.depth, a2, a3]
      have d : Dp X.K H (.ref a) (.tuple (xs.map datV)) := .tup (SqT.of e) a1
      refine op_eqD hu pins s σ H _ _ v u Q I rx ry ⟨_, _, d, d, sh, sh, ?_⟩
      rw [SeqAt.eqv_refl _ (SeqAt.canLay_of_shaped sh)]
      exact q
    | @dct a kvs e n f => exact op_eq_dict (by omega) pins s σ H _ _ v u Q I rx ry ⟨a, a, kvs, rfl, rfl, e, e, n, f, q⟩
end Own

/-! from AA06 -/
namespace Own
open PySem PySem.Spec PyProof.Rows L2 LamX NdefX
section
variable {X : Cx} {cl : List (Str × Addr)} {fr : List Str} {ws : List (Option V)}
/-- as pe_deed, what it may let out told by the slots -/
theorem pe_deedS {CX : CXT} {k i : Nat} {f : Addr} {F : NF} {b : Expr} {sp : List (Option V) → Hp → VK → XK → Prop} {E : L2.St → XK} {a : Str} {p1 p2 : Pos} (C : CellsAt F.cl fr ws X.s_0.heap X.H_0) (hex : X.ex = []) (G : LOk X.prog X.w X.K X.mg X.base CX k f F b fr sp) (hr : Room k X.A)
    (hx : ∀ σ, PassesAt CX X σ (E σ)) (hN : X.N[i]? = some a) (hv : Vis X.env.scope a) (hd : (a == ("__debug__" : Str)) = false := by decide) (hcd : (a == ("__classdict__" : Str)) = false := by decide) :
    PE X (.Call (.Name a p1) [] [] p2) (fun σ H Q => σ[i]? = some (some (.ref f)) ∧ LamAt H f F b ∧ H F.c = some (CodeO F.c F.qual) ∧ sp ws H Q (E σ)) := by
  constructor
  intro pins s σ H Q I h
  obtain ⟨hs, hf, hc, q⟩ := h
  refine wpAny_Call_Name_kw (thn ((pe_var (pos := p1) hN hv hd hcd).run pins s σ H (fun v H1 => v = .ref f ∧ H1 = H) I ⟨.ref f, hs, rfl, rfl⟩) ?_)
  rintro u s1 ⟨v, H1, I1, r1, rfl, rfl⟩
  obtain rfl : u = Value.ref f := r1
  obtain ⟨dV, doc, pm, ctv, ho, _⟩ := lamO_at I1.hok hf
  refine PySem.W.callWith_F0 ⟨_, _, _, _, ho⟩ ?_
  have C' := cells_still C (fun _ => .inl (by rw [hex]; simp)) I1
  refine wpAny_call (codeAny_mono (G.run _ _ _ _ _ _ _ hr I1.env0 hf hc C' q) fun r s' z => ?_)
  rcases r with e | fl
  · exact hx σ pins _ _ e s' I1 z
  · cases fl
    case ret u => exact I1.after z
    all_goals exact False.elim z
end
end Own

/-! from CC06 -/
namespace Own
open PySem PySem.Spec PyProof.Rows L2 LamX NdefX
/-- at q stands the pair of a lambda and v -/
def RowAt (H : Hp) (nf : Addr → NF) (b : Expr) (v : V) (q : Addr) : Prop := ∃ f c' : Addr, H q = some (.tup [.ref f, v]) ∧ LamAt H f (nf c') b ∧ H (nf c').c = some (CodeO (nf c').c (nf c').qual)
section
variable {H H' : Hp} {nf : Addr → NF} {b : Expr} {v x : V} {q r : Addr} {l : List V} {o : HO}
theorem RowAt.ext (h : RowAt H nf b v q) (e : ExtN H H') : RowAt H' nf b v q := by
  obtain ⟨f, c', h1, h2, h3⟩ := h
  exact ⟨f, c', e _ _ h1 (fun ps z => by cases z), h2.ext e, e _ _ h3 codeO_ne⟩
theorem LamAt.put {f : Addr} {F : NF} (h : LamAt H f F b) (hr : H r = some (.lst l)) : LamAt (upd H r o) f F b := by
  obtain ⟨dV, h1, h2⟩ := h
  have a : f ≠ r := ne_of h1 hr (by unfold LamO; intro z; cases z)
  refine ⟨dV, (upd_ne a).trans h1, ?_⟩
  rcases h2 with z | ⟨n, T, z, q⟩
  · exact .inl z
  · have a : T ≠ r := ne_of q hr (by intro z; cases z)
    exact .inr ⟨n, T, z, (upd_ne a).trans q⟩
theorem RowAt.put (h : RowAt H nf b v q) (hr : H r = some (.lst l)) : RowAt (upd H r o) nf b v q := by
  obtain ⟨f, c', h1, h2, h3⟩ := h
  have a : q ≠ r := ne_of h1 hr (by intro z; cases z)
  have c : (nf c').c ≠ r := ne_of h3 hr (by unfold CodeO; intro z; cases z)
  exact ⟨f, c', (upd_ne a).trans h1, h2.put hr, (upd_ne c).trans h3⟩
theorem Odd.ext (h : Odd H x) (e : ExtN H H') : Odd H' x := by
  cases h with
  | flat h => exact .flat h
  | lst e' f => exact .lst (e _ _ e' (fun ps z => by cases z)) f
  | tup e' f => exact .tup (e _ _ e' (fun ps z => by cases z)) f
  | dct e' n f => exact .dct (e _ _ e' (fun ps z => by cases z)) n f
theorem Odd.off (h : Odd H x) (n : H r = none) : x ≠ .ref r := by
  cases h with
  | flat h => intro z; rw [z] at h; cases h
  | lst e f => intro z; rw [V.ref.inj z, n] at e; cases e
  | tup e f => intro z; rw [V.ref.inj z, n] at e; cases e
  | dct e n' f => intro z; rw [V.ref.inj z, n] at e; cases e
theorem Odd.put (h : Odd H x) (n : x ≠ .ref r) : Odd (upd H r o) x := by
  cases h with
  | flat h => exact .flat h
  | lst e f => exact .lst ((upd_ne (fun z => n (by rw [z]))).trans e) f
  | tup e f => exact .tup ((upd_ne (fun z => n (by rw [z]))).trans e) f
  | dct e n' f => exact .dct ((upd_ne (fun z => n (by rw [z]))).trans e) n' f
theorem tabs_put {T : List (Addr × Str)} (h : Tabs T H) (hr : H r = some (.lst l)) : Tabs T (upd H r o) := fun p hp => by
  obtain ⟨ps, h1, h2, h3⟩ := h p hp
  have a : p.1 ≠ r := ne_of h1 hr (by intro z; cases z)
  refine ⟨ps, (upd_ne a).trans h1, h2, fun pos cv hc => ?_⟩
  obtain ⟨c, e1, e2⟩ := h3 pos cv hc
  have b : c ≠ r := ne_of e2 hr (by unfold CodeO; intro z; cases z)
  exact ⟨c, e1, (upd_ne b).trans e2⟩
theorem extN_new (h : H r = none) : ExtN H (upd H r o) := ExtN.of fun b u e => (upd_ne (ne_of_none e h)).trans e
theorem ExtN.same (s : Same H H') : ExtN H H' := ExtN.of s
end
theorem Pen_odd {d : Addr} {B : Int} (h : Pen H d B) (o : Odd H x) : x ≠ .ref d := by
  obtain ⟨p, ns, c, l, e, _⟩ := h.ex
  intro z
  rw [z] at o
  cases o with
  | flat h => cases h
  | lst e' f => rw [e] at e'; cases e'
  | tup e' f => rw [e] at e'; cases e'
  | dct e' n f =>
    rw [e] at e'
    cases e'
    have := f _ (List.mem_cons_self ..)
    cases this
theorem Odd.keep {d : Addr} (h : Odd H x) (n : x ≠ .ref d) (k : Keep d H H') : Odd H' x := by
  cases h with
  | flat h => exact .flat h
  | lst e f => exact .lst (k _ _ (fun z => n (by rw [z])) e) f
  | tup e f => exact .tup (k _ _ (fun z => n (by rw [z])) e) f
  | dct e n' f => exact .dct (k _ _ (fun z => n (by rw [z])) e) n' f
theorem tabs_keep {T : List (Addr × Str)} {d : Addr} {B : Int} (h : Tabs T H) (hp : Pen H d B) (k : Keep d H H') : Tabs T H' := fun p hq => by
  obtain ⟨pp, ns, cc, ll, ed, _⟩ := hp.ex
  obtain ⟨ps, h1, h2, h3⟩ := h p hq
  have a : p.1 ≠ d := ne_of h1 ed (by intro z; cases z)
  refine ⟨ps, k _ _ a h1, h2, fun pos cv hc => ?_⟩
  obtain ⟨c, e1, e2⟩ := h3 pos cv hc
  have b : c ≠ d := ne_of e2 ed (by unfold CodeO; intro z; cases z)
  exact ⟨c, e1, k _ _ b e2⟩
/-- a list at r of pairs of a lambda and a value; x, y: two odd values -/
structure Bag {ι : Type} (nf : ι → Addr → NF) (bf : ι → Expr) (H : Hp) (r : Addr) (R : List (ι × V × Addr)) (x y : V) : Prop where
  l : H r = some (.lst (R.map fun p => .ref p.2.2))
  rows : ∀ p ∈ R, RowAt H (nf p.1) (bf p.1) p.2.1 p.2.2
  ox : Odd H x
  oy : Odd H y
  xr : x ≠ .ref r
  yr : y ≠ .ref r
theorem Bag.ext {ι : Type} {nf : ι → Addr → NF} {bf : ι → Expr} {R : List (ι × V × Addr)} {y : V} (h : Bag nf bf H r R x y) (e : ExtN H H') : Bag nf bf H' r R x y :=
  ⟨e _ _ h.l (fun ps z => by cases z), fun p hp => (h.rows p hp).ext e, h.ox.ext e, h.oy.ext e, h.xr, h.yr⟩
theorem Bag.set {ι : Type} {nf : ι → Addr → NF} {bf : ι → Expr} {R : List (ι × V × Addr)} {y : V} {D : Addr} {zs : List V} (h : Bag nf bf H r R x y) (hD : H D = some (.lst zs)) (n : D ≠ r) (nx : x ≠ .ref D) (ny : y ≠ .ref D) : Bag nf bf (upd H D o) r R x y :=
  ⟨(upd_ne n.symm).trans h.l, fun p hp => (h.rows p hp).put hD, h.ox.put nx, h.oy.put ny, h.xr, h.yr⟩
theorem Bag.add {ι : Type} {nf : ι → Addr → NF} {bf : ι → Expr} {R : List (ι × V × Addr)} {y v : V} {H1 : Hp} {i : ι} {f c' q : Addr} (h : Bag nf bf H r R x y) (e : ExtN H H1) (a : LamAt H1 f (nf i c') (bf i)) (c : H1 (nf i c').c = some (CodeO (nf i c').c (nf i c').qual)) (nq : H1 q = none) :
    upd H1 q (.tup [.ref f, v]) r = some (.lst (R.map fun p => .ref p.2.2)) ∧ Bag nf bf (upd (upd H1 q (.tup [.ref f, v])) r (.lst (R.map (fun p => .ref p.2.2) ++ [.ref q]))) r (R ++ [(i, v, q)]) x y := by
  have g := (h.ext e).ext (extN_new (o := .tup [.ref f, v]) nq)
  have e2 := extN_new (o := HO.tup [.ref f, v]) nq
  refine ⟨g.l, by rw [upd_same, List.map_append]; rfl, fun p hp => ?_, g.ox.put g.xr, g.oy.put g.yr, g.xr, g.yr⟩
  rcases List.mem_append.mp hp with hp | hp
  · exact (g.rows p hp).put g.l
  · rw [List.mem_singleton.mp hp]
    exact RowAt.put ⟨f, c', upd_same, a.ext e2, e2 _ _ c codeO_ne⟩ g.l
/-- a def of the text and its code object -/
structure AtC (K : PySem.W.Frag) (mg : Str → Option Value) (x : Str) (st : Stmt) (ps : List Str) (c : Addr) : Prop where
  ex : ∃ (f : Addr) (oc : Value) (od : Option Addr) (kV doc pm : Value) (an : Option Addr) (ct : Value) (osl : Array (Option Value)), K.lookup f = some ⟨oc, od, .func (PySem.W.fnOf x x (defArgs st) (defBody st) (defScope st) .none kV doc pm an (.ref c) ct), osl⟩ ∧ PySem.W.codeIn K (.ref c) x = true ∧
    mg x = some (.ref f) ∧ PySem.W.keepIn K (.ref f) = true ∧ Binds K (PySem.W.fnOf x x (defArgs st) (defBody st) (defScope st) .none kV doc pm an (.ref c) ct) ps []
end Own

namespace Own
open PySem PySem.Spec PyProof.Rows L2 LamX NdefX
theorem log2_lt {n k : Nat} (h : n < 2 ^ k) (hk : 0 < k) : n.log2 < k := by
  by_cases h0 : n = 0
  · subst h0
    simpa using hk
  · exact (Nat.log2_lt h0).mpr h
theorem dm_ok {n d : Int} (h0 : 0 < d) (h : d.natAbs < 2 ^ 1000) : CDivP n d := by
  refine ⟨h0, ?_⟩
  have a := log2_lt h (by decide)
  unfold Builtin.divisionGoesByPylong
  have e : ¬ (d == 0) = true := by simp; omega
  have z : ¬ (d.natAbs.log2 / 30 + 1 > 300) := by omega
  simp only [e, Bool.false_eq_true, if_false]
  rw [decide_eq_false z]
  rfl
theorem up_two {n a b : Nat} (h : n < 2 ^ a) (l : a ≤ b) : n < 2 ^ b := Nat.lt_of_lt_of_le h (Nat.pow_le_pow_right (by decide) l)
theorem add_lt {i j : Int} {a : Nat} (hi : i.natAbs < 2 ^ a) (hj : j.natAbs < 2 ^ a) : (i + j).natAbs < 2 ^ (a + 1) := by
  rw [Nat.pow_succ]
  omega
end Own

namespace Own
open PySem PySem.Spec PyProof.Rows L2 LamX NdefX
/-- what the law leans on of an error's class -/
def oexB (K : PySem.W.Frag) (C : Addr) : Bool := (match K.lookup C with
  | some ⟨.type t, _, .cls cd, sl⟩ => decide (t = "type") && (cd.hasDict && (!cd.hasDel && ((match cd.mro with
    | .ref D :: bm => decide (D = C) && PySem.HandSPX.refsVE bm
    | _ => false) && (match sl.toList with
    | [_, _, _, _, some (.builtin n), _] => decide (n = "ValueError.__new__")
    | _ => false))))
  | _ => false) && (decide (PySem.W.findIn K (.ref C) "__setattr__" = some (some (.builtin "object.__setattr__"))) && (decide (PySem.W.subIn K (.ref C) (.type "BaseException") = some true) && (decide (PySem.W.typeIn K (.ref C) = some (.type "type")) && PySem.W.keepIn K (.ref C))))
theorem oexB_ok {K : PySem.W.Frag} {C : Addr} (h : oexB K C = true) : OexC K C := by
  obtain ⟨h0, h⟩ := He.ba h
  obtain ⟨h1, h⟩ := He.ba h
  obtain ⟨h2, h⟩ := He.ba h
  obtain ⟨h3, h4⟩ := He.ba h
  refine ⟨?_, of_decide_eq_true h1, of_decide_eq_true h2, of_decide_eq_true h3, h4⟩
  cases q : K.lookup C with
  | none => rw [q] at h0; cases h0
  | some o =>
    rw [q] at h0
    obtain ⟨oc, od, dt, ⟨sl⟩⟩ := o
    cases oc with
    | type t =>
      cases dt with
      | cls cd =>
        obtain ⟨nm, bs, mro, ns, qn, hd, sn, sub, ab, col, del⟩ := cd
        obtain ⟨a1, a⟩ := He.ba h0
        obtain ⟨a2, a⟩ := He.ba a
        obtain ⟨a3, a⟩ := He.ba a
        obtain ⟨a4, a5⟩ := He.ba a
        have e1 : t = "type" := of_decide_eq_true a1
        have e2 : hd = true := a2
        have e3 : del = false := by
          have z : (!del) = true := a3
          simpa using z
        subst e1 e2 e3
        cases mro with
        | nil => cases a4
        | cons m bm =>
          cases m with
          | ref D =>
            obtain ⟨b1, b2⟩ := He.ba (show (decide (D = C) && PySem.HandSPX.refsVE bm) = true from a4)
            have e4 : D = C := of_decide_eq_true b1
            subst e4
            match sl, a5 with
            | [k0, k1, k2, k3, some (.builtin n), k5], z =>
              have e5 : n = "ValueError.__new__" := of_decide_eq_true z
              subst e5
              exact ⟨_, _, _, _, _, _, _, _, _, _, _, _, _, _, _, rfl, b2⟩
          | _ => cases a4
      | _ => cases h0
    | _ => cases dt <;> cases h0
def isTup (K : PySem.W.Frag) (a : Addr) : Bool := match K.lookup a with
  | some ⟨.type c, _, _, _⟩ => decide (c = "tuple")
  | _ => false
theorem isTup_ok {K : PySem.W.Frag} {a : Addr} (h : isTup K a = true) : ∃ o : Obj, K.lookup a = some o ∧ o.cls = .type "tuple" := by
  unfold isTup at h
  cases q : K.lookup a with
  | none => rw [q] at h; cases h
  | some o =>
    rw [q] at h
    obtain ⟨oc, od, dt, sl⟩ := o
    cases oc with
    | type c => exact ⟨_, rfl, congrArg Value.type (of_decide_eq_true h)⟩
    | _ => cases h
section
variable {P : Program} {w : World} {K : PySem.W.Frag} {mg : Str → Option Value} {h : Heap}
theorem fun_of {x qual : Str} {st : Stmt} {f : Addr} {fd : FuncData} (F : FunD K x qual (defArgs st) (defBody st) (defScope st) [] [] f fd) : Fun K x qual st f fd := by
  obtain ⟨oc, od, dV, kV, doc, pm, an, cdv, ct, osl, rfl, lk, hcd, hD, _⟩ := F.ex
  rcases hD with ⟨_, rfl⟩ | ⟨n, _⟩
  · exact ⟨⟨oc, od, kV, doc, pm, an, cdv, ct, osl, rfl, lk, hcd⟩, F.kp⟩
  · exact absurd rfl n
theorem at_of {x : Str} {st : Stmt} {ps : List Str} {f : Addr} {fd : FuncData} (F : FunD K x x (defArgs st) (defBody st) (defScope st) [] [] f fd) (g : mg x = some (.ref f))
    (b : ∀ (kV doc pm : Value) (an : Option Addr) (cdv ct : Value) (us : List Value), us.length = ps.length → bindArgs (PySem.W.fnOf x x (defArgs st) (defBody st) (defScope st) .none kV doc pm an cdv ct) ⟨us, []⟩ = pure (ps.zip us)) : At K mg x st ps :=
  ⟨f, fd, fun_of F, g, (fun_of F).binds b⟩
end
end Own
namespace Own
/-- built-in names that no module takes -/
structure Blt (mg : PySem.Str → Option PySem.Value) : Prop where
  isi : mg "isinstance" = none
  int : mg "int" = none
  bool : mg "bool" = none
  len : mg "len" = none
  list : mg "list" = none
  range : mg "range" = none
  tuple : mg "tuple" = none
  all : mg "all" = none
  dm : mg "divmod" = none
  min : mg "min" = none
  max : mg "max" = none
  str : mg "str" = none
  abs : mg "abs" = none
  dict : mg "dict" = none
  any : mg "any" = none
end Own

/-! own layer, of no law: OWN2: operators by an own class. -/
namespace Own
open PySem PySem.Spec PyProof.Rows L2 LamX NdefX
section
variable {X : Cx} {pins : List (Addr × Obj)} {σ : L2.St} {H : Hp} {s : Shared}
theorem back_of {Q : VK} {A : Around} {c : Sem Value} (h : wpAny (model X.prog X.w) A c (EP X pins σ Q) X.xe s) : wpAny (model X.prog X.w) A c (PySem.W.CmpBack (EP X pins σ Q)) X.xe s := by
  refine wpAny_mono h (fun v s' q => ?_) fun _ _ e => e
  obtain ⟨y, H', I', r, q'⟩ := q
  cases v with
  | notImplemented => cases y <;> first | exact (nomatch r) | (obtain ⟨_, z⟩ := r; cases z)
  | _ => exact ⟨y, H', I', r, q'⟩
variable {CX : CXT} {n : Nat} {C f : Addr} {fd : FuncData} {ps : List Str} {sp : Sp} {E : XK} {op : Operator}
/-- x op y, both of the class at C, whose own method takes them -/
theorem op_own (F : FnOk X.prog X.w X.K X.mg X.base CX n f fd ps sp) (hr : Room n X.A) (hc : PySem.W.selfFirst X.K C = true) (hs : PySem.W.findIn X.K (.ref C) (PySem.dunder op.info.2) = some (some (.ref f))) (hf : PySem.W.isFn X.K (.ref f) = true) (hb : Binds X.K fd ps []) (hx : Passes CX X E) :
    OpR X (binaryOp op) (fun x y H Q => ∃ a b dx dy fs gs, x = V.ref a ∧ y = V.ref b ∧ H a = some (.ins C dx fs) ∧ H b = some (.ins C dy gs) ∧ sp [.ref a, .ref b] H Q E) := by
  intro pins s σ H x y v u Q I rx ry h
  obtain ⟨a, b, dx, dy, fs, gs, rfl, rfl, ha, hb', q⟩ := h
  cases rx
  cases ry
  obtain ⟨mA, J, _⟩ := ins_get I.hok ha
  obtain ⟨mB, J', _⟩ := ins_get I.hok hb'
  obtain ⟨od, J, _⟩ := J.look
  obtain ⟨od', J', _⟩ := J'.look
  obtain ⟨m, hF⟩ := I.fr
  exact PySem.W.binop_K hF I.ok.mod.kin J J'.type hc hs hf (back_of (run_fn F hr hb .nil hx I (.cons (show L2.RelV (V.ref a) (Value.ref a) from rfl) (.cons (show L2.RelV (V.ref b) (Value.ref b) from rfl) .nil)) q))
/-- -x of the class at C -/
theorem un_own (F : FnOk X.prog X.w X.K X.mg X.base CX n f fd ps sp) (hr : Room n X.A) (hs : PySem.W.findIn X.K (.ref C) "__neg__" = some (some (.ref f))) (hf : PySem.W.isFn X.K (.ref f) = true) (hb : Binds X.K fd ps []) (hx : Passes CX X E) :
    UnR X (unaryOp .USub) (fun x H Q => ∃ a dx fs, x = V.ref a ∧ H a = some (.ins C dx fs) ∧ sp [.ref a] H Q E) := by
  intro pins s σ H x v Q I rx h
  obtain ⟨a, dx, fs, rfl, ha, q⟩ := h
  cases rx
  obtain ⟨mA, J, _⟩ := ins_get I.hok ha
  obtain ⟨od, J, _⟩ := J.look
  obtain ⟨m, hF⟩ := I.fr
  exact PySem.W.ksp_neg hF I.ok.mod.kin J hs hf (run_fn F hr hb .nil hx I (.cons (show L2.RelV (V.ref a) (Value.ref a) from rfl) .nil) q)
end
end Own

/-! own layer, of no law: OWN3: an own class and a built-in value, on either side. -/
namespace Own
open PySem PySem.Spec PySem.Calls PyProof.Rows
section
variable {prog : Program} {w : World} {A : Around} {E : Value → Shared → Prop} {s : Shared} {K : PySem.W.Frag} {x C f : Addr} {ox : Obj} {od : Option Obj} {T : String}
open PySem.W in
/-- own op built-in -/
theorem own_left {op : Operator} {b : Value} {r : Bool} {back ours : Option Value} {Q : Value → Shared → Prop} (KX : K.In s.heap) (J : InstAt s.heap x ox C od) (tb : Looks (model prog w) s.heap (typeOf b) (.type T)) (one : selfFirst K C = true)
    (me : findIn K (.ref C) (PySem.dunder op.info.2) = some (some (.ref f))) (fn : isFn K (.ref f) = true) (mr : findIn K (.ref C) (dunderR op.info.2) = some ours) (mp : ours = none ∨ ∃ g : Addr, ours = some (.ref g))
    (slot : fillsNumberSlot (.type T) op.info.2 = pure r) (their : typeLookup (.type T) (dunderR op.info.2) = pure back) (nosub : subIn K (.type T) (.ref C) = some false)
    (go : wpAny (model prog w) A (call (.ref f) [.ref x, b]) (PySem.W.CmpBack Q) E s) : wpAny (model prog w) A (binaryOp op (.ref x) b) Q E s := by
  obtain ⟨cd, tl, c1, c2⟩ := ksp_first one
  obtain ⟨sy, nm, e⟩ : ∃ sy nm, op.info = (sy, nm) := ⟨_, _, rfl⟩
  rw [e] at me mr slot their
  have did := ksp_try KX J me fn go
  obtain ⟨hp, gs, dr, tk, os⟩ := s
  have q1 : Looks (model prog w) hp (typeOf (.ref x)) (.ref C) := J.type
  have q3 : Looks (model prog w) hp (fillsNumberSlot (.ref C) nm) true := fills_K KX c1 c2 me
  have q4 : Looks (model prog w) hp (fillsNumberSlot (.type T) nm) r := Looks.of_pure slot
  have q5 : Looks (model prog w) hp (isSubtype (.type T) (.ref C)) false := looks_subIn KX nosub
  have q6 : Looks (model prog w) hp (numberSlotInPython (.ref C) nm) true := ksp_inPy KX me mr mp
  have q7 : Looks (model prog w) hp (numberSlotInPython (.type T) nm) false := Looks.of_pure rfl
  have q8 : Looks (model prog w) hp (typeLookup (.type T) (dunderR nm)) back := Looks.of_pure their
  have ne : (Value.ref C == Value.type T) = false := by rw [beq_eq_false_iff_ne]; intro z; cases z
  unfold binaryOp
  rw [e]
  dsimp only
  refine wpAny_holding (wpAny_bind ?_)
  unfold binaryOp1
  refine wpAny_bind (q1.at (wpAny_bind (tb.at (wpAny_bind (q3.at ?_)))))
  rw [ne]
  simp only [Bool.false_eq_true, if_false]
  cases r
  · ksp_lk
    refine wpAny_mono did (fun u s' z => ?_) fun _ _ z => z
    obtain ⟨v, rfl, hv⟩ := z
    ksp_lk
    exact hv
  · ksp_lk
    refine wpAny_mono did (fun u s' z => ?_) fun _ _ z => z
    obtain ⟨v, rfl, hv⟩ := z
    ksp_lk
    exact hv
open PySem.W in
/-- built-in op own: the built-in's own slot stands off, the class's reflected method takes them -/
theorem own_right {op : Operator} {a : Value} {l : Bool} {Q : Value → Shared → Prop} (KX : K.In s.heap) (J : InstAt s.heap x ox C od) (ta : ∀ s' : Shared, (∀ b o, s.heap.get? b = some o → s'.heap.get? b = some o) → Looks (model prog w) s'.heap (typeOf a) (.type T)) (one : selfFirst K C = true)
    (mr : findIn K (.ref C) (dunderR op.info.2) = some (some (.ref f))) (fn : isFn K (.ref f) = true) (fills : ∀ h : Heap, K.In h → Looks (model prog w) h (fillsNumberSlot (.ref C) op.info.2) true)
    (slot : fillsNumberSlot (.type T) op.info.2 = pure l) (nosub : subIn K (.ref C) (.type T) = some false)
    (off : l = true → ∀ {R : Option Value → Shared → Prop} {s' : Shared}, (∀ b o, s.heap.get? b = some o → s'.heap.get? b = some o) → (∀ t : Tok, R none { s' with toks := t }) → wpAny (model prog w) A (tryMethod a (PySem.dunder op.info.2) (.ref x)) R E s')
    (go : ∀ t : Tok, wpAny (model prog w) A (call (.ref f) [.ref x, a]) (PySem.W.CmpBack Q) E { s with toks := t }) : wpAny (model prog w) A (binaryOp op a (.ref x)) Q E s := by
  obtain ⟨sy, nm, e⟩ : ∃ sy nm, op.info = (sy, nm) := ⟨_, _, rfl⟩
  rw [e] at mr slot fills off
  have did : ∀ t : Tok, wpAny (model prog w) A (tryMethod (.ref x) (dunderR nm) a) (fun u s' => ∃ v, u = some v ∧ Q v s') E { s with toks := t } := fun t => ksp_try (s := { s with toks := t }) KX J mr fn (go t)
  have here := ta s fun _ _ z => z
  have q3 := fills s.heap KX
  obtain ⟨hp, gs, dr, tk, os⟩ := s
  have q1 : Looks (model prog w) hp (typeOf (.ref x)) (.ref C) := J.type
  have q2 : Looks (model prog w) hp (typeOf a) (.type T) := here
  have q4 : Looks (model prog w) hp (fillsNumberSlot (.type T) nm) l := Looks.of_pure slot
  have q5 : Looks (model prog w) hp (isSubtype (.ref C) (.type T)) false := looks_subIn KX nosub
  have q6 : Looks (model prog w) hp (fillsNumberSlot (.ref C) nm) true := q3
  have q7 : Looks (model prog w) hp (numberSlotInPython (.type T) nm) false := Looks.of_pure rfl
  have ne : (Value.type T == Value.ref C) = false := by rw [beq_eq_false_iff_ne]; intro z; cases z
  unfold binaryOp
  rw [e]
  dsimp only
  refine wpAny_holding (wpAny_bind ?_)
  unfold binaryOp1
  refine wpAny_bind (q2.at (wpAny_bind (q1.at (wpAny_bind (q4.at ?_)))))
  rw [ne]
  simp only [Bool.false_eq_true, if_false]
  refine wpAny_bind (q6.at ?_)
  cases l
  · ksp_lk
    refine wpAny_mono (did tk) (fun u s' z => ?_) fun _ _ z => z
    obtain ⟨v, rfl, hv⟩ := z
    ksp_lk
    exact hv
  · ksp_lk
    refine off rfl (fun _ _ z => z) fun t => ?_
    ksp_lk
    refine wpAny_mono (did t) (fun u s' z => ?_) fun _ _ z => z
    obtain ⟨v, rfl, hv⟩ := z
    ksp_lk
    exact hv
end
end Own

/-! own layer, of no law: OWN4. -/
namespace Own
open PySem PySem.Spec PySem.Calls PyProof.Rows AutoSeq1
def tys : List String := ["NoneType", "bool", "int", "str", "list", "tuple", "dict"]
theorem fill_add : ∀ T ∈ tys, fillsNumberSlot (.type T) "add" = pure (T == "int" || T == "bool") := by
  intro T hT
  simp only [tys, List.mem_cons, List.not_mem_nil, or_false] at hT
  rcases hT with rfl | rfl | rfl | rfl | rfl | rfl | rfl <;> kernel_rfl
theorem fill_sub : ∀ T ∈ tys, fillsNumberSlot (.type T) "sub" = pure (T == "int" || T == "bool") := by
  intro T hT
  simp only [tys, List.mem_cons, List.not_mem_nil, or_false] at hT
  rcases hT with rfl | rfl | rfl | rfl | rfl | rfl | rfl <;> kernel_rfl
theorem fill_mul : ∀ T ∈ tys, fillsNumberSlot (.type T) "mul" = pure (T == "int" || T == "bool") := by
  intro T hT
  simp only [tys, List.mem_cons, List.not_mem_nil, or_false] at hT
  rcases hT with rfl | rfl | rfl | rfl | rfl | rfl | rfl <;> kernel_rfl
theorem refl_add : ∀ T ∈ tys, typeLookup (.type T) (dunderR "add") = pure (if (T == "int" || T == "bool") = true then some (.builtin "int.__radd__") else none) := by
  intro T hT
  simp only [tys, List.mem_cons, List.not_mem_nil, or_false] at hT
  rcases hT with rfl | rfl | rfl | rfl | rfl | rfl | rfl <;> (rw [typeLookup_type, builtinLookup_eq_fast]; kernel_rfl)
theorem refl_sub : ∀ T ∈ tys, typeLookup (.type T) (dunderR "sub") = pure (if (T == "int" || T == "bool") = true then some (.builtin "int.__rsub__") else none) := by
  intro T hT
  simp only [tys, List.mem_cons, List.not_mem_nil, or_false] at hT
  rcases hT with rfl | rfl | rfl | rfl | rfl | rfl | rfl <;> (rw [typeLookup_type, builtinLookup_eq_fast]; kernel_rfl)
theorem refl_mul : ∀ T ∈ tys, typeLookup (.type T) (dunderR "mul") = pure (if (T == "int" || T == "bool") = true then some (.builtin "int.__rmul__") else if T == "str" then some (.builtin "str.__rmul__") else if T == "list" then some (.builtin "list.__rmul__") else if T == "tuple" then some (.builtin "tuple.__rmul__") else none) := by
  intro T hT
  simp only [tys, List.mem_cons, List.not_mem_nil, or_false] at hT
  rcases hT with rfl | rfl | rfl | rfl | rfl | rfl | rfl <;> (rw [typeLookup_type, builtinLookup_eq_fast]; kernel_rfl)
/-- an int's own slot stands off an object that is no int -/
theorem off_meets {nm : String} {x : Addr} {v : Value} {i : Int} {g : Int → Int → Sem Fin} (hv : (∃ t, v = .int i t) ∨ ∃ b, v = .bool b) : Meets (Builtin.Int.intBinary nm g false ⟨[v, .ref x], []⟩) (fun _ R s => ∃ o, s.heap.get? x = some o ∧ o.data = .plain ∧ R (.ok (.ret .notImplemented)) s) := by
  intro prog w A R s h
  obtain ⟨o, e, d, q⟩ := h
  obtain ⟨hp, gs, dr, tk, os⟩ := s
  rcases hv with ⟨t, rfl⟩ | ⟨b, rfl⟩
  · unfold Builtin.Int.intBinary
    wp_walk using wpAny_loadPart' e
    rw [d]
    exact wpAny_pure (wpAny_bind (wpAny_rule (wpAny_pure q)))
  · unfold Builtin.Int.intBinary
    wp_walk using wpAny_loadPart' e
    rw [d]
    exact wpAny_pure (wpAny_bind (wpAny_rule (wpAny_pure q)))
section
variable {prog : Program} {w : World} {A : Around} {E : Value → Shared → Prop} {s : Shared} {x : Addr} {o : Obj} {v : Value} {i : Int}
/-- .. so its method gives none -/
theorem off_try {T id : String} {nm : String} {nb : String} {g : Int → Int → Sem PySem.Fin} {R : Option Value → Shared → Prop} (hv : (∃ t, v = .int i t) ∨ ∃ b, v = .bool b) (ho : s.heap.get? x = some o) (hd : o.data = .plain) (hT : s.TypeIs v T) (slot : Slot T (dunder nm) id)
    (entry : entryFor table id = some (Builtin.Int.intBinary nb g false)) (args : argsOk id ⟨[v, .ref x], []⟩) (h : R none s) : wpAny (model prog w) A (tryMethod v (dunder nm) (.ref x)) R E s := by
  unfold tryMethod
  exact wpAny_bind (wpAny_callSpecial?_slot hT slot (call_meets slot hT entry args (off_meets hv) ⟨o, ho, hd, wpAny_pure h⟩))
theorem off_add {R : Option Value → Shared → Prop} (ho : s.heap.get? x = some o) (hd : o.data = .plain) (h : R none s) : (∀ t, v = .int i t → wpAny (model prog w) A (tryMethod v (dunder "add") (.ref x)) R E s) ∧ (∀ b, v = .bool b → wpAny (model prog w) A (tryMethod v (dunder "add") (.ref x)) R E s) := by
  refine ⟨fun t e => ?_, fun b e => ?_⟩
  · exact off_try (T := "int") (i := i) (.inl ⟨t, e⟩) ho hd (by rw [e]; exact rfl) F.slot_int_add F.entry_int_add (F.args_int_add_2 _ _) h
  · exact off_try (T := "bool") (i := i) (.inr ⟨b, e⟩) ho hd (by rw [e]; exact rfl) F.slot_bool_add F.entry_int_add (F.args_int_add_2 _ _) h
end
end Own

/-! own layer, of no law: OWN5: rules for an own class's operators with what is handed in. -/
namespace Own
open PySem PySem.Spec PyProof.Rows L2 LamX NdefX
/-- what an operator's built-in slots say -/
structure OpB (op : Operator) : Prop where
  fill : ∀ T ∈ tys, fillsNumberSlot (.type T) op.info.2 = pure (T == "int" || T == "bool")
  back : ∀ T ∈ tys, ∃ r, typeLookup (.type T) (dunderR op.info.2) = pure r
  off : ∀ {prog : Program} {w : World} {A : Around} {E : Value → Shared → Prop} {s : Shared} {x : Addr} {o : Obj} {v : Value} {i : Int} {R : Option Value → Shared → Prop}, s.heap.get? x = some o → o.data = .plain → ((∃ t, v = .int i t) ∨ ∃ b, v = .bool b) → R none s →
    wpAny (model prog w) A (tryMethod v (PySem.dunder op.info.2) (.ref x)) R E s
theorem opb_add : OpB .Add := ⟨fill_add, fun T h => ⟨_, refl_add T h⟩, fun {prog w A E s x o v i R} ho hd hv h => by
  rcases hv with ⟨t, e⟩ | ⟨b, e⟩
  · exact off_try (T := "int") (i := i) (.inl ⟨t, e⟩) ho hd (by rw [e]; exact rfl) F.slot_int_add F.entry_int_add (F.args_int_add_2 _ _) h
  · exact off_try (T := "bool") (i := i) (.inr ⟨b, e⟩) ho hd (by rw [e]; exact rfl) F.slot_bool_add F.entry_int_add (F.args_int_add_2 _ _) h⟩
theorem opb_sub : OpB .Sub := ⟨fill_sub, fun T h => ⟨_, refl_sub T h⟩, fun {prog w A E s x o v i R} ho hd hv h => by
  rcases hv with ⟨t, e⟩ | ⟨b, e⟩
  · exact off_try (T := "int") (i := i) (.inl ⟨t, e⟩) ho hd (by rw [e]; exact rfl) F.slot_int_sub F.entry_int_sub (F.args_int_sub_2 _ _) h
  · exact off_try (T := "bool") (i := i) (.inr ⟨b, e⟩) ho hd (by rw [e]; exact rfl) F.slot_bool_sub F.entry_int_sub (F.args_int_sub_2 _ _) h⟩
theorem opb_mul : OpB .Mult := ⟨fill_mul, fun T h => ⟨_, refl_mul T h⟩, fun {prog w A E s x o v i R} ho hd hv h => by
  rcases hv with ⟨t, e⟩ | ⟨b, e⟩
  · exact off_try (T := "int") (i := i) (.inl ⟨t, e⟩) ho hd (by rw [e]; exact rfl) F.slot_int_mul F.entry_int_mul (F.args_int_mul_2 _ _) h
  · exact off_try (T := "bool") (i := i) (.inr ⟨b, e⟩) ho hd (by rw [e]; exact rfl) F.slot_bool_mul F.entry_int_mul (F.args_int_mul_2 _ _) h⟩
section
variable {X : Cx} {pins : List (Addr × Obj)} {σ : L2.St} {H : Hp} {s : Shared}
/-- of which built-in type a thing is -/
theorem thing_ty {x : V} {v : Value} (I : Inv X pins σ H s) (t : Thing H x) (r : RelV x v) : ∃ T ∈ tys, PySem.W.Looks (model X.prog X.w) s.heap (typeOf v) (.type T) ∧ ((T == "int" || T == "bool") = true → ∃ i : Int, (∃ t, v = .int i t) ∨ ∃ b, v = .bool b) := by
  cases t with
  | non =>
    obtain rfl : v = .none := r
    exact ⟨"NoneType", by simp [tys], .of_pure rfl, fun z => absurd z (by decide)⟩
  | bl b =>
    obtain rfl : v = .bool b := r
    exact ⟨"bool", by simp [tys], .of_pure rfl, fun _ => ⟨0, .inr ⟨b, rfl⟩⟩⟩
  | int i =>
    obtain ⟨t, rfl⟩ := r
    exact ⟨"int", by simp [tys], .of_pure rfl, fun _ => ⟨i, .inl ⟨t, rfl⟩⟩⟩
  | str z =>
    obtain ⟨t, rfl⟩ := r
    exact ⟨"str", by simp [tys], .of_pure rfl, fun z => absurd z (by decide)⟩
  | @lst a xs e =>
    obtain rfl : v = .ref a := r
    obtain ⟨_, its, n, _, ho⟩ := I.hok a _ e
    exact ⟨"list", by simp [tys], fun A Q E s' k q => wpAny_typeOf_ref (k _ _ ho) q, fun z => absurd z (by decide)⟩
  | @tup a xs e =>
    obtain rfl : v = .ref a := r
    obtain ⟨_, its, _, o, ho, hc, _⟩ := I.hok a _ e
    exact ⟨"tuple", by simp [tys], fun A Q E s' k q => wpAny_typeOf_ref (k _ _ ho) (by rw [hc]; exact q), fun z => absurd z (by decide)⟩
  | @dct a kvs e =>
    obtain rfl : v = .ref a := r
    obtain ⟨_, _, vs, _, o, es, ep, ho, hc, _⟩ := I.hok a _ e
    exact ⟨"dict", by simp [tys], fun A Q E s' k q => wpAny_typeOf_ref (k _ _ ho) (by rw [hc.1]; exact q), fun z => absurd z (by decide)⟩
variable {CX : CXT} {n : Nat} {C f g : Addr} {fd : FuncData} {ps : List Str} {sp : Sp} {E : XK} {op : Operator}
/-- own op thing -/
theorem op_ownL (B : OpB op) (F : FnOk X.prog X.w X.K X.mg X.base CX n f fd ps sp) (hr : Room n X.A) (hc : PySem.W.selfFirst X.K C = true) (hs : PySem.W.findIn X.K (.ref C) (PySem.dunder op.info.2) = some (some (.ref f))) (hf : PySem.W.isFn X.K (.ref f) = true)
    (hm : PySem.W.findIn X.K (.ref C) (dunderR op.info.2) = some (some (.ref g))) (hsub : ∀ T ∈ tys, PySem.W.subIn X.K (.type T) (.ref C) = some false) (hb : Binds X.K fd ps []) (hx : Passes CX X E) :
    OpR X (binaryOp op) (fun x y H Q => ∃ a dx fs, x = V.ref a ∧ H a = some (.ins C dx fs) ∧ Thing H y ∧ sp [.ref a, y] H Q E) := by
  intro pins s σ H x y v u Q I rx ry h
  obtain ⟨a, dx, fs, rfl, ha, ty, q⟩ := h
  cases rx
  obtain ⟨mA, J, _⟩ := ins_get I.hok ha
  obtain ⟨od, J, _⟩ := J.look
  obtain ⟨T, hT, lk, _⟩ := thing_ty I ty ry
  obtain ⟨r, hbk⟩ := B.back T hT
  exact own_left I.kIn J lk hc hs hf hm (.inr ⟨g, rfl⟩) (B.fill T hT) hbk (hsub T hT) (back_of (run_fn F hr hb .nil hx I (.cons (show L2.RelV (V.ref a) (Value.ref a) from rfl) (.cons ry .nil)) q))
/-- thing op own -/
theorem op_ownR (B : OpB op) (F : FnOk X.prog X.w X.K X.mg X.base CX n f fd ps sp) (hr : Room n X.A) (hc : PySem.W.selfFirst X.K C = true) (hs : PySem.W.findIn X.K (.ref C) (PySem.dunder op.info.2) = some (some (.ref g))) (hf : PySem.W.isFn X.K (.ref f) = true)
    (hm : PySem.W.findIn X.K (.ref C) (dunderR op.info.2) = some (some (.ref f))) (hsub : ∀ T ∈ tys, PySem.W.subIn X.K (.ref C) (.type T) = some false) (hb : Binds X.K fd ps []) (hx : Passes CX X E) :
    OpR X (binaryOp op) (fun x y H Q => ∃ b dy fs, y = V.ref b ∧ H b = some (.ins C dy fs) ∧ Thing H x ∧ sp [.ref b, x] H Q E) := by
  intro pins s σ H x y v u Q I rx ry h
  obtain ⟨b, dy, fs, rfl, hb', tx, q⟩ := h
  cases ry
  obtain ⟨mB, J, _⟩ := ins_get I.hok hb'
  obtain ⟨od, J, _⟩ := J.look
  obtain ⟨T, hT, lk, num⟩ := thing_ty I tx rx
  obtain ⟨cd, tl, c1, c2⟩ := PySem.W.ksp_first hc
  refine own_right I.kIn J (fun s' k => lk.keeps k) hc hm hf (fun h K' => PySem.W.fills_K K' c1 c2 hs) (B.fill T hT) (hsub T hT) (fun z R s' k hR => ?_) fun t => ?_
  · obtain ⟨i, hi⟩ := num z
    obtain ⟨_, _, _, ho, _⟩ := I.hok b _ hb'
    exact B.off (k _ _ ho) rfl hi (hR s'.toks)
  · exact back_of (run_fn F hr hb .nil hx (I.tok t) (.cons (show L2.RelV (V.ref b) (Value.ref b) from rfl) (.cons rx .nil)) q)
end
end Own

/-! own layer, of no law: OWN6: == and abs of an own class. -/
namespace Own
open PySem PySem.Spec PyProof.Rows L2 LamX NdefX
section
variable {X : Cx} {pins : List (Addr × Obj)} {σ : L2.St} {H : Hp} {s : Shared}
variable {CX : CXT} {n : Nat} {C f : Addr} {fd : FuncData} {ps : List Str} {sp : Sp} {E : XK}
/-- own == anything -/
theorem op_ownEq (F : FnOk X.prog X.w X.K X.mg X.base CX n f fd ps sp) (hr : Room n X.A) (hs : PySem.W.findIn X.K (.ref C) "__eq__" = some (some (.ref f))) (hf : PySem.W.isFn X.K (.ref f) = true) (hsub : ∀ T ∈ tys, PySem.W.subIn X.K (.type T) (.ref C) = some false) (hb : Binds X.K fd ps []) (hx : Passes CX X E) :
    OpR X (compareOp .Eq) (fun x y H Q => ∃ a dx fs, x = V.ref a ∧ H a = some (.ins C dx fs) ∧ ((∃ b dy gs, y = V.ref b ∧ H b = some (.ins C dy gs)) ∨ Thing H y) ∧ sp [.ref a, y] H Q E) := by
  intro pins s σ H x y v u Q I rx ry h
  obtain ⟨a, dx, fs, rfl, ha, ty, q⟩ := h
  cases rx
  obtain ⟨mA, J, _⟩ := ins_get I.hok ha
  obtain ⟨od, J, _⟩ := J.look
  obtain ⟨m, hF⟩ := I.fr
  have un : X.A.units < cLine := by
    have := hr.units
    omega
  show wpAny (model X.prog X.w) X.A (richCompare .Eq (.ref a) u) (EP X pins σ Q) X.xe s
  have call := back_of (run_fn F hr hb .nil hx I (.cons (show L2.RelV (V.ref a) (Value.ref a) from rfl) (.cons ry .nil)) q)
  rcases ty with ⟨b, dy, gs, rfl, hb'⟩ | ty
  · cases ry
    obtain ⟨mB, J', _⟩ := ins_get I.hok hb'
    obtain ⟨od', J', _⟩ := J'.look
    exact PySem.W.cmp_K (op := .Eq) (tb := .ref C) un hF I.ok.mod.kin J J'.type (by simp [PySem.W.notFirst]) hs hf call
  · obtain ⟨T, hT, lk, _⟩ := thing_ty I ty ry
    exact PySem.W.cmp_K (op := .Eq) (tb := .type T) un hF I.ok.mod.kin J lk (by unfold PySem.W.notFirst; rw [hsub T hT]; simp) hs hf call
/-- abs(own) -/
theorem call_absOwn (F : FnOk X.prog X.w X.K X.mg X.base CX n f fd ps sp) (hr : Room (n + 1) X.A) (hs : PySem.W.findIn X.K (.ref C) "__abs__" = some (some (.ref f))) (hf : PySem.W.isFn X.K (.ref f) = true) (hb : Binds X.K fd ps []) (hx : Passes CX X E) :
    CallR X (.builtin "abs") (fun xs H Q => ∃ a dx fs, xs = [V.ref a] ∧ H a = some (.ins C dx fs) ∧ sp [.ref a] H Q E) := by
  intro pins s σ H xs us Q I rs h
  obtain ⟨a, dx, fs, rfl, ha, q⟩ := h
  obtain ⟨u, rfl, rx⟩ := vals1 rs
  cases rx
  obtain ⟨mA, J, _⟩ := ins_get I.hok ha
  obtain ⟨od, J, _⟩ := J.look
  have A1 : Room n X.A.in1 := hr.in1
  refine PySem.Calls.call_function_entry kind_abs plain_abs entry_abs (args_abs _) ?_
  unfold Builtin.«abs»
  refine wpAny_bind (m := oneArg "abs" _) (wpAny_pure ?_)
  refine wpAny_bind (m := callSpecial? (.ref a) (Str.ofString "__abs__")) (PySem.W.special_fn I.kIn J hs (beq_iff_eq.mp hf) ?_)
  have e0 : Env0 X.prog X.w X.K X.mg X.base X.A.in1 X.stack s H := by
    have e := I.env0
    exact ⟨e.frames, e.mod, e.bs, e.bsz, e.funs, e.frf, e.hok, e.bare⟩
  have r1 : Vals [V.ref a] [Value.ref a] := .cons (show L2.RelV (V.ref a) (Value.ref a) from rfl) .nil
  have hl := F.len _ _ _ _ q
  refine wpAny_call (codeAny_mono (F.run X.A.in1 X.stack s H ⟨[.ref a], []⟩ [.ref a] [.ref a] Q E A1 e0 (by
    have z := hb s [.ref a] I.kIn (by simpa using hl)
    simpa using z) r1 q) fun r s' hq => ?_)
  cases r with
  | error e => exact hx pins σ H s e s' I hq
  | ok fl =>
    cases fl with
    | ret w => exact wpAny_pure ⟨_, rfl, I.after hq⟩
    | next => exact False.elim hq
    | brk => exact False.elim hq
    | cont => exact False.elim hq
end
end Own

/-! own layer, of no law: OWN7: != of an own class that has == alone. -/
namespace Own
open PySem PySem.Spec PySem.Calls PyProof.Rows
section
variable {prog : Program} {w : World} {A : Around} {E : Value → Shared → Prop} {s : Shared} {K : PySem.W.Frag} {x C f : Addr} {ox : Obj} {od : Option Obj}
open PySem.W in
theorem ne_body {b : Value} {Q : Fin → Shared → Prop} (un : A.units < cLine) (KX : K.In s.heap) (J : InstAt s.heap x ox C od) (eq : findIn K (.ref C) "__eq__" = some (some (.ref f))) (fn : isFn K (.ref f) = true)
    (go : wpAny (model prog w) A (call (.ref f) [.ref x, b]) (fun v s' => ∃ c, v = .bool c ∧ Q (.done (.ret (.bool (!c)))) s') E s) : wpAny (model prog w) A (Builtin.«object.__ne__» ⟨[.ref x, b], []⟩) Q E s := by
  unfold Builtin.«object.__ne__»
  refine wpAny_bind (m := slotArgs "__ne__" 1 _) (wpAny_pure ?_)
  dsimp only
  refine wpAny_bind (wpAny_cRoomFor un ?_)
  refine wpAny_bind (m := callSpecialIfBound? (.ref x) (Str.ofString "__eq__") [b]) (ifBound_K KX J eq fn (wpAny_mono go (fun v s' z => ?_) fun _ _ e => e))
  obtain ⟨c, rfl, q⟩ := z
  exact wpAny_bind (wpAny_truthy_bool (wpAny_pure q))
theorem ne_args (a b : Value) : argsOk "object.__ne__" ⟨[a, b], []⟩ := F.cmpArgs_ne a b
theorem ne_bind (self : Value) : bindSpecial (.builtin "object.__ne__") self = pure (.builtin "object.__ne__", [self]) :=
  (Slot.of (T := "object") (name := "__ne__") (owner := "object") (n := "__ne__") (by rw [typeLookup_type, builtinLookup_eq_fast]; kernel_rfl) (by decide +kernel) (by decide +kernel) (by decide +kernel) (.inl (by decide +kernel)) (by rw [isSubtype_type]; kernel_rfl)).bind self
open PySem.W in
theorem ne_try {b : Value} {Q : Option Value → Shared → Prop} (un : A.units + 1 < cLine) (KX : K.In s.heap) (J : InstAt s.heap x ox C od) (ne : findIn K (.ref C) "__ne__" = some (some (.builtin "object.__ne__"))) (obj : subIn K (.ref C) (.type "object") = some true) (eq : findIn K (.ref C) "__eq__" = some (some (.ref f))) (fn : isFn K (.ref f) = true)
    (go : wpAny (model prog w) A.in1 (call (.ref f) [.ref x, b]) (fun v s' => ∃ c, v = .bool c ∧ Q (some (.bool (!c))) s') E s) : wpAny (model prog w) A (tryCompare (.ref x) "__ne__" b) Q E s := by
  have isO : Looks (model prog w) s.heap (isInstance (.ref x) (.type "object")) true := J.type.andThen (looks_subIn KX obj)
  have run : wpAny (model prog w) A (call (.builtin "object.__ne__") [.ref x, b]) (fun v s' => ∃ c : Bool, v = .bool c ∧ Q (some (.bool c)) s') E s := by
    refine wpAny_call (codeAny_call_builtin (by decide +kernel) F.cmpEntry_ne (check_slot F.cmpKind_ne F.cmpSplit_ne isO (ne_args _ _) (ne_body (A := A.in1) (by exact un) KX J eq fn (wpAny_mono go (fun v s' z => ?_) fun _ _ e => e))))
    obtain ⟨c, rfl, q⟩ := z
    exact ⟨c, rfl, ⟨!c, rfl, q⟩⟩
  have fin : wpAny (model prog w) A (call (.builtin "object.__ne__") ([.ref x] ++ [b]) >>= fun v => pure (some v)) (fun r s' => ∃ c : Bool, r = some (.bool c) ∧ Q (some (.bool c)) s') E s := wpAny_bind (wpAny_mono run (fun v s' z => by
    obtain ⟨c, rfl, q⟩ := z
    exact wpAny_pure ⟨c, rfl, q⟩) fun _ _ e => e)
  have whole : wpAny (model prog w) A (callSpecialIfBound? (.ref x) "__ne__" [b]) (fun r s' => ∃ c : Bool, r = some (.bool c) ∧ Q (some (.bool c)) s') E s := by
    simp only [callSpecialIfBound?, bindSpecialIfBound?]
    refine wpAny_holding (wpAny_bind (wpAny_bind (wpAny_bind (J.type.here ((looks_findIn KX ne).here ?_)))))
    refine wpAny_bind (wpAny_askSetting (wpAny_ite ?_))
    split
    · rw [ne_bind]
      exact wpAny_bind (wpAny_pure (wpAny_pure fin))
    · rw [ne_bind]
      exact wpAny_tryCatch (wpAny_bind (wpAny_pure (wpAny_pure fin)))
  unfold tryCompare
  refine wpAny_bind (wpAny_mono whole (fun r s' z => ?_) fun _ _ e => e)
  obtain ⟨c, rfl, q⟩ := z
  exact wpAny_pure q
open PySem.W in
/-- own != b -/
theorem own_ne {b tb : Value} {Q : Value → Shared → Prop} (un : A.units + 1 < cLine) (KX : K.In s.heap) (J : InstAt s.heap x ox C od) (lk : Looks (model prog w) s.heap (typeOf b) tb) (nf : notFirst K C tb = true) (ne : findIn K (.ref C) "__ne__" = some (some (.builtin "object.__ne__"))) (obj : subIn K (.ref C) (.type "object") = some true)
    (eq : findIn K (.ref C) "__eq__" = some (some (.ref f))) (fn : isFn K (.ref f) = true) (go : wpAny (model prog w) A.in1 (call (.ref f) [.ref x, b]) (fun v s' => ∃ c, v = .bool c ∧ Q (.bool (!c)) s') E s) : wpAny (model prog w) A (richCompare .NotEq (.ref x) b) Q E s := by
  have one : wpAny (model prog w) A (tryCompare (.ref x) "__ne__" b) (fun r s' => ∃ v, r = some v ∧ Q v s') E s := ne_try un KX J ne obj eq fn (wpAny_mono go (fun v s' z => by
    obtain ⟨c, rfl, q⟩ := z
    exact ⟨c, rfl, _, rfl, q⟩) fun _ _ e => e)
  unfold richCompare
  simp only [oneThing_ref]
  refine wpAny_holding (wpAny_bind (wpAny_cRoomFor (Nat.lt_of_succ_lt un) ?_))
  refine wpAny_bind (J.type.here (wpAny_bind (lk.here ?_)))
  split
  · rename_i hd
    have sb : subIn K tb (.ref C) = some false := by
      unfold notFirst at nf
      rcases Bool.or_eq_true_iff.mp nf with z | z
      · rw [beq_iff_eq.mp z] at hd
        simp at hd
      · exact beq_iff_eq.mp z
    refine wpAny_bind ((looks_subIn KX sb).here ?_)
    rw [if_neg Bool.false_ne_true]
    refine wpAny_bind (wpAny_mono one (fun r s' z => ?_) fun _ _ z => z)
    obtain ⟨v, rfl, hv⟩ := z
    exact wpAny_pure hv
  · refine wpAny_bind (wpAny_pure ?_)
    rw [if_neg Bool.false_ne_true]
    refine wpAny_bind (wpAny_mono one (fun r s' z => ?_) fun _ _ z => z)
    obtain ⟨v, rfl, hv⟩ := z
    exact wpAny_pure hv
end
end Own

/-! own layer, of no law: OWN8: the rule of !=. -/
namespace Own
open PySem PySem.Spec PyProof.Rows L2 LamX NdefX
section
variable {X : Cx} {pins : List (Addr × Obj)} {σ : L2.St} {H : Hp} {s : Shared}
variable {CX : CXT} {n : Nat} {C f : Addr} {fd : FuncData} {ps : List Str} {sp : Sp} {E : XK}
/-- a def's run one call deeper -/
theorem run_in1 {us : List Value} {vs : List V} {Q : VK} {R : Value → Shared → Prop} (F : FnOk X.prog X.w X.K X.mg X.base CX n f fd ps sp) (hr : Room (n + 1) X.A) (hb : Binds X.K fd ps []) (hx : Passes CX X E) (I : Inv X pins σ H s) (r : Vals vs us) (q : sp vs H Q E)
    (k : ∀ v s', EP X pins σ Q v s' → R v s') : wpAny (model X.prog X.w) X.A.in1 (call (.ref f) us) R X.xe s := by
  have e0 : Env0 X.prog X.w X.K X.mg X.base X.A.in1 X.stack s H := by
    have e := I.env0
    exact ⟨e.frames, e.mod, e.bs, e.bsz, e.funs, e.frf, e.hok, e.bare⟩
  have hl := F.len _ _ _ _ q
  have bt : BindsTo s fd ⟨us, []⟩ (ps.zip us) := by
    have z := hb s us I.kIn (by rw [List.append_nil, ← r.length]; exact hl)
    rw [List.append_nil] at z
    exact z
  refine wpAny_call (codeAny_mono (F.run X.A.in1 X.stack s H ⟨us, []⟩ us vs Q E hr.in1 e0 bt r q) fun r s' hq => ?_)
  cases r with
  | error e => exact hx pins σ H s e s' I hq
  | ok fl =>
    cases fl with
    | ret w => exact k _ _ (I.after hq)
    | next => exact False.elim hq
    | brk => exact False.elim hq
    | cont => exact False.elim hq
/-- own != anything -/
theorem op_ownNe (F : FnOk X.prog X.w X.K X.mg X.base CX n f fd ps sp) (hr : Room (n + 1) X.A) (ne : PySem.W.findIn X.K (.ref C) "__ne__" = some (some (.builtin "object.__ne__"))) (obj : PySem.W.subIn X.K (.ref C) (.type "object") = some true) (hs : PySem.W.findIn X.K (.ref C) "__eq__" = some (some (.ref f))) (hf : PySem.W.isFn X.K (.ref f) = true)
    (hsub : ∀ T ∈ tys, PySem.W.subIn X.K (.type T) (.ref C) = some false) (hb : Binds X.K fd ps []) (hx : Passes CX X E) :
    OpR X (compareOp .NotEq) (fun x y H Q => ∃ a dx fs, x = V.ref a ∧ H a = some (.ins C dx fs) ∧ ((∃ b dy gs, y = V.ref b ∧ H b = some (.ins C dy gs)) ∨ Thing H y) ∧ sp [.ref a, y] H (fun v H' => ∃ c, v = .bl c ∧ Q (.bl (!c)) H') E) := by
  intro pins s σ H x y v u Q I rx ry h
  obtain ⟨a, dx, fs, rfl, ha, ty, q⟩ := h
  cases rx
  obtain ⟨mA, J, _⟩ := ins_get I.hok ha
  obtain ⟨od, J, _⟩ := J.look
  have un : X.A.units + 1 < cLine := by
    have := hr.un
    omega
  show wpAny (model X.prog X.w) X.A (richCompare .NotEq (.ref a) u) (EP X pins σ Q) X.xe s
  have go : wpAny (model X.prog X.w) X.A.in1 (call (.ref f) [.ref a, u]) (fun v s' => ∃ c, v = .bool c ∧ EP X pins σ Q (.bool (!c)) s') X.xe s := run_in1 F hr hb hx I (.cons (show L2.RelV (V.ref a) (Value.ref a) from rfl) (.cons ry .nil)) q fun v s' z => by
    obtain ⟨z, H', I', rz, c, rfl, q'⟩ := z
    obtain rfl : v = .bool c := rz
    exact ⟨c, rfl, .bl (!c), H', I', rfl, q'⟩
  rcases ty with ⟨b, dy, gs, rfl, hb'⟩ | ty
  · cases ry
    obtain ⟨mB, J', _⟩ := ins_get I.hok hb'
    obtain ⟨od', J', _⟩ := J'.look
    exact own_ne un I.kIn J J'.type (by simp [PySem.W.notFirst]) ne obj hs hf go
  · obtain ⟨T, hT, lk, _⟩ := thing_ty I ty ry
    exact own_ne un I.kIn J lk (by unfold PySem.W.notFirst; rw [hsub T hT]; simp) ne obj hs hf go
end
end Own

/-! own layer, of no law: OWN9: an attribute as one of several targets. -/
namespace Own
open PySem PySem.Spec PyProof.Rows L2 LamX NdefX
section
variable {X : Cx} {o : Expr} {ta : TE} {f : Str} {pos : Pos}
def gFld (K : PySem.W.Frag) (ta : TE) (f : Str) : TG := fun y σ H Q => ta σ H fun x H2 => ∃ a C dx fs, x = V.ref a ∧ H2 a = some (.ins C dx fs) ∧ Cls K C ∧ NoAttr K C f ∧ fs.length < 1000 ∧ Q σ (upd H2 a (.ins C dx (putF f y fs)))
theorem pg_fld (ha : PE X o ta) : PG X (.Attribute o f pos) (gFld X.K ta f) := by
  refine ⟨fun pins s σ H v u Q I r h => ?_⟩
  have e : assign (.Attribute o f pos) X.env u = (do
      let ov ← holding [u] (eval o X.env)
      standAt pos.atName
      holding [u, ov] (setAttr ov f u)
      PySem.release [u, ov] []) := rfl
  rw [e]
  refine wpAny_bind (wpAny_holding (thn (ha.run pins s σ H _ I h) fun ov s1 z => ?_))
  obtain ⟨x, H1, I1, rx, a, C, dx, fs, rfl, ea, c, n, l, q⟩ := z
  obtain rfl : ov = Value.ref a := rx
  refine wpAny_bind (wpAny_standAt (wpAny_bind (wpAny_holding (setattr_ok I1 ea c n l r fun s3 I3 => ?_))))
  exact wpAny_release ⟨σ, _, I3, q⟩
end
end Own

/-! own layer, of no law: OWNW: the nine ways, their mathematics. -/
namespace Own
open PySem PySem.Spec PyProof.Rows L2 LamX NdefX
def waysL : List Str := ["floor", "ceiling", "cut", "away", "halfup", "halfdown", "halfeven", "halfaway", "halfcut"]
def mirrL : List (Str × Str) := [("floor", "ceiling"), ("ceiling", "floor"), ("halfup", "halfdown"), ("halfdown", "halfup")]
def halvL : List (Str × Str) := [("halfup", "ceiling"), ("halfdown", "floor"), ("halfeven", "even"), ("halfaway", "away"), ("halfcut", "cut")]
def baseUp (w : Str) (b : Int) : Bool := if w = "even" then decide (b % 2 = 1) else if w = "cut" then decide (b < 0) else if w = "away" then decide (0 ≤ b) else decide (w = "ceiling")
def goesUp (w : Str) (b p : Int) : Bool := match halvL.lookup w with
  | some h => if p = 0 then baseUp h b else decide (0 < p)
  | none => baseUp w b
def near (n d : Int) (w : Str) : Int := if n % d = 0 then n / d else if goesUp w (n / d) (2 * (n % d) - d) = true then n / d + 1 else n / d
def mirr (w : Str) : Str := (mirrL.lookup w).getD w
theorem dec_int (a b : Int) : decide (V.int a = V.int b) = decide (a = b) := by simp
theorem dec_str (a b : Str) : decide (V.str a = V.str b) = decide (a = b) := by simp
/-- what the walk asks of the top: the names of built-ins are free; the tables -/
structure Txt (P : Program) (w : World) (K : PySem.W.Frag) (mg : Str → Option Value) (base : Heap) (C aW aM aH : Addr) (eM : Array DictEntry) (nM : Nat) (eH : Array DictEntry) (nH : Nat) : Prop where
  isi : mg "isinstance" = none
  int : mg "int" = none
  bool : mg "bool" = none
  len : mg "len" = none
  list : mg "list" = none
  range : mg "range" = none
  tuple : mg "tuple" = none
  all : mg "all" = none
  dm : mg "divmod" = none
  err : ErrC P w K mg base "BadValue" "value" 1 C (spErr C "value")
  gW : mg "WAYS" = some (.ref aW)
  ways : ∀ H : Hp, SqT K H aW (waysL.map V.str)
  gM : mg "MIRRORS" = some (.ref aM)
  dM : KDict K w aM eM nM
  mirr : ∀ z ∈ waysL, KGet K aM z ((mirrL.lookup z).map V.str)
  gH : mg "HALVES" = some (.ref aH)
  dH : KDict K w aH eH nH
  halv : ∀ z ∈ waysL, KGet K aH z ((halvL.lookup z).map V.str)
def isWay : V → Bool
  | .str z => decide (z ∈ waysL)
  | _ => false
theorem isWay_str {x : V} (h : isWay x = true) : ∃ z ∈ waysL, x = .str z := by
  cases x with
  | str z => exact ⟨z, by simpa [isWay] using h, rfl⟩
  | _ => simp [isWay] at h
theorem way_cases {z : Str} (h : z ∈ waysL) : z = "floor" ∨ z = "ceiling" ∨ z = "cut" ∨ z = "away" ∨ z = "halfup" ∨ z = "halfdown" ∨ z = "halfeven" ∨ z = "halfaway" ∨ z = "halfcut" := by
  simpa [waysL] using h
def baseK (z : Str) : Nat := if z = "even" then 0 else if z = "cut" then 1 else if z = "away" then 2 else if z = "ceiling" then 3 else 4
def kUp : Nat → Int → Bool
  | 0, b => decide (b % 2 = 1)
  | 1, b => decide (b < 0)
  | 2, b => decide (0 ≤ b)
  | 3, _ => true
  | _, _ => false
theorem base_k (z : Str) (b : Int) : baseUp z b = kUp (baseK z) b := by
  unfold baseUp baseK
  by_cases h1 : z = "even"
  · rw [if_pos h1, if_pos h1]
    rfl
  rw [if_neg h1, if_neg h1]
  by_cases h2 : z = "cut"
  · rw [if_pos h2, if_pos h2]
    rfl
  rw [if_neg h2, if_neg h2]
  by_cases h3 : z = "away"
  · rw [if_pos h3, if_pos h3]
    rfl
  rw [if_neg h3, if_neg h3]
  by_cases h4 : z = "ceiling"
  · rw [if_pos h4, decide_eq_true h4]
    rfl
  · rw [if_neg h4, decide_eq_false h4]
    rfl
theorem goes_none {z : Str} {k : Nat} (h : halvL.lookup z = none) (hk : baseK z = k) (b p : Int) : goesUp z b p = kUp k b := by
  unfold goesUp
  rw [h, ← hk]
  exact base_k z b
theorem goes_some {z y : Str} {k : Nat} (h : halvL.lookup z = some y) (hk : baseK y = k) (b p : Int) : goesUp z b p = if p = 0 then kUp k b else decide (0 < p) := by
  unfold goesUp
  rw [h, ← hk, ← base_k]
theorem mirr_of {z y : Str} (h : (mirrL.lookup z).getD z = y) : mirr z = y := h
theorem goes_mirr {z : Str} (hz : z ∈ waysL) (b p : Int) : goesUp (mirr z) (-b - 1) (-p) = !goesUp z b p := by
  rcases way_cases hz with rfl | rfl | rfl | rfl | rfl | rfl | rfl | rfl | rfl
  · rw [mirr_of (y := "ceiling") (by decide +kernel), goes_none (k := 3) (by decide +kernel) (by decide +kernel), goes_none (k := 4) (by decide +kernel) (by decide +kernel)]
    rfl
  · rw [mirr_of (y := "floor") (by decide +kernel), goes_none (k := 4) (by decide +kernel) (by decide +kernel), goes_none (k := 3) (by decide +kernel) (by decide +kernel)]
    rfl
  · rw [mirr_of (y := "cut") (by decide +kernel), goes_none (k := 1) (by decide +kernel) (by decide +kernel), goes_none (k := 1) (by decide +kernel) (by decide +kernel)]
    show decide (-b - 1 < 0) = !decide (b < 0)
    by_cases h : b < 0
    · rw [decide_eq_true h, decide_eq_false (by omega)]; rfl
    · rw [decide_eq_false h, decide_eq_true (by omega)]; rfl
  · rw [mirr_of (y := "away") (by decide +kernel), goes_none (k := 2) (by decide +kernel) (by decide +kernel), goes_none (k := 2) (by decide +kernel) (by decide +kernel)]
    show decide (0 ≤ -b - 1) = !decide (0 ≤ b)
    by_cases h : 0 ≤ b
    · rw [decide_eq_true h, decide_eq_false (by omega)]; rfl
    · rw [decide_eq_false h, decide_eq_true (by omega)]; rfl
  · rw [mirr_of (y := "halfdown") (by decide +kernel), goes_some (k := 4) (y := "floor") (by decide +kernel) (by decide +kernel), goes_some (k := 3) (y := "ceiling") (by decide +kernel) (by decide +kernel)]
    by_cases h : p = 0
    · rw [if_pos h, if_pos (by omega)]; rfl
    · rw [if_neg h, if_neg (by omega)]
      by_cases h : 0 < p
      · rw [decide_eq_true h, decide_eq_false (by omega)]; rfl
      · rw [decide_eq_false h, decide_eq_true (by omega)]; rfl
  · rw [mirr_of (y := "halfup") (by decide +kernel), goes_some (k := 3) (y := "ceiling") (by decide +kernel) (by decide +kernel), goes_some (k := 4) (y := "floor") (by decide +kernel) (by decide +kernel)]
    by_cases h : p = 0
    · rw [if_pos h, if_pos (by omega)]; rfl
    · rw [if_neg h, if_neg (by omega)]
      by_cases h : 0 < p
      · rw [decide_eq_true h, decide_eq_false (by omega)]; rfl
      · rw [decide_eq_false h, decide_eq_true (by omega)]; rfl
  · rw [mirr_of (y := "halfeven") (by decide +kernel), goes_some (k := 0) (y := "even") (by decide +kernel) (by decide +kernel), goes_some (k := 0) (y := "even") (by decide +kernel) (by decide +kernel)]
    by_cases h : p = 0
    · rw [if_pos h, if_pos (by omega)]
      show decide ((-b - 1) % 2 = 1) = !decide (b % 2 = 1)
      by_cases h : b % 2 = 1
      · rw [decide_eq_true h, decide_eq_false (by omega)]; rfl
      · rw [decide_eq_false h, decide_eq_true (by omega)]; rfl
    · rw [if_neg h, if_neg (by omega)]
      by_cases h : 0 < p
      · rw [decide_eq_true h, decide_eq_false (by omega)]; rfl
      · rw [decide_eq_false h, decide_eq_true (by omega)]; rfl
  · rw [mirr_of (y := "halfaway") (by decide +kernel), goes_some (k := 2) (y := "away") (by decide +kernel) (by decide +kernel), goes_some (k := 2) (y := "away") (by decide +kernel) (by decide +kernel)]
    by_cases h : p = 0
    · rw [if_pos h, if_pos (by omega)]
      show decide (0 ≤ -b - 1) = !decide (0 ≤ b)
      by_cases h : 0 ≤ b
      · rw [decide_eq_true h, decide_eq_false (by omega)]; rfl
      · rw [decide_eq_false h, decide_eq_true (by omega)]; rfl
    · rw [if_neg h, if_neg (by omega)]
      by_cases h : 0 < p
      · rw [decide_eq_true h, decide_eq_false (by omega)]; rfl
      · rw [decide_eq_false h, decide_eq_true (by omega)]; rfl
  · rw [mirr_of (y := "halfcut") (by decide +kernel), goes_some (k := 1) (y := "cut") (by decide +kernel) (by decide +kernel), goes_some (k := 1) (y := "cut") (by decide +kernel) (by decide +kernel)]
    by_cases h : p = 0
    · rw [if_pos h, if_pos (by omega)]
      show decide (-b - 1 < 0) = !decide (b < 0)
      by_cases h : b < 0
      · rw [decide_eq_true h, decide_eq_false (by omega)]; rfl
      · rw [decide_eq_false h, decide_eq_true (by omega)]; rfl
    · rw [if_neg h, if_neg (by omega)]
      by_cases h : 0 < p
      · rw [decide_eq_true h, decide_eq_false (by omega)]; rfl
      · rw [decide_eq_false h, decide_eq_true (by omega)]; rfl
theorem mirr_mem {z : Str} (hz : z ∈ waysL) : mirr z ∈ waysL := by
  rcases way_cases hz with rfl | rfl | rfl | rfl | rfl | rfl | rfl | rfl | rfl <;> decide +kernel
theorem near_mirr {n d : Int} {z : Str} (h0 : 0 < d) (hz : z ∈ waysL) : near (-n) d (mirr z) = -near n d z := by
  have r0 := Int.emod_nonneg n (show d ≠ 0 by omega)
  have r1 := Int.emod_lt_of_pos n h0
  have em := Int.emod_add_mul_ediv n d
  unfold near
  by_cases h : n % d = 0
  · have e1 : (-n) % d = 0 := Int.emod_eq_zero_of_dvd ((Int.dvd_neg).mpr (Int.dvd_of_emod_eq_zero h))
    rw [if_pos h, if_pos e1, Int.neg_ediv_of_dvd (Int.dvd_of_emod_eq_zero h)]
  · have e3 : -n = (d - n % d) + d * (-(n / d) - 1) := by
      rw [Int.mul_sub, Int.mul_neg]
      omega
    have e1 : (-n) % d = d - n % d := by
      rw [e3, Int.add_mul_emod_self_left, Int.emod_eq_of_lt (by omega) (by omega)]
    have e2 : (-n) / d = -(n / d) - 1 := by
      rw [e3, Int.add_mul_ediv_left _ _ (by omega), Int.ediv_eq_zero_of_lt (by omega) (by omega)]
      omega
    rw [if_neg h, e1, e2, if_neg (by omega)]
    have e4 : 2 * (d - n % d) - d = -(2 * (n % d) - d) := by omega
    rw [e4, goes_mirr hz]
    cases goesUp z (n / d) (2 * (n % d) - d)
    · show (if true = true then -(n / d) - 1 + 1 else _) = -(if false = true then _ else n / d)
      rw [if_pos rfl, if_neg (by decide)]
      omega
    · show (if false = true then _ else -(n / d) - 1) = -(if true = true then n / d + 1 else _)
      rw [if_pos rfl, if_neg (by decide)]
      omega
end Own

/-! own layer, of no law: OWNE: an error class whose __init__ keeps nothing. -/
namespace Own
open PySem PySem.Spec PyProof.Rows L2 LamX NdefX
section
variable {X : Cx}
theorem del_new {H : Hp} {a : Addr} {o : HO} (h : H a = none) : del (upd H a o) a = H := by
  funext b
  by_cases e : b = a
  · rw [e, del_same, h]
  · rw [del_ne e, upd_ne e]
theorem mk_endN {pins : List (Addr × Obj)} {σ : L2.St} {H1 H2 : Hp} {Q : XK} {hp hp2 h2 : Heap} {g1 g2 : Array GenState} {d1 d2 : Drawn} {t1 t2 : Nat} {os1 os2 : OsState} {a C : Addr} (T : Raises X (.ref C)) (I1 : Inv X pins σ H1 ⟨hp, g1, d1, t1, os1⟩)
    (ha : hp.objs.size ≤ a) (k : ∀ b o, hp.get? b = some o → hp2.get? b = some o) (un : Un (frs X.stack) [] (upd H1 a (exo a C none)) H2 hp2 h2) (hok : HOk X.prog X.w H2 h2) (ho : os2 = os1) (hb : AllBare g2)
    (ea : H2 a = some (exo a C none)) (q : Q (.ref C) none (del H2 a)) : MkP X pins σ Q (.ref a) ⟨h2, g2, d2, t2, os2⟩ := by
  obtain ⟨t0, hoe⟩ := exo_at hok ea
  have hn : H1 a = none := I1.hok.fresh ha
  obtain ⟨G, g1', g2'⟩ := restrict h2 fun b => decide (b ≠ a)
  have gk : ∀ b, b ≠ a → G.get? b = h2.get? b := fun b hb => g1' b (decide_eq_true hb)
  have ge : G.get? a = none := g2' a (by simp)
  have nha : ∀ {b : Addr} {o : Obj}, hp.get? b = some o → b ≠ a := fun {b o} z => Nat.ne_of_lt (Nat.lt_of_lt_of_le (Heap.lt_size z) ha)
  have up : ∀ {b : Addr}, b ≠ a → H1 b = none → upd H1 a (exo a C none) b = none := fun {b} hb n => by rw [upd_ne hb]; exact n
  have U : Un (frs X.stack) [] H1 (del H2 a) hp G := {
    keep := fun b o z n hf hx => by
      rw [gk b (nha z)]
      exact un.keep b o (k b o z) (up (nha z) n) hf hx
    slot := fun b o z n hf hx => by
      rw [gk b (nha z)]
      exact un.slot b o (k b o z) (up (nha z) n) hf hx
    free := fun b o z n hx => by
      rw [del_ne (nha z)]
      exact un.free b o (k b o z) (up (nha z) n) hx
    there := fun b o z hx => by
      rw [gk b (nha z)]
      exact un.there b o (k b o z) hx
    tups := fun b xs z => by
      rw [del_ne (ne_of_none z hn)]
      exact un.tups b xs (by rw [upd_ne (ne_of_none z hn)]; exact z)
    frzs := fun b o v z => by
      rw [del_ne (ne_of_none z hn)]
      exact un.frzs b o v (by rw [upd_ne (ne_of_none z hn)]; exact z)
    tbls := fun b ps z => by
      rw [del_ne (ne_of_none z hn)]
      exact un.tbls b ps (by rw [upd_ne (ne_of_none z hn)]; exact z) }
  have hok3 : HOk X.prog X.w (del H2 a) G := fun b o z => by
    have hba : b ≠ a := fun e => by
      rw [e, del_same] at z
      cases z
    rw [del_ne hba] at z
    have noa : ∀ {c : Addr}, H2 c = some (.own b) → c ≠ a := fun {c} hc => at_ne ea hc exo_own
    exact (hok b o z).stay (fun c v hc y => by
        have hca : c ≠ a := by
          rcases hc with hc | hc
          · rw [hc]
            exact hba
          · exact noa hc
        rw [gk c hca]
        exact y)
      (fun c hc => by rw [del_ne (noa hc)]; exact hc) (fun c xs hc => by rw [del_ne (at_ne ea hc exo_tup)]; exact hc)
  have J : Inv X pins σ (del H2 a) ⟨G, g2, d2, t2, os2⟩ := I1.call' (ch := []) ho U hok3 hb (fun b z => absurd z (by simp))
  refine ⟨a, _, _, ⟨G, g2, d2, t2, os2⟩, _, .ref C, none, rfl, J, fun b o z => ?_, ge, hoe, ⟨rfl, rfl⟩, rfl, rfl, del_same, rfl, hb, T, q⟩
  by_cases hba : b = a
  · rw [hba, ge] at z
    cases z
  · exact (gk b hba).symm.trans z
/-- C(), an own error class whose __init__ takes self alone and does nothing -/
theorem pmk_oex0 {x : Str} {C fI : Addr} {k : Nat} {fd : FuncData} {sp : Sp} {p pos : Pos} (T : OexC X.K C) (iC : PySem.W.findIn X.K (.ref C) "__init__" = some (some (.ref fI))) (tI : PySem.W.typeIn X.K (.ref fI) = some (.type "function"))
    (F1 : FnOk X.prog X.w X.K X.mg X.base CX0 k fI fd ["self"] sp) (hr : Room (k + 1) X.A) (hb : Binds X.K fd ["self"] []) (hg : Gl X x) (hm : X.mg x = some (.ref C)) (hdb : (x == ("__debug__" : Str)) = false := by decide) :
    PMk X (.Call (.Name x p) [] [] pos) (fun _ H Q => ∀ a, H a = none → sp [.ref a] (upd H a (exo a C none)) (fun v H2 => v = .non ∧ H2 a = some (exo a C none) ∧ Q (.ref C) none (del H2 a)) (fun _ _ _ => False)) := by
  intro pins s σ H Q I h
  obtain ⟨nm, q, N, bs, bm, sn, sub, ab, col, dd, k0, k1, k2, k3, k5, hC, hbm⟩ := T.cls
  refine wpAny_Call_Name_kw (ld_glob I hg hm ?_ hdb)
  refine PySem.W.callWith_K0 I.kIn T.kC ?_
  show wpAny _ _ (call (.ref C) []) _ _ _
  obtain ⟨hp, g, dr, tk, os⟩ := s
  have hsz : hp.objs.size ≤ hp.objs.size + 1 := Nat.le_succ _
  have hq := h (hp.objs.size + 1) (I.hok.fresh hsz)
  have kk : ∀ b o, hp.get? b = some o → ((hp.push (PySem.W.kdv_tup [])).push (PySem.HandSPX.excO C hp.objs.size)).get? b = some o := fun b o e => Heap.get?_push_of_some _ (Heap.get?_push_of_some _ e)
  have hget : ((hp.push (PySem.W.kdv_tup [])).push (PySem.HandSPX.excO C hp.objs.size)).get? (hp.objs.size + 1) = some (PySem.HandSPX.excO C hp.objs.size) := by heap_get
  have I2 : Inv X pins σ (upd H (hp.objs.size + 1) (exo (hp.objs.size + 1) C none)) ⟨(hp.push (PySem.W.kdv_tup [])).push (PySem.HandSPX.excO C hp.objs.size), g, dr, tk, os⟩ :=
    I.laid (t' := tk) (a := hp.objs.size + 1) (o := exo (hp.objs.size + 1) C none) (h' := (hp.push (PySem.W.kdv_tup [])).push (PySem.HandSPX.excO C hp.objs.size)) kk hsz (exo_ok hget)
  have r2 : Vals [V.ref (hp.objs.size + 1)] [Value.ref (hp.objs.size + 1)] := .cons rfl .nil
  refine wpAny_call (PySem.HandSPX.call_own F.excBase_ValueError (fun Y => PySem.HandSPX.refsVE_contains Y bm hbm) (I.kIn _ _ hC) (PySem.W.looks_findIn I.kIn iC) (fun self => PySem.W.bind_fn I.kIn self tI) (by show 0 ≤ sizeLine; exact Nat.zero_le _)
    (codeAny_mono (F1.run _ X.stack _ _ ⟨[Value.ref (hp.objs.size + 1)], []⟩ [Value.ref (hp.objs.size + 1)] _ _ (fun _ _ _ => False) (hr.make C [] []) (I2.env0.make C [] []) (hb _ [Value.ref (hp.objs.size + 1)] I2.kIn rfl) r2 hq) fun r s' hq' => ?_))
  cases r with
  | error er => exact False.elim hq'
  | ok fl =>
    cases fl with
    | ret u =>
      obtain ⟨v, H2, os2, bare2, un2, hok2, rv, ev, ea, q2⟩ := hq'
      subst ev
      obtain ⟨h2, g2, d2, t2, os'⟩ := s'
      exact ⟨rv, mk_endN (raises_own T.exC T.tyC) I hsz kk un2 hok2 os2 bare2 ea q2⟩
    | next => exact False.elim hq'
    | brk => exact False.elim hq'
    | cont => exact False.elim hq'
end
/-- an error class without fields -/
structure ErrN (P : Program) (w : World) (K : PySem.W.Frag) (mg : Str → Option Value) (base : Heap) (x : Str) (C : Addr) : Prop where
  g : mg x = some (.ref C)
  oex : OexC K C
  ini : ∃ (fI : Addr) (fd : FuncData), PySem.W.findIn K (.ref C) "__init__" = some (some (.ref fI)) ∧ PySem.W.typeIn K (.ref fI) = some (.type "function") ∧ FnOk P w K mg base CX0 1 fI fd ["self"] (fun vs H Q _ => ∃ a : Addr, vs = [.ref a] ∧ Q .non H) ∧ Binds K fd ["self"] []
section
variable {X : Cx} {x : Str} {j : Nat} {C : Addr} {p pos : Pos}
theorem pmk_errN (D : ErrN X.prog X.w X.K X.mg X.base x C) (hr : Room j X.A) (hj : 2 ≤ j) (hg : Gl X x) (hdb : (x == ("__debug__" : Str)) = false := by decide) : PMk X (.Call (.Name x p) [] [] pos) (fun _ H Q => Q (.ref C) none H) := by
  obtain ⟨fI, fd, iC, tI, F1, b⟩ := D.ini
  intro pins s σ H Q I h
  exact pmk_oex0 D.oex iC tI F1 (hr.mono hj) b hg D.g hdb pins s σ H Q I fun a na => ⟨a, rfl, rfl, upd_same, by rw [del_new na]; exact h⟩
end
end Own

/-! own layer, of no law: OWNN: rounding as a fraction's. -/
namespace Own
open PySem PySem.Spec PyProof.Rows L2 LamX NdefX
theorem near_lo {n d : Int} (t : Str) : n / d ≤ near n d t := by
  unfold near
  split
  · exact Int.le_refl _
  · split <;> omega
theorem near_hi {n d : Int} (t : Str) : near n d t ≤ n / d + 1 := by
  unfold near
  split
  · omega
  · split <;> omega
theorem near_mul {k d : Int} (h : 0 < d) (t : Str) : near (k * d) d t = k := by
  unfold near
  rw [if_pos (Int.mul_emod_left k d), Int.mul_ediv_cancel _ (by omega)]
theorem goes_up_mono {z : Str} {b p p' : Int} (h : p ≤ p') (g : goesUp z b p = true) : goesUp z b p' = true := by
  unfold goesUp at g ⊢
  cases e : halvL.lookup z with
  | none =>
    rw [e] at g
    exact g
  | some y =>
    rw [e] at g
    dsimp only at g ⊢
    by_cases h1 : p = 0
    · rw [if_pos h1] at g
      by_cases h2 : p' = 0
      · rw [if_pos h2]
        exact g
      · rw [if_neg h2]
        exact decide_eq_true (by omega)
    · rw [if_neg h1] at g
      have h3 : 0 < p := of_decide_eq_true g
      rw [if_neg (by omega)]
      exact decide_eq_true (by omega)
/-- what goesUp asks of p is its sign alone -/
theorem goes_scale {z : Str} {b p c : Int} (hc : 0 < c) : goesUp z b (p * c) = goesUp z b p := by
  unfold goesUp
  cases e : halvL.lookup z with
  | none => rfl
  | some y =>
    dsimp only
    by_cases h : p = 0
    · subst h
      simp
    · have h1 : p * c ≠ 0 := Int.mul_ne_zero h (by omega)
      rw [if_neg h, if_neg h1]
      by_cases h2 : 0 < p
      · rw [decide_eq_true h2, decide_eq_true (Int.mul_pos h2 hc)]
      · have h3 : p * c < 0 := Int.mul_neg_of_neg_of_pos (by omega) hc
        rw [decide_eq_false h2, decide_eq_false (by omega)]
theorem near_scale {n d c : Int} (hd : 0 < d) (hc : 0 < c) (t : Str) : near (n * c) (d * c) t = near n d t := by
  have e1 : n * c / (d * c) = n / d := Int.mul_ediv_mul_of_pos_left n d hc
  have e2 : n * c % (d * c) = n % d * c := by
    rw [Int.emod_def, e1, Int.emod_def, Int.sub_mul]
    congr 1
    simp only [Int.mul_assoc, Int.mul_comm, Int.mul_left_comm]
  unfold near
  rw [e1, e2]
  by_cases h : n % d = 0
  · rw [if_pos h, if_pos (by rw [h, Int.zero_mul])]
  · rw [if_neg h, if_neg (Int.mul_ne_zero h (by omega))]
    have e3 : 2 * (n % d * c) - d * c = (2 * (n % d) - d) * c := by rw [Int.sub_mul, Int.mul_assoc]
    rw [e3, goes_scale hc]
/-- it hangs on the fraction alone -/
theorem near_ratio {n d n' d' : Int} (hd : 0 < d) (hd' : 0 < d') (h : n * d' = n' * d) (t : Str) : near n d t = near n' d' t := by
  rw [← near_scale (n := n) (d := d) hd hd' t, h, Int.mul_comm d d', near_scale hd' hd t]
theorem near_mono0 {n n' d : Int} (hd : 0 < d) (h : n ≤ n') (t : Str) : near n d t ≤ near n' d t := by
  have a : n / d ≤ n' / d := Int.ediv_le_ediv hd h
  by_cases e : n / d = n' / d
  · have r0 := Int.emod_nonneg n (show d ≠ 0 by omega)
    have r1 := Int.emod_lt_of_pos n hd
    have m := Int.emod_add_mul_ediv n d
    have m' := Int.emod_add_mul_ediv n' d
    rw [← e] at m'
    have hr : n % d ≤ n' % d := by omega
    by_cases h0 : n % d = 0
    · have z : near n d t = n / d := by
        unfold near
        rw [if_pos h0]
      rw [z, e]
      exact near_lo t
    · have hx : ¬ n' % d = 0 := by omega
      unfold near
      rw [if_neg h0, if_neg hx, ← e]
      by_cases g : goesUp t (n / d) (2 * (n % d) - d) = true
      · rw [if_pos g, if_pos (goes_up_mono (by omega) g)]
        exact Int.le_refl _
      · rw [if_neg g]
        split <;> omega
  · have z1 := near_hi (n := n) (d := d) t
    have z2 := near_lo (n := n') (d := d) t
    omega
theorem near_mono {n d n' d' : Int} (hd : 0 < d) (hd' : 0 < d') (h : n * d' ≤ n' * d) (t : Str) : near n d t ≤ near n' d' t := by
  rw [← near_scale (n := n) (d := d) hd hd' t, ← near_scale (n := n') (d := d') hd' hd t, Int.mul_comm d' d]
  exact near_mono0 (Int.mul_pos hd hd') h t
theorem near_nat {n d : Int} (hd : 0 < d) (t : Str) : (near n d t).natAbs ≤ n.natAbs + 1 := by
  have a := near_lo (n := n) (d := d) t
  have b := near_hi (n := n) (d := d) t
  have c := Int.natAbs_ediv_le_natAbs n d
  omega
/-- what a rounded number keeps to -/
def absZ (u : Int) : Int := if u < 0 then -u else u
def keepP (off : Int) (nr fr : Bool) : List (Str × V) := [("floor", .bl (decide (off < 0))), ("ceiling", .bl (decide (off > 0))), ("cut", .bl nr), ("away", .bl fr)]
def keepH (off : Int) (nr fr ev : Bool) : List (Str × V) := [("halfup", .bl (decide (off > 0))), ("halfdown", .bl (decide (off < 0))), ("halfeven", .bl ev), ("halfaway", .bl fr), ("halfcut", .bl nr)]
theorem keep_ok {n d : Int} (h0 : 0 < d) (hr : n % d ≠ 0) {z : Str} (hz : z ∈ waysL) : absZ (near n d z * d - n) < d ∧
    (∀ v, (keepP (near n d z * d - n) (decide (absZ (near n d z) * d < absZ n)) (decide (absZ (near n d z) * d > absZ n))).lookup z = some v → v = .bl true) ∧
    ((keepP (near n d z * d - n) (decide (absZ (near n d z) * d < absZ n)) (decide (absZ (near n d z) * d > absZ n))).lookup z = none → (2 * absZ (near n d z * d - n) ≠ d → 2 * absZ (near n d z * d - n) < d) ∧
      (2 * absZ (near n d z * d - n) = d → (keepH (near n d z * d - n) (decide (absZ (near n d z) * d < absZ n)) (decide (absZ (near n d z) * d > absZ n)) (decide (near n d z % 2 = 0))).lookup z = some (.bl true))) := by
  have r0 := Int.emod_nonneg n (show d ≠ 0 by omega)
  have r1 := Int.emod_lt_of_pos n h0
  have em := Int.emod_add_mul_ediv n d
  have eu : near n d z = if goesUp z (n / d) (2 * (n % d) - d) = true then n / d + 1 else n / d := by
    unfold near
    rw [if_neg hr]
  rw [eu]
  generalize n / d = q at em ⊢
  generalize n % d = r at hr r0 r1 em ⊢
  have em2 : q * d = n - r := by rw [Int.mul_comm]; omega
  have e1 : (q + 1) * d = n - r + d := by rw [Int.add_mul, em2, Int.one_mul]
  have e2 : -q * d = r - n := by rw [Int.neg_mul, em2]; omega
  have e3 : -(q + 1) * d = r - n - d := by rw [Int.neg_mul, e1]; omega
  have sg : (0 ≤ q ∧ 0 < n) ∨ (q < 0 ∧ n < 0) := by
    by_cases h : 0 ≤ q
    · have := Int.mul_nonneg h (Int.le_of_lt h0)
      exact .inl ⟨h, by omega⟩
    · have h2 : (q + 1) * d ≤ 0 := by
        have := Int.mul_nonneg (show 0 ≤ -(q + 1) by omega) (Int.le_of_lt h0)
        rw [Int.neg_mul] at this
        omega
      exact .inr ⟨by omega, by omega⟩
  -- the four numbers, up or not
  have up1 : ∀ b : Bool, (if b = true then q + 1 else q) * d - n = if b = true then d - r else -r := fun b => by cases b <;> simp <;> omega
  have up2 : ∀ b : Bool, absZ (if b = true then d - r else -r) = if b = true then d - r else r := fun b => by
    unfold absZ
    cases b <;> simp <;> omega
  have up3 : ∀ b : Bool, decide (absZ (if b = true then q + 1 else q) * d < absZ n) = (if b = true then decide (q < 0) else decide (0 ≤ q)) ∧ decide (absZ (if b = true then q + 1 else q) * d > absZ n) = (if b = true then decide (0 ≤ q) else decide (q < 0)) := fun b => by
    unfold absZ
    rcases sg with ⟨a, c⟩ | ⟨a, c⟩
    · cases b
      · simp only [Bool.false_eq_true, if_false]
        rw [if_neg (by omega), if_neg (by omega), em2, decide_eq_true (show n - r < n by omega), decide_eq_false (show ¬ n - r > n by omega), decide_eq_true a, decide_eq_false (by omega)]
        exact ⟨rfl, rfl⟩
      · simp only [if_true]
        rw [if_neg (by omega), if_neg (by omega), e1, decide_eq_false (show ¬ n - r + d < n by omega), decide_eq_true (show n - r + d > n by omega), decide_eq_true a, decide_eq_false (by omega)]
        exact ⟨rfl, rfl⟩
    · cases b
      · simp only [Bool.false_eq_true, if_false]
        rw [if_pos a, if_pos c, e2, decide_eq_false (show ¬ r - n < -n by omega), decide_eq_true (show r - n > -n by omega), decide_eq_true a, decide_eq_false (by omega)]
        exact ⟨rfl, rfl⟩
      · simp only [if_true]
        have e4 : (if q + 1 < 0 then -(q + 1) else q + 1) * d = r - n - d := by
          split
          · exact e3
          · have : q + 1 = 0 := by omega
            rw [this] at e1 ⊢
            omega
        rw [if_pos c, e4, decide_eq_true (show r - n - d < -n by omega), decide_eq_false (show ¬ r - n - d > -n by omega), decide_eq_true a, decide_eq_false (by omega)]
        exact ⟨rfl, rfl⟩
  generalize hb : goesUp z q (2 * r - d) = b
  rw [up1, (up3 b).1, (up3 b).2, up2]
  clear up1 up2 up3 eu e1 e2 e3 em em2
  refine ⟨by cases b <;> simp <;> omega, ?_⟩
  rcases way_cases hz with rfl | rfl | rfl | rfl | rfl | rfl | rfl | rfl | rfl
  · rw [goes_none (k := 4) (by decide +kernel) (by decide +kernel)] at hb
    subst hb
    refine ⟨fun v e => ?_, fun e => by cases (show some _ = none from e)⟩
    have e' := Option.some.inj e
    rw [← e']
    simp [kUp]
    omega
  · rw [goes_none (k := 3) (by decide +kernel) (by decide +kernel)] at hb
    subst hb
    refine ⟨fun v e => ?_, fun e => by cases (show some _ = none from e)⟩
    have e' := Option.some.inj e
    rw [← e']
    simp [kUp]
    omega
  · rw [goes_none (k := 1) (by decide +kernel) (by decide +kernel)] at hb
    subst hb
    refine ⟨fun v e => ?_, fun e => by cases (show some _ = none from e)⟩
    have e' := Option.some.inj e
    rw [← e']
    rcases sg with ⟨a, c⟩ | ⟨a, c⟩
    all_goals (simp [kUp] <;> omega)
  · rw [goes_none (k := 2) (by decide +kernel) (by decide +kernel)] at hb
    subst hb
    refine ⟨fun v e => ?_, fun e => by cases (show some _ = none from e)⟩
    have e' := Option.some.inj e
    rw [← e']
    rcases sg with ⟨a, c⟩ | ⟨a, c⟩
    all_goals (simp [kUp] <;> omega)
  · rw [goes_some (y := "ceiling") (k := 3) (by decide +kernel) (by decide +kernel)] at hb
    refine ⟨fun v e => (by cases (show none = some v from e)), fun _ => ⟨fun hn => ?_, fun he => ?_⟩⟩
    · by_cases g : 2 * r - d = 0
      · exact absurd (show 2 * (if b = true then d - r else r) = d by cases b <;> simp <;> omega) hn
      · rw [if_neg g] at hb
        subst hb
        by_cases g2 : 0 < 2 * r - d
        · rw [decide_eq_true g2, if_pos rfl]
          omega
        · rw [decide_eq_false g2, if_neg (by decide)]
          omega
    · have g : 2 * r - d = 0 := by cases b <;> simp at he <;> omega
      rw [if_pos g] at hb
      subst hb
      refine congrArg some (congrArg V.bl ?_)
      simp only [kUp]
      rcases sg with ⟨a, c⟩ | ⟨a, c⟩
      all_goals (simp <;> (repeat split) <;> omega)
  · rw [goes_some (y := "floor") (k := 4) (by decide +kernel) (by decide +kernel)] at hb
    refine ⟨fun v e => (by cases (show none = some v from e)), fun _ => ⟨fun hn => ?_, fun he => ?_⟩⟩
    · by_cases g : 2 * r - d = 0
      · exact absurd (show 2 * (if b = true then d - r else r) = d by cases b <;> simp <;> omega) hn
      · rw [if_neg g] at hb
        subst hb
        by_cases g2 : 0 < 2 * r - d
        · rw [decide_eq_true g2, if_pos rfl]
          omega
        · rw [decide_eq_false g2, if_neg (by decide)]
          omega
    · have g : 2 * r - d = 0 := by cases b <;> simp at he <;> omega
      rw [if_pos g] at hb
      subst hb
      refine congrArg some (congrArg V.bl ?_)
      simp only [kUp]
      rcases sg with ⟨a, c⟩ | ⟨a, c⟩
      all_goals (simp <;> (repeat split) <;> omega)
  · rw [goes_some (y := "even") (k := 0) (by decide +kernel) (by decide +kernel)] at hb
    refine ⟨fun v e => (by cases (show none = some v from e)), fun _ => ⟨fun hn => ?_, fun he => ?_⟩⟩
    · by_cases g : 2 * r - d = 0
      · exact absurd (show 2 * (if b = true then d - r else r) = d by cases b <;> simp <;> omega) hn
      · rw [if_neg g] at hb
        subst hb
        by_cases g2 : 0 < 2 * r - d
        · rw [decide_eq_true g2, if_pos rfl]
          omega
        · rw [decide_eq_false g2, if_neg (by decide)]
          omega
    · have g : 2 * r - d = 0 := by cases b <;> simp at he <;> omega
      rw [if_pos g] at hb
      subst hb
      refine congrArg some (congrArg V.bl ?_)
      simp only [kUp]
      rcases sg with ⟨a, c⟩ | ⟨a, c⟩
      all_goals (simp <;> (repeat split) <;> omega)
  · rw [goes_some (y := "away") (k := 2) (by decide +kernel) (by decide +kernel)] at hb
    refine ⟨fun v e => (by cases (show none = some v from e)), fun _ => ⟨fun hn => ?_, fun he => ?_⟩⟩
    · by_cases g : 2 * r - d = 0
      · exact absurd (show 2 * (if b = true then d - r else r) = d by cases b <;> simp <;> omega) hn
      · rw [if_neg g] at hb
        subst hb
        by_cases g2 : 0 < 2 * r - d
        · rw [decide_eq_true g2, if_pos rfl]
          omega
        · rw [decide_eq_false g2, if_neg (by decide)]
          omega
    · have g : 2 * r - d = 0 := by cases b <;> simp at he <;> omega
      rw [if_pos g] at hb
      subst hb
      refine congrArg some (congrArg V.bl ?_)
      simp only [kUp]
      rcases sg with ⟨a, c⟩ | ⟨a, c⟩
      all_goals (simp <;> (repeat split) <;> omega)
  · rw [goes_some (y := "cut") (k := 1) (by decide +kernel) (by decide +kernel)] at hb
    refine ⟨fun v e => (by cases (show none = some v from e)), fun _ => ⟨fun hn => ?_, fun he => ?_⟩⟩
    · by_cases g : 2 * r - d = 0
      · exact absurd (show 2 * (if b = true then d - r else r) = d by cases b <;> simp <;> omega) hn
      · rw [if_neg g] at hb
        subst hb
        by_cases g2 : 0 < 2 * r - d
        · rw [decide_eq_true g2, if_pos rfl]
          omega
        · rw [decide_eq_false g2, if_neg (by decide)]
          omega
    · have g : 2 * r - d = 0 := by cases b <;> simp at he <;> omega
      rw [if_pos g] at hb
      subst hb
      refine congrArg some (congrArg V.bl ?_)
      simp only [kUp]
      rcases sg with ⟨a, c⟩ | ⟨a, c⟩
      all_goals (simp <;> (repeat split) <;> omega)
end Own

/-! own layer, of no law: a number told as what is ahead of the point and the digits behind it -/
namespace Own
open PySem PySem.Spec PyProof.Rows L2 LamX NdefX
/-- ahead of the point -/
def wFl (u : Int) (s : Nat) : Int := if s = 0 then u else u / (10 : Int) ^ s
/-- the digits behind it -/
def wMo (u : Int) (s : Nat) : Str := if s = 0 then "" else Txt.zfill (Str.ofString (toString (u % (10 : Int) ^ s))) (s : Int)
def wRow (u : Int) (s : Nat) : List (Str × V) := [("units", .int u), ("scale", .int s), ("floor", .int (wFl u s)), ("more", .str (wMo u s))]
theorem wNe : (("scale" : Str) == "units") = false ∧ (("floor" : Str) == "units") = false ∧ (("floor" : Str) == "scale") = false ∧ (("more" : Str) == "units") = false ∧ (("more" : Str) == "scale") = false ∧ (("more" : Str) == "floor") = false := by decide +kernel
theorem wLk_u (u : Int) (s : Nat) : (wRow u s).lookup ("units" : Str) = some (.int u) := by simp [wRow, List.lookup]
theorem wLk_s (u : Int) (s : Nat) : (wRow u s).lookup ("scale" : Str) = some (.int s) := by simp [wRow, List.lookup, wNe]
theorem wLk_f (u : Int) (s : Nat) : (wRow u s).lookup ("floor" : Str) = some (.int (wFl u s)) := by simp [wRow, List.lookup, wNe]
theorem wLk_m (u : Int) (s : Nat) : (wRow u s).lookup ("more" : Str) = some (.str (wMo u s)) := by simp [wRow, List.lookup, wNe]
theorem wLk_no {m : Str} (u : Int) (s : Nat) (h1 : (m == "units") = false) (h2 : (m == "scale") = false) (h3 : (m == "floor") = false := by decide +kernel) (h4 : (m == "more") = false := by decide +kernel) : (wRow u s).lookup m = none := by simp [wRow, List.lookup, h1, h2, h3, h4]
theorem put4 (a b c d : V) : putF "more" d (putF "floor" c (putF "scale" b (putF "units" a []))) = ([("units", a), ("scale", b), ("floor", c), ("more", d)] : List (Str × V)) := by
  have e1 : ¬ (("units" : Str) = "scale") := by decide +kernel
  have e2 : ¬ (("units" : Str) = "floor") := by decide +kernel
  have e3 : ¬ (("units" : Str) = "more") := by decide +kernel
  have e4 : ¬ (("scale" : Str) = "floor") := by decide +kernel
  have e5 : ¬ (("scale" : Str) = "more") := by decide +kernel
  have e6 : ¬ (("floor" : Str) = "more") := by decide +kernel
  simp [putF, e1, e2, e3, e4, e5, e6]
/-! ### the digits -/
theorem numL_cons (n : Nat) : ∃ c l, TL.numL n = c :: l ∧ 48 ≤ c ∧ c ≤ 57 := by
  cases h : TL.numL n with
  | nil => exact absurd h (TL.numL_ne n)
  | cons c l =>
    have z := TL.numL_digits n c (by rw [h]; exact List.mem_cons_self ..)
    exact ⟨c, l, rfl, z.1, z.2⟩
theorem zf_list (n s : Nat) : (Txt.zfill (Str.ofString (toString (n : Int))) (s : Int)).cps.toList = List.replicate (s - (TL.numL n).length) 48 ++ TL.numL n := by
  have e : (Str.ofString (toString (n : Int))).cps.toList = TL.numL n := TL.tl_num n
  have l : (Str.ofString (toString (n : Int))).length = (TL.numL n).length := by rw [TL.len_tl]; exact congrArg List.length e
  generalize Str.ofString (toString (n : Int)) = x at e l
  unfold Txt.zfill
  by_cases h : (s : Int) ≤ (x.length : Int)
  · rw [if_pos h, e, show s - (TL.numL n).length = 0 by omega]
    rfl
  · rw [if_neg h]
    obtain ⟨c, r, ec, h1, h2⟩ := numL_cons n
    have hd : x.cps[0]? = some c := by
      rw [← Array.getElem?_toList, e, ec]
      rfl
    unfold zfilled
    rw [hd]
    split
    · rename_i z
      have := Option.some.inj z
      omega
    · rename_i z
      have := Option.some.inj z
      omega
    · rw [PyProof.Rows.padded_list, e, l]
      simp
theorem val_zeros : ∀ (k : Nat) (l : List Nat), NumText.digitsVal (List.replicate k 48 ++ l) = NumText.digitsVal l
  | 0, l => rfl
  | k + 1, l => by
    show NumText.digitsVal (48 :: (List.replicate k 48 ++ l)) = _
    exact val_zeros k l
theorem ten_nc (s : Nat) : ((10 : Int) ^ s) = ((10 ^ s : Nat) : Int) := by simp
theorem wMod (u : Int) (s : Nat) : ∃ n : Nat, u % (10 : Int) ^ s = (n : Int) ∧ n < 10 ^ s := by
  have p : 0 < 10 ^ s := Nat.pow_pos (by decide)
  rw [ten_nc]
  have a := Int.emod_nonneg u (show ((10 ^ s : Nat) : Int) ≠ 0 by omega)
  have b := Int.emod_lt_of_pos u (show (0 : Int) < ((10 ^ s : Nat) : Int) by omega)
  exact ⟨(u % ((10 ^ s : Nat) : Int)).toNat, by omega, by omega⟩
theorem wMo_list {u : Int} {s n : Nat} (h : s ≠ 0) (e : u % (10 : Int) ^ s = (n : Int)) : (wMo u s).cps.toList = List.replicate (s - (TL.numL n).length) 48 ++ TL.numL n := by
  unfold wMo
  rw [if_neg h, e]
  exact zf_list n s
theorem wMo_zero (u : Int) : (wMo u 0).cps.toList = [] := by
  have e : wMo u 0 = "" := by
    unfold wMo
    rw [if_pos rfl]
  rw [e]
  rfl
theorem wMo_len (u : Int) (s : Nat) : (wMo u s).cps.toList.length = s := by
  by_cases h : s = 0
  · subst h
    rw [wMo_zero]
    rfl
  · obtain ⟨n, e, l⟩ := wMod u s
    rw [wMo_list h e, List.length_append, List.length_replicate]
    have := TL.numL_len (Nat.pos_of_ne_zero h) l
    omega
theorem w_inj {u u2 : Int} {s s2 : Nat} (h1 : wFl u s = wFl u2 s2) (h2 : wMo u s = wMo u2 s2) : u = u2 ∧ s = s2 := by
  have e : s = s2 := by
    have a := wMo_len u s
    have b := wMo_len u2 s2
    rw [h2] at a
    omega
  subst e
  refine ⟨?_, rfl⟩
  by_cases h : s = 0
  · subst h
    exact h1
  · obtain ⟨n, e, l⟩ := wMod u s
    obtain ⟨n2, e2, l2⟩ := wMod u2 s
    have a := wMo_list h e
    have b := wMo_list h e2
    rw [h2, b] at a
    have v := congrArg NumText.digitsVal a
    rw [val_zeros, val_zeros, TL.numL_val, TL.numL_val] at v
    unfold wFl at h1
    rw [if_neg h, if_neg h] at h1
    have d1 := Int.mul_ediv_add_emod u ((10 : Int) ^ s)
    have d2 := Int.mul_ediv_add_emod u2 ((10 : Int) ^ s)
    rw [← d1, ← d2, h1, e, e2, v]
theorem w_ok (u : Int) (s : Nat) : PyData.strOk (wMo u s) = true := by
  have all : ∀ c ∈ (wMo u s).cps.toList, c < 0x110000 := fun c hc => by
    by_cases h : s = 0
    · subst h
      rw [wMo_zero] at hc
      cases hc
    · obtain ⟨n, e, l⟩ := wMod u s
      rw [wMo_list h e] at hc
      rcases List.mem_append.mp hc with z | z
      · rw [(List.mem_replicate.mp z).2]
        decide
      · have := TL.numL_digits n c z
        omega
  unfold PyData.strOk
  rw [Array.all_eq_true_iff_forall_mem]
  intro c hc
  exact decide_eq_true (all c (Array.mem_toList_iff.mpr hc))
/-- the two halves as data -/
theorem w_dp {K : PySem.W.Frag} {H : Hp} {a : Addr} {i : Int} {t : Str} (e : H a = some (.tup [.int i, .str t])) : Dp K H (.ref a) (.tuple [.int i, .str t]) := .tup (SqT.of e) (.cons (.int i) (.cons (.str t) .nil))
theorem w_sh (u : Int) (s : Nat) : SeqAt.shaped (.tuple [.int (wFl u s), .str (wMo u s)]) = true := by
  unfold SeqAt.shaped
  simp [PyData.canLay0, PyData.canLayAll0, PyData.depth, PyData.depthAll, w_ok]
theorem w_eqv (u u2 : Int) (s s2 : Nat) : PyData.eqv (.tuple [.int (wFl u s), .str (wMo u s)]) (.tuple [.int (wFl u2 s2), .str (wMo u2 s2)]) = (decide (u = u2) && decide (s = s2)) := by
  simp only [PyData.eqv, PyData.eqvAll, Bool.and_true]
  by_cases h : u = u2 ∧ s = s2
  · obtain ⟨rfl, rfl⟩ := h
    simp
  · have r : (decide (u = u2) && decide (s = s2)) = false := by
      rw [← Bool.decide_and]
      exact decide_eq_false h
    rw [r]
    have n : ¬ (wFl u s = wFl u2 s2 ∧ wMo u s = wMo u2 s2) := fun z => h (w_inj z.1 z.2)
    by_cases h1 : wFl u s = wFl u2 s2
    · have h2 : wMo u s ≠ wMo u2 s2 := fun z => n ⟨h1, z⟩
      rw [beq_false_of_ne h2, Bool.and_false]
    · rw [beq_false_of_ne h1, Bool.false_and]
/-- a list of statements that is never come to -/
theorem pss_dead {X : Cx} {ss : List Stmt} : PSs X ss (fun _ _ _ => False) := ⟨fun _ _ _ _ _ _ h => h.elim⟩
theorem dm_wide {n d : Int} (h0 : 0 < d) (h : d.natAbs < 2 ^ 9000) : CDivP n d := by
  refine ⟨h0, ?_⟩
  have a := log2_lt h (by decide)
  unfold Builtin.divisionGoesByPylong
  have e : ¬ (d == 0) = true := by simp; omega
  have z : ¬ (d.natAbs.log2 / 30 + 1 > 300) := by omega
  simp only [e, Bool.false_eq_true, if_false]
  rw [decide_eq_false z]
  rfl
end Own

/-! k08: the pen's defs (made from k06's by genpen.py). -/
namespace K08
open PySem PySem.Spec PyProof.Rows L2 LamX NdefX Own
def topS (i : Nat) : Stmt := PySem.Challenge.pw_figurestay_k08_whole_shown_as.main.body.getD i (.Pass ⟨0, 0, 0, 0⟩)
abbrev sBegin : Stmt := topS 28
abbrev sDraw : Stmt := topS 29
abbrev sPick : Stmt := topS 30
abbrev sTen : Stmt := topS 31
abbrev sFigs : Stmt := topS 32
abbrev sWrong : Stmt := topS 36
abbrev sSame : Stmt := topS 37
abbrev sRefd : Stmt := topS 38
section
variable {P : Program} {w : World} {K : PySem.W.Frag} {mg : Str → Option Value} {base : Heap} {C : Addr}
theorem scBegin : FnScope ["_law_script"] ["_law_script"] (defScope sBegin) := ⟨rfl, rfl, rfl, by decide +kernel, rfl, by decide +kernel, by decide +kernel⟩
theorem scDraw : FnScope ["_law_pen", "_law_span", "_law_digit", "_law_count", "_law_cell", "_law_first", "_law_blend"] ["_law_pen", "_law_span"] (defScope sDraw) := ⟨rfl, rfl, rfl, by decide +kernel, rfl, by decide +kernel, by decide +kernel⟩
/-- draw(pen, n): an int from 0 to n - 1; the pen has begun one draw more -/
def spDraw : Sp := fun vs H Q _ => ∃ (d : Addr) (n B : Int), vs = [.ref d, .int n] ∧ Pen H d B ∧ B ≤ 1000000000 ∧ 0 < n ∧ n ≤ 1000000 ∧
  ∀ (v : Int) (H' : Hp), 0 ≤ v → v < n → Keep d H H' → Pen H' d (B + 1) → Q (.int v) H'
end
theorem neD_nil {xs : List Int} : PyData.eqv (.list (xs.map PyData.int)) (.list []) = decide (xs = []) := by
  cases xs with
  | nil => rfl
  | cons a r => rfl
theorem dp_ints {K : PySem.W.Frag} {H : Hp} : ∀ ns : List Int, DpAll K H (ns.map V.int) (ns.map PyData.int)
  | [] => .nil
  | a :: r => .cons (.int a) (dp_ints r)
theorem lay_ints : ∀ ns : List Int, PyData.canLayAll0 (ns.map PyData.int) = true
  | [] => by simp only [List.map_nil, PyData.canLayAll0]
  | a :: r => by simp only [List.map_cons, PyData.canLayAll0, PyData.canLay0, lay_ints r, Bool.and_self]
theorem dep_ints : ∀ ns : List Int, PyData.depthAll (ns.map PyData.int) ≤ 1
  | [] => by simp [PyData.depthAll]
  | a :: r => by
    have z := dep_ints r
    simp only [List.map_cons, PyData.depthAll, PyData.depth]
    omega
theorem sh_ints (ns : List Int) : SeqAt.shaped (.list (ns.map PyData.int)) = true := by
  have a := lay_ints ns
  have b := dep_ints ns
  have z : (PyData.list (ns.map PyData.int)).depth ≤ 64 := by
    simp only [PyData.depth]
    omega
  unfold SeqAt.shaped
  rw [Bool.and_eq_true]
  exact ⟨by simpa [PyData.canLay0] using a, decide_eq_true z⟩
theorem get_left {H : Hp} {d p : Addr} {c l : Int} (h : H d = some (.dK (penK p c l))) : DGet H d (V.str "left") (some (.int l)) := by
  have z := DGet.k (k := (Sum.inr "left" : Key)) h
  rw [pen_left] at z
  exact z
theorem get_count {H : Hp} {d p : Addr} {c l : Int} (h : H d = some (.dK (penK p c l))) : DGet H d (V.str "count") (some (.int c)) := by
  have z := DGet.k (k := (Sum.inr "count" : Key)) h
  rw [pen_count] at z
  exact z
theorem get_cells {H : Hp} {d p : Addr} {c l : Int} (h : H d = some (.dK (penK p c l))) : DGet H d (V.str "cells") (some (.ref p)) := by
  have z := DGet.k (k := (Sum.inr "cells" : Key)) h
  rw [pen_cells] at z
  exact z
theorem put_at_left {H : Hp} {d p : Addr} {c l l' : Int} (h : H d = some (.dK (penK p c l))) : DPut H d (V.str "left") (.int l') (upd H d (.dK (penK p c l'))) := by
  have z := DPut.k (k := (Sum.inr "left" : Key)) (v := .int l') h (by show 3 < sizeLine; decide)
  rw [put_left] at z
  exact z
theorem put_at_count {H : Hp} {d p : Addr} {c l c' : Int} (h : H d = some (.dK (penK p c l))) : DPut H d (V.str "count") (.int c') (upd H d (.dK (penK p c' l))) := by
  have z := DPut.k (k := (Sum.inr "count" : Key)) (v := .int c') h (by show 3 < sizeLine; decide)
  rw [put_count] at z
  exact z
section
variable {P : Program} {w : World} {K : PySem.W.Frag} {mg : Str → Option Value} {base : Heap}
theorem ok_draw {f : Addr} {fd : FuncData} (F : Fun K "_law_draw" "_law_draw" sDraw f fd) (mi : mg "int" = none) (ml : mg "len" = none) : FnOk P w K mg base CX0 1 f fd ["_law_pen", "_law_span"] spDraw := by
  refine F.ok scDraw (fun vs H Q E h => ?_) (fun cdv A outer s H vs Q E hr h => ?_)
  · obtain ⟨d, n, B, rfl, _⟩ := h
    rfl
  · obtain ⟨d, n, B, rfl, hp, hB, h0, h1, q⟩ := h
    have hu := hu_of hr
    have nd := scDraw.nd
    refine ⟨_, pss_cons (ps_if (pt_cmpR op_ge (pe_dget hu (pv 0) pe_str (fun _ _ => rfl)) (pv 1) (nomark _))
        (pss_cons (ps_set (i := 2) nd rfl (.inl rfl) (pe_op op_mod (pe_callTy call_int1 (by rfl) mi (by decide +kernel) (pa_cons (pe_dget hu (pv 0) pe_str (fun _ _ => rfl)) pa_nil)) (pv 1)))
        (pss_cons (ps_dput hu (pv 0) pe_str (pe_op op_fdiv (pe_dget hu (pv 0) pe_str (fun _ _ => rfl)) (pv 1)) rfl)
        (pss_one (ps_ret (pv 2))))) pss_nil)
      (pss_cons (ps_set (i := 3) nd rfl (.inl rfl) (pe_dget hu (pv 0) pe_str (fun _ _ => rfl)))
      (pss_cons (ps_dput hu (pv 0) pe_str (pe_op op_add (pv 3) pe_int) rfl)
      (pss_cons (ps_set (i := 4) nd rfl (.inl rfl) (pe_op op_add (pe_op op_mul pe_int (pv 3)) pe_int))
      (C8.pss_cut (ps_if (pt_cmpR (op_neD hr.units) (pe_dget hu (pv 0) pe_str (fun _ _ => rfl)) (pe_lst pa_nil) (nomark _))
        (pss_one (ps_set (i := 4) nd rfl (.inl rfl) (pe_ix ix_list (pe_dget hu (pv 0) pe_str (fun _ _ => rfl)) (pe_op op_mod (pe_callTy call_int1 (by rfl) mi (by decide +kernel) (pa_cons (pv 3) pa_nil)) (pe_callB call_len_seq (by rfl) ml PySem.boot_len (pa_cons (pe_dget hu (pv 0) pe_str (fun _ _ => rfl)) pa_nil))) (fun _ _ => rfl)))) pss_nil)
      (C8.pss_cut (ps_if (PW.pt (pw_and (pt_cmpR op_lt (pv 3) (pe_callB call_len_seq (by rfl) ml PySem.boot_len (pa_cons (pe_dget hu (pv 0) pe_str (fun _ _ => rfl)) pa_nil)) (nomark _)) (pw_and1 (pt_cmpR op_ge (pv 4) (pe_op op_pow pe_int pe_int) (nomark _)))))
        (pss_cons (ps_dput hu (pv 0) pe_str (pe_op op_fdiv (pe_op op_sub (pv 4) (pe_op op_pow pe_int pe_int)) (pv 1)) rfl)
        (pss_one (ps_ret (pe_op op_mod (pe_callTy call_int1 (by rfl) mi (by decide +kernel) (pa_cons (pe_op op_sub (pv 4) (pe_op op_pow pe_int pe_int)) pa_nil)) (pv 1))))) pss_nil)
      (pss_cons (ps_set (i := 5) nd rfl (.inl rfl) (pe_op op_add (pe_op op_mul (pe_op op_mod (pe_callTy call_int1 (by rfl) mi (by decide +kernel) (pa_cons (pv 4) pa_nil)) pe_int) pe_int) (pe_op op_mul (pe_op op_mul pe_int (pv 3)) (pv 3))))
      (pss_cons (ps_set (i := 6) nd rfl (.inl rfl) (pe_op op_mod (pe_callTy call_int1 (by rfl) mi (by decide +kernel) (pa_cons (pe_op op_add (pe_op op_add (pv 5) (pe_op op_mul pe_int (pv 3))) pe_int) pa_nil)) pe_int))
      (pss_cons (ps_set (i := 6) nd rfl (.inl rfl) (pe_op op_mod (pe_callTy call_int1 (by rfl) mi (by decide +kernel) (pa_cons (pe_op op_mul (pv 6) (pe_op op_add (pv 6) pe_int)) pa_nil)) pe_int))
      (pss_one (ps_ret (pe_op op_mod (pe_callTy call_int1 (by rfl) mi (by decide +kernel) (pa_cons (pe_op op_fdiv (pe_op op_mod (pe_callTy call_int1 (by rfl) mi (by decide +kernel) (pa_cons (pe_op op_add (pe_op op_mul (pv 6) (pv 6)) (pe_op op_mul pe_int (pv 6))) pa_nil)) pe_int) pe_int) pa_nil)) (pv 1)))))))))))), ?_⟩
    obtain ⟨p, ns, c, l, hd, hps, hns, hc0, hcB⟩ := hp.ex
    have npd : p ≠ d := ne_of hps hd (by intro z; cases z)
    have n0 : n ≠ 0 := by omega
    have nB : n < 1073741824 := by omega
    have pn : ∀ {H' : Hp} {c' l' : Int}, H' p = some (.lst (ns.map V.int)) → H' d = some (.dK (penK p c' l')) → 0 ≤ c' → c' ≤ B + 1 → Pen H' d (B + 1) := fun {H' c' l'} a b e g => ⟨p, ns, c', l', b, a, hns, e, g⟩
    -- pen['left'] >= span
    refine ⟨_, rfl, d, .int l, rfl, get_left hd, _, rfl, l, n, rfl, rfl, _, rfl, ite2 (fun hln => ?_) (fun hln => ?_)⟩
    · refine ⟨_, rfl, d, .int l, rfl, get_left hd, .inl ⟨l, rfl, _, rfl, l, n, rfl, rfl, h0, ?_⟩⟩
      refine ⟨_, rfl, d, .int l, rfl, get_left hd, _, rfl, l, n, rfl, rfl, ⟨h0, nB⟩, _, rfl, d, _, rfl, put_at_left hd, ?_⟩
      refine ⟨_, rfl, ?_⟩
      exact q _ _ (Int.emod_nonneg _ n0) (Int.emod_lt_of_pos _ h0) Keep.at (pn (by rw [upd_ne npd]; exact hps) upd_same hc0 (by omega))
    · refine ⟨_, rfl, d, .int c, rfl, get_count hd, ?_⟩
      refine ⟨_, rfl, _, _, rfl, rfl, _, rfl, d, _, rfl, put_at_count hd, ?_⟩
      refine ⟨_, rfl, _, c, rfl, rfl, .inl ⟨by decide, by decide⟩, _, _, rfl, rfl, ?_⟩
      generalize eH1 : upd H d (.dK (penK p (c + 1) l)) = H1
      have hd1 : H1 d = some (.dK (penK p (c + 1) l)) := by rw [← eH1]; exact upd_same
      have hp1 : H1 p = some (.lst (ns.map V.int)) := by rw [← eH1, upd_ne npd]; exact hps
      have k1 : Keep d H H1 := by rw [← eH1]; exact Keep.at
      -- if pen['cells'] != []
      have hcl : ∀ {H2 : Hp}, H2 d = some (.dK (penK p (c + 1) l)) → H2 p = some (.lst (ns.map V.int)) → DGet H2 d (V.str "cells") (some (.ref p)) ∧ (SqL K H2 p (ns.map V.int) ∨ SqT K H2 p (ns.map V.int)) := fun {H2} a b => ⟨get_cells a, .inl (SqL.of b)⟩
      refine ⟨fun σ H2 => (∃ x : Int, σ = [some (.ref d), some (.int n), none, some (.int c), some (.int x), none, none]) ∧ H2 d = some (.dK (penK p (c + 1) l)) ∧ H2 p = some (.lst (ns.map V.int)) ∧ Keep d H H2, ?_, ?_⟩
      · refine ⟨_, rfl, d, .ref p, rfl, get_cells hd1, Nat.zero_le _, fun e ne => ?_⟩
        have he1 : ∀ {b o}, H1 b = some o → (upd H1 e (.lst [])) b = some o := fun {b o} z => by rw [upd_ne (ne_of_none z ne)]; exact z
        refine ⟨.list (ns.map PyData.int), .list [], .lst (SqL.of (he1 hp1)) (dp_ints _), .lst (SqL.of upd_same) .nil, sh_ints _, sh_ints [], _, rfl, ?_⟩
        rw [neD_nil]
        generalize eH2 : upd H1 e (.lst []) = H2
        have hd2 : H2 d = some (.dK (penK p (c + 1) l)) := by rw [← eH2]; exact he1 hd1
        have hp2 : H2 p = some (.lst (ns.map V.int)) := by rw [← eH2]; exact he1 hp1
        have k2 : Keep d H H2 := by rw [← eH2]; exact k1.trans (Keep.new ne)
        refine ite2 (fun hne => ?_) (fun hne => ?_)
        · have hn0 : 0 < ns.length := by
            cases ns with
            | nil => simp at hne
            | cons a r => exact Nat.zero_lt_succ _
          have hpos : (0 : Int) < ((ns.map V.int).length : Int) := by rw [List.length_map]; omega
          obtain ⟨j, hj⟩ : ∃ j : Nat, c % ((ns.map V.int).length : Int) = (j : Int) := ⟨(c % ((ns.map V.int).length : Int)).toNat, (Int.toNat_of_nonneg (Int.emod_nonneg _ (by omega))).symm⟩
          have hjl : j < ns.length := by
            have z := Int.emod_lt_of_pos c hpos
            rw [hj, List.length_map] at z
            omega
          refine ⟨_, rfl, d, .ref p, rfl, get_cells hd2, _, rfl, .inl ⟨c, rfl, _, rfl, d, .ref p, rfl, get_cells hd2, p, _, rfl, .inl (SqL.of hp2), _, _, rfl, rfl, hpos, p, _, _, .int (ns[j]'hjl), rfl, rfl, SqL.of hp2, at_of hj (by rw [List.getElem?_map, List.getElem?_eq_getElem hjl]; rfl), ?_⟩⟩
          exact ⟨⟨_, rfl⟩, hd2, hp2, k2⟩
        · exact ⟨⟨_, rfl⟩, hd2, hp2, k2⟩
      · rintro σ2 H2 ⟨⟨x, rfl⟩, hd2, hp2, k2⟩
        refine ⟨fun σ H3 => σ = [some (.ref d), some (.int n), none, some (.int c), some (.int x), none, none] ∧ H3 = H2, ?_, ?_⟩
        · refine ⟨_, rfl, _, rfl, d, .ref p, rfl, get_cells hd2, p, _, rfl, .inl (SqL.of hp2), _, _, rfl, rfl, _, rfl, ite2 (fun _ => ?_) (fun _ => ⟨rfl, rfl⟩)⟩
          refine ⟨_, rfl, _, _, rfl, rfl, ⟨by decide, by decide, by decide⟩, _, _, rfl, rfl, _, rfl, ite2 (fun _ => ?_) (fun _ => ⟨rfl, rfl⟩)⟩
          refine ⟨_, rfl, _, _, rfl, rfl, ⟨by decide, by decide, by decide⟩, _, _, rfl, rfl, _, rfl, _, _, rfl, rfl, ⟨h0, nB⟩, _, rfl, d, _, rfl, put_at_left hd2, ?_⟩
          refine ⟨_, rfl, _, _, rfl, rfl, ⟨by decide, by decide, by decide⟩, _, _, rfl, rfl, .inl ⟨_, rfl, _, rfl, _, _, rfl, rfl, h0, ?_⟩⟩
          exact q _ _ (Int.emod_nonneg _ n0) (Int.emod_lt_of_pos _ h0) (k2.trans Keep.at) (pn (by rw [upd_ne npd]; exact hp2) upd_same (by omega) (by omega))
        · rintro σ3 H3 ⟨rfl, rfl⟩
          have hc64 : -(2 ^ 64) < c ∧ c < 2 ^ 64 := ⟨by omega, by omega⟩
          refine ⟨_, rfl, .inl ⟨x, rfl, _, _, rfl, rfl, (show (0 : Int) < 2147482811 by decide), _, _, rfl, rfl, .inr ⟨by decide, by decide⟩, ?_⟩⟩
          refine ⟨_, rfl, _, c, rfl, rfl, .inl ⟨by decide, by decide⟩, _, rfl, _, c, rfl, rfl, .inr hc64, _, _, rfl, rfl, ?_⟩
          refine ⟨_, rfl, _, rfl, _, c, rfl, rfl, .inl ⟨by decide, by decide⟩, _, _, rfl, rfl, _, _, rfl, rfl, .inl ⟨_, rfl, _, _, rfl, rfl, (show (0 : Int) < 2147482873 by decide), ?_⟩⟩
          skip
          dsimp only
          generalize x % 2147482811 * 60013 + 35023 * c * c = y1
          have hy2 := Int.emod_lt_of_pos (y1 + 151 * c + 23) (show (0 : Int) < 2147482873 by decide)
          have hy20 := Int.emod_nonneg (y1 + 151 * c + 23) (show (2147482873 : Int) ≠ 0 by decide)
          generalize (y1 + 151 * c + 23) % 2147482873 = y2 at hy2 hy20
          refine ⟨_, rfl, _, rfl, y2, _, rfl, rfl, y2, _, rfl, rfl, .inl ⟨by omega, by omega⟩, .inl ⟨_, rfl, _, _, rfl, rfl, (show (0 : Int) < 2147482951 by decide), ?_⟩⟩
          skip
          dsimp only
          have hy3 := Int.emod_lt_of_pos (y2 * (y2 + 90007)) (show (0 : Int) < 2147482951 by decide)
          have hy30 := Int.emod_nonneg (y2 * (y2 + 90007)) (show (2147482951 : Int) ≠ 0 by decide)
          generalize (y2 * (y2 + 90007)) % 2147482951 = y3 at hy3 hy30
          refine ⟨_, rfl, _, rfl, y3, y3, rfl, rfl, .inl ⟨by omega, by omega⟩, _, rfl, _, y3, rfl, rfl, .inl ⟨by decide, by decide⟩, _, _, rfl, rfl, .inl ⟨_, rfl, _, _, rfl, rfl, (show (0 : Int) < 2147483033 by decide), _, _, rfl, rfl, ⟨(show (0 : Int) < 64 by decide), (show (64 : Int) < 1073741824 by decide)⟩, .inl ⟨_, rfl, _, rfl, _, n, rfl, rfl, h0, ?_⟩⟩⟩
          exact q _ _ (Int.emod_nonneg _ n0) (Int.emod_lt_of_pos _ h0) k2 (pn hp2 hd2 (by omega) (by omega))
end
section
variable {P : Program} {w : World} {K : PySem.W.Frag} {mg : Str → Option Value} {base : Heap} {C : Addr}
theorem ok_draw' (A : At K mg "_law_draw" sDraw ["_law_pen", "_law_span"]) (T : Blt mg) : DefOk P w K mg base CX0 "_law_draw" 1 ["_law_pen", "_law_span"] spDraw := A.ok fun f fd F => ok_draw F T.int T.len
def spBegin (K : PySem.W.Frag) : Sp := fun vs H Q _ => ∃ (a : Addr) (ns : List Int), vs = [.ref a] ∧ SqL K H a (ns.map V.int) ∧ ns.length ≤ 63 ∧ ∀ (d : Addr) (H' : Hp), H d = none → Same H H' → Pen H' d 0 → Q (.ref d) H'
theorem take63 (xs : List V) (h : xs.length ≤ 63) : cutV xs none (some 63) = xs := by
  unfold cutV
  rw [HT.sIx_none, show HT.sIx xs.length xs.length (some 63) = min 63 xs.length from HT.sIx_nat xs.length xs.length 63, List.drop_zero, Nat.min_eq_right h, Nat.sub_zero, List.take_length]
theorem ok_begin (A : At K mg "_law_begin" sBegin ["_law_script"]) (T : Blt mg) : DefOk P w K mg base CX0 "_law_begin" 1 ["_law_script"] (spBegin K) := by
  refine A.ok fun f fd F => F.ok scBegin (fun vs H Q E h => ?_) (fun cdv A outer s H vs Q E hr h => ?_)
  · obtain ⟨a, ns, rfl, _⟩ := h
    rfl
  · obtain ⟨a, ns, rfl, hS, hl, q⟩ := h
    refine ⟨_, pss_one (ps_ret (pe_disp (pps_cons pe_str (pe_callTy call_list_of (by rfl) T.list (by decide +kernel) (pa_cons (pe_slice sl_list (pv 0) po_none (po_some pe_int)) pa_nil))
      (pps_cons pe_str pe_int (pps_cons pe_str pe_int pps_nil))) (by rfl) (by rfl) (fun z => by cases z) (by decide))), ?_⟩
    intro d hd
    have s0 : Same H (upd H d (.dK [])) := same_new hd
    refine ⟨_, rfl, 63, rfl, a, _, rfl, s0.seq hS, fun c hc => ?_⟩
    rw [take63 _ (by rw [List.length_map]; exact hl)]
    have s1 : Same H (upd (upd H d (.dK [])) c (.lst (ns.map V.int))) := s0.trans (same_new hc)
    refine ⟨c, _, rfl, .inl (SqL.of upd_same), fun p hp => ?_⟩
    have s2 : Same (upd (upd H d (.dK [])) c (.lst (ns.map V.int))) (upd (upd (upd H d (.dK [])) c (.lst (ns.map V.int))) p (.lst (ns.map V.int))) := same_new hp
    have hdd : upd (upd (upd H d (.dK [])) c (.lst (ns.map V.int))) p (.lst (ns.map V.int)) d = some (.dK []) := s2 _ _ (same_new hc _ _ upd_same)
    have npd : p ≠ d := fun z => by
      rw [z] at hp
      have := same_new (o := .lst (ns.map V.int)) hc _ _ (upd_same (H := H) (a := d) (o := .dK []))
      rw [hp] at this
      cases this
    refine ⟨hdd, [(Sum.inr "cells", .ref p), (Sum.inr "count", .int 0), (Sum.inr "left", .int 0)], rfl, by show 3 ≤ 15; decide, ?_⟩
    have em : mergeK [] [(Sum.inr "cells", V.ref p), (Sum.inr "count", V.int 0), (Sum.inr "left", V.int 0)] = penK p 0 0 := by
      unfold mergeK
      rw [List.foldl_cons, putK_new _ valV_nil, List.foldl_cons, putK_new _ (by
        rw [List.nil_append, valV_neg (fun e => ne_txt.1 (Sum.inr.inj e)), valV_nil]), List.foldl_cons, putK_new _ (by
        show valV [_, _] _ = none
        rw [valV_neg (fun e => ne_txt.2.1 (Sum.inr.inj e)), valV_neg (fun e => ne_txt.2.2.1 (Sum.inr.inj e)), valV_nil])]
      rfl
    rw [em]
    refine q d _ hd (fun b o e => ?_) ⟨p, ns, 0, 0, upd_same, ?_, hl, by omega, by omega⟩
    · rw [upd_ne (ne_of_none e hd)]
      exact s2 _ _ (s1 _ _ e)
    · rw [upd_ne npd]
      exact upd_same
theorem scPick : FnScope ["_law_pen", "_law_some"] ["_law_pen", "_law_some"] (defScope sPick) := ⟨rfl, rfl, rfl, by decide +kernel, rfl, by decide +kernel, by decide +kernel⟩
def spPick : Sp := fun vs H Q _ => ∃ (d a : Addr) (xs : List V) (B : Int), vs = [.ref d, .ref a] ∧ H a = some (.lst xs) ∧ xs ≠ [] ∧ xs.length ≤ 1000 ∧ Pen H d B ∧ B ≤ 1000000000 ∧ ∀ (x : V) (H' : Hp), x ∈ xs → Keep d H H' → Pen H' d (B + 1) → Q x H'
theorem ok_pick (A : At K mg "_law_pick" sPick ["_law_pen", "_law_some"]) (T : Blt mg) (D : DefOk P w K mg base CX0 "_law_draw" 1 ["_law_pen", "_law_span"] spDraw) : DefOk P w K mg base CX0 "_law_pick" 2 ["_law_pen", "_law_some"] spPick := by
  refine A.ok fun f fd F => F.ok scPick (fun vs H Q E h => ?_) (fun cdv A outer s H vs Q E hr h => ?_)
  · obtain ⟨d, a, xs, B, rfl, _⟩ := h
    rfl
  · obtain ⟨d, a, xs, B, rfl, ha, hne, hl, hp, hB, q⟩ := h
    refine ⟨_, pss_one (ps_ret (pe_ix ix_list (pv 1) (pe_def D hr (by decide) (by rfl) pass0 (pa_cons (pv 0) (pa_cons (pe_callB call_len_seq (by rfl) T.len PySem.boot_len (pa_cons (pv 1) pa_nil)) pa_nil))) (fun _ _ => rfl))), ?_⟩
    have h0 : 0 < xs.length := List.length_pos_iff.mpr hne
    refine ⟨_, rfl, _, rfl, _, rfl, a, xs, rfl, .inl (SqL.of ha), d, (xs.length : Int), B, rfl, hp, hB, by omega, by omega, fun v H' h1 h2 kp hp' => ?_⟩
    have nad : a ≠ d := by
      obtain ⟨p, ns, c, l, e, _⟩ := hp.ex
      exact ne_of ha e (by intro z; cases z)
    obtain ⟨j, rfl⟩ : ∃ j : Nat, v = (j : Int) := ⟨v.toNat, (Int.toNat_of_nonneg h1).symm⟩
    have hj : j < xs.length := by omega
    exact ⟨a, xs, _, xs[j], rfl, rfl, SqL.of (kp _ _ nad ha), atI_nat (List.getElem?_eq_getElem hj), q _ _ (List.getElem_mem hj) kp hp'⟩
theorem scTen : FnScope ["_law_number"] ["_law_number"] (defScope sTen) := ⟨rfl, rfl, rfl, by decide +kernel, rfl, by decide +kernel, by decide +kernel⟩
def spTen : Sp := fun vs H Q _ => ∃ n : Nat, vs = [.int n] ∧ n ≤ 600 ∧ Q (.int ((10 : Int) ^ n)) H
theorem ok_ten (A : At K mg "_law_ten" sTen ["_law_number"]) (T : Blt mg) : DefOk P w K mg base CX0 "_law_ten" 1 ["_law_number"] spTen := by
  refine A.ok fun f fd F => F.ok scTen (fun vs H Q E h => ?_) (fun cdv A outer s H vs Q E hr h => ?_)
  · obtain ⟨n, rfl, _⟩ := h
    rfl
  · obtain ⟨n, rfl, hn, q⟩ := h
    refine ⟨_, pss_one (ps_ret (pe_callTy call_int_str (by rfl) T.int (by decide +kernel) (pa_cons (pe_op op_add_str pe_str (pe_op op_mulS pe_str (pv 0))) pa_nil))), ?_⟩
    have hl : ("1" : Str).length + (Txt.mul "0" (n : Int)).length ≤ sizeLine := by
      have a : ("1" : Str).length = 1 := by decide +kernel
      have b : (Txt.mul "0" (n : Int)).length = n := by rw [str_len, zeros, List.length_replicate]
      have c := sizeLine_eq
      omega
    exact ⟨_, rfl, _, _, rfl, rfl, mulOk0 hn, _, _, rfl, rfl, hl, tenS n, _, rfl, ten_text hn, by rw [tenS_len]; omega, q⟩
end
section
variable {P : Program} {w : World} {K : PySem.W.Frag} {mg : Str → Option Value} {base : Heap} {C : Addr}
theorem scFigs : FnScope ["_law_pen", "_law_most", "_law_many", "_law_manner", "_law_number", "_law_k", "_law_tail", "_law_head"] ["_law_pen", "_law_most"] (defScope sFigs) := ⟨rfl, rfl, rfl, by decide +kernel, rfl, by decide +kernel, by decide +kernel⟩
def spFigs : Sp := fun vs H Q _ => ∃ (d : Addr) (M : Nat) (B : Int), vs = [.ref d, .int M] ∧ 1 ≤ M ∧ M ≤ 600 ∧ Pen H d B ∧ B ≤ 900000000 ∧ ∀ (v : Int) (H' : Hp), 0 ≤ v → v ≤ 3 * (10 : Int) ^ M → Keep d H H' → Pen H' d (B + 200) → Q (.int v) H'
theorem ok_figs (A : At K mg "_law_figures" sFigs ["_law_pen", "_law_most"]) (T : Blt mg) (D : DefOk P w K mg base CX0 "_law_draw" 1 ["_law_pen", "_law_span"] spDraw) (D2 : DefOk P w K mg base CX0 "_law_ten" 1 ["_law_number"] spTen) :
    DefOk P w K mg base CX0 "_law_figures" 2 ["_law_pen", "_law_most"] spFigs := by
  refine A.ok fun f fd F => F.ok scFigs (fun vs H Q E h => ?_) (fun cdv A outer s H vs Q E hr h => ?_)
  · obtain ⟨d, M, B, rfl, _⟩ := h
    rfl
  · obtain ⟨d, M, B, rfl, hM1, hM2, hp, hB, q⟩ := h
    have nd := scFigs.nd
    refine ⟨_, pss_cons (ps_par (i := 2) (j := 3) (by rfl) nd rfl rfl (by decide) rfl rfl (pa_cons (pe_op op_add pe_int (pe_def D hr (by decide) (by rfl) pass0 (pa_cons (pv 0) (pa_cons (pv 1) pa_nil)))) (pa_cons (pe_def D hr (by decide) (by rfl) pass0 (pa_cons (pv 0) (pa_cons pe_int pa_nil))) pa_nil)) (by rfl))
      (pss_cons (ps_if (pt_cmpR op_eq (pv 3) pe_int (nomark _)) (pss_one (ps_ret (pe_def D hr (by decide) (by rfl) pass0 (pa_cons (pv 0) (pa_cons pe_int pa_nil))))) pss_nil)
      (pss_cons (ps_if (pt_cmpR op_eq (pv 3) pe_int (nomark _)) (pss_one (ps_ret (pe_op op_sub (pe_def D2 hr (by decide) (by rfl) pass0 (pa_cons (pv 2) pa_nil)) pe_int))) pss_nil)
      (pss_cons (ps_if (pt_cmpR op_eq (pv 3) pe_int (nomark _)) (pss_one (ps_ret (pe_def D2 hr (by decide) (by rfl) pass0 (pa_cons (pe_op op_sub (pv 2) pe_int) pa_nil)))) pss_nil)
      (pss_cons (ps_set (i := 4) nd rfl (.inl rfl) pe_int)
      (pss_cons (ps_for PassesOwn.never rfl (pi_range1 (by rfl) T.range (pa_cons (pe_op op_add (pe_op op_fdiv (pv 2) pe_int) pe_int) pa_nil)) (pg_name (i := 5) nd rfl (.inl rfl))
        (pss_one (ps_set (i := 4) nd rfl (.inl rfl) (pe_op op_add (pe_op op_mul (pe_op op_pow pe_int pe_int) (pv 4)) (pe_def D hr (by decide) (by rfl) pass0 (pa_cons (pv 0) (pa_cons (pe_op op_pow pe_int pe_int) pa_nil)))))))
      (pss_cons (ps_set (i := 4) nd rfl (.inl rfl) (pe_op op_mod (pe_callTy call_int1 (by rfl) T.int (by decide +kernel) (pa_cons (pv 4) pa_nil)) (pe_def D2 hr (by decide) (by rfl) pass0 (pa_cons (pv 2) pa_nil))))
      (pss_cons (ps_set (i := 6) nd rfl (.inl rfl) (pe_op op_add pe_int (pe_def D hr (by decide) (by rfl) pass0 (pa_cons (pv 0) (pa_cons (pv 2) pa_nil)))))
      (pss_cons (ps_set (i := 7) nd rfl (.inl rfl) (pe_op op_mulW (pe_op op_fdivW (pv 4) (pe_def D2 hr (by decide) (by rfl) pass0 (pa_cons (pv 6) pa_nil))) (pe_def D2 hr (by decide) (by rfl) pass0 (pa_cons (pv 6) pa_nil))))
      (pss_cons (ps_if (pt_cmpR op_eq (pv 3) pe_int (nomark _)) (pss_one (ps_ret (pv 7))) pss_nil)
      (pss_cons (ps_if (pt_cmpR op_eq (pv 3) pe_int (nomark _)) (pss_one (ps_ret (pe_op op_sub (pe_op op_add (pe_op op_add (pv 7) (pe_op op_mul pe_int (pe_def D2 hr (by decide) (by rfl) pass0 (pa_cons (pe_op op_sub (pv 6) pe_int) pa_nil))))
          (pe_def D hr (by decide) (by rfl) pass0 (pa_cons (pv 0) (pa_cons pe_int pa_nil)))) pe_int))) pss_nil)
      (pss_one (ps_ret (pv 4))))))))))))), ?_⟩
    -- many, manner
    refine ⟨_, rfl, _, rfl, d, (M : Int), B, rfl, hp, by omega, by omega, by omega, fun m0 H1 a1 a2 k1 p1 => ?_⟩
    obtain ⟨m1, rfl⟩ : ∃ m1 : Nat, m0 = (m1 : Int) := ⟨m0.toNat, (Int.toNat_of_nonneg a1).symm⟩
    refine ⟨_, _, rfl, rfl, _, rfl, d, 7, B + 1, rfl, p1, by omega, by decide, by decide, fun manner H2 b1 b2 k2 p2 => ?_⟩
    have eM : (1 : Int) + (m1 : Int) = ((m1 + 1 : Nat) : Int) := by omega
    refine ⟨_, _, rfl, ?_⟩
    dsimp only
    rw [eM]
    generalize hm : m1 + 1 = m
    have hm1 : 1 ≤ m := by omega
    have hmM : m ≤ M := by omega
    have tm : (10 : Int) ^ m ≤ (10 : Int) ^ M := ten_mono hmM
    have t0 := ten_pos m
    have t1 : (10 : Int) ≤ (10 : Int) ^ M := by
      have := ten_mono hM1
      simpa using this
    have kk := k1.trans k2
    refine ⟨_, rfl, rfl, _, rfl, ite2 (fun e => ?_) (fun e => ?_)⟩
    · refine ⟨_, rfl, d, 10, B + 1 + 1, rfl, p2, by omega, by decide, by decide, fun v H3 c1 c2 k3 p3 => ?_⟩
      exact q v H3 c1 (by omega) (kk.trans k3) (p3.mono (by omega))
    refine ⟨_, rfl, rfl, _, rfl, ite2 (fun e => ?_) (fun e => ?_)⟩
    · refine ⟨_, rfl, m, rfl, by omega, _, _, rfl, rfl, ?_⟩
      exact q _ H2 (by omega) (by omega) kk (p2.mono (by omega))
    refine ⟨_, rfl, rfl, _, rfl, ite2 (fun e => ?_) (fun e => ?_)⟩
    · refine ⟨_, rfl, _, _, rfl, rfl, m - 1, by simp; omega, by omega, ?_⟩
      have := ten_pos (m - 1)
      have z : (10 : Int) ^ (m - 1) ≤ (10 : Int) ^ M := ten_mono (by omega)
      exact q _ H2 (by omega) (by omega) kk (p2.mono (by omega))
    -- the loop
    have hn : ((m : Int) / 6 + 1).toNat ≤ 101 := by omega
    refine ⟨_, rfl, _, _, rfl, rfl, ⟨by decide, by decide⟩, _, _, rfl, rfl, _, rfl, by omega, by omega, for_range (lo := 0) (n := ((m : Int) / 6 + 1).toNat)
      (fun i σ H' => ∃ (v : Int) (y : Option V), σ = [some (.ref d), some (.int M), some (.int m), some (.int manner), some (.int v), y, none, none] ∧ Keep d H H' ∧ Pen H' d (B + 2 + i)) ⟨0, none, rfl, kk, p2.mono (by omega)⟩ ?_ ?_⟩
    · rintro i σ H3 hi ⟨v, y, rfl, k3, p3⟩
      refine ⟨_, _, rfl, rfl, ⟨by decide, by decide, by decide⟩, _, rfl, _, v, rfl, rfl, .inl ⟨by decide, by decide⟩, _, rfl, _, _, rfl, rfl, ⟨by decide, by decide, by decide⟩, d, _, B + 2 + i, rfl, p3, by omega, by decide, by decide, fun x H4 c1 c2 k4 p4 => ?_⟩
      exact ⟨_, _, rfl, rfl, _, _, rfl, k3.trans k4, p4.mono (by omega)⟩
    · rintro σ H3 ⟨v, y, rfl, k3, p3⟩
      have p3 : Pen H3 d (B + 110) := p3.mono (by omega)
      refine ⟨_, rfl, .inl ⟨v, rfl, _, rfl, m, rfl, by omega, _, _, rfl, rfl, t0, ?_⟩⟩
      have n0 := Int.emod_nonneg v (show (10 : Int) ^ m ≠ 0 by omega)
      have n1 := Int.emod_lt_of_pos v t0
      dsimp only [gName, List.set]
      generalize v % (10 : Int) ^ m = n at n0 n1
      refine ⟨_, rfl, _, rfl, d, (m : Int), _, rfl, p3, by omega, by omega, by omega, fun u H4 c1 c2 k4 p4 => ?_⟩
      obtain ⟨u1, rfl⟩ : ∃ u1 : Nat, u = (u1 : Int) := ⟨u.toNat, (Int.toNat_of_nonneg c1).symm⟩
      have eT : (1 : Int) + (u1 : Int) = ((u1 + 1 : Nat) : Int) := by omega
      refine ⟨_, _, rfl, rfl, ?_⟩
      dsimp only [gName, List.set]
      rw [eT]
      generalize ht : u1 + 1 = t
      have ht1 : 1 ≤ t := by omega
      have htm : t ≤ m := by omega
      have tt := ten_pos t
      have tb := ten_lt t
      have hd0 : 0 ≤ n / (10 : Int) ^ t := Int.ediv_nonneg n0 (Int.le_of_lt tt)
      have hd1 : n / (10 : Int) ^ t * (10 : Int) ^ t ≤ n := by
        have := Int.emod_nonneg n (show (10 : Int) ^ t ≠ 0 by omega)
        have z := Int.emod_add_mul_ediv n ((10 : Int) ^ t)
        rw [Int.mul_comm] at z
        omega
      have hdn : n / (10 : Int) ^ t ≤ n := Int.ediv_le_self _ n0
      have hd2 : 0 ≤ n / (10 : Int) ^ t * (10 : Int) ^ t := Int.mul_nonneg hd0 (Int.le_of_lt tt)
      have nb : n.natAbs < 2 ^ (4 * m + 1) := lt_two n0 (Int.le_of_lt n1) (ten_lt m)
      have db : (n / (10 : Int) ^ t).natAbs < 2 ^ (4 * m + 1) := lt_two hd0 hdn nb
      refine ⟨_, rfl, _, rfl, t, rfl, by omega, n, _, rfl, rfl, wide_div tt tb (by omega) (by omega), _, rfl, t, rfl, by omega, _, _, rfl, rfl, wide_mul db tb (by omega) (by omega) (by omega), ?_⟩
      dsimp only [gName, List.set]
      generalize n / (10 : Int) ^ t * (10 : Int) ^ t = hd at hd1 hd2
      have kf := k3.trans k4
      refine ⟨_, rfl, rfl, _, rfl, ite2 (fun e => ?_) (fun e => ?_)⟩
      · exact ⟨_, rfl, q _ _ hd2 (by omega) kf (p4.mono (by omega))⟩
      refine ⟨_, rfl, rfl, _, rfl, ite2 (fun e => ?_) (fun e => ?_)⟩
      · have tu := ten_pos (t - 1)
        have tv : (10 : Int) ^ (t - 1) * 10 = (10 : Int) ^ t := by
          rw [← Int.pow_succ]
          congr 1
          omega
        have tw : (10 : Int) ^ t ≤ (10 : Int) ^ M := ten_mono (by omega)
        refine ⟨_, rfl, _, rfl, _, _, rfl, rfl, t - 1, by simp; omega, by omega, _, _, rfl, rfl, .inl ⟨by decide, by decide⟩, _, _, rfl, rfl, _, rfl, d, 3, _, rfl, p4, by omega, by decide, by decide, fun x H5 e1 e2 k5 p5 => ?_⟩
        refine ⟨_, _, rfl, rfl, _, _, rfl, rfl, ?_⟩
        exact q _ _ (by omega) (by omega) (kf.trans k5) (p5.mono (by omega))
      · exact ⟨_, rfl, q _ _ n0 (by omega) kf (p4.mono (by omega))⟩
end
section
variable {P : Program} {w : World} {K : PySem.W.Frag} {mg : Str → Option Value} {base : Heap} {C : Addr}
theorem scSame : FnScope ["_law_one", "_law_other"] ["_law_one", "_law_other"] (defScope sSame) := ⟨rfl, rfl, rfl, by decide +kernel, rfl, by decide +kernel, by decide +kernel⟩
def spSame : Sp := fun vs H Q _ => (∃ a b : Int, vs = [.int a, .int b] ∧ Q (.bl (decide (a = b))) H) ∨ ∃ x : V, vs = [x, x] ∧ Odd H x ∧ Q (.bl true) H
theorem ok_same (A : At K mg "_law_same" sSame ["_law_one", "_law_other"]) (T : Blt mg) : DefOk P w K mg base CX0 "_law_same" 1 ["_law_one", "_law_other"] spSame := by
  refine A.ok fun f fd F => F.ok scSame (fun vs H Q E h => ?_) (fun cdv A outer s H vs Q E hr h => ?_)
  · rcases h with ⟨a, b, rfl, _⟩ | ⟨x, rfl, _⟩
    · rfl
    · rfl
  · refine ⟨_, pss_one (ps_ret (pe_and (pe_cmpR (op_eqOdd hr.units) (pv 0) (pv 1) (nomark _))
      (pe_one (pe_cmpR op_eq (pe_callB call_isi (by rfl) T.isi (by decide +kernel) (pa_cons (pv 0) (pa_cons (pe_bltn (v := .ty "bool") (by rfl) T.bool (by decide +kernel) rfl) pa_nil)))
        (pe_callB call_isi (by rfl) T.isi (by decide +kernel) (pa_cons (pv 1) (pa_cons (pe_bltn (v := .ty "bool") (by rfl) T.bool (by decide +kernel) rfl) pa_nil))) (nomark _))))), ?_⟩
    rcases h with ⟨a, b, rfl, q⟩ | ⟨x, rfl, od, q⟩
    · refine ⟨_, rfl, _, rfl, .inl ⟨a, b, rfl, rfl, _, rfl, ite2 (fun e => ?_) (fun e => ?_)⟩⟩
      · obtain ⟨t1, h1, _, k1⟩ := (Thing.int (H := H) a).isi (K := K)
        obtain ⟨t2, h2, _, k2⟩ := (Thing.int (H := H) b).isi (K := K)
        refine ⟨_, rfl, _, _, t1, _, _, rfl, .ty _, h1, k1, _, rfl, _, _, t2, _, _, rfl, .ty _, h2, k2, rfl, ?_⟩
        rw [e] at q
        exact q
      · rw [eq_false_of_ne_true e] at q
        exact q
    · refine ⟨_, rfl, _, rfl, .inr ⟨od, rfl, _, rfl, iteT ?_⟩⟩
      obtain ⟨t1, h1, _, k1⟩ := od.thing.isi (K := K)
      refine ⟨_, rfl, _, _, t1, _, _, rfl, .ty _, h1, k1, _, rfl, _, _, t1, _, _, rfl, .ty _, h1, k1, rfl, ?_⟩
      have e : decide (V.bl (isBl x) = V.bl (isBl x)) = true := decide_eq_true rfl
      show Q (.bl (decide (V.bl (isBl x) = V.bl (isBl x)))) H
      rw [e]
      exact q
/-! ### odd values that are drawn -/
/-- no integer; which texts -/
structure Wrong (H : Hp) (x : V) : Prop where
  od : Odd H x
  ni : Own.isInt x = false
  nt : ∀ z : Str, x = .str z → z = "1" ∨ z = "" ∨ z = "Cut"
theorem Wrong.same {H H' : Hp} {x : V} (h : Wrong H x) (s : Same H H') : Wrong H' x := ⟨h.od.same s, h.ni, h.nt⟩
theorem scWrong : FnScope ["_law_pen"] ["_law_pen"] (defScope sWrong) := ⟨rfl, rfl, rfl, by decide +kernel, rfl, by decide +kernel, by decide +kernel⟩
def spWrong : Sp := fun vs H Q _ => ∃ (d : Addr) (B : Int), vs = [.ref d] ∧ Pen H d B ∧ B ≤ 1000000000 ∧ ∀ (x : V) (H' : Hp), Wrong H' x → Keep d H H' → Pen H' d (B + 1) → Q x H'
theorem ok_wrong (A : At K mg "_law_wrong" sWrong ["_law_pen"]) (D : DefOk P w K mg base CX0 "_law_pick" 2 ["_law_pen", "_law_some"] spPick) : DefOk P w K mg base CX0 "_law_wrong" 3 ["_law_pen"] spWrong := by
  refine A.ok fun f fd F => F.ok scWrong (fun vs H Q E h => ?_) (fun cdv A outer s H vs Q E hr h => ?_)
  · obtain ⟨d, B, rfl, _⟩ := h
    rfl
  · obtain ⟨d, B, rfl, hp, hB, q⟩ := h
    refine ⟨_, pss_one (ps_ret (pe_def D hr (by decide) (by rfl) pass0 (pa_cons (pv 0) (pa_cons (pe_lst (pa_cons pe_non (pa_cons pe_bl (pa_cons pe_bl (pa_cons pe_str (pa_cons pe_str (pa_cons pe_str
      (pa_cons (pe_tup (pa_cons pe_int (pa_cons pe_int pa_nil))) (pa_cons (pe_tup pa_nil) (pa_cons (pe_lst (pa_cons pe_int pa_nil)) (pa_cons pe_dnewK (pa_cons (pe_disp (pps_cons pe_str pe_int pps_nil) (by rfl) (by rfl) (fun z => by cases z) (by decide)) pa_nil)))))))))))) pa_nil)))), ?_⟩
    refine ⟨_, rfl, by show 2 ≤ sizeLine; decide, fun t1 n1 => ⟨Nat.zero_le _, fun t2 n2 => ⟨by show 1 ≤ sizeLine; decide, fun t3 n3 => ?_⟩⟩⟩
    intro t4 n4 t5 n5
    refine ⟨upd_same, txK [("a", .int 1)], rfl, by show 1 ≤ 15; decide, by show 11 ≤ sizeLine; decide, fun l nl => ?_⟩
    have em : mergeK [] (txK [("a", V.int 1)]) = txK [("a", V.int 1)] := merge_new (by decide +kernel)
    rw [upd_upd, em] at nl ⊢
    generalize hh1 : upd H t1 (HO.tup [.int 1, .int 2]) = H1 at n2 n3 n4 n5 nl ⊢
    have s1 : Same H H1 := hh1 ▸ same_new n1
    have e1 : H1 t1 = some (HO.tup [.int 1, .int 2]) := hh1 ▸ upd_same
    generalize hh2 : upd H1 t2 (HO.tup []) = H2 at n3 n4 n5 nl ⊢
    have s2 : Same H1 H2 := hh2 ▸ same_new n2
    have e2 : H2 t2 = some (HO.tup []) := hh2 ▸ upd_same
    generalize hh3 : upd H2 t3 (HO.lst [.int 1]) = H3 at n4 n5 nl ⊢
    have s3 : Same H2 H3 := hh3 ▸ same_new n3
    have e3 : H3 t3 = some (HO.lst [.int 1]) := hh3 ▸ upd_same
    generalize hh4 : upd H3 t4 (HO.dK []) = H4 at n5 nl ⊢
    have s4 : Same H3 H4 := hh4 ▸ same_new n4
    have e4 : H4 t4 = some (HO.dK []) := hh4 ▸ upd_same
    generalize hh5 : upd H4 t5 (HO.dK (txK [("a", V.int 1)])) = H5 at nl ⊢
    have s5 : Same H4 H5 := hh5 ▸ same_new n5
    have e5 : H5 t5 = some (HO.dK (txK [("a", V.int 1)])) := hh5 ▸ upd_same
    have s6 : Same H5 (upd H5 l (HO.lst [.non, .bl true, .bl false, .str "1", .str "", .str "Cut", .ref t1, .ref t2, .ref t3, .ref t4, .ref t5])) := same_new nl
    have sA : Same H (upd H5 l (HO.lst [.non, .bl true, .bl false, .str "1", .str "", .str "Cut", .ref t1, .ref t2, .ref t3, .ref t4, .ref t5])) := (((((s1.trans s2).trans s3).trans s4).trans s5).trans s6)
    have f1 := s6 _ _ (s5 _ _ (s4 _ _ (s3 _ _ (s2 _ _ e1))))
    have f2 := s6 _ _ (s5 _ _ (s4 _ _ (s3 _ _ e2)))
    have f3 := s6 _ _ (s5 _ _ (s4 _ _ e3))
    have f4 := s6 _ _ (s5 _ _ e4)
    have f5 := s6 _ _ e5
    refine ⟨d, l, _, B, rfl, upd_same, by simp, by show 11 ≤ 1000; decide, hp.same sA, hB, fun x H' hx kp hp' => q x H' ?_ ((Keep.same sA).trans kp) hp'⟩
    obtain ⟨p0, ns0, c0, l0, hd0, _⟩ := (hp.same s1).ex
    have d1 : t1 ≠ d := ne_of e1 hd0 (by intro z; cases z)
    obtain ⟨p0, ns0, c0, l0, hd0, _⟩ := hp.ex
    have d2 : t2 ≠ d := (ne_of_none (s1 _ _ hd0) n2).symm
    have d3 : t3 ≠ d := (ne_of_none (s2 _ _ (s1 _ _ hd0)) n3).symm
    have d4 : t4 ≠ d := (ne_of_none (s3 _ _ (s2 _ _ (s1 _ _ hd0))) n4).symm
    have d5 : t5 ≠ d := (ne_of_none (s4 _ _ (s3 _ _ (s2 _ _ (s1 _ _ hd0)))) n5).symm
    have g1 := kp _ _ d1 f1
    have g2 := kp _ _ d2 f2
    have g3 := kp _ _ d3 f3
    have g4 := kp _ _ d4 f4
    have g5 := kp _ _ d5 f5
    simp only [List.mem_cons, List.not_mem_nil, or_false] at hx
    rcases hx with rfl | rfl | rfl | rfl | rfl | rfl | rfl | rfl | rfl | rfl | rfl
    · exact ⟨.flat rfl, rfl, fun z e => by cases e⟩
    · exact ⟨.flat rfl, rfl, fun z e => by cases e⟩
    · exact ⟨.flat rfl, rfl, fun z e => by cases e⟩
    · exact ⟨.flat (by decide +kernel), rfl, fun z e => by cases e; simp⟩
    · exact ⟨.flat (by decide +kernel), rfl, fun z e => by cases e; simp⟩
    · exact ⟨.flat (by decide +kernel), rfl, fun z e => by cases e; simp⟩
    · exact ⟨.tup g1 rfl, rfl, fun z e => by cases e⟩
    · exact ⟨.tup g2 rfl, rfl, fun z e => by cases e⟩
    · exact ⟨.lst g3 rfl, rfl, fun z e => by cases e⟩
    · exact ⟨.dct g4 (by simp) (by simp), rfl, fun z e => by cases e⟩
    · exact ⟨.dct g5 (by simp [txK]) (by simp [txK, flatB]), rfl, fun z e => by cases e⟩
end
section
variable {P : Program} {w : World} {K : PySem.W.Frag} {mg : Str → Option Value} {base : Heap} {C : Addr}
theorem scRefd : FnScope ["_law_deed", "_law_value", "_law_told_here", "e"] ["_law_deed", "_law_value"] (defScope sRefd) := ⟨rfl, rfl, rfl, by decide +kernel, rfl, by decide +kernel, by decide +kernel⟩
def spRefd (C : Addr) : (Hp → VK → XK → Prop) → List V → Hp → VK → Prop := fun tl rest H Q => ∃ v : V, rest = [v] ∧ Odd H v ∧ (∀ (Q' : VK) (E' : XK), Bad C "value" v H E' → tl H Q' E') ∧ ∀ H', Same H H' → Q (.bl true) H'
theorem ld_refd (A : At K mg "_law_refused" sRefd ["_law_deed", "_law_value"]) (T : ErrC P w K mg base "BadValue" "value" 1 C (spErr C "value")) (D : DefOk P w K mg base CX0 "_law_same" 1 ["_law_one", "_law_other"] spSame) : LamDefAt P w K mg base "_law_refused" 6 (spRefd C) := by
  obtain ⟨g, fd, F, gm, b⟩ := A.ex
  refine ⟨g, ⟨fun A outer s H us f vs FF bb fr ws spl kl Q hr hkl e0 r G hf hc CC q => ?_⟩, gm, F.kp⟩
  have KX : K.In s.heap := e0.mod.kin.keeps fun b o e => (e0.bs b o e).1
  obtain ⟨v, rfl, od, q1, q2⟩ := q
  have hb := b s us KX (by rw [List.append_nil, ← r.length]; rfl)
  rw [List.append_nil] at hb
  obtain ⟨oc, od', kV, doc, pm, an, cdv, ct, osl, rfl, lk, hcd⟩ := F.ex
  refine LamX.run_ofS (N := ["_law_deed", "_law_value", "_law_told_here", "e"]) lk hcd scRefd hr e0 hb r rfl fun hr' => ?_
  have nd := scRefd.nd
  refine ⟨_, pss_cons (ps_set (i := 2) nd rfl (.inl rfl) pe_non)
    (pss_cons (ps_try_as (i := 3) (c := .ref C) rfl rfl nd rfl rfl ⟨rfl, by decide, .inl T.g⟩ L2.takes0
        (fun W pn xe tk _ => pss_one (ps_expr (pe_deedS (i := 0) (E := WE W) CC rfl G (hr'.mono (by omega)) (fun σ => passAt tk σ) rfl (.inl rfl))))
        (fun a oe cls d pn hz hf => pss_one (ps_set (i := 2) nd rfl (.inl rfl) (pe_tup (pa_cons (pe_xf T.xf T.noV hz hf (pv 3)) pa_nil)))))
    (pss_one (ps_ret (pe_and (pe_cmpR op_notN (pv 2) pe_non (nomark _)) (pe_one (pe_def D hr' (by decide) (by rfl) pass0 (pa_cons (pe_ix ix_tup (pv 2) pe_int (fun _ _ => rfl)) (pa_cons (pv 1) pa_nil)))))))), ?_⟩
  refine ⟨rfl, hf, hc, q1 _ _ fun d H1 s1 nd1 e1 => ⟨true, T.te, fun _ a na => ?_, fun z => nomatch z⟩⟩
  refine ⟨_, rfl, rfl, rfl, d, _, v, rfl, e1, by simp [List.lookup], by show 1 ≤ sizeLine; decide, fun p np => ?_⟩
  refine ⟨_, rfl, rfl, _, rfl, iteT ?_⟩
  have s2 : Same H1 (upd H1 p (.tup [v])) := same_new np
  refine ⟨_, rfl, p, [v], 0, v, rfl, rfl, SqT.of upd_same, rfl, v, rfl, .inr ⟨v, rfl, (od.same s1).same s2, ?_⟩⟩
  exact q2 _ (s1.trans s2)
end
end K08

/-! k08: the program's checks, powers of ten. -/
namespace K08
open PySem PySem.Spec PyProof.Rows L2 LamX NdefX Own
abbrev pInt : Stmt := topS 6
abbrev pWhole : Stmt := topS 7
abbrev pNInt : Stmt := topS 8
abbrev pNWhole : Stmt := topS 9
abbrev pTenTo : Stmt := topS 10
section
variable {P : Program} {w : World} {K : PySem.W.Frag} {mg : Str → Option Value} {base : Heap} {C aT : Addr}
theorem scpInt : FnScope ["value"] ["value"] (defScope pInt) := ⟨rfl, rfl, rfl, by decide +kernel, rfl, by decide +kernel, by decide +kernel⟩
def spIsInt : Sp := fun vs H Q _ => ∃ x : V, vs = [x] ∧ Thing H x ∧ Q (.bl (Own.isInt x)) H
theorem ok_isInt (A : At K mg "is_an_integer" pInt ["value"]) (T : Blt mg) : DefOk P w K mg base CX0 "is_an_integer" 1 ["value"] spIsInt := by
  refine A.ok fun f fd F => F.ok scpInt (fun vs H Q E h => ?_) (fun cdv A outer s H vs Q E hr h => ?_)
  · obtain ⟨x, rfl, _⟩ := h
    rfl
  · obtain ⟨x, rfl, th, q⟩ := h
    refine ⟨_, pss_one (ps_ret (pe_and (pe_callB call_isi (by rfl) T.isi (by decide +kernel) (pa_cons (pv 0) (pa_cons (pe_bltn (v := .ty "int") (by rfl) T.int (by decide +kernel) rfl) pa_nil)))
      (pe_one (pe_not (pe_callB call_isi (by rfl) T.isi (by decide +kernel) (pa_cons (pv 0) (pa_cons (pe_bltn (v := .ty "bool") (by rfl) T.bool (by decide +kernel) rfl) pa_nil))))))), ?_⟩
    obtain ⟨t, ht, h1, h2⟩ := th.isi (K := K)
    have hb : isBl x = true → Own.isInt x = false := by cases x <;> simp [Own.isInt, isBl]
    refine ⟨_, rfl, x, .ty "int", t, _, _, rfl, .ty _, ht, h1, _, rfl, ite2 (fun e => ?_) (fun e => ?_)⟩
    · refine ⟨_, rfl, x, .ty "bool", t, _, _, rfl, .ty _, ht, h2, _, rfl, ?_⟩
      have z : (!isBl x) = Own.isInt x := by cases e1 : Own.isInt x <;> cases e2 : isBl x <;> simp_all
      rw [z]
      exact q
    · have z : false = Own.isInt x := by cases e1 : Own.isInt x <;> cases e2 : isBl x <;> simp_all
      rw [z]
      exact q
/-- an integer from 0 on -/
def isWh : V → Bool
  | .int i => decide (0 ≤ i)
  | _ => false
theorem scpWhole : FnScope ["value"] ["value"] (defScope pWhole) := ⟨rfl, rfl, rfl, by decide +kernel, rfl, by decide +kernel, by decide +kernel⟩
def spIsWh : Sp := fun vs H Q _ => ∃ x : V, vs = [x] ∧ Thing H x ∧ Q (.bl (isWh x)) H
theorem ok_isWh (A : At K mg "is_whole_number" pWhole ["value"]) (D : DefOk P w K mg base CX0 "is_an_integer" 1 ["value"] spIsInt) : DefOk P w K mg base CX0 "is_whole_number" 2 ["value"] spIsWh := by
  refine A.ok fun f fd F => F.ok scpWhole (fun vs H Q E h => ?_) (fun cdv A outer s H vs Q E hr h => ?_)
  · obtain ⟨x, rfl, _⟩ := h
    rfl
  · obtain ⟨x, rfl, th, q⟩ := h
    refine ⟨_, pss_one (ps_ret (pe_and (pe_def D hr (by decide) (by rfl) pass0 (pa_cons (pv 0) pa_nil)) (pe_one (pe_cmpR op_ge (pv 0) pe_int (nomark _))))), ?_⟩
    refine ⟨_, rfl, x, rfl, th, _, rfl, ite2 (fun e => ?_) (fun e => ?_)⟩
    · cases x <;> first | (exact ⟨_, rfl, _, _, rfl, rfl, q⟩) | (simp [Own.isInt] at e)
    · have z : isWh x = false := by cases x <;> first | rfl | (simp [Own.isInt] at e)
      rw [z] at q
      exact q
theorem scpNInt : FnScope ["value"] ["value"] (defScope pNInt) := ⟨rfl, rfl, rfl, by decide +kernel, rfl, by decide +kernel, by decide +kernel⟩
def spNInt (C : Addr) : Sp := fun vs H Q E => ∃ x : V, vs = [x] ∧ Thing H x ∧ (Own.isInt x = true → Q .non H) ∧ (Own.isInt x = false → Bad C "value" x H E)
theorem ok_nInt (A : At K mg "need_integer" pNInt ["value"]) (T : ErrC P w K mg base "BadValue" "value" 1 C (spErr C "value")) (D : DefOk P w K mg base CX0 "is_an_integer" 1 ["value"] spIsInt) : DefOk P w K mg base (L2.CX P w) "need_integer" 3 ["value"] (spNInt C) := by
  refine A.ok fun f fd F => F.okX scpNInt (fun vs H Q E h => ?_) (fun cdv A outer s H vs Q E hr h => ?_)
  · obtain ⟨x, rfl, _⟩ := h
    rfl
  · obtain ⟨x, rfl, th, q1, q2⟩ := h
    refine ⟨_, pss_one (ps_if (pt_not (pt_val (pe_def D hr (by decide) (by rfl) pass0 (pa_cons (pv 0) pa_nil)))) (pss_one (ps_raise rfl (takes_of rfl rfl rfl rfl) (pmk_err T hr (by decide) (by rfl) (pv 0)))) pss_nil), ?_⟩
    refine ⟨_, rfl, x, rfl, th, _, rfl, ite2 (fun e => ?_) (fun e => ?_)⟩
    · exact ⟨_, rfl, bad_mk (q2 (by simpa using e))⟩
    · exact q1 (by simpa using e)
theorem scpNWh : FnScope ["value"] ["value"] (defScope pNWhole) := ⟨rfl, rfl, rfl, by decide +kernel, rfl, by decide +kernel, by decide +kernel⟩
def spNWh (C : Addr) : Sp := fun vs H Q E => ∃ x : V, vs = [x] ∧ Thing H x ∧ (isWh x = true → Q .non H) ∧ (isWh x = false → Bad C "value" x H E)
theorem ok_nWh (A : At K mg "need_whole_number" pNWhole ["value"]) (T : ErrC P w K mg base "BadValue" "value" 1 C (spErr C "value")) (D : DefOk P w K mg base CX0 "is_whole_number" 2 ["value"] spIsWh) : DefOk P w K mg base (L2.CX P w) "need_whole_number" 3 ["value"] (spNWh C) := by
  refine A.ok fun f fd F => F.okX scpNWh (fun vs H Q E h => ?_) (fun cdv A outer s H vs Q E hr h => ?_)
  · obtain ⟨x, rfl, _⟩ := h
    rfl
  · obtain ⟨x, rfl, th, q1, q2⟩ := h
    refine ⟨_, pss_one (ps_if (pt_not (pt_val (pe_def D hr (by decide) (by rfl) pass0 (pa_cons (pv 0) pa_nil)))) (pss_one (ps_raise rfl (takes_of rfl rfl rfl rfl) (pmk_err T hr (by decide) (by rfl) (pv 0)))) pss_nil), ?_⟩
    refine ⟨_, rfl, x, rfl, th, _, rfl, ite2 (fun e => ?_) (fun e => ?_)⟩
    · exact ⟨_, rfl, bad_mk (q2 (by simpa using e))⟩
    · exact q1 (by simpa using e)
/-! ### ten_to: a table below sixteen, then halves -/
def tensL : List Int := (List.range 16).map fun i => (10 : Int) ^ i
theorem scTenTo : FnScope ["places", "half"] ["places"] (defScope pTenTo) := ⟨rfl, rfl, rfl, by decide +kernel, rfl, by decide +kernel, by decide +kernel⟩
def spTenTo (k : Nat) : Sp := fun vs H Q _ => ∃ n : Nat, vs = [.int n] ∧ n < 16 * 2 ^ k ∧ Q (.int ((10 : Int) ^ n)) H
theorem bot_of {x : Str} {st : Stmt} {ps : List Str} (A : At K mg x st ps) : DefOk P w K mg base CX0 x 0 ps (fun _ _ _ _ => False) :=
  A.ok fun f fd F => ⟨fun _ _ _ _ h => h.elim, fun _ _ _ _ _ _ _ _ _ _ _ _ _ h => h.elim⟩
theorem tens_at {n : Nat} (h : n < 16) : atI (tensL.map V.int) (n : Int) = some (.int ((10 : Int) ^ n)) := by
  refine atI_nat ?_
  rw [List.getElem?_map]
  unfold tensL
  rw [List.getElem?_map, List.getElem?_range h]
  rfl
theorem tens_len : ((tensL.map V.int).length : Int) = 16 := by decide +kernel
theorem tenTo_step {k N : Nat} {spD : Sp} (A : At K mg "ten_to" pTenTo ["places"]) (T : Blt mg) (gT : mg "TENS" = some (.ref aT)) (tens : ∀ H : Hp, SqT K H aT (tensL.map V.int)) (hN : N ≤ 4096) (D : DefOk P w K mg base CX0 "ten_to" k ["places"] spD)
    (h : ∀ (n : Nat) (H : Hp) (Q : VK) (E : XK), 16 ≤ n → n < N → Q (.int ((10 : Int) ^ (n / 2))) H → spD [.int ((n / 2 : Nat) : Int)] H Q E) : DefOk P w K mg base CX0 "ten_to" (k + 1) ["places"] (fun vs H Q _ => ∃ n : Nat, vs = [.int n] ∧ n < N ∧ Q (.int ((10 : Int) ^ n)) H) := by
  refine A.ok fun f fd F => F.ok scTenTo (fun vs H Q E h => ?_) (fun cdv A outer s H vs Q E hr hq => ?_)
  · obtain ⟨n, rfl, _⟩ := h
    rfl
  · obtain ⟨n, rfl, hn, q⟩ := hq
    have nd := scTenTo.nd
    refine ⟨_, pss_cons (ps_if (pt_cmpR op_lt (pv 0) (pe_callB call_len_seq (by rfl) T.len PySem.boot_len (pa_cons (pe_glob (v := .ref aT) (by rfl) gT rfl) pa_nil)) (nomark _)) (pss_one (ps_ret (pe_ix ix_tup (pe_glob (v := .ref aT) (by rfl) gT rfl) (pv 0) (fun _ _ => rfl)))) pss_nil)
      (pss_cons (ps_set (i := 1) nd rfl (.inl rfl) (pe_def (E := E0) D hr (Nat.le_refl _) (by rfl) pass0 (pa_cons (pe_op op_fdiv (pv 0) pe_int) pa_nil)))
      (pss_cons (ps_if (pt_cmpR op_eq (pe_op op_mod (pv 0) pe_int) pe_int (nomark _)) (pss_one (ps_ret (pe_op op_mulW (pe_op op_mulW (pv 1) (pv 1)) pe_int))) pss_nil)
      (pss_one (ps_ret (pe_op op_mulW (pv 1) (pv 1)))))), ?_⟩
    refine ⟨_, rfl, aT, _, rfl, .inr (tens H), _, _, rfl, rfl, _, rfl, ite2 (fun e => ?_) (fun e => ?_)⟩
    · have hl : n < 16 := by
        have z := of_decide_eq_true e
        rw [tens_len] at z
        omega
      exact ⟨_, rfl, aT, _, _, _, rfl, rfl, tens H, tens_at hl, q⟩
    · have hg : 16 ≤ n := by
        have z : ¬ ((n : Int) < ((tensL.map V.int).length : Int)) := fun z => e (decide_eq_true z)
        rw [tens_len] at z
        omega
      refine ⟨_, rfl, _, _, rfl, rfl, ⟨by decide, by decide⟩, ?_⟩
      have e2 : (n : Int) / 2 = ((n / 2 : Nat) : Int) := by omega
      dsimp only
      rw [e2]
      refine h n H _ _ hg hn ?_
      have b := ten_lt (n / 2)
      have b2 : ((10 : Int) ^ (n / 2) * (10 : Int) ^ (n / 2)).natAbs < 2 ^ (4 * (n / 2) + 1 + (4 * (n / 2) + 1)) := wide_lt b b
      refine ⟨_, rfl, _, _, rfl, rfl, (show (0 : Int) < 2 by decide), rfl, _, rfl, ite2 (fun e => ?_) (fun e => ?_)⟩
      · have ho : (n : Int) % 2 = 1 := by simpa using e
        refine ⟨_, rfl, _, rfl, _, _, rfl, rfl, wide_mul b b (by omega) (by omega) (by omega), _, _, rfl, rfl, wide_mul b2 (show ((10 : Int)).natAbs < 2 ^ 4 by decide) (by omega) (by decide) (by omega), ?_⟩
        have ex : (10 : Int) ^ (n / 2) * (10 : Int) ^ (n / 2) * 10 = (10 : Int) ^ n := by
          rw [← Int.pow_add, ← Int.pow_succ]
          congr 1
          omega
        show Q (.int ((10 : Int) ^ (n / 2) * (10 : Int) ^ (n / 2) * 10)) H
        rw [ex]
        exact q
      · have ho : (n : Int) % 2 ≠ 1 := by simpa using e
        refine ⟨_, rfl, _, rfl, _, _, rfl, rfl, wide_mul b b (by omega) (by omega) (by omega), ?_⟩
        have ex : (10 : Int) ^ (n / 2) * (10 : Int) ^ (n / 2) = (10 : Int) ^ n := by
          rw [← Int.pow_add]
          congr 1
          omega
        show Q (.int ((10 : Int) ^ (n / 2) * (10 : Int) ^ (n / 2))) H
        rw [ex]
        exact q
theorem ok_tenTo (A : At K mg "ten_to" pTenTo ["places"]) (T : Blt mg) (gT : mg "TENS" = some (.ref aT)) (tens : ∀ H : Hp, SqT K H aT (tensL.map V.int)) : ∀ k : Nat, k ≤ 8 → DefOk P w K mg base CX0 "ten_to" (k + 1) ["places"] (spTenTo k)
  | 0, _ => tenTo_step A T gT tens (by decide) (bot_of A) fun n H Q E h1 h2 _ => absurd h1 (by omega)
  | k + 1, hk => by
    have le : 16 * 2 ^ (k + 1) ≤ 4096 := by
      have := Nat.pow_le_pow_right (show 0 < 2 by decide) hk
      omega
    refine tenTo_step A T gT tens le (ok_tenTo A T gT tens k (by omega)) fun n H Q E h1 h2 q => ⟨n / 2, rfl, ?_, q⟩
    rw [Nat.pow_succ] at h2
    omega
end
end K08

/-! k08: without_zeros. -/
namespace K08
open PySem PySem.Spec PyProof.Rows L2 LamX NdefX Own
abbrev pWz : Stmt := topS 14
/-- u' at the scale s' is u at s, at its own scale -/
structure IsLow (u : Int) (s : Nat) (u' : Int) (s' : Nat) : Prop where
  le : s' ≤ s
  eq : u = u' * (10 : Int) ^ (s - s')
  own : s' = 0 ∨ u' % 10 ≠ 0
theorem low_step {u u' : Int} {s s' st : Nat} (h1 : s' ≤ s) (h2 : st ≤ s') (e : u = u' * (10 : Int) ^ (s - s')) (d : (10 : Int) ^ st ∣ u') : u = u' / (10 : Int) ^ st * (10 : Int) ^ (s - (s' - st)) := by
  obtain ⟨c, rfl⟩ := d
  have p : (10 : Int) ^ st ≠ 0 := Int.ne_of_gt (ten_pos st)
  rw [Int.mul_ediv_cancel_left _ p, e]
  have z : s - (s' - st) = st + (s - s') := by omega
  rw [z, Int.pow_add, Int.mul_comm ((10 : Int) ^ st) c, Int.mul_assoc]
theorem dvd_step {u' : Int} {st : Nat} (d : (10 : Int) ^ st ∣ u') (n : ¬ (10 : Int) ^ (2 * st) ∣ u') : ¬ (10 : Int) ^ st ∣ u' / (10 : Int) ^ st := by
  obtain ⟨c, rfl⟩ := d
  have p : (10 : Int) ^ st ≠ 0 := Int.ne_of_gt (ten_pos st)
  rw [Int.mul_ediv_cancel_left _ p]
  rintro ⟨k, rfl⟩
  refine n ⟨k, ?_⟩
  have z : 2 * st = st + st := by omega
  rw [z, Int.pow_add, Int.mul_assoc]
/-- what the halving steps leave -/
def Half (u' : Int) (s' st : Nat) : Prop := (st = 0 ∧ (s' = 0 ∨ u' % 10 ≠ 0)) ∨ ((∃ j, st = 2 ^ j) ∧ ¬ (2 * st ≤ s' ∧ (10 : Int) ^ (2 * st) ∣ u'))
theorem half_next {u' : Int} {s' st : Nat} (hp : ∃ j, st = 2 ^ j) (n : ¬ (st ≤ s' ∧ (10 : Int) ^ st ∣ u')) : Half u' s' (st / 2) := by
  obtain ⟨j, rfl⟩ := hp
  cases j with
  | zero =>
    refine .inl ⟨rfl, ?_⟩
    by_cases h : s' = 0
    · exact .inl h
    · refine .inr fun z => n ⟨by simp; omega, ?_⟩
      simpa using Int.dvd_of_emod_eq_zero z
  | succ j =>
    have e : 2 ^ (j + 1) / 2 = 2 ^ j := by rw [Nat.pow_succ]; omega
    refine .inr ⟨⟨j, e⟩, ?_⟩
    rw [e]
    have e2 : 2 * 2 ^ j = 2 ^ (j + 1) := by rw [Nat.pow_succ]; omega
    rw [e2]
    exact n
section
variable {P : Program} {w : World} {K : PySem.W.Frag} {mg : Str → Option Value} {base : Heap}
theorem scWz : FnScope ["units", "scale", "step", "block"] ["units", "scale"] (defScope pWz) := ⟨rfl, rfl, rfl, by decide +kernel, rfl, by decide +kernel, by decide +kernel⟩
def spWz : Sp := fun vs H Q _ => ∃ (u : Int) (s : Nat), vs = [.int u, .int s] ∧ s < 2000 ∧ ∀ (u' : Int) (s' : Nat) (p : Addr), IsLow u s u' s' → H p = none → Q (.ref p) (upd H p (.tup [.int u', .int s']))
theorem ok_wz (A : At K mg "without_zeros" pWz ["units", "scale"]) (D : DefOk P w K mg base CX0 "ten_to" 9 ["places"] (spTenTo 8)) : DefOk P w K mg base CX0 "without_zeros" 10 ["units", "scale"] spWz := by
  refine A.ok fun f fd F => F.ok scWz (fun vs H Q E h => ?_) (fun cdv A outer s0 H vs Q E hr h => ?_)
  · obtain ⟨u, s, rfl, _⟩ := h
    rfl
  · obtain ⟨u, s, rfl, hs, q⟩ := h
    have nd := scWz.nd
    refine ⟨_, pss_cons (ps_if (PW.pt (pw_or (pt_cmpR op_eq (pv 1) pe_int (nomark _)) (pw_or1 (pt_cmpR op_ne (pe_op op_mod (pv 0) pe_int) pe_int (nomark _))))) (pss_one (ps_ret (pe_tup (pa_cons (pv 0) (pa_cons (pv 1) pa_nil))))) pss_nil)
      (pss_cons (ps_if (pt_cmpR op_eq (pv 0) pe_int (nomark _)) (pss_one (ps_ret (pe_tup (pa_cons pe_int (pa_cons pe_int pa_nil))))) pss_nil)
      (pss_cons (ps_set (i := 2) nd rfl (.inl rfl) pe_int)
      (pss_cons (ps_while PassesOwn.never (pt_cmpR op_le (pe_op op_mul (pv 2) pe_int) (pv 1) (nomark _)) (pss_one (ps_set (i := 2) nd rfl (.inl rfl) (pe_op op_mul (pv 2) pe_int))))
      (pss_cons (ps_while PassesOwn.never (pt_cmpR op_gt (pv 2) pe_int (nomark _)) (pss_cons (ps_set (i := 3) nd rfl (.inl rfl) (pe_def D hr (by decide) (by rfl) pass0 (pa_cons (pv 2) pa_nil)))
        (pss_cons (ps_if (PW.pt (pw_and (pt_cmpR op_le (pv 2) (pv 1) (nomark _)) (pw_and1 (pt_cmpR op_eq (pe_op op_mod (pv 0) (pv 3)) pe_int (nomark _)))))
          (pss_one (ps_par (i := 0) (j := 1) (by rfl) nd rfl rfl (by decide) rfl rfl (pa_cons (pe_op op_fdivW (pv 0) (pv 3)) (pa_cons (pe_op op_sub (pv 1) (pv 2)) pa_nil)) (by rfl))) pss_nil)
        (pss_one (ps_set (i := 2) nd rfl (.inl rfl) (pe_op op_fdiv (pv 2) pe_int))))))
      (pss_one (ps_ret (pe_tup (pa_cons (pv 0) (pa_cons (pv 1) pa_nil))))))))), ?_⟩
    refine ⟨_, rfl, rfl, _, rfl, ite2 (fun e => iteT ?_) (fun e => ?_)⟩
    · have h0 : s = 0 := by simpa using e
      subst h0
      exact ⟨_, rfl, _, rfl, by show 2 ≤ sizeLine; decide, fun p np => q u 0 p ⟨Nat.le_refl _, by simp, .inl rfl⟩ np⟩
    have hs0 : s ≠ 0 := by simpa using e
    refine ⟨_, rfl, _, _, rfl, rfl, (show (0 : Int) < 10 by decide), rfl, _, rfl, ite2 (fun e => ?_) (fun e => ?_)⟩
    · have h0 : u % 10 ≠ 0 := by simpa using e
      exact ⟨_, rfl, _, rfl, by show 2 ≤ sizeLine; decide, fun p np => q u s p ⟨Nat.le_refl _, by simp, .inr h0⟩ np⟩
    refine ⟨_, rfl, rfl, _, rfl, ite2 (fun e => ?_) (fun e => ?_)⟩
    · have h0 : u = 0 := by simpa using e
      exact ⟨by show 2 ≤ sizeLine; decide, fun p np => q 0 0 p ⟨Nat.zero_le _, by rw [h0]; simp, .inl rfl⟩ np⟩
    dsimp only [gName, List.set]
    refine ⟨fun m σ H' => H' = H ∧ ∃ j : Nat, σ = [some (.int u), some (.int s), some (.int ((2 ^ j : Nat) : Int)), none] ∧ 2 ^ j ≤ s ∧ m = s - 2 ^ j, ⟨_, rfl, 0, rfl, by simp; omega, rfl⟩, ?_⟩
    rintro m σ H1 ⟨rfl, j, rfl, hj, rfl⟩
    have jp : 0 < 2 ^ j := Nat.pow_pos (by decide)
    refine ⟨_, rfl, _, _, rfl, rfl, .inr ⟨by decide, by decide⟩, _, rfl, _, _, rfl, rfl, _, rfl, ite2 (fun e => ?_) (fun e => ?_)⟩
    · have hle : ((2 ^ j : Nat) : Int) * 2 ≤ (s : Int) := of_decide_eq_true e
      refine ⟨fun σ' H' => H' = H1 ∧ σ' = [some (.int u), some (.int s), some (.int ((2 ^ (j + 1) : Nat) : Int)), none], fun σ' H' z => ⟨s - 2 ^ (j + 1), ?_, z.1, j + 1, z.2, ?_, rfl⟩, ?_⟩
      · rw [Nat.pow_succ]
        omega
      · rw [Nat.pow_succ]
        omega
      · refine ⟨_, rfl, _, _, rfl, rfl, .inr ⟨by decide, by decide⟩, rfl, ?_⟩
        have e2 : ((2 ^ j : Nat) : Int) * 2 = ((2 ^ (j + 1) : Nat) : Int) := by
          rw [Nat.pow_succ]
          omega
        dsimp only [gName, List.set]
        rw [e2]
    have hgt : ¬ ((2 ^ j : Nat) : Int) * 2 ≤ (s : Int) := fun z => e (decide_eq_true z)
    refine ⟨fun m σ H' => H' = H1 ∧ ∃ (u' : Int) (s' st : Nat) (bl : Option V), σ = [some (.int u'), some (.int s'), some (.int st), bl] ∧ m = st ∧ st < 2000 ∧ s' ≤ s ∧ u = u' * (10 : Int) ^ (s - s') ∧ Half u' s' st, ⟨_, rfl, u, s, 2 ^ j, none, rfl, rfl, by omega, Nat.le_refl _, by simp, .inr ⟨⟨j, rfl⟩, fun z => by omega⟩⟩, ?_⟩
    rintro m σ H2 ⟨rfl, u', s', st, bl, rfl, hm, hst, hle, eu, hf⟩
    have hm := hm.symm
    subst hm
    refine ⟨_, rfl, _, _, rfl, rfl, _, rfl, ite2 (fun e => ?_) (fun e => ?_)⟩
    · have h0 : 0 < st := by
        have z : (0 : Int) < (st : Int) := of_decide_eq_true e
        omega
      obtain ⟨hp, hn⟩ : (∃ j, st = 2 ^ j) ∧ ¬ (2 * st ≤ s' ∧ (10 : Int) ^ (2 * st) ∣ u') := by
        rcases hf with ⟨z, _⟩ | z
        · omega
        · exact z
      refine ⟨fun σ' H' => H' = H2 ∧ ∃ (u2 : Int) (s2 : Nat) (bl : Option V), σ' = [some (.int u2), some (.int s2), some (.int ((st / 2 : Nat) : Int)), bl] ∧ s2 ≤ s ∧ u = u2 * (10 : Int) ^ (s - s2) ∧ Half u2 s2 (st / 2), fun σ' H' ⟨z1, u2, s2, bl, z2, z3, z4, z5⟩ => ⟨st / 2, by omega, z1, u2, s2, st / 2, bl, z2, rfl, by omega, z3, z4, z5⟩, ?_⟩
      have e2 : (st : Int) / 2 = ((st / 2 : Nat) : Int) := by omega
      have tp := ten_pos st
      refine ⟨_, rfl, st, rfl, by show st < 16 * 2 ^ 8; omega, ?_⟩
      refine ⟨_, rfl, _, rfl, _, _, rfl, rfl, _, rfl, ite2 (fun e => ?_) (fun e => ?_)⟩
      · have l1 : st ≤ s' := by
          have z : (st : Int) ≤ (s' : Int) := of_decide_eq_true e
          omega
        refine ⟨_, rfl, _, rfl, _, _, rfl, rfl, tp, rfl, _, rfl, ite2 (fun e => ?_) (fun e => ?_)⟩
        · have d1 : (10 : Int) ^ st ∣ u' := Int.dvd_of_emod_eq_zero (by simpa using e)
          refine ⟨_, rfl, _, rfl, _, _, rfl, rfl, wide_div tp (ten_lt st) (by omega) (by omega), _, rfl, _, rfl, _, _, rfl, rfl, _, _, rfl, ?_⟩
          refine ⟨_, rfl, _, _, rfl, rfl, ⟨by decide, by decide⟩, ?_⟩
          dsimp only [gName, List.set]
          rw [e2]
          have e3 : (s' : Int) - (st : Int) = ((s' - st : Nat) : Int) := by omega
          rw [e3]
          refine ⟨rfl, u' / (10 : Int) ^ st, s' - st, some (.int ((10 : Int) ^ st)), rfl, by omega, low_step hle l1 eu d1, half_next hp fun z => ?_⟩
          by_cases l2 : 2 * st ≤ s'
          · exact dvd_step d1 (fun d2 => hn ⟨l2, d2⟩) z.2
          · omega
        · refine ⟨_, rfl, _, _, rfl, rfl, ⟨by decide, by decide⟩, ?_⟩
          dsimp only [gName, List.set]
          rw [e2]
          have nd1 : ¬ (10 : Int) ^ st ∣ u' := fun z => e (decide_eq_true (by show V.int (u' % (10 : Int) ^ st) = V.int 0; rw [Int.emod_eq_zero_of_dvd z]))
          exact ⟨rfl, u', s', some (.int ((10 : Int) ^ st)), rfl, hle, eu, half_next hp fun z => nd1 z.2⟩
      · have l1 : ¬ st ≤ s' := fun z => e (decide_eq_true (by omega))
        refine ⟨_, rfl, _, _, rfl, rfl, ⟨by decide, by decide⟩, ?_⟩
        dsimp only [gName, List.set]
        rw [e2]
        exact ⟨rfl, u', s', some (.int ((10 : Int) ^ st)), rfl, hle, eu, half_next hp fun z => l1 z.1⟩
    · have h0 : st = 0 := by
        have z : ¬ (0 : Int) < (st : Int) := fun z => e (decide_eq_true z)
        omega
      have own : s' = 0 ∨ u' % 10 ≠ 0 := by
        rcases hf with ⟨_, z⟩ | ⟨⟨j, z⟩, _⟩
        · exact z
        · have := Nat.pow_pos (n := j) (show 0 < 2 by decide)
          omega
      exact ⟨_, rfl, _, rfl, by show 2 ≤ sizeLine; decide, fun p np => q u' s' p ⟨hle, eu, own⟩ np⟩
end
end K08

/-! k08: digits_of, parted. -/
namespace K08
open PySem PySem.Spec PyProof.Rows L2 LamX NdefX Own
abbrev pDig : Stmt := topS 11
abbrev pPart : Stmt := topS 15
section
variable {P : Program} {w : World} {K : PySem.W.Frag} {mg : Str → Option Value} {base : Heap}
theorem scDig : FnScope ["number", "places", "ahead", "behind"] ["number"] (defScope pDig) := ⟨rfl, rfl, rfl, by decide +kernel, rfl, by decide +kernel, by decide +kernel⟩
/-- a number of few digits -/
def spDig : Sp := fun vs H Q _ => ∃ n : Nat, vs = [.int n] ∧ n < 10 ^ 500 ∧ Q (.str (Str.ofString (toString (n : Int)))) H
theorem small_log {n : Nat} (h : n < 10 ^ 500) : n.log2 < 1700 := log2_lt (Nat.lt_of_lt_of_le h (by decide +kernel)) (by decide)
theorem ok_dig (A : At K mg "digits_of" pDig ["number"]) (B : Blt mg) : DefOk P w K mg base CX0 "digits_of" 1 ["number"] spDig := by
  refine A.ok fun f fd F => F.ok scDig (fun vs H Q E h => ?_) (fun cdv A outer s0 H vs Q E hr h => ?_)
  · obtain ⟨n, rfl, _⟩ := h
    rfl
  · obtain ⟨n, rfl, hn, q⟩ := h
    have nd := scDig.nd
    refine ⟨_, pss_cons (ps_if (pt_cmpR op_lt (pe_bits (pv 0)) pe_int (nomark _)) (pss_one (ps_ret (pe_callTy call_str_int (by rfl) B.str (by decide +kernel) (pa_cons (pv 0) pa_nil)))) pss_nil) pss_dead, ?_⟩
    have lg := small_log hn
    have bits : Builtin.Int.intBits (n : Int) ≤ 1700 := by
      unfold Builtin.Int.intBits
      split
      · omega
      · have e : (n : Int).natAbs = n := by omega
        rw [e]
        omega
    refine ⟨_, rfl, n, rfl, _, _, rfl, rfl, _, rfl, ite2 (fun _ => ?_) (fun e => ?_)⟩
    · refine ⟨_, rfl, n, rfl, ?_, q⟩
      have e : (n : Int).natAbs = n := by omega
      rw [e]
      omega
    · exact absurd (decide_eq_true (by omega)) e
theorem scPart : FnScope ["units", "scale", "floor", "more"] ["units", "scale"] (defScope pPart) := ⟨rfl, rfl, rfl, by decide +kernel, rfl, by decide +kernel, by decide +kernel⟩
def spPart : Sp := fun vs H Q _ => ∃ (u : Int) (s : Nat), vs = [.int u, .int s] ∧ s < 500 ∧ ∀ (p : Addr) (H' : Hp), Same H H' → H' p = some (.tup [.int (wFl u s), .str (wMo u s)]) → Q (.ref p) H'
theorem ok_part (A : At K mg "parted" pPart ["units", "scale"]) (B : Blt mg) (D1 : DefOk P w K mg base CX0 "ten_to" 9 ["places"] (spTenTo 8)) (D2 : DefOk P w K mg base CX0 "digits_of" 1 ["number"] spDig) : DefOk P w K mg base CX0 "parted" 10 ["units", "scale"] spPart := by
  refine A.ok fun f fd F => F.ok scPart (fun vs H Q E h => ?_) (fun cdv A outer s0 H vs Q E hr h => ?_)
  · obtain ⟨u, s, rfl, _⟩ := h
    rfl
  · obtain ⟨u, s, rfl, hs, q⟩ := h
    have nd := scPart.nd
    refine ⟨_, pss_cons (ps_if (pt_cmpR op_eq (pv 1) pe_int (nomark _)) (pss_one (ps_ret (pe_tup (pa_cons (pv 0) (pa_cons pe_str pa_nil))))) pss_nil)
      (pss_cons (ps_asg (pe_callB call_divmodW (by rfl) B.dm (by decide +kernel) (pa_cons (pv 0) (pa_cons (pe_def D1 hr (by decide) (by rfl) pass0 (pa_cons (pv 1) pa_nil)) pa_nil))) (pg_tup rfl (pgs_cons (pg_name (i := 2) nd rfl (.inl rfl)) (pgs_cons (pg_name (i := 3) nd rfl (.inl rfl)) pgs_nil))))
      (pss_one (ps_ret (pe_tup (pa_cons (pv 2) (pa_cons (pe_bm PySem.F.plainAttrs_str PySem.F.slot_str_zfill PySem.F.type_str_zfill mt_zfill (pe_def D2 hr (by decide) (by rfl) pass0 (pa_cons (pv 3) pa_nil)) (pa_cons (pv 1) pa_nil)) pa_nil)))))), ?_⟩
    refine ⟨_, rfl, rfl, _, rfl, ite2 (fun e => ?_) (fun e => ?_)⟩
    · have h0 : s = 0 := by simpa using e
      subst h0
      refine ⟨_, rfl, by show 2 ≤ sizeLine; decide, fun p np => q p _ (same_new np) ?_⟩
      rw [upd_same]
      unfold wFl wMo
      rw [if_pos rfl, if_pos rfl]
    · have h0 : s ≠ 0 := by simpa using e
      refine ⟨_, rfl, _, rfl, s, rfl, by show s < 16 * 2 ^ 8; omega, _, _, rfl, dm_wide (ten_pos s) (up_two (ten_lt s) (by omega)), fun p hp => ?_⟩
      obtain ⟨n, en, hn⟩ := wMod u s
      have s1 : Same H (upd H p (.tup [.int (u / (10 : Int) ^ s), .int (u % (10 : Int) ^ s)])) := same_new hp
      refine ⟨p, _, rfl, SqT.of upd_same, rfl, _, _, rfl, _, _, rfl, rfl, ?_⟩
      have e1 : wFl u s = u / (10 : Int) ^ s := by
        unfold wFl
        rw [if_neg h0]
      have e2 : wMo u s = Txt.zfill (Str.ofString (toString (n : Int))) (s : Int) := by
        unfold wMo
        rw [if_neg h0, en]
      rw [en] at s1 ⊢
      dsimp only [gName, List.set]
      refine ⟨_, rfl, _, rfl, n, rfl, Nat.lt_of_lt_of_le hn (Nat.pow_le_pow_right (by decide) (by omega)), rfl, _, rfl, _, _, rfl, rfl, padOk_of (by omega) (by omega), by show 2 ≤ sizeLine; decide, fun p2 np2 => ?_⟩
      refine q p2 _ (s1.trans (same_new np2)) ?_
      rw [upd_same, e1, e2]
end
end K08

/-! k08: the class Worth. -/
namespace K08
open PySem PySem.Spec PyProof.Rows L2 LamX NdefX Own
abbrev wI (i : Nat) : Stmt := inClass (topS 13) i
section
variable {P : Program} {w : World} {K : PySem.W.Frag} {mg : Str → Option Value} {base : Heap} {C W : Addr}
/-- what the class is -/
structure WorthC (K : PySem.W.Frag) (mg : Str → Option Value) (W : Addr) : Prop where
  g : mg "Worth" = some (.ref W)
  cls : Cls K W
  nu : NoAttr K W "units"
  ns : NoAttr K W "scale"
  nf : NoAttr K W "floor"
  nm : NoAttr K W "more"
/-- a Worth stands at a: u units at the scale s -/
def WAt (W : Addr) (H : Hp) (a : Addr) (u : Int) (s : Nat) : Prop := ∃ dx, H a = some (.ins W dx (wRow u s))
theorem scWI : FnScope ["self", "units", "scale"] ["self", "units", "scale"] (defScope (wI 0)) := ⟨rfl, rfl, rfl, by decide +kernel, rfl, by decide +kernel, by decide +kernel⟩
/-- __init__ -/
def spWI (C W : Addr) : Sp := fun vs H Q E => ∃ (a dx : Addr) (x y : V), vs = [.ref a, x, y] ∧ H a = some (.ins W dx []) ∧ Thing H x ∧ Thing H y ∧ (Own.isInt x = false → Bad C "value" x H E) ∧ (Own.isInt x = true → isWh y = false → Bad C "value" y H E) ∧
  ∀ (u : Int) (s : Nat), x = .int u → y = .int s → s < 500 ∧ ∀ (u' : Int) (s' : Nat) (H' : Hp), IsLow u s u' s' → Keep a H H' → H' a = some (.ins W dx (wRow u' s')) → Q .non H'
theorem isWh_nat {y : V} (h : isWh y = true) : ∃ s : Nat, y = .int s := by
  cases y with
  | int i =>
    have z : 0 ≤ i := of_decide_eq_true h
    exact ⟨i.toNat, by rw [Int.toNat_of_nonneg z]⟩
  | _ => cases h
theorem ok_wI {f : Addr} {fd : FuncData} {dvs : List V} (F : FunD K "__init__" "Worth.__init__" (defArgs (wI 0)) (defBody (wI 0)) (defScope (wI 0)) dvs [] f fd) (T : WorthC K mg W) (D1 : DefOk P w K mg base (L2.CX P w) "need_integer" 3 ["value"] (spNInt C)) (D2 : DefOk P w K mg base (L2.CX P w) "need_whole_number" 3 ["value"] (spNWh C))
    (D3 : DefOk P w K mg base CX0 "without_zeros" 10 ["units", "scale"] spWz) (D4 : DefOk P w K mg base CX0 "parted" 10 ["units", "scale"] spPart) : FnOk P w K mg base (L2.CX P w) 11 f fd ["self", "units", "scale"] (spWI C W) := by
  refine F.ok scWI (fun vs H Q E h => ?_) (fun cdv A outer s0 H vs Q E hr h => ?_)
  · obtain ⟨a, dx, x, y, rfl, _⟩ := h
    rfl
  · obtain ⟨a, dx, x, y, rfl, ha, tx, ty, q1, q2, q3⟩ := h
    refine ⟨_, pss_cons (ps_expr (pe_def (E := E) D1 hr (by decide) (by rfl) (passes_call (takes_of rfl rfl rfl rfl) fun _ _ _ _ z => z) (pa_cons (pv 1) pa_nil)))
      (pss_cons (ps_expr (pe_def (E := E) D2 hr (by decide) (by rfl) (passes_call (takes_of rfl rfl rfl rfl) fun _ _ _ _ z => z) (pa_cons (pv 2) pa_nil)))
      (pss_cons (ps_asg (pe_def D3 hr (by decide) (by rfl) pass0 (pa_cons (pv 1) (pa_cons (pv 2) pa_nil))) (pg_tup rfl (pgs_cons (pg_fld (pv 0)) (pgs_cons (pg_fld (pv 0)) pgs_nil))))
      (pss_one (ps_asg (pe_def D4 hr (by decide) (by rfl) pass0 (pa_cons (pe_fld (pv 0) (by rfl)) (pa_cons (pe_fld (pv 0) (by rfl)) pa_nil))) (pg_tup rfl (pgs_cons (pg_fld (pv 0)) (pgs_cons (pg_fld (pv 0)) pgs_nil))))))), ?_⟩
    refine ⟨_, rfl, x, rfl, tx, fun hx => ?_, q1⟩
    refine ⟨_, rfl, y, rfl, ty, fun hy => ?_, q2 hx⟩
    obtain ⟨s, rfl⟩ := isWh_nat hy
    obtain ⟨u, rfl⟩ : ∃ u, x = .int u := by
      cases x <;> first | exact ⟨_, rfl⟩ | (simp [Own.isInt] at hx)
    obtain ⟨hs, q⟩ := q3 u s rfl rfl
    refine ⟨_, rfl, _, rfl, u, s, rfl, by omega, fun u' s' p lw np => ?_⟩
    have na : a ≠ p := ne_of_none ha np
    have ha1 : upd H p (.tup [.int u', .int s']) a = some (.ins W dx []) := (upd_ne na).trans ha
    refine ⟨p, _, rfl, SqT.of upd_same, rfl, _, _, rfl, ⟨_, rfl, a, W, dx, [], rfl, ha1, T.cls, T.nu, by decide, ?_⟩⟩
    refine ⟨_, _, rfl, ⟨_, rfl, a, W, dx, _, rfl, upd_same, T.cls, T.ns, by show 1 < 1000; decide, ?_⟩⟩
    refine ⟨rfl, ?_⟩
    rw [upd_upd]
    have k1 : Keep a H (upd (upd H p (.tup [.int u', .int s'])) a (.ins W dx (putF "scale" (.int s') (putF "units" (.int u') [])))) := (Keep.new np).trans Keep.at
    have ha2 : upd (upd H p (.tup [.int u', .int s'])) a (.ins W dx (putF "scale" (.int s') (putF "units" (.int u') []))) a = some (.ins W dx (putF "scale" (.int s') (putF "units" (.int u') []))) := upd_same
    generalize upd (upd H p (.tup [.int u', .int s'])) a (.ins W dx (putF "scale" (.int s') (putF "units" (.int u') []))) = H1 at k1 ha2 ⊢
    have e0 : ¬ (("units" : Str) = "scale") := by decide +kernel
    have e1 : (putF "scale" (.int s') (putF "units" (.int u') []) : List (Str × V)).lookup ("units" : Str) = some (V.int u') := by simp [putF, e0, List.lookup]
    have e2 : (putF "scale" (.int s') (putF "units" (.int u') []) : List (Str × V)).lookup ("scale" : Str) = some (V.int s') := by simp [putF, e0, List.lookup, wNe]
    have le := lw.le
    refine ⟨_, rfl, a, W, dx, _, .int u', rfl, ha2, T.cls, T.nu, e1, _, rfl, a, W, dx, _, .int s', rfl, ha2, T.cls, T.ns, e2, u', s', rfl, by omega, fun p2 H2 s2 h2 => ?_⟩
    have ha3 := s2 _ _ ha2
    have n2 : a ≠ p2 := ne_of ha3 h2 (by intro z; cases z)
    refine ⟨p2, _, rfl, SqT.of h2, rfl, _, _, rfl, ⟨_, rfl, a, W, dx, _, rfl, ha3, T.cls, T.nf, by show 2 < 1000; decide, ?_⟩⟩
    refine ⟨_, _, rfl, ⟨_, rfl, a, W, dx, _, rfl, upd_same, T.cls, T.nm, by show 3 < 1000; decide, ?_⟩⟩
    refine ⟨rfl, ?_⟩
    rw [upd_upd, put4]
    exact q u' s' _ lw ((k1.trans (Keep.same s2)).trans Keep.at) upd_same
end
end K08

/-! k08: Worths made; as_worth, units_at, sign. -/
namespace Own
open PySem PySem.Spec PyProof.Rows L2 LamX NdefX
theorem Thing.tyx {K : PySem.W.Frag} {H : Hp} {x : V} (h : Thing H x) : ∃ T ∈ tys, TyX K H x (.type T) := by
  cases h with
  | non => exact ⟨"NoneType", by simp [tys], .base .non⟩
  | bl b => exact ⟨"bool", by simp [tys], .base (.bl b)⟩
  | int i => exact ⟨"int", by simp [tys], .base (.int i)⟩
  | str z => exact ⟨"str", by simp [tys], .base (.str z)⟩
  | lst e => exact ⟨"list", by simp [tys], .base (.lst e)⟩
  | tup e => exact ⟨"tuple", by simp [tys], .base (.tup e)⟩
  | dct e => exact ⟨"dict", by simp [tys], .base (.dK e)⟩
end Own
namespace K08
open PySem PySem.Spec PyProof.Rows L2 LamX NdefX Own
abbrev pAsW : Stmt := topS 16
section
variable {P : Program} {w : World} {K : PySem.W.Frag} {mg : Str → Option Value} {base : Heap} {C W : Addr}
/-- isinstance by the class -/
structure WIs (K : PySem.W.Frag) (W : Addr) : Prop where
  ha : PySem.W.findIn K (.ref W) "__class__" = some (some (.builtin "object.__class__"))
  hn : PySem.W.specialIn K (.builtin "object.__class__") "__get__" = some (some (.builtin "getset_descriptor.__get__"))
  ht : PySem.W.takesIn K (.builtin "object.__class__") = some true
  hm : PySem.W.mroIn K W (.type "object") = some true
  no : ∀ T ∈ tys, PySem.W.kitOne K (.type T) (.ref W) = some false
/-- how the class is called -/
structure WMk (P : Program) (w : World) (K : PySem.W.Frag) (mg : Str → Option Value) (base : Heap) (C W : Addr) : Prop where
  ex : ∃ (fI : Addr) (fd : FuncData), Mk K W fI ∧ FnOk P w K mg base (L2.CX P w) 11 fI fd ["self", "units", "scale"] (spWI C W) ∧ Binds K fd ["self", "units", "scale"] [] ∧ ∃ ds, Vals [V.int 0] ds ∧ Binds K fd ["self", "units", "scale"] ds
theorem WAt.same {H H' : Hp} {a : Addr} {u : Int} {s : Nat} (h : WAt W H a u s) (z : Same H H') : WAt W H' a u s := by
  obtain ⟨dx, e⟩ := h
  exact ⟨dx, z _ _ e⟩
/-- what the call Worth(x, y) gives -/
def spWorth (C W : Addr) : Sp := fun vs H Q E => ∃ x y : V, vs = [x, y] ∧ Thing H x ∧ Thing H y ∧ (Own.isInt x = false → Bad C "value" x H E) ∧ (Own.isInt x = true → isWh y = false → Bad C "value" y H E) ∧
  ∀ (u : Int) (s : Nat), x = .int u → y = .int s → s < 500 ∧ ∀ (u' : Int) (s' : Nat) (a : Addr) (H' : Hp), IsLow u s u' s' → Same H H' → H a = none → WAt W H' a u' s' → Q (.ref a) H'
theorem worth_make {vs : List V} {H : Hp} {Q : VK} {E : XK} (h : spWorth C W vs H Q E) (a dx : Addr) (na : H a = none) (nd : H dx = none) (ne : dx ≠ a) : spWI C W (.ref a :: vs) (upd (upd H dx (.own a)) a (.ins W dx [])) (fun v H2 => v = .non ∧ Q (.ref a) H2) E := by
  obtain ⟨x, y, rfl, tx, ty, q1, q2, q3⟩ := h
  have na1 : upd H dx (.own a) a = none := (upd_ne ne.symm).trans na
  have s1 : Same H (upd (upd H dx (.own a)) a (.ins W dx [])) := (same_new nd).trans (same_new na1)
  refine ⟨a, dx, x, y, rfl, upd_same, tx.same s1, ty.same s1, fun z => (q1 z).same s1, fun z1 z2 => (q2 z1 z2).same s1, fun u s e1 e2 => ?_⟩
  obtain ⟨hs, q⟩ := q3 u s e1 e2
  refine ⟨hs, fun u' s' H' lw kp ha => ⟨rfl, q u' s' a H' lw (fun b o e => ?_) na ⟨dx, ha⟩⟩⟩
  have ba : b ≠ a := ne_of_none e na
  exact kp _ _ ba (s1 _ _ e)
section
variable {X : Cx} {k : Nat} {E : XK} {x : Str} {p pos : Pos} {e1 e2 : Expr} {t : TA}
/-- Worth(e1, e2) -/
theorem pe_worth (M : WMk X.prog X.w X.K X.mg X.base C W) (T : WorthC X.K X.mg W) (hr : Room k X.A) (hk : 12 ≤ k) (hg : Gl X "Worth") (hx : Passes (L2.CX X.prog X.w) X E) (ha : PA X [e1, e2] t)
    (he : starEach [e1, e2] X.env = (false, eval e1 X.env) :: starEach [e2] X.env := by rfl) (hpl : (backTo pos (starEach [e2] X.env)).any (·.1) = false := by rfl) : PE X (.Call (.Name "Worth" p) [e1, e2] [] pos) (tCall (spWorth C W) [] E t) := by
  obtain ⟨fI, fd, mk, F, b2, _⟩ := M.ex
  constructor
  intro pins s σ H Q I h
  refine wpAny_Call_Name_kw (ld_glob I hg T.g ?_ (by decide))
  refine PySem.W.callWith_K (h₀ := X.base) I.ok.mod.kin mk.kp (thn (ha.run pos pins s σ H _ I h) ?_) he hpl
  rintro us s1 ⟨vs, H1, I1, r, q⟩
  refine ⟨I1.kIn, run_make mk F (hr.mono hk) b2 .nil hx I1 r fun a dx na nd ne => ?_⟩
  rw [List.append_nil] at q ⊢
  exact worth_make q a dx na nd ne
/-- Worth(e1) -/
theorem pe_worth1 (M : WMk X.prog X.w X.K X.mg X.base C W) (T : WorthC X.K X.mg W) (hr : Room k X.A) (hk : 12 ≤ k) (hg : Gl X "Worth") (hx : Passes (L2.CX X.prog X.w) X E) {te : TE} (ha : PE X e1 te)
    (he : starEach [e1] X.env = (false, eval e1 X.env) :: starEach [] X.env := by rfl) (hpl : (backTo pos (starEach [] X.env)).any (·.1) = false := by rfl) : PE X (.Call (.Name "Worth" p) [e1] [] pos) (fun σ H Q => tCons te tNil σ H fun vs H1 => ∃ v, vs = [v] ∧ spWorth C W [v, .int 0] H1 Q E) := by
  obtain ⟨fI, fd, mk, F, _, ds, rd, b1⟩ := M.ex
  constructor
  intro pins s σ H Q I h
  refine wpAny_Call_Name_kw (ld_glob I hg T.g ?_ (by decide))
  refine PySem.W.callWith_K (h₀ := X.base) I.ok.mod.kin mk.kp (thn ((pa_cons ha pa_nil he).run pos pins s σ H (fun vs H1 => ∃ v, vs = [v] ∧ spWorth C W [v, .int 0] H1 Q E) I h) ?_) he hpl
  rintro us s1 ⟨vs, H1, I1, r, v, rfl, q⟩
  exact ⟨I1.kIn, run_make mk F (hr.mono hk) b1 rd hx I1 r fun a dx na nd ne => worth_make q a dx na nd ne⟩
end
/-! ### as_worth -/
theorem scAsW : FnScope ["value"] ["value"] (defScope pAsW) := ⟨rfl, rfl, rfl, by decide +kernel, rfl, by decide +kernel, by decide +kernel⟩
/-- a Worth as it is; an integer at the scale 0; anything else refused -/
def spAsW (C W : Addr) : Sp := fun vs H Q E => ∃ x : V, vs = [x] ∧ ((∃ (a : Addr) (u : Int) (s : Nat), x = .ref a ∧ WAt W H a u s ∧ Q (.ref a) H) ∨
  (Thing H x ∧ (Own.isInt x = false → Bad C "value" x H E) ∧ ∀ (u : Int) (a : Addr) (H' : Hp), x = .int u → Same H H' → H a = none → WAt W H' a u 0 → Q (.ref a) H'))
theorem low0 {u u' : Int} {s' : Nat} (h : IsLow u 0 u' s') : u' = u ∧ s' = 0 := by
  have a := h.le
  have z : s' = 0 := by omega
  subst z
  have e := h.eq
  simp at e
  exact ⟨e.symm, rfl⟩
theorem ok_asW (A : At K mg "as_worth" pAsW ["value"]) (B : Blt mg) (T : WorthC K mg W) (I : WIs K W) (M : WMk P w K mg base C W) : DefOk P w K mg base (L2.CX P w) "as_worth" 13 ["value"] (spAsW C W) := by
  refine A.ok fun f fd F => F.okX scAsW (fun vs H Q E h => ?_) (fun cdv A outer s H vs Q E hr h => ?_)
  · obtain ⟨x, rfl, _⟩ := h
    rfl
  · obtain ⟨x, rfl, h⟩ := h
    refine ⟨_, pss_one (ps_ret (pe_ifExp (pt_val (pe_callB call_isi (by rfl) B.isi (by decide +kernel) (pa_cons (pv 0) (pa_cons (pe_glob (v := .ref W) (by rfl) T.g rfl) pa_nil)))) (pv 0)
      (pe_worth1 (E := E) M T hr (by decide) (by rfl) (passes_call (takes_of rfl rfl rfl rfl) fun _ _ _ _ z => z) (pv 0)))), ?_⟩
    rcases h with ⟨a, u, s', rfl, wa, q⟩ | ⟨th, q1, q2⟩
    · obtain ⟨dx, ea⟩ := id wa
      refine ⟨_, rfl, _, _, _, _, true, rfl, .own W, .base (.ins ea T.cls I.ha I.hn I.ht I.hm), by unfold PySem.W.kitOne; rw [if_pos (by simp)], _, rfl, iteT ⟨_, rfl, q⟩⟩
    · obtain ⟨ty, hty, tx⟩ := th.tyx (K := K)
      refine ⟨_, rfl, _, _, _, _, false, rfl, .own W, tx, I.no ty hty, _, rfl, iteF ⟨_, rfl, _, rfl, _, _, rfl, th, .int 0, q1, (fun _ z => absurd z (by decide)), fun u s e1 e2 => ?_⟩⟩
      have e3 : (0 : Int) = (s : Int) := V.int.inj e2
      obtain rfl : s = 0 := by omega
      refine ⟨by decide, fun u' s' a H' lw sm na wa => ?_⟩
      obtain ⟨rfl, rfl⟩ := low0 lw
      exact q2 _ a H' e1 sm na wa
end
end K08

/-! k08: units_at, sign, +. -/
namespace K08
open PySem PySem.Spec PyProof.Rows L2 LamX NdefX Own
section
variable {P : Program} {w : World} {K : PySem.W.Frag} {mg : Str → Option Value} {base : Heap} {C C2 W : Addr}
theorem scUat : FnScope ["self", "scale"] ["self", "scale"] (defScope (wI 14)) := ⟨rfl, rfl, rfl, by decide +kernel, rfl, by decide +kernel, by decide +kernel⟩
/-- units_at, at a scale that the worth has -/
def spUat (W : Addr) : Sp := fun vs H Q _ => ∃ (a : Addr) (u : Int) (s n : Nat), vs = [.ref a, .int n] ∧ WAt W H a u s ∧ s ≤ n ∧ n < 500 ∧ u.natAbs < 2 ^ 90000 ∧ Q (.int (u * (10 : Int) ^ (n - s))) H
theorem lk_u (u : Int) (s : Nat) : (wRow u s).lookup ("units" : Str) = some (.int u) := wLk_u u s
theorem lk_s (u : Int) (s : Nat) : (wRow u s).lookup ("scale" : Str) = some (.int s) := wLk_s u s
theorem ok_uat {f : Addr} {fd : FuncData} (F : Fun K "units_at" "Worth.units_at" (wI 14) f fd) (T : WorthC K mg W) (T2 : ErrC P w K mg base "TooFine" "scale" 1 C2 (spErr C2 "scale")) (D1 : DefOk P w K mg base (L2.CX P w) "need_whole_number" 3 ["value"] (spNWh C)) (D2 : DefOk P w K mg base CX0 "ten_to" 9 ["places"] (spTenTo 8)) :
    FnOk P w K mg base (L2.CX P w) 10 f fd ["self", "scale"] (spUat W) := by
  refine F.okX scUat (fun vs H Q E h => ?_) (fun cdv A outer s0 H vs Q E hr h => ?_)
  · obtain ⟨a, u, s, n, rfl, _⟩ := h
    rfl
  · obtain ⟨a, u, s, n, rfl, ⟨dx, ea⟩, hle, hn, hu, q⟩ := h
    refine ⟨_, pss_cons (ps_expr (pe_def (E := E) D1 hr (by decide) (by rfl) (passes_call (takes_of rfl rfl rfl rfl) fun _ _ _ _ z => z) (pa_cons (pv 1) pa_nil)))
      (pss_cons (ps_if (pt_cmpR op_lt (pv 1) (pe_fld (pv 0) (by rfl)) (nomark _)) (pss_one (ps_raise rfl (takes_of rfl rfl rfl rfl) (pmk_err T2 hr (by decide) (by rfl) (pe_fld (pv 0) (by rfl))))) pss_nil)
      (pss_one (ps_ret (pe_op op_mulW (pe_fld (pv 0) (by rfl)) (pe_def (E := E) D2 hr (by decide) (by rfl) pass0 (pa_cons (pe_op op_sub (pv 1) (pe_fld (pv 0) (by rfl))) pa_nil)))))), ?_⟩
    refine ⟨_, rfl, .int n, rfl, .int _, fun _ => ?_, fun z => ?_⟩
    · refine ⟨_, rfl, _, rfl, a, W, dx, _, .int s, rfl, ea, T.cls, T.ns, lk_s _ _, _, _, rfl, rfl, _, rfl, ite2 (fun e => ?_) (fun e => ?_)⟩
      · have z : (n : Int) < (s : Int) := of_decide_eq_true e
        omega
      · refine ⟨_, rfl, a, W, dx, _, .int u, rfl, ea, T.cls, T.nu, lk_u _ _, _, rfl, _, rfl, a, W, dx, _, .int s, rfl, ea, T.cls, T.ns, lk_s _ _, _, _, rfl, rfl, ?_⟩
        have e2 : (n : Int) - (s : Int) = ((n - s : Nat) : Int) := by omega
        dsimp only
        rw [e2]
        exact ⟨n - s, rfl, by omega, _, _, rfl, rfl, wide_mul hu (ten_lt (n - s)) (by decide) (by omega) (by omega), q⟩
    · have z' : isWh (.int (n : Int)) = true := by
        show decide (0 ≤ (n : Int)) = true
        exact decide_eq_true (by omega)
      rw [z'] at z
      cases z
end
end K08

/-! k08: sums and differences of Worths. -/
namespace K08
open PySem PySem.Spec PyProof.Rows L2 LamX NdefX Own
section
variable {P : Program} {w : World} {K : PySem.W.Frag} {mg : Str → Option Value} {base : Heap} {C C2 W : Addr}
/-- a method by its name -/
structure WMeth (P : Program) (w : World) (K : PySem.W.Frag) (mg : Str → Option Value) (base : Heap) (W : Addr) (m : Str) (k : Nat) (ps : List Str) (sp : Sp) : Prop where
  ex : ∃ (f : Addr) (fd : FuncData), Meth K W m f ∧ FnOk P w K mg base (L2.CX P w) k f fd ps sp ∧ Binds K fd ps []
/-- u units at the scale s, told at the scale n -/
def at_ (u : Int) (s n : Nat) : Int := u * (10 : Int) ^ (n - s)
/-- what a new worth of v units at n is told as -/
def Gives (W : Addr) (H : Hp) (v : Int) (n : Nat) (Q : VK) : Prop := ∀ (u' : Int) (s' : Nat) (p : Addr) (H' : Hp), IsLow v n u' s' → Same H H' → H p = none → WAt W H' p u' s' → Q (.ref p) H'
def Small (u : Int) (s : Nat) : Prop := s < 250 ∧ u.natAbs < 2 ^ 40000
/-- self op other, other a worth, an integer or refused -/
def spBin (C W : Addr) (f : Int → Int → Int) : Sp := fun vs H Q E => ∃ (a : Addr) (u : Int) (s : Nat) (y : V), vs = [.ref a, y] ∧ WAt W H a u s ∧ Small u s ∧
  ((∃ (b : Addr) (u2 : Int) (s2 : Nat), y = .ref b ∧ WAt W H b u2 s2 ∧ Small u2 s2 ∧ Gives W H (f (at_ u s (max s s2)) (at_ u2 s2 (max s s2))) (max s s2) Q) ∨
    (Thing H y ∧ (Own.isInt y = false → Bad C "value" y H E) ∧ ∀ n : Int, y = .int n → Small n 0 ∧ Gives W H (f (at_ u s s) (at_ n 0 s)) s Q))
theorem Gives.same {H H' : Hp} {v : Int} {n : Nat} {Q : VK} (h : Gives W H v n Q) (s : Same H H') : Gives W H' v n Q := fun u' s' p H2 lw s2 np wp => h u' s' p H2 lw (s.trans s2) (s.free np) wp
theorem lk_m {m : Str} (u : Int) (s : Nat) (h1 : (m == "units") = false) (h2 : (m == "scale") = false) (h3 : (m == "floor") = false := by decide +kernel) (h4 : (m == "more") = false := by decide +kernel) : (wRow u s).lookup m = none := wLk_no u s h1 h2 h3 h4
theorem at_lt {u : Int} {s n : Nat} (h : u.natAbs < 2 ^ 40000) (hn : n < 500) : (at_ u s n).natAbs < 2 ^ 50000 := up_two (wide_lt h (ten_lt (n - s))) (by omega)
theorem scAdd : FnScope ["self", "other", "scale"] ["self", "other"] (defScope (wI 4)) := ⟨rfl, rfl, rfl, by decide +kernel, rfl, by decide +kernel, by decide +kernel⟩
theorem max_if (s s2 : Nat) : (if ((s2 : Nat) : Int) > ((s : Nat) : Int) then ((s2 : Nat) : Int) else ((s : Nat) : Int)) = ((max s s2 : Nat) : Int) := by
  by_cases h : s < s2
  · rw [if_pos (by omega)]
    omega
  · rw [if_neg (by omega)]
    omega
theorem ok_add {g : Addr} {fd : FuncData} (F : Fun K "__add__" "Worth.__add__" (wI 4) g fd) (B : Blt mg) (T : WorthC K mg W) (M : WMk P w K mg base C W) (D1 : DefOk P w K mg base (L2.CX P w) "as_worth" 13 ["value"] (spAsW C W)) (D2 : WMeth P w K mg base W "units_at" 10 ["self", "scale"] (spUat W)) :
    FnOk P w K mg base (L2.CX P w) 14 g fd ["self", "other"] (spBin C W (· + ·)) := by
  refine F.okX scAdd (fun vs H Q E h => ?_) (fun cdv A outer s0 H vs Q E hr h => ?_)
  · obtain ⟨a, u, s, y, rfl, _⟩ := h
    rfl
  · obtain ⟨a, u, s, y, rfl, wa, sm, h⟩ := h
    obtain ⟨fU, fdU, mU, FU, bU⟩ := D2.ex
    have nd := scAdd.nd
    refine ⟨_, C8.pss_cut (ps_set (i := 1) nd rfl (.inl rfl) (pe_def (E := E) D1 hr (by decide) (by rfl) (passes_call (takes_of rfl rfl rfl rfl) fun _ _ _ _ z => z) (pa_cons (pv 1) pa_nil)))
      (pss_cons (ps_set (i := 2) nd rfl (.inl rfl) (pe_callB (call_max2 rfl) (by rfl) B.max (by decide +kernel) (pa_cons (pe_fld (pv 0) (by rfl)) (pa_cons (pe_fld (pv 1) (by rfl)) pa_nil))))
      (pss_one (ps_ret (pe_worth (E := E) M T hr (by decide) (by rfl) (passes_call (takes_of rfl rfl rfl rfl) fun _ _ _ _ z => z)
        (pa_cons (pe_op op_add (pe_meth (E := E) (pv 0) T.cls mU FU (hr.mono (by decide)) bU .nil (passes_call (takes_of rfl rfl rfl rfl) fun _ _ _ _ z => z) (pa_cons (pv 2) pa_nil))
          (pe_meth (E := E) (pv 1) T.cls mU FU (hr.mono (by decide)) bU .nil (passes_call (takes_of rfl rfl rfl rfl) fun _ _ _ _ z => z) (pa_cons (pv 2) pa_nil))) (pa_cons (pv 2) pa_nil)))))), ?_⟩
    refine ⟨fun σ H1 => ∃ (b : Addr) (u2 : Int) (s2 : Nat), σ = [some (.ref a), some (.ref b), none] ∧ WAt W H1 a u s ∧ WAt W H1 b u2 s2 ∧ Small u2 s2 ∧ Gives W H1 (at_ u s (max s s2) + at_ u2 s2 (max s s2)) (max s s2) Q, ?_, ?_⟩
    · refine ⟨_, rfl, y, rfl, ?_⟩
      rcases h with ⟨b, u2, s2, rfl, wb, sm2, gv⟩ | ⟨th, bad, hn⟩
      · exact .inl ⟨b, u2, s2, rfl, wb, b, u2, s2, rfl, wa, wb, sm2, gv⟩
      · refine .inr ⟨th, bad, fun n p H' e sm' np wp => ⟨p, n, 0, rfl, wa.same sm', wp, (hn n e).1, ?_⟩⟩
        rw [show max s 0 = s by omega]
        exact (hn n e).2.same sm'
    · rintro σ H1 ⟨b, u2, s2, rfl, ⟨dx, ea⟩, ⟨dy, eb⟩, sm2, gv⟩
      refine ⟨_, rfl, a, W, dx, _, .int s, rfl, ea, T.cls, T.ns, lk_s _ _, _, rfl, b, W, dy, _, .int s2, rfl, eb, T.cls, T.ns, lk_s _ _, _, _, rfl, ?_⟩
      dsimp only [gName, List.set]
      rw [max_if]
      have m1 : max s s2 < 500 := by
        have := sm.1
        have := sm2.1
        omega
      refine ⟨_, rfl, a, dx, _, rfl, ea, lk_m _ _ (by decide +kernel) (by decide +kernel), _, rfl, a, u, s, max s s2, rfl, ⟨dx, ea⟩, by omega, m1, up_two sm.2 (by decide), ?_⟩
      refine ⟨_, rfl, b, dy, _, rfl, eb, lk_m _ _ (by decide +kernel) (by decide +kernel), _, rfl, b, u2, s2, max s s2, rfl, ⟨dy, eb⟩, by omega, m1, up_two sm2.2 (by decide), ?_⟩
      refine ⟨_, _, rfl, rfl, _, rfl, .int _, .int _, rfl, .int _, .int _, (fun z => by cases z), (fun _ z => ?_), fun U S e1 e2 => ?_⟩
      · have z' : isWh (.int ((max s s2 : Nat) : Int)) = true := by
          show decide (0 ≤ ((max s s2 : Nat) : Int)) = true
          exact decide_eq_true (by omega)
        rw [z'] at z
        cases z
      · have e3 : ((max s s2 : Nat) : Int) = (S : Int) := V.int.inj e2
        obtain rfl : S = max s s2 := by omega
        have e4 := V.int.inj e1
        rw [← e4]
        exact ⟨m1, fun u' s' p H' lw sm' np wp => gv u' s' p H' lw sm' np wp⟩
end
end K08

/-! k08: the other operators of Worths. -/
namespace K08
open PySem PySem.Spec PyProof.Rows L2 LamX NdefX Own
section
variable {P : Program} {w : World} {K : PySem.W.Frag} {mg : Str → Option Value} {base : Heap} {C C2 W : Addr}
theorem scSub : FnScope ["self", "other", "scale"] ["self", "other"] (defScope (wI 6)) := ⟨rfl, rfl, rfl, by decide +kernel, rfl, by decide +kernel, by decide +kernel⟩
theorem ok_sub {g : Addr} {fd : FuncData} (F : Fun K "__sub__" "Worth.__sub__" (wI 6) g fd) (B : Blt mg) (T : WorthC K mg W) (M : WMk P w K mg base C W) (D1 : DefOk P w K mg base (L2.CX P w) "as_worth" 13 ["value"] (spAsW C W)) (D2 : WMeth P w K mg base W "units_at" 10 ["self", "scale"] (spUat W)) :
    FnOk P w K mg base (L2.CX P w) 14 g fd ["self", "other"] (spBin C W (· - ·)) := by
  refine F.okX scSub (fun vs H Q E h => ?_) (fun cdv A outer s0 H vs Q E hr h => ?_)
  · obtain ⟨a, u, s, y, rfl, _⟩ := h
    rfl
  · obtain ⟨a, u, s, y, rfl, wa, sm, h⟩ := h
    obtain ⟨fU, fdU, mU, FU, bU⟩ := D2.ex
    have nd := scSub.nd
    refine ⟨_, C8.pss_cut (ps_set (i := 1) nd rfl (.inl rfl) (pe_def (E := E) D1 hr (by decide) (by rfl) (passes_call (takes_of rfl rfl rfl rfl) fun _ _ _ _ z => z) (pa_cons (pv 1) pa_nil)))
      (pss_cons (ps_set (i := 2) nd rfl (.inl rfl) (pe_callB (call_max2 rfl) (by rfl) B.max (by decide +kernel) (pa_cons (pe_fld (pv 0) (by rfl)) (pa_cons (pe_fld (pv 1) (by rfl)) pa_nil))))
      (pss_one (ps_ret (pe_worth (E := E) M T hr (by decide) (by rfl) (passes_call (takes_of rfl rfl rfl rfl) fun _ _ _ _ z => z)
        (pa_cons (pe_op op_sub (pe_meth (E := E) (pv 0) T.cls mU FU (hr.mono (by decide)) bU .nil (passes_call (takes_of rfl rfl rfl rfl) fun _ _ _ _ z => z) (pa_cons (pv 2) pa_nil))
          (pe_meth (E := E) (pv 1) T.cls mU FU (hr.mono (by decide)) bU .nil (passes_call (takes_of rfl rfl rfl rfl) fun _ _ _ _ z => z) (pa_cons (pv 2) pa_nil))) (pa_cons (pv 2) pa_nil)))))), ?_⟩
    refine ⟨fun σ H1 => ∃ (b : Addr) (u2 : Int) (s2 : Nat), σ = [some (.ref a), some (.ref b), none] ∧ WAt W H1 a u s ∧ WAt W H1 b u2 s2 ∧ Small u2 s2 ∧ Gives W H1 (at_ u s (max s s2) - at_ u2 s2 (max s s2)) (max s s2) Q, ?_, ?_⟩
    · refine ⟨_, rfl, y, rfl, ?_⟩
      rcases h with ⟨b, u2, s2, rfl, wb, sm2, gv⟩ | ⟨th, bad, hn⟩
      · exact .inl ⟨b, u2, s2, rfl, wb, b, u2, s2, rfl, wa, wb, sm2, gv⟩
      · refine .inr ⟨th, bad, fun n p H' e sm' np wp => ⟨p, n, 0, rfl, wa.same sm', wp, (hn n e).1, ?_⟩⟩
        rw [show max s 0 = s by omega]
        exact (hn n e).2.same sm'
    · rintro σ H1 ⟨b, u2, s2, rfl, ⟨dx, ea⟩, ⟨dy, eb⟩, sm2, gv⟩
      refine ⟨_, rfl, a, W, dx, _, .int s, rfl, ea, T.cls, T.ns, lk_s _ _, _, rfl, b, W, dy, _, .int s2, rfl, eb, T.cls, T.ns, lk_s _ _, _, _, rfl, ?_⟩
      dsimp only [gName, List.set]
      rw [max_if]
      have m1 : max s s2 < 500 := by
        have := sm.1
        have := sm2.1
        omega
      refine ⟨_, rfl, a, dx, _, rfl, ea, lk_m _ _ (by decide +kernel) (by decide +kernel), _, rfl, a, u, s, max s s2, rfl, ⟨dx, ea⟩, by omega, m1, up_two sm.2 (by decide), ?_⟩
      refine ⟨_, rfl, b, dy, _, rfl, eb, lk_m _ _ (by decide +kernel) (by decide +kernel), _, rfl, b, u2, s2, max s s2, rfl, ⟨dy, eb⟩, by omega, m1, up_two sm2.2 (by decide), ?_⟩
      refine ⟨_, _, rfl, rfl, _, rfl, .int _, .int _, rfl, .int _, .int _, (fun z => by cases z), (fun _ z => ?_), fun U S e1 e2 => ?_⟩
      · have z' : isWh (.int ((max s s2 : Nat) : Int)) = true := by
          show decide (0 ≤ ((max s s2 : Nat) : Int)) = true
          exact decide_eq_true (by omega)
        rw [z'] at z
        cases z
      · have e3 : ((max s s2 : Nat) : Int) = (S : Int) := V.int.inj e2
        obtain rfl : S = max s s2 := by omega
        have e4 := V.int.inj e1
        rw [← e4]
        exact ⟨m1, fun u' s' p H' lw sm' np wp => gv u' s' p H' lw sm' np wp⟩
/-- other op self, other no worth -/
def spRef (C W : Addr) (f : Int → Int → Int) : Sp := fun vs H Q E => ∃ (a : Addr) (u : Int) (s : Nat) (y : V), vs = [.ref a, y] ∧ WAt W H a u s ∧ Small u s ∧ Thing H y ∧ (Own.isInt y = false → Bad C "value" y H E) ∧ ∀ n : Int, y = .int n → Small n 0 ∧ Gives W H (f (at_ n 0 s) (at_ u s s)) s Q
theorem scRadd : FnScope ["self", "other"] ["self", "other"] (defScope (wI 5)) := ⟨rfl, rfl, rfl, by decide +kernel, rfl, by decide +kernel, by decide +kernel⟩
/-- the class's own operator -/
structure WOp (P : Program) (w : World) (K : PySem.W.Frag) (mg : Str → Option Value) (base : Heap) (W : Addr) (op : Operator) (k : Nat) (sp : Sp) : Prop where
  ex : ∃ (f : Addr) (fd : FuncData), PySem.W.selfFirst K W = true ∧ PySem.W.findIn K (.ref W) (PySem.dunder op.info.2) = some (some (.ref f)) ∧ PySem.W.isFn K (.ref f) = true ∧ FnOk P w K mg base (L2.CX P w) k f fd ["self", "other"] sp ∧ Binds K fd ["self", "other"] []
theorem ok_radd {g : Addr} {fd : FuncData} (F : Fun K "__radd__" "Worth.__radd__" (wI 5) g fd) (D1 : DefOk P w K mg base (L2.CX P w) "as_worth" 13 ["value"] (spAsW C W)) (D2 : WOp P w K mg base W .Add 14 (spBin C W (· + ·))) :
    FnOk P w K mg base (L2.CX P w) 15 g fd ["self", "other"] (spRef C W (· + ·)) := by
  refine F.okX scRadd (fun vs H Q E h => ?_) (fun cdv A outer s0 H vs Q E hr h => ?_)
  · obtain ⟨a, u, s, y, rfl, _⟩ := h
    rfl
  · obtain ⟨a, u, s, y, rfl, wa, sm, th, bad, hn⟩ := h
    obtain ⟨fA, fdA, c1, c2, c3, FA, bA⟩ := D2.ex
    refine ⟨_, pss_one (ps_ret (pe_op (op_own (op := .Add) (E := E) FA hr c1 c2 c3 bA (passes_call (takes_of rfl rfl rfl rfl) fun _ _ _ _ z => z)) (pe_def (E := E) D1 hr (by decide) (by rfl) (passes_call (takes_of rfl rfl rfl rfl) fun _ _ _ _ z => z) (pa_cons (pv 1) pa_nil)) (pv 0))), ?_⟩
    refine ⟨_, rfl, y, rfl, .inr ⟨th, bad, fun n p H' e sm' np wp => ?_⟩⟩
    obtain ⟨sn, gv⟩ := hn n e
    obtain ⟨dx, ea⟩ := wa.same sm'
    obtain ⟨dp, ep⟩ := id wp
    refine ⟨_, rfl, p, a, dp, dx, _, _, rfl, rfl, ep, ea, p, n, 0, .ref a, rfl, wp, sn, .inl ⟨a, u, s, rfl, ⟨dx, ea⟩, sm, ?_⟩⟩
    rw [show max 0 s = s by omega]
    exact gv.same sm'
theorem scRsub : FnScope ["self", "other"] ["self", "other"] (defScope (wI 7)) := ⟨rfl, rfl, rfl, by decide +kernel, rfl, by decide +kernel, by decide +kernel⟩
theorem ok_rsub {g : Addr} {fd : FuncData} (F : Fun K "__rsub__" "Worth.__rsub__" (wI 7) g fd) (D1 : DefOk P w K mg base (L2.CX P w) "as_worth" 13 ["value"] (spAsW C W)) (D2 : WOp P w K mg base W .Sub 14 (spBin C W (· - ·))) :
    FnOk P w K mg base (L2.CX P w) 15 g fd ["self", "other"] (spRef C W (· - ·)) := by
  refine F.okX scRsub (fun vs H Q E h => ?_) (fun cdv A outer s0 H vs Q E hr h => ?_)
  · obtain ⟨a, u, s, y, rfl, _⟩ := h
    rfl
  · obtain ⟨a, u, s, y, rfl, wa, sm, th, bad, hn⟩ := h
    obtain ⟨fA, fdA, c1, c2, c3, FA, bA⟩ := D2.ex
    refine ⟨_, pss_one (ps_ret (pe_op (op_own (op := .Sub) (E := E) FA hr c1 c2 c3 bA (passes_call (takes_of rfl rfl rfl rfl) fun _ _ _ _ z => z)) (pe_def (E := E) D1 hr (by decide) (by rfl) (passes_call (takes_of rfl rfl rfl rfl) fun _ _ _ _ z => z) (pa_cons (pv 1) pa_nil)) (pv 0))), ?_⟩
    refine ⟨_, rfl, y, rfl, .inr ⟨th, bad, fun n p H' e sm' np wp => ?_⟩⟩
    obtain ⟨sn, gv⟩ := hn n e
    obtain ⟨dx, ea⟩ := wa.same sm'
    obtain ⟨dp, ep⟩ := id wp
    refine ⟨_, rfl, p, a, dp, dx, _, _, rfl, rfl, ep, ea, p, n, 0, .ref a, rfl, wp, sn, .inl ⟨a, u, s, rfl, ⟨dx, ea⟩, sm, ?_⟩⟩
    rw [show max 0 s = s by omega]
    exact gv.same sm'
end
end K08

/-! k08: products, negatives, sizes, signs, equality of Worths. -/
namespace K08
open PySem PySem.Spec PyProof.Rows L2 LamX NdefX Own
section
variable {P : Program} {w : World} {K : PySem.W.Frag} {mg : Str → Option Value} {base : Heap} {C C2 W : Addr}
theorem isWh_cast (n : Nat) : isWh (.int (n : Int)) = true := by
  show decide (0 ≤ (n : Int)) = true
  exact decide_eq_true (by omega)
/-- a new worth of v units at n -/
theorem worth_of {H : Hp} {v : Int} {n : Nat} {Q : VK} {E : XK} (hn : n < 500) (gv : Gives W H v n Q) : spWorth C W [.int v, .int n] H Q E := by
  refine ⟨.int v, .int n, rfl, .int _, .int _, (fun z => by cases z), (fun _ z => ?_), fun U S e1 e2 => ?_⟩
  · rw [isWh_cast] at z
    cases z
  · have e3 : (n : Int) = (S : Int) := V.int.inj e2
    obtain rfl : S = n := by omega
    rw [← V.int.inj e1]
    exact ⟨hn, gv⟩
theorem scMul : FnScope ["self", "other"] ["self", "other"] (defScope (wI 8)) := ⟨rfl, rfl, rfl, by decide +kernel, rfl, by decide +kernel, by decide +kernel⟩
def spMulW (C W : Addr) : Sp := fun vs H Q E => ∃ (a : Addr) (u : Int) (s : Nat) (y : V), vs = [.ref a, y] ∧ WAt W H a u s ∧ Small u s ∧
  ((∃ (b : Addr) (u2 : Int) (s2 : Nat), y = .ref b ∧ WAt W H b u2 s2 ∧ Small u2 s2 ∧ Gives W H (u * u2) (s + s2) Q) ∨ (Thing H y ∧ (Own.isInt y = false → Bad C "value" y H E) ∧ ∀ n : Int, y = .int n → Small n 0 ∧ Gives W H (u * n) s Q))
theorem ok_mul {g : Addr} {fd : FuncData} (F : Fun K "__mul__" "Worth.__mul__" (wI 8) g fd) (T : WorthC K mg W) (M : WMk P w K mg base C W) (D1 : DefOk P w K mg base (L2.CX P w) "as_worth" 13 ["value"] (spAsW C W)) :
    FnOk P w K mg base (L2.CX P w) 14 g fd ["self", "other"] (spMulW C W) := by
  refine F.okX scMul (fun vs H Q E h => ?_) (fun cdv A outer s0 H vs Q E hr h => ?_)
  · obtain ⟨a, u, s, y, rfl, _⟩ := h
    rfl
  · obtain ⟨a, u, s, y, rfl, wa, sm, h⟩ := h
    have nd := scMul.nd
    refine ⟨_, C8.pss_cut (ps_set (i := 1) nd rfl (.inl rfl) (pe_def (E := E) D1 hr (by decide) (by rfl) (passes_call (takes_of rfl rfl rfl rfl) fun _ _ _ _ z => z) (pa_cons (pv 1) pa_nil)))
      (pss_one (ps_ret (pe_worth (E := E) M T hr (by decide) (by rfl) (passes_call (takes_of rfl rfl rfl rfl) fun _ _ _ _ z => z)
        (pa_cons (pe_op op_mulW (pe_fld (pv 0) (by rfl)) (pe_fld (pv 1) (by rfl))) (pa_cons (pe_op op_add (pe_fld (pv 0) (by rfl)) (pe_fld (pv 1) (by rfl))) pa_nil))))), ?_⟩
    refine ⟨fun σ H1 => ∃ (b : Addr) (u2 : Int) (s2 : Nat), σ = [some (.ref a), some (.ref b)] ∧ WAt W H1 a u s ∧ WAt W H1 b u2 s2 ∧ Small u2 s2 ∧ Gives W H1 (u * u2) (s + s2) Q, ?_, ?_⟩
    · refine ⟨_, rfl, y, rfl, ?_⟩
      rcases h with ⟨b, u2, s2, rfl, wb, sm2, gv⟩ | ⟨th, bad, hn⟩
      · exact .inl ⟨b, u2, s2, rfl, wb, b, u2, s2, rfl, wa, wb, sm2, gv⟩
      · exact .inr ⟨th, bad, fun n p H' e sm' np wp => ⟨p, n, 0, rfl, wa.same sm', wp, (hn n e).1, (hn n e).2.same sm'⟩⟩
    · rintro σ H1 ⟨b, u2, s2, rfl, ⟨dx, ea⟩, ⟨dy, eb⟩, sm2, gv⟩
      refine ⟨_, rfl, a, W, dx, _, .int u, rfl, ea, T.cls, T.nu, lk_u _ _, _, rfl, b, W, dy, _, .int u2, rfl, eb, T.cls, T.nu, lk_u _ _, _, _, rfl, rfl, wide_mul sm.2 sm2.2 (by decide) (by decide) (by decide), ?_⟩
      refine ⟨_, rfl, a, W, dx, _, .int s, rfl, ea, T.cls, T.ns, lk_s _ _, _, rfl, b, W, dy, _, .int s2, rfl, eb, T.cls, T.ns, lk_s _ _, _, _, rfl, rfl, ?_⟩
      have e2 : (s : Int) + (s2 : Int) = ((s + s2 : Nat) : Int) := by omega
      dsimp only
      rw [e2]
      have l1 := sm.1
      have l2 := sm2.1
      exact worth_of (by omega) gv
theorem scRmul : FnScope ["self", "other"] ["self", "other"] (defScope (wI 9)) := ⟨rfl, rfl, rfl, by decide +kernel, rfl, by decide +kernel, by decide +kernel⟩
def spRmul (C W : Addr) : Sp := fun vs H Q E => ∃ (a : Addr) (u : Int) (s : Nat) (y : V), vs = [.ref a, y] ∧ WAt W H a u s ∧ Small u s ∧ Thing H y ∧ (Own.isInt y = false → Bad C "value" y H E) ∧ ∀ n : Int, y = .int n → Small n 0 ∧ Gives W H (n * u) s Q
theorem ok_rmul {g : Addr} {fd : FuncData} (F : Fun K "__rmul__" "Worth.__rmul__" (wI 9) g fd) (D1 : DefOk P w K mg base (L2.CX P w) "as_worth" 13 ["value"] (spAsW C W)) (D2 : WOp P w K mg base W .Mult 14 (spMulW C W)) :
    FnOk P w K mg base (L2.CX P w) 15 g fd ["self", "other"] (spRmul C W) := by
  refine F.okX scRmul (fun vs H Q E h => ?_) (fun cdv A outer s0 H vs Q E hr h => ?_)
  · obtain ⟨a, u, s, y, rfl, _⟩ := h
    rfl
  · obtain ⟨a, u, s, y, rfl, wa, sm, th, bad, hn⟩ := h
    obtain ⟨fA, fdA, c1, c2, c3, FA, bA⟩ := D2.ex
    refine ⟨_, pss_one (ps_ret (pe_op (op_own (op := .Mult) (E := E) FA hr c1 c2 c3 bA (passes_call (takes_of rfl rfl rfl rfl) fun _ _ _ _ z => z)) (pe_def (E := E) D1 hr (by decide) (by rfl) (passes_call (takes_of rfl rfl rfl rfl) fun _ _ _ _ z => z) (pa_cons (pv 1) pa_nil)) (pv 0))), ?_⟩
    refine ⟨_, rfl, y, rfl, .inr ⟨th, bad, fun n p H' e sm' np wp => ?_⟩⟩
    obtain ⟨sn, gv⟩ := hn n e
    obtain ⟨dx, ea⟩ := wa.same sm'
    obtain ⟨dp, ep⟩ := id wp
    refine ⟨_, rfl, p, a, dp, dx, _, _, rfl, rfl, ep, ea, p, n, 0, .ref a, rfl, wp, sn, .inl ⟨a, u, s, rfl, ⟨dx, ea⟩, sm, ?_⟩⟩
    rw [show 0 + s = s by omega]
    exact gv.same sm'
theorem scNeg : FnScope ["self"] ["self"] (defScope (wI 10)) := ⟨rfl, rfl, rfl, by decide +kernel, rfl, by decide +kernel, by decide +kernel⟩
def spUn (W : Addr) (f : Int → Int) : Sp := fun vs H Q _ => ∃ (a : Addr) (u : Int) (s : Nat), vs = [.ref a] ∧ WAt W H a u s ∧ Small u s ∧ Gives W H (f u) s Q
theorem ok_neg {g : Addr} {fd : FuncData} (F : Fun K "__neg__" "Worth.__neg__" (wI 10) g fd) (T : WorthC K mg W) (M : WMk P w K mg base C W) : FnOk P w K mg base (L2.CX P w) 13 g fd ["self"] (spUn W fun u => -u) := by
  refine F.okX scNeg (fun vs H Q E h => ?_) (fun cdv A outer s0 H vs Q E hr h => ?_)
  · obtain ⟨a, u, s, rfl, _⟩ := h
    rfl
  · obtain ⟨a, u, s, rfl, ⟨dx, ea⟩, sm, gv⟩ := h
    refine ⟨_, pss_one (ps_ret (pe_worth (E := E) M T hr (by decide) (by rfl) (passes_call (takes_of rfl rfl rfl rfl) fun _ _ _ _ z => z) (pa_cons (pe_un un_neg (pe_fld (pv 0) (by rfl))) (pa_cons (pe_fld (pv 0) (by rfl)) pa_nil)))), ?_⟩
    refine ⟨_, rfl, a, W, dx, _, .int u, rfl, ea, T.cls, T.nu, lk_u _ _, u, rfl, _, rfl, a, W, dx, _, .int s, rfl, ea, T.cls, T.ns, lk_s _ _, ?_⟩
    have l1 := sm.1
    exact worth_of (by omega) gv
theorem scAbs : FnScope ["self"] ["self"] (defScope (wI 11)) := ⟨rfl, rfl, rfl, by decide +kernel, rfl, by decide +kernel, by decide +kernel⟩
theorem ok_abs {g : Addr} {fd : FuncData} (F : Fun K "__abs__" "Worth.__abs__" (wI 11) g fd) (B : Blt mg) (T : WorthC K mg W) (M : WMk P w K mg base C W) : FnOk P w K mg base (L2.CX P w) 13 g fd ["self"] (spUn W fun u => if u < 0 then -u else u) := by
  refine F.okX scAbs (fun vs H Q E h => ?_) (fun cdv A outer s0 H vs Q E hr h => ?_)
  · obtain ⟨a, u, s, rfl, _⟩ := h
    rfl
  · obtain ⟨a, u, s, rfl, ⟨dx, ea⟩, sm, gv⟩ := h
    refine ⟨_, pss_one (ps_ret (pe_worth (E := E) M T hr (by decide) (by rfl) (passes_call (takes_of rfl rfl rfl rfl) fun _ _ _ _ z => z) (pa_cons (pe_callB call_abs (by rfl) B.abs (by decide +kernel) (pa_cons (pe_fld (pv 0) (by rfl)) pa_nil)) (pa_cons (pe_fld (pv 0) (by rfl)) pa_nil)))), ?_⟩
    refine ⟨_, rfl, a, W, dx, _, .int u, rfl, ea, T.cls, T.nu, lk_u _ _, u, rfl, _, rfl, a, W, dx, _, .int s, rfl, ea, T.cls, T.ns, lk_s _ _, ?_⟩
    have l1 := sm.1
    exact worth_of (by omega) gv
theorem scSgn : FnScope ["self"] ["self"] (defScope (wI 13)) := ⟨rfl, rfl, rfl, by decide +kernel, rfl, by decide +kernel, by decide +kernel⟩
def sgn (u : Int) : Int := if u = 0 then 0 else if 0 < u then 1 else -1
def spSgn (W : Addr) : Sp := fun vs H Q _ => ∃ (a : Addr) (u : Int) (s : Nat), vs = [.ref a] ∧ WAt W H a u s ∧ Q (.int (sgn u)) H
theorem ok_sgn {g : Addr} {fd : FuncData} (F : Fun K "sign" "Worth.sign" (wI 13) g fd) (T : WorthC K mg W) : FnOk P w K mg base (L2.CX P w) 1 g fd ["self"] (spSgn W) := by
  refine F.okX scSgn (fun vs H Q E h => ?_) (fun cdv A outer s0 H vs Q E hr h => ?_)
  · obtain ⟨a, u, s, rfl, _⟩ := h
    rfl
  · obtain ⟨a, u, s, rfl, ⟨dx, ea⟩, q⟩ := h
    refine ⟨_, pss_cons (ps_if (pt_cmpR op_eq (pe_fld (pv 0) (by rfl)) pe_int (nomark _)) (pss_one (ps_ret pe_int)) pss_nil)
      (pss_one (ps_ret (pe_ifExp (pt_cmpR op_gt (pe_fld (pv 0) (by rfl)) pe_int (nomark _)) pe_int (pe_un un_neg pe_int)))), ?_⟩
    unfold sgn at q
    refine ⟨_, rfl, a, W, dx, _, .int u, rfl, ea, T.cls, T.nu, lk_u _ _, rfl, _, rfl, ite2 (fun e => ?_) (fun e => ?_)⟩
    · have h0 : u = 0 := by simpa using e
      rw [if_pos h0] at q
      exact q
    · have h0 : u ≠ 0 := by simpa using e
      rw [if_neg h0] at q
      refine ⟨_, rfl, a, W, dx, _, .int u, rfl, ea, T.cls, T.nu, lk_u _ _, _, _, rfl, rfl, _, rfl, ite2 (fun e => ?_) (fun e => ?_)⟩
      · rw [if_pos (of_decide_eq_true e)] at q
        exact q
      · rw [if_neg (fun z => e (decide_eq_true z))] at q
        exact ⟨_, rfl, q⟩
end
end K08

/-! k08: == of Worths, compare. -/
namespace K08
open PySem PySem.Spec PyProof.Rows L2 LamX NdefX Own
abbrev pNeedW : Stmt := topS 17
section
variable {P : Program} {w : World} {K : PySem.W.Frag} {mg : Str → Option Value} {base : Heap} {C C2 W : Addr}
theorem scEq : FnScope ["self", "other"] ["self", "other"] (defScope (wI 1)) := ⟨rfl, rfl, rfl, by decide +kernel, rfl, by decide +kernel, by decide +kernel⟩
def spEqW (W : Addr) : Sp := fun vs H Q _ => ∃ (a : Addr) (u : Int) (s : Nat) (y : V), vs = [.ref a, y] ∧ WAt W H a u s ∧ ((∃ (b : Addr) (u2 : Int) (s2 : Nat), y = .ref b ∧ WAt W H b u2 s2 ∧ ∀ H', Same H H' → Q (.bl (decide (u = u2) && decide (s = s2))) H') ∨ (Thing H y ∧ Q (.bl false) H))
theorem ok_eq {g : Addr} {fd : FuncData} (F : Fun K "__eq__" "Worth.__eq__" (wI 1) g fd) (B : Blt mg) (T : WorthC K mg W) (I : WIs K W) : FnOk P w K mg base (L2.CX P w) 1 g fd ["self", "other"] (spEqW W) := by
  refine F.okX scEq (fun vs H Q E h => ?_) (fun cdv A outer s0 H vs Q E hr h => ?_)
  · obtain ⟨a, u, s, y, rfl, _⟩ := h
    rfl
  · obtain ⟨a, u, s, y, rfl, ⟨dx, ea⟩, h⟩ := h
    refine ⟨_, pss_cons (ps_if (pt_not (pt_val (pe_callB call_isi (by rfl) B.isi (by decide +kernel) (pa_cons (pv 1) (pa_cons (pe_glob (v := .ref W) (by rfl) T.g rfl) pa_nil))))) (pss_one (ps_ret pe_bl)) pss_nil)
      (pss_one (ps_ret (pe_cmpR (op_eqD hr.units) (pe_tup (pa_cons (pe_fld (pv 0) (by rfl)) (pa_cons (pe_fld (pv 0) (by rfl)) pa_nil))) (pe_tup (pa_cons (pe_fld (pv 1) (by rfl)) (pa_cons (pe_fld (pv 1) (by rfl)) pa_nil))) (nomark _)))), ?_⟩
    rcases h with ⟨b, u2, s2, rfl, ⟨dy, eb⟩, q⟩ | ⟨th, q⟩
    · refine ⟨_, rfl, _, _, _, _, true, rfl, .own W, .base (.ins eb T.cls I.ha I.hn I.ht I.hm), by unfold PySem.W.kitOne; rw [if_pos (by simp)], _, rfl, iteF ?_⟩
      refine ⟨_, rfl, a, W, dx, _, .int (wFl u s), rfl, ea, T.cls, T.nf, wLk_f u s, _, rfl, a, W, dx, _, .str (wMo u s), rfl, ea, T.cls, T.nm, wLk_m u s, by show 2 ≤ sizeLine; decide, fun p np => ?_⟩
      have s1 := same_new (o := HO.tup [.int (wFl u s), .str (wMo u s)]) np
      have e1 : upd H p (.tup [.int (wFl u s), .str (wMo u s)]) p = some (.tup [.int (wFl u s), .str (wMo u s)]) := upd_same
      generalize upd H p (.tup [.int (wFl u s), .str (wMo u s)]) = H1 at s1 e1 ⊢
      have eb1 := s1 _ _ eb
      refine ⟨_, rfl, b, W, dy, _, .int (wFl u2 s2), rfl, eb1, T.cls, T.nf, wLk_f u2 s2, _, rfl, b, W, dy, _, .str (wMo u2 s2), rfl, eb1, T.cls, T.nm, wLk_m u2 s2, by show 2 ≤ sizeLine; decide, fun p2 np2 => ?_⟩
      have s2' := same_new (o := HO.tup [.int (wFl u2 s2), .str (wMo u2 s2)]) np2
      refine ⟨_, _, w_dp (s2' _ _ e1), w_dp upd_same, w_sh u s, w_sh u2 s2, ?_⟩
      rw [w_eqv]
      exact q _ (s1.trans s2')
    · obtain ⟨ty, hty, tx⟩ := th.tyx (K := K)
      exact ⟨_, rfl, _, _, _, _, false, rfl, .own W, tx, I.no ty hty, _, rfl, iteT q⟩
theorem scNeedW : FnScope ["value"] ["value"] (defScope pNeedW) := ⟨rfl, rfl, rfl, by decide +kernel, rfl, by decide +kernel, by decide +kernel⟩
def spNeedW (C W : Addr) : Sp := fun vs H Q E => ∃ x : V, vs = [x] ∧ ((∃ (a : Addr) (u : Int) (s : Nat), x = .ref a ∧ WAt W H a u s ∧ Q .non H) ∨ (Thing H x ∧ Bad C "value" x H E))
theorem ok_needW (A : At K mg "need_worth" pNeedW ["value"]) (B : Blt mg) (T : WorthC K mg W) (I : WIs K W) (TE : ErrC P w K mg base "BadValue" "value" 1 C (spErr C "value")) : DefOk P w K mg base (L2.CX P w) "need_worth" 3 ["value"] (spNeedW C W) := by
  refine A.ok fun f fd F => F.okX scNeedW (fun vs H Q E h => ?_) (fun cdv A outer s H vs Q E hr h => ?_)
  · obtain ⟨x, rfl, _⟩ := h
    rfl
  · obtain ⟨x, rfl, h⟩ := h
    refine ⟨_, pss_one (ps_if (pt_not (pt_val (pe_callB call_isi (by rfl) B.isi (by decide +kernel) (pa_cons (pv 0) (pa_cons (pe_glob (v := .ref W) (by rfl) T.g rfl) pa_nil))))) (pss_one (ps_raise rfl (takes_of rfl rfl rfl rfl) (pmk_err TE hr (by decide) (by rfl) (pv 0)))) pss_nil), ?_⟩
    rcases h with ⟨a, u, s', rfl, ⟨dx, ea⟩, q⟩ | ⟨th, bad⟩
    · exact ⟨_, rfl, _, _, _, _, true, rfl, .own W, .base (.ins ea T.cls I.ha I.hn I.ht I.hm), by unfold PySem.W.kitOne; rw [if_pos (by simp)], _, rfl, iteF q⟩
    · obtain ⟨ty, hty, tx⟩ := th.tyx (K := K)
      exact ⟨_, rfl, _, _, _, _, false, rfl, .own W, tx, I.no ty hty, _, rfl, iteT ⟨_, rfl, bad_mk bad⟩⟩
theorem sgn_mul {u : Int} {n : Nat} : sgn (u * (10 : Int) ^ n) = sgn u := by
  have p := ten_pos n
  unfold sgn
  by_cases h : u = 0
  · subst h
    simp
  · have h1 : u * (10 : Int) ^ n ≠ 0 := Int.mul_ne_zero h (by omega)
    rw [if_neg h, if_neg h1]
    by_cases h2 : 0 < u
    · rw [if_pos h2, if_pos (Int.mul_pos h2 p)]
    · have h3 : u * (10 : Int) ^ n < 0 := Int.mul_neg_of_neg_of_pos (by omega) p
      rw [if_neg h2, if_neg (by omega)]
end
end K08

/-! k08: the law's small defs. -/
namespace K08
open PySem PySem.Spec PyProof.Rows L2 LamX NdefX Own
abbrev sDrawn : Stmt := topS 33
abbrev sTold : Stmt := topS 35
section
variable {P : Program} {w : World} {K : PySem.W.Frag} {mg : Str → Option Value} {base : Heap} {C C2 W : Addr}
theorem scDrawn : FnScope ["_law_pen", "_law_units", "_law_scale"] ["_law_pen"] (defScope sDrawn) := ⟨rfl, rfl, rfl, by decide +kernel, rfl, by decide +kernel, by decide +kernel⟩
/-- a worth as a pair -/
def spDrawn : Sp := fun vs H Q _ => ∃ (d : Addr) (B : Int), vs = [.ref d] ∧ Pen H d B ∧ B ≤ 800000000 ∧ ∀ (u : Int) (s : Nat) (r : Addr) (H' : Hp), u.natAbs < 2 ^ 250 → s ≤ 40 → Keep d H H' → Pen H' d (B + 1000) → H' r = some (.tup [.int u, .int s]) → r ≠ d → Q (.ref r) H'
theorem fig60 {v : Int} (h0 : 0 ≤ v) (h : v ≤ 3 * (10 : Int) ^ 60) : v.natAbs < 2 ^ 220 := by
  have c : (3 * (10 : Int) ^ 60) < 2 ^ 220 := by decide +kernel
  have e : ((2 : Int) ^ 220) = ((2 ^ 220 : Nat) : Int) := by decide +kernel
  omega
theorem ok_drawn (A : At K mg "_law_drawn" sDrawn ["_law_pen"]) (D1 : DefOk P w K mg base CX0 "_law_draw" 1 ["_law_pen", "_law_span"] spDraw) (D2 : DefOk P w K mg base CX0 "_law_pick" 2 ["_law_pen", "_law_some"] spPick) (D3 : DefOk P w K mg base CX0 "_law_figures" 2 ["_law_pen", "_law_most"] spFigs) :
    DefOk P w K mg base CX0 "_law_drawn" 3 ["_law_pen"] spDrawn := by
  refine A.ok fun f fd F => F.ok scDrawn (fun vs H Q E h => ?_) (fun cdv A outer s0 H vs Q E hr h => ?_)
  · obtain ⟨d, B, rfl, _⟩ := h
    rfl
  · obtain ⟨d, B, rfl, hp, hB, q⟩ := h
    have nd := scDrawn.nd
    refine ⟨_, pss_cons (ps_par (i := 1) (j := 2) (by rfl) nd rfl rfl (by decide) rfl rfl (pa_cons (pe_def D3 hr (by decide) (by rfl) pass0 (pa_cons (pv 0) (pa_cons pe_int pa_nil)))
        (pa_cons (pe_def D2 hr (by decide) (by rfl) pass0 (pa_cons (pv 0) (pa_cons (pe_lst (pa_cons pe_int (pa_cons pe_int (pa_cons pe_int (pa_cons (pe_def D1 hr (by decide) (by rfl) pass0 (pa_cons (pv 0) (pa_cons pe_int pa_nil))) pa_nil))))) pa_nil))) pa_nil)) (by rfl))
      (pss_one (ps_ret (pe_tup (pa_cons (pe_op op_mulW (pe_def D2 hr (by decide) (by rfl) pass0 (pa_cons (pv 0) (pa_cons (pe_lst (pa_cons pe_int (pa_cons (pe_un un_neg pe_int) pa_nil))) pa_nil))) (pv 1)) (pa_cons (pv 2) pa_nil))))), ?_⟩
    refine ⟨_, rfl, d, 60, B, rfl, by decide, by decide, hp, by omega, fun v H1 a1 a2 k1 p1 => ?_⟩
    refine ⟨_, rfl, _, rfl, d, 41, _, rfl, p1, by omega, by decide, by decide, fun z H2 b1 b2 k2 p2 => ?_⟩
    refine ⟨by show 4 ≤ sizeLine; decide, fun l nl => ?_⟩
    refine ⟨d, l, _, _, rfl, upd_same, by simp, by show 4 ≤ 1000; decide, p2.same (same_new nl), by omega, fun x H3 hx k3 p3 => ?_⟩
    have hx : ∃ s : Nat, x = .int s ∧ s ≤ 40 := by
      simp only [List.mem_cons, List.not_mem_nil, or_false] at hx
      rcases hx with rfl | rfl | rfl | rfl
      · exact ⟨0, rfl, by decide⟩
      · exact ⟨1, rfl, by decide⟩
      · exact ⟨2, rfl, by decide⟩
      · exact ⟨z.toNat, by rw [Int.toNat_of_nonneg b1], by omega⟩
    obtain ⟨s, rfl, hs⟩ := hx
    refine ⟨_, _, rfl, ?_⟩
    refine ⟨_, rfl, _, rfl, by show 2 ≤ sizeLine; decide, fun l2 nl2 => ?_⟩
    refine ⟨d, l2, _, _, rfl, upd_same, by simp, by show 2 ≤ 1000; decide, p3.same (same_new nl2), by omega, fun x H4 hx k4 p4 => ?_⟩
    have hx : ∃ y : Int, x = .int y ∧ y.natAbs < 2 ^ 1 := by
      simp only [List.mem_cons, List.not_mem_nil, or_false] at hx
      rcases hx with rfl | rfl
      · exact ⟨_, rfl, by decide⟩
      · exact ⟨_, rfl, by decide⟩
    obtain ⟨y, rfl, hy⟩ := hx
    have f1 := fig60 a1 a2
    refine ⟨_, rfl, _, _, rfl, rfl, wide_mul hy f1 (by decide) (by decide) (by decide), _, rfl, by show 2 ≤ sizeLine; decide, fun r nr => ?_⟩
    obtain ⟨pp, ns, cc, ll, ed, _⟩ := id p4.ex
    refine q _ s r _ (up_two (wide_lt hy f1) (by decide)) hs (((k1.trans k2).trans ((Keep.new nl).trans k3)).trans (((Keep.new nl2).trans k4).trans (Keep.new nr))) ((p4.same (same_new nr)).mono (by omega)) upd_same (ne_of_none ed nr).symm
end
end K08

/-! k08: told. -/
namespace K08
open PySem PySem.Spec PyProof.Rows L2 LamX NdefX Own
section
variable {P : Program} {w : World} {K : PySem.W.Frag} {mg : Str → Option Value} {base : Heap} {C C2 W : Addr}
theorem scTold : FnScope ["_law_worth", "_law_part"] ["_law_worth"] (defScope sTold) := ⟨rfl, rfl, rfl, by decide +kernel, rfl, by decide +kernel, by decide +kernel⟩
def spTold (W : Addr) : Sp := fun vs H Q _ => ∃ (a : Addr) (u : Int) (s : Nat), vs = [.ref a] ∧ WAt W H a u s ∧ ∀ (r : Addr) (H' : Hp), Same H H' → H r = none → H' r = some (.tup [.int u, .int s]) → Q (.ref r) H'
theorem ok_told (A : At K mg "_law_told" sTold ["_law_worth"]) (B : Blt mg) (T : WorthC K mg W) (I : WIs K W) : DefOk P w K mg base CX0 "_law_told" 1 ["_law_worth"] (spTold W) := by
  refine A.ok fun f fd F => F.ok scTold (fun vs H Q E h => ?_) (fun cdv A outer s0 H vs Q E hr h => ?_)
  · obtain ⟨a, u, s, rfl, _⟩ := h
    rfl
  · obtain ⟨a, u, s, rfl, ⟨dx, ea⟩, q⟩ := h
    have nd := scTold.nd
    refine ⟨_, pss_cons (ps_if (pt_not (pt_val (pe_callB call_isi (by rfl) B.isi (by decide +kernel) (pa_cons (pv 0) (pa_cons (pe_glob (v := .ref W) (by rfl) T.g rfl) pa_nil))))) (pss_one (ps_ret pe_non)) pss_nil)
      (pss_cons (ps_for PassesOwn.never rfl (pi_tup (pe_tup (pa_cons (pe_fld (pv 0) (by rfl)) (pa_cons (pe_fld (pv 0) (by rfl)) pa_nil)))) (pg_name (i := 1) nd rfl (.inl rfl))
        (pss_one (ps_if (PW.pt (pw_or (pt_not (pt_val (pe_callB call_isi (by rfl) B.isi (by decide +kernel) (pa_cons (pv 1) (pa_cons (pe_bltn (v := .ty "int") (by rfl) B.int (by decide +kernel) rfl) pa_nil)))))
          (pw_or1 (pt_val (pe_callB call_isi (by rfl) B.isi (by decide +kernel) (pa_cons (pv 1) (pa_cons (pe_bltn (v := .ty "bool") (by rfl) B.bool (by decide +kernel) rfl) pa_nil))))))) (pss_one (ps_ret pe_non)) pss_nil)))
      (pss_one (ps_ret (pe_tup (pa_cons (pe_fld (pv 0) (by rfl)) (pa_cons (pe_fld (pv 0) (by rfl)) pa_nil)))))), ?_⟩
    refine ⟨_, rfl, _, _, _, _, true, rfl, .own W, .base (.ins ea T.cls I.ha I.hn I.ht I.hm), by unfold PySem.W.kitOne; rw [if_pos (by simp)], _, rfl, iteF ?_⟩
    refine ⟨_, rfl, a, W, dx, _, .int u, rfl, ea, T.cls, T.nu, lk_u _ _, _, rfl, a, W, dx, _, .int s, rfl, ea, T.cls, T.ns, lk_s _ _, by show 2 ≤ sizeLine; decide, fun p np => ?_⟩
    have s1 := same_new (o := HO.tup [.int u, .int s]) np
    refine ⟨p, rfl, ⟨_, SqT.of upd_same⟩, for_tup (K := K) (xs := [.int u, .int s]) (fun i σ H' => (∃ y : Option V, σ = [some (.ref a), y]) ∧ H' = upd H p (.tup [.int u, .int s])) ⟨⟨none, rfl⟩, rfl⟩ (fun i σ H' _ z => by rw [z.2]; exact SqT.of upd_same) ?_ ?_⟩
    · rintro i x σ H' hx ⟨⟨y, rfl⟩, rfl⟩
      have hi : ∃ n : Int, x = .int n := by
        have m := List.mem_of_getElem? hx
        simp only [List.mem_cons, List.not_mem_nil, or_false] at m
        rcases m with rfl | rfl
        · exact ⟨_, rfl⟩
        · exact ⟨_, rfl⟩
      obtain ⟨n, rfl⟩ := hi
      obtain ⟨t, h1, h2, h3⟩ := (Thing.int (H := upd H p (.tup [.int u, .int s])) n).isi (K := K)
      refine ⟨_, rfl, _, _, t, _, _, rfl, .ty _, h1, h2, _, rfl, iteF ⟨_, rfl, _, _, t, _, _, rfl, .ty _, h1, h3, _, rfl, iteF ?_⟩⟩
      exact ⟨⟨_, rfl⟩, rfl⟩
    · rintro σ H' ⟨⟨y, rfl⟩, rfl⟩
      have ea1 := s1 _ _ ea
      refine ⟨_, rfl, a, W, dx, _, .int u, rfl, ea1, T.cls, T.nu, lk_u _ _, _, rfl, a, W, dx, _, .int s, rfl, ea1, T.cls, T.ns, lk_s _ _, by show 2 ≤ sizeLine; decide, fun r nr => ?_⟩
      exact q r _ (s1.trans (same_new nr)) (s1.free nr) upd_same
end
end K08

/-! k08: the zeros behind a number, as its text tells them. -/
namespace Own
open PySem PySem.Spec PyProof.Rows L2
def isZ (c : Nat) : Bool := (#[48] : Array Nat).contains c
theorem isZ_iff (c : Nat) : isZ c = true ↔ c = 48 := by
  unfold isZ
  simp
/-- zeros at the end -/
def zz (l : List Nat) : Nat := (l.reverse.takeWhile isZ).length
theorem zz_snoc (l : List Nat) (c : Nat) : zz (l ++ [c]) = if isZ c = true then zz l + 1 else 0 := by
  unfold zz
  rw [List.reverse_append, List.reverse_singleton, List.singleton_append, List.takeWhile_cons]
  by_cases h : isZ c = true
  · rw [if_pos h, if_pos h, List.length_cons]
  · rw [if_neg h, if_neg h]
    rfl
theorem zz_cons {c : Nat} (h : isZ c = false) : ∀ l : List Nat, zz (c :: l) = zz l := by
  intro l
  unfold zz
  rw [List.reverse_cons, List.takeWhile_append]
  split
  · rename_i e
    rw [List.takeWhile_cons, h]
    simp [e]
  · rfl
theorem zz_num : ∀ n : Nat, 0 < n → 10 ^ zz (TL.numL n) ∣ n ∧ ¬ 10 ^ (zz (TL.numL n) + 1) ∣ n := by
  intro n
  induction n using Nat.strongRecOn with
  | _ n ih =>
    intro h0
    by_cases h : n < 10
    · rw [TL.numL_lt h]
      have e : zz ([48 + n] : List Nat) = 0 := by
        have z := zz_snoc [] (48 + n)
        rw [List.nil_append] at z
        rw [z, if_neg]
        rw [isZ_iff]
        omega
      rw [e]
      exact ⟨by simp, by simp; omega⟩
    · rw [TL.numL_step (by omega), zz_snoc]
      by_cases hz : n % 10 = 0
      · rw [if_pos (by rw [isZ_iff]; omega)]
        obtain ⟨i1, i2⟩ := ih (n / 10) (by omega) (by omega)
        have en : n = 10 * (n / 10) := by omega
        refine ⟨?_, fun d => i2 ?_⟩
        · rw [en, Nat.pow_succ, Nat.mul_comm]
          have : 10 * (n / 10) / 10 = n / 10 := by omega
          rw [this]
          exact Nat.mul_dvd_mul_left 10 i1
        · rw [en, Nat.pow_succ, Nat.mul_comm] at d
          have : 10 * (n / 10) / 10 = n / 10 := by omega
          rw [this] at d
          exact Nat.dvd_of_mul_dvd_mul_left (by decide) d
      · rw [if_neg (by rw [isZ_iff]; omega)]
        exact ⟨by simp, by simp; omega⟩
open PySem.Builtin PySem.Builtin.Str in
/-- len(x) - len(x.rstrip('0')) -/
theorem strip_len (x : PySem.Str) : (Txt.rstripChars x "0").length = x.length - zz x.cps.toList := by
  have e0 : ("0" : PySem.Str).cps = #[48] := zero_cps
  unfold Txt.rstripChars
  rw [stripBy_eq, e0]
  have e1 : stripLo (#[48] : Array Nat).contains false x = 0 := rfl
  have e2 : stripHi (#[48] : Array Nat).contains true x 0 = x.length - zz x.cps.toList := rfl
  rw [e1, e2]
  have l : x.length = x.cps.size := rfl
  show (x.cps.extract 0 (x.length - zz x.cps.toList)).size = _
  rw [Array.size_extract, l]
  omega
theorem zz_le (l : List Nat) : zz l ≤ l.length := by
  unfold zz
  have := takeWhile_len_le isZ l.reverse
  rw [List.length_reverse] at this
  exact this
/-- an integer's text: as many zeros at its end as it has -/
theorem zz_int {u : Int} (h : u ≠ 0) : (10 : Int) ^ zz (PySem.Str.ofString (toString u)).cps.toList ∣ u ∧ ¬ (10 : Int) ^ (zz (PySem.Str.ofString (toString u)).cps.toList + 1) ∣ u := by
  have nat : ∀ n : Nat, 0 < n → (10 : Int) ^ zz (TL.numL n) ∣ (n : Int) ∧ ¬ (10 : Int) ^ (zz (TL.numL n) + 1) ∣ (n : Int) := fun n hn => by
    obtain ⟨a, b⟩ := zz_num n hn
    have c : ∀ k : Nat, ((10 : Int) ^ k) = ((10 ^ k : Nat) : Int) := fun k => by simp
    rw [c, c]
    exact ⟨Int.natCast_dvd_natCast.mpr a, fun z => b (Int.natCast_dvd_natCast.mp z)⟩
  by_cases h0 : 0 < u
  · obtain ⟨n, rfl⟩ : ∃ n : Nat, u = (n : Int) := ⟨u.toNat, (Int.toNat_of_nonneg (by omega)).symm⟩
    have e : (PySem.Str.ofString (toString (n : Int))).cps.toList = TL.numL n := TL.tl_num n
    rw [e]
    exact nat n (by omega)
  · have hu : u < 0 := by omega
    obtain ⟨n, hn⟩ : ∃ n : Nat, 0 - u = (n : Int) := ⟨(0 - u).toNat, (Int.toNat_of_nonneg (by omega)).symm⟩
    have e : (PySem.Str.ofString (toString u)).cps.toList = 45 :: TL.numL n := by
      rw [toString_neg hu, hn, PyProof.Rows.signs_ofString, String.toList_append, List.map_append, ← PyProof.Rows.signs_ofString (toString (n : Int))]
      have e : (PySem.Str.ofString (toString (n : Int))).cps.toList = TL.numL n := TL.tl_num n
      rw [e]
      rfl
    rw [e, zz_cons (by decide +kernel)]
    obtain ⟨a, b⟩ := nat n (by omega)
    have eu : u = -(n : Int) := by omega
    rw [eu]
    exact ⟨(Int.dvd_neg).mpr a, fun z => b ((Int.dvd_neg).mp z)⟩
end Own

/-! k08: low. -/
namespace K08
open PySem PySem.Spec PyProof.Rows L2 LamX NdefX Own
abbrev sLow : Stmt := topS 34
theorem low_uniq {u : Int} {s : Nat} {u1 u2 : Int} {s1 s2 : Nat} (a : IsLow u s u1 s1) (b : IsLow u s u2 s2) (h : s1 ≤ s2) : u1 = u2 ∧ s1 = s2 := by
  have p := ten_pos (s - s2)
  have e : u1 * (10 : Int) ^ (s2 - s1) = u2 := by
    have z := a.eq.symm.trans b.eq
    have le := b.le
    have e2 : s - s1 = (s2 - s1) + (s - s2) := by omega
    rw [e2, Int.pow_add, ← Int.mul_assoc] at z
    exact Int.eq_of_mul_eq_mul_right (by omega) z
  by_cases hs : s1 = s2
  · subst hs
    simp at e
    exact ⟨e, rfl⟩
  · exfalso
    rcases b.own with z | z
    · omega
    · refine z ?_
      rw [← e]
      have e3 : s2 - s1 = (s2 - s1 - 1) + 1 := by omega
      rw [e3, Int.pow_succ, ← Int.mul_assoc]
      exact Int.mul_emod_left _ _
theorem low_eq {u : Int} {s : Nat} {u1 u2 : Int} {s1 s2 : Nat} (a : IsLow u s u1 s1) (b : IsLow u s u2 s2) : u1 = u2 ∧ s1 = s2 := by
  rcases Nat.le_total s1 s2 with h | h
  · exact low_uniq a b h
  · obtain ⟨x, y⟩ := low_uniq b a h
    exact ⟨x.symm, y.symm⟩
theorem low_of {u : Int} {s z : Nat} (d : (10 : Int) ^ z ∣ u) (n : ¬ (10 : Int) ^ (z + 1) ∣ u) : IsLow u s (u / (10 : Int) ^ min s z) (s - min s z) := by
  obtain ⟨c, rfl⟩ := d
  have p := ten_pos (min s z)
  have e : (10 : Int) ^ z = (10 : Int) ^ min s z * (10 : Int) ^ (z - min s z) := by
    rw [← Int.pow_add]
    congr 1
    omega
  have q : (10 : Int) ^ z * c / (10 : Int) ^ min s z = (10 : Int) ^ (z - min s z) * c := by
    rw [e, Int.mul_assoc, Int.mul_ediv_cancel_left _ (by omega)]
  refine ⟨by omega, ?_, ?_⟩
  · rw [q, show s - (s - min s z) = min s z by omega, e]
    rw [Int.mul_assoc, Int.mul_comm]
  · by_cases h : s ≤ z
    · exact .inl (by omega)
    · refine .inr fun m => n ?_
      rw [q, show z - min s z = 0 by omega] at m
      simp at m
      obtain ⟨k, rfl⟩ := Int.dvd_of_emod_eq_zero (by simpa using m : c % 10 = 0)
      exact ⟨k, by rw [Int.pow_succ, Int.mul_assoc]⟩
section
variable {P : Program} {w : World} {K : PySem.W.Frag} {mg : Str → Option Value} {base : Heap} {C C2 W : Addr}
theorem scLow : FnScope ["_law_units", "_law_scale", "_law_text", "_law_tail"] ["_law_units", "_law_scale"] (defScope sLow) := ⟨rfl, rfl, rfl, by decide +kernel, rfl, by decide +kernel, by decide +kernel⟩
def spLow : Sp := fun vs H Q _ => ∃ (u : Int) (s : Nat), vs = [.int u, .int s] ∧ u.natAbs < 2 ^ 1900 ∧ s ≤ 600 ∧ ∀ (u' : Int) (s' : Nat) (r : Addr), IsLow u s u' s' → H r = none → Q (.ref r) (upd H r (.tup [.int u', .int s']))
theorem min_if (s z : Nat) : (if ((z : Nat) : Int) < ((s : Nat) : Int) then ((z : Nat) : Int) else ((s : Nat) : Int)) = ((min s z : Nat) : Int) := by
  by_cases h : z < s
  · rw [if_pos (by omega)]
    omega
  · rw [if_neg (by omega)]
    omega
theorem text_len {u : Int} (h : u.natAbs < 2 ^ 1900) : (Str.ofString (toString u)).length ≤ 601 := by
  have b : ∀ n : Nat, n < 2 ^ 1900 → (TL.numL n).length ≤ 600 := fun n hn => TL.numL_len (by decide) (Nat.lt_of_lt_of_le hn (by decide +kernel))
  have l : ∀ n : Nat, (Str.ofString (toString (n : Int))).length = (TL.numL n).length := fun n => by
    rw [str_len]
    have e : (PySem.Str.ofString (toString (n : Int))).cps.toList = TL.numL n := TL.tl_num n
    rw [e]
  by_cases h0 : 0 ≤ u
  · obtain ⟨n, rfl⟩ : ∃ n : Nat, u = (n : Int) := ⟨u.toNat, (Int.toNat_of_nonneg h0).symm⟩
    rw [l n]
    have := b n (by simpa using h)
    omega
  · obtain ⟨n, hn⟩ : ∃ n : Nat, 0 - u = (n : Int) := ⟨(0 - u).toNat, (Int.toNat_of_nonneg (by omega)).symm⟩
    rw [len_text_neg (by omega), hn, l n]
    have := b n (by have e : n = u.natAbs := by omega
                    rw [e]; exact h)
    omega
theorem ok_low (A : At K mg "_law_low" sLow ["_law_units", "_law_scale"]) (B : Blt mg) (D : DefOk P w K mg base CX0 "_law_ten" 1 ["_law_number"] spTen) : DefOk P w K mg base CX0 "_law_low" 2 ["_law_units", "_law_scale"] spLow := by
  refine A.ok fun f fd F => F.ok scLow (fun vs H Q E h => ?_) (fun cdv A outer s0 H vs Q E hr h => ?_)
  · obtain ⟨u, s, rfl, _⟩ := h
    rfl
  · obtain ⟨u, s, rfl, hu, hs, q⟩ := h
    have nd := scLow.nd
    refine ⟨_, pss_cons (ps_if (pt_cmpR op_eq (pv 0) pe_int (nomark _)) (pss_one (ps_ret (pe_tup (pa_cons pe_int (pa_cons pe_int pa_nil))))) pss_nil)
      (pss_cons (ps_set (i := 2) nd rfl (.inl rfl) (pe_callTy call_str_int (by rfl) B.str (by decide +kernel) (pa_cons (pv 0) pa_nil)))
      (pss_cons (ps_set (i := 3) nd rfl (.inl rfl) (pe_callB (call_min2 rfl) (by rfl) B.min (by decide +kernel) (pa_cons (pv 1) (pa_cons (pe_op op_sub (pe_callB call_len_str (by rfl) B.len PySem.boot_len (pa_cons (pv 2) pa_nil))
        (pe_callB call_len_str (by rfl) B.len PySem.boot_len (pa_cons (pe_bm PySem.F.plainAttrs_str PySem.F.slot_str_rstrip PySem.F.type_str_rstrip mt_rstripChars (pv 2) (pa_cons pe_str pa_nil)) pa_nil))) pa_nil))))
      (pss_one (ps_ret (pe_tup (pa_cons (pe_op op_fdivW (pv 0) (pe_def D hr (by decide) (by rfl) pass0 (pa_cons (pv 3) pa_nil))) (pa_cons (pe_op op_sub (pv 1) (pv 3)) pa_nil))))))), ?_⟩
    refine ⟨_, rfl, rfl, _, rfl, ite2 (fun e => ?_) (fun e => ?_)⟩
    · have h0 : u = 0 := by simpa using e
      exact ⟨by show 2 ≤ sizeLine; decide, fun r nr => q 0 0 r ⟨Nat.zero_le _, by rw [h0]; simp, .inl rfl⟩ nr⟩
    · have h0 : u ≠ 0 := by simpa using e
      have tl := text_len hu
      have big : (601 : Nat) ≤ sizeLine := by have := sizeLine_eq; omega
      refine ⟨_, rfl, u, rfl, log2_lt (up_two hu (by decide)) (by decide), ?_⟩
      have sl := len_rstripChars (Str.ofString (toString u)) "0"
      refine ⟨_, rfl, _, rfl, Str.ofString (toString u), rfl, by omega, _, rfl, rfl, Str.ofString (toString u), "0", rfl, rfl, by omega, _, rfl, by omega, _, _, rfl, rfl, _, _, rfl, ?_⟩
      have zl := zz_le (Str.ofString (toString u)).cps.toList
      rw [← str_len] at zl
      have e1 : ((Str.ofString (toString u)).length : Int) - ((Txt.rstripChars (Str.ofString (toString u)) "0").length : Int) = ((zz (Str.ofString (toString u)).cps.toList : Nat) : Int) := by
        rw [strip_len]
        omega
      obtain ⟨d1, d2⟩ := zz_int h0
      dsimp only [gName, List.set]
      rw [e1, min_if]
      generalize zz (Str.ofString (toString u)).cps.toList = z at d1 d2 zl
      have lw := low_of (s := s) d1 d2
      have e2 : (s : Int) - ((min s z : Nat) : Int) = ((s - min s z : Nat) : Int) := by omega
      have tp := ten_pos (min s z)
      refine ⟨_, rfl, _, rfl, min s z, rfl, ?_, u, _, rfl, rfl, wide_div tp (ten_lt (min s z)) (by omega) (by omega), _, rfl, _, rfl, _, _, rfl, rfl, by show 2 ≤ sizeLine; decide, fun r nr => ?_⟩
      · omega
      · dsimp only
        rw [e2]
        exact q _ _ r lw nr
end
end K08

/-! k08: the program's ways. -/
namespace K08
open PySem PySem.Spec PyProof.Rows L2 LamX NdefX Own
abbrev sNWay : Stmt := topS 21
abbrev sGoes : Stmt := topS 23
abbrev sNear : Stmt := topS 22
abbrev sWays : Stmt := topS 39
/-- what the walk asks of the top: the names of built-ins are free; the tables -/
structure Tx8 (P : Program) (w : World) (K : PySem.W.Frag) (mg : Str → Option Value) (base : Heap) (C aW aH : Addr) (eH : Array DictEntry) (nH : Nat) : Prop where
  isi : mg "isinstance" = none
  int : mg "int" = none
  bool : mg "bool" = none
  len : mg "len" = none
  list : mg "list" = none
  range : mg "range" = none
  tuple : mg "tuple" = none
  all : mg "all" = none
  dm : mg "divmod" = none
  err : ErrC P w K mg base "BadValue" "value" 1 C (spErr C "value")
  gW : mg "WAYS" = some (.ref aW)
  ways : ∀ H : Hp, SqT K H aW (waysL.map V.str)
  gH : mg "HALVES" = some (.ref aH)
  dH : KDict K w aH eH nH
  halv : ∀ z ∈ waysL, KGet K aH z ((halvL.lookup z).map V.str)
section
variable {P : Program} {w : World} {K : PySem.W.Frag} {mg : Str → Option Value} {base : Heap} {C aW aH : Addr} {eH : Array DictEntry} {nH : Nat}
theorem scNWay : FnScope ["value"] ["value"] (defScope sNWay) := ⟨rfl, rfl, rfl, by decide +kernel, rfl, by decide +kernel, by decide +kernel⟩
def spNWay (C : Addr) : Sp := fun vs H Q E => ∃ x : V, vs = [x] ∧ Thing H x ∧ (isWay x = true → Q .non H) ∧ (isWay x = false → Bad C "value" x H E)
theorem ok_nWay (A : At K mg "need_way" sNWay ["value"]) (T : Tx8 P w K mg base C aW aH eH nH) : DefOk P w K mg base (L2.CX P w) "need_way" 3 ["value"] (spNWay C) := by
  refine A.ok fun f fd F => F.okX scNWay (fun vs H Q E h => ?_) (fun cdv A outer s H vs Q E hr h => ?_)
  · obtain ⟨x, rfl, _⟩ := h
    rfl
  · obtain ⟨x, rfl, th, q1, q2⟩ := h
    refine ⟨_, pss_one (ps_if (pt_cmpR (OpR.or op_notIn_seq (op_notInW (hu_of hr))) (pv 0) (pe_glob (v := .ref aW) (by rfl) T.gW rfl) (by rfl)) (pss_one (ps_raise rfl (takes_of rfl rfl rfl rfl) (pmk_err T.err hr (by decide) (by rfl) (pv 0)))) pss_nil), ?_⟩
    rcases th.noTxt with nt | ⟨z, rfl⟩
    · have hw : isWay x = false := by cases nt <;> rfl
      exact ⟨_, rfl, .inr ⟨aW, waysL, rfl, T.ways H, nt, _, rfl, iteT ⟨_, rfl, bad_mk (q2 hw)⟩⟩⟩
    · refine ⟨_, rfl, .inl ⟨aW, _, rfl, .inr (T.ways H), rfl, by decide +kernel, _, rfl, ?_⟩⟩
      have e : inV (.str z) (waysL.map V.str) = decide (z ∈ waysL) := by
        unfold inV
        rw [List.any_map]
        have : ∀ l : List Str, (l.any ((fun y => eqV y (.str z)) ∘ V.str)) = decide (z ∈ l) := by
          intro l
          induction l with
          | nil => rfl
          | cons a r ih =>
            rw [List.any_cons, ih]
            show (a == z || decide (z ∈ r)) = decide (z ∈ a :: r)
            by_cases h : a = z
            · subst h
              simp
            · have h' : ¬ z = a := fun e => h e.symm
              simp [h, h']
        exact this waysL
      show if (if true = true then !inV (.str z) (waysL.map V.str) else inV (.str z) (waysL.map V.str)) = true then _ else _
      rw [if_pos rfl, e]
      refine ite2 (fun e => ?_) (fun e => ?_)
      · exact ⟨_, rfl, bad_mk (q2 (by simpa [isWay] using e))⟩
      · exact q1 (by simpa [isWay] using e)
theorem scGoes : FnScope ["way", "below", "past_half"] ["way", "below", "past_half"] (defScope sGoes) := ⟨rfl, rfl, rfl, by decide +kernel, rfl, by decide +kernel, by decide +kernel⟩
def spGoes : Sp := fun vs H Q _ => ∃ (z : Str) (b p : Int), vs = [.str z, .int b, .int p] ∧ z ∈ waysL ∧ Q (.bl (goesUp z b p)) H
theorem ok_goes (A : At K mg "_goes_up" sGoes ["way", "below", "past_half"]) (T : Tx8 P w K mg base C aW aH eH nH) : DefOk P w K mg base CX0 "_goes_up" 1 ["way", "below", "past_half"] spGoes := by
  refine A.ok fun f fd F => F.ok scGoes (fun vs H Q E h => ?_) (fun cdv A outer s H vs Q E hr h => ?_)
  · obtain ⟨z, b, p, rfl, _⟩ := h
    rfl
  · obtain ⟨z, b, p, rfl, hz, q⟩ := h
    have nd := scGoes.nd
    refine ⟨_, C8.pss_cut (ps_if (pt_cmpR (op_in_kd T.dH) (pv 0) (pe_glob (v := .ref aH) (by rfl) T.gH rfl) (by rfl))
        (pss_cons (ps_if (pt_cmpR op_ne (pv 2) pe_int (nomark _)) (pss_one (ps_ret (pe_cmpR op_gt (pv 2) pe_int (nomark _)))) pss_nil)
        (pss_one (ps_set (i := 0) nd rfl (.inl rfl) (pe_ix ix_kdict (pe_glob (v := .ref aH) (by rfl) T.gH rfl) (pv 0) (fun _ _ => rfl))))) pss_nil)
      (pss_cons (ps_if (pt_cmpR op_eq (pv 0) pe_str (nomark _)) (pss_one (ps_ret (pe_cmpR op_eq (pe_op op_mod (pv 1) pe_int) pe_int (nomark _)))) pss_nil)
      (pss_cons (ps_if (pt_cmpR op_eq (pv 0) pe_str (nomark _)) (pss_one (ps_ret (pe_cmpR op_lt (pv 1) pe_int (nomark _)))) pss_nil)
      (pss_cons (ps_if (pt_cmpR op_eq (pv 0) pe_str (nomark _)) (pss_one (ps_ret (pe_cmpR op_ge (pv 1) pe_int (nomark _)))) pss_nil)
      (pss_one (ps_ret (pe_cmpR op_eq (pv 0) pe_str (nomark _))))))), ?_⟩
    -- what a way says that is none of the nearer ones
    have tail : ∀ y : Str, (if y = "even" then (decide (V.int (b % 2) = V.int 1)) else if y = "cut" then decide (b < 0) else if y = "away" then decide (0 ≤ b) else decide (V.str y = V.str "ceiling")) = baseUp y b := fun y => by
      unfold baseUp
      rw [Own.dec_int, Own.dec_str]
    refine ⟨fun σ H' => ∃ y : Str, σ = [some (.str y), some (.int b), some (.int p)] ∧ H' = H ∧ baseUp y b = goesUp z b p, ?_, ?_⟩
    · obtain ⟨ro, hk, hr'⟩ := T.halv z hz
      refine ⟨_, rfl, z, ro, rfl, rfl, hk, _, rfl, ?_⟩
      cases hl : halvL.lookup z with
      | none =>
        rw [hl] at hr'
        have e : ro = none := by
          cases ro with
          | none => rfl
          | some u => exact hr'.elim
        subst e
        refine iteF ⟨z, rfl, rfl, ?_⟩
        unfold goesUp
        rw [hl]
      | some y =>
        rw [hl] at hr'
        obtain ⟨u, rfl⟩ : ∃ u, ro = some u := by
          cases ro with
          | none => exact hr'.elim
          | some u => exact ⟨u, rfl⟩
        refine iteT ?_
        refine ⟨_, rfl, rfl, _, rfl, ite2 (fun e => ?_) (fun e => ?_)⟩
        · have hp : p ≠ 0 := by simpa using e
          refine ⟨_, rfl, _, _, rfl, rfl, ?_⟩
          have g : goesUp z b p = decide (0 < p) := by
            unfold goesUp
            rw [hl]
            exact if_neg hp
          show Q (.bl (decide (0 < p))) H
          rw [← g]
          exact q
        · have hp : p = 0 := by simpa using e
          refine ⟨_, rfl, aH, z, .str y, rfl, rfl, ⟨eH, nH, u, T.dH.at_, T.dH.lit, hk, hr'⟩, y, rfl, rfl, ?_⟩
          unfold goesUp
          rw [hl]
          exact (if_pos hp).symm
    · rintro σ H' ⟨y, rfl, rfl, hy⟩
      rw [← hy, ← tail y] at q
      refine ⟨_, rfl, rfl, _, rfl, ite2 (fun e => ?_) (fun e => ?_)⟩
      · have e' : y = "even" := V.str.inj (of_decide_eq_true e)
        rw [if_pos e'] at q
        exact ⟨_, rfl, _, _, rfl, rfl, (show (0 : Int) < 2 by decide), rfl, q⟩
      · have e' : ¬ y = "even" := fun z => e (by rw [z]; simp)
        rw [if_neg e'] at q
        refine ⟨_, rfl, rfl, _, rfl, ite2 (fun e => ?_) (fun e => ?_)⟩
        · have e' : y = "cut" := V.str.inj (of_decide_eq_true e)
          rw [if_pos e'] at q
          exact ⟨_, rfl, _, _, rfl, rfl, q⟩
        · have e' : ¬ y = "cut" := fun z => e (by rw [z]; simp)
          rw [if_neg e'] at q
          refine ⟨_, rfl, rfl, _, rfl, ite2 (fun e => ?_) (fun e => ?_)⟩
          · have e' : y = "away" := V.str.inj (of_decide_eq_true e)
            rw [if_pos e'] at q
            exact ⟨_, rfl, _, _, rfl, rfl, q⟩
          · have e' : ¬ y = "away" := fun z => e (by rw [z]; simp)
            rw [if_neg e'] at q
            exact ⟨_, rfl, rfl, q⟩
theorem scNear : FnScope ["number", "divisor", "way", "below", "left"] ["number", "divisor", "way"] (defScope sNear) := ⟨rfl, rfl, rfl, by decide +kernel, rfl, by decide +kernel, by decide +kernel⟩
def spNear : Sp := fun vs H Q _ => ∃ (n d : Int) (z : Str), vs = [.int n, .int d, .str z] ∧ 0 < d ∧ d.natAbs < 2 ^ 1000 ∧ z ∈ waysL ∧ ∀ H', Same H H' → Q (.int (near n d z)) H'
theorem ok_near (A : At K mg "nearest_units" sNear ["number", "divisor", "way"]) (T : Tx8 P w K mg base C aW aH eH nH) (D : DefOk P w K mg base CX0 "_goes_up" 1 ["way", "below", "past_half"] spGoes) : DefOk P w K mg base CX0 "nearest_units" 2 ["number", "divisor", "way"] spNear := by
  refine A.ok fun f fd F => F.ok scNear (fun vs H Q E h => ?_) (fun cdv A outer s H vs Q E hr h => ?_)
  · obtain ⟨n, d, z, rfl, _⟩ := h
    rfl
  · obtain ⟨n, d, z, rfl, h0, hb, hz, q⟩ := h
    have nd := scNear.nd
    refine ⟨_, pss_cons (ps_asg (pe_callB call_divmodW (by rfl) T.dm (by decide +kernel) (pa_cons (pv 0) (pa_cons (pv 1) pa_nil))) (pg_tup rfl (pgs_cons (pg_name (i := 3) nd rfl (.inl rfl)) (pgs_cons (pg_name (i := 4) nd rfl (.inl rfl)) pgs_nil))))
      (pss_cons (ps_if (PW.pt (pw_and (pt_cmpR op_ne (pv 4) pe_int (nomark _)) (pw_and1 (pt_val (pe_def D hr (by decide) (by rfl) pass0 (pa_cons (pv 2) (pa_cons (pv 3) (pa_cons (pe_op op_sub (pe_op op_mul pe_int (pv 4)) (pv 1)) pa_nil))))))))
        (pss_one (ps_ret (pe_op op_add (pv 3) pe_int))) pss_nil)
      (pss_one (ps_ret (pv 3)))), ?_⟩
    refine ⟨_, rfl, _, rfl, n, d, rfl, dm_ok h0 hb, fun p hp => ?_⟩
    have sm : Same H (upd H p (.tup [.int (n / d), .int (n % d)])) := same_new hp
    refine ⟨p, _, rfl, SqT.of upd_same, rfl, _, _, rfl, _, _, rfl, rfl, ?_⟩
    refine ⟨_, rfl, rfl, _, rfl, ite2 (fun e => ?_) (fun e => ?_)⟩
    · have hne : n % d ≠ 0 := by simpa using e
      refine ⟨_, rfl, _, rfl, _, rfl, _, _, rfl, rfl, .inl ⟨by decide, by decide⟩, _, rfl, _, _, rfl, rfl, z, _, _, rfl, hz, _, rfl, ite2 (fun e => ?_) (fun e => ?_)⟩
      · refine ⟨_, rfl, _, _, rfl, rfl, ?_⟩
        have r : near n d z = n / d + 1 := by
          unfold near
          rw [if_neg hne, if_pos e]
        have q' := q _ sm
        rw [r] at q'
        exact q'
      · refine ⟨_, rfl, ?_⟩
        have r : near n d z = n / d := by
          unfold near
          rw [if_neg hne, if_neg e]
        have q' := q _ sm
        rw [r] at q'
        exact q'
    · have he : n % d = 0 := by simpa using e
      refine iteF ⟨_, rfl, ?_⟩
      have r : near n d z = n / d := by
        unfold near
        rw [if_pos he]
      have q' := q _ sm
      rw [r] at q'
      exact q'
theorem scWays : FnScope [] [] (defScope sWays) := ⟨rfl, rfl, rfl, by decide +kernel, rfl, by decide +kernel, by decide +kernel⟩
def spWays : Sp := fun vs H Q _ => vs = [] ∧ ∀ p, H p = none → Q (.ref p) (upd H p (.lst (waysL.map V.str)))
theorem ok_ways (A : At K mg "_law_ways" sWays []) : DefOk P w K mg base CX0 "_law_ways" 1 [] spWays := by
  refine A.ok fun f fd F => F.ok scWays (fun vs H Q E h => by rw [h.1] <;> rfl) (fun cdv A outer s H vs Q E hr h => ?_)
  obtain ⟨rfl, q⟩ := h
  refine ⟨_, pss_one (ps_ret (pe_lst (pa_cons pe_str (pa_cons pe_str (pa_cons pe_str (pa_cons pe_str (pa_cons pe_str (pa_cons pe_str (pa_cons pe_str (pa_cons pe_str (pa_cons pe_str pa_nil))))))))))), ?_⟩
  exact ⟨by show 9 ≤ sizeLine; decide, q⟩
end
end K08

/-! k08: the law's rounding. -/
namespace K08
open PySem PySem.Spec PyProof.Rows L2 LamX NdefX Own
abbrev sRnds : Stmt := topS 40
def plainL (q nr fr : Int) : List (Str × V) := [("floor", .int q), ("ceiling", .int (q + 1)), ("cut", .int nr), ("away", .int fr)]
def halfL (q nr fr : Int) : List (Str × V) := [("halfup", .int (q + 1)), ("halfdown", .int q), ("halfeven", .int (q + q % 2)), ("halfaway", .int fr), ("halfcut", .int nr)]
theorem rnd_ok {n d : Int} (h0 : 0 < d) (hr : n % d ≠ 0) {z : Str} (hz : z ∈ waysL) : (∀ v, (plainL (n / d) (if n > 0 then n / d else n / d + 1) (n / d + n / d + 1 - (if n > 0 then n / d else n / d + 1))).lookup z = some v → v = .int (near n d z)) ∧
    ((plainL (n / d) (if n > 0 then n / d else n / d + 1) (n / d + n / d + 1 - (if n > 0 then n / d else n / d + 1))).lookup z = none → (2 * (n % d) ≠ d → near n d z = n / d + (if decide (d < 2 * (n % d)) = true then 1 else 0)) ∧
      (2 * (n % d) = d → (halfL (n / d) (if n > 0 then n / d else n / d + 1) (n / d + n / d + 1 - (if n > 0 then n / d else n / d + 1))).lookup z = some (.int (near n d z)))) := by
  have sgn : (0 < n ∧ 0 ≤ n / d) ∨ (n < 0 ∧ n / d < 0) := by
    rcases Int.lt_trichotomy n 0 with h | h | h
    · exact .inr ⟨h, Int.ediv_neg_of_neg_of_pos h h0⟩
    · subst h
      simp at hr
    · exact .inl ⟨h, Int.ediv_nonneg (Int.le_of_lt h) (Int.le_of_lt h0)⟩
  have r0 := Int.emod_nonneg n (show d ≠ 0 by omega)
  have r1 := Int.emod_lt_of_pos n h0
  unfold near
  rw [if_neg hr]
  generalize n / d = q at sgn
  generalize n % d = r at hr r0 r1
  rcases way_cases hz with rfl | rfl | rfl | rfl | rfl | rfl | rfl | rfl | rfl
  · rw [goes_none (k := 4) (by decide +kernel) (by decide +kernel)]
    refine ⟨fun v e => ?_, fun e => ?_⟩
    · have e' := Option.some.inj e
      rw [← e']
      rfl
    · cases (show some _ = none from e)
  · rw [goes_none (k := 3) (by decide +kernel) (by decide +kernel)]
    refine ⟨fun v e => ?_, fun e => ?_⟩
    · have e' := Option.some.inj e
      rw [← e']
      rfl
    · cases (show some _ = none from e)
  · rw [goes_none (k := 1) (by decide +kernel) (by decide +kernel)]
    refine ⟨fun v e => ?_, fun e => ?_⟩
    · have e' := Option.some.inj e
      rw [← e']
      congr 1
      simp only [kUp]
      rcases sgn with ⟨a, c⟩ | ⟨a, c⟩
      all_goals (simp <;> (repeat split) <;> omega)
    · cases (show some _ = none from e)
  · rw [goes_none (k := 2) (by decide +kernel) (by decide +kernel)]
    refine ⟨fun v e => ?_, fun e => ?_⟩
    · have e' := Option.some.inj e
      rw [← e']
      congr 1
      simp only [kUp]
      rcases sgn with ⟨a, c⟩ | ⟨a, c⟩
      all_goals (simp <;> (repeat split) <;> omega)
    · cases (show some _ = none from e)
  · rw [goes_some (y := "ceiling") (k := 3) (by decide +kernel) (by decide +kernel)]
    refine ⟨fun v e => ?_, fun _ => ⟨fun hn => ?_, fun he => ?_⟩⟩
    · cases (show none = some v from e)
    · rw [if_neg (show ¬ 2 * r - d = 0 by omega)]
      by_cases g : d < 2 * r
      · rw [decide_eq_true g, decide_eq_true (show 0 < 2 * r - d by omega)]
        simp
      · rw [decide_eq_false g, decide_eq_false (show ¬ 0 < 2 * r - d by omega)]
        simp
    · rw [if_pos (show 2 * r - d = 0 by omega)]
      refine congrArg some (congrArg V.int ?_)
      simp only [kUp]
      rcases sgn with ⟨a, c⟩ | ⟨a, c⟩
      all_goals (simp <;> (repeat split) <;> omega)
  · rw [goes_some (y := "floor") (k := 4) (by decide +kernel) (by decide +kernel)]
    refine ⟨fun v e => ?_, fun _ => ⟨fun hn => ?_, fun he => ?_⟩⟩
    · cases (show none = some v from e)
    · rw [if_neg (show ¬ 2 * r - d = 0 by omega)]
      by_cases g : d < 2 * r
      · rw [decide_eq_true g, decide_eq_true (show 0 < 2 * r - d by omega)]
        simp
      · rw [decide_eq_false g, decide_eq_false (show ¬ 0 < 2 * r - d by omega)]
        simp
    · rw [if_pos (show 2 * r - d = 0 by omega)]
      refine congrArg some (congrArg V.int ?_)
      simp only [kUp]
      rcases sgn with ⟨a, c⟩ | ⟨a, c⟩
      all_goals (simp <;> (repeat split) <;> omega)
  · rw [goes_some (y := "even") (k := 0) (by decide +kernel) (by decide +kernel)]
    refine ⟨fun v e => ?_, fun _ => ⟨fun hn => ?_, fun he => ?_⟩⟩
    · cases (show none = some v from e)
    · rw [if_neg (show ¬ 2 * r - d = 0 by omega)]
      by_cases g : d < 2 * r
      · rw [decide_eq_true g, decide_eq_true (show 0 < 2 * r - d by omega)]
        simp
      · rw [decide_eq_false g, decide_eq_false (show ¬ 0 < 2 * r - d by omega)]
        simp
    · rw [if_pos (show 2 * r - d = 0 by omega)]
      refine congrArg some (congrArg V.int ?_)
      simp only [kUp]
      rcases sgn with ⟨a, c⟩ | ⟨a, c⟩
      all_goals (simp <;> (repeat split) <;> omega)
  · rw [goes_some (y := "away") (k := 2) (by decide +kernel) (by decide +kernel)]
    refine ⟨fun v e => ?_, fun _ => ⟨fun hn => ?_, fun he => ?_⟩⟩
    · cases (show none = some v from e)
    · rw [if_neg (show ¬ 2 * r - d = 0 by omega)]
      by_cases g : d < 2 * r
      · rw [decide_eq_true g, decide_eq_true (show 0 < 2 * r - d by omega)]
        simp
      · rw [decide_eq_false g, decide_eq_false (show ¬ 0 < 2 * r - d by omega)]
        simp
    · rw [if_pos (show 2 * r - d = 0 by omega)]
      refine congrArg some (congrArg V.int ?_)
      simp only [kUp]
      rcases sgn with ⟨a, c⟩ | ⟨a, c⟩
      all_goals (simp <;> (repeat split) <;> omega)
  · rw [goes_some (y := "cut") (k := 1) (by decide +kernel) (by decide +kernel)]
    refine ⟨fun v e => ?_, fun _ => ⟨fun hn => ?_, fun he => ?_⟩⟩
    · cases (show none = some v from e)
    · rw [if_neg (show ¬ 2 * r - d = 0 by omega)]
      by_cases g : d < 2 * r
      · rw [decide_eq_true g, decide_eq_true (show 0 < 2 * r - d by omega)]
        simp
      · rw [decide_eq_false g, decide_eq_false (show ¬ 0 < 2 * r - d by omega)]
        simp
    · rw [if_pos (show 2 * r - d = 0 by omega)]
      refine congrArg some (congrArg V.int ?_)
      simp only [kUp]
      rcases sgn with ⟨a, c⟩ | ⟨a, c⟩
      all_goals (simp <;> (repeat split) <;> omega)
section
variable {P : Program} {w : World} {K : PySem.W.Frag} {mg : Str → Option Value} {base : Heap}
theorem scRnds : FnScope ["_law_number", "_law_divisor", "_law_manner", "_law_low_here", "_law_left", "_law_near", "_law_far", "_law_plain", "_law_even"] ["_law_number", "_law_divisor", "_law_manner"] (defScope sRnds) := ⟨rfl, rfl, rfl, by decide +kernel, rfl, by decide +kernel, by decide +kernel⟩
def spRnds : Sp := fun vs H Q _ => ∃ (n d : Int) (z : Str), vs = [.int n, .int d, .str z] ∧ 0 < d ∧ d.natAbs < 2 ^ 1000 ∧ n.natAbs < 2 ^ 9000 ∧ z ∈ waysL ∧ ∀ H', Same H H' → Q (.int (near n d z)) H'
theorem plain_nd (q nr fr : Int) : ((txK (plainL q nr fr)).map (·.1)).Nodup := by
  show ([Sum.inr "floor", Sum.inr "ceiling", Sum.inr "cut", Sum.inr "away"] : List Key).Nodup
  decide +kernel
theorem half_nd (q nr fr : Int) : ((txK (halfL q nr fr)).map (·.1)).Nodup := by
  show ([Sum.inr "halfup", Sum.inr "halfdown", Sum.inr "halfeven", Sum.inr "halfaway", Sum.inr "halfcut"] : List Key).Nodup
  decide +kernel
theorem ok_rnds (A : At K mg "_law_rounds" sRnds ["_law_number", "_law_divisor", "_law_manner"]) (T : Blt mg) : DefOk P w K mg base CX0 "_law_rounds" 1 ["_law_number", "_law_divisor", "_law_manner"] spRnds := by
  refine A.ok fun f fd F => F.ok scRnds (fun vs H Q E h => ?_) (fun cdv A outer s H vs Q E hr h => ?_)
  · obtain ⟨n, d, z, rfl, _⟩ := h
    rfl
  · obtain ⟨n, d, z, rfl, h0, hb, hnb, hz, q⟩ := h
    have nd := scRnds.nd
    have hu := hu_of hr
    refine ⟨_, pss_cons (ps_set (i := 3) nd rfl (.inl rfl) (pe_op op_fdivW (pv 0) (pv 1)))
      (pss_cons (ps_set (i := 4) nd rfl (.inl rfl) (pe_op op_sub (pv 0) (pe_op op_mulW (pv 3) (pv 1))))
      (pss_cons (ps_if (pt_cmpR op_eq (pv 4) pe_int (nomark _)) (pss_one (ps_ret (pv 3))) pss_nil)
      (C8.pss_cut (ps_set (i := 5) nd rfl (.inl rfl) (pe_ifExp (pt_cmpR op_gt (pv 0) pe_int (nomark _)) (pv 3) (pe_op op_add (pv 3) pe_int)))
      (pss_cons (ps_set (i := 6) nd rfl (.inl rfl) (pe_op op_sub (pe_op op_add (pe_op op_add (pv 3) (pv 3)) pe_int) (pv 5)))
      (pss_cons (ps_set (i := 7) nd rfl (.inl rfl) (pe_disp (pps_cons pe_str (pv 3) (pps_cons pe_str (pe_op op_add (pv 3) pe_int) (pps_cons pe_str (pv 5) (pps_cons pe_str (pv 6) pps_nil)))) (by rfl) (by rfl) (fun z => by cases z) (by decide)))
      (pss_cons (ps_if (pt_cmp (pc_din hu (pv 2) (pv 7)) (by rfl)) (pss_one (ps_ret (pe_dget hu (pv 7) (pv 2) (fun _ _ => rfl)))) pss_nil)
      (pss_cons (ps_if (pt_cmpR op_ne (pe_op op_mul pe_int (pv 4)) (pv 1) (nomark _)) (pss_one (ps_ret (pe_op op_add (pv 3) (pe_callTy call_int1 (by rfl) T.int (by decide +kernel) (pa_cons (pe_cmpR op_gt (pe_op op_mul pe_int (pv 4)) (pv 1) (nomark _)) pa_nil))))) pss_nil)
      (pss_cons (ps_set (i := 8) nd rfl (.inl rfl) (pe_op op_add (pv 3) (pe_op op_mod (pe_callTy call_int1 (by rfl) T.int (by decide +kernel) (pa_cons (pv 3) pa_nil)) pe_int)))
      (pss_one (ps_ret (pe_dget hu (pe_disp (pps_cons pe_str (pe_op op_add (pv 3) pe_int) (pps_cons pe_str (pv 3) (pps_cons pe_str (pv 8) (pps_cons pe_str (pv 6) (pps_cons pe_str (pv 5) pps_nil))))) (by rfl) (by rfl) (fun z => by cases z) (by decide)) (pv 2) (fun _ _ => rfl)))))))))))), ?_⟩
    have dq : (n / d).natAbs < 2 ^ 9001 := by
      have := Int.natAbs_ediv_le_natAbs n d
      have z : (2 : Nat) ^ 9000 ≤ 2 ^ 9001 := Nat.pow_le_pow_right (by decide) (by decide)
      omega
    refine ⟨_, rfl, _, rfl, n, d, rfl, rfl, wide_div h0 hb (by decide) (by decide), _, rfl, _, rfl, _, rfl, _, _, rfl, rfl, wide_mul dq hb (by decide) (by decide) (by decide), _, _, rfl, rfl, ?_⟩
    have em : n - n / d * d = n % d := by rw [Int.emod_def, Int.mul_comm]
    dsimp only [gName, List.set]
    rw [em]
    refine ⟨_, rfl, rfl, _, rfl, ite2 (fun e => ?_) (fun e => ?_)⟩
    · have he : n % d = 0 := by simpa using e
      refine ⟨_, rfl, ?_⟩
      have q' := q H (Same.refl H)
      unfold near at q'
      rw [if_pos he] at q'
      exact q'
    have hr0 : n % d ≠ 0 := by simpa using e
    obtain ⟨R1, R2⟩ := rnd_ok h0 hr0 hz
    -- near
    generalize hnr : (if n > 0 then n / d else n / d + 1) = nr at R1 R2
    refine ⟨fun σ H' => σ = [some (.int n), some (.int d), some (.str z), some (.int (n / d)), some (.int (n % d)), some (.int nr), none, none, none] ∧ H' = H, ?_, ?_⟩
    · refine ⟨_, rfl, _, _, rfl, rfl, _, rfl, ite2 (fun e => ?_) (fun e => ?_)⟩
      · have hn : n > 0 := of_decide_eq_true e
        rw [if_pos hn] at hnr
        refine ⟨_, rfl, ?_⟩
        rw [hnr]
        exact ⟨rfl, rfl⟩
      · have hn : ¬ n > 0 := fun z => e (decide_eq_true z)
        rw [if_neg hn] at hnr
        refine ⟨_, rfl, _, _, rfl, rfl, ?_⟩
        dsimp only [gName, List.set]
        rw [hnr]
        exact ⟨rfl, rfl⟩
    · rintro σ H' ⟨rfl, rfl⟩
      refine ⟨_, rfl, _, rfl, _, _, rfl, rfl, _, _, rfl, rfl, _, rfl, _, nr, rfl, rfl, ?_⟩
      dsimp only [gName, List.set]
      generalize n / d + n / d + 1 - nr = fr at R1 R2
      -- plain
      intro p hp
      refine ⟨_, rfl, _, rfl, _, _, rfl, rfl, _, rfl, _, rfl, upd_same, txK (plainL (n / d) nr fr), rfl, by show 4 ≤ 15; decide, ?_⟩
      rw [merge_new (plain_nd _ _ _), upd_upd]
      generalize hH1 : upd H' p (.dK (txK (plainL (n / d) nr fr))) = H1
      have p1 : H1 p = some (.dK (txK (plainL (n / d) nr fr))) := by rw [← hH1]; exact upd_same
      have s1 : Same H' H1 := by rw [← hH1]; exact same_new hp
      refine ⟨_, rfl, _, rfl, p, _, rfl, DGet.tx z p1, _, rfl, ?_⟩
      cases hl : (plainL (n / d) nr fr).lookup z with
      | some v =>
        refine iteT ⟨_, rfl, _, rfl, p, v, rfl, ?_, ?_⟩
        · rw [← hl]
          exact DGet.tx z p1
        · rw [R1 v hl]
          exact q H1 s1
      | none =>
        refine iteF ?_
        obtain ⟨R3, R4⟩ := R2 hl
        refine ⟨_, rfl, _, _, rfl, rfl, .inl ⟨by decide, by decide⟩, _, rfl, rfl, _, rfl, ite2 (fun e => ?_) (fun e => ?_)⟩
        · have hne : 2 * (n % d) ≠ d := by simpa using e
          refine ⟨_, rfl, _, rfl, _, _, rfl, rfl, .inl ⟨by decide, by decide⟩, _, rfl, _, _, rfl, rfl, .inr ⟨_, rfl, _, _, rfl, rfl, ?_⟩⟩
          have q' := q H1 s1
          rw [R3 hne] at q'
          exact q'
        · have heq : 2 * (n % d) = d := by simpa using e
          refine ⟨_, rfl, _, rfl, .inl ⟨_, rfl, _, _, rfl, rfl, (show (0 : Int) < 2 by decide), _, _, rfl, rfl, ?_⟩⟩
          intro p2 hp2
          refine ⟨_, rfl, _, _, rfl, rfl, _, rfl, _, rfl, _, rfl, _, rfl, upd_same, txK (halfL (n / d) nr fr), rfl, by show 5 ≤ 15; decide, ?_⟩
          rw [merge_new (half_nd _ _ _), upd_upd]
          refine ⟨_, rfl, p2, .int (near n d z), rfl, ?_, ?_⟩
          · rw [← R4 heq]
            exact DGet.tx z upd_same
          · exact q _ (s1.trans (same_new hp2))
end
end K08

/-! k08: the worths that are rounded to one. -/
namespace K08
open PySem PySem.Spec PyProof.Rows L2 LamX NdefX Own
theorem near_off {u o D : Int} (h0 : 0 < o) (h1 : o < D) (t : Str) : near (u * D + o) D t = if goesUp t u (2 * o - D) = true then u + 1 else u := by
  have d0 : D ≠ 0 := by omega
  have e1 : (u * D + o) / D = u := by
    rw [Int.add_comm, Int.add_mul_ediv_right _ _ d0, Int.ediv_eq_zero_of_lt (Int.le_of_lt h0) h1, Int.zero_add]
  have e2 : (u * D + o) % D = o := by
    rw [Int.add_comm, Int.add_mul_emod_self_right, Int.emod_eq_of_lt (Int.le_of_lt h0) h1]
  unfold near
  rw [e1, e2, if_neg (by omega)]
theorem near_offn {u o D : Int} (h0 : 0 < o) (h1 : o < D) (t : Str) : near (u * D - o) D t = if goesUp t (u - 1) (D - 2 * o) = true then u else u - 1 := by
  have e : u * D - o = (u - 1) * D + (D - o) := by rw [Int.sub_mul]; omega
  rw [e, near_off (by omega) (by omega), show 2 * (D - o) - D = D - 2 * o by omega, show u - 1 + 1 = u by omega]
theorem near_top {u D : Int} (h : 0 < D) (t : Str) : near (u * D + D) D t = u + 1 := by
  have e : u * D + D = (u + 1) * D := by rw [Int.add_mul, Int.one_mul]
  rw [e, near_mul h]
theorem near_bot {u D : Int} (h : 0 < D) (t : Str) : near (u * D - D) D t = u - 1 := by
  have e : u * D - D = (u - 1) * D := by rw [Int.sub_mul, Int.one_mul]
  rw [e, near_mul h]
/-- the first of some offsets at which a worth is rounded to u, or 0 -/
def firstOk (u D : Int) (t : Str) : List Int → Int
  | [] => 0
  | o :: r => if near (u * D + o) D t = u then o else firstOk u D t r
def hiOff (u D : Int) (t : Str) : Int := firstOk u D t [D - 1, D / 2, D / 2 - 1]
def loOff (u D : Int) (t : Str) : Int := firstOk u D t [1 - D, -(D / 2), 1 - D / 2]
theorem way_kind {t : Str} (h : t ∈ waysL) : (∃ k, ∀ b p, goesUp t b p = kUp k b) ∨ ∃ k, ∀ b p, goesUp t b p = if p = 0 then kUp k b else decide (0 < p) := by
  rcases way_cases h with rfl | rfl | rfl | rfl | rfl | rfl | rfl | rfl | rfl
  · exact .inl ⟨4, goes_none (by decide +kernel) (by decide +kernel)⟩
  · exact .inl ⟨3, goes_none (by decide +kernel) (by decide +kernel)⟩
  · exact .inl ⟨1, goes_none (by decide +kernel) (by decide +kernel)⟩
  · exact .inl ⟨2, goes_none (by decide +kernel) (by decide +kernel)⟩
  · exact .inr ⟨3, goes_some (y := "ceiling") (by decide +kernel) (by decide +kernel)⟩
  · exact .inr ⟨4, goes_some (y := "floor") (by decide +kernel) (by decide +kernel)⟩
  · exact .inr ⟨0, goes_some (y := "even") (by decide +kernel) (by decide +kernel)⟩
  · exact .inr ⟨2, goes_some (y := "away") (by decide +kernel) (by decide +kernel)⟩
  · exact .inr ⟨1, goes_some (y := "cut") (by decide +kernel) (by decide +kernel)⟩
theorem ne_up (u : Int) : ¬ u + 1 = u := by omega
theorem ne_dn (u : Int) : ¬ u - 1 = u := by omega
theorem hi_ok {u D : Int} {t : Str} (ht : t ∈ waysL) (h2 : D % 2 = 0) (h4 : 4 ≤ D) : 0 ≤ hiOff u D t ∧ hiOff u D t < D ∧ near (u * D + hiOff u D t) D t = u ∧ near (u * D + (hiOff u D t + 1)) D t ≠ u := by
  have hh : 2 * (D / 2) = D := by omega
  have z0 : near (u * D + 0) D t = u := by rw [Int.add_zero, near_mul (by omega)]
  have zD := near_top (u := u) (D := D) (by omega) t
  unfold hiOff firstOk firstOk firstOk firstOk
  rcases way_kind ht with ⟨k, g⟩ | ⟨k, g⟩
  · have f : ∀ o, 0 < o → o < D → near (u * D + o) D t = if kUp k u = true then u + 1 else u := fun o a b => by rw [near_off a b, g]
    by_cases c : kUp k u = true
    · rw [f (D - 1) (by omega) (by omega), f (D / 2) (by omega) (by omega), f (D / 2 - 1) (by omega) (by omega), if_pos c, if_neg (ne_up u), if_neg (ne_up u), if_neg (ne_up u)]
      refine ⟨by omega, by omega, z0, ?_⟩
      rw [f (0 + 1) (by omega) (by omega), if_pos c]
      omega
    · rw [f (D - 1) (by omega) (by omega), if_neg c, if_pos rfl]
      refine ⟨by omega, by omega, ?_, ?_⟩
      · rw [f (D - 1) (by omega) (by omega), if_neg c]
      · rw [show D - 1 + 1 = D by omega, zD]
        omega
  · have f : ∀ o, 0 < o → o < D → near (u * D + o) D t = if (if 2 * o - D = 0 then kUp k u else decide (0 < 2 * o - D)) = true then u + 1 else u := fun o a b => by rw [near_off a b, g]
    have fu : ∀ o, 0 < o → o < D → D < 2 * o → near (u * D + o) D t = u + 1 := fun o a b e => by rw [f o a b, if_neg (show ¬ 2 * o - D = 0 by omega), if_pos (decide_eq_true (by omega))]
    have fd : ∀ o, 0 < o → o < D → 2 * o < D → near (u * D + o) D t = u := fun o a b e => by rw [f o a b, if_neg (show ¬ 2 * o - D = 0 by omega), if_neg (by rw [decide_eq_false (by omega)]; decide)]
    have fh : near (u * D + D / 2) D t = if kUp k u = true then u + 1 else u := by rw [f _ (by omega) (by omega), if_pos (show 2 * (D / 2) - D = 0 by omega)]
    rw [fu (D - 1) (by omega) (by omega) (by omega), if_neg (ne_up u), fh]
    by_cases c : kUp k u = true
    · rw [if_pos c, if_neg (ne_up u), fd (D / 2 - 1) (by omega) (by omega) (by omega), if_pos rfl]
      refine ⟨by omega, by omega, fd (D / 2 - 1) (by omega) (by omega) (by omega), ?_⟩
      rw [show D / 2 - 1 + 1 = D / 2 by omega, fh, if_pos c]
      omega
    · rw [if_neg c, if_pos rfl]
      refine ⟨by omega, by omega, by rw [fh, if_neg c], ?_⟩
      rw [fu (D / 2 + 1) (by omega) (by omega) (by omega)]
      omega
theorem lo_ok {u D : Int} {t : Str} (ht : t ∈ waysL) (h2 : D % 2 = 0) (h4 : 4 ≤ D) : loOff u D t ≤ 0 ∧ -D < loOff u D t ∧ near (u * D + loOff u D t) D t = u ∧ near (u * D + (loOff u D t - 1)) D t ≠ u := by
  have hh : 2 * (D / 2) = D := by omega
  have z0 : near (u * D + 0) D t = u := by rw [Int.add_zero, near_mul (by omega)]
  have zD := near_bot (u := u) (D := D) (by omega) t
  have sw : ∀ o, near (u * D + -o) D t = near (u * D - o) D t := fun o => by rw [Int.sub_eq_add_neg]
  have e1 : 1 - D = -(D - 1) := by omega
  have e2 : 1 - D / 2 = -(D / 2 - 1) := by omega
  unfold loOff firstOk firstOk firstOk firstOk
  rw [e1, e2]
  rcases way_kind ht with ⟨k, g⟩ | ⟨k, g⟩
  · have f : ∀ o, 0 < o → o < D → near (u * D + -o) D t = if kUp k (u - 1) = true then u else u - 1 := fun o a b => by rw [sw, near_offn a b, g]
    by_cases c : kUp k (u - 1) = true
    · rw [f (D - 1) (by omega) (by omega), if_pos c, if_pos rfl]
      refine ⟨by omega, by omega, ?_, ?_⟩
      · rw [f (D - 1) (by omega) (by omega), if_pos c]
      · rw [show -(D - 1) - 1 = -D by omega, sw, zD]
        omega
    · rw [f (D - 1) (by omega) (by omega), f (D / 2) (by omega) (by omega), f (D / 2 - 1) (by omega) (by omega), if_neg c, if_neg (ne_dn u), if_neg (ne_dn u), if_neg (ne_dn u)]
      refine ⟨by omega, by omega, z0, ?_⟩
      rw [show (0 : Int) - 1 = -1 by omega, f 1 (by omega) (by omega), if_neg c]
      omega
  · have f : ∀ o, 0 < o → o < D → near (u * D + -o) D t = if (if D - 2 * o = 0 then kUp k (u - 1) else decide (0 < D - 2 * o)) = true then u else u - 1 := fun o a b => by rw [sw, near_offn a b, g]
    have fd : ∀ o, 0 < o → o < D → D < 2 * o → near (u * D + -o) D t = u - 1 := fun o a b e => by rw [f o a b, if_neg (show ¬ D - 2 * o = 0 by omega), if_neg (by rw [decide_eq_false (by omega)]; decide)]
    have fu : ∀ o, 0 < o → o < D → 2 * o < D → near (u * D + -o) D t = u := fun o a b e => by rw [f o a b, if_neg (show ¬ D - 2 * o = 0 by omega), if_pos (decide_eq_true (by omega))]
    have fh : near (u * D + -(D / 2)) D t = if kUp k (u - 1) = true then u else u - 1 := by rw [f _ (by omega) (by omega), if_pos (show D - 2 * (D / 2) = 0 by omega)]
    rw [fd (D - 1) (by omega) (by omega) (by omega), if_neg (ne_dn u), fh]
    by_cases c : kUp k (u - 1) = true
    · rw [if_pos c, if_pos rfl]
      refine ⟨by omega, by omega, by rw [fh, if_pos c], ?_⟩
      rw [show -(D / 2) - 1 = -(D / 2 + 1) by omega, fd (D / 2 + 1) (by omega) (by omega) (by omega)]
      omega
    · rw [if_neg c, if_neg (ne_dn u), fu (D / 2 - 1) (by omega) (by omega) (by omega), if_pos rfl]
      refine ⟨by omega, by omega, fu (D / 2 - 1) (by omega) (by omega) (by omega), ?_⟩
      rw [show -(D / 2 - 1) - 1 = -(D / 2) by omega, fh, if_neg c]
      omega
theorem ten_even {k : Nat} (h : 1 ≤ k) : (10 : Int) ^ k % 2 = 0 ∧ 4 ≤ (10 : Int) ^ k := by
  obtain ⟨j, rfl⟩ : ∃ j, k = j + 1 := ⟨k - 1, by omega⟩
  have p := ten_pos j
  rw [Int.pow_succ]
  constructor <;> omega
end K08

/-! k08: the offsets. -/
namespace K08
open PySem PySem.Spec PyProof.Rows L2 LamX NdefX Own
abbrev pLo : Stmt := topS 25
abbrev pHi : Stmt := topS 26
section
variable {P : Program} {w : World} {K : PySem.W.Frag} {mg : Str → Option Value} {base : Heap} {C W : Addr}
theorem scLo : FnScope ["units", "one_unit", "way", "half", "offset"] ["units", "one_unit", "way"] (defScope pLo) := ⟨rfl, rfl, rfl, by decide +kernel, rfl, by decide +kernel, by decide +kernel⟩
theorem scHi : FnScope ["units", "one_unit", "way", "half", "offset"] ["units", "one_unit", "way"] (defScope pHi) := ⟨rfl, rfl, rfl, by decide +kernel, rfl, by decide +kernel, by decide +kernel⟩
def spOff (f : Int → Int → Str → Int) : Sp := fun vs H Q _ => ∃ (u : Int) (k : Nat) (t : Str), vs = [.int u, .int ((10 : Int) ^ k), .str t] ∧ u.natAbs < 2 ^ 700 ∧ k ≤ 200 ∧ t ∈ waysL ∧ ∀ H', Same H H' → Q (.int (f u ((10 : Int) ^ k) t)) H'
theorem ok_lo (A : At K mg "_least_offset" pLo ["units", "one_unit", "way"]) (DN : DefOk P w K mg base CX0 "nearest_units" 2 ["number", "divisor", "way"] spNear) : DefOk P w K mg base CX0 "_least_offset" 3 ["units", "one_unit", "way"] (spOff loOff) := by
  refine A.ok fun f fd F => F.ok scLo (fun vs H Q E h => ?_) (fun cdv A outer s0 H vs Q E hr h => ?_)
  · obtain ⟨u, k, t, rfl, _⟩ := h
    rfl
  · obtain ⟨u, k, t, rfl, bu, hk, ht, q⟩ := h
    have nd := scLo.nd
    refine ⟨_, pss_cons (ps_set (i := 3) nd rfl (.inl rfl) (pe_op op_fdiv (pv 1) pe_int))
      (pss_cons (ps_for PassesOwn.never rfl (pi_tup (pe_tup (pa_cons (pe_op op_sub pe_int (pv 1)) (pa_cons (pe_un un_neg (pv 3)) (pa_cons (pe_op op_sub pe_int (pv 3)) pa_nil))))) (pg_name (i := 4) nd rfl (.inl rfl))
        (pss_one (ps_if (pt_cmpR op_eq (pe_def DN hr (by decide) (by rfl) pass0 (pa_cons (pe_op op_add (pe_op op_mulW (pv 0) (pv 1)) (pv 4)) (pa_cons (pv 1) (pa_cons (pv 2) pa_nil)))) (pv 0) (nomark _)) (pss_one (ps_ret (pv 4))) pss_nil)))
      (pss_one (ps_ret pe_int))), ?_⟩
    have bD := ten_lt k
    have pD := ten_pos k
    generalize hD : (10 : Int) ^ k = D at q bD pD ⊢
    refine ⟨_, rfl, _, _, rfl, rfl, ⟨by decide, by decide⟩, ?_⟩
    dsimp only [gName, List.set]
    refine ⟨_, rfl, _, _, rfl, rfl, _, rfl, _, rfl, _, rfl, _, _, rfl, rfl, by show 3 ≤ sizeLine; decide, fun p np => ?_⟩
    generalize ho : ([1 - D, -(D / 2), 1 - D / 2] : List Int) = offs
    have s1 : Same H (upd H p (.tup (offs.map V.int))) := same_new np
    have e1 : upd H p (.tup (offs.map V.int)) p = some (.tup (offs.map V.int)) := upd_same
    have lo3 : offs.length = 3 := by rw [← ho]; rfl
    have go : firstOk u D t offs = loOff u D t := by rw [← ho]; rfl
    have ee : upd H p (.tup [.int (1 - D), .int (-(D / 2)), .int (1 - D / 2)]) = upd H p (.tup (offs.map V.int)) := by rw [← ho]; rfl
    refine ⟨p, rfl, ⟨_, SqT.of upd_same⟩, ?_⟩
    rw [ee]
    refine for_tup (K := K) (xs := offs.map V.int) (fun i σ H' => (∃ y : Option V, σ = [some (.int u), some (.int D), some (.str t), some (.int (D / 2)), y]) ∧ Same (upd H p (.tup (offs.map V.int))) H' ∧ firstOk u D t (offs.drop i) = loOff u D t) ⟨⟨_, rfl⟩, Same.refl _, go⟩ (fun i σ H' _ z => SqT.of (z.2.1 _ _ e1)) ?_ ?_
    · rintro i x σ H' hx ⟨⟨y, rfl⟩, sm, fo⟩
      rw [List.getElem?_map] at hx
      obtain ⟨o, hx2, rfl⟩ := Option.map_eq_some_iff.mp hx
      obtain ⟨hi, eo⟩ := List.getElem?_eq_some_iff.mp hx2
      rw [List.drop_eq_getElem_cons hi, eo] at fo
      dsimp only [gName, List.set]
      refine ⟨_, rfl, _, rfl, _, _, rfl, rfl, wide_mul bu bD (by decide) (by omega) (by omega), _, rfl, _, _, rfl, rfl, _, rfl, _, rfl, u * D + o, D, t, rfl, pD, up_two bD (by omega), ht, fun H2 s2 => ⟨_, rfl, rfl, _, rfl, ite2 (fun e => ?_) (fun e => ?_)⟩⟩
      · have c : near (u * D + o) D t = u := by simpa using e
        unfold firstOk at fo
        rw [if_pos c] at fo
        refine ⟨_, rfl, ?_⟩
        rw [fo]
        exact q _ ((s1.trans sm).trans s2)
      · have c : ¬ near (u * D + o) D t = u := by simpa using e
        unfold firstOk at fo
        rw [if_neg c] at fo
        exact ⟨⟨_, rfl⟩, sm.trans s2, fo⟩
    · rintro σ H' ⟨⟨y, rfl⟩, sm, fo⟩
      rw [List.length_map, lo3, List.drop_eq_nil_of_le (by omega)] at fo
      have fo : (0 : Int) = loOff u D t := fo
      show Q (.int 0) H'
      rw [fo]
      exact q _ (s1.trans sm)
theorem ok_hi (A : At K mg "_greatest_offset" pHi ["units", "one_unit", "way"]) (DN : DefOk P w K mg base CX0 "nearest_units" 2 ["number", "divisor", "way"] spNear) : DefOk P w K mg base CX0 "_greatest_offset" 3 ["units", "one_unit", "way"] (spOff hiOff) := by
  refine A.ok fun f fd F => F.ok scHi (fun vs H Q E h => ?_) (fun cdv A outer s0 H vs Q E hr h => ?_)
  · obtain ⟨u, k, t, rfl, _⟩ := h
    rfl
  · obtain ⟨u, k, t, rfl, bu, hk, ht, q⟩ := h
    have nd := scHi.nd
    refine ⟨_, pss_cons (ps_set (i := 3) nd rfl (.inl rfl) (pe_op op_fdiv (pv 1) pe_int))
      (pss_cons (ps_for PassesOwn.never rfl (pi_tup (pe_tup (pa_cons (pe_op op_sub (pv 1) pe_int) (pa_cons (pv 3) (pa_cons (pe_op op_sub (pv 3) pe_int) pa_nil))))) (pg_name (i := 4) nd rfl (.inl rfl))
        (pss_one (ps_if (pt_cmpR op_eq (pe_def DN hr (by decide) (by rfl) pass0 (pa_cons (pe_op op_add (pe_op op_mulW (pv 0) (pv 1)) (pv 4)) (pa_cons (pv 1) (pa_cons (pv 2) pa_nil)))) (pv 0) (nomark _)) (pss_one (ps_ret (pv 4))) pss_nil)))
      (pss_one (ps_ret pe_int))), ?_⟩
    have bD := ten_lt k
    have pD := ten_pos k
    generalize hD : (10 : Int) ^ k = D at q bD pD ⊢
    refine ⟨_, rfl, _, _, rfl, rfl, ⟨by decide, by decide⟩, ?_⟩
    dsimp only [gName, List.set]
    refine ⟨_, rfl, _, _, rfl, rfl, _, rfl, _, rfl, _, _, rfl, rfl, by show 3 ≤ sizeLine; decide, fun p np => ?_⟩
    generalize ho : ([D - 1, D / 2, D / 2 - 1] : List Int) = offs
    have s1 : Same H (upd H p (.tup (offs.map V.int))) := same_new np
    have e1 : upd H p (.tup (offs.map V.int)) p = some (.tup (offs.map V.int)) := upd_same
    have lo3 : offs.length = 3 := by rw [← ho]; rfl
    have go : firstOk u D t offs = hiOff u D t := by rw [← ho]; rfl
    have ee : upd H p (.tup [.int (D - 1), .int (D / 2), .int (D / 2 - 1)]) = upd H p (.tup (offs.map V.int)) := by rw [← ho]; rfl
    refine ⟨p, rfl, ⟨_, SqT.of upd_same⟩, ?_⟩
    rw [ee]
    refine for_tup (K := K) (xs := offs.map V.int) (fun i σ H' => (∃ y : Option V, σ = [some (.int u), some (.int D), some (.str t), some (.int (D / 2)), y]) ∧ Same (upd H p (.tup (offs.map V.int))) H' ∧ firstOk u D t (offs.drop i) = hiOff u D t) ⟨⟨_, rfl⟩, Same.refl _, go⟩ (fun i σ H' _ z => SqT.of (z.2.1 _ _ e1)) ?_ ?_
    · rintro i x σ H' hx ⟨⟨y, rfl⟩, sm, fo⟩
      rw [List.getElem?_map] at hx
      obtain ⟨o, hx2, rfl⟩ := Option.map_eq_some_iff.mp hx
      obtain ⟨hi, eo⟩ := List.getElem?_eq_some_iff.mp hx2
      rw [List.drop_eq_getElem_cons hi, eo] at fo
      dsimp only [gName, List.set]
      refine ⟨_, rfl, _, rfl, _, _, rfl, rfl, wide_mul bu bD (by decide) (by omega) (by omega), _, rfl, _, _, rfl, rfl, _, rfl, _, rfl, u * D + o, D, t, rfl, pD, up_two bD (by omega), ht, fun H2 s2 => ⟨_, rfl, rfl, _, rfl, ite2 (fun e => ?_) (fun e => ?_)⟩⟩
      · have c : near (u * D + o) D t = u := by simpa using e
        unfold firstOk at fo
        rw [if_pos c] at fo
        refine ⟨_, rfl, ?_⟩
        rw [fo]
        exact q _ ((s1.trans sm).trans s2)
      · have c : ¬ near (u * D + o) D t = u := by simpa using e
        unfold firstOk at fo
        rw [if_neg c] at fo
        exact ⟨⟨_, rfl⟩, sm.trans s2, fo⟩
    · rintro σ H' ⟨⟨y, rfl⟩, sm, fo⟩
      rw [List.length_map, lo3, List.drop_eq_nil_of_le (by omega)] at fo
      have fo : (0 : Int) = hiOff u D t := fo
      show Q (.int 0) H'
      rw [fo]
      exact q _ (s1.trans sm)
end
end K08

/-! k08: shown_as. -/
namespace K08
open PySem PySem.Spec PyProof.Rows L2 LamX NdefX Own
abbrev pSh : Stmt := topS 24
def loU (u : Int) (s n p : Nat) (t : Str) : Int := if p ≤ n then u * (10 : Int) ^ (p - s) else u * (10 : Int) ^ (n - s) * (10 : Int) ^ (p - n) + loOff (u * (10 : Int) ^ (n - s)) ((10 : Int) ^ (p - n)) t
def hiU (u : Int) (s n p : Nat) (t : Str) : Int := if p ≤ n then u * (10 : Int) ^ (p - s) else u * (10 : Int) ^ (n - s) * (10 : Int) ^ (p - n) + hiOff (u * (10 : Int) ^ (n - s)) ((10 : Int) ^ (p - n)) t
section
variable {P : Program} {w : World} {K : PySem.W.Frag} {mg : Str → Option Value} {base : Heap} {C W : Addr}
theorem scSh : FnScope ["worth", "scale", "places", "way", "units", "one_unit", "low", "high"] ["worth", "scale", "places", "way"] (defScope pSh) := ⟨rfl, rfl, rfl, by decide +kernel, rfl, by decide +kernel, by decide +kernel⟩
/-- a pair of worths comes -/
def Pair (W : Addr) (H : Hp) (v1 v2 : Int) (p : Nat) (Q : VK) : Prop := ∀ (r b1 b2 : Addr) (u1 u2 : Int) (s1 s2 : Nat) (H' : Hp), Same H H' → H' r = some (.tup [.ref b1, .ref b2]) → WAt W H' b1 u1 s1 → WAt W H' b2 u2 s2 → IsLow v1 p u1 s1 → IsLow v2 p u2 s2 → Q (.ref r) H'
def spSh (C W : Addr) : Sp := fun vs H Q E => ∃ x y z v : V, vs = [x, y, z, v] ∧ ((Thing H x ∧ Bad C "value" x H E) ∨ ∃ (a : Addr) (u : Int) (s : Nat), x = .ref a ∧ WAt W H a u s ∧ s ≤ 100 ∧ u.natAbs < 2 ^ 300 ∧ (s = 0 ∨ u % 10 ≠ 0) ∧
  ((Thing H y ∧ isWh y = false ∧ Bad C "value" y H E) ∨ ∃ n : Nat, y = .int n ∧ n ≤ 90 ∧
  ((Thing H z ∧ isWh z = false ∧ Bad C "value" z H E) ∨ ∃ p : Nat, z = .int p ∧ p ≤ 100 ∧ ((Thing H v ∧ isWay v = false ∧ Bad C "value" v H E) ∨ ∃ t ∈ waysL, v = .str t ∧ (min n p < s → Q .non H) ∧ (s ≤ min n p → Pair W H (loU u s n p t) (hiU u s n p t) p Q)))))
theorem isWh_no {n : Nat} {p : Prop} (z : isWh (.int (n : Int)) = false) : p := by
  rw [isWh_cast] at z
  cases z
theorem isWay_ok {t : Str} (ht : t ∈ waysL) : isWay (.str t) = true := decide_eq_true ht
theorem ok_sh (A : At K mg "shown_as" pSh ["worth", "scale", "places", "way"]) (B : Blt mg) (T : WorthC K mg W) (M : WMk P w K mg base C W) (U : WMeth P w K mg base W "units_at" 10 ["self", "scale"] (spUat W)) (D1 : DefOk P w K mg base (L2.CX P w) "need_worth" 3 ["value"] (spNeedW C W)) (D2 : DefOk P w K mg base (L2.CX P w) "need_whole_number" 3 ["value"] (spNWh C))
    (D3 : DefOk P w K mg base (L2.CX P w) "need_way" 3 ["value"] (spNWay C)) (D4 : DefOk P w K mg base CX0 "ten_to" 9 ["places"] (spTenTo 8)) (DL : DefOk P w K mg base CX0 "_least_offset" 3 ["units", "one_unit", "way"] (spOff loOff)) (DH : DefOk P w K mg base CX0 "_greatest_offset" 3 ["units", "one_unit", "way"] (spOff hiOff)) :
    DefOk P w K mg base (L2.CX P w) "shown_as" 13 ["worth", "scale", "places", "way"] (spSh C W) := by
  refine A.ok fun f fd F => F.okX scSh (fun vs H Q E h => ?_) (fun cdv A outer s0 H vs Q E hr h => ?_)
  · obtain ⟨x, y, z, v, rfl, _⟩ := h
    rfl
  · obtain ⟨x, y, z, v, rfl, h⟩ := h
    have nd := scSh.nd
    obtain ⟨fU, fdU, mU, FU, bU⟩ := U.ex
    refine ⟨_, pss_cons (ps_expr (pe_def (E := E) D1 hr (by decide) (by rfl) (passes_call (takes_of rfl rfl rfl rfl) fun _ _ _ _ z => z) (pa_cons (pv 0) pa_nil)))
      (pss_cons (ps_expr (pe_def (E := E) D2 hr (by decide) (by rfl) (passes_call (takes_of rfl rfl rfl rfl) fun _ _ _ _ z => z) (pa_cons (pv 1) pa_nil)))
      (pss_cons (ps_expr (pe_def (E := E) D2 hr (by decide) (by rfl) (passes_call (takes_of rfl rfl rfl rfl) fun _ _ _ _ z => z) (pa_cons (pv 2) pa_nil)))
      (pss_cons (ps_expr (pe_def (E := E) D3 hr (by decide) (by rfl) (passes_call (takes_of rfl rfl rfl rfl) fun _ _ _ _ z => z) (pa_cons (pv 3) pa_nil)))
      (pss_cons (ps_if (pt_cmpR op_gt (pe_fld (pv 0) (by rfl)) (pe_callB (call_min2 rfl) (by rfl) B.min (by decide +kernel) (pa_cons (pv 1) (pa_cons (pv 2) pa_nil))) (nomark _)) (pss_one (ps_ret pe_non)) pss_nil)
      (pss_cons (ps_if (pt_cmpR op_le (pv 2) (pv 1) (nomark _)) (pss_one (ps_ret (pe_tup (pa_cons (pv 0) (pa_cons (pv 0) pa_nil))))) pss_nil)
      (pss_cons (ps_par (i := 4) (j := 5) (by rfl) nd rfl rfl (by decide) rfl rfl (pa_cons (pe_meth (E := E) (pv 0) T.cls mU FU (hr.mono (by decide)) bU .nil (passes_call (takes_of rfl rfl rfl rfl) fun _ _ _ _ z => z) (pa_cons (pv 1) pa_nil)) (pa_cons (pe_def D4 hr (by decide) (by rfl) pass0 (pa_cons (pe_op op_sub (pv 2) (pv 1)) pa_nil)) pa_nil)) (by rfl))
      (pss_cons (ps_par (i := 6) (j := 7) (by rfl) nd rfl rfl (by decide) rfl rfl (pa_cons (pe_def DL hr (by decide) (by rfl) pass0 (pa_cons (pv 4) (pa_cons (pv 5) (pa_cons (pv 3) pa_nil)))) (pa_cons (pe_def DH hr (by decide) (by rfl) pass0 (pa_cons (pv 4) (pa_cons (pv 5) (pa_cons (pv 3) pa_nil)))) pa_nil)) (by rfl))
      (pss_one (ps_ret (pe_tup (pa_cons (pe_worth (C := C) (E := E) M T hr (by decide) (by rfl) (passes_call (takes_of rfl rfl rfl rfl) fun _ _ _ _ z => z) (pa_cons (pe_op op_add (pe_op op_mulW (pv 4) (pv 5)) (pv 6)) (pa_cons (pv 2) pa_nil)))
        (pa_cons (pe_worth (C := C) (E := E) M T hr (by decide) (by rfl) (passes_call (takes_of rfl rfl rfl rfl) fun _ _ _ _ z => z) (pa_cons (pe_op op_add (pe_op op_mulW (pv 4) (pv 5)) (pv 7)) (pa_cons (pv 2) pa_nil))) pa_nil)))))))))))), ?_⟩
    rcases h with ⟨th, bad⟩ | ⟨a, u, s, rfl, wa, hs, hu, ow, h⟩
    · exact ⟨_, rfl, x, rfl, .inr ⟨th, bad⟩⟩
    refine ⟨_, rfl, _, rfl, .inl ⟨a, u, s, rfl, wa, ?_⟩⟩
    rcases h with ⟨th, hy, bad⟩ | ⟨n, rfl, hn, h⟩
    · exact ⟨_, rfl, y, rfl, th, fun z => absurd (z.symm.trans hy) (by decide), fun _ => bad⟩
    refine ⟨_, rfl, .int n, rfl, .int _, fun _ => ?_, fun z => isWh_no z⟩
    rcases h with ⟨th, hz, bad⟩ | ⟨p, rfl, hp, h⟩
    · exact ⟨_, rfl, z, rfl, th, fun e => absurd (e.symm.trans hz) (by decide), fun _ => bad⟩
    refine ⟨_, rfl, .int p, rfl, .int _, fun _ => ?_, fun z => isWh_no z⟩
    rcases h with ⟨th, hv, bad⟩ | ⟨t, ht, rfl, q0, q⟩
    · exact ⟨_, rfl, v, rfl, th, fun e => absurd (e.symm.trans hv) (by decide), fun _ => bad⟩
    refine ⟨_, rfl, .str t, rfl, .str _, fun _ => ?_, fun e => absurd ((isWay_ok ht).symm.trans e) (by decide)⟩
    obtain ⟨dx, ea⟩ := id wa
    refine ⟨_, rfl, a, W, dx, _, .int s, rfl, ea, T.cls, T.ns, lk_s _ _, _, rfl, _, rfl, _, _, rfl, ?_⟩
    dsimp only
    rw [min_if]
    refine ⟨_, _, rfl, rfl, _, rfl, ite2 (fun e => ?_) (fun e => ?_)⟩
    · have z : ((min n p : Nat) : Int) < (s : Int) := of_decide_eq_true e
      exact q0 (by omega)
    have hm : s ≤ min n p := by
      have z : ¬ ((min n p : Nat) : Int) < (s : Int) := fun y => e (decide_eq_true y)
      omega
    have q := q hm
    refine ⟨_, rfl, _, rfl, _, _, rfl, rfl, _, rfl, ite2 (fun e => ?_) (fun e => ?_)⟩
    · have z : (p : Int) ≤ (n : Int) := of_decide_eq_true e
      have hpn : p ≤ n := by omega
      unfold loU hiU at q
      rw [if_pos hpn, if_pos hpn] at q
      have lw : IsLow (u * (10 : Int) ^ (p - s)) p u s := ⟨by omega, rfl, ow⟩
      exact ⟨_, rfl, _, rfl, by show 2 ≤ sizeLine; decide, fun r nr => q r a a u u s s _ (same_new nr) upd_same (wa.same (same_new nr)) (wa.same (same_new nr)) lw lw⟩
    have hpn : ¬ p ≤ n := by
      have z : ¬ (p : Int) ≤ (n : Int) := fun y => e (decide_eq_true y)
      omega
    have g : (p : Int) - (n : Int) = ((p - n : Nat) : Int) := by omega
    refine ⟨_, rfl, a, dx, _, rfl, ea, lk_m _ _ (by decide +kernel) (by decide +kernel), _, rfl, a, u, s, n, rfl, wa, by omega, by omega, up_two hu (by decide), ?_⟩
    refine ⟨_, rfl, _, rfl, _, _, rfl, rfl, p - n, congrArg (fun z => [V.int z]) g, by omega, ?_⟩
    refine ⟨_, _, rfl, ?_⟩
    dsimp only [gName, List.set]
    unfold loU hiU at q
    rw [if_neg hpn, if_neg hpn] at q
    have bU : (u * (10 : Int) ^ (n - s)).natAbs < 2 ^ 700 := up_two (wide_lt hu (ten_lt (n - s))) (by omega)
    generalize u * (10 : Int) ^ (n - s) = U0 at bU q ⊢
    refine ⟨_, rfl, _, rfl, _, rfl, U0, p - n, t, rfl, bU, by omega, ht, fun H1 sm1 => ?_⟩
    refine ⟨_, rfl, _, rfl, _, rfl, U0, p - n, t, rfl, bU, by omega, ht, fun H2 sm2 => ?_⟩
    refine ⟨_, _, rfl, ?_⟩
    dsimp only [gName, List.set]
    refine ⟨_, rfl, _, rfl, _, _, rfl, rfl, wide_mul bU (ten_lt (p - n)) (by decide) (by omega) (by omega), _, rfl, _, _, rfl, rfl, _, rfl, ?_⟩
    dsimp only [tNil]
    rw [List.append_nil]
    refine worth_of (n := p) (by omega) fun u1 s1 b1 H3 lw1 sm3 np1 wp1 => ?_
    refine ⟨_, rfl, _, rfl, _, _, rfl, rfl, wide_mul bU (ten_lt (p - n)) (by decide) (by omega) (by omega), _, rfl, _, _, rfl, rfl, _, rfl, ?_⟩
    dsimp only [tNil]
    rw [List.append_nil]
    refine worth_of (n := p) (by omega) fun u2 s2 b2 H4 lw2 sm4 np2 wp2 => ?_
    refine ⟨by show 2 ≤ sizeLine; decide, fun r nr => ?_⟩
    exact q r b1 b2 u1 u2 s1 s2 _ ((((sm1.trans sm2).trans sm3).trans sm4).trans (same_new nr)) upd_same ((wp1.same sm4).same (same_new nr)) (wp2.same (same_new nr)) lw1 lw2
end
end K08

/-! k08: ends. -/
namespace K08
open PySem PySem.Spec PyProof.Rows L2 LamX NdefX Own
abbrev sEnds : Stmt := topS 41
theorem low_nat {v u : Int} {n s a : Nat} (h : IsLow v n u s) (b : v.natAbs < 2 ^ a) : u.natAbs < 2 ^ a := by
  have p := ten_pos (n - s)
  have e := h.eq
  have z : v.natAbs = u.natAbs * ((10 : Int) ^ (n - s)).natAbs := by rw [e, Int.natAbs_mul]
  have q : 1 ≤ ((10 : Int) ^ (n - s)).natAbs := by omega
  have := Nat.mul_le_mul_left u.natAbs q
  omega
section
variable {P : Program} {w : World} {K : PySem.W.Frag} {mg : Str → Option Value} {base : Heap} {C W : Addr}
theorem scEnds : FnScope ["_law_told_here", "_law_depth", "_law_found", "_law_worth", "_law_row"] ["_law_told_here", "_law_depth"] (defScope sEnds) := ⟨rfl, rfl, rfl, by decide +kernel, rfl, by decide +kernel, by decide +kernel⟩
/-- a worth that is v at the scale p -/
def Is (W : Addr) (H : Hp) (x : V) (v : Int) (p : Nat) : Prop := ∃ (b : Addr) (u : Int) (s : Nat), x = .ref b ∧ WAt W H b u s ∧ IsLow v p u s
def spEnds (W : Addr) : Sp := fun vs H Q _ => ∃ (r : Addr) (x1 x2 : V) (v1 v2 : Int) (p : Nat), vs = [.ref r, .int p] ∧ H r = some (.tup [x1, x2]) ∧ Is W H x1 v1 p ∧ Is W H x2 v2 p ∧ v1.natAbs < 2 ^ 1000 ∧ v2.natAbs < 2 ^ 1000 ∧ p ≤ 100 ∧ ∀ (l : Addr) (H' : Hp), Same H H' → H' l = some (.lst [.int v1, .int v2]) → Q (.ref l) H'
theorem ok_ends (A : At K mg "_law_ends" sEnds ["_law_told_here", "_law_depth"]) (B : Blt mg) (DT : DefOk P w K mg base CX0 "_law_told" 1 ["_law_worth"] (spTold W)) (D5 : DefOk P w K mg base CX0 "_law_ten" 1 ["_law_number"] spTen) :
    DefOk P w K mg base CX0 "_law_ends" 2 ["_law_told_here", "_law_depth"] (spEnds W) := by
  refine A.ok fun f fd F => F.ok scEnds (fun vs H Q E h => ?_) (fun cdv A outer s0 H vs Q E hr h => ?_)
  · obtain ⟨r, x1, x2, v1, v2, p, rfl, _⟩ := h
    rfl
  · obtain ⟨r, x1, x2, v1, v2, p, rfl, er, i1, i2, b1, b2, hp, q⟩ := h
    have nd := scEnds.nd
    refine ⟨_, pss_cons (ps_if (PW.pt (pw_or (pt_not (pt_val (pe_callB call_isi (by rfl) B.isi (by decide +kernel) (pa_cons (pv 0) (pa_cons (pe_bltn (v := .ty "tuple") (by rfl) B.tuple (by decide +kernel) rfl) pa_nil))))) (pw_or1 (pt_cmpR op_ne (pe_callB call_len (by rfl) B.len PySem.boot_len (pa_cons (pv 0) pa_nil)) pe_int (nomark _))))) (pss_one (ps_ret pe_non)) pss_nil)
      (pss_cons (ps_set (i := 2) nd rfl (.inl rfl) (pe_lst pa_nil))
      (pss_cons (ps_for PassesOwn.never rfl (pi_tup (pv 0)) (pg_name (i := 3) nd rfl (.inl rfl))
        (pss_cons (ps_set (i := 4) nd rfl (.inl rfl) (pe_def DT hr (by decide) (by rfl) pass0 (pa_cons (pv 3) pa_nil)))
        (pss_cons (ps_if (PW.pt (pw_or (pt_cmpR op_isN (pv 4) pe_non (nomark _)) (pw_or1 (pt_cmpR op_gt (pe_ix ix_tup (pv 4) pe_int (fun _ _ => rfl)) (pv 1) (nomark _))))) (pss_one (ps_ret pe_non)) pss_nil)
        (pss_one (ps_expr (pe_bm PySem.F.plainAttrs_list PySem.F.slot_list_append PySem.F.type_list_append mt_append (pv 2) (pa_cons (pe_op op_mulW (pe_ix ix_tup (pv 4) pe_int (fun _ _ => rfl)) (pe_def D5 hr (by decide) (by rfl) pass0 (pa_cons (pe_op op_sub (pv 1) (pe_ix ix_tup (pv 4) pe_int (fun _ _ => rfl))) pa_nil))) pa_nil)))))))
      (pss_one (ps_ret (pv 2))))), ?_⟩
    refine ⟨_, rfl, _, _, _, _, true, rfl, .ty _, .base (.tup er), kit_ty (show kitB "tuple" "tuple" = some true by decide +kernel), _, rfl, iteF ?_⟩
    refine ⟨_, rfl, _, 2, rfl, .inr ⟨_, SqT.of er, rfl⟩, rfl, _, rfl, iteF ?_⟩
    refine ⟨by show 0 ≤ sizeLine; decide, fun l nl => ?_⟩
    have sl := same_new (o := HO.lst []) nl
    dsimp only [gName, List.set]
    refine ⟨_, rfl, r, rfl, ⟨_, SqT.of (sl _ _ er)⟩, for_tup (K := K) (xs := [x1, x2]) (fun i σ H' => (∃ y3 y4 : Option V, σ = [some (.ref r), some (.int p), some (.ref l), y3, y4]) ∧ Same H H' ∧ H' l = some (.lst (([v1, v2].take i).map V.int))) ⟨⟨_, _, rfl⟩, sl, upd_same⟩ (fun i σ H' _ z => SqT.of (z.2.1 _ _ er)) ?_ ?_⟩
    · rintro i x σ H' hx ⟨⟨y3, y4, rfl⟩, sm, el⟩
      have hv : ∃ v, [v1, v2][i]? = some v ∧ Is W H x v p ∧ v.natAbs < 2 ^ 1000 := by
        match i, hx with
        | 0, hx => exact ⟨v1, rfl, by cases hx; exact i1, b1⟩
        | 1, hx => exact ⟨v2, rfl, by cases hx; exact i2, b2⟩
        | n + 2, hx => cases hx
      obtain ⟨v, hv, ⟨b, u, s, rfl, wa, lw⟩, bv⟩ := hv
      have ll : ([v1, v2].take (i + 1)) = [v1, v2].take i ++ [v] := by
        rw [List.take_succ, hv]
        rfl
      have hi : ([v1, v2].take i).length ≤ 2 := by
        rw [List.length_take]
        exact Nat.min_le_right _ _
      have le := lw.le
      dsimp only [gName, List.set]
      refine ⟨_, rfl, b, u, s, rfl, wa.same sm, fun r2 H1 s1 nr er2 => ?_⟩
      have el1 := s1 _ _ el
      dsimp only [gName, List.set]
      refine ⟨_, rfl, rfl, _, rfl, iteF ⟨_, rfl, r2, _, 1, _, rfl, rfl, SqT.of er2, rfl, _, rfl, _, _, rfl, rfl, _, rfl, ite2 (fun e => ?_) (fun _ => ?_)⟩⟩
      · have z : (p : Int) < (s : Int) := of_decide_eq_true e
        omega
      have g : (p : Int) - (s : Int) = ((p - s : Nat) : Int) := by omega
      refine ⟨_, rfl, .inl ⟨rfl, _, SqL.of el1⟩, _, rfl, r2, _, 0, _, rfl, rfl, SqT.of er2, rfl, _, rfl, _, rfl, r2, _, 1, _, rfl, rfl, SqT.of er2, rfl, _, _, rfl, rfl, p - s, congrArg (fun z => [V.int z]) g, by omega, _, _, rfl, rfl, wide_mul (low_nat lw bv) (ten_lt (p - s)) (by decide) (by omega) (by omega), l, _, _, rfl, rfl, el1, by rw [List.length_map]; exact Nat.lt_of_le_of_lt hi (by decide), ?_⟩
      refine ⟨⟨_, _, rfl⟩, fun c o e => ?_, ?_⟩
      · rw [upd_ne (ne_of_none e nl)]
        exact s1 _ _ (sm _ _ e)
      · rw [upd_same, ll, List.map_append]
        dsimp only
        rw [← lw.eq]
        rfl
    · rintro σ H' ⟨⟨y3, y4, rfl⟩, sm, el⟩
      exact ⟨_, rfl, q l H' sm el⟩
end
end K08

/-! k08: right. -/
namespace K08
open PySem PySem.Spec PyProof.Rows L2 LamX NdefX Own
abbrev sRight : Stmt := topS 42
abbrev bRight (i : Nat) : Stmt := (defBody sRight).getD i (.Pass ⟨0, 0, 0, 0⟩)
def lcScope : Expr → Scope
  | .ListComp _ _ s _ => s
  | _ => ⟨.function, [], false, false, []⟩
def retArg : Stmt → Expr
  | .Return (some (.Call _ (a :: _) _ _)) _ => a
  | _ => .Constant .none 0 ⟨0, 0, 0, 0⟩
def asgE : Stmt → Expr
  | .Assign _ v _ => v
  | _ => .Constant .none 0 ⟨0, 0, 0, 0⟩
theorem off_lt {U D o : Int} {a b : Nat} (h1 : U.natAbs < 2 ^ a) (h2 : D.natAbs < 2 ^ b) (lo : -D < o) (hi : o < D) (hD : 0 < D) : (U * D + o).natAbs < 2 ^ (a + b) + 2 ^ b := by
  have z : (U * D).natAbs < 2 ^ (a + b) := wide_lt h1 h2
  omega
section
variable {P : Program} {w : World} {K : PySem.W.Frag} {mg : Str → Option Value} {base : Heap} {C W : Addr}
abbrev nRight : List Str := ["_law_told_here", "_law_row", "_law_scale", "_law_depth", "_law_manner", "_law_units", "_law_own", "_law_limits", "_law_goal", "_law_wide", "_law_asked", "_law_shown", "_law_number"]
theorem dp_l2 {H : Hp} {a : Addr} {u v : Int} (e : H a = some (.lst [.int u, .int v])) : Dp K H (.ref a) (.list [.int u, .int v]) := .lst (SqL.of e) (.cons (.int u) (.cons (.int v) .nil))
theorem sh_l2 (u v : Int) : SeqAt.shaped (.list [.int u, .int v]) = true := by
  unfold SeqAt.shaped
  simp [PyData.canLay0, PyData.canLayAll0, PyData.depth, PyData.depthAll]
theorem dp_b4 {H : Hp} {a : Addr} {b c d e : Bool} (h : H a = some (.lst [.bl b, .bl c, .bl d, .bl e])) : Dp K H (.ref a) (.list [.bool b, .bool c, .bool d, .bool e]) := .lst (SqL.of h) (.cons (.bl b) (.cons (.bl c) (.cons (.bl d) (.cons (.bl e) .nil))))
theorem sh_b4 (b c d e : Bool) : SeqAt.shaped (.list [.bool b, .bool c, .bool d, .bool e]) = true := by
  unfold SeqAt.shaped
  simp [PyData.canLay0, PyData.canLayAll0, PyData.depth, PyData.depthAll]
theorem ends_lt {u : Int} {s n p : Nat} {t : Str} (ht : t ∈ waysL) (bu : u.natAbs < 2 ^ 300) (hn : n ≤ 90) (hp : p ≤ 100) : (loU u s n p t).natAbs < 2 ^ 1000 ∧ (hiU u s n p t).natAbs < 2 ^ 1000 := by
  unfold loU hiU
  by_cases h : p ≤ n
  · rw [if_pos h, if_pos h]
    exact ⟨up_two (wide_lt bu (ten_lt (p - s))) (by omega), up_two (wide_lt bu (ten_lt (p - s))) (by omega)⟩
  · rw [if_neg h, if_neg h]
    have pD := ten_pos (p - n)
    obtain ⟨d2, d4⟩ := ten_even (k := p - n) (by omega)
    obtain ⟨l1, l2, _⟩ := lo_ok (u := u * (10 : Int) ^ (n - s)) ht d2 d4
    obtain ⟨h1, h2, _⟩ := hi_ok (u := u * (10 : Int) ^ (n - s)) ht d2 d4
    have bD : ((10 : Int) ^ (p - n)).natAbs < 2 ^ 401 := up_two (ten_lt (p - n)) (by omega)
    have e : u * (10 : Int) ^ (n - s) * (10 : Int) ^ (p - n) = u * (10 : Int) ^ (n - s + (p - n)) := by rw [Int.mul_assoc, ← Int.pow_add]
    have bM : (u * (10 : Int) ^ (n - s) * (10 : Int) ^ (p - n)).natAbs < 2 ^ 900 := by
      rw [e]
      exact up_two (wide_lt bu (ten_lt (n - s + (p - n)))) (by omega)
    have g : (2 : Nat) ^ 900 + 2 ^ 401 < 2 ^ 1000 := by decide +kernel
    generalize u * (10 : Int) ^ (n - s) * (10 : Int) ^ (p - n) = M at bM ⊢
    generalize loOff (u * (10 : Int) ^ (n - s)) ((10 : Int) ^ (p - n)) t = lo at l1 l2 ⊢
    generalize hiOff (u * (10 : Int) ^ (n - s)) ((10 : Int) ^ (p - n)) t = hi at h1 h2 ⊢
    generalize (10 : Int) ^ (p - n) = D at bD pD l2 h2
    generalize (2 : Nat) ^ 900 = A at bM g
    generalize (2 : Nat) ^ 401 = B at bD g
    generalize (2 : Nat) ^ 1000 = G at g ⊢
    constructor <;> omega
theorem scRight : FnScope nRight ["_law_told_here", "_law_row", "_law_scale", "_law_depth", "_law_manner"] (defScope sRight) := ⟨rfl, rfl, rfl, by decide +kernel, rfl, by decide +kernel, by decide +kernel⟩
theorem blkS : BlkOk nRight (defScope sRight) (lcScope (asgE (bRight 8))) [("_law_number", 12)] := blkOk_by (by decide +kernel)
def spRight (W : Addr) : Sp := fun vs H Q _ => ∃ (x : V) (rw : Addr) (u : Int) (s n p : Nat) (t : Str), vs = [x, .ref rw, .int n, .int p, .str t] ∧ H rw = some (.tup [.int u, .int s]) ∧ u.natAbs < 2 ^ 300 ∧ s ≤ 100 ∧ n ≤ 90 ∧ p ≤ 100 ∧ t ∈ waysL ∧
  ((min n p < s ∧ x = .non) ∨ (s ≤ min n p ∧ ∃ (r : Addr) (x1 x2 : V), x = .ref r ∧ H r = some (.tup [x1, x2]) ∧ Is W H x1 (loU u s n p t) p ∧ Is W H x2 (hiU u s n p t) p)) ∧ ∀ H', Same H H' → Q (.bl true) H'
theorem ok_right (A : At K mg "_law_right" sRight ["_law_told_here", "_law_row", "_law_scale", "_law_depth", "_law_manner"]) (DE : DefOk P w K mg base CX0 "_law_ends" 2 ["_law_told_here", "_law_depth"] (spEnds W)) (D5 : DefOk P w K mg base CX0 "_law_ten" 1 ["_law_number"] spTen) (DR : DefOk P w K mg base CX0 "_law_rounds" 1 ["_law_number", "_law_divisor", "_law_manner"] spRnds) :
    DefOk P w K mg base CX0 "_law_right" 3 ["_law_told_here", "_law_row", "_law_scale", "_law_depth", "_law_manner"] (spRight W) := by
  refine A.ok fun f fd F => F.ok scRight (fun vs H Q E h => ?_) (fun cdv A outer s0 H vs Q E hr h => ?_)
  · obtain ⟨x, rw, u, s, n, p, t, rfl, _⟩ := h
    rfl
  · obtain ⟨x, rw, u, s, n, p, t, rfl, er, bu, hs, hn, hp, ht, h, q⟩ := h
    have nd := scRight.nd
    refine ⟨_, pss_cons (ps_asg (pv 1) (pg_tup rfl (pgs_cons (pg_name (i := 5) nd rfl (.inl rfl)) (pgs_cons (pg_name (i := 6) nd rfl (.inl rfl)) pgs_nil))))
      (pss_cons (ps_if (PW.pt (pw_or (pt_cmpR op_gt (pv 6) (pv 2) (nomark _)) (pw_or1 (PW.pt (pw_and (pt_cmpR op_le (pv 3) (pv 2) (nomark _)) (pw_and1 (pt_cmpR op_gt (pv 6) (pv 3) (nomark _)))))))) (pss_one (ps_ret (pe_cmpR op_isN (pv 0) pe_non (nomark _)))) pss_nil)
      (pss_cons (ps_set (i := 7) nd rfl (.inl rfl) (pe_def DE hr (by decide) (by rfl) pass0 (pa_cons (pv 0) (pa_cons (pv 3) pa_nil))))
      (pss_cons (ps_if (pt_cmpR op_isN (pv 7) pe_non (nomark _)) (pss_one (ps_ret pe_bl)) pss_nil)
      (pss_cons (ps_if (pt_cmpR op_le (pv 3) (pv 2) (nomark _)) (pss_one (ps_ret (pe_cmpR (op_eqD hr.units) (pv 7) (pe_op op_rep (pe_lst (pa_cons (pe_op op_mulW (pv 5) (pe_def D5 hr (by decide) (by rfl) pass0 (pa_cons (pe_op op_sub (pv 3) (pv 6)) pa_nil))) pa_nil)) pe_int) (nomark _)))) pss_nil)
      (pss_cons (ps_asg (pe_tup (pa_cons (pe_op op_mulW (pv 5) (pe_def D5 hr (by decide) (by rfl) pass0 (pa_cons (pe_op op_sub (pv 2) (pv 6)) pa_nil))) (pa_cons (pe_def D5 hr (by decide) (by rfl) pass0 (pa_cons (pe_op op_sub (pv 3) (pv 2)) pa_nil)) pa_nil))) (pg_tup rfl (pgs_cons (pg_name (i := 8) nd rfl (.inr rfl)) (pgs_cons (pg_name (i := 9) nd rfl (.inr rfl)) pgs_nil))))
      (pss_cons (ps_if (pt_not (pt_chain op_le op_le (pe_ix ix_list (pv 7) pe_int (fun _ _ => rfl)) (pe_op op_mulW (pv 8) (pv 9)) (pe_ix ix_list (pv 7) pe_int (fun _ _ => rfl)))) (pss_one (ps_ret pe_bl)) pss_nil)
      (pss_cons (ps_set (i := 10) nd rfl (.inl rfl) (pe_lst (pa_cons (pe_op op_sub (pe_ix ix_list (pv 7) pe_int (fun _ _ => rfl)) pe_int) (pa_cons (pe_ix ix_list (pv 7) pe_int (fun _ _ => rfl)) (pa_cons (pe_ix ix_list (pv 7) pe_int (fun _ _ => rfl)) (pa_cons (pe_op op_add (pe_ix ix_list (pv 7) pe_int (fun _ _ => rfl)) pe_int) pa_nil))))))
      (pss_cons (ps_setLc (i := 11) (own := [("_law_number", 12)]) rfl nd rfl rfl rfl (pi_list (pv 10)) blkS (fun _ _ _ _ _ => pg_name (i := 12) nd rfl (.inl rfl)) (fun _ _ _ _ _ => pts_nil)
        (fun _ _ _ _ _ => pe_cmpR op_eq (pe_def DR hr (by decide) (by rfl) pass0 (pa_cons (pv 12) (pa_cons (pv 9) (pa_cons (pv 4) pa_nil)))) (pv 8) (nomark _)))
      (pss_one (ps_ret (pe_cmpR (op_eqD hr.units) (pv 11) (pe_lst (pa_cons pe_bl (pa_cons pe_bl (pa_cons pe_bl (pa_cons pe_bl pa_nil))))) (nomark _)))))))))))), ?_⟩
    refine ⟨_, rfl, rw, _, rfl, SqT.of er, rfl, _, _, rfl, _, _, rfl, rfl, ?_⟩
    dsimp only [gName, List.set]
    rcases h with ⟨hm, rfl⟩ | ⟨hm, r, x1, x2, rfl, er2, i1, i2⟩
    · refine ⟨_, rfl, _, rfl, _, _, rfl, rfl, _, rfl, ite2 (fun _ => ⟨_, rfl, rfl, q H (Same.refl H)⟩) (fun e => ?_)⟩
      have z : ¬ (n : Int) < (s : Int) := fun y => e (decide_eq_true y)
      refine ⟨_, rfl, _, rfl, _, _, rfl, rfl, _, rfl, ite2 (fun e => ?_) (fun e => ?_)⟩
      · refine ⟨_, rfl, _, rfl, _, _, rfl, rfl, _, rfl, ite2 (fun _ => ⟨_, rfl, rfl, q H (Same.refl H)⟩) (fun e2 => ?_)⟩
        have z1 : (p : Int) ≤ (n : Int) := of_decide_eq_true e
        have z2 : ¬ (p : Int) < (s : Int) := fun y => e2 (decide_eq_true y)
        omega
      · have z1 : ¬ (p : Int) ≤ (n : Int) := fun y => e (decide_eq_true y)
        omega
    · obtain ⟨bL, bH⟩ := ends_lt (s := s) ht bu hn hp
      have ow : ¬ (n : Int) < (s : Int) := by omega
      have ow2 : ¬ (p : Int) < (s : Int) := by omega
      by_cases hpn : p ≤ n
      · refine ⟨_, rfl, _, rfl, _, _, rfl, rfl, _, rfl, ite2 (fun e => absurd (of_decide_eq_true e) ow) (fun _ => ?_)⟩
        refine ⟨_, rfl, _, rfl, _, _, rfl, rfl, _, rfl, ite2 (fun _ => ?_) (fun e => absurd (decide_eq_true (by omega)) e)⟩
        refine ⟨_, rfl, _, rfl, _, _, rfl, rfl, _, rfl, ite2 (fun e => absurd (of_decide_eq_true e) ow2) (fun _ => ?_)⟩
        refine ⟨_, rfl, _, rfl, r, x1, x2, _, _, p, rfl, er2, i1, i2, bL, bH, hp, fun l H1 s1 el => ?_⟩
        dsimp only [gName, List.set]
        refine ⟨_, rfl, rfl, _, rfl, iteF ?_⟩
        refine ⟨_, rfl, _, rfl, _, _, rfl, rfl, _, rfl, ite2 (fun _ => ?_) (fun e => absurd (decide_eq_true (by omega)) e)⟩
        unfold loU hiU at el
        rw [if_pos hpn, if_pos hpn] at el
        have g : (p : Int) - (s : Int) = ((p - s : Nat) : Int) := by omega
        refine ⟨_, rfl, _, rfl, _, rfl, _, rfl, _, _, rfl, rfl, p - s, congrArg (fun z => [V.int z]) g, by omega, _, _, rfl, rfl, wide_mul bu (ten_lt (p - s)) (by decide) (by omega) (by omega), by show 1 ≤ sizeLine; decide, fun g1 ng1 => ?_⟩
        refine ⟨g1, 2, _, rfl, rfl, upd_same, by decide, by decide, by show 1 * 2 ≤ sizeLine; decide, fun g2 ng2 => ?_⟩
        have s2 := (same_new (o := HO.lst [.int (u * (10 : Int) ^ (p - s))]) ng1).trans (same_new (o := HO.lst [.int (u * (10 : Int) ^ (p - s)), .int (u * (10 : Int) ^ (p - s))]) ng2)
        refine ⟨_, _, dp_l2 (s2 _ _ el), dp_l2 upd_same, sh_l2 _ _, sh_l2 _ _, ?_⟩
        rw [SeqAt.eqv_refl _ (SeqAt.canLay_of_shaped (sh_l2 _ _))]
        exact q _ (s1.trans s2)
      · refine ⟨_, rfl, _, rfl, _, _, rfl, rfl, _, rfl, ite2 (fun e => absurd (of_decide_eq_true e) ow) (fun _ => ?_)⟩
        refine ⟨_, rfl, _, rfl, _, _, rfl, rfl, _, rfl, ite2 (fun e => absurd (of_decide_eq_true e) (by omega)) (fun _ => ?_)⟩
        refine ⟨_, rfl, _, rfl, r, x1, x2, _, _, p, rfl, er2, i1, i2, bL, bH, hp, fun l H1 s1 el => ?_⟩
        dsimp only [gName, List.set]
        refine ⟨_, rfl, rfl, _, rfl, iteF ?_⟩
        refine ⟨_, rfl, _, rfl, _, _, rfl, rfl, _, rfl, ite2 (fun e => absurd (of_decide_eq_true e) (by omega)) (fun _ => ?_)⟩
        unfold loU at el bL
        unfold hiU at el bH
        rw [if_neg hpn] at bL bH
        rw [if_neg hpn, if_neg hpn] at el
        have g1 : (n : Int) - (s : Int) = ((n - s : Nat) : Int) := by omega
        have g2 : (p : Int) - (n : Int) = ((p - n : Nat) : Int) := by omega
        refine ⟨_, rfl, _, rfl, _, rfl, _, _, rfl, rfl, n - s, congrArg (fun z => [V.int z]) g1, by omega, _, _, rfl, rfl, wide_mul bu (ten_lt (n - s)) (by decide) (by omega) (by omega), _, rfl, _, rfl, _, _, rfl, rfl, p - n, congrArg (fun z => [V.int z]) g2, by omega, by show 2 ≤ sizeLine; decide, fun c nc => ?_⟩
        refine ⟨c, _, rfl, SqT.of upd_same, rfl, _, _, rfl, _, _, rfl, rfl, ?_⟩
        have bU : (u * (10 : Int) ^ (n - s)).natAbs < 2 ^ 700 := up_two (wide_lt bu (ten_lt (n - s))) (by omega)
        have pD := ten_pos (p - n)
        have bD : ((10 : Int) ^ (p - n)).natAbs < 2 ^ 401 := up_two (ten_lt (p - n)) (by omega)
        obtain ⟨d2, d4⟩ := ten_even (k := p - n) (by omega)
        obtain ⟨l1, l2, l3, l4⟩ := lo_ok (u := u * (10 : Int) ^ (n - s)) ht d2 d4
        obtain ⟨h1, h2, h3, h4⟩ := hi_ok (u := u * (10 : Int) ^ (n - s)) ht d2 d4
        have sc := same_new (o := HO.tup [.int (u * (10 : Int) ^ (n - s)), .int ((10 : Int) ^ (p - n))]) nc
        have el := sc _ _ el
        have s1 := s1.trans sc
        dsimp only [gName, List.set]
        generalize upd H1 c (HO.tup [.int (u * (10 : Int) ^ (n - s)), .int ((10 : Int) ^ (p - n))]) = H2 at el s1 ⊢
        generalize loOff (u * (10 : Int) ^ (n - s)) ((10 : Int) ^ (p - n)) t = lo at l1 l2 l3 l4 bL el
        generalize hiOff (u * (10 : Int) ^ (n - s)) ((10 : Int) ^ (p - n)) t = hi at h1 h2 h3 h4 bH el
        generalize u * (10 : Int) ^ (n - s) = U at l3 l4 h3 h4 bU bL bH el ⊢
        generalize (10 : Int) ^ (p - n) = D at pD bD d2 d4 l2 l3 l4 h2 h3 h4 bL bH el ⊢
        clear er er2 i1 i2 bu
        -- the worth lies between
        refine ⟨_, rfl, l, _, 0, _, rfl, rfl, SqL.of el, rfl, _, rfl, _, rfl, _, _, rfl, rfl, wide_mul bU bD (by decide) (by decide) (by decide), _, _, rfl, rfl, _, rfl, ite2 (fun _ => ?_) (fun e => absurd (decide_eq_true (by omega)) e)⟩
        refine ⟨_, rfl, l, _, 1, _, rfl, rfl, SqL.of el, rfl, _, _, rfl, rfl, _, rfl, ite2 (fun e => absurd e (by rw [decide_eq_true (show U * D ≤ U * D + hi by omega)]; decide)) (fun _ => ?_)⟩
        -- asked
        refine ⟨_, rfl, l, _, 0, _, rfl, rfl, SqL.of el, rfl, _, _, rfl, rfl, _, rfl, l, _, 0, _, rfl, rfl, SqL.of el, rfl, _, rfl, l, _, 1, _, rfl, rfl, SqL.of el, rfl, _, rfl, l, _, 1, _, rfl, rfl, SqL.of el, rfl, _, _, rfl, rfl, by show 4 ≤ sizeLine; decide, fun a na => ?_⟩
        dsimp only [gName, List.set]
        have sa := same_new (o := HO.lst [.int (U * D + lo - 1), .int (U * D + lo), .int (U * D + hi), .int (U * D + hi + 1)]) na
        have ea : upd H2 a (HO.lst [.int (U * D + lo - 1), .int (U * D + lo), .int (U * D + hi), .int (U * D + hi + 1)]) a = some (.lst [.int (U * D + lo - 1), .int (U * D + lo), .int (U * D + hi), .int (U * D + hi + 1)]) := upd_same
        have s1 := s1.trans sa
        generalize upd H2 a (HO.lst [.int (U * D + lo - 1), .int (U * D + lo), .int (U * D + hi), .int (U * D + hi + 1)]) = H3 at ea s1 ⊢
        have big : (2 : Nat) ^ 1000 + 1 ≤ 2 ^ 9000 := by
          have z : (2 : Nat) ^ 1000 < 2 ^ 9000 := Nat.pow_lt_pow_right (by decide) (by decide)
          omega
        generalize (2 : Nat) ^ 1000 = G1 at bL bH big
        refine ⟨_, rfl, a, rfl, ⟨_, SqL.of ea⟩, fun L nL => lc_list (K := K) (xs := [.int (U * D + lo - 1), .int (U * D + lo), .int (U * D + hi), .int (U * D + hi + 1)]) (fun i H' => Same H3 H' ∧ H' L = some (.lst (([false, true, true, false].take i).map V.bl))) ⟨same_new nL, upd_same⟩ (fun i H' _ hb => SqL.of (hb.1 _ _ ea)) ?_ ?_⟩
        · rintro i x H' hx ⟨sm, eL⟩
          have hv : ∃ (v : Int) (b : Bool), x = .int v ∧ [false, true, true, false][i]? = some b ∧ decide (near v D t = U) = b ∧ v.natAbs < 2 ^ 9000 := by
            match i, hx with
            | 0, hx => exact ⟨_, false, (Option.some.inj hx).symm, rfl, decide_eq_false (by rw [show U * D + lo - 1 = U * D + (lo - 1) by omega]; exact l4), by omega⟩
            | 1, hx => exact ⟨_, true, (Option.some.inj hx).symm, rfl, decide_eq_true l3, by omega⟩
            | 2, hx => exact ⟨_, true, (Option.some.inj hx).symm, rfl, decide_eq_true h3, by omega⟩
            | 3, hx => exact ⟨_, false, (Option.some.inj hx).symm, rfl, decide_eq_false (by rw [show U * D + hi + 1 = U * D + (hi + 1) by omega]; exact h4), by omega⟩
            | n + 4, hx => cases hx
          obtain ⟨v, b, rfl, hb, db, bv⟩ := hv
          have ll : ([false, true, true, false].take (i + 1)) = [false, true, true, false].take i ++ [b] := by
            rw [List.take_succ, hb]
            rfl
          have hi4 : ([false, true, true, false].take i).length ≤ 4 := by
            rw [List.length_take]
            exact Nat.min_le_right _ _
          refine ⟨rfl, ?_⟩
          unfold tYes
          dsimp only
          rw [if_pos rfl]
          refine ⟨_, rfl, _, rfl, _, rfl, v, D, t, rfl, pD, up_two bD (by decide), bv, ht, fun H4 s4 => ⟨_, rfl, rfl, _, s4 _ _ eL, by rw [List.length_map]; exact Nat.lt_of_le_of_lt hi4 (by decide), fun c o e => (upd_ne (ne_of_none e nL)).trans (s4 _ _ (sm _ _ e)), ?_⟩⟩
          rw [upd_same, ll, List.map_append, Own.dec_int, db]
          rfl
        · rintro H' ⟨sm, eL⟩
          dsimp only [gName, List.set]
          refine ⟨_, rfl, by show 4 ≤ sizeLine; decide, fun g ng => ?_⟩
          have s5 := same_new (o := HO.lst [.bl false, .bl true, .bl true, .bl false]) ng
          refine ⟨_, _, dp_b4 (s5 _ _ eL), dp_b4 upd_same, sh_b4 _ _ _ _, sh_b4 _ _ _ _, ?_⟩
          rw [SeqAt.eqv_refl _ (SeqAt.canLay_of_shaped (sh_b4 _ _ _ _))]
          exact q _ ((s1.trans sm).trans s5)
end
end K08

/-! k08: the four lambdas. -/
namespace K08
open PySem PySem.Spec PyProof.Rows L2 LamX NdefX Own
abbrev sRefs : Stmt := topS 43
def noE : Expr := .Constant .none 0 ⟨0, 0, 0, 0⟩
def asgV : Stmt → Expr
  | .Assign _ v _ => v
  | _ => noE
def eltE (i : Nat) : Expr → Expr
  | .List es _ => es.getD i noE
  | .Tuple es _ _ => es.getD i noE
  | _ => noE
def argE : Stmt → Expr
  | .Expr (.Call _ (a :: _) _ _) _ => a
  | _ => noE
def lamArgs : Expr → Arguments
  | .Lambda a _ _ _ => a
  | _ => ⟨[], [], none, [], [], none, []⟩
def lamBody : Expr → Expr
  | .Lambda _ b _ _ => b
  | _ => noE
def lamScope : Expr → Scope
  | .Lambda _ _ s _ => s
  | _ => ⟨.function, [], false, false, []⟩
abbrev bRefs (i : Nat) : Stmt := (defBody sRefs).getD i (.Pass ⟨0, 0, 0, 0⟩)
abbrev lx1 : Expr := eltE 0 (eltE 0 (asgV (bRefs 1)))
abbrev lx2 : Expr := eltE 0 (argE (bRefs 2))
abbrev lx3 : Expr := eltE 0 (argE (bRefs 3))
abbrev lx4 : Expr := eltE 0 (argE (bRefs 4))
section
variable {P : Program} {w : World} {K : PySem.W.Frag} {mg : Str → Option Value} {base : Heap} {C W : Addr} {X : Cx} {f c' : Addr}
def sq1 (C W : Addr) : List (Option V) → Hp → VK → XK → Prop := fun ws H Q E => ∃ x y : V, ws = [some x, some y] ∧ spSh C W [x, y, y, x] H Q E
def sq2 (C W : Addr) : List (Option V) → Hp → VK → XK → Prop := fun ws H Q E => ∃ x y z : V, ws = [some x, some y, some z] ∧ spSh C W [x, z, y, y] H Q E
def sq3 (C W : Addr) : List (Option V) → Hp → VK → XK → Prop := fun ws H Q E => ∃ x y z v : V, ws = [some x, some y, some z, some v] ∧ spSh C W [x, y, z, v] H Q E
def sq4 (C W : Addr) : List (Option V) → Hp → VK → XK → Prop := fun ws H Q E => ∃ x y z v : V, ws = [some x, some y, some z, some v] ∧ spSh C W [x, y, z, v] H Q E
theorem nsL1 : NScope ["_law_wrong_here", "_law_below"] [] ["_law_wrong_here", "_law_below"] (lamScope lx1) := nscope_by (by decide +kernel)
theorem nsL2 : NScope ["_law_worth", "_law_wrong_here", "_law_below"] [] ["_law_worth", "_law_wrong_here", "_law_below"] (lamScope lx2) := nscope_by (by decide +kernel)
theorem nsL3 : NScope ["_law_worth", "_law_scale", "_law_wrong_here", "_law_below"] [] ["_law_worth", "_law_scale", "_law_wrong_here", "_law_below"] (lamScope lx3) := nscope_by (by decide +kernel)
theorem nsL4 : NScope ["_law_worth", "_law_scale", "_law_depth", "_law_wrong_here"] [] ["_law_worth", "_law_scale", "_law_depth", "_law_wrong_here"] (lamScope lx4) := nscope_by (by decide +kernel)
theorem lok1 (D : DefOk P w K mg base (L2.CX P w) "shown_as" 13 ["worth", "scale", "places", "way"] (spSh C W)) : LOk P w K mg base (L2.CX P w) 14 f (lamF X (lamArgs lx1) (lamScope lx1) c') (lamBody lx1) ["_law_wrong_here", "_law_below"] (sq1 C W) := by
  refine lok_of (N := ["_law_wrong_here", "_law_below"]) (ps := []) nsL1 rfl (fun dV doc pm ctv s us hl hd => ?_) (fun A outer s H ws Q E hr hl h => ?_)
  · obtain rfl := List.length_eq_zero_iff.mp hl
    rcases hd with ⟨_, rfl⟩ | ⟨n, _⟩
    · exact .of_eq rfl
    · exact (n rfl).elim
  · obtain ⟨x, y, rfl, h⟩ := h
    refine ⟨_, pe_def (E := E) D hr (by decide) (by rfl) (passes_call (takes_of rfl rfl rfl rfl) fun _ _ _ _ z => z) (pa_cons (pv 0) (pa_cons (pv 1) (pa_cons (pv 1) (pa_cons (pv 0) pa_nil)))), ?_⟩
    exact ⟨_, rfl, _, rfl, _, rfl, _, rfl, h⟩
theorem lok2 (D : DefOk P w K mg base (L2.CX P w) "shown_as" 13 ["worth", "scale", "places", "way"] (spSh C W)) : LOk P w K mg base (L2.CX P w) 14 f (lamF X (lamArgs lx2) (lamScope lx2) c') (lamBody lx2) ["_law_worth", "_law_wrong_here", "_law_below"] (sq2 C W) := by
  refine lok_of (N := ["_law_worth", "_law_wrong_here", "_law_below"]) (ps := []) nsL2 rfl (fun dV doc pm ctv s us hl hd => ?_) (fun A outer s H ws Q E hr hl h => ?_)
  · obtain rfl := List.length_eq_zero_iff.mp hl
    rcases hd with ⟨_, rfl⟩ | ⟨n, _⟩
    · exact .of_eq rfl
    · exact (n rfl).elim
  · obtain ⟨x, y, z, rfl, h⟩ := h
    refine ⟨_, pe_def (E := E) D hr (by decide) (by rfl) (passes_call (takes_of rfl rfl rfl rfl) fun _ _ _ _ z => z) (pa_cons (pv 0) (pa_cons (pv 2) (pa_cons (pv 1) (pa_cons (pv 1) pa_nil)))), ?_⟩
    exact ⟨_, rfl, _, rfl, _, rfl, _, rfl, h⟩
theorem lok3 (D : DefOk P w K mg base (L2.CX P w) "shown_as" 13 ["worth", "scale", "places", "way"] (spSh C W)) : LOk P w K mg base (L2.CX P w) 14 f (lamF X (lamArgs lx3) (lamScope lx3) c') (lamBody lx3) ["_law_worth", "_law_scale", "_law_wrong_here", "_law_below"] (sq3 C W) := by
  refine lok_of (N := ["_law_worth", "_law_scale", "_law_wrong_here", "_law_below"]) (ps := []) nsL3 rfl (fun dV doc pm ctv s us hl hd => ?_) (fun A outer s H ws Q E hr hl h => ?_)
  · obtain rfl := List.length_eq_zero_iff.mp hl
    rcases hd with ⟨_, rfl⟩ | ⟨n, _⟩
    · exact .of_eq rfl
    · exact (n rfl).elim
  · obtain ⟨x, y, z, v, rfl, h⟩ := h
    refine ⟨_, pe_def (E := E) D hr (by decide) (by rfl) (passes_call (takes_of rfl rfl rfl rfl) fun _ _ _ _ z => z) (pa_cons (pv 0) (pa_cons (pv 1) (pa_cons (pv 2) (pa_cons (pv 3) pa_nil)))), ?_⟩
    exact ⟨_, rfl, _, rfl, _, rfl, _, rfl, h⟩
theorem lok4 (D : DefOk P w K mg base (L2.CX P w) "shown_as" 13 ["worth", "scale", "places", "way"] (spSh C W)) : LOk P w K mg base (L2.CX P w) 14 f (lamF X (lamArgs lx4) (lamScope lx4) c') (lamBody lx4) ["_law_worth", "_law_scale", "_law_depth", "_law_wrong_here"] (sq4 C W) := by
  refine lok_of (N := ["_law_worth", "_law_scale", "_law_depth", "_law_wrong_here"]) (ps := []) nsL4 rfl (fun dV doc pm ctv s us hl hd => ?_) (fun A outer s H ws Q E hr hl h => ?_)
  · obtain rfl := List.length_eq_zero_iff.mp hl
    rcases hd with ⟨_, rfl⟩ | ⟨n, _⟩
    · exact .of_eq rfl
    · exact (n rfl).elim
  · obtain ⟨x, y, z, v, rfl, h⟩ := h
    refine ⟨_, pe_def (E := E) D hr (by decide) (by rfl) (passes_call (takes_of rfl rfl rfl rfl) fun _ _ _ _ z => z) (pa_cons (pv 0) (pa_cons (pv 1) (pa_cons (pv 2) (pa_cons (pv 3) pa_nil)))), ?_⟩
    exact ⟨_, rfl, _, rfl, _, rfl, _, rfl, h⟩
/-- the four -/
inductive Elv where
  | l1 | l2 | l3 | l4
def lamN (X : Cx) (C W : Addr) (σ : L2.St) : Elv → Lam
  | .l1 => ⟨fun c' => lamF X (lamArgs lx1) (lamScope lx1) c', lamBody lx1, ["_law_wrong_here", "_law_below"], [4, 5].map (slotAt σ), sq1 C W⟩
  | .l2 => ⟨fun c' => lamF X (lamArgs lx2) (lamScope lx2) c', lamBody lx2, ["_law_worth", "_law_wrong_here", "_law_below"], [1, 4, 5].map (slotAt σ), sq2 C W⟩
  | .l3 => ⟨fun c' => lamF X (lamArgs lx3) (lamScope lx3) c', lamBody lx3, ["_law_worth", "_law_scale", "_law_wrong_here", "_law_below"], [1, 2, 4, 5].map (slotAt σ), sq3 C W⟩
  | .l4 => ⟨fun c' => lamF X (lamArgs lx4) (lamScope lx4) c', lamBody lx4, ["_law_worth", "_law_scale", "_law_depth", "_law_wrong_here"], [1, 2, 3, 4].map (slotAt σ), sq4 C W⟩
theorem lokNs (D : DefOk P w K mg base (L2.CX P w) "shown_as" 13 ["worth", "scale", "places", "way"] (spSh C W)) {σ : L2.St} (i : Elv) (f c' : Addr) :
    LOk P w K mg base (L2.CX P w) 14 f ((lamN X C W σ i).nf c') (lamN X C W σ i).b (lamN X C W σ i).fr (lamN X C W σ i).sp := by
  cases i
  · exact lok1 D
  · exact lok2 D
  · exact lok3 D
  · exact lok4 D
end
section
variable {P : Program} {w : World} {K : PySem.W.Frag} {mg : Str → Option Value} {base : Heap} {C : Addr}
theorem ld_refdH (A : At K mg "_law_refused" sRefd ["_law_deed", "_law_value"]) (T : ErrC P w K mg base "BadValue" "value" 1 C (spErr C "value")) (D : DefOk P w K mg base CX0 "_law_same" 1 ["_law_one", "_law_other"] spSame) : LamDefAt P w K mg base "_law_refused" 15 (spRefd C) := by
  obtain ⟨g, fd, F, gm, b⟩ := A.ex
  refine ⟨g, ⟨fun A outer s H us f vs FF bb fr ws spl kl Q hr hkl e0 r G hf hc CC q => ?_⟩, gm, F.kp⟩
  have KX : K.In s.heap := e0.mod.kin.keeps fun b o e => (e0.bs b o e).1
  obtain ⟨v, rfl, od, q1, q2⟩ := q
  have hb := b s us KX (by rw [List.append_nil, ← r.length]; rfl)
  rw [List.append_nil] at hb
  obtain ⟨oc, od', kV, doc, pm, an, cdv, ct, osl, rfl, lk, hcd⟩ := F.ex
  refine LamX.run_ofS (N := ["_law_deed", "_law_value", "_law_told_here", "e"]) lk hcd scRefd hr e0 hb r rfl fun hr' => ?_
  have nd := scRefd.nd
  refine ⟨_, pss_cons (ps_set (i := 2) nd rfl (.inl rfl) pe_non)
    (pss_cons (ps_try_as (i := 3) (c := .ref C) rfl rfl nd rfl rfl ⟨rfl, by decide, .inl T.g⟩ L2.takes0
        (fun W pn xe tk _ => pss_one (ps_expr (pe_deedS (i := 0) (E := WE W) CC rfl G (hr'.mono (by omega)) (fun σ => passAt tk σ) rfl (.inl rfl))))
        (fun a oe cls d pn hz hf => pss_one (ps_set (i := 2) nd rfl (.inl rfl) (pe_tup (pa_cons (pe_xf T.xf T.noV hz hf (pv 3)) pa_nil)))))
    (pss_one (ps_ret (pe_and (pe_cmpR op_notN (pv 2) pe_non (nomark _)) (pe_one (pe_def D hr' (by decide) (by rfl) pass0 (pa_cons (pe_ix ix_tup (pv 2) pe_int (fun _ _ => rfl)) (pa_cons (pv 1) pa_nil)))))))), ?_⟩
  refine ⟨rfl, hf, hc, q1 _ _ fun d H1 s1 nd1 e1 => ⟨true, T.te, fun _ a na => ?_, fun z => nomatch z⟩⟩
  refine ⟨_, rfl, rfl, rfl, d, _, v, rfl, e1, by simp [List.lookup], by show 1 ≤ sizeLine; decide, fun p np => ?_⟩
  refine ⟨_, rfl, rfl, _, rfl, iteT ?_⟩
  have s2 : Same H1 (upd H1 p (.tup [v])) := same_new np
  refine ⟨_, rfl, p, [v], 0, v, rfl, rfl, SqT.of upd_same, rfl, v, rfl, .inr ⟨v, rfl, (od.same s1).same s2, ?_⟩⟩
  exact q2 _ (s1.trans s2)
end
end K08

/-! k08: refusals. -/
namespace K08
open PySem PySem.Spec PyProof.Rows L2 LamX NdefX Own
def qL : Str := (envOfC "_law_refusals" (defScope sRefs) 0 0 .none).qual ++ "<lambda>"
abbrev nRefs : List Str := ["_law_pen", "_law_worth", "_law_scale", "_law_depth", "_law_wrong_here", "_law_below", "_law_rows", "_law_row"]
theorem scRefs : FnScope nRefs ["_law_pen", "_law_worth", "_law_scale", "_law_depth"] (defScope sRefs) := ⟨rfl, rfl, rfl, by decide +kernel, rfl, by decide +kernel, by decide +kernel⟩
theorem fr1 : ∀ y ∈ (lamScope lx1).names, y.2 = .free → (defScope sRefs).names.lookup y.1 = some .cell ∨ (defScope sRefs).names.lookup y.1 = some .free := by decide +kernel
theorem in1 : ∀ y ∈ (["_law_wrong_here", "_law_below"] : List Str), (y, NameKind.free) ∈ (lamScope lx1).names := by decide +kernel
theorem fr2 : ∀ y ∈ (lamScope lx2).names, y.2 = .free → (defScope sRefs).names.lookup y.1 = some .cell ∨ (defScope sRefs).names.lookup y.1 = some .free := by decide +kernel
theorem in2 : ∀ y ∈ (["_law_worth", "_law_wrong_here", "_law_below"] : List Str), (y, NameKind.free) ∈ (lamScope lx2).names := by decide +kernel
theorem fr3 : ∀ y ∈ (lamScope lx3).names, y.2 = .free → (defScope sRefs).names.lookup y.1 = some .cell ∨ (defScope sRefs).names.lookup y.1 = some .free := by decide +kernel
theorem in3 : ∀ y ∈ (["_law_worth", "_law_scale", "_law_wrong_here", "_law_below"] : List Str), (y, NameKind.free) ∈ (lamScope lx3).names := by decide +kernel
theorem fr4 : ∀ y ∈ (lamScope lx4).names, y.2 = .free → (defScope sRefs).names.lookup y.1 = some .cell ∨ (defScope sRefs).names.lookup y.1 = some .free := by decide +kernel
theorem in4 : ∀ y ∈ (["_law_worth", "_law_scale", "_law_depth", "_law_wrong_here"] : List Str), (y, NameKind.free) ∈ (lamScope lx4).names := by decide +kernel
theorem blkR : BlkOk nRefs (defScope sRefs) (lcScope (retArg (bRefs 5))) [("_law_row", 7)] := blkOk_by (by decide +kernel)
/-- which value is refused -/
def due (x : V) (bl : Int) : Elv → V
  | .l2 => .int bl
  | _ => x
/-- what stands stands still, the tables of code and the pen at d apart -/
def KeepT (d : Addr) (H H' : Hp) : Prop := ∀ b o, b ≠ d → H b = some o → (∀ ps, o ≠ .tbl ps) → H' b = some o
section
variable {P : Program} {w : World} {K : PySem.W.Frag} {mg : Str → Option Value} {base : Heap} {C W : Addr}
theorem WAt.ext {H H' : Hp} {a : Addr} {u : Int} {s : Nat} (h : WAt W H a u s) (e : ExtN H H') : WAt W H' a u s := by
  obtain ⟨dx, z⟩ := h
  exact ⟨dx, e _ _ z (fun ps y => by cases y)⟩
theorem WAt.put {H : Hp} {a r : Addr} {u : Int} {s : Nat} {l : List V} {o : HO} (h : WAt W H a u s) (hr : H r = some (.lst l)) : WAt W (upd H r o) a u s := by
  obtain ⟨dx, z⟩ := h
  exact ⟨dx, (upd_ne (ne_of z hr (by intro y; cases y))).trans z⟩
theorem WAt.keep {H H' : Hp} {a d : Addr} {u : Int} {s : Nat} {B : Int} (h : WAt W H a u s) (p : Pen H d B) (k : Keep d H H') : WAt W H' a u s := by
  obtain ⟨dx, z⟩ := h
  obtain ⟨p0, ns0, c0, l0, hd0, _⟩ := p.ex
  exact ⟨dx, k _ _ (ne_of z hd0 (by intro y; cases y)) z⟩
/-- the list of the rows so far, and what else stands -/
structure Bg (nf : Elv → Addr → NF) (bf : Elv → Expr) (W : Addr) (H0 H : Hp) (r : Addr) (k : Nat) (x : V) (bl : Int) (pa : Addr) (ua : Int) (sa : Nat) : Prop where
  ex : ∃ R : List (Elv × V × Addr), H r = some (.lst (R.map fun p => .ref p.2.2)) ∧ R.length = k ∧ ∀ p ∈ R, RowAt H (nf p.1) (bf p.1) p.2.1 p.2.2 ∧ p.2.1 = due x bl p.1
  ox : Odd H x
  xr : x ≠ .ref r
  wa : WAt W H pa ua sa
  kp : ∀ b o, b ≠ r → H0 b = some o → (∀ ps, o ≠ .tbl ps) → H b = some o
section
variable {nf : Elv → Addr → NF} {bf : Elv → Expr} {H0 H H1 H' : Hp} {r q : Addr} {k : Nat} {x v : V} {bl : Int} {pa : Addr} {ua : Int} {sa : Nat} {o : HO}
theorem Bg.ext (h : Bg nf bf W H0 H r k x bl pa ua sa) (e : ExtN H H') : Bg nf bf W H0 H' r k x bl pa ua sa := by
  obtain ⟨R, h1, h2, h3⟩ := h.ex
  exact ⟨⟨R, e _ _ h1 (fun ps z => by cases z), h2, fun p hp => ⟨(h3 p hp).1.ext e, (h3 p hp).2⟩⟩, h.ox.ext e, h.xr, h.wa.ext e, fun b o n z y => e _ _ (h.kp b o n z y) y⟩
theorem Bg.set {D : Addr} {zs : List V} (h : Bg nf bf W H0 H r k x bl pa ua sa) (hD : H D = some (.lst zs)) (n : D ≠ r) (nx : x ≠ .ref D) (n0 : H0 D = none) : Bg nf bf W H0 (upd H D o) r k x bl pa ua sa := by
  obtain ⟨R, h1, h2, h3⟩ := h.ex
  exact ⟨⟨R, (upd_ne n.symm).trans h1, h2, fun p hp => ⟨(h3 p hp).1.put hD, (h3 p hp).2⟩⟩, h.ox.put nx, h.xr, h.wa.put hD, fun b o m z y => (upd_ne (ne_of_none z n0)).trans (h.kp b o m z y)⟩
theorem Bg.now (h : Bg nf bf W H0 H r k x bl pa ua sa) : Bg nf bf W H H r k x bl pa ua sa := ⟨h.ex, h.ox, h.xr, h.wa, fun b o _ e _ => e⟩
theorem Bg.lst (h : Bg nf bf W H0 H r k x bl pa ua sa) : ∃ ys, H r = some (.lst ys) ∧ ys.length = k := by
  obtain ⟨R, h1, h2, h3⟩ := h.ex
  exact ⟨_, h1, by rw [List.length_map]; exact h2⟩
theorem Bg.add {i : Elv} {f c' : Addr} (h : Bg nf bf W H0 H r k x bl pa ua sa) (hv : v = due x bl i) (e : ExtN H H1) (a : LamAt H1 f (nf i c') (bf i)) (c : H1 (nf i c').c = some (CodeO (nf i c').c (nf i c').qual)) (nq : H1 q = none) :
    ∃ xs, upd H1 q (.tup [.ref f, v]) r = some (.lst xs) ∧ xs.length = k ∧ Bg nf bf W H0 (upd (upd H1 q (.tup [.ref f, v])) r (.lst (xs ++ [.ref q]))) r (k + 1) x bl pa ua sa := by
  have g := (h.ext e).ext (extN_new (o := .tup [.ref f, v]) nq)
  have e2 := extN_new (o := HO.tup [.ref f, v]) nq
  obtain ⟨R, h1, h2, h3⟩ := g.ex
  refine ⟨_, h1, by rw [List.length_map]; exact h2, ⟨R ++ [(i, v, q)], by rw [upd_same, List.map_append]; rfl, by rw [List.length_append, h2]; rfl, fun p hp => ?_⟩, g.ox.put g.xr, g.xr, g.wa.put h1, fun b o m z y => (upd_ne m).trans (g.kp b o m z y)⟩
  rcases List.mem_append.mp hp with hp | hp
  · exact ⟨(h3 p hp).1.put h1, (h3 p hp).2⟩
  · rw [List.mem_singleton.mp hp]
    exact ⟨RowAt.put ⟨f, c', upd_same, a.ext e2, e2 _ _ c codeO_ne⟩ h1, hv⟩
end
theorem lamN_nf {X : Cx} {σ : L2.St} (i : Elv) : (lamN X C W σ i).nf = (lamN X C W [] i).nf ∧ (lamN X C W σ i).b = (lamN X C W [] i).b := by
  cases i <;> exact ⟨rfl, rfl⟩
theorem wrong_way {H : Hp} {x : V} (h : Wrong H x) : isWay x = false := by
  cases x with
  | str z =>
    rcases h.nt z rfl with rfl | rfl | rfl <;> decide
  | _ => rfl
theorem wrong_wh {x : V} (nx : Own.isInt x = false) : isWh x = false := by
  cases x <;> first | rfl | (simp [Own.isInt] at nx)
/-- each row's value is the one that is refused -/
theorem toldN {X : Cx} {H : Hp} {dp rw : V} {pa : Addr} {ua bl : Int} {sa n p : Nat} {x : V} {y : Option V} (hbl : bl < 0) (ox : Odd H x) (nx : Own.isInt x = false) (gw : isWay x = false) (wa : WAt W H pa ua sa) (hs : sa ≤ 100) (hu : ua.natAbs < 2 ^ 300) (ow : sa = 0 ∨ ua % 10 ≠ 0) (hn : n ≤ 90) (hp : p ≤ 100) (i : Elv) : Odd H (due x bl i) ∧ ∀ (Q' : VK) (E' : XK), Bad C "value" (due x bl i) H E' →
    (lamN X C W [some dp, some (.ref pa), some (.int n), some (.int p), some x, some (.int bl), some rw, y] i).sp (lamN X C W [some dp, some (.ref pa), some (.int n), some (.int p), some x, some (.int bl), some rw, y] i).ws H Q' E' := by
  have gb : isWh (.int bl) = false := decide_eq_false (by omega)
  have gx := wrong_wh nx
  cases i
  · exact ⟨ox, fun Q' E' bad => ⟨x, .int bl, rfl, x, .int bl, .int bl, x, rfl, .inl ⟨ox.thing, bad⟩⟩⟩
  · exact ⟨.flat rfl, fun Q' E' bad => ⟨.ref pa, x, .int bl, rfl, .ref pa, .int bl, x, x, rfl, .inr ⟨pa, ua, sa, rfl, wa, hs, hu, ow, .inl ⟨.int _, gb, bad⟩⟩⟩⟩
  · exact ⟨ox, fun Q' E' bad => ⟨.ref pa, .int n, x, .int bl, rfl, .ref pa, .int n, x, .int bl, rfl, .inr ⟨pa, ua, sa, rfl, wa, hs, hu, ow, .inr ⟨n, rfl, hn, .inl ⟨ox.thing, gx, bad⟩⟩⟩⟩⟩
  · exact ⟨ox, fun Q' E' bad => ⟨.ref pa, .int n, .int p, x, rfl, .ref pa, .int n, .int p, x, rfl, .inr ⟨pa, ua, sa, rfl, wa, hs, hu, ow, .inr ⟨n, rfl, hn, .inr ⟨p, rfl, hp, .inl ⟨ox.thing, gw, bad⟩⟩⟩⟩⟩⟩
def spRefs (W Pt : Addr) : Sp := fun vs H Q _ => ∃ (d pa : Addr) (ua : Int) (sa n p : Nat) (B : Int), vs = [.ref d, .ref pa, .int n, .int p] ∧ Pen H d B ∧ B ≤ 100000000 ∧ WAt W H pa ua sa ∧ sa ≤ 100 ∧ ua.natAbs < 2 ^ 300 ∧ (sa = 0 ∨ ua % 10 ≠ 0) ∧ n ≤ 90 ∧ p ≤ 100 ∧ Tabs [(Pt, qL)] H ∧ ∀ H', KeepT d H H' → Q (.bl true) H'
theorem ok_refs {c Pt : Addr} (A : AtC K mg "_law_refusals" sRefs ["_law_pen", "_law_worth", "_law_scale", "_law_depth"] c) (TB : TabB base mg c Pt) (BL : Blt mg) (D1 : DefOk P w K mg base CX0 "_law_draw" 1 ["_law_pen", "_law_span"] spDraw)
    (D3 : DefOk P w K mg base CX0 "_law_wrong" 3 ["_law_pen"] spWrong) (DS : DefOk P w K mg base (L2.CX P w) "shown_as" 13 ["worth", "scale", "places", "way"] (spSh C W)) (D6 : LamDefAt P w K mg base "_law_refused" 15 (spRefd C)) :
    DefOk P w K mg base CX0 "_law_refusals" 16 ["_law_pen", "_law_worth", "_law_scale", "_law_depth"] (spRefs W Pt) := by
  obtain ⟨g, oc, od, kV, doc, pm, an, ct, osl, lk, hcd, gm, kp, bd⟩ := A.ex
  refine ⟨g, _, fn_of lk hcd scRefs (fun vs H Q E h => ?_) (fun A outer s H vs Q E hr h => ?_), gm, kp, bd⟩
  · obtain ⟨d, pa, ua, sa, n, p, B, rfl, _⟩ := h
    rfl
  · obtain ⟨d, pa, ua, sa, n, p, B, rfl, hp, hB, wa, hsa, hua, ow, hn, hpp, hT, q⟩ := h
    have nd := scRefs.nd
    have hm : (Pt, qL) ∈ [(Pt, qL)] := List.mem_singleton.mpr rfl
    have hu : ∀ p ∈ [(Pt, qL)], p.1 = Pt → p.2 = qL := fun p hp _ => by rw [List.mem_singleton.mp hp]
    refine ⟨_, pss_cons (ps_asg (pe_tup (pa_cons (pe_def D3 hr (by decide) (by rfl) pass0 (pa_cons (pv 0) pa_nil)) (pa_cons (pe_op op_sub (pe_un un_neg pe_int) (pe_def D1 hr (by decide) (by rfl) pass0 (pa_cons (pv 0) (pa_cons pe_int pa_nil)))) pa_nil)))
        (pg_tup rfl (pgs_cons (pg_name (i := 4) nd rfl (.inr rfl)) (pgs_cons (pg_name (i := 5) nd rfl (.inr rfl)) pgs_nil))))
      (pss_cons (ps_set (i := 6) nd rfl (.inl rfl) (pe_lst (pa_cons (pe_tup (pa_cons (pe_lamV TB rfl hm hu rfl rfl fr1) (pa_cons (pv 4) pa_nil))) pa_nil)))
      (pss_cons (ps_expr (pe_bm PySem.F.plainAttrs_list PySem.F.slot_list_append PySem.F.type_list_append mt_append (pv 6) (pa_cons (pe_tup (pa_cons (pe_lamV TB rfl hm hu rfl rfl fr2) (pa_cons (pv 5) pa_nil))) pa_nil)))
      (pss_cons (ps_expr (pe_bm PySem.F.plainAttrs_list PySem.F.slot_list_append PySem.F.type_list_append mt_append (pv 6) (pa_cons (pe_tup (pa_cons (pe_lamV TB rfl hm hu rfl rfl fr3) (pa_cons (pv 4) pa_nil))) pa_nil)))
      (pss_cons (ps_expr (pe_bm PySem.F.plainAttrs_list PySem.F.slot_list_append PySem.F.type_list_append mt_append (pv 6) (pa_cons (pe_tup (pa_cons (pe_lamV TB rfl hm hu rfl rfl fr4) (pa_cons (pv 4) pa_nil))) pa_nil)))
      (pss_one (ps_ret (pe_callB (cr_all rfl) (by rfl) BL.all PyProof.Rows.boot_all (pa_cons (pe_lcD (own := [("_law_row", 7)]) (te := fun σ => tLamCall (lamN (cxOf CX0 P w K mg base nRefs "_law_refusals" (defScope sRefs) g (.ref c) A outer s H E) C W σ) (spRefd C) (tCons (tOp (rIxT K) (tVar 7) (tC (.int 0))) (tCons (tOp (rIxT K) (tVar 7) (tC (.int 1))) tNil))) rfl nd (pi_list (pv 6)) blkR (fun _ _ _ _ _ => pg_name (i := 7) nd rfl (.inl rfl))
        (fun pins σ s' H' Cc cl fp I hfp => pe_lamcall (L := lamN _ C W σ) D6 (show 14 < 15 by decide) hr (by decide) (lokNs DS) (fun i c' => ?_) (fun i c' b => ?_) (by rfl)
          (pa_cons (pe_ix ix_tup (pv 7) pe_int (fun _ _ => rfl)) (pa_cons (pe_ix ix_tup (pv 7) pe_int (fun _ _ => rfl)) pa_nil)))) pa_nil)))))))), ?_⟩
    · cases i
      · exact cells_blk I fr1 in1 rfl
      · exact cells_blk I fr2 in2 rfl
      · exact cells_blk I fr3 in3 rfl
      · exact cells_blk I fr4 in4 rfl
    · cases i
      · exact cells_fp I fr1 hfp b
      · exact cells_fp I fr2 hfp b
      · exact cells_fp I fr3 hfp b
      · exact cells_fp I fr4 hfp b
    · refine ⟨_, rfl, d, B, rfl, hp, by omega, fun x H2 wx k2 p2 => ?_⟩
      refine ⟨_, rfl, _, rfl, d, 9, B + 1, rfl, p2, by omega, by decide, by decide, fun v H3 b1' b2' k3 p3 => ?_⟩
      refine ⟨_, _, rfl, rfl, by show 2 ≤ sizeLine; decide, fun pt np => ?_⟩
      refine ⟨pt, _, rfl, SqT.of upd_same, rfl, _, _, rfl, _, _, rfl, rfl, ?_⟩
      have ox3 : Odd H3 x := wx.od.keep (Pen_odd p2 wx.od) k3
      have wa3 : WAt W H3 pa ua sa := (wa.keep hp k2).keep p2 k3
      have T3 : Tabs [(Pt, qL)] H3 := tabs_keep (tabs_keep hT hp k2) p2 k3
      have k03 : Keep d H H3 := k2.trans k3
      have hbl : -1 - v < 0 := by omega
      dsimp only [gName, List.set]
      have sP := same_new (o := HO.tup [x, .int (-1 - v)]) np
      have ox5 := ox3.same sP
      have wa5 := wa3.same sP
      have T5 := T3.ext sP
      have k05 : Keep d H (upd H3 pt (.tup [x, .int (-1 - v)])) := k03.trans (Keep.same sP)
      generalize upd H3 pt (.tup [x, .int (-1 - v)]) = H5 at ox5 wa5 T5 k05 ⊢
      generalize -1 - v = bl at hbl ⊢
      have nx := wx.ni
      have gw := wrong_way wx
      -- the rows
      refine ⟨T5, fun a1 c1 H6 x6 T6 _ l1 d1 => ⟨_, rfl, by show 2 ≤ sizeLine; decide, fun q1 m1 => ⟨by show 1 ≤ sizeLine; decide, fun r nr => ?_⟩⟩⟩
      have y6 := extN_new (o := HO.tup [.ref a1, x]) m1
      have eA : ExtN H5 (upd H6 q1 (.tup [.ref a1, x])) := x6.trans y6
      have y8 := extN_new (o := HO.lst [.ref q1]) nr
      have T8 : Tabs [(Pt, qL)] (upd (upd H6 q1 (.tup [.ref a1, x])) r (.lst [.ref q1])) := (T6.ext (same_new m1)).ext (same_new nr)
      have K8 : ∀ b o, b ≠ d → H b = some o → (∀ ps, o ≠ .tbl ps) → b ≠ r ∧ upd (upd H6 q1 (.tup [.ref a1, x])) r (.lst [.ref q1]) b = some o := fun b o n e nt => by
        have z := eA _ _ (k05 b o n e) nt
        exact ⟨ne_of_none z nr, y8 _ _ z nt⟩
      have G : ∀ X : Cx, X = (cxOf CX0 P w K mg base nRefs "_law_refusals" (defScope sRefs) g (.ref c) A outer s H E) → Bg (fun i => (lamN X C W [] i).nf) (fun i => (lamN X C W [] i).b) W (upd (upd H6 q1 (.tup [.ref a1, x])) r (.lst [.ref q1])) (upd (upd H6 q1 (.tup [.ref a1, x])) r (.lst [.ref q1])) r 1 x bl pa ua sa := fun X hX => by
        subst hX
        refine ⟨⟨[(Elv.l1, x, q1)], upd_same, rfl, fun p hp => ?_⟩, (ox5.ext eA).ext y8, (ox5.ext eA).off nr, (wa5.ext eA).ext y8, fun b o _ e _ => e⟩
        rw [List.mem_singleton.mp hp]
        exact ⟨RowAt.ext ⟨a1, c1, upd_same, l1.ext y6, y6 _ _ d1 codeO_ne⟩ y8, rfl⟩
      have G := G _ rfl
      generalize hH8 : upd (upd H6 q1 (.tup [.ref a1, x])) r (.lst [.ref q1]) = H8 at G T8 K8 ⊢
      have T := T8
      obtain ⟨ys, hy, _⟩ := G.lst
      refine ⟨_, rfl, .inl ⟨rfl, _, SqL.of hy⟩, T, fun a c2 H1 x1 T1 _ ll dd => ⟨_, rfl, by show 2 ≤ sizeLine; decide, fun q3 m => ?_⟩⟩
      obtain ⟨xs, u, hl, G⟩ := G.add (i := Elv.l2) (v := .int bl) rfl x1 ll dd m
      refine ⟨r, xs, _, rfl, rfl, u, by rw [hl]; show 1 < sizeLine; decide, ?_⟩
      have T := tabs_put (T1.ext (same_new m)) (o := .lst (xs ++ [.ref q3])) u
      generalize upd (upd H1 q3 (.tup [.ref a, .int bl])) r (.lst (xs ++ [.ref q3])) = H9 at G T ⊢
      obtain ⟨ys, hy, _⟩ := G.lst
      refine ⟨_, rfl, .inl ⟨rfl, _, SqL.of hy⟩, T, fun a c2 H1 x1 T1 _ ll dd => ⟨_, rfl, by show 2 ≤ sizeLine; decide, fun q4 m => ?_⟩⟩
      obtain ⟨xs, u, hl, G⟩ := G.add (i := Elv.l3) (v := x) rfl x1 ll dd m
      refine ⟨r, xs, _, rfl, rfl, u, by rw [hl]; show 2 < sizeLine; decide, ?_⟩
      have T := tabs_put (T1.ext (same_new m)) (o := .lst (xs ++ [.ref q4])) u
      generalize upd (upd H1 q4 (.tup [.ref a, x])) r (.lst (xs ++ [.ref q4])) = H9 at G T ⊢
      obtain ⟨ys, hy, _⟩ := G.lst
      refine ⟨_, rfl, .inl ⟨rfl, _, SqL.of hy⟩, T, fun a c2 H1 x1 T1 _ ll dd => ⟨_, rfl, by show 2 ≤ sizeLine; decide, fun q5 m => ?_⟩⟩
      obtain ⟨xs, u, hl, G⟩ := G.add (i := Elv.l4) (v := x) rfl x1 ll dd m
      refine ⟨r, xs, _, rfl, rfl, u, by rw [hl]; show 3 < sizeLine; decide, ?_⟩
      have T := tabs_put (T1.ext (same_new m)) (o := .lst (xs ++ [.ref q5])) u
      generalize upd (upd H1 q5 (.tup [.ref a, x])) r (.lst (xs ++ [.ref q5])) = H9 at G T ⊢
      -- the comprehension
      obtain ⟨ys, hy, hk⟩ := G.lst
      refine ⟨_, rfl, r, rfl, ⟨_, SqL.of hy⟩, fun D nD => ?_⟩
      have hDr : D ≠ r := (ne_of_none hy nD).symm
      have nDx : x ≠ .ref D := G.ox.off nD
      have G0 := G.now
      obtain ⟨R0, hR0, hR1, hR2⟩ := G0.ex
      have hys : ys = R0.map fun p => .ref p.2.2 := by
        have z := hy.symm.trans hR0
        cases z
        rfl
      refine lc_list (K := K) (xs := ys) (fun i H' => Bg (fun i => (lamN (cxOf CX0 P w K mg base nRefs "_law_refusals" (defScope sRefs) g (.ref c) A outer s H E) C W [] i).nf) (fun i => (lamN (cxOf CX0 P w K mg base nRefs "_law_refusals" (defScope sRefs) g (.ref c) A outer s H E) C W [] i).b) W H9 H' r (1 + 1 + 1 + 1) x bl pa ua sa ∧ H' r = some (.lst ys) ∧ (∀ p ∈ R0, RowAt H' ((lamN (cxOf CX0 P w K mg base nRefs "_law_refusals" (defScope sRefs) g (.ref c) A outer s H E) C W [] p.1).nf) ((lamN (cxOf CX0 P w K mg base nRefs "_law_refusals" (defScope sRefs) g (.ref c) A outer s H E) C W [] p.1).b) p.2.1 p.2.2) ∧ H' D = some (.lst (List.replicate i (.bl true)))) ⟨G0.ext (extN_new nD), (extN_new nD) _ _ hy (fun ps z => by cases z), fun p hp => (hR2 p hp).1.ext (extN_new nD), upd_same⟩ (fun i H' _ hb => SqL.of hb.2.1) ?_ ?_
      · rintro i a H' ha ⟨G1, hr1, hrows, hD⟩
        obtain ⟨hi, _⟩ := List.getElem?_eq_some_iff.mp ha
        rw [hys, List.getElem?_map] at ha
        obtain ⟨pr, hpr, rfl⟩ := Option.map_eq_some_iff.mp ha
        have hmem := List.mem_of_getElem? hpr
        have hv := (hR2 pr hmem).2
        obtain ⟨f, c', h1, h2, h3⟩ := hrows pr hmem
        obtain ⟨o1, o2⟩ := toldN (X := (cxOf CX0 P w K mg base nRefs "_law_refusals" (defScope sRefs) g (.ref c) A outer s H E)) (C := C) (H := H') (dp := .ref d) (rw := .ref r) (y := none) hbl G1.ox nx gw G1.wa hsa hua ow hn hpp pr.1
        rw [← hv] at o1 o2
        refine ⟨rfl, ?_⟩
        unfold tYes
        dsimp only
        rw [if_pos rfl]
        refine ⟨_, rfl, pr.2.2, _, 0, _, rfl, rfl, SqT.of h1, rfl, _, rfl, pr.2.2, _, 1, _, rfl, rfl, SqT.of h1, rfl, pr.1, f, c', [pr.2.1], rfl, ?_, ?_, pr.2.1, rfl, o1, o2, fun H2 s2 => ⟨_, s2 _ _ hD, ?_, ?_, ?_, ?_, ?_⟩⟩
        · rw [(lamN_nf pr.1).1, (lamN_nf pr.1).2]
          exact h2
        · rw [(lamN_nf pr.1).1]
          exact h3
        · rw [List.length_replicate]
          exact Nat.lt_of_lt_of_le hi (by rw [hk]; decide)
        · exact (G1.ext (ExtN.of s2)).set (s2 _ _ hD) hDr nDx nD
        · exact (upd_ne hDr.symm).trans (s2 _ _ hr1)
        · exact fun p hp => ((hrows p hp).ext (ExtN.of s2)).put (s2 _ _ hD)
        · rw [upd_same, List.replicate_succ']
      · rintro H' ⟨G1, hr1, hrows, hD⟩
        refine ⟨D, List.replicate ys.length true, rfl, by rw [List.map_replicate]; exact SqL.of hD, ?_⟩
        rw [show (List.replicate ys.length true).all id = true by rw [List.all_eq_true]; intro b hb; rw [List.eq_of_mem_replicate hb]; rfl]
        refine q _ fun b o n e nt => ?_
        obtain ⟨nr', e8⟩ := K8 b o n e nt
        exact G1.kp b o nr' (G.kp b o nr' e8 nt) nt
end
end K08

/-! k08: the law. -/
namespace K08
open PySem PySem.Spec PyProof.Rows L2 LamX NdefX Own
abbrev sLaw : Stmt := topS 44
section
variable {P : Program} {w : World} {K : PySem.W.Frag} {mg : Str → Option Value} {base : Heap} {C W : Addr}
abbrev nLaw : List Str := ["_law_script", "_law_pen", "_law_units", "_law_scale", "_law_row", "_law_worth", "_law_depth", "_law_manner"]
theorem scLaw : FnScope nLaw ["_law_script"] (defScope sLaw) := ⟨rfl, rfl, rfl, by decide +kernel, rfl, by decide +kernel, by decide +kernel⟩
def spLaw (K : PySem.W.Frag) (Pt : Addr) : Sp := fun vs H Q _ => ∃ (a : Addr) (ns : List Int), vs = [.ref a] ∧ SqL K H a (ns.map V.int) ∧ ns.length ≤ 63 ∧ Tabs [(Pt, qL)] H ∧ ∀ H', Q (.bl true) H'
theorem ok_law {f : Addr} {fd : FuncData} {Pt : Addr} (F : Fun K "law" "law" sLaw f fd) (B : Blt mg) (T : WorthC K mg W) (M : WMk P w K mg base C W) (D0 : DefOk P w K mg base CX0 "_law_begin" 1 ["_law_script"] (spBegin K)) (D1 : DefOk P w K mg base CX0 "_law_draw" 1 ["_law_pen", "_law_span"] spDraw)
    (D2 : DefOk P w K mg base CX0 "_law_pick" 2 ["_law_pen", "_law_some"] spPick) (D4 : DefOk P w K mg base CX0 "_law_drawn" 3 ["_law_pen"] spDrawn) (DL : DefOk P w K mg base CX0 "_law_low" 2 ["_law_units", "_law_scale"] spLow) (DY : DefOk P w K mg base CX0 "_law_ways" 1 [] spWays)
    (DS : DefOk P w K mg base (L2.CX P w) "shown_as" 13 ["worth", "scale", "places", "way"] (spSh C W)) (DG : DefOk P w K mg base CX0 "_law_right" 3 ["_law_told_here", "_law_row", "_law_scale", "_law_depth", "_law_manner"] (spRight W))
    (DF : DefOk P w K mg base CX0 "_law_refusals" 16 ["_law_pen", "_law_worth", "_law_scale", "_law_depth"] (spRefs W Pt)) : FnOk P w K mg base CX0 17 f fd ["_law_script"] (spLaw K Pt) := by
  refine F.ok scLaw (fun vs H Q E h => ?_) (fun cdv A outer s0 H vs Q E hr h => ?_)
  · obtain ⟨a, ns, rfl, _⟩ := h
    rfl
  · obtain ⟨a, ns, rfl, hs, hl, hT, q⟩ := h
    have nd := scLaw.nd
    refine ⟨_, pss_cons (ps_set (i := 1) nd rfl (.inl rfl) (pe_def D0 hr (by decide) (by rfl) pass0 (pa_cons (pv 0) pa_nil)))
      (pss_cons (ps_asg (pe_def D4 hr (by decide) (by rfl) pass0 (pa_cons (pv 1) pa_nil)) (pg_tup rfl (pgs_cons (pg_name (i := 2) nd rfl (.inl rfl)) (pgs_cons (pg_name (i := 3) nd rfl (.inl rfl)) pgs_nil))))
      (pss_cons (ps_set (i := 2) nd rfl (.inl rfl) (pe_def D2 hr (by decide) (by rfl) pass0 (pa_cons (pv 1) (pa_cons (pe_lst (pa_cons (pv 2) (pa_cons (pv 2) (pa_cons (pe_op op_sub (pe_def D1 hr (by decide) (by rfl) pass0 (pa_cons (pv 1) (pa_cons pe_int pa_nil))) pe_int) pa_nil)))) pa_nil))))
      (pss_cons (ps_par (i := 4) (j := 5) (by rfl) nd rfl rfl (by decide) rfl rfl (pa_cons (pe_def DL hr (by decide) (by rfl) pass0 (pa_cons (pv 2) (pa_cons (pv 3) pa_nil))) (pa_cons (pe_worth (C := C) (E := E0) M T hr (by decide) (by rfl) passL (pa_cons (pv 2) (pa_cons (pv 3) pa_nil))) pa_nil)) (by rfl))
      (pss_cons (ps_set (i := 3) nd rfl (.inl rfl) (pe_def D2 hr (by decide) (by rfl) pass0 (pa_cons (pv 1) (pa_cons (pe_lst (pa_cons (pv 3) (pa_cons (pe_ix ix_tup (pv 4) pe_int (fun _ _ => rfl)) (pa_cons (pe_callB (call_max2 rfl) (by rfl) B.max (by decide +kernel) (pa_cons (pe_op op_sub (pv 3) pe_int) (pa_cons pe_int pa_nil))) (pa_cons (pe_def D1 hr (by decide) (by rfl) pass0 (pa_cons (pv 1) (pa_cons pe_int pa_nil))) pa_nil))))) pa_nil))))
      (pss_cons (ps_set (i := 6) nd rfl (.inl rfl) (pe_def D2 hr (by decide) (by rfl) pass0 (pa_cons (pv 1) (pa_cons (pe_lst (pa_cons (pe_op op_add (pv 3) pe_int) (pa_cons (pe_op op_add (pv 3) pe_int) (pa_cons (pe_def D1 hr (by decide) (by rfl) pass0 (pa_cons (pv 1) (pa_cons pe_int pa_nil))) (pa_cons (pe_op op_add (pv 3) (pe_def D1 hr (by decide) (by rfl) pass0 (pa_cons (pv 1) (pa_cons pe_int pa_nil)))) (pa_cons (pe_ix ix_tup (pv 4) pe_int (fun _ _ => rfl)) pa_nil)))))) pa_nil))))
      (pss_cons (ps_for PassesOwn.never rfl (pi_list (pe_def0 DY hr (by decide) (by rfl) pass0)) (pg_name (i := 7) nd rfl (.inl rfl))
        (pss_one (ps_if (pt_not (pt_val (pe_def DG hr (by decide) (by rfl) pass0 (pa_cons (pe_def (E := E0) DS hr (by decide) (by rfl) passL (pa_cons (pv 5) (pa_cons (pv 3) (pa_cons (pv 6) (pa_cons (pv 7) pa_nil))))) (pa_cons (pv 4) (pa_cons (pv 3) (pa_cons (pv 6) (pa_cons (pv 7) pa_nil)))))))) (pss_one (ps_ret pe_bl)) pss_nil)))
      (pss_one (ps_ret (pe_def DF hr (by decide) (by rfl) pass0 (pa_cons (pv 1) (pa_cons (pv 5) (pa_cons (pv 3) (pa_cons (pv 6) pa_nil))))))))))))), ?_⟩
    refine ⟨_, rfl, a, ns, rfl, hs, hl, fun d H1 nd1 s1 p1 => ?_⟩
    have T1 := hT.ext s1
    refine ⟨_, rfl, d, _, rfl, p1, by omega, fun u1 s1 r1 H2 bu1 bs1 k2 p2 e1 rd1 => ?_⟩
    have T2 := tabs_keep T1 p1 k2
    refine ⟨r1, _, rfl, SqT.of e1, rfl, _, _, rfl, _, _, rfl, rfl, ?_⟩
    dsimp only [gName, List.set]
    refine ⟨_, rfl, _, rfl, _, rfl, _, rfl, d, 5, _, rfl, p2, by omega, by decide, by decide, fun z H3 b1 b2 k3 p3 => ?_⟩
    have T3 := tabs_keep T2 p2 k3
    refine ⟨_, _, rfl, rfl, by show 3 ≤ sizeLine; decide, fun l nl => ?_⟩
    have sl := same_new (o := HO.lst [.int u1, .int u1, .int (z - 2)]) nl
    refine ⟨d, l, _, _, rfl, upd_same, by simp, by show 3 ≤ 1000; decide, p3.same sl, by omega, fun x H4 hx k4 p4 => ?_⟩
    have hx : ∃ u : Int, x = .int u ∧ u.natAbs < 2 ^ 250 := by
      simp only [List.mem_cons, List.not_mem_nil, or_false] at hx
      rcases hx with rfl | rfl | rfl
      · exact ⟨_, rfl, bu1⟩
      · exact ⟨_, rfl, bu1⟩
      · refine ⟨z - 2, rfl, ?_⟩
        have g : 7 < (2 : Nat) ^ 250 := by decide +kernel
        omega
    obtain ⟨u, rfl, bu⟩ := hx
    have T4 := tabs_keep (T3.ext sl) (p3.same sl) k4
    clear k2 k3 k4 p1 p2 p3 e1 rd1 T1 T2 T3 sl nl
    dsimp only [gName, List.set]
    refine ⟨_, rfl, _, rfl, u, s1, rfl, up_two bu (by decide), by omega, fun u' s' r lw nr => ?_⟩
    have sr := same_new (o := HO.tup [.int u', .int s']) nr
    have er : upd H4 r (HO.tup [.int u', .int s']) r = some (.tup [.int u', .int s']) := upd_same
    have T5 := T4.ext sr
    have p5 := p4.same sr
    generalize upd H4 r (HO.tup [.int u', .int s']) = H5 at er T5 p5 ⊢
    refine ⟨_, rfl, _, rfl, ?_⟩
    dsimp only [tNil]
    rw [List.append_nil]
    refine worth_of (n := s1) (by omega) fun u2 s2 b H6 lw2 sm6 np6 wb => ?_
    obtain ⟨rfl, rfl⟩ := low_eq lw lw2
    have er := sm6 _ _ er
    have T6 := T5.ext sm6
    have p6 := p5.same sm6
    have le := lw.le
    have ow := lw.own
    have bu' : u'.natAbs < 2 ^ 250 := low_nat lw bu
    obtain ⟨pp, ns', cc, ll, ed, _⟩ := id p6.ex
    have rd : r ≠ d := ne_of er ed (by intro y; cases y)
    refine ⟨_, _, rfl, ?_⟩
    clear sr p4 p5 T4 T5 lw lw2 ed nr np6
    -- scale
    refine ⟨_, rfl, _, rfl, _, rfl, r, _, 1, _, rfl, rfl, SqT.of er, rfl, _, rfl, _, _, rfl, rfl, _, _, rfl, ?_⟩
    refine ⟨_, rfl, d, 45, _, rfl, p6, by omega, by decide, by decide, fun z2 H7 c1 c2 k7 p7 => ?_⟩
    have wb := wb.keep p6 k7
    have er := k7 _ _ rd er
    have T7 := tabs_keep T6 p6 k7
    refine ⟨by show 4 ≤ sizeLine; decide, fun l2 nl2 => ?_⟩
    have sl2 := same_new (o := HO.lst [.int s1, .int s', .int (if (0 : Int) > (s1 : Int) - 1 then 0 else (s1 : Int) - 1), .int z2]) nl2
    refine ⟨d, l2, _, _, rfl, upd_same, by simp, by show 4 ≤ 1000; decide, p7.same sl2, by omega, fun x H8 hx k8 p8 => ?_⟩
    have wb := (wb.same sl2).keep (p7.same sl2) k8
    have er := k8 _ _ rd (sl2 _ _ er)
    have T8 := tabs_keep (T7.ext sl2) (p7.same sl2) k8
    have hx : ∃ n : Nat, x = .int n ∧ n ≤ 44 := by
      simp only [List.mem_cons, List.not_mem_nil, or_false] at hx
      rcases hx with rfl | rfl | rfl | rfl
      · exact ⟨s1, rfl, by omega⟩
      · exact ⟨s', rfl, by omega⟩
      · refine ⟨s1 - 1, congrArg V.int ?_, by omega⟩
        split <;> omega
      · exact ⟨z2.toNat, by rw [Int.toNat_of_nonneg c1], by omega⟩
    obtain ⟨n, rfl, hn⟩ := hx
    clear sl2 nl2 k7 k8 p6 p7 T6 T7
    -- depth
    refine ⟨_, rfl, _, rfl, _, _, rfl, rfl, _, rfl, _, _, rfl, rfl, _, rfl, d, 85, _, rfl, p8, by omega, by decide, by decide, fun z3 H9 f1 f2 k9 p9 => ?_⟩
    have wb := wb.keep p8 k9
    have er := k9 _ _ rd er
    have T9 := tabs_keep T8 p8 k9
    refine ⟨_, rfl, _, rfl, d, 41, _, rfl, p9, by omega, by decide, by decide, fun z4 H10 g1 g2 k10 p10 => ?_⟩
    have wb := wb.keep p9 k10
    have er := k10 _ _ rd er
    have T10 := tabs_keep T9 p9 k10
    refine ⟨_, _, rfl, rfl, _, rfl, r, _, 1, _, rfl, rfl, SqT.of er, rfl, by show 5 ≤ sizeLine; decide, fun l3 nl3 => ?_⟩
    have sl3 := same_new (o := HO.lst [.int ((n : Int) + 1), .int ((n : Int) + 2), .int z3, .int ((n : Int) + z4), .int s']) nl3
    refine ⟨d, l3, _, _, rfl, upd_same, by simp, by show 5 ≤ 1000; decide, p10.same sl3, by omega, fun x H11 hx k11 p11 => ?_⟩
    have wb := (wb.same sl3).keep (p10.same sl3) k11
    have er := k11 _ _ rd (sl3 _ _ er)
    have T11 := tabs_keep (T10.ext sl3) (p10.same sl3) k11
    have hx : ∃ p : Nat, x = .int p ∧ p ≤ 84 := by
      simp only [List.mem_cons, List.not_mem_nil, or_false] at hx
      rcases hx with rfl | rfl | rfl | rfl | rfl
      · exact ⟨n + 1, congrArg V.int (by omega), by omega⟩
      · exact ⟨n + 2, congrArg V.int (by omega), by omega⟩
      · exact ⟨z3.toNat, by rw [Int.toNat_of_nonneg f1], by omega⟩
      · exact ⟨n + z4.toNat, congrArg V.int (by omega), by omega⟩
      · exact ⟨s', rfl, by omega⟩
    obtain ⟨p, rfl, hp⟩ := hx
    clear sl3 nl3 k9 k10 k11 p8 p9 p10 T8 T9 T10
    dsimp only [gName, List.set]
    have hn1 : n ≤ 90 := by omega
    have hp1 : p ≤ 100 := by omega
    have hs1 : s' ≤ 100 := by omega
    refine ⟨rfl, fun m nm => ⟨m, rfl, ⟨_, SqL.of upd_same⟩, for_list (K := K) (xs := waysL.map V.str) (fun j σ H' => ∃ y : Option V, σ = [some (.ref a), some (.ref d), some (.int u), some (.int n), some (.ref r), some (.ref b), some (.int p), y] ∧ WAt W H' b u' s' ∧ H' r = some (.tup [.int u', .int s']) ∧ Pen H' d 10000 ∧ Tabs [(Pt, qL)] H' ∧ H' m = some (.lst (waysL.map V.str)))
      ⟨_, rfl, wb.same (same_new nm), same_new nm _ _ er, (p11.same (same_new nm)).mono (by omega), T11.ext (same_new nm), upd_same⟩ (fun j σ H' _ ⟨y, _, _, _, _, _, e⟩ => SqL.of e) ?_ ?_⟩⟩
    · rintro j x σ H12 hx ⟨y, rfl, wb, er, pn, tb, em⟩
      rw [List.getElem?_map] at hx
      obtain ⟨t, ht, rfl⟩ := Option.map_eq_some_iff.mp hx
      have ht := List.mem_of_getElem? ht
      dsimp only [gName, List.set]
      refine ⟨_, rfl, _, rfl, _, rfl, _, rfl, .ref b, .int n, .int p, .str t, rfl, .inr ⟨b, u', s', rfl, wb, hs1, up_two bu' (by decide), ow, .inr ⟨n, rfl, hn1, .inr ⟨p, rfl, hp1, .inr ⟨t, ht, rfl, fun hm => ?_, fun hm => ?_⟩⟩⟩⟩⟩
      · refine ⟨_, rfl, _, rfl, _, rfl, _, rfl, .non, r, u', s', n, p, t, rfl, er, up_two bu' (by decide), hs1, hn1, hp1, ht, .inl ⟨hm, rfl⟩, fun H' s' => ⟨_, rfl, iteF ?_⟩⟩
        exact ⟨_, rfl, wb.same s', s' _ _ er, pn.same s', tb.ext s', s' _ _ em⟩
      · intro r2 b1 b2 v1 v2 t1 t2 H' sm er2 w1 w2 l1 l2
        refine ⟨_, rfl, _, rfl, _, rfl, _, rfl, .ref r2, r, u', s', n, p, t, rfl, sm _ _ er, up_two bu' (by decide), hs1, hn1, hp1, ht, .inr ⟨hm, r2, _, _, rfl, er2, ⟨b1, v1, t1, rfl, w1, l1⟩, ⟨b2, v2, t2, rfl, w2, l2⟩⟩, fun H2 s2 => ⟨_, rfl, iteF ?_⟩⟩
        have s3 := sm.trans s2
        exact ⟨_, rfl, wb.same s3, s3 _ _ er, pn.same s3, tb.ext s3, s3 _ _ em⟩
    · rintro σ H12 ⟨y, rfl, wb, er, pn, tb, em⟩
      exact ⟨_, rfl, _, rfl, _, rfl, _, rfl, d, b, u', s', n, p, _, rfl, pn, by omega, wb, hs1, up_two bu' (by decide), ow, hn1, hp1, tb, fun H' _ => q H'⟩
end
end K08

set_option maxHeartbeats 0
/-! k08: what the top leaves; the end. -/
namespace K08
open PySem PySem.Spec PyProof.Rows L2 LamX NdefX Own
def nmF : Str × Option Str := ("_law_refusals", none)
def dfn (x : Str) (i : Nat) : He.DefD := ⟨(x, none), x, x, defArgs (topS i), defBody (topS i), defScope (topS i), [], []⟩
def dErr (x : Str) (i : Nat) : He.DefD := ⟨(x, some "__init__"), "__init__", x ++ ".__init__", defArgs (inClass (topS i) 0), defBody (inClass (topS i) 0), defScope (inClass (topS i) 0), [], []⟩
def dWI : He.DefD := ⟨("Worth", some "__init__"), "__init__", "Worth.__init__", defArgs (wI 0), defBody (wI 0), defScope (wI 0), [.int 0], []⟩
def dM (m q : Str) (i : Nat) : He.DefD := ⟨("Worth", some m), m, q, defArgs (wI i), defBody (wI i), defScope (wI i), [], []⟩
def fnL : List He.DefD := [dErr "BadValue" 2, dErr "TooFine" 3, dWI, dM "units_at" "Worth.units_at" 14, dfn "is_an_integer" 6, dfn "is_whole_number" 7, dfn "need_integer" 8, dfn "need_whole_number" 9, dfn "ten_to" 10, dfn "without_zeros" 14, dfn "need_worth" 17, dfn "need_way" 21, dfn "nearest_units" 22, dfn "_goes_up" 23, dfn "shown_as" 24, dfn "_least_offset" 25, dfn "_greatest_offset" 26, dfn "_law_begin" 28, dfn "_law_draw" 29, dfn "_law_pick" 30, dfn "_law_ten" 31, dfn "_law_figures" 32, dfn "_law_drawn" 33, dfn "_law_low" 34, dfn "_law_told" 35, dfn "_law_wrong" 36, dfn "_law_same" 37, dfn "_law_refused" 38, dfn "_law_ways" 39, dfn "_law_rounds" 40, dfn "_law_ends" 41, dfn "_law_right" 42, dfn "_law_refusals" 43, dfn "law" 44, dfn "digits_of" 11, dfn "parted" 15]
def gloL : List Str := (["BadValue", "TooFine", "TENS", "Worth", "WAYS", "HALVES", "is_an_integer", "is_whole_number", "need_integer", "need_whole_number", "ten_to", "without_zeros", "need_worth", "need_way", "nearest_units", "_goes_up", "shown_as", "_least_offset", "_greatest_offset", "_law_begin", "_law_draw", "_law_pick", "_law_ten", "_law_figures", "_law_drawn"] : List Str) ++ (["_law_low", "_law_told", "_law_wrong", "_law_same", "_law_refused", "_law_ways", "_law_rounds", "_law_ends", "_law_right", "_law_refusals", "law", "digits_of", "parted"] : List Str)
def freeL : List Str := ["isinstance", "int", "bool", "len", "list", "range", "tuple", "all", "divmod", "min", "max", "str", "abs", "dict", "any"]
def moreL : List He.Fa := [He.Fa.exm "BadValue" "BadValue" true, .meth "BadValue" "__init__", .noat "BadValue" "value", .keep "BadValue", .exm "TooFine" "TooFine" true, .meth "TooFine" "__init__", .noat "TooFine" "scale", .keep "TooFine", .cls "Worth", .noat "Worth" "units", .noat "Worth" "scale", .mkr "Worth", .meth "Worth" "units_at", .noat "Worth" "floor", .noat "Worth" "more"]
def faL : List He.Fa := gloL.map He.Fa.glo ++ freeL.map He.Fa.free ++ moreL
def tsL : List He.Tab := [(fun K => He.ga K "HALVES", ["halfup", "halfdown", "halfeven", "halfaway", "halfcut"])]
/-- what a dict of the top says at the ways -/
def getB (K : PySem.W.Frag) (a : Addr) (l : List (Str × Str)) : Bool := waysL.all fun z => match PySem.W.nsIn K a z with
  | some none => (l.lookup z).isNone
  | some (some u) => (match l.lookup z with
    | some y => He.relB (.str y) u
    | none => false)
  | none => false
theorem getB_ok {K : PySem.W.Frag} {a : Addr} {l : List (Str × Str)} (h : getB K a l = true) {z : Str} (hz : z ∈ waysL) : KGet K a z ((l.lookup z).map V.str) := by
  have h1 := List.all_eq_true.mp h z hz
  cases q : PySem.W.nsIn K a z with
  | none => rw [q] at h1; cases h1
  | some ro =>
    rw [q] at h1
    refine ⟨ro, q, ?_⟩
    cases ro with
    | none =>
      cases e : l.lookup z with
      | none => exact trivial
      | some y => rw [e] at h1; cases h1
    | some u =>
      cases e : l.lookup z with
      | none => rw [e] at h1; cases h1
      | some y =>
        rw [e] at h1
        exact He.relB_ok h1
/-- what is leant on of the class -/
def wB (K : PySem.W.Frag) (W : Addr) : Bool := PySem.W.selfFirst K W && (decide (PySem.W.findIn K (.ref W) "__class__" = some (some (.builtin "object.__class__"))) && (decide (PySem.W.specialIn K (.builtin "object.__class__") "__get__" = some (some (.builtin "getset_descriptor.__get__"))) &&
  (decide (PySem.W.takesIn K (.builtin "object.__class__") = some true) && (decide (PySem.W.mroIn K W (.type "object") = some true) && ((tys.all fun T => decide (PySem.W.kitOne K (.type T) (.ref W) = some false)))))))
def exL (K : PySem.W.Frag) : Bool := oexB K (He.ga K "BadValue") && (L2.xfB K (He.ga K "BadValue") && (oexB K (He.ga K "TooFine") && (L2.xfB K (He.ga K "TooFine") && (He.tupB K "WAYS" (waysL.map He.Dv.str) && (getB K (He.ga K "HALVES") halvL && (He.tupB K "TENS" (tensL.map He.Dv.int) && wB K (He.ga K "Worth")))))))
abbrev rowK : PySem.W.OpenRow := PySem.W.OpenLaw.row PySem.Challenge.rw_figurestay_k08_whole_shown_as
abbrev hkL : PySem.W.Hook := He.hookX 6 faL fnL tsL [nmF] exL
def obL (s : PySem.W.SharedT) : He.AlX := He.obsX 6 faL fnL tsL [nmF] exL (HandSHeadRun.getT s)
theorem obL_eq (s : PySem.W.SharedT) : obL s = hkL.obs s.abs := He.obsX_eq (HandSHeadRun.getT_eq s)
def looseL : List Str := (["FigureError", "BadValue", "TooFine", "TENS", "Worth", "WAYS", "HALVES", "is_an_integer", "is_whole_number", "need_integer", "need_whole_number", "ten_to", "without_zeros", "need_worth", "need_way", "nearest_units", "_goes_up", "shown_as", "_least_offset", "_greatest_offset", "_law_begin", "_law_draw", "_law_pick", "_law_ten", "_law_figures"] : List Str) ++ (["_law_drawn", "_law_low", "_law_told", "_law_wrong", "_law_same", "_law_refused", "_law_ways", "_law_rounds", "_law_ends", "_law_right", "_law_refusals", "digits_of", "as_worth", "parted"] : List Str)
end K08

/-! k08: what the top leaves; the end. -/
namespace K08
open PySem PySem.Spec PyProof.Rows L2 LamX NdefX Own
theorem runF (w : World) : HandSHeadRun.RunEq rowK (PySem.W.view rowK.prog [44]) hkL obL 4000 looseL (w.withFollow "special-get-raises" false) := by
  intro os
  kernel_rfl
theorem runT (w : World) : HandSHeadRun.RunEq rowK (PySem.W.view rowK.prog [44]) hkL obL 4000 looseL (w.withFollow "special-get-raises" true) := by
  intro os
  kernel_rfl
theorem runL (w : World) : HandSHeadRun.RunEq rowK (PySem.W.view rowK.prog [44]) hkL obL 4000 looseL w := PySem.W.byRow2 "special-get-raises" (P := fun w => HandSHeadRun.RunEq rowK (PySem.W.view rowK.prog [44]) hkL obL 4000 looseL w) runF runT w
end K08

/-! k08: what the top leaves; the end. -/
namespace K08
open PySem PySem.Spec PyProof.Rows L2 LamX NdefX Own
section
variable {P : Program} {w : World} {K : PySem.W.Frag} {mg : Str → Option Value} {h : Heap}
theorem gloF (X : K.In h) (G : h.Ns mainGlobals mg) (d : He.SaysD faL fnL K) {x : Str} (hx : x ∈ gloL) : mg x = some (.ref (He.ga K x)) :=
  He.glo_ok X G (d.facts (List.mem_append_left _ (List.mem_append_left _ (List.mem_map.mpr ⟨x, hx, rfl⟩))))
theorem freeF (X : K.In h) (G : h.Ns mainGlobals mg) (d : He.SaysD faL fnL K) {x : Str} (hx : x ∈ freeL) : mg x = none :=
  He.free_ok X G (d.facts (List.mem_append_left _ (List.mem_append_right _ (List.mem_map.mpr ⟨x, hx, rfl⟩))))
theorem moreF (d : He.SaysD faL fnL K) {f : He.Fa} (hf : f ∈ moreL) : f.ok K = true := d.facts (List.mem_append_right _ hf)
theorem scE1 : FnScope ["self", "value"] ["self", "value"] (defScope (inClass (topS 2) 0)) := ⟨rfl, rfl, rfl, by decide +kernel, rfl, by decide +kernel, by decide +kernel⟩
theorem scE2 : FnScope ["self", "scale"] ["self", "scale"] (defScope (inClass (topS 3) 0)) := ⟨rfl, rfl, rfl, by decide +kernel, rfl, by decide +kernel, by decide +kernel⟩
theorem ok_errI {base : Heap} {C : Addr} {f : Addr} {fd : FuncData} (F : Fun K "__init__" "BadValue.__init__" (inClass (topS 2) 0) f fd) (T : OexC K C) (no : PySem.W.findIn K (.ref C) "value" = some none) : FnOk P w K mg base CX0 1 f fd ["self", "value"] (spErr C "value") := by
  refine F.ok scE1 (fun vs H Q E h => ?_) (fun cdv A outer s H vs Q E hr h => ?_)
  · obtain ⟨a, y, rfl, _⟩ := h
    rfl
  · obtain ⟨a, y, rfl, ha, q⟩ := h
    refine ⟨_, pss_one (ps_ost (pv 0) (pv 1)), ?_⟩
    exact ⟨_, rfl, _, rfl, a, C, rfl, T, no, .inl ⟨ha, fun dx n1 n2 => q dx n1 n2⟩⟩
theorem ok_errJ {base : Heap} {C : Addr} {f : Addr} {fd : FuncData} (F : Fun K "__init__" "TooFine.__init__" (inClass (topS 3) 0) f fd) (T : OexC K C) (no : PySem.W.findIn K (.ref C) "scale" = some none) : FnOk P w K mg base CX0 1 f fd ["self", "scale"] (spErr C "scale") := by
  refine F.ok scE2 (fun vs H Q E h => ?_) (fun cdv A outer s H vs Q E hr h => ?_)
  · obtain ⟨a, y, rfl, _⟩ := h
    rfl
  · obtain ⟨a, y, rfl, ha, q⟩ := h
    refine ⟨_, pss_one (ps_ost (pv 0) (pv 1)), ?_⟩
    exact ⟨_, rfl, _, rfl, a, C, rfl, T, no, .inl ⟨ha, fun dx n1 n2 => q dx n1 n2⟩⟩
theorem law_at {fa : Addr} (X : K.In h) (G : h.Ns mainGlobals mg) (hfa : mg "law" = some (.ref fa)) (c : He.SaysX faL fnL tsL [nmF] exL w h K) : LawAtS PySem.Challenge.rw_figurestay_k08_whole_shown_as w K CX0 17 63 "_law_script" mg fa h := by
  have d := c.t.d
  obtain ⟨x1, y⟩ := He.ba c.more
  obtain ⟨x2, y⟩ := He.ba y
  obtain ⟨x3, y⟩ := He.ba y
  obtain ⟨x4, y⟩ := He.ba y
  obtain ⟨x5, y⟩ := He.ba y
  obtain ⟨x6, y⟩ := He.ba y
  obtain ⟨x7, y⟩ := He.ba y
  obtain ⟨z1, y⟩ := He.ba y
  obtain ⟨z2, y⟩ := He.ba y
  obtain ⟨z3, y⟩ := He.ba y
  obtain ⟨z4, y⟩ := He.ba y
  obtain ⟨z5, z6⟩ := He.ba y
  have noV := He.noat_ok (moreF d (f := .noat "BadValue" "value") (List.mem_of_getElem? (i := 2) rfl))
  have te := He.exm_ok (moreF d (f := .exm "BadValue" "BadValue" true) (List.mem_of_getElem? (i := 0) rfl))
  have mt := He.meth_ok (moreF d (f := .meth "BadValue" "__init__") (List.mem_of_getElem? (i := 1) rfl))
  have noV2 := He.noat_ok (moreF d (f := .noat "TooFine" "scale") (List.mem_of_getElem? (i := 6) rfl))
  have te2 := He.exm_ok (moreF d (f := .exm "TooFine" "TooFine" true) (List.mem_of_getElem? (i := 4) rfl))
  have mt2 := He.meth_ok (moreF d (f := .meth "TooFine" "__init__") (List.mem_of_getElem? (i := 5) rfl))
  have mk := He.mkr_ok (moreF d (f := .mkr "Worth") (List.mem_of_getElem? (i := 11) rfl))
  have clsW := He.cls_ok (moreF d (f := .cls "Worth") (List.mem_of_getElem? (i := 8) rfl))
  have noU := He.noat_ok (moreF d (f := .noat "Worth" "units") (List.mem_of_getElem? (i := 9) rfl))
  have noS := He.noat_ok (moreF d (f := .noat "Worth" "scale") (List.mem_of_getElem? (i := 10) rfl))
  have noFl := He.noat_ok (moreF d (f := .noat "Worth" "floor") (List.mem_of_getElem? (i := 13) rfl))
  have noMo := He.noat_ok (moreF d (f := .noat "Worth" "more") (List.mem_of_getElem? (i := 14) rfl))
  obtain ⟨esH, nH, dHt⟩ := c.t.tab 0
  have m_units_at := He.meth_ok (moreF d (f := .meth "Worth" "units_at") (List.mem_of_getElem? (i := 12) rfl))
  obtain ⟨fdI, FI⟩ := d.def_ 0 (d := dErr "BadValue" 2) rfl
  have FI' : Fun K "__init__" "BadValue.__init__" (inClass (topS 2) 0) _ fdI := fun_of FI
  have bI := FI'.binds (ps := ["self", "value"]) fun _ _ _ _ _ _ us hl => match us, hl with | [_, _], _ => rfl
  obtain ⟨fdJ, FJ⟩ := d.def_ 1 (d := dErr "TooFine" 3) rfl
  have FJ' : Fun K "__init__" "TooFine.__init__" (inClass (topS 3) 0) _ fdJ := fun_of FJ
  have bJ := FJ'.binds (ps := ["self", "scale"]) fun _ _ _ _ _ _ us hl => match us, hl with | [_, _], _ => rfl
  obtain ⟨fdW, FW⟩ := d.def_ 2 (d := dWI) rfl
  have FW' : FunD K "__init__" "Worth.__init__" (defArgs (wI 0)) (defBody (wI 0)) (defScope (wI 0)) [V.int 0] [] _ fdW := FW
  have bW1 : ∃ ds, Vals [V.int 0] ds ∧ Binds K fdW ["self", "units", "scale"] ds := FW'.binds1 2 0 (by simp) rfl fun T kV doc pm an cdv ct us its hu hi => match us, its, hu, hi with | [_, _], [_], _, _ => ⟨_, rfl, rfl⟩
  have bW0 : Binds K fdW ["self", "units", "scale"] [] := by
    obtain ⟨ds, rd, b⟩ := FW'.binds1 (ps := ["self", "units", "scale"]) 3 1 (by simp) rfl fun T kV doc pm an cdv ct us its hu hi => match us, its, hu, hi with | [_, _, _], [_], _, _ => ⟨_, rfl, rfl⟩
    have e : ds = [] := by cases rd; rfl
    rw [e] at b
    exact b
  obtain ⟨fd_units_at, F_units_at⟩ := d.def_ 3 (d := dM "units_at" "Worth.units_at" 14) rfl
  have G_units_at : Fun K "units_at" "Worth.units_at" (wI 14) _ fd_units_at := fun_of F_units_at
  have b_units_at := G_units_at.binds (ps := ["self", "scale"]) fun _ _ _ _ _ _ us hl => match us, hl with | [_, _], _ => rfl
  obtain ⟨fd0, F0⟩ := d.def_ 4 (d := dfn "is_an_integer" 6) rfl
  have Ais_an_integer : At K mg "is_an_integer" (topS 6) ["value"] := at_of F0 (gloF X G d (by decide +kernel)) fun _ _ _ _ _ _ us hl => match us, hl with | [_], _ => rfl
  obtain ⟨fd1, F1⟩ := d.def_ 5 (d := dfn "is_whole_number" 7) rfl
  have Ais_whole_number : At K mg "is_whole_number" (topS 7) ["value"] := at_of F1 (gloF X G d (by decide +kernel)) fun _ _ _ _ _ _ us hl => match us, hl with | [_], _ => rfl
  obtain ⟨fd2, F2⟩ := d.def_ 6 (d := dfn "need_integer" 8) rfl
  have Aneed_integer : At K mg "need_integer" (topS 8) ["value"] := at_of F2 (gloF X G d (by decide +kernel)) fun _ _ _ _ _ _ us hl => match us, hl with | [_], _ => rfl
  obtain ⟨fd3, F3⟩ := d.def_ 7 (d := dfn "need_whole_number" 9) rfl
  have Aneed_whole_number : At K mg "need_whole_number" (topS 9) ["value"] := at_of F3 (gloF X G d (by decide +kernel)) fun _ _ _ _ _ _ us hl => match us, hl with | [_], _ => rfl
  obtain ⟨fd4, F4⟩ := d.def_ 8 (d := dfn "ten_to" 10) rfl
  have Aten_to : At K mg "ten_to" (topS 10) ["places"] := at_of F4 (gloF X G d (by decide +kernel)) fun _ _ _ _ _ _ us hl => match us, hl with | [_], _ => rfl
  obtain ⟨fd5, F5⟩ := d.def_ 9 (d := dfn "without_zeros" 14) rfl
  have Awithout_zeros : At K mg "without_zeros" (topS 14) ["units", "scale"] := at_of F5 (gloF X G d (by decide +kernel)) fun _ _ _ _ _ _ us hl => match us, hl with | [_, _], _ => rfl
  obtain ⟨fd6, F6⟩ := d.def_ 10 (d := dfn "need_worth" 17) rfl
  have Aneed_worth : At K mg "need_worth" (topS 17) ["value"] := at_of F6 (gloF X G d (by decide +kernel)) fun _ _ _ _ _ _ us hl => match us, hl with | [_], _ => rfl
  obtain ⟨fd7, F7⟩ := d.def_ 11 (d := dfn "need_way" 21) rfl
  have Aneed_way : At K mg "need_way" (topS 21) ["value"] := at_of F7 (gloF X G d (by decide +kernel)) fun _ _ _ _ _ _ us hl => match us, hl with | [_], _ => rfl
  obtain ⟨fd8, F8⟩ := d.def_ 12 (d := dfn "nearest_units" 22) rfl
  have Anearest_units : At K mg "nearest_units" (topS 22) ["number", "divisor", "way"] := at_of F8 (gloF X G d (by decide +kernel)) fun _ _ _ _ _ _ us hl => match us, hl with | [_, _, _], _ => rfl
  obtain ⟨fd9, F9⟩ := d.def_ 13 (d := dfn "_goes_up" 23) rfl
  have A_goes_up : At K mg "_goes_up" (topS 23) ["way", "below", "past_half"] := at_of F9 (gloF X G d (by decide +kernel)) fun _ _ _ _ _ _ us hl => match us, hl with | [_, _, _], _ => rfl
  obtain ⟨fd10, F10⟩ := d.def_ 14 (d := dfn "shown_as" 24) rfl
  have Ashown_as : At K mg "shown_as" (topS 24) ["worth", "scale", "places", "way"] := at_of F10 (gloF X G d (by decide +kernel)) fun _ _ _ _ _ _ us hl => match us, hl with | [_, _, _, _], _ => rfl
  obtain ⟨fd11, F11⟩ := d.def_ 15 (d := dfn "_least_offset" 25) rfl
  have A_least_offset : At K mg "_least_offset" (topS 25) ["units", "one_unit", "way"] := at_of F11 (gloF X G d (by decide +kernel)) fun _ _ _ _ _ _ us hl => match us, hl with | [_, _, _], _ => rfl
  obtain ⟨fd12, F12⟩ := d.def_ 16 (d := dfn "_greatest_offset" 26) rfl
  have A_greatest_offset : At K mg "_greatest_offset" (topS 26) ["units", "one_unit", "way"] := at_of F12 (gloF X G d (by decide +kernel)) fun _ _ _ _ _ _ us hl => match us, hl with | [_, _, _], _ => rfl
  obtain ⟨fd13, F13⟩ := d.def_ 17 (d := dfn "_law_begin" 28) rfl
  have AL_begin : At K mg "_law_begin" (topS 28) ["_law_script"] := at_of F13 (gloF X G d (by decide +kernel)) fun _ _ _ _ _ _ us hl => match us, hl with | [_], _ => rfl
  obtain ⟨fd14, F14⟩ := d.def_ 18 (d := dfn "_law_draw" 29) rfl
  have AL_draw : At K mg "_law_draw" (topS 29) ["_law_pen", "_law_span"] := at_of F14 (gloF X G d (by decide +kernel)) fun _ _ _ _ _ _ us hl => match us, hl with | [_, _], _ => rfl
  obtain ⟨fd15, F15⟩ := d.def_ 19 (d := dfn "_law_pick" 30) rfl
  have AL_pick : At K mg "_law_pick" (topS 30) ["_law_pen", "_law_some"] := at_of F15 (gloF X G d (by decide +kernel)) fun _ _ _ _ _ _ us hl => match us, hl with | [_, _], _ => rfl
  obtain ⟨fd16, F16⟩ := d.def_ 20 (d := dfn "_law_ten" 31) rfl
  have AL_ten : At K mg "_law_ten" (topS 31) ["_law_number"] := at_of F16 (gloF X G d (by decide +kernel)) fun _ _ _ _ _ _ us hl => match us, hl with | [_], _ => rfl
  obtain ⟨fd17, F17⟩ := d.def_ 21 (d := dfn "_law_figures" 32) rfl
  have AL_figures : At K mg "_law_figures" (topS 32) ["_law_pen", "_law_most"] := at_of F17 (gloF X G d (by decide +kernel)) fun _ _ _ _ _ _ us hl => match us, hl with | [_, _], _ => rfl
  obtain ⟨fd18, F18⟩ := d.def_ 22 (d := dfn "_law_drawn" 33) rfl
  have AL_drawn : At K mg "_law_drawn" (topS 33) ["_law_pen"] := at_of F18 (gloF X G d (by decide +kernel)) fun _ _ _ _ _ _ us hl => match us, hl with | [_], _ => rfl
  obtain ⟨fd19, F19⟩ := d.def_ 23 (d := dfn "_law_low" 34) rfl
  have AL_low : At K mg "_law_low" (topS 34) ["_law_units", "_law_scale"] := at_of F19 (gloF X G d (by decide +kernel)) fun _ _ _ _ _ _ us hl => match us, hl with | [_, _], _ => rfl
  obtain ⟨fd20, F20⟩ := d.def_ 24 (d := dfn "_law_told" 35) rfl
  have AL_told : At K mg "_law_told" (topS 35) ["_law_worth"] := at_of F20 (gloF X G d (by decide +kernel)) fun _ _ _ _ _ _ us hl => match us, hl with | [_], _ => rfl
  obtain ⟨fd21, F21⟩ := d.def_ 25 (d := dfn "_law_wrong" 36) rfl
  have AL_wrong : At K mg "_law_wrong" (topS 36) ["_law_pen"] := at_of F21 (gloF X G d (by decide +kernel)) fun _ _ _ _ _ _ us hl => match us, hl with | [_], _ => rfl
  obtain ⟨fd22, F22⟩ := d.def_ 26 (d := dfn "_law_same" 37) rfl
  have AL_same : At K mg "_law_same" (topS 37) ["_law_one", "_law_other"] := at_of F22 (gloF X G d (by decide +kernel)) fun _ _ _ _ _ _ us hl => match us, hl with | [_, _], _ => rfl
  obtain ⟨fd23, F23⟩ := d.def_ 27 (d := dfn "_law_refused" 38) rfl
  have AL_refused : At K mg "_law_refused" (topS 38) ["_law_deed", "_law_value"] := at_of F23 (gloF X G d (by decide +kernel)) fun _ _ _ _ _ _ us hl => match us, hl with | [_, _], _ => rfl
  obtain ⟨fd24, F24⟩ := d.def_ 28 (d := dfn "_law_ways" 39) rfl
  have AL_ways : At K mg "_law_ways" (topS 39) [] := at_of F24 (gloF X G d (by decide +kernel)) fun _ _ _ _ _ _ us hl => match us, hl with | [], _ => rfl
  obtain ⟨fd25, F25⟩ := d.def_ 29 (d := dfn "_law_rounds" 40) rfl
  have AL_rounds : At K mg "_law_rounds" (topS 40) ["_law_number", "_law_divisor", "_law_manner"] := at_of F25 (gloF X G d (by decide +kernel)) fun _ _ _ _ _ _ us hl => match us, hl with | [_, _, _], _ => rfl
  obtain ⟨fd26, F26⟩ := d.def_ 30 (d := dfn "_law_ends" 41) rfl
  have AL_ends : At K mg "_law_ends" (topS 41) ["_law_told_here", "_law_depth"] := at_of F26 (gloF X G d (by decide +kernel)) fun _ _ _ _ _ _ us hl => match us, hl with | [_, _], _ => rfl
  obtain ⟨fd27, F27⟩ := d.def_ 31 (d := dfn "_law_right" 42) rfl
  have AL_right : At K mg "_law_right" (topS 42) ["_law_told_here", "_law_row", "_law_scale", "_law_depth", "_law_manner"] := at_of F27 (gloF X G d (by decide +kernel)) fun _ _ _ _ _ _ us hl => match us, hl with | [_, _, _, _, _], _ => rfl
  obtain ⟨fdR, FR⟩ := d.def_ 32 (d := dfn "_law_refusals" 43) rfl
  obtain ⟨fdDg, FDg⟩ := d.def_ 34 (d := dfn "digits_of" 11) rfl
  have Adg : At K mg "digits_of" (topS 11) ["number"] := at_of FDg (gloF X G d (by decide +kernel)) fun _ _ _ _ _ _ us hl => match us, hl with | [_], _ => rfl
  obtain ⟨fdPt, FPt⟩ := d.def_ 35 (d := dfn "parted" 15) rfl
  have Apt : At K mg "parted" (topS 15) ["units", "scale"] := at_of FPt (gloF X G d (by decide +kernel)) fun _ _ _ _ _ _ us hl => match us, hl with | [_, _], _ => rfl
  obtain ⟨fdL, FL⟩ := d.def_ 33 (d := dfn "law" 44) rfl
  have e := hfa.symm.trans (gloF X G d (x := "law") (by decide +kernel))
  cases e
  have FL' : Fun K "law" "law" sLaw _ fdL := fun_of FL
  have FR' : Fun K "_law_refusals" "_law_refusals" sRefs _ fdR := fun_of FR
  have AR : AtC K mg "_law_refusals" sRefs ["_law_pen", "_law_worth", "_law_scale", "_law_depth"] (He.cT K nmF).1 := by
    have bR := FR'.binds (ps := ["_law_pen", "_law_worth", "_law_scale", "_law_depth"]) fun _ _ _ _ _ _ us hl => match us, hl with | [_, _, _, _], _ => rfl
    have gR := gloF X G d (x := "_law_refusals") (by decide +kernel)
    have kR := FR'.kp
    obtain ⟨oc, od, kV, doc, pm, an, cdv, ct, osl, rfl, lk, hcd⟩ := FR'.ex
    obtain ⟨cc, rfl⟩ := He.codeIn_ref hcd
    have ec : He.codeOf K nmF = cc := He.codeOf_eq lk rfl
    refine ⟨_, oc, od, kV, doc, pm, an, ct, osl, ?_, ?_, gR, kR, ?_⟩
    · show K.lookup _ = some ⟨oc, od, .func (PySem.W.fnOf _ _ _ _ _ .none kV doc pm an (.ref (He.codeOf K nmF)) ct), osl⟩
      rw [ec]
      exact lk
    · show PySem.W.codeIn K (.ref (He.codeOf K nmF)) _ = true
      rw [ec]
      exact hcd
    · show Binds K (PySem.W.fnOf _ _ _ _ _ .none kV doc pm an (.ref (He.codeOf K nmF)) ct) _ []
      rw [ec]
      exact bR
  have hL : ∀ (s : Shared) (u : Value), BindsTo s fdL ⟨[u], []⟩ [("_law_script", u)] := by
    obtain ⟨oc, od, kV, doc, pm, an, cdv, ct, osl, rfl, lk, hcd⟩ := FL'.ex
    exact fun s u => .of_eq rfl
  refine ⟨fdL, [He.cT K nmF], spLaw K (He.cT K nmF).2, fun p hp => ?_, fun p hp => ?_, fun p hp => ?_, hL, fun H a ns hl _ hT hs => ⟨a, ns, rfl, hs, hl, fun p hp => ?_, fun _ => rfl⟩, fun base XB GB TBs => ?_⟩
  · rw [List.mem_singleton.mp hp]
    exact c.empty nmF (List.mem_singleton.mpr rfl)
  · rw [List.mem_singleton.mp hp]
    exact c.out nmF (List.mem_singleton.mpr rfl)
  · rw [List.mem_singleton.mp hp]
    exact PySem.W.codeHd_of_K X (c.hd nmF (List.mem_singleton.mpr rfl))
  · rw [List.mem_singleton.mp hp]
    exact TabS.nil (hT (He.cT K nmF) (List.mem_singleton.mpr rfl))
  · have TB := TBs (He.cT K nmF) (List.mem_singleton.mpr rfl)
    have B : Blt mg := { isi := freeF X G d (by decide +kernel), int := freeF X G d (by decide +kernel), bool := freeF X G d (by decide +kernel), len := freeF X G d (by decide +kernel), list := freeF X G d (by decide +kernel), range := freeF X G d (by decide +kernel), tuple := freeF X G d (by decide +kernel), all := freeF X G d (by decide +kernel), dm := freeF X G d (by decide +kernel), min := freeF X G d (by decide +kernel), max := freeF X G d (by decide +kernel), str := freeF X G d (by decide +kernel), abs := freeF X G d (by decide +kernel), dict := freeF X G d (by decide +kernel), any := freeF X G d (by decide +kernel) }
    have TE : ErrC PySem.Challenge.rw_figurestay_k08_whole_shown_as.prog w K mg base "BadValue" "value" 1 (He.ga K "BadValue") (spErr (He.ga K "BadValue") "value") := ⟨gloF X G d (by decide +kernel), oexB_ok x1, ⟨_, fdI, mt.1, beq_iff_eq.mp mt.fn, ok_errI FI' (oexB_ok x1) noV, bI⟩, L2.xfB_ok x2, te, noV⟩
    have TF : ErrC PySem.Challenge.rw_figurestay_k08_whole_shown_as.prog w K mg base "TooFine" "scale" 1 (He.ga K "TooFine") (spErr (He.ga K "TooFine") "scale") := ⟨gloF X G d (by decide +kernel), oexB_ok x3, ⟨_, fdJ, mt2.1, beq_iff_eq.mp mt2.fn, ok_errJ FJ' (oexB_ok x3) noV2, bJ⟩, L2.xfB_ok x4, te2, noV2⟩
    have T : WorthC K mg (He.ga K "Worth") := ⟨gloF X G d (by decide +kernel), clsW, noU, noS, noFl, noMo⟩
    have I : WIs K (He.ga K "Worth") := ⟨of_decide_eq_true z2, of_decide_eq_true z3, of_decide_eq_true z4, of_decide_eq_true z5, fun T hT => of_decide_eq_true (List.all_eq_true.mp z6 T hT)⟩
    have TX : Tx8 PySem.Challenge.rw_figurestay_k08_whole_shown_as.prog w K mg base (He.ga K "BadValue") (He.ga K "WAYS") (He.ga K "HALVES") esH nH :=
      { isi := B.isi, int := B.int, bool := B.bool, len := B.len, list := B.list, range := B.range, tuple := B.tuple, all := B.all, dm := B.dm, err := TE, gW := gloF X G d (by decide +kernel), ways := fun H => He.tupB_ok x5 H, gH := gloF X G d (by decide +kernel), dH := dHt, halv := fun z hz => getB_ok x6 hz }
    have tens : ∀ H : Hp, SqT K H (He.ga K "TENS") (tensL.map V.int) := fun H => by
      have z := He.tupB_ok x7 H
      rw [List.map_map] at z
      exact z
    have D1 := ok_isInt (P := PySem.Challenge.rw_figurestay_k08_whole_shown_as.prog) (w := w) (base := base) Ais_an_integer B
    have D2 := ok_isWh Ais_whole_number D1
    have D3 := ok_nInt Aneed_integer TE D1
    have D4 := ok_nWh Aneed_whole_number TE D2
    have D5 := ok_tenTo (P := PySem.Challenge.rw_figurestay_k08_whole_shown_as.prog) (w := w) (base := base) Aten_to B (gloF X G d (by decide +kernel)) tens 8 (by decide)
    have D6 := ok_wz Awithout_zeros D5
    have Ddg := ok_dig (P := PySem.Challenge.rw_figurestay_k08_whole_shown_as.prog) (w := w) (base := base) Adg B
    have Dpt := ok_part Apt B D5 Ddg
    have M : WMk PySem.Challenge.rw_figurestay_k08_whole_shown_as.prog w K mg base (He.ga K "BadValue") (He.ga K "Worth") := ⟨_, fdW, mk, ok_wI FW' T D3 D4 D6 Dpt, bW0, bW1⟩
    have U : WMeth PySem.Challenge.rw_figurestay_k08_whole_shown_as.prog w K mg base (He.ga K "Worth") "units_at" 10 ["self", "scale"] (spUat (He.ga K "Worth")) := ⟨_, fd_units_at, m_units_at, ok_uat G_units_at T TF D4 D5, b_units_at⟩
    have D8 := ok_needW Aneed_worth B T I TE
    have E1 := ok_nWay Aneed_way TX
    have E3 := ok_goes A_goes_up TX
    have E4 := ok_near Anearest_units TX E3
    have O1 := ok_lo A_least_offset E4
    have O2 := ok_hi A_greatest_offset E4
    have S1 := ok_sh Ashown_as B T M U D8 D4 E1 D5 O1 O2
    have L0 := ok_begin (P := PySem.Challenge.rw_figurestay_k08_whole_shown_as.prog) (w := w) (base := base) AL_begin B
    have L1 := ok_draw' (P := PySem.Challenge.rw_figurestay_k08_whole_shown_as.prog) (w := w) (base := base) AL_draw B
    have L2 := ok_pick AL_pick B L1
    have L3 := ok_ten (P := PySem.Challenge.rw_figurestay_k08_whole_shown_as.prog) (w := w) (base := base) AL_ten B
    have L4 := ok_figs AL_figures B L1 L3
    have L6 := ok_drawn AL_drawn L1 L2 L4
    have L7 := ok_low AL_low B L3
    have L8 := ok_told (P := PySem.Challenge.rw_figurestay_k08_whole_shown_as.prog) (w := w) (base := base) AL_told B T I
    have L10 := ok_wrong AL_wrong L2
    have L11 := ok_same (P := PySem.Challenge.rw_figurestay_k08_whole_shown_as.prog) (w := w) (base := base) AL_same B
    have L12 := ld_refdH AL_refused TE L11
    have L13 := ok_ways (P := PySem.Challenge.rw_figurestay_k08_whole_shown_as.prog) (w := w) (base := base) AL_ways
    have L14 := ok_rnds (P := PySem.Challenge.rw_figurestay_k08_whole_shown_as.prog) (w := w) (base := base) AL_rounds B
    have L15 := ok_ends AL_ends B L8 L3
    have L16 := ok_right AL_right L15 L3 L14
    have L20 := ok_refs AR TB B L1 L10 S1 L12
    exact ok_law FL' B T M L0 L1 L2 L6 L7 L13 S1 L16 L20
end
end K08
open PySem PySem.W PySem.Calls PyProof.Rows
theorem PySem.Challenge.cw_figurestay_k08_whole_shown_as_holds : PySem.Challenge.rw_figurestay_k08_whole_shown_as.Holds := by
  w_on; o_law
  refine HandSHeadRun.head_any (r := OpenLaw.row PySem.Challenge.rw_figurestay_k08_whole_shown_as) (q := view (OpenLaw.row PySem.Challenge.rw_figurestay_k08_whole_shown_as).prog [44]) (H := K08.hkL) (ob := K08.obL) (M := 4000) (loose := K08.looseL)
    (d := HandSHeadRun.topDef (OpenLaw.row PySem.Challenge.rw_figurestay_k08_whole_shown_as).prog 44) (kwd := []) K08.obL_eq
    (by kernel_rfl) (fun s => by kernel_rfl) K08.runL (by kernel_rfl) (by kernel_rfl) (by kernel_rfl) (by rfl) (by first | assumption | decide +kernel) (by decide +kernel) ⟨rfl, rfl, rfl, rfl, rfl, by decide +kernel⟩ ?hw ?hc
  case hw => w_witness2
  case hc =>
    refine LamX.walk_ofTsE (l := PySem.Challenge.rw_figurestay_k08_whole_shown_as) (n := 63) (k := 17) (x := "_law_script") (CX := fun _ => L2.CX0) rfl (by decide) (by kernel_rfl) ⟨rfl, by decide, by decide⟩ ?F (fun _ _ _ _ _ z => z)
    intro w mg fa h Y G hmg0
    obtain ⟨K, KX, c⟩ := Y
    have hmg : mg ("law" : PySem.Str) = some (.ref fa) := by
      have e : (HandSHeadRun.topDef (OpenLaw.row PySem.Challenge.rw_figurestay_k08_whole_shown_as).prog 44).name = ("law" : PySem.Str) := by kernel_rfl
      rw [← e]
      exact hmg0
    exact ⟨K, KX, K08.law_at KX G hmg c⟩
