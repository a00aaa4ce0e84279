import PyProof.Rows.All
import Wide.All
import OpenK.AllK
import Wide.FinOn
import HandS.ForMost
import HandS.ForExc
import HandS.Wide
import HandS.WideBits
import HandS.IsInst
import HandS.ExcInit
import HandS.ExcField
import HandS.Nested
import HandS.Deep
import HandS.More
import HandS.Codes
import HandS.Lambda
import KE.KDflt
import KE.IntTextLaws
import HandS.ExcOwn
import HandS.WordsExc
import KE.KStateDown
import HandS.Head0
import HandS.Head1
import HandS.Head2
import HandS.HeadEnd
import HandS.HeadHook1
import HandS.HeadHook2
import HandS.HeadHook3
import HandS.HeadHook4
import HandS.HeadWalk
import KE.KOpsOwn
import HandS.OwnEq
import PyProof.Rows.RuleN_abs
import PyProof.InstNe
import HandS.Property
import PySem.Challenge.RW_figurestay_k10_dialect_rules
import HandS.MakeKwOnly
import HandS.Style
import Wide.Once
set_option Elab.async false
set_option linter.all false
set_option maxRecDepth 100000
set_option maxHeartbeats 4000000
/-! own layer, of no law: OWN -/
namespace Own
open PySem PySem.Spec PyProof.Rows L2
/-! ### heaps -/
/-- all but what stands at d is as it was -/
def Keep (d : Addr) (H H' : Hp) : Prop := ∀ b o, b ≠ d → H b = some o → H' b = some o
theorem Keep.refl {d : Addr} {H : Hp} : Keep d H H := fun _ _ _ e => e
theorem Keep.trans {d : Addr} {H H1 H2 : Hp} (a : Keep d H H1) (b : Keep d H1 H2) : Keep d H H2 := fun c o n e => b c o n (a c o n e)
theorem Keep.new {d p : Addr} {o : HO} {H : Hp} (h : H p = none) : Keep d H (upd H p o) := fun b u _ e => by
  rw [upd_ne (ne_of_none e h)]
  exact e
theorem Keep.at {d : Addr} {o : HO} {H : Hp} : Keep d H (upd H d o) := fun b u n e => by
  rw [upd_ne n]
  exact e
theorem Keep.same {d : Addr} {H H' : Hp} (s : Same H H') : Keep d H H' := fun b u _ e => s b u e
theorem same_new {H : Hp} {p : Addr} {o : HO} (h : H p = none) : Same H (upd H p o) := fun b u e => by
  rw [upd_ne (ne_of_none e h)]
  exact e
theorem ne_txt : ¬ (("cells" : Str) = "count") ∧ ¬ (("cells" : Str) = "left") ∧ ¬ (("count" : Str) = "left") ∧ ¬ (("count" : Str) = "cells") ∧ ¬ (("left" : Str) = "cells") ∧ ¬ (("left" : Str) = "count") := by decide +kernel
/-- what the pen's dict holds -/
def penK (p : Addr) (c l : Int) : List (Key × V) := [(Sum.inr "cells", V.ref p), (Sum.inr "count", V.int c), (Sum.inr "left", V.int l)]
theorem pen_cells (p : Addr) (c l : Int) : valV (penK p c l) (Sum.inr "cells" : Key) = some (.ref p) := valV_pos rfl
theorem pen_count (p : Addr) (c l : Int) : valV (penK p c l) (Sum.inr "count" : Key) = some (.int c) := by
  unfold penK
  rw [valV_neg (fun e => ne_txt.1 (Sum.inr.inj e)), valV_pos rfl]
theorem pen_left (p : Addr) (c l : Int) : valV (penK p c l) (Sum.inr "left" : Key) = some (.int l) := by
  unfold penK
  rw [valV_neg (fun e => ne_txt.2.1 (Sum.inr.inj e)), valV_neg (fun e => ne_txt.2.2.1 (Sum.inr.inj e)), valV_pos rfl]
theorem key_dec {a b : Str} (h : ¬ a = b) : decide ((Sum.inr a : Key) = Sum.inr b) = false := decide_eq_false fun e => h (Sum.inr.inj e)
theorem put_count (p : Addr) (c l c' : Int) : putK (penK p c l) (Sum.inr "count" : Key) (.int c') = penK p c' l := by
  unfold penK putK
  simp [key_dec ne_txt.1, key_dec ne_txt.2.2.1, key_dec ne_txt.2.2.2.2.2, ne_txt]
theorem put_left (p : Addr) (c l l' : Int) : putK (penK p c l) (Sum.inr "left" : Key) (.int l') = penK p c l' := by
  unfold penK putK
  simp [key_dec ne_txt.2.1, key_dec ne_txt.2.2.1, ne_txt]
/-- the pen stands at d: at most B draws were begun -/
structure Pen (H : Hp) (d : Addr) (B : Int) : Prop where
  ex : ∃ (p : Addr) (ns : List Int) (c l : Int), H d = some (.dK (penK p c l)) ∧ H p = some (.lst (ns.map V.int)) ∧ ns.length ≤ 63 ∧ 0 ≤ c ∧ c ≤ B
theorem Pen.mono {H : Hp} {d : Addr} {B B' : Int} (h : Pen H d B) (z : B ≤ B') : Pen H d B' := by
  obtain ⟨p, ns, c, l, a, b, e, f, g⟩ := h.ex
  exact ⟨p, ns, c, l, a, b, e, f, by omega⟩
theorem Pen.same {H H' : Hp} {d : Addr} {B : Int} (h : Pen H d B) (s : Same H H') : Pen H' d B := by
  obtain ⟨p, ns, c, l, a, b, e, f, g⟩ := h.ex
  exact ⟨p, ns, c, l, s _ _ a, s _ _ b, e, f, g⟩
end Own

/-! from L06 -/
namespace Own
open PySem PySem.Spec PyProof.Rows L2 LamX NdefX
/-- the integers that stand as defaults -/
def dInts : List Expr → List Int
  | .Constant (.int i) _ _ :: r => i :: dInts r
  | _ => []
/-- the tuple of defaults -/
def DfV (H : Hp) (dV : Value) (ds : List Int) : Prop := (ds = [] ∧ dV = .none) ∨ (ds ≠ [] ∧ ∃ T : Addr, dV = .ref T ∧ H T = some (.tup (ds.map V.int)))
def DfIn (h : Heap) (dV : Value) (us : List Value) : Prop := (us = [] ∧ dV = .none) ∨ (us ≠ [] ∧ ∃ T : Addr, dV = .ref T ∧ IsTup h T us.toArray)
/-- a lambda's words in F (its body apart), its defaults dV -/
abbrev lamFd (F : NF) (b : Expr) (dV doc pm ctv : Value) : FuncData := PySem.W.kdv_fn F.name F.qual F.params (.expr b) F.scope F.cl dV doc pm (.ref F.c) ctv
def LamO (f : Addr) (F : NF) (b : Expr) (dV : Value) : HO := .ext fun h => ∃ doc pm ctv : Value, h.get? f = some ({ cls := .type "function", data := .func (lamFd F b dV doc pm ctv) } : Obj)
/-- at f stands the lambda F, whose body is b -/
def LamAt (H : Hp) (f : Addr) (F : NF) (b : Expr) : Prop := ∃ dV : Value, H f = some (LamO f F b dV) ∧ DfV H dV (dInts F.params.defaults)
theorem lamO_ne {f : Addr} {F : NF} {b : Expr} {dV : Value} (ps : Array Value) : LamO f F b dV ≠ .tbl ps := fun z => by
  unfold LamO at z
  cases z
theorem LamAt.ext {H H' : Hp} {f : Addr} {F : NF} {b : Expr} (h : LamAt H f F b) (e : ExtN H H') : LamAt H' f F b := by
  obtain ⟨dV, h1, h2⟩ := h
  refine ⟨dV, e _ _ h1 lamO_ne, ?_⟩
  rcases h2 with z | ⟨n, T, z, q⟩
  · exact .inl z
  · exact .inr ⟨n, T, z, e _ _ q fun ps z => by cases z⟩
theorem lamO_at {P : Program} {w : World} {H : Hp} {h : Heap} {f : Addr} {F : NF} {b : Expr} (hok : HOk P w H h) (e : LamAt H f F b) :
    ∃ dV doc pm ctv : Value, h.get? f = some ({ cls := .type "function", data := .func (lamFd F b dV doc pm ctv) } : Obj) ∧ ∃ us : List Value, Vals ((dInts F.params.defaults).map V.int) us ∧ DfIn h dV us := by
  obtain ⟨dV, h1, h2⟩ := e
  obtain ⟨doc, pm, ctv, z⟩ := (hok f _ h1).1
  refine ⟨dV, doc, pm, ctv, z, ?_⟩
  rcases h2 with ⟨n, z⟩ | ⟨n, T, z, q⟩
  · rw [n]
    exact ⟨[], .nil, .inl ⟨rfl, z⟩⟩
  · obtain ⟨_, its, r, p⟩ := hok T _ q
    refine ⟨its, r, .inr ⟨fun z => ?_, T, z, p⟩⟩
    rw [z] at r
    cases hd : dInts F.params.defaults with
    | nil => exact n hd
    | cons a l =>
      rw [hd] at r
      cases r
section
variable {X : Cx} {pins : List (Addr × Obj)} {σ : L2.St} {H : Hp} {s : Shared}
theorem lam_laid {F : NF} {b : Expr} {dV doc pm ctv : Value} {t' : Nat} (I : Inv X pins σ H s) :
    Inv X pins σ (upd H s.heap.objs.size (LamO s.heap.objs.size F b dV)) { s with heap := s.heap.push ({ cls := .type "function", data := .func (lamFd F b dV doc pm ctv) } : Obj), toks := t' } := by
  have e : (s.heap.push ({ cls := .type "function", data := .func (lamFd F b dV doc pm ctv) } : Obj)).get? s.heap.objs.size = some ({ cls := .type "function", data := .func (lamFd F b dV doc pm ctv) } : Obj) := Heap.get?_push_size _ rfl
  exact I.laid (fun _ _ z => Heap.get?_push_of_some _ z) (Nat.le_refl _) ⟨⟨doc, pm, ctv, e⟩, ⟨_, e⟩, fun _ _ ⟨d, p, c, z⟩ k => ⟨d, p, c, k _ z⟩⟩
/-- the words of the lambda that X makes: c' its code object -/
abbrev lamF (X : Cx) (params : Arguments) (scope : Scope) (c' : Addr) : NF := ⟨"<lambda>", X.env.qual ++ "<lambda>", params, [], scope, cloFrom X.env.cells scope.names [], c'⟩
/-- a lambda made, its defaults laid, and known from now on -/
theorem lam_tail {T : List (Addr × Str)} {c P : Addr} {params : Arguments} {body : Expr} {scope : Scope} {pos : Pos} {fl : Nat} {dV : Value} {E Q : Value → Shared → Prop} (I : Inv X pins σ H s) (TB : TabB X.base X.mg c P) (hcode : X.env.code = .ref c)
    (hm : (P, X.env.qual ++ "<lambda>") ∈ T) (hu : ∀ p ∈ T, p.1 = P → p.2 = X.env.qual ++ "<lambda>") (hT : Tabs T H) (hfree : ∀ y ∈ scope.names, y.2 = .free → ∃ c, X.env.cells.lookup y.1 = some c)
    (k : ∀ (f c' : Addr) (H1 : Hp) (s' : Shared), Inv X pins σ H1 s' → ExtN H H1 → Tabs T H1 → H f = none → H1 f = some (LamO f (lamF X params scope c') body dV) → H1 c' = some (CodeO c' (X.env.qual ++ "<lambda>")) → Q (.ref f) s') :
    wpAny (model X.prog X.w) X.A (makeTail "<lambda>" (X.env.qual ++ "<lambda>") params (.expr body) scope X.env dV .none none pos fl) Q E s := by
  have hTP := hT (P, X.env.qual ++ "<lambda>") hm
  obtain ⟨ps, hP, trip, among⟩ := hTP
  have oP : s.heap.get? P = some { cls := .none, data := .fields ps } := I.hok P _ hP
  have bl := TB.bm.keeps I.bk
  have gl := I.mod.glob.keeps I.bk
  have cd := TB.code.keeps I.bk
  rcases hc : codeAmong pos ps.toList with _ | cv
  · refine PySem.W.kdv_makeTail (closure_ok hfree) I.ok.glob gl hcode cd oP trip hc TB.gP bl ?_
    intro c' ctv doc h' tk hx hge hlt hrec htb
    obtain ⟨c0, oc, vs, t, hc0, hoc, hdc, hvc⟩ := hrec
    obtain rfl : c0 = c' := (Value.ref.inj hc0).symm
    have fresh : H c0 = none := I.hok.fresh hge
    have I1 := inv_table (t' := tk) (q := X.env.qual ++ "<lambda>") (h' := h') I hP (fun b o n e => hx b o n e) htb hge ⟨oc, vs, t, hoc, hdc, hvc⟩
    generalize eH1 : upd (upd H P (.tbl (ps ++ #[rawInt pos.line, rawInt pos.col, .ref c0]))) c0 (CodeO c0 (X.env.qual ++ "<lambda>")) = H1 at I1
    have at1 : H1 c0 = some (CodeO c0 (X.env.qual ++ "<lambda>")) := by rw [← eH1]; exact upd_same
    have ext1 : ExtN H H1 := fun b o e n => by
      have b1 : b ≠ c0 := ne_of_none e fresh
      have b2 : b ≠ P := fun z => n ps (Option.some.inj (e.symm.trans (z ▸ hP)))
      rw [← eH1, upd_ne b1, upd_ne b2]
      exact e
    have tabs1 : Tabs T H1 := fun p hp => by
      by_cases hb : p.1 = P
      · have hq := hu p hp hb
        rw [hq, hb]
        refine ⟨ps ++ #[rawInt pos.line, rawInt pos.col, .ref c0], ?_, ?_, fun p' cv hcv => ?_⟩
        · rw [← eH1, upd_ne (ne_of_none hP fresh), upd_same]
        · rw [Array.toList_append]
          exact PySem.TriplesOk_snoc _ _ _ _ trip
        · rw [Array.toList_append] at hcv
          rcases among_app _ trip hcv with z | z
          · obtain ⟨c1, a1, a2⟩ := among p' cv z
            exact ⟨c1, a1, ext1 _ _ a2 codeO_ne⟩
          · exact ⟨c0, z, at1⟩
      · obtain ⟨qs, a1, a2, a3⟩ := hT p hp
        refine ⟨qs, ?_, a2, fun p' cv hcv => ?_⟩
        · rw [← eH1, upd_ne (ne_of_none a1 fresh), upd_ne hb]
          exact a1
        · obtain ⟨c1, b1, b2⟩ := a3 p' cv hcv
          exact ⟨c1, b1, ext1 _ _ b2 codeO_ne⟩
    have nf1 : H1 h'.objs.size = none := I1.hok.fresh (Nat.le_refl _)
    have I2 := lam_laid (F := lamF X params scope c0) (b := body) (dV := dV) (doc := doc) (pm := (X.mg "__name__").getD .none) (ctv := ctv) (t' := tk) I1
    have up : ∀ b o, H1 b = some o → upd H1 h'.objs.size (LamO h'.objs.size (lamF X params scope c0) body dV) b = some o := fun b o e => (upd_ne (ne_of_none e nf1)).trans e
    exact k _ c0 _ _ I2 (ext1.trans (ExtN.of up)) (tabs1.ext up) (I.hok.fresh (Nat.le_trans hge (Nat.le_of_lt hlt))) upd_same (up _ _ at1)
  · obtain ⟨c', rfl, at0⟩ := among pos cv hc
    refine PySem.W.kdv_makeTailHit (closure_ok hfree) I.ok.glob gl hcode cd oP trip hc bl ?_
    intro ctv doc h' tk hx hsz
    have I1 : Inv X pins σ H { s with heap := h', toks := tk } := I.kept hx
    have nf1 : H h'.objs.size = none := I1.hok.fresh (Nat.le_refl _)
    have I2 := lam_laid (F := lamF X params scope c') (b := body) (dV := dV) (doc := doc) (pm := (X.mg "__name__").getD .none) (ctv := ctv) (t' := tk) I1
    have up : ∀ b o, H b = some o → upd H h'.objs.size (LamO h'.objs.size (lamF X params scope c') body dV) b = some o := fun b o e => (upd_ne (ne_of_none e nf1)).trans e
    exact k _ c' _ _ I2 (ExtN.of up) (hT.ext up) nf1 upd_same (up _ _ at0)
/-- the reading of a lambda as a value -/
def tLamV (X : Cx) (T : List (Addr × Str)) (params : Arguments) (body : Expr) (scope : Scope) : TE := fun _ H Q => Tabs T H ∧ ∀ (f c' : Addr) (H1 : Hp), ExtN H H1 → Tabs T H1 → H f = none →
  LamAt H1 f (lamF X params scope c') body → H1 c' = some (CodeO c' (X.env.qual ++ "<lambda>")) → Q (.ref f) H1
theorem pe_lamV {T : List (Addr × Str)} {c P : Addr} {params : Arguments} {body : Expr} {scope : Scope} {pos : Pos} (TB : TabB X.base X.mg c P) (hcode : X.env.code = .ref c) (hm : (P, X.env.qual ++ "<lambda>") ∈ T)
    (hu : ∀ p ∈ T, p.1 = P → p.2 = X.env.qual ++ "<lambda>") (hdef : params.defaults = []) (hkd : params.kw_defaults = []) (hfr : ∀ y ∈ scope.names, y.2 = .free → X.env.scope.names.lookup y.1 = some .cell ∨ X.env.scope.names.lookup y.1 = some .free) :
    PE X (.Lambda params body scope pos) (tLamV X T params body scope) := by
  refine ⟨fun pins s σ H Q I h => PySem.W.kla_eval ?_ ?_⟩
  · rw [defaultsOf_eq, hdef, hkd]
    rfl
  rw [makeFunction_eq]
  simp only [List.zip_nil_right, List.filterMap_nil, List.isEmpty_nil, if_true, pure_bind]
  refine lam_tail I TB hcode hm hu h.1 (fun y hy e => ?_) fun f c' H1 s' I1 e1 t1 n1 a1 b1 => ⟨.ref f, H1, I1, rfl, h.2 f c' H1 e1 t1 n1 ⟨.none, a1, .inl ⟨by show dInts params.defaults = []; rw [hdef] <;> rfl, rfl⟩⟩ b1⟩
  rcases hfr y hy e with z | z
  · exact I.ok.has _ (.inl z)
  · exact I.ok.has _ (.inr z)
/-- .. with one integer as default -/
theorem pe_lamV1 {T : List (Addr × Str)} {c P : Addr} {params : Arguments} {body : Expr} {scope : Scope} {pos p1 : Pos} {i : Int} {j : Nat} (TB : TabB X.base X.mg c P) (hcode : X.env.code = .ref c) (hm : (P, X.env.qual ++ "<lambda>") ∈ T)
    (hu : ∀ p ∈ T, p.1 = P → p.2 = X.env.qual ++ "<lambda>") (hdef : params.defaults = [.Constant (.int i) j p1]) (hkd : params.kw_defaults = []) (hfr : ∀ y ∈ scope.names, y.2 = .free → X.env.scope.names.lookup y.1 = some .cell ∨ X.env.scope.names.lookup y.1 = some .free) :
    PE X (.Lambda params body scope pos) (tLamV X T params body scope) := by
  refine ⟨fun pins s σ H Q I h => PySem.W.kdv_lam (by rw [hdef]; rfl) hkd ?_⟩
  rw [hdef]
  refine PySem.W.kdv_all1 (thn ((pe_int (X := X) (i := i) (j := j) (pos := p1)).run pins s σ H (fun v H1 => v = .int i ∧ H1 = H) I ⟨rfl, rfl⟩) ?_)
  rintro u s1 ⟨v, H1, I1, r1, rfl, rfl⟩
  refine PySem.W.kdv_all0 ?_
  rw [makeFunction_eq]
  simp only [List.zip_nil_right, List.filterMap_nil, List.isEmpty_nil, List.isEmpty_cons, if_true, pure_bind, Bool.false_eq_true, if_false]
  refine wpAny_bind (wpAny_newTextTuple ?_)
  have nT : H1 s1.heap.objs.size = none := I1.hok.fresh (Nat.le_refl _)
  have I2 : Inv X pins σ (upd H1 s1.heap.objs.size (.tup [.int i])) { s1 with heap := s1.heap.push { cls := .type "tuple", data := .seq [u].toArray } } :=
    I1.laid (t' := s1.toks) (fun _ _ z => Heap.get?_push_of_some _ z) (Nat.le_refl _) ⟨by show 1 ≤ sizeLine; decide, [u], .cons r1 .nil, IsTup.new s1.heap _⟩
  have up : ∀ b o, H1 b = some o → upd H1 s1.heap.objs.size (HO.tup [V.int i]) b = some o := fun b o e => (upd_ne (ne_of_none e nT)).trans e
  refine lam_tail I2 TB hcode hm hu (h.1.ext up) (fun y hy e => ?_) fun f c' H2 s' I3 e1 t1 n1 a1 b1 => ⟨.ref f, H2, I3, rfl, h.2 f c' H2 ((ExtN.of up).trans e1) t1 ?_ ⟨_, a1, .inr ⟨?_, _, rfl, ?_⟩⟩ b1⟩
  · rcases hfr y hy e with z | z
    · exact I.ok.has _ (.inl z)
    · exact I.ok.has _ (.inr z)
  · cases q : H1 f with
    | none => rfl
    | some o => exact (Option.some_ne_none _ ((up _ _ q).symm.trans n1)).elim
  · show dInts params.defaults ≠ []
    rw [hdef]
    simp [dInts]
  · show H2 s1.heap.objs.size = some (.tup ((dInts params.defaults).map V.int))
    rw [hdef]
    exact e1 _ _ upd_same fun ps z => by cases z
end
/-! ### what a lambda promises -/
structure LOk (P : Program) (w : World) (K : PySem.W.Frag) (mg : Str → Option Value) (base : Heap) (CX : CXT) (k : Nat) (f : Addr) (F : NF) (b : Expr) (fr : List Str) (sp : List (Option V) → Hp → VK → XK → Prop) : Prop where
  run : ∀ (A : Around) (outer : List Env) (s : Shared) (H : Hp) (ws : List (Option V)) (Q : VK) (E : XK), Room k A → Env0 P w K mg base A outer s H → LamAt H f F b → H F.c = some (CodeO F.c F.qual) →
    CellsAt F.cl fr ws s.heap H → sp ws H Q E → codeAny (model P w) A (.call (.ref f) ⟨[], []⟩) (CR CX outer P w H s Q E) s
section
variable {CX : CXT} {P : Program} {w : World} {K : PySem.W.Frag} {mg : Str → Option Value} {base : Heap} {N ps fr : List Str} {F : NF} {b : Expr} {f : Addr} {k : Nat} {sp : List (Option V) → Hp → VK → XK → Prop}
theorem lok_of (S : NScope N ps fr F.scope) (hl : (dInts F.params.defaults).length = ps.length)
    (hb : ∀ (dV doc pm ctv : Value) (s : Shared) (us : List Value), us.length = ps.length → DfIn s.heap dV us → BindsTo s (lamFd F b dV doc pm ctv) ⟨[], []⟩ (ps.zip us))
    (hbody : ∀ (A : Around) (outer : List Env) (s : Shared) (H : Hp) (ws : List (Option V)) (Q : VK) (E : XK), Room k (A.deeper (envF F f s.heap.objs.size)) → ws.length = fr.length → sp ws H Q E →
      ∃ t, PE (ncx CX P w K mg base N F f A outer s H E) b t ∧ t (startF N ((dInts F.params.defaults).map V.int) ws) H Q) : LOk P w K mg base CX (k + 1) f F b fr sp := by
  refine ⟨fun A outer s H ws Q E hr e0 hf hc C hsp => ?_⟩
  have lim : s.heap.NoLimit := e0.mod.nolimit.keeps fun b o e => (e0.bs b o e).1
  obtain ⟨dV, doc, pm, ctv, ho, us, rus, hd⟩ := lamO_at e0.hok hf
  have hlu : us.length = ps.length := by rw [← rus.length, List.length_map, hl]
  refine PySem.W.kla_callFunE hr.depth ho rfl S.co S.gen rfl (codeO_at e0.hok hc) ?_
  refine hb dV doc pm ctv s us hlu hd _ _ _ _ ?_
  refine wpAny_newFunctionEnv S.nocell (fun ⟨n, v⟩ hy => S.par n (List.of_mem_zip hy).1) (fun h₁ hns hsb => ⟨lim.fresh _ hsb, ?_⟩) S.kind
  show codeAny _ _ (.expr b (envF F f s.heap.objs.size)) _ _
  obtain ⟨t, ht, hq⟩ := hbody A outer s H ws Q E (hr.deeper _) C.len hsp
  have old : ∀ b o, s.heap.get? b = some o → h₁.get? b = some o := fun b o e => hsb.extBut b o (Nat.ne_of_lt (Heap.lt_size e)) (Heap.get?_push_of_some _ e)
  have I := inv_startN (CX := CX) (N := N) (F := F) (f := f) (E := E) (us := us) (vs := (dInts F.params.defaults).map V.int) (tk := s.toks + (ps.zip us).length) S hr.hd e0 (by rw [List.length_map, hl]) rus C hns old
  refine PySem.W.kla_codeExpr (wpAny_mono (ht.run [] _ _ H Q I hq) (fun v s' q => ?_) fun e s' q => q)
  obtain ⟨x, H', J, rx, q⟩ := q
  exact ⟨x, H', J.os, J.bare, J.base, J.hok, rx, q⟩
end
end Own

/-! from M06 -/
namespace Own
open PySem PySem.Spec PyProof.Rows L2 LamX NdefX
section
variable {X : Cx} {pins : List (Addr × Obj)} {σ : L2.St} {H : Hp} {s : Shared} {cl : List (Str × Addr)} {fr : List Str} {ws : List (Option V)}
/-- what captured cells held at the entry they hold still -/
theorem cells_still (C : CellsAt cl fr ws X.s_0.heap X.H_0) (hx : ∀ b, b ∉ X.ex ∨ ∀ y, cl.lookup y ≠ some b) (I : Inv X pins σ H s) : CellsAt cl fr ws s.heap H := by
  have nx : ∀ {y c}, cl.lookup y = some c → c ∉ X.ex := fun {y c} e => (hx c).elim id fun z => absurd e (z y)
  have still : ∀ {y c v}, cl.lookup y = some c → X.s_0.heap.IsCell c v → s.heap.IsCell c v := fun {y c v} e ⟨o, ho, hd⟩ => by
    obtain ⟨sl, z⟩ := I.base.any ho (C.all y c e).1 (nx e)
    exact ⟨_, z, hd⟩
  constructor
  · exact C.len
  · intro y c e
    obtain ⟨n, v, z⟩ := C.all y c e
    obtain ⟨o, ho, _⟩ := id z
    exact ⟨I.base.free c o ho n (nx e), v, still e z⟩
  · exact C.inj
  · intro i y e
    obtain ⟨c, hc, hv⟩ := C.has i y e
    refine ⟨c, hc, fun v ev => ?_⟩
    obtain ⟨u, r, z⟩ := hv v ev
    exact ⟨u, r, still hc z⟩
/-- the call of a made lambda -/
theorem run_lam {CX : CXT} {k : Nat} {f : Addr} {F : NF} {b : Expr} {sp : List (Option V) → Hp → VK → XK → Prop} {Q : VK} {E : XK} (G : LOk X.prog X.w X.K X.mg X.base CX k f F b fr sp) (hr : Room k X.A) (hx : Passes CX X E) (I : Inv X pins σ H s)
    (hf : LamAt H f F b) (hc : H F.c = some (CodeO F.c F.qual)) (C : CellsAt F.cl fr ws s.heap H) (q : sp ws H Q E) : wpAny (model X.prog X.w) X.A (call (.ref f) []) (EP X pins σ Q) X.xe s := by
  refine wpAny_call (codeAny_mono (G.run _ _ _ _ _ _ _ hr I.env0 hf hc C q) fun r s' z => ?_)
  rcases r with e | fl
  · exact hx pins σ H s e s' I z
  · cases fl
    case ret u => exact I.after z
    all_goals exact False.elim z
/-- deed(), deed a name whose slot holds a lambda; what it captured is known at the entry of this very def -/
theorem pe_deed {CX : CXT} {k i : Nat} {f : Addr} {F : NF} {b : Expr} {sp : List (Option V) → Hp → VK → XK → Prop} {E : XK} {a : Str} {p1 p2 : Pos} (C : CellsAt F.cl fr ws X.s_0.heap X.H_0) (hex : X.ex = []) (G : LOk X.prog X.w X.K X.mg X.base CX k f F b fr sp) (hr : Room k X.A)
    (hx : Passes CX X E) (hN : X.N[i]? = some a) (hv : Vis X.env.scope a) (hd : (a == ("__debug__" : Str)) = false := by decide) (hcd : (a == ("__classdict__" : Str)) = false := by decide) :
    PE X (.Call (.Name a p1) [] [] p2) (fun σ H Q => σ[i]? = some (some (.ref f)) ∧ LamAt H f F b ∧ H F.c = some (CodeO F.c F.qual) ∧ sp ws H Q E) := by
  constructor
  intro pins s σ H Q I h
  obtain ⟨hs, hf, hc, q⟩ := h
  refine wpAny_Call_Name_kw (thn ((pe_var (pos := p1) hN hv hd hcd).run pins s σ H (fun v H1 => v = .ref f ∧ H1 = H) I ⟨.ref f, hs, rfl, rfl⟩) ?_)
  rintro u s1 ⟨v, H1, I1, r1, rfl, rfl⟩
  obtain rfl : u = Value.ref f := r1
  obtain ⟨dV, doc, pm, ctv, ho, _⟩ := lamO_at I1.hok hf
  refine PySem.W.callWith_F0 ⟨_, _, _, _, ho⟩ ?_
  exact run_lam G hr hx I1 hf hc (cells_still C (fun _ => .inl (by rw [hex]; simp)) I1) q
end
section
variable {X : Cx}
/-- a list comprehension's reading, the element's depending on the def's slots as the block begins -/
def tLcD (wi : TI) (g : TG) (te : L2.St → TE) (vs : List Nat) : TE := fun σ H Q => tLc wi g tYes (te σ) vs σ H Q
theorem pe_lcD {elt tg iter : Expr} {scope : Scope} {own : List (Str × Nat)} {pos : Pos} {wi : TI} {g : TG} {te : L2.St → TE} (hc : X.calm = true) (hN : X.N.Nodup) (hi : PI X tg iter wi) (ok : BlkOk X.N X.env.scope scope own)
    (hg : ∀ (s : Shared) (H : Hp) (C : Addr) (cl : List (Str × Addr)) (fp : List Addr), PG (X.blk s H scope (compEnvC scope cl C X.env) fp) tg g)
    (he : ∀ (pins : List (Addr × Obj)) (σ : L2.St) (s : Shared) (H : Hp) (C : Addr) (cl : List (Str × Addr)) (fp : List Addr), Inv X pins σ H s → (∀ b ∈ fp, FpOk X pins H b) → PE (X.blk s H scope (compEnvC scope cl C X.env) fp) elt (te σ))
    (hs : ∀ x, foldedSetIterable iter X.env x = pure x := by intro _; rfl) : PE X (.ListComp elt [⟨tg, iter, [], 0⟩] scope pos) (tLcD wi g te (own.map (·.2))) := by
  constructor
  intro pins s σ H Q I h
  have cap : ∀ y ∈ scope.names, y.2 = .free → ∃ c, X.env.cells.lookup y.1 = some c := fun y hy e => (ok.free y hy e).elim (fun z => I.ok.has _ (.inl z)) (fun z => I.ok.has _ (.inr z))
  rw [eval_ListComp]
  refine wpAny_comprehension_free (use := none) rfl hs (closure_ok cap) ok.kind (fun y hy e => (ok.uniq y hy).trans (congrArg some e)) ?_
  refine thn (hi.run pins s σ H _ I h) fun itr sA hA => thn hA fun _ sB hB => ?_
  obtain ⟨it, fp, tn, J, HB, rfl, IB, T, tB, fB, q⟩ := hB
  have nD : HB sB.heap.objs.size = none := IB.hok.fresh (Nat.le_refl _)
  obtain ⟨W, ⟨m0, w0⟩, turn⟩ := q _ nD
  refine wpAny_newObj_type (newEnv_comp ?_) (by show 0 ≤ sizeLine; decide)
  have inSz : ∀ b ∈ fp, b < sB.heap.objs.size := fun b hb => (T.obj _ _ tB b hb).elim fun _ z => Heap.lt_size z.1
  -- the new list stands
  generalize hsC : ({ sB with heap := sB.heap.push { cls := .type "list", data := .seq ([] : List Value).toArray } } : Shared) = sC
  have heapC : sC.heap = sB.heap.push { cls := .type "list", data := .seq ([] : List Value).toArray } := by subst hsC; rfl
  have toC : ∀ b o, sB.heap.get? b = some o → sC.heap.get? b = some o := fun b o z => by rw [heapC]; exact Heap.get?_push_of_some _ z
  generalize hD : sB.heap.objs.size = D at nD w0 turn inSz
  have IC : Inv X pins σ (upd HB D (.lst [])) sC := by
    have z := IB.laid (a := D) (o := .lst []) (t' := sB.toks) (h' := sC.heap) toC (Nat.le_of_eq hD) ⟨Nat.zero_le _, [], 0, .nil, by rw [heapC, ← hD]; exact Heap.get?_push_size _ rfl⟩
    subst hsC
    exact z
  generalize hHC : upd HB D (.lst []) = HC at IC w0
  have fC : ∀ b ∈ fp, FpOk X pins HC b ∧ b < sC.heap.objs.size := fun b hb => by
    have lt := inSz b hb
    refine ⟨⟨?_, (fB b hb).2⟩, ?_⟩
    · rw [← hHC, upd_ne (Nat.ne_of_lt lt)]
      exact (fB b hb).1
    · rw [heapC, Heap.size_push, hD]
      exact Nat.lt_succ_of_lt lt
  have tC : tn 0 sC.heap := T.keep _ _ _ tB fun b _ o z => toC b o z
  have blk := block_start IC ok hN fC
  generalize hcl : cellsFrom (sC.heap.objs.size + 1) scope.names (cloFrom X.env.cells scope.names []) = cells at blk ⊢
  have hgB := hg sC HC sC.heap.objs.size cells fp
  have heB := he pins σ sC HC sC.heap.objs.size cells fp IC (fun b hb => (fC b hb).1)
  have htB : PTs (X.blk sC HC scope (compEnvC scope cells sC.heap.objs.size X.env) fp) [] tYes := pts_nil
  show codeAny _ _ (.compStart (.ListComp elt [⟨tg, iter, [], 0⟩] scope pos) 0 (.ref it) (.ref D) (compEnvC scope cells sC.heap.objs.size X.env)) (compPost (model X.prog X.w) X.A X.xe none (EP X pins σ Q) (.ref D) sC.heap.objs.size) { sC with heap := pushCells (sC.heap.push { cls := .type "dict", data := .dict #[] }) scope.names }
  generalize hce : compEnvC scope cells sC.heap.objs.size X.env = ce at blk hgB heB htB ⊢
  have ceL : ce.locals = sC.heap.objs.size := by rw [← hce]; rfl
  generalize hsE : ({ sC with heap := pushCells (sC.heap.push { cls := .type "dict", data := .dict #[] }) scope.names } : Shared) = sE at blk ⊢
  have tE : tn 0 sE.heap := T.keep _ _ _ tC fun b _ o z => by rw [← hsE]; exact pushCells_keeps _ _ _ _ (Heap.get?_push_of_some _ z)
  -- the iterator's objects as the block sees them
  have seen : ∀ {σ' : L2.St} {H' : Hp} {s' : Shared}, Inv (X.blk sC HC scope ce fp) [] σ' H' s' → (∀ b ∈ fp, H' b = none) → ∀ b ∈ fp, FpOk (X.blk sC HC scope ce fp) [] H' b := fun {σ' H' s'} J' n b hb => by
    have z1 := J'.ok.exf b hb
    exact ⟨n b hb, z1.1, J'.ok.exfs b hb, .inl hb, z1.2, fun p hp => absurd (show p ∈ ([] : List (Addr × Obj)) ++ [] from hp) (by simp)⟩
  have whole : codeAny (model X.prog X.w) X.A (.compLoop (.ListComp elt [⟨tg, iter, [], 0⟩] scope pos) 0 (.ref it) (.ref D) ce) (compPost (model X.prog X.w) X.A X.xe none (EP X pins σ Q) (.ref D) sC.heap.objs.size) sE := by
    refine compLoop_any (fun n s' => ∃ (i : Nat) (H' : Hp), W i n H' ∧ (∀ b ∈ fp, H' b = none) ∧ tn i s'.heap ∧ Inv (X.blk sC HC scope ce fp) [] (wipe σ (own.map (·.2))) H' s') ?_ m0 ⟨0, HC, w0, fun b hb => (fC b hb).1.1, tE, blk⟩
    rintro n sF ⟨i, HF, wF, nF, tF, IF⟩
    rcases turn i n HF wF with ⟨hstop, hq⟩ | ⟨hgo, Nx, hNx, step⟩
    · have fin := T.done (X.blk sC HC scope ce fp) rfl rfl rfl hc i [] sF _ HF (fun _ _ => False) IF (seen IF nF) tF hstop
      refine thnF fin ?_
      rintro _ sG ⟨rfl, IG⟩
      have IX : Inv X pins σ HF sG := IC.call' (ch := fp) IG.os IG.base IG.hok IG.bare fun b hb => by
        obtain ⟨⟨_, a1, a2, a3, a4, a5⟩, _⟩ := fC b hb
        exact ⟨a3, a1, a4, a5⟩
      have free : HF sC.heap.objs.size = none := by
        have z : HF ce.locals = none := IG.free
        rw [← ceL]
        exact z
      obtain ⟨m, hn, _⟩ := IG.loc
      have hn : sG.heap.Ns ce.locals m := hn
      rw [ceL] at hn
      obtain ⟨f0, f1, f2, f3, f4, f5⟩ := IC.fpOk (H' := HF) (Nat.le_refl _) free
      exact ⟨m, hn, fun h2 sb => ⟨.ref D, HF, IX.turned (t' := sG.toks) (fun b o hb e => (sb.2 b hb).trans e) f0 f1 f3 f4 f5, rfl, hq⟩⟩
    · have nxt := T.item (X.blk sC HC scope ce fp) rfl rfl rfl hc i [] sF _ HF (fun _ _ => False) IF (seen IF nF) tF hgo
      refine thnF nxt ?_
      rintro _ sG ⟨u, rfl, hG⟩
      refine thnF hG ?_
      rintro _ sI ⟨x, HI, II, rI, yI, tI, nI⟩
      have pinned := II.pinned (seen II nI) (T.obj _ _ tI)
      refine thnF (hgB.run _ sI _ HI x u _ pinned rI (step x HI yI)) ?_
      rintro _ sJ ⟨σJ, HJ, IJ, hwJ, qJ⟩
      refine thnF (htB.run _ sJ σJ HJ _ IJ qJ) ?_
      rintro b sK ⟨HK, IK, qK⟩
      have again : ∀ {s' : Shared} {H' : Hp}, Inv (X.blk sC HC scope ce fp) ([] ++ pinsAt fp sI.heap) σJ H' s' → Nx H' → ∃ m, m < n ∧ ∃ (i : Nat) (H' : Hp), W i m H' ∧ (∀ b ∈ fp, H' b = none) ∧ tn i s'.heap ∧ Inv (X.blk sC HC scope ce fp) [] (wipe σ (own.map (·.2))) H' s' := fun {s' H'} J' hx => by
        obtain ⟨m', lt, w'⟩ := hNx H' hx
        have pn : ∀ b ∈ fp, ∀ o, sI.heap.get? b = some o → s'.heap.get? b = some o ∧ H' b = none := fun b hb o z => by
          have y := J'.pin (b, o) (List.mem_append_right _ (List.mem_append_right _ (mem_pinsAt hb z)))
          exact ⟨y.1, y.2.1⟩
        refine ⟨m', lt, i + 1, H', w', fun b hb => ?_, T.keep _ _ _ tI fun b hb o z => (pn b hb o z).1, ?_⟩
        · obtain ⟨o, z, _⟩ := T.obj _ _ tI b hb
          exact (pn b hb o z).2
        · refine (J'.unpinned (pins := [])).weak (by rw [← hwJ, wipe_length]) fun j v z => ?_
          rw [← hwJ] at z
          exact (wipe_some z).1
      cases b
      case false =>
        simp only [Bool.false_eq_true, if_false] at qK ⊢
        exact again IK qK
      case true =>
        simp only [if_true] at qK ⊢
        refine thnF (heB.run _ sK σJ HK _ IK qK) ?_
        rintro z sL ⟨y, HL, IL, rL, acc, hacc, hlen, hnx⟩
        exact app_ok (X := X.blk sC HC scope ce fp) IL hacc hlen rL fun sM IM => again IM hnx
  exact codeAny_compStart_list whole (T.self X.A 0 _ _ _ tE whole)
end
end Own

/-! from N06 -/
namespace Own
open PySem PySem.Spec PyProof.Rows L2 LamX NdefX
/-- a def of the text as its callers know it -/
structure DefOk (P : Program) (w : World) (K : PySem.W.Frag) (mg : Str → Option Value) (base : Heap) (CX : CXT) (x : Str) (k : Nat) (ps : List Str) (sp : Sp) : Prop where
  ex : ∃ (f : Addr) (fd : FuncData), FnOk P w K mg base CX k f fd ps sp ∧ mg x = some (.ref f) ∧ PySem.W.keepIn K (.ref f) = true ∧ Binds K fd ps []
/-- .. as the top has left it -/
structure At (K : PySem.W.Frag) (mg : Str → Option Value) (x : Str) (st : Stmt) (ps : List Str) : Prop where
  ex : ∃ (f : Addr) (fd : FuncData), Fun K x x st f fd ∧ mg x = some (.ref f) ∧ Binds K fd ps []
theorem At.ok {P : Program} {w : World} {K : PySem.W.Frag} {mg : Str → Option Value} {base : Heap} {CX : CXT} {x : Str} {st : Stmt} {k : Nat} {ps : List Str} {sp : Sp} (a : At K mg x st ps) (h : ∀ (f : Addr) (fd : FuncData), Fun K x x st f fd → FnOk P w K mg base CX k f fd ps sp) :
    DefOk P w K mg base CX x k ps sp := by
  obtain ⟨f, fd, F, g, b⟩ := a.ex
  exact ⟨f, fd, h f fd F, g, F.kp, b⟩
section
variable {X : Cx} {CX : CXT} {k j : Nat} {ps : List Str} {sp : Sp} {E : XK} {x : Str} {p pos : Pos} {e : Expr} {es : List Expr} {t : TA}
theorem pe_def (D : DefOk X.prog X.w X.K X.mg X.base CX x k ps sp) (hr : Room j X.A) (hj : k ≤ j) (hg : Gl X x) (hx : Passes CX X E) (ha : PA X (e :: es) t) (hdb : (x == ("__debug__" : Str)) = false := by decide)
    (he : starEach (e :: es) X.env = (false, eval e X.env) :: starEach es X.env := by rfl) (hpl : (backTo pos (starEach es X.env)).any (·.1) = false := by rfl) : PE X (.Call (.Name x p) (e :: es) [] pos) (tCall sp [] E t) := by
  obtain ⟨f, fd, F, g, kp, b⟩ := D.ex
  exact pe_call F (hr.mono hj) hg g kp b .nil hx ha hdb he hpl
theorem pe_def0 (D : DefOk X.prog X.w X.K X.mg X.base CX x k ps sp) (hr : Room j X.A) (hj : k ≤ j) (hg : Gl X x) (hx : Passes CX X E) (hdb : (x == ("__debug__" : Str)) = false := by decide) : PE X (.Call (.Name x p) [] [] pos) (tCall sp [] E tNil) := by
  obtain ⟨f, fd, F, g, kp, b⟩ := D.ex
  exact pe_call0 F (hr.mono hj) hg g kp b .nil hx hdb
end
/-- a def whose first argument is a lambda; sp: what it makes of the lambda's promise and of the other arguments -/
structure LamDef (P : Program) (w : World) (K : PySem.W.Frag) (mg : Str → Option Value) (base : Heap) (g : Addr) (k : Nat) (sp : (Hp → VK → XK → Prop) → List V → Hp → VK → Prop) : Prop where
  run : ∀ (A : Around) (outer : List Env) (s : Shared) (H : Hp) (us : List Value) (f : Addr) (vs : List V) (F : NF) (b : Expr) (fr : List Str) (ws : List (Option V)) (spl : List (Option V) → Hp → VK → XK → Prop) (kl : Nat) (Q : VK), Room k A → kl < k → Env0 P w K mg base A outer s H →
    Vals (.ref f :: vs) us → LOk P w K mg base (L2.CX P w) kl f F b fr spl → LamAt H f F b → H F.c = some (CodeO F.c F.qual) → CellsAt F.cl fr ws s.heap H → sp (spl ws) vs H Q →
    codeAny (model P w) A (.call (.ref g) ⟨us, []⟩) (CR CX0 outer P w H s Q E0) s
structure LamDefAt (P : Program) (w : World) (K : PySem.W.Frag) (mg : Str → Option Value) (base : Heap) (x : Str) (k : Nat) (sp : (Hp → VK → XK → Prop) → List V → Hp → VK → Prop) : Prop where
  ex : ∃ g : Addr, LamDef P w K mg base g k sp ∧ mg x = some (.ref g) ∧ PySem.W.keepIn K (.ref g) = true
/-- one of several lambdas: its words by its code object's address, its body, the captured names and their values, its promise -/
structure Lam where
  nf : Addr → NF
  b : Expr
  fr : List Str
  ws : List (Option V)
  sp : List (Option V) → Hp → VK → XK → Prop
def tLamCall {ι : Type} (L : ι → Lam) (sp : (Hp → VK → XK → Prop) → List V → Hp → VK → Prop) (t : TA) : TE := fun σ H Q => t σ H fun vs H1 => ∃ (i : ι) (f c' : Addr) (rest : List V), vs = .ref f :: rest ∧ LamAt H1 f ((L i).nf c') (L i).b ∧
  H1 ((L i).nf c').c = some (CodeO ((L i).nf c').c ((L i).nf c').qual) ∧ sp ((L i).sp (L i).ws) rest H1 Q
theorem pe_lamcall {ι : Type} {X : Cx} {L : ι → Lam} {k kl j : Nat} {sp : (Hp → VK → XK → Prop) → List V → Hp → VK → Prop} {x : Str} {p pos : Pos} {e : Expr} {es : List Expr} {t : TA} (D : LamDefAt X.prog X.w X.K X.mg X.base x k sp) (hkl : kl < k) (hr : Room j X.A) (hj : k ≤ j)
    (G : ∀ (i : ι) (f c' : Addr), LOk X.prog X.w X.K X.mg X.base (L2.CX X.prog X.w) kl f ((L i).nf c') (L i).b (L i).fr (L i).sp) (C : ∀ (i : ι) (c' : Addr), CellsAt ((L i).nf c').cl (L i).fr (L i).ws X.s_0.heap X.H_0) (hxc : ∀ (i : ι) (c' b : Addr), b ∉ X.ex ∨ ∀ y, ((L i).nf c').cl.lookup y ≠ some b)
    (hg : Gl X x) (ha : PA X (e :: es) t) (hdb : (x == ("__debug__" : Str)) = false := by decide) (he : starEach (e :: es) X.env = (false, eval e X.env) :: starEach es X.env := by rfl) (hpl : (backTo pos (starEach es X.env)).any (·.1) = false := by rfl) :
    PE X (.Call (.Name x p) (e :: es) [] pos) (tLamCall L sp t) := by
  obtain ⟨g, R, gm, kp⟩ := D.ex
  constructor
  intro pins s σ H Q I h
  refine wpAny_Call_Name_kw (ld_glob I hg gm ?_ hdb)
  refine PySem.W.callWith_K (h₀ := X.base) I.ok.mod.kin kp (thn (ha.run pos pins s σ H _ I h) ?_) he hpl
  rintro us s1 ⟨vs, H1, I1, r, i, f, c', rest, rfl, hf, hc, q⟩
  refine ⟨I1.kIn, wpAny_call (codeAny_mono (R.run X.A X.stack s1 H1 us f rest _ _ _ _ _ kl Q (hr.mono hj) hkl I1.env0 r (G i f c') hf hc (cells_still (C i c') (hxc i c') I1) q) fun z s' hz => ?_)⟩
  rcases z with er | fl
  · exact (show False from hz).elim
  · cases fl
    case ret u => exact I1.after hz
    all_goals exact False.elim hz
/-- what the def's own cells hold, told to a block that begins -/
theorem cells_blk {X : Cx} {pins : List (Addr × Obj)} {σ : L2.St} {H : Hp} {s : Shared} {scope : Scope} {fr : List Str} {js : List Nat} (I : Inv X pins σ H s) (hfree : ∀ y ∈ scope.names, y.2 = .free → X.env.scope.names.lookup y.1 = some .cell ∨ X.env.scope.names.lookup y.1 = some .free)
    (hfr : ∀ y ∈ fr, (y, NameKind.free) ∈ scope.names) (hjs : js.map (fun j => X.N[j]?) = fr.map some) : CellsAt (cloFrom X.env.cells scope.names []) fr (js.map (slotAt σ)) s.heap H := cells_of I (Caps.made I.ok hfree hfr hjs)
theorem cells_fp {X : Cx} {pins : List (Addr × Obj)} {σ : L2.St} {H : Hp} {s : Shared} {scope : Scope} {fp : List Addr} (I : Inv X pins σ H s) (hfree : ∀ y ∈ scope.names, y.2 = .free → X.env.scope.names.lookup y.1 = some .cell ∨ X.env.scope.names.lookup y.1 = some .free)
    (hfp : ∀ b ∈ fp, FpOk X pins H b) (b : Addr) : b ∉ fp ∨ ∀ y, (cloFrom X.env.cells scope.names []).lookup y ≠ some b := by
  by_cases hb : b ∈ fp
  · refine .inr fun y z => ?_
    have hf : ∀ y ∈ scope.names, y.2 = .free → ∃ c, X.env.cells.lookup y.1 = some c := fun y hy e => (hfree y hy e).elim (fun z => I.ok.has _ (.inl z)) fun z => I.ok.has _ (.inr z)
    exact (hfp b hb).2.2.2.2.1 y b (clo_cm hf z) rfl
  · exact .inl hb
end Own

/-! from S06 -/
namespace PySem.SeqAt
open AutoSeq1 (wpAny_loadPart')
open MeetsSeq
theorem own_str_dict0 (b : Str) (u : Tok) (l : Addr) (es : Array DictEntry) (ep : Nat) :
    Meets (Builtin.«str.__eq__» ⟨[.str b u, .ref l], []⟩) (fun _ R s => s.heap.get? l = some ({ cls := .type "dict", dict := none, data := .dict es ep, slots := #[] } : Obj) ∧ R (.ok (.ret .notImplemented)) s) :=
  .of_wp fun prog w A R s h => by
    obtain ⟨hp, g, d, tk, os⟩ := s
    obtain ⟨hl, h⟩ := h
    wp_walk using wpAny_loadPart' hl, wpAny_load hl
    exact ⟨_, rfl, h⟩
theorem own_dict_str0 (b : Str) (u : Tok) (l : Addr) (es : Array DictEntry) (ep : Nat) :
    Meets (Builtin.«dict.__eq__» ⟨[.ref l, .str b u], []⟩) (fun _ R s => s.heap.get? l = some ({ cls := .type "dict", dict := none, data := .dict es ep, slots := #[] } : Obj) ∧ R (.ok (.ret .notImplemented)) s) :=
  .of_wp fun prog w A R s h => by
    obtain ⟨hp, g, d, tk, os⟩ := s
    obtain ⟨hl, h⟩ := h
    have f1 := F.sub_str_dict
    wp_walk using wpAny_loadPart' hl, wpAny_load hl
    exact ⟨_, rfl, h⟩
theorem own_rc_str_dict {A : Around} {s : Shared} {l : Addr} {es : Array DictEntry} {ep : Nat} (b : Str) (u : Tok) (ho : s.heap.get? l = some ({ cls := .type "dict", dict := none, data := .dict es ep, slots := #[] } : Obj)) (hu : A.units < cLine) : RcAt A s (.str b u) (.ref l) false :=
  fun prog w E Q h => by
    refine rc_eq_decline_or (k := false) (typeIs_str s b u) ⟨_, ho, rfl⟩ (by decide) F.sub_dict_str F.slot_str_eq F.slot_dict_eq_refl ?_ ?_ ?_ (.inr hu) h
    · exact fun _ hq => call_meets F.slot_str_eq (typeIs_str s b u) F.entry_str_eq (F.args_str_eq_2 _ _) (own_str_dict0 b u l es ep) ⟨ho, hq⟩
    · exact fun _ hq => call_meets F.slot_dict_eq_refl ⟨_, ho, rfl⟩ F.entry_dict_eq (F.args_dict_eq_2 _ _) (own_dict_str0 b u l es ep) ⟨ho, hq⟩
    · exact fun _ hq => wpAny_of_eq (rfl : isSame (.str b u) (.ref l) = pure false) hq
theorem own_eq_str_dict {A : Around} {s : Shared} {l : Addr} {es : Array DictEntry} {ep : Nat} (b : Str) (u : Tok) (ho : s.heap.get? l = some ({ cls := .type "dict", dict := none, data := .dict es ep, slots := #[] } : Obj)) (hu : A.units < cLine) : EqAt A s (.str b u) (.ref l) false :=
  fun prog w E Q h => by
    unfold eqBool
    refine wpAny_holding (wpAny_ite_split (fun z => absurd (eq_of_beq z) nofun) fun _ => ?_)
    exact wpAny_bind (own_rc_str_dict b u ho hu prog w E _ (wpAny_truthy_bool h))
end PySem.SeqAt
namespace Own
open PySem PySem.Spec PyProof.Rows L2
/-- a value that is no text, and no number with a text's place -/
inductive NoTxt (H : Hp) : V → Prop where
  | non : NoTxt H .non
  | bl (b : Bool) : NoTxt H (.bl b)
  | int (i : Int) : NoTxt H (.int i)
  | lst {a : Addr} {xs : List V} (e : H a = some (.lst xs)) : NoTxt H (.ref a)
  | tup {a : Addr} {xs : List V} (e : H a = some (.tup xs)) : NoTxt H (.ref a)
  | dct {a : Addr} {kvs : List (Key × V)} (e : H a = some (.dK kvs)) : NoTxt H (.ref a)
theorem NoTxt.ne {X : Cx} {pins : List (Addr × Obj)} {σ : L2.St} {H : Hp} {s : Shared} {x : V} {v : Value} (I : Inv X pins σ H s) (h : NoTxt H x) (r : RelV x v) {A : Around} (hu : A.units < cLine) (z : Str) (t : Tok) : SeqAt.EqAt A s (.str z t) v false := by
  cases h with
  | non => cases r; exact SeqAt.EqAt.str_none z t
  | bl b => cases r; exact SeqAt.EqAt.str_bool z t b
  | int i =>
    obtain ⟨u, rfl⟩ := r
    exact SeqAt.EqAt.str_int z t i u
  | lst e =>
    cases r
    obtain ⟨its, _, pl, _⟩ := I.list (SqL.of e)
    exact SeqAt.EqAt.str_list z t pl.isList hu
  | tup e =>
    cases r
    obtain ⟨its, _, pl, _⟩ := I.tuple (SqT.of e)
    exact SeqAt.EqAt.str_tuple z t pl hu
  | dct e =>
    cases r
    obtain ⟨_, _, vs, _, ⟨⟨c, dd, da, sl⟩, es, ep, ho, hx, hd, _⟩⟩ := (show ObjOk X.prog X.w H s.heap _ (.dK _) from I.hok _ _ e)
    obtain ⟨rfl, rfl, rfl⟩ := hx
    obtain rfl : da = .dict es ep := hd
    exact SeqAt.own_eq_str_dict z t ho hu
def rNotInW (K : PySem.W.Frag) : R2 := fun x y H Q => ∃ (p : Addr) (zs : List Str), y = .ref p ∧ SqT K H p (zs.map V.str) ∧ NoTxt H x ∧ Q (.bl true) H
theorem op_notInW {X : Cx} (hu : X.A.units + 1 < cLine) : OpR X (compareOp .NotIn) (rNotInW X.K) := by
  intro pins s σ H x y v u Q I rx ry h
  obtain ⟨p, zs, rfl, hq, nt, q⟩ := h
  cases ry
  obtain ⟨its, r, pl, hz⟩ := I.tuple hq
  have txts : ∀ w ∈ its, ∃ (z : Str) (t : Tok), w = .str z t := fun w hw => by
    obtain ⟨i, hi⟩ := List.mem_iff_getElem?.mp hw
    have hlt : i < (zs.map V.str).length := by
      rw [Paired.length r]
      exact (List.getElem?_eq_some_iff.mp hi).1
    obtain ⟨u', h1, h2⟩ := r.get (List.getElem?_eq_getElem hlt)
    rw [hi] at h1
    cases h1
    rw [List.getElem_map] at h2
    obtain ⟨t, z⟩ := h2
    exact ⟨_, t, z⟩
  have hu0 : X.A.units < cLine := Nat.lt_of_le_of_lt (Nat.le_succ _) hu
  have hu' : X.A.in1.units < cLine := by first | exact hu0 | exact hu
  refine SeqAt.notIn_tupleAt (fun _ => false) pl (fun w hw => ?_) ⟨.bl _, H, I, rfl, ?_⟩
  · obtain ⟨z, t, rfl⟩ := txts w (by simpa using hw)
    exact nt.ne I rx hu' z t
  · have e : its.toArray.any (fun _ => false) = false := by simp
    rw [e]
    exact q
end Own


/-! from P06 -/
namespace Own
open PySem PySem.Spec PyProof.Rows L2
inductive Thing (H : Hp) : V → Prop where
  | non : Thing H .non
  | bl (b : Bool) : Thing H (.bl b)
  | int (i : Int) : Thing H (.int i)
  | str (z : Str) : Thing H (.str z)
  | lst {a : Addr} {xs : List V} (e : H a = some (.lst xs)) : Thing H (.ref a)
  | tup {a : Addr} {xs : List V} (e : H a = some (.tup xs)) : Thing H (.ref a)
  | dct {a : Addr} {kvs : List (Key × V)} (e : H a = some (.dK kvs)) : Thing H (.ref a)
theorem Thing.same {H H' : Hp} {x : V} (h : Thing H x) (s : Same H H') : Thing H' x := by
  cases h with
  | non => exact .non
  | bl b => exact .bl b
  | int i => exact .int i
  | str z => exact .str z
  | lst e => exact .lst (s _ _ e)
  | tup e => exact .tup (s _ _ e)
  | dct e => exact .dct (s _ _ e)
def isInt : V → Bool
  | .int _ => true
  | _ => false
def isBl : V → Bool
  | .bl _ => true
  | _ => false
/-- isinstance(x, int), isinstance(x, bool) -/
theorem Thing.isi {K : PySem.W.Frag} {H : Hp} {x : V} (h : Thing H x) : ∃ t : Value, TyX K H x t ∧ PySem.W.kitOne K t (.type "int") = some (isInt x || isBl x) ∧ PySem.W.kitOne K t (.type "bool") = some (isBl x) := by
  cases h with
  | non => exact ⟨_, .base .non, kit_ty (show kitB "NoneType" "int" = some false by decide +kernel), kit_ty (show kitB "NoneType" "bool" = some false by decide +kernel)⟩
  | bl b => exact ⟨_, .base (.bl b), kit_ty (show kitB "bool" "int" = some true by decide +kernel), kit_ty (show kitB "bool" "bool" = some true by decide +kernel)⟩
  | int i => exact ⟨_, .base (.int i), kit_ty (show kitB "int" "int" = some true by decide +kernel), kit_ty (show kitB "int" "bool" = some false by decide +kernel)⟩
  | str z => exact ⟨_, .base (.str z), kit_ty (show kitB "str" "int" = some false by decide +kernel), kit_ty (show kitB "str" "bool" = some false by decide +kernel)⟩
  | lst e => exact ⟨_, .base (.lst e), kit_ty (show kitB "list" "int" = some false by decide +kernel), kit_ty (show kitB "list" "bool" = some false by decide +kernel)⟩
  | tup e => exact ⟨_, .base (.tup e), kit_ty (show kitB "tuple" "int" = some false by decide +kernel), kit_ty (show kitB "tuple" "bool" = some false by decide +kernel)⟩
  | dct e => exact ⟨_, .base (.dK e), kit_ty (show kitB "dict" "int" = some false by decide +kernel), kit_ty (show kitB "dict" "bool" = some false by decide +kernel)⟩
theorem Thing.noTxt {H : Hp} {x : V} (h : Thing H x) : NoTxt H x ∨ ∃ z, x = .str z := by
  cases h with
  | non => exact .inl .non
  | bl b => exact .inl (.bl b)
  | int i => exact .inl (.int i)
  | str z => exact .inr ⟨z, rfl⟩
  | lst e => exact .inl (.lst e)
  | tup e => exact .inl (.tup e)
  | dct e => exact .inl (.dct e)
/-- what a written dict says at a text -/
def KGet (K : PySem.W.Frag) (d : Addr) (z : Str) (r : Option V) : Prop := ∃ ro : Option Value, PySem.W.nsIn K d z = some ro ∧ RelO r ro
section
variable {X : Cx} {d : Addr} {es : Array DictEntry} {n : Nat} {o e f : Expr} {apos cpos : Pos} {td ty tx : TE}
theorem pe_kget2 (D : KDict X.K X.w d es n) (ho : PE X o td) (he : PE X e ty) (hf : PE X f tx) (m : M2 X o "get" apos e f cpos) :
    PE X (.Call (.Attribute o "get" apos) [e, f] [] cpos) (fun σ H Q => td σ H fun x H1 => x = .ref d ∧ ty σ H1 fun y H2 => tx σ H2 fun z H3 => ∃ (t : Str) (r : Option V), y = .str t ∧ KGet X.K d t r ∧ Q (r.getD z) H3) := by
  constructor
  intro pins s σ H Q I h
  refine wpAny_Call_method m.base m.few m.line PySem.F.plainAttrs_dict PySem.F.slot_dict_get PySem.F.type_dict_get (thn (ho.run pins s σ H _ I h) ?_)
  rintro u s1 ⟨x, H1, I1, rx, rfl, q1⟩
  obtain rfl : u = Value.ref d := rx
  refine ⟨kd_type D I1, fun b q => ?_, ?_⟩
  · cases q
    exact ⟨_, I1.kIn _ _ D.at_, rfl⟩
  rw [m.trees]
  refine Calls.callWith_builtin rfl (Calls.evalArgs_plain (Calls.spliced_cons (thn (he.run pins s1 σ H1 _ I1 q1) ?_)))
  rintro iv s2 ⟨y, H2, I2, ry, q2⟩
  refine Calls.spliced_cons (thn (hf.run pins s2 σ H2 _ I2 q2) ?_)
  rintro fv s3 ⟨z, H3, I3, rz, t, r, rfl, ⟨ro, hk, rr⟩, q3⟩
  refine Calls.spliced_nil ?_
  obtain ⟨tk, rfl⟩ := ry
  show wpAny _ _ (call (.builtin "dict.get") [.ref d, .str t tk, fv]) _ _ _
  refine call_meetsIn PySem.F.slot_dict_get (kd_type D I3) PySem.F.entry_dict_get (PySem.F.args_dict_get_3 _ _ _) (meets_dict_get_default (strKind X.prog X.w) d (strKind_is X.prog X.w t tk) D.low fv) ⟨_, PySem.W.mapOf_K (prog := X.prog) I3.kIn D.at_ D.lit, ?_⟩
  rw [PySem.W.find_K D.at_ hk]
  refine ⟨r.getD z, H3, I3.tok _, ?_, q3⟩
  cases r with
  | none =>
    cases ro with
    | none => exact rz
    | some u => exact rr.elim
  | some v =>
    cases ro with
    | none => exact rr.elim
    | some u => exact rr
end
/-! ### an error class whose __init__ keeps one field -/
structure ErrC (P : Program) (w : World) (K : PySem.W.Frag) (mg : Str → Option Value) (base : Heap) (x fld : Str) (k : Nat) (C : Addr) (sp : Sp) : Prop where
  g : mg x = some (.ref C)
  oex : OexC K C
  ini : ∃ (fI : Addr) (fd : FuncData), PySem.W.findIn K (.ref C) "__init__" = some (some (.ref fI)) ∧ PySem.W.typeIn K (.ref fI) = some (.type "function") ∧ FnOk P w K mg base CX0 k fI fd ["self", fld] sp ∧ Binds K fd ["self", fld] []
  xf : XfC K C
  te : PySem.W.exmOne K (.ref C) (.ref C) = some true
  noV : PySem.W.findIn K (.ref C) fld = some none
def spErr (C : Addr) (fld : Str) : Sp := fun vs H Q _ => ∃ (a : Addr) (y : V), vs = [.ref a, y] ∧ H a = some (exo a C none) ∧ ∀ dx, H dx = none → dx ≠ a → Q .non (upd (upd H dx (exd dx [(fld, y)])) a (exo a C (some dx)))
/-- such an error leaves: its value x -/
def Bad (C : Addr) (fld : Str) (x : V) (H : Hp) (E : XK) : Prop := ∀ (d : Addr) (H' : Hp), Same H H' → H d = none → H' d = some (.xd [(fld, x)]) → E (.ref C) (some d) H'
theorem Bad.same {C : Addr} {fld : Str} {x : V} {H H1 : Hp} {E : XK} (h : Bad C fld x H E) (s : Same H H1) : Bad C fld x H1 E := fun d H' s' n e => h d H' (s.trans s') (s.free n) e
section
variable {X : Cx} {x fld : Str} {k j : Nat} {C : Addr} {e : Expr} {te : TE} {p pos : Pos}
theorem pmk_err (D : ErrC X.prog X.w X.K X.mg X.base x fld k C (spErr C fld)) (hr : Room j X.A) (hj : k + 1 ≤ j) (hg : Gl X x) (he : PE X e te) (hdb : (x == ("__debug__" : Str)) = false := by decide)
    (hst : starEach (e :: []) X.env = (false, eval e X.env) :: starEach [] X.env := by rfl) (hpl : (backTo pos (starEach [] X.env)).any (·.1) = false := by rfl) :
    PMk X (.Call (.Name x p) [e] [] pos) (tMkO C (spErr C fld) [] (tCons te tNil)) := by
  obtain ⟨fI, fd, iC, tI, F1, b⟩ := D.ini
  exact pmk_oex D.oex iC tI F1 (hr.mono hj) b .nil (fun _ _ _ _ _ _ _ z => z.elim) hg D.g (pa_cons he pa_nil hst) hdb hst hpl
end
/-- the end of such a making -/
theorem bad_mk {C : Addr} {fld : Str} {y : V} {H : Hp} {Q : XK} (h : Bad C fld y H Q) : [y].length ≤ 1000 ∧ ∀ a, H a = none → spErr C fld (.ref a :: ([y] ++ [])) (upd H a (exo a C none))
    (fun v H2 => v = .non ∧ ∃ (d : Addr) (fs : List (Str × V)), H2 a = some (exo a C (some d)) ∧ H2 d = some (exd d fs) ∧ H d = none ∧ Q (.ref C) (some d) (upd (del H2 a) d (.xd fs))) (fun _ _ _ => False) := by
  refine ⟨by show 1 ≤ 1000; decide, fun a na => ⟨a, y, rfl, upd_same, fun dx ndx ne => ⟨rfl, dx, [(fld, y)], upd_same, ?_, ?_, ?_⟩⟩⟩
  · rw [upd_ne ne, upd_same]
  · rw [upd_ne ne] at ndx
    exact ndx
  · have nd : H dx = none := by
      rw [upd_ne ne] at ndx
      exact ndx
    refine h dx _ (fun b o e => ?_) nd upd_same
    have b1 : b ≠ a := ne_of_none e na
    have b2 : b ≠ dx := ne_of_none e nd
    rw [upd_ne b2, del_ne b1, upd_ne b1, upd_ne b2, upd_ne b1]
    exact e
end Own

/-! from U06 -/
namespace Own
open PySem PySem.Spec PyProof.Rows L2
theorem op_mulS {X : Cx} : OpR X (binaryOp .Mult) (fun x y H Q => ∃ (z : Str) (n : Int), x = .str z ∧ y = .int n ∧ MulOk z n ∧ Q (.str (Txt.mul z n)) H) := by
  intro pins s σ H x y v u Q I rx ry h
  obtain ⟨z, n, rfl, rfl, ok, q⟩ := h
  obtain ⟨t, rfl⟩ := rx
  obtain ⟨t', rfl⟩ := ry
  exact SB.mul ok fun t2 k => ⟨.str _, H, I.tok _, ⟨_, rfl⟩, q⟩
theorem zeros_fold : ∀ (n : Nat) (acc : Array Nat), ((List.replicate n #[48]).foldl (· ++ ·) acc).toList = acc.toList ++ List.replicate n 48
  | 0, acc => by simp
  | n + 1, acc => by
    rw [List.replicate_succ, List.foldl_cons, zeros_fold n, Array.toList_append, List.replicate_succ, List.append_assoc]
    rfl
theorem zero_cps : ("0" : Str).cps = #[48] := by decide +kernel
theorem one_cps : ("1" : Str).cps = #[49] := by decide +kernel
theorem zeros (n : Nat) : (Txt.mul "0" (n : Int)).cps.toList = List.replicate n 48 := by
  unfold Txt.mul
  by_cases h0 : n = 0
  · subst h0
    rw [if_pos (by omega)]
    rfl
  · rw [if_neg (by omega)]
    by_cases h1 : n = 1
    · subst h1
      rw [if_pos (by simp), zero_cps]
      rfl
    · have e : ¬ (((n : Int) == 1 || ("0" : Str).length == 0) = true) := by
        have l : ("0" : Str).length = 1 := by decide +kernel
        rw [l]
        simp
        omega
      rw [if_neg e]
      show ((List.replicate (n : Int).toNat ("0" : Str).cps).foldl (· ++ ·) #[]).toList = _
      rw [zero_cps, Int.toNat_natCast, zeros_fold]
      rfl
/-- '1' + '0' * n -/
def tenS (n : Nat) : Str := ("1" : Str) ++ Txt.mul "0" (n : Int)
theorem tenS_list (n : Nat) : (tenS n).cps.toList = 49 :: List.replicate n 48 := by
  have e : (tenS n).cps = ("1" : Str).cps ++ (Txt.mul "0" (n : Int)).cps := rfl
  rw [e, Array.toList_append, zeros, one_cps]
  rfl
theorem tens_val : ∀ (n a : Nat), (List.replicate n 48).foldl (fun acc c => acc * 10 + (c - 48)) a = a * 10 ^ n
  | 0, a => by simp
  | n + 1, a => by
    rw [List.replicate_succ, List.foldl_cons, tens_val n]
    show (a * 10 + 0) * 10 ^ n = a * 10 ^ (n + 1)
    rw [Nat.add_zero, Nat.pow_succ, Nat.mul_assoc, Nat.mul_comm 10]
theorem str_len (x : Str) : x.length = x.cps.toList.length := by
  cases x
  rfl
theorem tenS_len (n : Nat) : (tenS n).length = n + 1 := by
  rw [str_len, tenS_list, List.length_cons, List.length_replicate]
theorem ten_text {n : Nat} (h : n ≤ 600) : PySem.intText? (tenS n) = some ((10 : Int) ^ n) := by
  have e := PySem.intText_digits (x := tenS n) (fun c hc => by
      rw [tenS_list] at hc
      rcases List.mem_cons.mp hc with rfl | hc
      · exact ⟨by decide, by decide⟩
      · have := (List.mem_replicate.mp hc).2
        omega) (by rw [tenS_list]; simp) (by rw [tenS_len]; omega)
  rw [e]
  have z : NumText.digitsVal (tenS n).cps.toList = 10 ^ n := by
    rw [tenS_list]
    unfold NumText.digitsVal
    rw [List.foldl_cons, tens_val]
    simp
  rw [z]
  simp
theorem mulOk0 {n : Nat} (h : n ≤ 600) : MulOk "0" (n : Int) := by
  have l : ("0" : Str).length = 1 := by decide +kernel
  refine ⟨?_, fun h1 h2 => ?_, fun h1 h2 => ?_⟩
  · rw [Bool.or_eq_false_iff]
    exact ⟨decide_eq_false (by omega), decide_eq_false (by omega)⟩
  · rw [l]
    have z := Int.le_ediv_of_mul_le (c := (n : Int)) (a := 1) (b := 2 ^ 63 - 1) (by omega) (by omega)
    omega
  · rw [l, Nat.one_mul, Int.toNat_natCast]
    exact decide_eq_false (by have := sizeLine_eq; omega)
end Own

/-! from V06 -/
namespace Own
theorem ten_pos (n : Nat) : (0 : Int) < (10 : Int) ^ n := Int.pow_pos (by decide)
theorem ten_mono {m n : Nat} (h : m ≤ n) : (10 : Int) ^ m ≤ (10 : Int) ^ n := by
  obtain ⟨k, rfl⟩ := Nat.le.dest h
  rw [Int.pow_add]
  have a := ten_pos m
  have b : (1 : Int) ≤ (10 : Int) ^ k := ten_pos k
  have := Int.mul_le_mul_of_nonneg_left b (Int.le_of_lt a)
  omega
theorem ten_nat (n : Nat) : ((10 : Int) ^ n).natAbs = 10 ^ n := by
  rw [Int.natAbs_pow]
  rfl
theorem ten_lt (n : Nat) : ((10 : Int) ^ n).natAbs < 2 ^ (4 * n + 1) := by
  rw [ten_nat, Nat.pow_succ, Nat.pow_mul]
  have a : 10 ^ n ≤ (2 ^ 4) ^ n := Nat.pow_le_pow_left (by decide) n
  have b : 0 < (2 ^ 4) ^ n := Nat.pow_pos (by decide)
  omega
theorem lt_two {i j : Int} {k : Nat} (h0 : 0 ≤ i) (h1 : i ≤ j) (h : j.natAbs < 2 ^ k) : i.natAbs < 2 ^ k := Nat.lt_of_le_of_lt (by omega) h
end Own

/-! from W06 -/
namespace Own
open PySem PySem.Spec PyProof.Rows L2
theorem merge_app : ∀ (kvs acc : List (Key × V)), ((acc ++ kvs).map (·.1)).Nodup → mergeK acc kvs = acc ++ kvs
  | [], acc, _ => by simp [mergeK]
  | p :: r, acc, h => by
    have hn : valV acc p.1 = none := by
      cases e : valV acc p.1 with
      | none => rfl
      | some v =>
        have m := valV_in e
        rw [List.map_append, List.nodup_append] at h
        exact absurd rfl (h.2.2 p.1 m p.1 (by simp))
    have z := merge_app r (acc ++ [p]) (by
      rw [List.append_assoc]
      exact h)
    show mergeK (putK acc p.1 p.2) r = acc ++ p :: r
    rw [putK_new _ hn, z, List.append_assoc]
    rfl
theorem merge_new {kvs : List (Key × V)} (h : (kvs.map (·.1)).Nodup) : mergeK [] kvs = kvs := merge_app kvs [] h
/-- a dict of texts -/
def txK (l : List (Str × V)) : List (Key × V) := l.map fun p => (Sum.inr p.1, p.2)
theorem txK_val : ∀ (l : List (Str × V)) (z : Str), valV (txK l) (Sum.inr z : Key) = l.lookup z
  | [], z => rfl
  | p :: r, z => by
    obtain ⟨a, v⟩ := p
    by_cases h : a = z
    · subst h
      rw [show txK ((a, v) :: r) = (Sum.inr a, v) :: txK r from rfl, valV_pos rfl]
      simp [List.lookup]
    · rw [show txK ((a, v) :: r) = (Sum.inr a, v) :: txK r from rfl, valV_neg (fun e => h (Sum.inr.inj e)), txK_val r z]
      have hb : (z == a) = false := by simpa using fun e : z = a => h e.symm
      simp [List.lookup, hb]
theorem DGet.tx {H : Hp} {a : Addr} {l : List (Str × V)} (z : Str) (e : H a = some (.dK (txK l))) : DGet H a (.str z) (l.lookup z) := by
  have q := DGet.k (k := (Sum.inr z : Key)) e
  rw [txK_val] at q
  exact q
end Own

/-! from Y06 -/
namespace Own
open PySem PySem.Spec PyProof.Rows L2
/-- a flat value's datum -/
def datV : V → PyData
  | .bl b => .bool b
  | .int i => .int i
  | .str z => .str z
  | _ => .none
def okF : V → Bool
  | .non => true
  | .bl _ => true
  | .int _ => true
  | .str z => PyData.strOk z
  | _ => false
/-- a value handed in that is equal to itself -/
inductive Odd (H : Hp) : V → Prop where
  | flat {x : V} (h : okF x = true) : Odd H x
  | lst {a : Addr} {xs : List V} (e : H a = some (.lst xs)) (f : xs.all okF = true) : Odd H (.ref a)
  | tup {a : Addr} {xs : List V} (e : H a = some (.tup xs)) (f : xs.all okF = true) : Odd H (.ref a)
  | dct {a : Addr} {kvs : List (Key × V)} (e : H a = some (.dK kvs)) (n : (kvs.map (·.1)).Nodup) (f : ∀ p ∈ kvs, flatB p.2 = true) : Odd H (.ref a)
theorem Odd.same {H H' : Hp} {x : V} (h : Odd H x) (s : Same H H') : Odd H' x := by
  cases h with
  | flat h => exact .flat h
  | lst e f => exact .lst (s _ _ e) f
  | tup e f => exact .tup (s _ _ e) f
  | dct e n f => exact .dct (s _ _ e) n f
theorem Odd.thing {H : Hp} {x : V} (h : Odd H x) : Thing H x := by
  cases h with
  | flat h =>
    cases x <;> first | exact .non | exact .bl _ | exact .int _ | exact .str _ | (simp [okF] at h)
  | lst e f => exact .lst e
  | tup e f => exact .tup e
  | dct e n f => exact .dct e
theorem dp_flat {K : PySem.W.Frag} {H : Hp} {x : V} (h : okF x = true) : Dp K H x (datV x) ∧ (datV x).canLay0 = true ∧ (datV x).depth = 0 := by
  cases x <;> first
    | exact ⟨.non, by simp [datV, PyData.canLay0], by simp [datV, PyData.depth]⟩
    | exact ⟨.bl _, by simp [datV, PyData.canLay0], by simp [datV, PyData.depth]⟩
    | exact ⟨.int _, by simp [datV, PyData.canLay0], by simp [datV, PyData.depth]⟩
    | exact ⟨.str _, by simpa [datV, PyData.canLay0, okF] using h, by simp [datV, PyData.depth]⟩
    | (simp [okF] at h)
theorem dp_flats {K : PySem.W.Frag} {H : Hp} : ∀ {xs : List V}, xs.all okF = true → DpAll K H xs (xs.map datV) ∧ PyData.canLayAll0 (xs.map datV) = true ∧ PyData.depthAll (xs.map datV) = 0
  | [], _ => ⟨.nil, by simp [PyData.canLayAll0], by simp [PyData.depthAll]⟩
  | x :: r, h => by
    rw [List.all_cons, Bool.and_eq_true] at h
    obtain ⟨a1, a2, a3⟩ := dp_flat (K := K) (H := H) h.1
    obtain ⟨b1, b2, b3⟩ := dp_flats (K := K) (H := H) h.2
    exact ⟨.cons a1 b1, by simp [PyData.canLayAll0, a2, b2], by simp [PyData.depthAll, a3, b3]⟩
/-- x == x of such a value: the three rules -/
theorem op_eqOdd {X : Cx} (hu : X.A.units + 64 < cLine) : OpR X (compareOp .Eq) (fun x y H Q => (∃ a b : Int, x = .int a ∧ y = .int b ∧ Q (.bl (decide (a = b))) H) ∨ (Odd H x ∧ y = x ∧ Q (.bl true) H)) := by
  intro pins s σ H x y v u Q I rx ry h
  rcases h with ⟨a, b, rfl, rfl, q⟩ | ⟨od, rfl, q⟩
  · refine op_eq pins s σ H _ _ v u Q I rx ry ⟨rfl, ?_⟩
    have e : decide (V.int a = V.int b) = decide (a = b) := by simp
    rw [e]
    exact q
  · cases od with
    | flat h =>
      obtain ⟨a1, a2, a3⟩ := dp_flat (K := X.K) (H := H) h
      have sh : SeqAt.shaped (datV y) = true := by
        unfold SeqAt.shaped
        rw [a2, a3]
        rfl
      refine op_eqD hu pins s σ H _ _ v u Q I rx ry ⟨_, _, a1, a1, sh, sh, ?_⟩
      rw [SeqAt.eqv_refl _ (SeqAt.canLay_of_shaped sh)]
      exact q
    | @lst a xs e f =>
      obtain ⟨a1, a2, a3⟩ := dp_flats (K := X.K) (H := H) f
      have sh : SeqAt.shaped (.list (xs.map datV)) = true := by
        unfold SeqAt.shaped
        simp [PyData.canLay0, PyData.depth, a2, a3]
      have d : Dp X.K H (.ref a) (.list (xs.map datV)) := .lst (SqL.of e) a1
      refine op_eqD hu pins s σ H _ _ v u Q I rx ry ⟨_, _, d, d, sh, sh, ?_⟩
      rw [SeqAt.eqv_refl _ (SeqAt.canLay_of_shaped sh)]
      exact q
    | @tup a xs e f =>
      obtain ⟨a1, a2, a3⟩ := dp_flats (K := X.K) (H := H) f
      have sh : SeqAt.shaped (.tuple (xs.map datV)) = true := by
        unfold SeqAt.shaped
        simp [PyData.canLay0, PyData.depth, a2, a3]
      have d : Dp X.K H (.ref a) (.tuple (xs.map datV)) := .tup (SqT.of e) a1
      refine op_eqD hu pins s σ H _ _ v u Q I rx ry ⟨_, _, d, d, sh, sh, ?_⟩
      rw [SeqAt.eqv_refl _ (SeqAt.canLay_of_shaped sh)]
      exact q
    | @dct a kvs e n f => exact op_eq_dict (by omega) pins s σ H _ _ v u Q I rx ry ⟨a, a, kvs, rfl, rfl, e, e, n, f, q⟩
end Own

/-! from AA06 -/
namespace Own
open PySem PySem.Spec PyProof.Rows L2 LamX NdefX
section
variable {X : Cx} {cl : List (Str × Addr)} {fr : List Str} {ws : List (Option V)}
/-- as pe_deed, what it may let out told by the slots -/
theorem pe_deedS {CX : CXT} {k i : Nat} {f : Addr} {F : NF} {b : Expr} {sp : List (Option V) → Hp → VK → XK → Prop} {E : L2.St → XK} {a : Str} {p1 p2 : Pos} (C : CellsAt F.cl fr ws X.s_0.heap X.H_0) (hex : X.ex = []) (G : LOk X.prog X.w X.K X.mg X.base CX k f F b fr sp) (hr : Room k X.A)
    (hx : ∀ σ, PassesAt CX X σ (E σ)) (hN : X.N[i]? = some a) (hv : Vis X.env.scope a) (hd : (a == ("__debug__" : Str)) = false := by decide) (hcd : (a == ("__classdict__" : Str)) = false := by decide) :
    PE X (.Call (.Name a p1) [] [] p2) (fun σ H Q => σ[i]? = some (some (.ref f)) ∧ LamAt H f F b ∧ H F.c = some (CodeO F.c F.qual) ∧ sp ws H Q (E σ)) := by
  constructor
  intro pins s σ H Q I h
  obtain ⟨hs, hf, hc, q⟩ := h
  refine wpAny_Call_Name_kw (thn ((pe_var (pos := p1) hN hv hd hcd).run pins s σ H (fun v H1 => v = .ref f ∧ H1 = H) I ⟨.ref f, hs, rfl, rfl⟩) ?_)
  rintro u s1 ⟨v, H1, I1, r1, rfl, rfl⟩
  obtain rfl : u = Value.ref f := r1
  obtain ⟨dV, doc, pm, ctv, ho, _⟩ := lamO_at I1.hok hf
  refine PySem.W.callWith_F0 ⟨_, _, _, _, ho⟩ ?_
  have C' := cells_still C (fun _ => .inl (by rw [hex]; simp)) I1
  refine wpAny_call (codeAny_mono (G.run _ _ _ _ _ _ _ hr I1.env0 hf hc C' q) fun r s' z => ?_)
  rcases r with e | fl
  · exact hx σ pins _ _ e s' I1 z
  · cases fl
    case ret u => exact I1.after z
    all_goals exact False.elim z
end
end Own

/-! from CC06 -/
namespace Own
open PySem PySem.Spec PyProof.Rows L2 LamX NdefX
/-- at q stands the pair of a lambda and v -/
def RowAt (H : Hp) (nf : Addr → NF) (b : Expr) (v : V) (q : Addr) : Prop := ∃ f c' : Addr, H q = some (.tup [.ref f, v]) ∧ LamAt H f (nf c') b ∧ H (nf c').c = some (CodeO (nf c').c (nf c').qual)
section
variable {H H' : Hp} {nf : Addr → NF} {b : Expr} {v x : V} {q r : Addr} {l : List V} {o : HO}
theorem RowAt.ext (h : RowAt H nf b v q) (e : ExtN H H') : RowAt H' nf b v q := by
  obtain ⟨f, c', h1, h2, h3⟩ := h
  exact ⟨f, c', e _ _ h1 (fun ps z => by cases z), h2.ext e, e _ _ h3 codeO_ne⟩
theorem LamAt.put {f : Addr} {F : NF} (h : LamAt H f F b) (hr : H r = some (.lst l)) : LamAt (upd H r o) f F b := by
  obtain ⟨dV, h1, h2⟩ := h
  have a : f ≠ r := ne_of h1 hr (by unfold LamO; intro z; cases z)
  refine ⟨dV, (upd_ne a).trans h1, ?_⟩
  rcases h2 with z | ⟨n, T, z, q⟩
  · exact .inl z
  · have a : T ≠ r := ne_of q hr (by intro z; cases z)
    exact .inr ⟨n, T, z, (upd_ne a).trans q⟩
theorem RowAt.put (h : RowAt H nf b v q) (hr : H r = some (.lst l)) : RowAt (upd H r o) nf b v q := by
  obtain ⟨f, c', h1, h2, h3⟩ := h
  have a : q ≠ r := ne_of h1 hr (by intro z; cases z)
  have c : (nf c').c ≠ r := ne_of h3 hr (by unfold CodeO; intro z; cases z)
  exact ⟨f, c', (upd_ne a).trans h1, h2.put hr, (upd_ne c).trans h3⟩
theorem Odd.ext (h : Odd H x) (e : ExtN H H') : Odd H' x := by
  cases h with
  | flat h => exact .flat h
  | lst e' f => exact .lst (e _ _ e' (fun ps z => by cases z)) f
  | tup e' f => exact .tup (e _ _ e' (fun ps z => by cases z)) f
  | dct e' n f => exact .dct (e _ _ e' (fun ps z => by cases z)) n f
theorem Odd.off (h : Odd H x) (n : H r = none) : x ≠ .ref r := by
  cases h with
  | flat h => intro z; rw [z] at h; cases h
  | lst e f => intro z; rw [V.ref.inj z, n] at e; cases e
  | tup e f => intro z; rw [V.ref.inj z, n] at e; cases e
  | dct e n' f => intro z; rw [V.ref.inj z, n] at e; cases e
theorem Odd.put (h : Odd H x) (n : x ≠ .ref r) : Odd (upd H r o) x := by
  cases h with
  | flat h => exact .flat h
  | lst e f => exact .lst ((upd_ne (fun z => n (by rw [z]))).trans e) f
  | tup e f => exact .tup ((upd_ne (fun z => n (by rw [z]))).trans e) f
  | dct e n' f => exact .dct ((upd_ne (fun z => n (by rw [z]))).trans e) n' f
theorem tabs_put {T : List (Addr × Str)} (h : Tabs T H) (hr : H r = some (.lst l)) : Tabs T (upd H r o) := fun p hp => by
  obtain ⟨ps, h1, h2, h3⟩ := h p hp
  have a : p.1 ≠ r := ne_of h1 hr (by intro z; cases z)
  refine ⟨ps, (upd_ne a).trans h1, h2, fun pos cv hc => ?_⟩
  obtain ⟨c, e1, e2⟩ := h3 pos cv hc
  have b : c ≠ r := ne_of e2 hr (by unfold CodeO; intro z; cases z)
  exact ⟨c, e1, (upd_ne b).trans e2⟩
theorem extN_new (h : H r = none) : ExtN H (upd H r o) := ExtN.of fun b u e => (upd_ne (ne_of_none e h)).trans e
theorem ExtN.same (s : Same H H') : ExtN H H' := ExtN.of s
end
theorem Pen_odd {d : Addr} {B : Int} (h : Pen H d B) (o : Odd H x) : x ≠ .ref d := by
  obtain ⟨p, ns, c, l, e, _⟩ := h.ex
  intro z
  rw [z] at o
  cases o with
  | flat h => cases h
  | lst e' f => rw [e] at e'; cases e'
  | tup e' f => rw [e] at e'; cases e'
  | dct e' n f =>
    rw [e] at e'
    cases e'
    have := f _ (List.mem_cons_self ..)
    cases this
theorem Odd.keep {d : Addr} (h : Odd H x) (n : x ≠ .ref d) (k : Keep d H H') : Odd H' x := by
  cases h with
  | flat h => exact .flat h
  | lst e f => exact .lst (k _ _ (fun z => n (by rw [z])) e) f
  | tup e f => exact .tup (k _ _ (fun z => n (by rw [z])) e) f
  | dct e n' f => exact .dct (k _ _ (fun z => n (by rw [z])) e) n' f
theorem tabs_keep {T : List (Addr × Str)} {d : Addr} {B : Int} (h : Tabs T H) (hp : Pen H d B) (k : Keep d H H') : Tabs T H' := fun p hq => by
  obtain ⟨pp, ns, cc, ll, ed, _⟩ := hp.ex
  obtain ⟨ps, h1, h2, h3⟩ := h p hq
  have a : p.1 ≠ d := ne_of h1 ed (by intro z; cases z)
  refine ⟨ps, k _ _ a h1, h2, fun pos cv hc => ?_⟩
  obtain ⟨c, e1, e2⟩ := h3 pos cv hc
  have b : c ≠ d := ne_of e2 ed (by unfold CodeO; intro z; cases z)
  exact ⟨c, e1, k _ _ b e2⟩
/-- a list at r of pairs of a lambda and a value; x, y: two odd values -/
structure Bag {ι : Type} (nf : ι → Addr → NF) (bf : ι → Expr) (H : Hp) (r : Addr) (R : List (ι × V × Addr)) (x y : V) : Prop where
  l : H r = some (.lst (R.map fun p => .ref p.2.2))
  rows : ∀ p ∈ R, RowAt H (nf p.1) (bf p.1) p.2.1 p.2.2
  ox : Odd H x
  oy : Odd H y
  xr : x ≠ .ref r
  yr : y ≠ .ref r
theorem Bag.ext {ι : Type} {nf : ι → Addr → NF} {bf : ι → Expr} {R : List (ι × V × Addr)} {y : V} (h : Bag nf bf H r R x y) (e : ExtN H H') : Bag nf bf H' r R x y :=
  ⟨e _ _ h.l (fun ps z => by cases z), fun p hp => (h.rows p hp).ext e, h.ox.ext e, h.oy.ext e, h.xr, h.yr⟩
theorem Bag.set {ι : Type} {nf : ι → Addr → NF} {bf : ι → Expr} {R : List (ι × V × Addr)} {y : V} {D : Addr} {zs : List V} (h : Bag nf bf H r R x y) (hD : H D = some (.lst zs)) (n : D ≠ r) (nx : x ≠ .ref D) (ny : y ≠ .ref D) : Bag nf bf (upd H D o) r R x y :=
  ⟨(upd_ne n.symm).trans h.l, fun p hp => (h.rows p hp).put hD, h.ox.put nx, h.oy.put ny, h.xr, h.yr⟩
theorem Bag.add {ι : Type} {nf : ι → Addr → NF} {bf : ι → Expr} {R : List (ι × V × Addr)} {y v : V} {H1 : Hp} {i : ι} {f c' q : Addr} (h : Bag nf bf H r R x y) (e : ExtN H H1) (a : LamAt H1 f (nf i c') (bf i)) (c : H1 (nf i c').c = some (CodeO (nf i c').c (nf i c').qual)) (nq : H1 q = none) :
    upd H1 q (.tup [.ref f, v]) r = some (.lst (R.map fun p => .ref p.2.2)) ∧ Bag nf bf (upd (upd H1 q (.tup [.ref f, v])) r (.lst (R.map (fun p => .ref p.2.2) ++ [.ref q]))) r (R ++ [(i, v, q)]) x y := by
  have g := (h.ext e).ext (extN_new (o := .tup [.ref f, v]) nq)
  have e2 := extN_new (o := HO.tup [.ref f, v]) nq
  refine ⟨g.l, by rw [upd_same, List.map_append]; rfl, fun p hp => ?_, g.ox.put g.xr, g.oy.put g.yr, g.xr, g.yr⟩
  rcases List.mem_append.mp hp with hp | hp
  · exact (g.rows p hp).put g.l
  · rw [List.mem_singleton.mp hp]
    exact RowAt.put ⟨f, c', upd_same, a.ext e2, e2 _ _ c codeO_ne⟩ g.l
/-- a def of the text and its code object -/
structure AtC (K : PySem.W.Frag) (mg : Str → Option Value) (x : Str) (st : Stmt) (ps : List Str) (c : Addr) : Prop where
  ex : ∃ (f : Addr) (oc : Value) (od : Option Addr) (kV doc pm : Value) (an : Option Addr) (ct : Value) (osl : Array (Option Value)), K.lookup f = some ⟨oc, od, .func (PySem.W.fnOf x x (defArgs st) (defBody st) (defScope st) .none kV doc pm an (.ref c) ct), osl⟩ ∧ PySem.W.codeIn K (.ref c) x = true ∧
    mg x = some (.ref f) ∧ PySem.W.keepIn K (.ref f) = true ∧ Binds K (PySem.W.fnOf x x (defArgs st) (defBody st) (defScope st) .none kV doc pm an (.ref c) ct) ps []
end Own

namespace Own
open PySem PySem.Spec PyProof.Rows L2 LamX NdefX
theorem log2_lt {n k : Nat} (h : n < 2 ^ k) (hk : 0 < k) : n.log2 < k := by
  by_cases h0 : n = 0
  · subst h0
    simpa using hk
  · exact (Nat.log2_lt h0).mpr h
theorem dm_ok {n d : Int} (h0 : 0 < d) (h : d.natAbs < 2 ^ 1000) : CDivP n d := by
  refine ⟨h0, ?_⟩
  have a := log2_lt h (by decide)
  unfold Builtin.divisionGoesByPylong
  have e : ¬ (d == 0) = true := by simp; omega
  have z : ¬ (d.natAbs.log2 / 30 + 1 > 300) := by omega
  simp only [e, Bool.false_eq_true, if_false]
  rw [decide_eq_false z]
  rfl
theorem up_two {n a b : Nat} (h : n < 2 ^ a) (l : a ≤ b) : n < 2 ^ b := Nat.lt_of_lt_of_le h (Nat.pow_le_pow_right (by decide) l)
theorem add_lt {i j : Int} {a : Nat} (hi : i.natAbs < 2 ^ a) (hj : j.natAbs < 2 ^ a) : (i + j).natAbs < 2 ^ (a + 1) := by
  rw [Nat.pow_succ]
  omega
end Own

namespace Own
open PySem PySem.Spec PyProof.Rows L2 LamX NdefX
/-- what the law leans on of an error's class -/
def oexB (K : PySem.W.Frag) (C : Addr) : Bool := (match K.lookup C with
  | some ⟨.type t, _, .cls cd, sl⟩ => decide (t = "type") && (cd.hasDict && (!cd.hasDel && ((match cd.mro with
    | .ref D :: bm => decide (D = C) && PySem.HandSPX.refsVE bm
    | _ => false) && (match sl.toList with
    | [_, _, _, _, some (.builtin n), _] => decide (n = "ValueError.__new__")
    | _ => false))))
  | _ => false) && (decide (PySem.W.findIn K (.ref C) "__setattr__" = some (some (.builtin "object.__setattr__"))) && (decide (PySem.W.subIn K (.ref C) (.type "BaseException") = some true) && (decide (PySem.W.typeIn K (.ref C) = some (.type "type")) && PySem.W.keepIn K (.ref C))))
theorem oexB_ok {K : PySem.W.Frag} {C : Addr} (h : oexB K C = true) : OexC K C := by
  obtain ⟨h0, h⟩ := He.ba h
  obtain ⟨h1, h⟩ := He.ba h
  obtain ⟨h2, h⟩ := He.ba h
  obtain ⟨h3, h4⟩ := He.ba h
  refine ⟨?_, of_decide_eq_true h1, of_decide_eq_true h2, of_decide_eq_true h3, h4⟩
  cases q : K.lookup C with
  | none => rw [q] at h0; cases h0
  | some o =>
    rw [q] at h0
    obtain ⟨oc, od, dt, ⟨sl⟩⟩ := o
    cases oc with
    | type t =>
      cases dt with
      | cls cd =>
        obtain ⟨nm, bs, mro, ns, qn, hd, sn, sub, ab, col, del⟩ := cd
        obtain ⟨a1, a⟩ := He.ba h0
        obtain ⟨a2, a⟩ := He.ba a
        obtain ⟨a3, a⟩ := He.ba a
        obtain ⟨a4, a5⟩ := He.ba a
        have e1 : t = "type" := of_decide_eq_true a1
        have e2 : hd = true := a2
        have e3 : del = false := by
          have z : (!del) = true := a3
          simpa using z
        subst e1 e2 e3
        cases mro with
        | nil => cases a4
        | cons m bm =>
          cases m with
          | ref D =>
            obtain ⟨b1, b2⟩ := He.ba (show (decide (D = C) && PySem.HandSPX.refsVE bm) = true from a4)
            have e4 : D = C := of_decide_eq_true b1
            subst e4
            match sl, a5 with
            | [k0, k1, k2, k3, some (.builtin n), k5], z =>
              have e5 : n = "ValueError.__new__" := of_decide_eq_true z
              subst e5
              exact ⟨_, _, _, _, _, _, _, _, _, _, _, _, _, _, _, rfl, b2⟩
          | _ => cases a4
      | _ => cases h0
    | _ => cases dt <;> cases h0
def isTup (K : PySem.W.Frag) (a : Addr) : Bool := match K.lookup a with
  | some ⟨.type c, _, _, _⟩ => decide (c = "tuple")
  | _ => false
theorem isTup_ok {K : PySem.W.Frag} {a : Addr} (h : isTup K a = true) : ∃ o : Obj, K.lookup a = some o ∧ o.cls = .type "tuple" := by
  unfold isTup at h
  cases q : K.lookup a with
  | none => rw [q] at h; cases h
  | some o =>
    rw [q] at h
    obtain ⟨oc, od, dt, sl⟩ := o
    cases oc with
    | type c => exact ⟨_, rfl, congrArg Value.type (of_decide_eq_true h)⟩
    | _ => cases h
section
variable {P : Program} {w : World} {K : PySem.W.Frag} {mg : Str → Option Value} {h : Heap}
theorem fun_of {x qual : Str} {st : Stmt} {f : Addr} {fd : FuncData} (F : FunD K x qual (defArgs st) (defBody st) (defScope st) [] [] f fd) : Fun K x qual st f fd := by
  obtain ⟨oc, od, dV, kV, doc, pm, an, cdv, ct, osl, rfl, lk, hcd, hD, _⟩ := F.ex
  rcases hD with ⟨_, rfl⟩ | ⟨n, _⟩
  · exact ⟨⟨oc, od, kV, doc, pm, an, cdv, ct, osl, rfl, lk, hcd⟩, F.kp⟩
  · exact absurd rfl n
theorem at_of {x : Str} {st : Stmt} {ps : List Str} {f : Addr} {fd : FuncData} (F : FunD K x x (defArgs st) (defBody st) (defScope st) [] [] f fd) (g : mg x = some (.ref f))
    (b : ∀ (kV doc pm : Value) (an : Option Addr) (cdv ct : Value) (us : List Value), us.length = ps.length → bindArgs (PySem.W.fnOf x x (defArgs st) (defBody st) (defScope st) .none kV doc pm an cdv ct) ⟨us, []⟩ = pure (ps.zip us)) : At K mg x st ps :=
  ⟨f, fd, fun_of F, g, (fun_of F).binds b⟩
end
end Own
namespace Own
/-- built-in names that no module takes -/
structure Blt (mg : PySem.Str → Option PySem.Value) : Prop where
  isi : mg "isinstance" = none
  int : mg "int" = none
  bool : mg "bool" = none
  len : mg "len" = none
  list : mg "list" = none
  range : mg "range" = none
  tuple : mg "tuple" = none
  all : mg "all" = none
  dm : mg "divmod" = none
  min : mg "min" = none
  max : mg "max" = none
  str : mg "str" = none
  abs : mg "abs" = none
  dict : mg "dict" = none
  any : mg "any" = none
end Own

/-! own layer, of no law: OWN2: operators by an own class. -/
namespace Own
open PySem PySem.Spec PyProof.Rows L2 LamX NdefX
section
variable {X : Cx} {pins : List (Addr × Obj)} {σ : L2.St} {H : Hp} {s : Shared}
theorem back_of {Q : VK} {A : Around} {c : Sem Value} (h : wpAny (model X.prog X.w) A c (EP X pins σ Q) X.xe s) : wpAny (model X.prog X.w) A c (PySem.W.CmpBack (EP X pins σ Q)) X.xe s := by
  refine wpAny_mono h (fun v s' q => ?_) fun _ _ e => e
  obtain ⟨y, H', I', r, q'⟩ := q
  cases v with
  | notImplemented => cases y <;> first | exact (nomatch r) | (obtain ⟨_, z⟩ := r; cases z)
  | _ => exact ⟨y, H', I', r, q'⟩
variable {CX : CXT} {n : Nat} {C f : Addr} {fd : FuncData} {ps : List Str} {sp : Sp} {E : XK} {op : Operator}
/-- x op y, both of the class at C, whose own method takes them -/
theorem op_own (F : FnOk X.prog X.w X.K X.mg X.base CX n f fd ps sp) (hr : Room n X.A) (hc : PySem.W.selfFirst X.K C = true) (hs : PySem.W.findIn X.K (.ref C) (PySem.dunder op.info.2) = some (some (.ref f))) (hf : PySem.W.isFn X.K (.ref f) = true) (hb : Binds X.K fd ps []) (hx : Passes CX X E) :
    OpR X (binaryOp op) (fun x y H Q => ∃ a b dx dy fs gs, x = V.ref a ∧ y = V.ref b ∧ H a = some (.ins C dx fs) ∧ H b = some (.ins C dy gs) ∧ sp [.ref a, .ref b] H Q E) := by
  intro pins s σ H x y v u Q I rx ry h
  obtain ⟨a, b, dx, dy, fs, gs, rfl, rfl, ha, hb', q⟩ := h
  cases rx
  cases ry
  obtain ⟨mA, J, _⟩ := ins_get I.hok ha
  obtain ⟨mB, J', _⟩ := ins_get I.hok hb'
  obtain ⟨od, J, _⟩ := J.look
  obtain ⟨od', J', _⟩ := J'.look
  obtain ⟨m, hF⟩ := I.fr
  exact PySem.W.binop_K hF I.ok.mod.kin J J'.type hc hs hf (back_of (run_fn F hr hb .nil hx I (.cons (show L2.RelV (V.ref a) (Value.ref a) from rfl) (.cons (show L2.RelV (V.ref b) (Value.ref b) from rfl) .nil)) q))
/-- -x of the class at C -/
theorem un_own (F : FnOk X.prog X.w X.K X.mg X.base CX n f fd ps sp) (hr : Room n X.A) (hs : PySem.W.findIn X.K (.ref C) "__neg__" = some (some (.ref f))) (hf : PySem.W.isFn X.K (.ref f) = true) (hb : Binds X.K fd ps []) (hx : Passes CX X E) :
    UnR X (unaryOp .USub) (fun x H Q => ∃ a dx fs, x = V.ref a ∧ H a = some (.ins C dx fs) ∧ sp [.ref a] H Q E) := by
  intro pins s σ H x v Q I rx h
  obtain ⟨a, dx, fs, rfl, ha, q⟩ := h
  cases rx
  obtain ⟨mA, J, _⟩ := ins_get I.hok ha
  obtain ⟨od, J, _⟩ := J.look
  obtain ⟨m, hF⟩ := I.fr
  exact PySem.W.ksp_neg hF I.ok.mod.kin J hs hf (run_fn F hr hb .nil hx I (.cons (show L2.RelV (V.ref a) (Value.ref a) from rfl) .nil) q)
end
end Own

/-! own layer, of no law: OWN3: an own class and a built-in value, on either side. -/
namespace Own
open PySem PySem.Spec PySem.Calls PyProof.Rows
section
variable {prog : Program} {w : World} {A : Around} {E : Value → Shared → Prop} {s : Shared} {K : PySem.W.Frag} {x C f : Addr} {ox : Obj} {od : Option Obj} {T : String}
open PySem.W in
/-- own op built-in -/
theorem own_left {op : Operator} {b : Value} {r : Bool} {back ours : Option Value} {Q : Value → Shared → Prop} (KX : K.In s.heap) (J : InstAt s.heap x ox C od) (tb : Looks (model prog w) s.heap (typeOf b) (.type T)) (one : selfFirst K C = true)
    (me : findIn K (.ref C) (PySem.dunder op.info.2) = some (some (.ref f))) (fn : isFn K (.ref f) = true) (mr : findIn K (.ref C) (dunderR op.info.2) = some ours) (mp : ours = none ∨ ∃ g : Addr, ours = some (.ref g))
    (slot : fillsNumberSlot (.type T) op.info.2 = pure r) (their : typeLookup (.type T) (dunderR op.info.2) = pure back) (nosub : subIn K (.type T) (.ref C) = some false)
    (go : wpAny (model prog w) A (call (.ref f) [.ref x, b]) (PySem.W.CmpBack Q) E s) : wpAny (model prog w) A (binaryOp op (.ref x) b) Q E s := by
  obtain ⟨cd, tl, c1, c2⟩ := ksp_first one
  obtain ⟨sy, nm, e⟩ : ∃ sy nm, op.info = (sy, nm) := ⟨_, _, rfl⟩
  rw [e] at me mr slot their
  have did := ksp_try KX J me fn go
  obtain ⟨hp, gs, dr, tk, os⟩ := s
  have q1 : Looks (model prog w) hp (typeOf (.ref x)) (.ref C) := J.type
  have q3 : Looks (model prog w) hp (fillsNumberSlot (.ref C) nm) true := fills_K KX c1 c2 me
  have q4 : Looks (model prog w) hp (fillsNumberSlot (.type T) nm) r := Looks.of_pure slot
  have q5 : Looks (model prog w) hp (isSubtype (.type T) (.ref C)) false := looks_subIn KX nosub
  have q6 : Looks (model prog w) hp (numberSlotInPython (.ref C) nm) true := ksp_inPy KX me mr mp
  have q7 : Looks (model prog w) hp (numberSlotInPython (.type T) nm) false := Looks.of_pure rfl
  have q8 : Looks (model prog w) hp (typeLookup (.type T) (dunderR nm)) back := Looks.of_pure their
  have ne : (Value.ref C == Value.type T) = false := by rw [beq_eq_false_iff_ne]; intro z; cases z
  unfold binaryOp
  rw [e]
  dsimp only
  refine wpAny_holding (wpAny_bind ?_)
  unfold binaryOp1
  refine wpAny_bind (q1.at (wpAny_bind (tb.at (wpAny_bind (q3.at ?_)))))
  rw [ne]
  simp only [Bool.false_eq_true, if_false]
  cases r
  · ksp_lk
    refine wpAny_mono did (fun u s' z => ?_) fun _ _ z => z
    obtain ⟨v, rfl, hv⟩ := z
    ksp_lk
    exact hv
  · ksp_lk
    refine wpAny_mono did (fun u s' z => ?_) fun _ _ z => z
    obtain ⟨v, rfl, hv⟩ := z
    ksp_lk
    exact hv
open PySem.W in
/-- built-in op own: the built-in's own slot stands off, the class's reflected method takes them -/
theorem own_right {op : Operator} {a : Value} {l : Bool} {Q : Value → Shared → Prop} (KX : K.In s.heap) (J : InstAt s.heap x ox C od) (ta : ∀ s' : Shared, (∀ b o, s.heap.get? b = some o → s'.heap.get? b = some o) → Looks (model prog w) s'.heap (typeOf a) (.type T)) (one : selfFirst K C = true)
    (mr : findIn K (.ref C) (dunderR op.info.2) = some (some (.ref f))) (fn : isFn K (.ref f) = true) (fills : ∀ h : Heap, K.In h → Looks (model prog w) h (fillsNumberSlot (.ref C) op.info.2) true)
    (slot : fillsNumberSlot (.type T) op.info.2 = pure l) (nosub : subIn K (.ref C) (.type T) = some false)
    (off : l = true → ∀ {R : Option Value → Shared → Prop} {s' : Shared}, (∀ b o, s.heap.get? b = some o → s'.heap.get? b = some o) → (∀ t : Tok, R none { s' with toks := t }) → wpAny (model prog w) A (tryMethod a (PySem.dunder op.info.2) (.ref x)) R E s')
    (go : ∀ t : Tok, wpAny (model prog w) A (call (.ref f) [.ref x, a]) (PySem.W.CmpBack Q) E { s with toks := t }) : wpAny (model prog w) A (binaryOp op a (.ref x)) Q E s := by
  obtain ⟨sy, nm, e⟩ : ∃ sy nm, op.info = (sy, nm) := ⟨_, _, rfl⟩
  rw [e] at mr slot fills off
  have did : ∀ t : Tok, wpAny (model prog w) A (tryMethod (.ref x) (dunderR nm) a) (fun u s' => ∃ v, u = some v ∧ Q v s') E { s with toks := t } := fun t => ksp_try (s := { s with toks := t }) KX J mr fn (go t)
  have here := ta s fun _ _ z => z
  have q3 := fills s.heap KX
  obtain ⟨hp, gs, dr, tk, os⟩ := s
  have q1 : Looks (model prog w) hp (typeOf (.ref x)) (.ref C) := J.type
  have q2 : Looks (model prog w) hp (typeOf a) (.type T) := here
  have q4 : Looks (model prog w) hp (fillsNumberSlot (.type T) nm) l := Looks.of_pure slot
  have q5 : Looks (model prog w) hp (isSubtype (.ref C) (.type T)) false := looks_subIn KX nosub
  have q6 : Looks (model prog w) hp (fillsNumberSlot (.ref C) nm) true := q3
  have q7 : Looks (model prog w) hp (numberSlotInPython (.type T) nm) false := Looks.of_pure rfl
  have ne : (Value.type T == Value.ref C) = false := by rw [beq_eq_false_iff_ne]; intro z; cases z
  unfold binaryOp
  rw [e]
  dsimp only
  refine wpAny_holding (wpAny_bind ?_)
  unfold binaryOp1
  refine wpAny_bind (q2.at (wpAny_bind (q1.at (wpAny_bind (q4.at ?_)))))
  rw [ne]
  simp only [Bool.false_eq_true, if_false]
  refine wpAny_bind (q6.at ?_)
  cases l
  · ksp_lk
    refine wpAny_mono (did tk) (fun u s' z => ?_) fun _ _ z => z
    obtain ⟨v, rfl, hv⟩ := z
    ksp_lk
    exact hv
  · ksp_lk
    refine off rfl (fun _ _ z => z) fun t => ?_
    ksp_lk
    refine wpAny_mono (did t) (fun u s' z => ?_) fun _ _ z => z
    obtain ⟨v, rfl, hv⟩ := z
    ksp_lk
    exact hv
end
end Own

/-! own layer, of no law: OWN4. -/
namespace Own
open PySem PySem.Spec PySem.Calls PyProof.Rows AutoSeq1
def tys : List String := ["NoneType", "bool", "int", "str", "list", "tuple", "dict"]
theorem fill_add : ∀ T ∈ tys, fillsNumberSlot (.type T) "add" = pure (T == "int" || T == "bool") := by
  intro T hT
  simp only [tys, List.mem_cons, List.not_mem_nil, or_false] at hT
  rcases hT with rfl | rfl | rfl | rfl | rfl | rfl | rfl <;> kernel_rfl
theorem fill_sub : ∀ T ∈ tys, fillsNumberSlot (.type T) "sub" = pure (T == "int" || T == "bool") := by
  intro T hT
  simp only [tys, List.mem_cons, List.not_mem_nil, or_false] at hT
  rcases hT with rfl | rfl | rfl | rfl | rfl | rfl | rfl <;> kernel_rfl
theorem fill_mul : ∀ T ∈ tys, fillsNumberSlot (.type T) "mul" = pure (T == "int" || T == "bool") := by
  intro T hT
  simp only [tys, List.mem_cons, List.not_mem_nil, or_false] at hT
  rcases hT with rfl | rfl | rfl | rfl | rfl | rfl | rfl <;> kernel_rfl
theorem refl_add : ∀ T ∈ tys, typeLookup (.type T) (dunderR "add") = pure (if (T == "int" || T == "bool") = true then some (.builtin "int.__radd__") else none) := by
  intro T hT
  simp only [tys, List.mem_cons, List.not_mem_nil, or_false] at hT
  rcases hT with rfl | rfl | rfl | rfl | rfl | rfl | rfl <;> (rw [typeLookup_type, builtinLookup_eq_fast]; kernel_rfl)
theorem refl_sub : ∀ T ∈ tys, typeLookup (.type T) (dunderR "sub") = pure (if (T == "int" || T == "bool") = true then some (.builtin "int.__rsub__") else none) := by
  intro T hT
  simp only [tys, List.mem_cons, List.not_mem_nil, or_false] at hT
  rcases hT with rfl | rfl | rfl | rfl | rfl | rfl | rfl <;> (rw [typeLookup_type, builtinLookup_eq_fast]; kernel_rfl)
theorem refl_mul : ∀ T ∈ tys, typeLookup (.type T) (dunderR "mul") = pure (if (T == "int" || T == "bool") = true then some (.builtin "int.__rmul__") else if T == "str" then some (.builtin "str.__rmul__") else if T == "list" then some (.builtin "list.__rmul__") else if T == "tuple" then some (.builtin "tuple.__rmul__") else none) := by
  intro T hT
  simp only [tys, List.mem_cons, List.not_mem_nil, or_false] at hT
  rcases hT with rfl | rfl | rfl | rfl | rfl | rfl | rfl <;> (rw [typeLookup_type, builtinLookup_eq_fast]; kernel_rfl)
/-- an int's own slot stands off an object that is no int -/
theorem off_meets {nm : String} {x : Addr} {v : Value} {i : Int} {g : Int → Int → Sem Fin} (hv : (∃ t, v = .int i t) ∨ ∃ b, v = .bool b) : Meets (Builtin.Int.intBinary nm g false ⟨[v, .ref x], []⟩) (fun _ R s => ∃ o, s.heap.get? x = some o ∧ o.data = .plain ∧ R (.ok (.ret .notImplemented)) s) := by
  intro prog w A R s h
  obtain ⟨o, e, d, q⟩ := h
  obtain ⟨hp, gs, dr, tk, os⟩ := s
  rcases hv with ⟨t, rfl⟩ | ⟨b, rfl⟩
  · unfold Builtin.Int.intBinary
    wp_walk using wpAny_loadPart' e
    rw [d]
    exact wpAny_pure (wpAny_bind (wpAny_rule (wpAny_pure q)))
  · unfold Builtin.Int.intBinary
    wp_walk using wpAny_loadPart' e
    rw [d]
    exact wpAny_pure (wpAny_bind (wpAny_rule (wpAny_pure q)))
section
variable {prog : Program} {w : World} {A : Around} {E : Value → Shared → Prop} {s : Shared} {x : Addr} {o : Obj} {v : Value} {i : Int}
/-- .. so its method gives none -/
theorem off_try {T id : String} {nm : String} {nb : String} {g : Int → Int → Sem PySem.Fin} {R : Option Value → Shared → Prop} (hv : (∃ t, v = .int i t) ∨ ∃ b, v = .bool b) (ho : s.heap.get? x = some o) (hd : o.data = .plain) (hT : s.TypeIs v T) (slot : Slot T (dunder nm) id)
    (entry : entryFor table id = some (Builtin.Int.intBinary nb g false)) (args : argsOk id ⟨[v, .ref x], []⟩) (h : R none s) : wpAny (model prog w) A (tryMethod v (dunder nm) (.ref x)) R E s := by
  unfold tryMethod
  exact wpAny_bind (wpAny_callSpecial?_slot hT slot (call_meets slot hT entry args (off_meets hv) ⟨o, ho, hd, wpAny_pure h⟩))
theorem off_add {R : Option Value → Shared → Prop} (ho : s.heap.get? x = some o) (hd : o.data = .plain) (h : R none s) : (∀ t, v = .int i t → wpAny (model prog w) A (tryMethod v (dunder "add") (.ref x)) R E s) ∧ (∀ b, v = .bool b → wpAny (model prog w) A (tryMethod v (dunder "add") (.ref x)) R E s) := by
  refine ⟨fun t e => ?_, fun b e => ?_⟩
  · exact off_try (T := "int") (i := i) (.inl ⟨t, e⟩) ho hd (by rw [e]; exact rfl) F.slot_int_add F.entry_int_add (F.args_int_add_2 _ _) h
  · exact off_try (T := "bool") (i := i) (.inr ⟨b, e⟩) ho hd (by rw [e]; exact rfl) F.slot_bool_add F.entry_int_add (F.args_int_add_2 _ _) h
end
end Own

/-! own layer, of no law: OWN5: rules for an own class's operators with what is handed in. -/
namespace Own
open PySem PySem.Spec PyProof.Rows L2 LamX NdefX
/-- what an operator's built-in slots say -/
structure OpB (op : Operator) : Prop where
  fill : ∀ T ∈ tys, fillsNumberSlot (.type T) op.info.2 = pure (T == "int" || T == "bool")
  back : ∀ T ∈ tys, ∃ r, typeLookup (.type T) (dunderR op.info.2) = pure r
  off : ∀ {prog : Program} {w : World} {A : Around} {E : Value → Shared → Prop} {s : Shared} {x : Addr} {o : Obj} {v : Value} {i : Int} {R : Option Value → Shared → Prop}, s.heap.get? x = some o → o.data = .plain → ((∃ t, v = .int i t) ∨ ∃ b, v = .bool b) → R none s →
    wpAny (model prog w) A (tryMethod v (PySem.dunder op.info.2) (.ref x)) R E s
theorem opb_add : OpB .Add := ⟨fill_add, fun T h => ⟨_, refl_add T h⟩, fun {prog w A E s x o v i R} ho hd hv h => by
  rcases hv with ⟨t, e⟩ | ⟨b, e⟩
  · exact off_try (T := "int") (i := i) (.inl ⟨t, e⟩) ho hd (by rw [e]; exact rfl) F.slot_int_add F.entry_int_add (F.args_int_add_2 _ _) h
  · exact off_try (T := "bool") (i := i) (.inr ⟨b, e⟩) ho hd (by rw [e]; exact rfl) F.slot_bool_add F.entry_int_add (F.args_int_add_2 _ _) h⟩
theorem opb_sub : OpB .Sub := ⟨fill_sub, fun T h => ⟨_, refl_sub T h⟩, fun {prog w A E s x o v i R} ho hd hv h => by
  rcases hv with ⟨t, e⟩ | ⟨b, e⟩
  · exact off_try (T := "int") (i := i) (.inl ⟨t, e⟩) ho hd (by rw [e]; exact rfl) F.slot_int_sub F.entry_int_sub (F.args_int_sub_2 _ _) h
  · exact off_try (T := "bool") (i := i) (.inr ⟨b, e⟩) ho hd (by rw [e]; exact rfl) F.slot_bool_sub F.entry_int_sub (F.args_int_sub_2 _ _) h⟩
theorem opb_mul : OpB .Mult := ⟨fill_mul, fun T h => ⟨_, refl_mul T h⟩, fun {prog w A E s x o v i R} ho hd hv h => by
  rcases hv with ⟨t, e⟩ | ⟨b, e⟩
  · exact off_try (T := "int") (i := i) (.inl ⟨t, e⟩) ho hd (by rw [e]; exact rfl) F.slot_int_mul F.entry_int_mul (F.args_int_mul_2 _ _) h
  · exact off_try (T := "bool") (i := i) (.inr ⟨b, e⟩) ho hd (by rw [e]; exact rfl) F.slot_bool_mul F.entry_int_mul (F.args_int_mul_2 _ _) h⟩
section
variable {X : Cx} {pins : List (Addr × Obj)} {σ : L2.St} {H : Hp} {s : Shared}
/-- of which built-in type a thing is -/
theorem thing_ty {x : V} {v : Value} (I : Inv X pins σ H s) (t : Thing H x) (r : RelV x v) : ∃ T ∈ tys, PySem.W.Looks (model X.prog X.w) s.heap (typeOf v) (.type T) ∧ ((T == "int" || T == "bool") = true → ∃ i : Int, (∃ t, v = .int i t) ∨ ∃ b, v = .bool b) := by
  cases t with
  | non =>
    obtain rfl : v = .none := r
    exact ⟨"NoneType", by simp [tys], .of_pure rfl, fun z => absurd z (by decide)⟩
  | bl b =>
    obtain rfl : v = .bool b := r
    exact ⟨"bool", by simp [tys], .of_pure rfl, fun _ => ⟨0, .inr ⟨b, rfl⟩⟩⟩
  | int i =>
    obtain ⟨t, rfl⟩ := r
    exact ⟨"int", by simp [tys], .of_pure rfl, fun _ => ⟨i, .inl ⟨t, rfl⟩⟩⟩
  | str z =>
    obtain ⟨t, rfl⟩ := r
    exact ⟨"str", by simp [tys], .of_pure rfl, fun z => absurd z (by decide)⟩
  | @lst a xs e =>
    obtain rfl : v = .ref a := r
    obtain ⟨_, its, n, _, ho⟩ := I.hok a _ e
    exact ⟨"list", by simp [tys], fun A Q E s' k q => wpAny_typeOf_ref (k _ _ ho) q, fun z => absurd z (by decide)⟩
  | @tup a xs e =>
    obtain rfl : v = .ref a := r
    obtain ⟨_, its, _, o, ho, hc, _⟩ := I.hok a _ e
    exact ⟨"tuple", by simp [tys], fun A Q E s' k q => wpAny_typeOf_ref (k _ _ ho) (by rw [hc]; exact q), fun z => absurd z (by decide)⟩
  | @dct a kvs e =>
    obtain rfl : v = .ref a := r
    obtain ⟨_, _, vs, _, o, es, ep, ho, hc, _⟩ := I.hok a _ e
    exact ⟨"dict", by simp [tys], fun A Q E s' k q => wpAny_typeOf_ref (k _ _ ho) (by rw [hc.1]; exact q), fun z => absurd z (by decide)⟩
variable {CX : CXT} {n : Nat} {C f g : Addr} {fd : FuncData} {ps : List Str} {sp : Sp} {E : XK} {op : Operator}
/-- own op thing -/
theorem op_ownL (B : OpB op) (F : FnOk X.prog X.w X.K X.mg X.base CX n f fd ps sp) (hr : Room n X.A) (hc : PySem.W.selfFirst X.K C = true) (hs : PySem.W.findIn X.K (.ref C) (PySem.dunder op.info.2) = some (some (.ref f))) (hf : PySem.W.isFn X.K (.ref f) = true)
    (hm : PySem.W.findIn X.K (.ref C) (dunderR op.info.2) = some (some (.ref g))) (hsub : ∀ T ∈ tys, PySem.W.subIn X.K (.type T) (.ref C) = some false) (hb : Binds X.K fd ps []) (hx : Passes CX X E) :
    OpR X (binaryOp op) (fun x y H Q => ∃ a dx fs, x = V.ref a ∧ H a = some (.ins C dx fs) ∧ Thing H y ∧ sp [.ref a, y] H Q E) := by
  intro pins s σ H x y v u Q I rx ry h
  obtain ⟨a, dx, fs, rfl, ha, ty, q⟩ := h
  cases rx
  obtain ⟨mA, J, _⟩ := ins_get I.hok ha
  obtain ⟨od, J, _⟩ := J.look
  obtain ⟨T, hT, lk, _⟩ := thing_ty I ty ry
  obtain ⟨r, hbk⟩ := B.back T hT
  exact own_left I.kIn J lk hc hs hf hm (.inr ⟨g, rfl⟩) (B.fill T hT) hbk (hsub T hT) (back_of (run_fn F hr hb .nil hx I (.cons (show L2.RelV (V.ref a) (Value.ref a) from rfl) (.cons ry .nil)) q))
/-- thing op own -/
theorem op_ownR (B : OpB op) (F : FnOk X.prog X.w X.K X.mg X.base CX n f fd ps sp) (hr : Room n X.A) (hc : PySem.W.selfFirst X.K C = true) (hs : PySem.W.findIn X.K (.ref C) (PySem.dunder op.info.2) = some (some (.ref g))) (hf : PySem.W.isFn X.K (.ref f) = true)
    (hm : PySem.W.findIn X.K (.ref C) (dunderR op.info.2) = some (some (.ref f))) (hsub : ∀ T ∈ tys, PySem.W.subIn X.K (.ref C) (.type T) = some false) (hb : Binds X.K fd ps []) (hx : Passes CX X E) :
    OpR X (binaryOp op) (fun x y H Q => ∃ b dy fs, y = V.ref b ∧ H b = some (.ins C dy fs) ∧ Thing H x ∧ sp [.ref b, x] H Q E) := by
  intro pins s σ H x y v u Q I rx ry h
  obtain ⟨b, dy, fs, rfl, hb', tx, q⟩ := h
  cases ry
  obtain ⟨mB, J, _⟩ := ins_get I.hok hb'
  obtain ⟨od, J, _⟩ := J.look
  obtain ⟨T, hT, lk, num⟩ := thing_ty I tx rx
  obtain ⟨cd, tl, c1, c2⟩ := PySem.W.ksp_first hc
  refine own_right I.kIn J (fun s' k => lk.keeps k) hc hm hf (fun h K' => PySem.W.fills_K K' c1 c2 hs) (B.fill T hT) (hsub T hT) (fun z R s' k hR => ?_) fun t => ?_
  · obtain ⟨i, hi⟩ := num z
    obtain ⟨_, _, _, ho, _⟩ := I.hok b _ hb'
    exact B.off (k _ _ ho) rfl hi (hR s'.toks)
  · exact back_of (run_fn F hr hb .nil hx (I.tok t) (.cons (show L2.RelV (V.ref b) (Value.ref b) from rfl) (.cons rx .nil)) q)
end
end Own

/-! own layer, of no law: OWN6: == and abs of an own class. -/
namespace Own
open PySem PySem.Spec PyProof.Rows L2 LamX NdefX
section
variable {X : Cx} {pins : List (Addr × Obj)} {σ : L2.St} {H : Hp} {s : Shared}
variable {CX : CXT} {n : Nat} {C f : Addr} {fd : FuncData} {ps : List Str} {sp : Sp} {E : XK}
/-- own == anything -/
theorem op_ownEq (F : FnOk X.prog X.w X.K X.mg X.base CX n f fd ps sp) (hr : Room n X.A) (hs : PySem.W.findIn X.K (.ref C) "__eq__" = some (some (.ref f))) (hf : PySem.W.isFn X.K (.ref f) = true) (hsub : ∀ T ∈ tys, PySem.W.subIn X.K (.type T) (.ref C) = some false) (hb : Binds X.K fd ps []) (hx : Passes CX X E) :
    OpR X (compareOp .Eq) (fun x y H Q => ∃ a dx fs, x = V.ref a ∧ H a = some (.ins C dx fs) ∧ ((∃ b dy gs, y = V.ref b ∧ H b = some (.ins C dy gs)) ∨ Thing H y) ∧ sp [.ref a, y] H Q E) := by
  intro pins s σ H x y v u Q I rx ry h
  obtain ⟨a, dx, fs, rfl, ha, ty, q⟩ := h
  cases rx
  obtain ⟨mA, J, _⟩ := ins_get I.hok ha
  obtain ⟨od, J, _⟩ := J.look
  obtain ⟨m, hF⟩ := I.fr
  have un : X.A.units < cLine := by
    have := hr.units
    omega
  show wpAny (model X.prog X.w) X.A (richCompare .Eq (.ref a) u) (EP X pins σ Q) X.xe s
  have call := back_of (run_fn F hr hb .nil hx I (.cons (show L2.RelV (V.ref a) (Value.ref a) from rfl) (.cons ry .nil)) q)
  rcases ty with ⟨b, dy, gs, rfl, hb'⟩ | ty
  · cases ry
    obtain ⟨mB, J', _⟩ := ins_get I.hok hb'
    obtain ⟨od', J', _⟩ := J'.look
    exact PySem.W.cmp_K (op := .Eq) (tb := .ref C) un hF I.ok.mod.kin J J'.type (by simp [PySem.W.notFirst]) hs hf call
  · obtain ⟨T, hT, lk, _⟩ := thing_ty I ty ry
    exact PySem.W.cmp_K (op := .Eq) (tb := .type T) un hF I.ok.mod.kin J lk (by unfold PySem.W.notFirst; rw [hsub T hT]; simp) hs hf call
/-- abs(own) -/
theorem call_absOwn (F : FnOk X.prog X.w X.K X.mg X.base CX n f fd ps sp) (hr : Room (n + 1) X.A) (hs : PySem.W.findIn X.K (.ref C) "__abs__" = some (some (.ref f))) (hf : PySem.W.isFn X.K (.ref f) = true) (hb : Binds X.K fd ps []) (hx : Passes CX X E) :
    CallR X (.builtin "abs") (fun xs H Q => ∃ a dx fs, xs = [V.ref a] ∧ H a = some (.ins C dx fs) ∧ sp [.ref a] H Q E) := by
  intro pins s σ H xs us Q I rs h
  obtain ⟨a, dx, fs, rfl, ha, q⟩ := h
  obtain ⟨u, rfl, rx⟩ := vals1 rs
  cases rx
  obtain ⟨mA, J, _⟩ := ins_get I.hok ha
  obtain ⟨od, J, _⟩ := J.look
  have A1 : Room n X.A.in1 := hr.in1
  refine PySem.Calls.call_function_entry kind_abs plain_abs entry_abs (args_abs _) ?_
  unfold Builtin.«abs»
  refine wpAny_bind (m := oneArg "abs" _) (wpAny_pure ?_)
  refine wpAny_bind (m := callSpecial? (.ref a) (Str.ofString "__abs__")) (PySem.W.special_fn I.kIn J hs (beq_iff_eq.mp hf) ?_)
  have e0 : Env0 X.prog X.w X.K X.mg X.base X.A.in1 X.stack s H := by
    have e := I.env0
    exact ⟨e.frames, e.mod, e.bs, e.bsz, e.funs, e.frf, e.hok, e.bare⟩
  have r1 : Vals [V.ref a] [Value.ref a] := .cons (show L2.RelV (V.ref a) (Value.ref a) from rfl) .nil
  have hl := F.len _ _ _ _ q
  refine wpAny_call (codeAny_mono (F.run X.A.in1 X.stack s H ⟨[.ref a], []⟩ [.ref a] [.ref a] Q E A1 e0 (by
    have z := hb s [.ref a] I.kIn (by simpa using hl)
    simpa using z) r1 q) fun r s' hq => ?_)
  cases r with
  | error e => exact hx pins σ H s e s' I hq
  | ok fl =>
    cases fl with
    | ret w => exact wpAny_pure ⟨_, rfl, I.after hq⟩
    | next => exact False.elim hq
    | brk => exact False.elim hq
    | cont => exact False.elim hq
end
end Own

/-! own layer, of no law: OWN7: != of an own class that has == alone. -/
namespace Own
open PySem PySem.Spec PySem.Calls PyProof.Rows
section
variable {prog : Program} {w : World} {A : Around} {E : Value → Shared → Prop} {s : Shared} {K : PySem.W.Frag} {x C f : Addr} {ox : Obj} {od : Option Obj}
open PySem.W in
theorem ne_body {b : Value} {Q : Fin → Shared → Prop} (un : A.units < cLine) (KX : K.In s.heap) (J : InstAt s.heap x ox C od) (eq : findIn K (.ref C) "__eq__" = some (some (.ref f))) (fn : isFn K (.ref f) = true)
    (go : wpAny (model prog w) A (call (.ref f) [.ref x, b]) (fun v s' => ∃ c, v = .bool c ∧ Q (.done (.ret (.bool (!c)))) s') E s) : wpAny (model prog w) A (Builtin.«object.__ne__» ⟨[.ref x, b], []⟩) Q E s := by
  unfold Builtin.«object.__ne__»
  refine wpAny_bind (m := slotArgs "__ne__" 1 _) (wpAny_pure ?_)
  dsimp only
  refine wpAny_bind (wpAny_cRoomFor un ?_)
  refine wpAny_bind (m := callSpecialIfBound? (.ref x) (Str.ofString "__eq__") [b]) (ifBound_K KX J eq fn (wpAny_mono go (fun v s' z => ?_) fun _ _ e => e))
  obtain ⟨c, rfl, q⟩ := z
  exact wpAny_bind (wpAny_truthy_bool (wpAny_pure q))
theorem ne_args (a b : Value) : argsOk "object.__ne__" ⟨[a, b], []⟩ := F.cmpArgs_ne a b
theorem ne_bind (self : Value) : bindSpecial (.builtin "object.__ne__") self = pure (.builtin "object.__ne__", [self]) :=
  (Slot.of (T := "object") (name := "__ne__") (owner := "object") (n := "__ne__") (by rw [typeLookup_type, builtinLookup_eq_fast]; kernel_rfl) (by decide +kernel) (by decide +kernel) (by decide +kernel) (.inl (by decide +kernel)) (by rw [isSubtype_type]; kernel_rfl)).bind self
open PySem.W in
theorem ne_try {b : Value} {Q : Option Value → Shared → Prop} (un : A.units + 1 < cLine) (KX : K.In s.heap) (J : InstAt s.heap x ox C od) (ne : findIn K (.ref C) "__ne__" = some (some (.builtin "object.__ne__"))) (obj : subIn K (.ref C) (.type "object") = some true) (eq : findIn K (.ref C) "__eq__" = some (some (.ref f))) (fn : isFn K (.ref f) = true)
    (go : wpAny (model prog w) A.in1 (call (.ref f) [.ref x, b]) (fun v s' => ∃ c, v = .bool c ∧ Q (some (.bool (!c))) s') E s) : wpAny (model prog w) A (tryCompare (.ref x) "__ne__" b) Q E s := by
  have isO : Looks (model prog w) s.heap (isInstance (.ref x) (.type "object")) true := J.type.andThen (looks_subIn KX obj)
  have run : wpAny (model prog w) A (call (.builtin "object.__ne__") [.ref x, b]) (fun v s' => ∃ c : Bool, v = .bool c ∧ Q (some (.bool c)) s') E s := by
    refine wpAny_call (codeAny_call_builtin (by decide +kernel) F.cmpEntry_ne (check_slot F.cmpKind_ne F.cmpSplit_ne isO (ne_args _ _) (ne_body (A := A.in1) (by exact un) KX J eq fn (wpAny_mono go (fun v s' z => ?_) fun _ _ e => e))))
    obtain ⟨c, rfl, q⟩ := z
    exact ⟨c, rfl, ⟨!c, rfl, q⟩⟩
  have fin : wpAny (model prog w) A (call (.builtin "object.__ne__") ([.ref x] ++ [b]) >>= fun v => pure (some v)) (fun r s' => ∃ c : Bool, r = some (.bool c) ∧ Q (some (.bool c)) s') E s := wpAny_bind (wpAny_mono run (fun v s' z => by
    obtain ⟨c, rfl, q⟩ := z
    exact wpAny_pure ⟨c, rfl, q⟩) fun _ _ e => e)
  have whole : wpAny (model prog w) A (callSpecialIfBound? (.ref x) "__ne__" [b]) (fun r s' => ∃ c : Bool, r = some (.bool c) ∧ Q (some (.bool c)) s') E s := by
    simp only [callSpecialIfBound?, bindSpecialIfBound?]
    refine wpAny_holding (wpAny_bind (wpAny_bind (wpAny_bind (J.type.here ((looks_findIn KX ne).here ?_)))))
    refine wpAny_bind (wpAny_askSetting (wpAny_ite ?_))
    split
    · rw [ne_bind]
      exact wpAny_bind (wpAny_pure (wpAny_pure fin))
    · rw [ne_bind]
      exact wpAny_tryCatch (wpAny_bind (wpAny_pure (wpAny_pure fin)))
  unfold tryCompare
  refine wpAny_bind (wpAny_mono whole (fun r s' z => ?_) fun _ _ e => e)
  obtain ⟨c, rfl, q⟩ := z
  exact wpAny_pure q
open PySem.W in
/-- own != b -/
theorem own_ne {b tb : Value} {Q : Value → Shared → Prop} (un : A.units + 1 < cLine) (KX : K.In s.heap) (J : InstAt s.heap x ox C od) (lk : Looks (model prog w) s.heap (typeOf b) tb) (nf : notFirst K C tb = true) (ne : findIn K (.ref C) "__ne__" = some (some (.builtin "object.__ne__"))) (obj : subIn K (.ref C) (.type "object") = some true)
    (eq : findIn K (.ref C) "__eq__" = some (some (.ref f))) (fn : isFn K (.ref f) = true) (go : wpAny (model prog w) A.in1 (call (.ref f) [.ref x, b]) (fun v s' => ∃ c, v = .bool c ∧ Q (.bool (!c)) s') E s) : wpAny (model prog w) A (richCompare .NotEq (.ref x) b) Q E s := by
  have one : wpAny (model prog w) A (tryCompare (.ref x) "__ne__" b) (fun r s' => ∃ v, r = some v ∧ Q v s') E s := ne_try un KX J ne obj eq fn (wpAny_mono go (fun v s' z => by
    obtain ⟨c, rfl, q⟩ := z
    exact ⟨c, rfl, _, rfl, q⟩) fun _ _ e => e)
  unfold richCompare
  simp only [oneThing_ref]
  refine wpAny_holding (wpAny_bind (wpAny_cRoomFor (Nat.lt_of_succ_lt un) ?_))
  refine wpAny_bind (J.type.here (wpAny_bind (lk.here ?_)))
  split
  · rename_i hd
    have sb : subIn K tb (.ref C) = some false := by
      unfold notFirst at nf
      rcases Bool.or_eq_true_iff.mp nf with z | z
      · rw [beq_iff_eq.mp z] at hd
        simp at hd
      · exact beq_iff_eq.mp z
    refine wpAny_bind ((looks_subIn KX sb).here ?_)
    rw [if_neg Bool.false_ne_true]
    refine wpAny_bind (wpAny_mono one (fun r s' z => ?_) fun _ _ z => z)
    obtain ⟨v, rfl, hv⟩ := z
    exact wpAny_pure hv
  · refine wpAny_bind (wpAny_pure ?_)
    rw [if_neg Bool.false_ne_true]
    refine wpAny_bind (wpAny_mono one (fun r s' z => ?_) fun _ _ z => z)
    obtain ⟨v, rfl, hv⟩ := z
    exact wpAny_pure hv
end
end Own

/-! own layer, of no law: OWN8: the rule of !=. -/
namespace Own
open PySem PySem.Spec PyProof.Rows L2 LamX NdefX
section
variable {X : Cx} {pins : List (Addr × Obj)} {σ : L2.St} {H : Hp} {s : Shared}
variable {CX : CXT} {n : Nat} {C f : Addr} {fd : FuncData} {ps : List Str} {sp : Sp} {E : XK}
/-- a def's run one call deeper -/
theorem run_in1 {us : List Value} {vs : List V} {Q : VK} {R : Value → Shared → Prop} (F : FnOk X.prog X.w X.K X.mg X.base CX n f fd ps sp) (hr : Room (n + 1) X.A) (hb : Binds X.K fd ps []) (hx : Passes CX X E) (I : Inv X pins σ H s) (r : Vals vs us) (q : sp vs H Q E)
    (k : ∀ v s', EP X pins σ Q v s' → R v s') : wpAny (model X.prog X.w) X.A.in1 (call (.ref f) us) R X.xe s := by
  have e0 : Env0 X.prog X.w X.K X.mg X.base X.A.in1 X.stack s H := by
    have e := I.env0
    exact ⟨e.frames, e.mod, e.bs, e.bsz, e.funs, e.frf, e.hok, e.bare⟩
  have hl := F.len _ _ _ _ q
  have bt : BindsTo s fd ⟨us, []⟩ (ps.zip us) := by
    have z := hb s us I.kIn (by rw [List.append_nil, ← r.length]; exact hl)
    rw [List.append_nil] at z
    exact z
  refine wpAny_call (codeAny_mono (F.run X.A.in1 X.stack s H ⟨us, []⟩ us vs Q E hr.in1 e0 bt r q) fun r s' hq => ?_)
  cases r with
  | error e => exact hx pins σ H s e s' I hq
  | ok fl =>
    cases fl with
    | ret w => exact k _ _ (I.after hq)
    | next => exact False.elim hq
    | brk => exact False.elim hq
    | cont => exact False.elim hq
/-- own != anything -/
theorem op_ownNe (F : FnOk X.prog X.w X.K X.mg X.base CX n f fd ps sp) (hr : Room (n + 1) X.A) (ne : PySem.W.findIn X.K (.ref C) "__ne__" = some (some (.builtin "object.__ne__"))) (obj : PySem.W.subIn X.K (.ref C) (.type "object") = some true) (hs : PySem.W.findIn X.K (.ref C) "__eq__" = some (some (.ref f))) (hf : PySem.W.isFn X.K (.ref f) = true)
    (hsub : ∀ T ∈ tys, PySem.W.subIn X.K (.type T) (.ref C) = some false) (hb : Binds X.K fd ps []) (hx : Passes CX X E) :
    OpR X (compareOp .NotEq) (fun x y H Q => ∃ a dx fs, x = V.ref a ∧ H a = some (.ins C dx fs) ∧ ((∃ b dy gs, y = V.ref b ∧ H b = some (.ins C dy gs)) ∨ Thing H y) ∧ sp [.ref a, y] H (fun v H' => ∃ c, v = .bl c ∧ Q (.bl (!c)) H') E) := by
  intro pins s σ H x y v u Q I rx ry h
  obtain ⟨a, dx, fs, rfl, ha, ty, q⟩ := h
  cases rx
  obtain ⟨mA, J, _⟩ := ins_get I.hok ha
  obtain ⟨od, J, _⟩ := J.look
  have un : X.A.units + 1 < cLine := by
    have := hr.un
    omega
  show wpAny (model X.prog X.w) X.A (richCompare .NotEq (.ref a) u) (EP X pins σ Q) X.xe s
  have go : wpAny (model X.prog X.w) X.A.in1 (call (.ref f) [.ref a, u]) (fun v s' => ∃ c, v = .bool c ∧ EP X pins σ Q (.bool (!c)) s') X.xe s := run_in1 F hr hb hx I (.cons (show L2.RelV (V.ref a) (Value.ref a) from rfl) (.cons ry .nil)) q fun v s' z => by
    obtain ⟨z, H', I', rz, c, rfl, q'⟩ := z
    obtain rfl : v = .bool c := rz
    exact ⟨c, rfl, .bl (!c), H', I', rfl, q'⟩
  rcases ty with ⟨b, dy, gs, rfl, hb'⟩ | ty
  · cases ry
    obtain ⟨mB, J', _⟩ := ins_get I.hok hb'
    obtain ⟨od', J', _⟩ := J'.look
    exact own_ne un I.kIn J J'.type (by simp [PySem.W.notFirst]) ne obj hs hf go
  · obtain ⟨T, hT, lk, _⟩ := thing_ty I ty ry
    exact own_ne un I.kIn J lk (by unfold PySem.W.notFirst; rw [hsub T hT]; simp) ne obj hs hf go
end
end Own

/-! own layer, of no law: OWN9: an attribute as one of several targets. -/
namespace Own
open PySem PySem.Spec PyProof.Rows L2 LamX NdefX
section
variable {X : Cx} {o : Expr} {ta : TE} {f : Str} {pos : Pos}
def gFld (K : PySem.W.Frag) (ta : TE) (f : Str) : TG := fun y σ H Q => ta σ H fun x H2 => ∃ a C dx fs, x = V.ref a ∧ H2 a = some (.ins C dx fs) ∧ Cls K C ∧ NoAttr K C f ∧ fs.length < 1000 ∧ Q σ (upd H2 a (.ins C dx (putF f y fs)))
theorem pg_fld (ha : PE X o ta) : PG X (.Attribute o f pos) (gFld X.K ta f) := by
  refine ⟨fun pins s σ H v u Q I r h => ?_⟩
  have e : assign (.Attribute o f pos) X.env u = (do
      let ov ← holding [u] (eval o X.env)
      standAt pos.atName
      holding [u, ov] (setAttr ov f u)
      PySem.release [u, ov] []) := rfl
  rw [e]
  refine wpAny_bind (wpAny_holding (thn (ha.run pins s σ H _ I h) fun ov s1 z => ?_))
  obtain ⟨x, H1, I1, rx, a, C, dx, fs, rfl, ea, c, n, l, q⟩ := z
  obtain rfl : ov = Value.ref a := rx
  refine wpAny_bind (wpAny_standAt (wpAny_bind (wpAny_holding (setattr_ok I1 ea c n l r fun s3 I3 => ?_))))
  exact wpAny_release ⟨σ, _, I3, q⟩
end
end Own

/-! own layer, of no law: OWNW: the nine ways, their mathematics. -/
namespace Own
open PySem PySem.Spec PyProof.Rows L2 LamX NdefX
def waysL : List Str := ["floor", "ceiling", "cut", "away", "halfup", "halfdown", "halfeven", "halfaway", "halfcut"]
def mirrL : List (Str × Str) := [("floor", "ceiling"), ("ceiling", "floor"), ("halfup", "halfdown"), ("halfdown", "halfup")]
def halvL : List (Str × Str) := [("halfup", "ceiling"), ("halfdown", "floor"), ("halfeven", "even"), ("halfaway", "away"), ("halfcut", "cut")]
def baseUp (w : Str) (b : Int) : Bool := if w = "even" then decide (b % 2 = 1) else if w = "cut" then decide (b < 0) else if w = "away" then decide (0 ≤ b) else decide (w = "ceiling")
def goesUp (w : Str) (b p : Int) : Bool := match halvL.lookup w with
  | some h => if p = 0 then baseUp h b else decide (0 < p)
  | none => baseUp w b
def near (n d : Int) (w : Str) : Int := if n % d = 0 then n / d else if goesUp w (n / d) (2 * (n % d) - d) = true then n / d + 1 else n / d
def mirr (w : Str) : Str := (mirrL.lookup w).getD w
theorem dec_int (a b : Int) : decide (V.int a = V.int b) = decide (a = b) := by simp
theorem dec_str (a b : Str) : decide (V.str a = V.str b) = decide (a = b) := by simp
/-- what the walk asks of the top: the names of built-ins are free; the tables -/
structure Txt (P : Program) (w : World) (K : PySem.W.Frag) (mg : Str → Option Value) (base : Heap) (C aW aM aH : Addr) (eM : Array DictEntry) (nM : Nat) (eH : Array DictEntry) (nH : Nat) : Prop where
  isi : mg "isinstance" = none
  int : mg "int" = none
  bool : mg "bool" = none
  len : mg "len" = none
  list : mg "list" = none
  range : mg "range" = none
  tuple : mg "tuple" = none
  all : mg "all" = none
  dm : mg "divmod" = none
  err : ErrC P w K mg base "BadValue" "value" 1 C (spErr C "value")
  gW : mg "WAYS" = some (.ref aW)
  ways : ∀ H : Hp, SqT K H aW (waysL.map V.str)
  gM : mg "MIRRORS" = some (.ref aM)
  dM : KDict K w aM eM nM
  mirr : ∀ z ∈ waysL, KGet K aM z ((mirrL.lookup z).map V.str)
  gH : mg "HALVES" = some (.ref aH)
  dH : KDict K w aH eH nH
  halv : ∀ z ∈ waysL, KGet K aH z ((halvL.lookup z).map V.str)
def isWay : V → Bool
  | .str z => decide (z ∈ waysL)
  | _ => false
theorem isWay_str {x : V} (h : isWay x = true) : ∃ z ∈ waysL, x = .str z := by
  cases x with
  | str z => exact ⟨z, by simpa [isWay] using h, rfl⟩
  | _ => simp [isWay] at h
theorem way_cases {z : Str} (h : z ∈ waysL) : z = "floor" ∨ z = "ceiling" ∨ z = "cut" ∨ z = "away" ∨ z = "halfup" ∨ z = "halfdown" ∨ z = "halfeven" ∨ z = "halfaway" ∨ z = "halfcut" := by
  simpa [waysL] using h
def baseK (z : Str) : Nat := if z = "even" then 0 else if z = "cut" then 1 else if z = "away" then 2 else if z = "ceiling" then 3 else 4
def kUp : Nat → Int → Bool
  | 0, b => decide (b % 2 = 1)
  | 1, b => decide (b < 0)
  | 2, b => decide (0 ≤ b)
  | 3, _ => true
  | _, _ => false
theorem base_k (z : Str) (b : Int) : baseUp z b = kUp (baseK z) b := by
  unfold baseUp baseK
  by_cases h1 : z = "even"
  · rw [if_pos h1, if_pos h1]
    rfl
  rw [if_neg h1, if_neg h1]
  by_cases h2 : z = "cut"
  · rw [if_pos h2, if_pos h2]
    rfl
  rw [if_neg h2, if_neg h2]
  by_cases h3 : z = "away"
  · rw [if_pos h3, if_pos h3]
    rfl
  rw [if_neg h3, if_neg h3]
  by_cases h4 : z = "ceiling"
  · rw [if_pos h4, decide_eq_true h4]
    rfl
  · rw [if_neg h4, decide_eq_false h4]
    rfl
theorem goes_none {z : Str} {k : Nat} (h : halvL.lookup z = none) (hk : baseK z = k) (b p : Int) : goesUp z b p = kUp k b := by
  unfold goesUp
  rw [h, ← hk]
  exact base_k z b
theorem goes_some {z y : Str} {k : Nat} (h : halvL.lookup z = some y) (hk : baseK y = k) (b p : Int) : goesUp z b p = if p = 0 then kUp k b else decide (0 < p) := by
  unfold goesUp
  rw [h, ← hk, ← base_k]
theorem mirr_of {z y : Str} (h : (mirrL.lookup z).getD z = y) : mirr z = y := h
theorem goes_mirr {z : Str} (hz : z ∈ waysL) (b p : Int) : goesUp (mirr z) (-b - 1) (-p) = !goesUp z b p := by
  rcases way_cases hz with rfl | rfl | rfl | rfl | rfl | rfl | rfl | rfl | rfl
  · rw [mirr_of (y := "ceiling") (by decide +kernel), goes_none (k := 3) (by decide +kernel) (by decide +kernel), goes_none (k := 4) (by decide +kernel) (by decide +kernel)]
    rfl
  · rw [mirr_of (y := "floor") (by decide +kernel), goes_none (k := 4) (by decide +kernel) (by decide +kernel), goes_none (k := 3) (by decide +kernel) (by decide +kernel)]
    rfl
  · rw [mirr_of (y := "cut") (by decide +kernel), goes_none (k := 1) (by decide +kernel) (by decide +kernel), goes_none (k := 1) (by decide +kernel) (by decide +kernel)]
    show decide (-b - 1 < 0) = !decide (b < 0)
    by_cases h : b < 0
    · rw [decide_eq_true h, decide_eq_false (by omega)]; rfl
    · rw [decide_eq_false h, decide_eq_true (by omega)]; rfl
  · rw [mirr_of (y := "away") (by decide +kernel), goes_none (k := 2) (by decide +kernel) (by decide +kernel), goes_none (k := 2) (by decide +kernel) (by decide +kernel)]
    show decide (0 ≤ -b - 1) = !decide (0 ≤ b)
    by_cases h : 0 ≤ b
    · rw [decide_eq_true h, decide_eq_false (by omega)]; rfl
    · rw [decide_eq_false h, decide_eq_true (by omega)]; rfl
  · rw [mirr_of (y := "halfdown") (by decide +kernel), goes_some (k := 4) (y := "floor") (by decide +kernel) (by decide +kernel), goes_some (k := 3) (y := "ceiling") (by decide +kernel) (by decide +kernel)]
    by_cases h : p = 0
    · rw [if_pos h, if_pos (by omega)]; rfl
    · rw [if_neg h, if_neg (by omega)]
      by_cases h : 0 < p
      · rw [decide_eq_true h, decide_eq_false (by omega)]; rfl
      · rw [decide_eq_false h, decide_eq_true (by omega)]; rfl
  · rw [mirr_of (y := "halfup") (by decide +kernel), goes_some (k := 3) (y := "ceiling") (by decide +kernel) (by decide +kernel), goes_some (k := 4) (y := "floor") (by decide +kernel) (by decide +kernel)]
    by_cases h : p = 0
    · rw [if_pos h, if_pos (by omega)]; rfl
    · rw [if_neg h, if_neg (by omega)]
      by_cases h : 0 < p
      · rw [decide_eq_true h, decide_eq_false (by omega)]; rfl
      · rw [decide_eq_false h, decide_eq_true (by omega)]; rfl
  · rw [mirr_of (y := "halfeven") (by decide +kernel), goes_some (k := 0) (y := "even") (by decide +kernel) (by decide +kernel), goes_some (k := 0) (y := "even") (by decide +kernel) (by decide +kernel)]
    by_cases h : p = 0
    · rw [if_pos h, if_pos (by omega)]
      show decide ((-b - 1) % 2 = 1) = !decide (b % 2 = 1)
      by_cases h : b % 2 = 1
      · rw [decide_eq_true h, decide_eq_false (by omega)]; rfl
      · rw [decide_eq_false h, decide_eq_true (by omega)]; rfl
    · rw [if_neg h, if_neg (by omega)]
      by_cases h : 0 < p
      · rw [decide_eq_true h, decide_eq_false (by omega)]; rfl
      · rw [decide_eq_false h, decide_eq_true (by omega)]; rfl
  · rw [mirr_of (y := "halfaway") (by decide +kernel), goes_some (k := 2) (y := "away") (by decide +kernel) (by decide +kernel), goes_some (k := 2) (y := "away") (by decide +kernel) (by decide +kernel)]
    by_cases h : p = 0
    · rw [if_pos h, if_pos (by omega)]
      show decide (0 ≤ -b - 1) = !decide (0 ≤ b)
      by_cases h : 0 ≤ b
      · rw [decide_eq_true h, decide_eq_false (by omega)]; rfl
      · rw [decide_eq_false h, decide_eq_true (by omega)]; rfl
    · rw [if_neg h, if_neg (by omega)]
      by_cases h : 0 < p
      · rw [decide_eq_true h, decide_eq_false (by omega)]; rfl
      · rw [decide_eq_false h, decide_eq_true (by omega)]; rfl
  · rw [mirr_of (y := "halfcut") (by decide +kernel), goes_some (k := 1) (y := "cut") (by decide +kernel) (by decide +kernel), goes_some (k := 1) (y := "cut") (by decide +kernel) (by decide +kernel)]
    by_cases h : p = 0
    · rw [if_pos h, if_pos (by omega)]
      show decide (-b - 1 < 0) = !decide (b < 0)
      by_cases h : b < 0
      · rw [decide_eq_true h, decide_eq_false (by omega)]; rfl
      · rw [decide_eq_false h, decide_eq_true (by omega)]; rfl
    · rw [if_neg h, if_neg (by omega)]
      by_cases h : 0 < p
      · rw [decide_eq_true h, decide_eq_false (by omega)]; rfl
      · rw [decide_eq_false h, decide_eq_true (by omega)]; rfl
theorem mirr_mem {z : Str} (hz : z ∈ waysL) : mirr z ∈ waysL := by
  rcases way_cases hz with rfl | rfl | rfl | rfl | rfl | rfl | rfl | rfl | rfl <;> decide +kernel
theorem near_mirr {n d : Int} {z : Str} (h0 : 0 < d) (hz : z ∈ waysL) : near (-n) d (mirr z) = -near n d z := by
  have r0 := Int.emod_nonneg n (show d ≠ 0 by omega)
  have r1 := Int.emod_lt_of_pos n h0
  have em := Int.emod_add_mul_ediv n d
  unfold near
  by_cases h : n % d = 0
  · have e1 : (-n) % d = 0 := Int.emod_eq_zero_of_dvd ((Int.dvd_neg).mpr (Int.dvd_of_emod_eq_zero h))
    rw [if_pos h, if_pos e1, Int.neg_ediv_of_dvd (Int.dvd_of_emod_eq_zero h)]
  · have e3 : -n = (d - n % d) + d * (-(n / d) - 1) := by
      rw [Int.mul_sub, Int.mul_neg]
      omega
    have e1 : (-n) % d = d - n % d := by
      rw [e3, Int.add_mul_emod_self_left, Int.emod_eq_of_lt (by omega) (by omega)]
    have e2 : (-n) / d = -(n / d) - 1 := by
      rw [e3, Int.add_mul_ediv_left _ _ (by omega), Int.ediv_eq_zero_of_lt (by omega) (by omega)]
      omega
    rw [if_neg h, e1, e2, if_neg (by omega)]
    have e4 : 2 * (d - n % d) - d = -(2 * (n % d) - d) := by omega
    rw [e4, goes_mirr hz]
    cases goesUp z (n / d) (2 * (n % d) - d)
    · show (if true = true then -(n / d) - 1 + 1 else _) = -(if false = true then _ else n / d)
      rw [if_pos rfl, if_neg (by decide)]
      omega
    · show (if false = true then _ else -(n / d) - 1) = -(if true = true then n / d + 1 else _)
      rw [if_pos rfl, if_neg (by decide)]
      omega
end Own

/-! own layer, of no law: OWNE: an error class whose __init__ keeps nothing. -/
namespace Own
open PySem PySem.Spec PyProof.Rows L2 LamX NdefX
section
variable {X : Cx}
theorem del_new {H : Hp} {a : Addr} {o : HO} (h : H a = none) : del (upd H a o) a = H := by
  funext b
  by_cases e : b = a
  · rw [e, del_same, h]
  · rw [del_ne e, upd_ne e]
theorem mk_endN {pins : List (Addr × Obj)} {σ : L2.St} {H1 H2 : Hp} {Q : XK} {hp hp2 h2 : Heap} {g1 g2 : Array GenState} {d1 d2 : Drawn} {t1 t2 : Nat} {os1 os2 : OsState} {a C : Addr} (T : Raises X (.ref C)) (I1 : Inv X pins σ H1 ⟨hp, g1, d1, t1, os1⟩)
    (ha : hp.objs.size ≤ a) (k : ∀ b o, hp.get? b = some o → hp2.get? b = some o) (un : Un (frs X.stack) [] (upd H1 a (exo a C none)) H2 hp2 h2) (hok : HOk X.prog X.w H2 h2) (ho : os2 = os1) (hb : AllBare g2)
    (ea : H2 a = some (exo a C none)) (q : Q (.ref C) none (del H2 a)) : MkP X pins σ Q (.ref a) ⟨h2, g2, d2, t2, os2⟩ := by
  obtain ⟨t0, hoe⟩ := exo_at hok ea
  have hn : H1 a = none := I1.hok.fresh ha
  obtain ⟨G, g1', g2'⟩ := restrict h2 fun b => decide (b ≠ a)
  have gk : ∀ b, b ≠ a → G.get? b = h2.get? b := fun b hb => g1' b (decide_eq_true hb)
  have ge : G.get? a = none := g2' a (by simp)
  have nha : ∀ {b : Addr} {o : Obj}, hp.get? b = some o → b ≠ a := fun {b o} z => Nat.ne_of_lt (Nat.lt_of_lt_of_le (Heap.lt_size z) ha)
  have up : ∀ {b : Addr}, b ≠ a → H1 b = none → upd H1 a (exo a C none) b = none := fun {b} hb n => by rw [upd_ne hb]; exact n
  have U : Un (frs X.stack) [] H1 (del H2 a) hp G := {
    keep := fun b o z n hf hx => by
      rw [gk b (nha z)]
      exact un.keep b o (k b o z) (up (nha z) n) hf hx
    slot := fun b o z n hf hx => by
      rw [gk b (nha z)]
      exact un.slot b o (k b o z) (up (nha z) n) hf hx
    free := fun b o z n hx => by
      rw [del_ne (nha z)]
      exact un.free b o (k b o z) (up (nha z) n) hx
    there := fun b o z hx => by
      rw [gk b (nha z)]
      exact un.there b o (k b o z) hx
    tups := fun b xs z => by
      rw [del_ne (ne_of_none z hn)]
      exact un.tups b xs (by rw [upd_ne (ne_of_none z hn)]; exact z)
    frzs := fun b o v z => by
      rw [del_ne (ne_of_none z hn)]
      exact un.frzs b o v (by rw [upd_ne (ne_of_none z hn)]; exact z)
    tbls := fun b ps z => by
      rw [del_ne (ne_of_none z hn)]
      exact un.tbls b ps (by rw [upd_ne (ne_of_none z hn)]; exact z) }
  have hok3 : HOk X.prog X.w (del H2 a) G := fun b o z => by
    have hba : b ≠ a := fun e => by
      rw [e, del_same] at z
      cases z
    rw [del_ne hba] at z
    have noa : ∀ {c : Addr}, H2 c = some (.own b) → c ≠ a := fun {c} hc => at_ne ea hc exo_own
    exact (hok b o z).stay (fun c v hc y => by
        have hca : c ≠ a := by
          rcases hc with hc | hc
          · rw [hc]
            exact hba
          · exact noa hc
        rw [gk c hca]
        exact y)
      (fun c hc => by rw [del_ne (noa hc)]; exact hc) (fun c xs hc => by rw [del_ne (at_ne ea hc exo_tup)]; exact hc)
  have J : Inv X pins σ (del H2 a) ⟨G, g2, d2, t2, os2⟩ := I1.call' (ch := []) ho U hok3 hb (fun b z => absurd z (by simp))
  refine ⟨a, _, _, ⟨G, g2, d2, t2, os2⟩, _, .ref C, none, rfl, J, fun b o z => ?_, ge, hoe, ⟨rfl, rfl⟩, rfl, rfl, del_same, rfl, hb, T, q⟩
  by_cases hba : b = a
  · rw [hba, ge] at z
    cases z
  · exact (gk b hba).symm.trans z
/-- C(), an own error class whose __init__ takes self alone and does nothing -/
theorem pmk_oex0 {x : Str} {C fI : Addr} {k : Nat} {fd : FuncData} {sp : Sp} {p pos : Pos} (T : OexC X.K C) (iC : PySem.W.findIn X.K (.ref C) "__init__" = some (some (.ref fI))) (tI : PySem.W.typeIn X.K (.ref fI) = some (.type "function"))
    (F1 : FnOk X.prog X.w X.K X.mg X.base CX0 k fI fd ["self"] sp) (hr : Room (k + 1) X.A) (hb : Binds X.K fd ["self"] []) (hg : Gl X x) (hm : X.mg x = some (.ref C)) (hdb : (x == ("__debug__" : Str)) = false := by decide) :
    PMk X (.Call (.Name x p) [] [] pos) (fun _ H Q => ∀ a, H a = none → sp [.ref a] (upd H a (exo a C none)) (fun v H2 => v = .non ∧ H2 a = some (exo a C none) ∧ Q (.ref C) none (del H2 a)) (fun _ _ _ => False)) := by
  intro pins s σ H Q I h
  obtain ⟨nm, q, N, bs, bm, sn, sub, ab, col, dd, k0, k1, k2, k3, k5, hC, hbm⟩ := T.cls
  refine wpAny_Call_Name_kw (ld_glob I hg hm ?_ hdb)
  refine PySem.W.callWith_K0 I.kIn T.kC ?_
  show wpAny _ _ (call (.ref C) []) _ _ _
  obtain ⟨hp, g, dr, tk, os⟩ := s
  have hsz : hp.objs.size ≤ hp.objs.size + 1 := Nat.le_succ _
  have hq := h (hp.objs.size + 1) (I.hok.fresh hsz)
  have kk : ∀ b o, hp.get? b = some o → ((hp.push (PySem.W.kdv_tup [])).push (PySem.HandSPX.excO C hp.objs.size)).get? b = some o := fun b o e => Heap.get?_push_of_some _ (Heap.get?_push_of_some _ e)
  have hget : ((hp.push (PySem.W.kdv_tup [])).push (PySem.HandSPX.excO C hp.objs.size)).get? (hp.objs.size + 1) = some (PySem.HandSPX.excO C hp.objs.size) := by heap_get
  have I2 : Inv X pins σ (upd H (hp.objs.size + 1) (exo (hp.objs.size + 1) C none)) ⟨(hp.push (PySem.W.kdv_tup [])).push (PySem.HandSPX.excO C hp.objs.size), g, dr, tk, os⟩ :=
    I.laid (t' := tk) (a := hp.objs.size + 1) (o := exo (hp.objs.size + 1) C none) (h' := (hp.push (PySem.W.kdv_tup [])).push (PySem.HandSPX.excO C hp.objs.size)) kk hsz (exo_ok hget)
  have r2 : Vals [V.ref (hp.objs.size + 1)] [Value.ref (hp.objs.size + 1)] := .cons rfl .nil
  refine wpAny_call (PySem.HandSPX.call_own F.excBase_ValueError (fun Y => PySem.HandSPX.refsVE_contains Y bm hbm) (I.kIn _ _ hC) (PySem.W.looks_findIn I.kIn iC) (fun self => PySem.W.bind_fn I.kIn self tI) (by show 0 ≤ sizeLine; exact Nat.zero_le _)
    (codeAny_mono (F1.run _ X.stack _ _ ⟨[Value.ref (hp.objs.size + 1)], []⟩ [Value.ref (hp.objs.size + 1)] _ _ (fun _ _ _ => False) (hr.make C [] []) (I2.env0.make C [] []) (hb _ [Value.ref (hp.objs.size + 1)] I2.kIn rfl) r2 hq) fun r s' hq' => ?_))
  cases r with
  | error er => exact False.elim hq'
  | ok fl =>
    cases fl with
    | ret u =>
      obtain ⟨v, H2, os2, bare2, un2, hok2, rv, ev, ea, q2⟩ := hq'
      subst ev
      obtain ⟨h2, g2, d2, t2, os'⟩ := s'
      exact ⟨rv, mk_endN (raises_own T.exC T.tyC) I hsz kk un2 hok2 os2 bare2 ea q2⟩
    | next => exact False.elim hq'
    | brk => exact False.elim hq'
    | cont => exact False.elim hq'
end
/-- an error class without fields -/
structure ErrN (P : Program) (w : World) (K : PySem.W.Frag) (mg : Str → Option Value) (base : Heap) (x : Str) (C : Addr) : Prop where
  g : mg x = some (.ref C)
  oex : OexC K C
  ini : ∃ (fI : Addr) (fd : FuncData), PySem.W.findIn K (.ref C) "__init__" = some (some (.ref fI)) ∧ PySem.W.typeIn K (.ref fI) = some (.type "function") ∧ FnOk P w K mg base CX0 1 fI fd ["self"] (fun vs H Q _ => ∃ a : Addr, vs = [.ref a] ∧ Q .non H) ∧ Binds K fd ["self"] []
section
variable {X : Cx} {x : Str} {j : Nat} {C : Addr} {p pos : Pos}
theorem pmk_errN (D : ErrN X.prog X.w X.K X.mg X.base x C) (hr : Room j X.A) (hj : 2 ≤ j) (hg : Gl X x) (hdb : (x == ("__debug__" : Str)) = false := by decide) : PMk X (.Call (.Name x p) [] [] pos) (fun _ H Q => Q (.ref C) none H) := by
  obtain ⟨fI, fd, iC, tI, F1, b⟩ := D.ini
  intro pins s σ H Q I h
  exact pmk_oex0 D.oex iC tI F1 (hr.mono hj) b hg D.g hdb pins s σ H Q I fun a na => ⟨a, rfl, rfl, upd_same, by rw [del_new na]; exact h⟩
end
end Own

/-! own layer, of no law: OWNR: rows of a lambda and the value that it is refused with. -/
namespace Own
open PySem PySem.Spec PyProof.Rows L2 LamX NdefX
/-- what stands stands still, the tables of code and the pen at d apart -/
def KeepT (d : Addr) (H H' : Hp) : Prop := ∀ b o, b ≠ d → H b = some o → (∀ ps, o ≠ .tbl ps) → H' b = some o
/-- objects that neither lists nor tables of code are -/
def Firm (H : Hp) (is : List (Addr × HO)) : Prop := ∀ p ∈ is, H p.1 = some p.2 ∧ (∀ l, p.2 ≠ .lst l) ∧ ∀ ps, p.2 ≠ .tbl ps
theorem Firm.ext {H H' : Hp} {is : List (Addr × HO)} (h : Firm H is) (e : ExtN H H') : Firm H' is := fun p hp => ⟨e _ _ (h p hp).1 (h p hp).2.2, (h p hp).2⟩
theorem Firm.put {H : Hp} {is : List (Addr × HO)} {r : Addr} {l : List V} {o : HO} (h : Firm H is) (hr : H r = some (.lst l)) : Firm (upd H r o) is := fun p hp => ⟨(upd_ne (ne_of (h p hp).1 hr ((h p hp).2.1 l))).trans (h p hp).1, (h p hp).2⟩
def Odds (H : Hp) (vs : List V) : Prop := ∀ x ∈ vs, Odd H x
theorem Odds.ext {H H' : Hp} {vs : List V} (h : Odds H vs) (e : ExtN H H') : Odds H' vs := fun x hx => (h x hx).ext e
theorem Odds.same {H H' : Hp} {vs : List V} (h : Odds H vs) (e : Same H H') : Odds H' vs := fun x hx => (h x hx).same e
theorem Odds.keep {H H' : Hp} {vs : List V} {d : Addr} {B : Int} (h : Odds H vs) (p : Pen H d B) (k : Keep d H H') : Odds H' vs := fun x hx => (h x hx).keep (Pen_odd p (h x hx)) k
theorem Odds.put {H : Hp} {vs : List V} {r : Addr} {o : HO} (h : Odds H vs) (n : ∀ x ∈ vs, x ≠ .ref r) : Odds (upd H r o) vs := fun x hx => (h x hx).put (n x hx)
theorem Odds.cons {H : Hp} {x : V} {vs : List V} (a : Odd H x) (b : Odds H vs) : Odds H (x :: vs) := fun y hy => by
  rcases List.mem_cons.mp hy with rfl | hy
  · exact a
  · exact b y hy
theorem Odds.nil {H : Hp} : Odds H [] := fun y hy => by cases hy
/-- the list of the rows so far, and what else stands: odd values, firm objects -/
structure Rb {ι : Type} (nf : ι → Addr → NF) (bf : ι → Expr) (due : ι → V) (H0 H : Hp) (r : Addr) (k : Nat) (vs : List V) (is : List (Addr × HO)) : Prop where
  ex : ∃ R : List (ι × V × Addr), H r = some (.lst (R.map fun p => .ref p.2.2)) ∧ R.length = k ∧ ∀ p ∈ R, RowAt H (nf p.1) (bf p.1) p.2.1 p.2.2 ∧ p.2.1 = due p.1
  od : Odds H vs
  nr : ∀ x ∈ vs, x ≠ .ref r
  st : Firm H is
  kp : ∀ b o, b ≠ r → H0 b = some o → (∀ ps, o ≠ .tbl ps) → H b = some o
section
variable {ι : Type} {nf : ι → Addr → NF} {bf : ι → Expr} {due : ι → V} {H0 H H1 H' : Hp} {r q : Addr} {k : Nat} {vs : List V} {is : List (Addr × HO)} {v : V} {o : HO}
theorem Rb.ext (h : Rb nf bf due H0 H r k vs is) (e : ExtN H H') : Rb nf bf due H0 H' r k vs is := by
  obtain ⟨R, h1, h2, h3⟩ := h.ex
  exact ⟨⟨R, e _ _ h1 (fun ps z => by cases z), h2, fun p hp => ⟨(h3 p hp).1.ext e, (h3 p hp).2⟩⟩, h.od.ext e, h.nr, h.st.ext e, fun b o n z y => e _ _ (h.kp b o n z y) y⟩
theorem Rb.set {D : Addr} {zs : List V} (h : Rb nf bf due H0 H r k vs is) (hD : H D = some (.lst zs)) (n : D ≠ r) (nx : ∀ x ∈ vs, x ≠ .ref D) (n0 : H0 D = none) : Rb nf bf due H0 (upd H D o) r k vs is := by
  obtain ⟨R, h1, h2, h3⟩ := h.ex
  exact ⟨⟨R, (upd_ne n.symm).trans h1, h2, fun p hp => ⟨(h3 p hp).1.put hD, (h3 p hp).2⟩⟩, h.od.put nx, h.nr, h.st.put hD, fun b o m z y => (upd_ne (ne_of_none z n0)).trans (h.kp b o m z y)⟩
theorem Rb.now (h : Rb nf bf due H0 H r k vs is) : Rb nf bf due H H r k vs is := ⟨h.ex, h.od, h.nr, h.st, fun b o _ e _ => e⟩
theorem Rb.lst (h : Rb nf bf due H0 H r k vs is) : ∃ ys, H r = some (.lst ys) ∧ ys.length = k := by
  obtain ⟨R, h1, h2, h3⟩ := h.ex
  exact ⟨_, h1, by rw [List.length_map]; exact h2⟩
theorem Rb.add {i : ι} {f c' : Addr} (h : Rb nf bf due H0 H r k vs is) (hv : v = due i) (e : ExtN H H1) (a : LamAt H1 f (nf i c') (bf i)) (c : H1 (nf i c').c = some (CodeO (nf i c').c (nf i c').qual)) (nq : H1 q = none) :
    ∃ xs, upd H1 q (.tup [.ref f, v]) r = some (.lst xs) ∧ xs.length = k ∧ Rb nf bf due H0 (upd (upd H1 q (.tup [.ref f, v])) r (.lst (xs ++ [.ref q]))) r (k + 1) vs is := by
  have g := (h.ext e).ext (extN_new (o := .tup [.ref f, v]) nq)
  have e2 := extN_new (o := HO.tup [.ref f, v]) nq
  obtain ⟨R, h1, h2, h3⟩ := g.ex
  refine ⟨_, h1, by rw [List.length_map]; exact h2, ⟨R ++ [(i, v, q)], by rw [upd_same, List.map_append]; rfl, by rw [List.length_append, h2]; rfl, fun p hp => ?_⟩, g.od.put g.nr, g.nr, g.st.put h1, fun b o m z y => (upd_ne m).trans (g.kp b o m z y)⟩
  rcases List.mem_append.mp hp with hp | hp
  · exact ⟨(h3 p hp).1.put h1, (h3 p hp).2⟩
  · rw [List.mem_singleton.mp hp]
    exact ⟨RowAt.put ⟨f, c', upd_same, a.ext e2, e2 _ _ c codeO_ne⟩ h1, hv⟩
/-- the list begins with one row -/
theorem Rb.one {i : ι} {f c' : Addr} (od : Odds H vs) (st : Firm H is) (hv : v = due i) (e : ExtN H H1) (a : LamAt H1 f (nf i c') (bf i)) (c : H1 (nf i c').c = some (CodeO (nf i c').c (nf i c').qual)) (nq : H1 q = none) (nr : upd H1 q (.tup [.ref f, v]) r = none) :
    Rb nf bf due (upd (upd H1 q (.tup [.ref f, v])) r (.lst [.ref q])) (upd (upd H1 q (.tup [.ref f, v])) r (.lst [.ref q])) r 1 vs is ∧ ∀ b o, H b = some o → (∀ ps, o ≠ .tbl ps) → b ≠ r ∧ upd (upd H1 q (.tup [.ref f, v])) r (.lst [.ref q]) b = some o := by
  have y6 := extN_new (o := HO.tup [.ref f, v]) nq
  have eA : ExtN H (upd H1 q (.tup [.ref f, v])) := e.trans y6
  have y8 := extN_new (o := HO.lst [.ref q]) nr
  refine ⟨⟨⟨[(i, v, q)], upd_same, rfl, fun p hp => ?_⟩, (od.ext eA).ext y8, fun x hx => (od.ext eA x hx).off nr, (st.ext eA).ext y8, fun b o _ e _ => e⟩, fun b o z nt => ⟨ne_of_none (eA _ _ z nt) nr, y8 _ _ (eA _ _ z nt) nt⟩⟩
  rw [List.mem_singleton.mp hp]
  exact ⟨RowAt.ext ⟨f, c', upd_same, a.ext y6, y6 _ _ c codeO_ne⟩ y8, hv⟩
end
/-- all([refused(row[0], row[1]) for row in rows]): D the new list -/
theorem rb_all {ι : Type} {K : PySem.W.Frag} {L : ι → Lam} {due : ι → V} {sp : (Hp → VK → XK → Prop) → List V → Hp → VK → Prop} {C : Addr} {fld : Str} {j : Nat} {σ : L2.St} {r D : Addr} {ys : List V} {H0 HA : Hp} {vs : List V} {is : List (Addr × HO)} {k : Nat} {Qd : Hp → Prop}
    (hsp : ∀ (x : V) (H : Hp) (tl : Hp → VK → XK → Prop) (Q : VK), Odd H x → (∀ (Q' : VK) (E' : XK), Bad C fld x H E' → tl H Q' E') → (∀ H', Same H H' → Q (.bl true) H') → sp tl [x] H Q)
    (told : ∀ (H : Hp) (i : ι), Odds H vs → Firm H is → Odd H (due i) ∧ ∀ (Q' : VK) (E' : XK), Bad C fld (due i) H E' → (L i).sp (L i).ws H Q' E')
    (hw : ∀ x : V, wipe ((wipe σ [j]).set j (some x)) [j] = wipe σ [j]) (hv : ∀ x : V, ((wipe σ [j]).set j (some x))[j]? = some (some x))
    (G : Rb (fun i => (L i).nf) (fun i => (L i).b) due H0 HA r k vs is) (hy : HA r = some (.lst ys)) (hk : k ≤ 1000) (nD : HA D = none)
    (q : ∀ H', (∀ b o, b ≠ r → HA b = some o → (∀ ps, o ≠ .tbl ps) → H' b = some o) → (∃ bs : List Bool, H' D = some (.lst (bs.map V.bl)) ∧ bs.all id = true) → Qd H') :
    ∃ Wv : Nat → Nat → Hp → Prop, (∃ m, Wv 0 m (upd HA D (.lst []))) ∧ ∀ i m H, Wv i m H → ((Itl K r).stop i H ∧ Qd H) ∨ ((Itl K r).go i H ∧ ∃ Nx : Hp → Prop, (∀ H', Nx H' → ∃ m', m' < m ∧ Wv (i + 1) m' H') ∧ ∀ x H', (Itl K r).yld i H x H' →
      (gName j) x (wipe σ [j]) H' fun σ2 H2 => wipe σ2 [j] = wipe σ [j] ∧ tYes σ2 H2 fun b H3 => if b = true then (tLamCall L sp (tCons (tOp (rIxT K) (tVar j) (tC (.int 0))) (tCons (tOp (rIxT K) (tVar j) (tC (.int 1))) tNil))) σ2 H3 fun y H4 => ∃ acc, H4 D = some (.lst acc) ∧ acc.length < sizeLine ∧ Nx (upd H4 D (.lst (acc ++ [y]))) else Nx H3) := by
  have hDr : D ≠ r := (ne_of_none hy nD).symm
  have nDx : ∀ x ∈ vs, x ≠ .ref D := fun x hx => (G.od x hx).off nD
  have G0 := G.now
  obtain ⟨R0, hR0, hR1, hR2⟩ := G0.ex
  have hys : ys = R0.map fun p => .ref p.2.2 := by
    have z := hy.symm.trans hR0
    cases z
    rfl
  refine lc_list (K := K) (xs := ys) (fun i H' => Rb (fun i => (L i).nf) (fun i => (L i).b) due HA H' r k vs is ∧ H' r = some (.lst ys) ∧ (∀ p ∈ R0, RowAt H' ((L p.1).nf) ((L p.1).b) p.2.1 p.2.2) ∧ H' D = some (.lst (List.replicate i (.bl true)))) ⟨G0.ext (extN_new nD), (extN_new nD) _ _ hy (fun ps z => by cases z), fun p hp => (hR2 p hp).1.ext (extN_new nD), upd_same⟩ (fun i H' _ hb => SqL.of hb.2.1) ?_ ?_
  · rintro i a H' ha ⟨G1, hr1, hrows, hD⟩
    obtain ⟨hi, _⟩ := List.getElem?_eq_some_iff.mp ha
    rw [hys, List.getElem?_map] at ha
    obtain ⟨pr, hpr, rfl⟩ := Option.map_eq_some_iff.mp ha
    have hmem := List.mem_of_getElem? hpr
    have hve := (hR2 pr hmem).2
    obtain ⟨f, c', h1, h2, h3⟩ := hrows pr hmem
    obtain ⟨o1, o2⟩ := told H' pr.1 G1.od G1.st
    rw [← hve] at o1 o2
    refine ⟨hw _, ?_⟩
    unfold tYes
    dsimp only
    rw [if_pos rfl]
    refine ⟨_, hv _, pr.2.2, _, 0, _, rfl, rfl, SqT.of h1, rfl, _, hv _, pr.2.2, _, 1, _, rfl, rfl, SqT.of h1, rfl, pr.1, f, c', [pr.2.1], rfl, h2, h3, hsp _ _ _ _ o1 o2 fun H2 s2 => ⟨_, s2 _ _ hD, ?_, ?_, ?_, ?_, ?_⟩⟩
    · rw [List.length_replicate]
      have hl : ys.length = k := by rw [hys, List.length_map]; exact hR1
      have := sizeLine_eq
      omega
    · exact (G1.ext (ExtN.of s2)).set (s2 _ _ hD) hDr nDx nD
    · exact (upd_ne hDr.symm).trans (s2 _ _ hr1)
    · exact fun p hp => ((hrows p hp).ext (ExtN.of s2)).put (s2 _ _ hD)
    · rw [upd_same, List.replicate_succ']
  · rintro H' ⟨G1, hr1, hrows, hD⟩
    refine q H' (fun b o n e nt => G1.kp b o n e nt) ⟨List.replicate ys.length true, by rw [List.map_replicate]; exact hD, ?_⟩
    rw [List.all_eq_true]
    intro b hb
    rw [List.eq_of_mem_replicate hb]
    rfl
end Own

/-! own layer, of no law: OWNP: properties of the program's classes, told by the top. -/
namespace Own
open PySem PySem.Spec PyProof.Rows L2 LamX NdefX
/-- the getter of a property: (class, its name) -/
def pgA (K : PySem.W.Frag) (p : Str × Option Str) : Addr := match PySem.W.findIn K (.ref (He.ga K p.1)) (p.2.getD "") with
  | some (some (.ref q)) => (match PySem.W.recIn K q "property" with
    | some (.ref g :: _) => g
    | _ => 0)
  | _ => 0
def fnWA (K : PySem.W.Frag) (a : Addr) : He.FnW := match K.lookup a with
  | some ⟨_, _, .func fd, _⟩ => some (fd.name, fd.qualname, fd.params, fd.body, fd.scope, fd.globals, fd.closure, fd.builtins)
  | _ => none
def okA (K : PySem.W.Frag) (a : Addr) (q : Str) : Bool := PySem.W.keepIn K (.ref a) && (match K.lookup a with
  | some ⟨_, _, .func fd, _⟩ => PySem.W.codeIn K fd.code q && (He.dflB K fd.defaults [] && He.kwdB K fd.kwdefaults [])
  | _ => false)
def propB (K : PySem.W.Frag) (p : Str × Option Str) (q : Str) : Bool := (match PySem.W.findIn K (.ref (He.ga K p.1)) (p.2.getD "") with
  | some (some (.ref r)) => decide (PySem.W.specialIn K (.ref r) "__get__" = some (some (.builtin "property.__get__"))) && (decide (PySem.W.takesIn K (.ref r) = some true) && (match PySem.W.recIn K r "property" with
    | some (.ref _ :: _) => true
    | _ => false))
  | _ => false) && okA K (pgA K p) q
theorem funD_at {K : PySem.W.Frag} {a : Addr} {d : He.DefD} (e : fnWA K a = d.val) (c : okA K a d.qual = true) : ∃ fd, FunD K d.name d.qual d.params d.body d.scope [] [] a fd := by
  obtain ⟨kp, c2⟩ := He.ba c
  unfold fnWA at e
  cases q : K.lookup a with
  | none =>
    rw [q] at c2
    cases c2
  | some o =>
    obtain ⟨oc, od, dt, osl⟩ := o
    rw [q] at c2 e
    cases dt with
    | func fd =>
      obtain ⟨n1, n2, n3, n4, n5, n6, n7, n8, n9, n10, n11, n12, n13, n14, n15⟩ := fd
      have e2 : (some (n1, n2, n3, n4, n5, n6, n7, n15) : He.FnW) = some (d.name, d.qual, d.params, .stmts d.body, d.scope, mainGlobals, [], builtinsNs) := e
      simp only [Option.some.injEq, Prod.mk.injEq] at e2
      obtain ⟨h1, h2, h3, h4, h5, h6, h7, h8⟩ := e2
      subst h1 h2 h3 h4 h5 h6 h7 h8
      have c3 : (PySem.W.codeIn K n13 d.qual && (He.dflB K n8 [] && He.kwdB K n9 [])) = true := c2
      obtain ⟨k1, k2⟩ := He.ba c3
      obtain ⟨k3, k4⟩ := He.ba k2
      exact ⟨_, ⟨oc, od, n8, n9, n10, n11, n12, n13, n14, osl, rfl, q, k1, He.dflB_ok k3, He.kwdB_ok k4⟩, kp⟩
    | _ => cases c2
theorem prop_ok {K : PySem.W.Frag} {C f : Str} {q : Str} (h : propB K (C, some f) q = true) : (∃ p, PropOf K (He.ga K C) f p (pgA K (C, some f))) ∧ okA K (pgA K (C, some f)) q = true := by
  obtain ⟨h1, h2⟩ := He.ba h
  refine ⟨?_, h2⟩
  have h1 : (match PySem.W.findIn K (.ref (He.ga K C)) f with
    | some (some (.ref r)) => decide (PySem.W.specialIn K (.ref r) "__get__" = some (some (.builtin "property.__get__"))) && (decide (PySem.W.takesIn K (.ref r) = some true) && (match PySem.W.recIn K r "property" with
      | some (.ref _ :: _) => true
      | _ => false))
    | _ => false) = true := h1
  have e : pgA K (C, some f) = (match PySem.W.findIn K (.ref (He.ga K C)) f with
    | some (some (.ref q)) => (match PySem.W.recIn K q "property" with
      | some (.ref g :: _) => g
      | _ => 0)
    | _ => 0) := rfl
  cases a : PySem.W.findIn K (.ref (He.ga K C)) f with
  | none => rw [a] at h1; cases h1
  | some a1 =>
    cases a1 with
    | none => rw [a] at h1; cases h1
    | some v =>
      cases v with
      | ref r =>
        rw [a] at h1 e
        obtain ⟨b1, b2⟩ := He.ba h1
        obtain ⟨b2, b3⟩ := He.ba b2
        have b3 : (match PySem.W.recIn K r "property" with
          | some (.ref _ :: _) => true
          | _ => false) = true := b3
        have e : pgA K (C, some f) = (match PySem.W.recIn K r "property" with
          | some (.ref g :: _) => g
          | _ => 0) := e
        refine ⟨r, a, of_decide_eq_true b1, of_decide_eq_true b2, ?_⟩
        cases c : PySem.W.recIn K r "property" with
        | none => rw [c] at b3; cases b3
        | some l =>
          cases l with
          | nil => rw [c] at b3; cases b3
          | cons x rest =>
            cases x with
            | ref g =>
              rw [c] at e
              have e : pgA K (C, some f) = g := e
              rw [e]
              exact ⟨rest, rfl⟩
            | _ => rw [c] at b3; cases b3
      | _ => rw [a] at h1; cases h1
/-- what is told: the getters' texts besides -/
structure SaysP (ps : List He.DefD) (K : PySem.W.Frag) : Prop where
  g : ps.map (fun d => fnWA K (pgA K d.at_)) = ps.map He.DefD.val
theorem SaysP.at_ {ps : List He.DefD} {K : PySem.W.Frag} (c : SaysP ps K) (i : Nat) {d : He.DefD} (h : ps[i]? = some d) : fnWA K (pgA K d.at_) = d.val := by
  have e : (ps.map fun d => fnWA K (pgA K d.at_))[i]? = (ps.map He.DefD.val)[i]? := by rw [c.g]
  rw [List.getElem?_map, List.getElem?_map, h] at e
  exact Option.some.inj e
abbrev AlP : Type := He.AlX × List He.FnW
def obsP (n : Nat) (fa : List He.Fa) (fn : List He.DefD) (ts : List He.Tab) (tf : List He.Defn) (ex : PySem.W.Frag → Bool) (ps : List He.DefD) (g : Addr → Option Obj) : AlP :=
  (He.obsX n fa fn ts tf ex g, ps.map fun d => fnWA (He.frT g (He.asD g n)) (pgA (He.frT g (He.asD g n)) d.at_))
def valP (fn : List He.DefD) (ts : List He.Tab) (ps : List He.DefD) (w : World) : AlP := (He.valX fn ts w, ps.map He.DefD.val)
def hookP (n : Nat) (fa : List He.Fa) (fn : List He.DefD) (ts : List He.Tab) (tf : List He.Defn) (ex : PySem.W.Frag → Bool) (ps : List He.DefD) : PySem.W.Hook where
  α := AlP
  obs := fun s => obsP n fa fn ts tf ex ps s.heap.get?
  val := fun w => valP fn ts ps w
  says := fun w h => ∃ K : PySem.W.Frag, K.In h ∧ He.SaysX fa fn ts tf ex w h K ∧ SaysP ps K
  of := fun _ _ e => ⟨_, He.frT_in, He.saysX_of (congrArg (fun z : AlP => z.1) e), ⟨congrArg (fun z : AlP => z.2) e⟩⟩
  keeps := fun _ _ _ ⟨K, hK, c, d⟩ k => ⟨K, PySem.W.Frag.In.keeps hK k, ⟨c.t, c.more, c.hd, c.out, fun p hp => k _ _ (c.empty p hp)⟩, d⟩
theorem obsP_eq {n : Nat} {fa : List He.Fa} {fn : List He.DefD} {ts : List He.Tab} {tf : List He.Defn} {ex : PySem.W.Frag → Bool} {ps : List He.DefD} {g : Addr → Option Obj} {s : Shared} (h : ∀ a, g a = s.heap.get? a) : obsP n fa fn ts tf ex ps g = (hookP n fa fn ts tf ex ps).obs s := by
  have e : g = s.heap.get? := funext h
  rw [e] <;> rfl
end Own

/-! k10: the pen's defs (made from k06's by genpen.py). -/
namespace K10
open PySem PySem.Spec PyProof.Rows L2 LamX NdefX Own
def topS (i : Nat) : Stmt := PySem.Challenge.pw_figurestay_k10_dialect_rules.main.body.getD i (.Pass ⟨0, 0, 0, 0⟩)
abbrev sBegin : Stmt := topS 19
abbrev sDraw : Stmt := topS 20
abbrev sPick : Stmt := topS 21
abbrev sWrong : Stmt := topS 22
abbrev sSame : Stmt := topS 23
abbrev sRefd : Stmt := topS 24
section
variable {P : Program} {w : World} {K : PySem.W.Frag} {mg : Str → Option Value} {base : Heap} {C : Addr}
theorem scBegin : FnScope ["_law_script"] ["_law_script"] (defScope sBegin) := ⟨rfl, rfl, rfl, by decide +kernel, rfl, by decide +kernel, by decide +kernel⟩
theorem scDraw : FnScope ["_law_pen", "_law_span", "_law_digit", "_law_count", "_law_cell", "_law_first", "_law_blend"] ["_law_pen", "_law_span"] (defScope sDraw) := ⟨rfl, rfl, rfl, by decide +kernel, rfl, by decide +kernel, by decide +kernel⟩
/-- draw(pen, n): an int from 0 to n - 1; the pen has begun one draw more -/
def spDraw : Sp := fun vs H Q _ => ∃ (d : Addr) (n B : Int), vs = [.ref d, .int n] ∧ Pen H d B ∧ B ≤ 1000000000 ∧ 0 < n ∧ n ≤ 1000000 ∧
  ∀ (v : Int) (H' : Hp), 0 ≤ v → v < n → Keep d H H' → Pen H' d (B + 1) → Q (.int v) H'
end
theorem neD_nil {xs : List Int} : PyData.eqv (.list (xs.map PyData.int)) (.list []) = decide (xs = []) := by
  cases xs with
  | nil => rfl
  | cons a r => rfl
theorem dp_ints {K : PySem.W.Frag} {H : Hp} : ∀ ns : List Int, DpAll K H (ns.map V.int) (ns.map PyData.int)
  | [] => .nil
  | a :: r => .cons (.int a) (dp_ints r)
theorem lay_ints : ∀ ns : List Int, PyData.canLayAll0 (ns.map PyData.int) = true
  | [] => by simp only [List.map_nil, PyData.canLayAll0]
  | a :: r => by simp only [List.map_cons, PyData.canLayAll0, PyData.canLay0, lay_ints r, Bool.and_self]
theorem dep_ints : ∀ ns : List Int, PyData.depthAll (ns.map PyData.int) ≤ 1
  | [] => by simp [PyData.depthAll]
  | a :: r => by
    have z := dep_ints r
    simp only [List.map_cons, PyData.depthAll, PyData.depth]
    omega
theorem sh_ints (ns : List Int) : SeqAt.shaped (.list (ns.map PyData.int)) = true := by
  have a := lay_ints ns
  have b := dep_ints ns
  have z : (PyData.list (ns.map PyData.int)).depth ≤ 64 := by
    simp only [PyData.depth]
    omega
  unfold SeqAt.shaped
  rw [Bool.and_eq_true]
  exact ⟨by simpa [PyData.canLay0] using a, decide_eq_true z⟩
theorem get_left {H : Hp} {d p : Addr} {c l : Int} (h : H d = some (.dK (penK p c l))) : DGet H d (V.str "left") (some (.int l)) := by
  have z := DGet.k (k := (Sum.inr "left" : Key)) h
  rw [pen_left] at z
  exact z
theorem get_count {H : Hp} {d p : Addr} {c l : Int} (h : H d = some (.dK (penK p c l))) : DGet H d (V.str "count") (some (.int c)) := by
  have z := DGet.k (k := (Sum.inr "count" : Key)) h
  rw [pen_count] at z
  exact z
theorem get_cells {H : Hp} {d p : Addr} {c l : Int} (h : H d = some (.dK (penK p c l))) : DGet H d (V.str "cells") (some (.ref p)) := by
  have z := DGet.k (k := (Sum.inr "cells" : Key)) h
  rw [pen_cells] at z
  exact z
theorem put_at_left {H : Hp} {d p : Addr} {c l l' : Int} (h : H d = some (.dK (penK p c l))) : DPut H d (V.str "left") (.int l') (upd H d (.dK (penK p c l'))) := by
  have z := DPut.k (k := (Sum.inr "left" : Key)) (v := .int l') h (by show 3 < sizeLine; decide)
  rw [put_left] at z
  exact z
theorem put_at_count {H : Hp} {d p : Addr} {c l c' : Int} (h : H d = some (.dK (penK p c l))) : DPut H d (V.str "count") (.int c') (upd H d (.dK (penK p c' l))) := by
  have z := DPut.k (k := (Sum.inr "count" : Key)) (v := .int c') h (by show 3 < sizeLine; decide)
  rw [put_count] at z
  exact z
section
variable {P : Program} {w : World} {K : PySem.W.Frag} {mg : Str → Option Value} {base : Heap}
theorem ok_draw {f : Addr} {fd : FuncData} (F : Fun K "_law_draw" "_law_draw" sDraw f fd) (mi : mg "int" = none) (ml : mg "len" = none) : FnOk P w K mg base CX0 1 f fd ["_law_pen", "_law_span"] spDraw := by
  refine F.ok scDraw (fun vs H Q E h => ?_) (fun cdv A outer s H vs Q E hr h => ?_)
  · obtain ⟨d, n, B, rfl, _⟩ := h
    rfl
  · obtain ⟨d, n, B, rfl, hp, hB, h0, h1, q⟩ := h
    have hu := hu_of hr
    have nd := scDraw.nd
    refine ⟨_, pss_cons (ps_if (pt_cmpR op_ge (pe_dget hu (pv 0) pe_str (fun _ _ => rfl)) (pv 1) (nomark _))
        (pss_cons (ps_set (i := 2) nd rfl (.inl rfl) (pe_op op_mod (pe_callTy call_int1 (by rfl) mi (by decide +kernel) (pa_cons (pe_dget hu (pv 0) pe_str (fun _ _ => rfl)) pa_nil)) (pv 1)))
        (pss_cons (ps_dput hu (pv 0) pe_str (pe_op op_fdiv (pe_dget hu (pv 0) pe_str (fun _ _ => rfl)) (pv 1)) rfl)
        (pss_one (ps_ret (pv 2))))) pss_nil)
      (pss_cons (ps_set (i := 3) nd rfl (.inl rfl) (pe_dget hu (pv 0) pe_str (fun _ _ => rfl)))
      (pss_cons (ps_dput hu (pv 0) pe_str (pe_op op_add (pv 3) pe_int) rfl)
      (pss_cons (ps_set (i := 4) nd rfl (.inl rfl) (pe_op op_add (pe_op op_mul pe_int (pv 3)) pe_int))
      (C8.pss_cut (ps_if (pt_cmpR (op_neD hr.units) (pe_dget hu (pv 0) pe_str (fun _ _ => rfl)) (pe_lst pa_nil) (nomark _))
        (pss_one (ps_set (i := 4) nd rfl (.inl rfl) (pe_ix ix_list (pe_dget hu (pv 0) pe_str (fun _ _ => rfl)) (pe_op op_mod (pe_callTy call_int1 (by rfl) mi (by decide +kernel) (pa_cons (pv 3) pa_nil)) (pe_callB call_len_seq (by rfl) ml PySem.boot_len (pa_cons (pe_dget hu (pv 0) pe_str (fun _ _ => rfl)) pa_nil))) (fun _ _ => rfl)))) pss_nil)
      (C8.pss_cut (ps_if (PW.pt (pw_and (pt_cmpR op_lt (pv 3) (pe_callB call_len_seq (by rfl) ml PySem.boot_len (pa_cons (pe_dget hu (pv 0) pe_str (fun _ _ => rfl)) pa_nil)) (nomark _)) (pw_and1 (pt_cmpR op_ge (pv 4) (pe_op op_pow pe_int pe_int) (nomark _)))))
        (pss_cons (ps_dput hu (pv 0) pe_str (pe_op op_fdiv (pe_op op_sub (pv 4) (pe_op op_pow pe_int pe_int)) (pv 1)) rfl)
        (pss_one (ps_ret (pe_op op_mod (pe_callTy call_int1 (by rfl) mi (by decide +kernel) (pa_cons (pe_op op_sub (pv 4) (pe_op op_pow pe_int pe_int)) pa_nil)) (pv 1))))) pss_nil)
      (pss_cons (ps_set (i := 5) nd rfl (.inl rfl) (pe_op op_add (pe_op op_mul (pe_op op_mod (pe_callTy call_int1 (by rfl) mi (by decide +kernel) (pa_cons (pv 4) pa_nil)) pe_int) pe_int) (pe_op op_mul (pe_op op_mul pe_int (pv 3)) (pv 3))))
      (pss_cons (ps_set (i := 6) nd rfl (.inl rfl) (pe_op op_mod (pe_callTy call_int1 (by rfl) mi (by decide +kernel) (pa_cons (pe_op op_add (pe_op op_add (pv 5) (pe_op op_mul pe_int (pv 3))) pe_int) pa_nil)) pe_int))
      (pss_cons (ps_set (i := 6) nd rfl (.inl rfl) (pe_op op_mod (pe_callTy call_int1 (by rfl) mi (by decide +kernel) (pa_cons (pe_op op_mul (pv 6) (pe_op op_add (pv 6) pe_int)) pa_nil)) pe_int))
      (pss_one (ps_ret (pe_op op_mod (pe_callTy call_int1 (by rfl) mi (by decide +kernel) (pa_cons (pe_op op_fdiv (pe_op op_mod (pe_callTy call_int1 (by rfl) mi (by decide +kernel) (pa_cons (pe_op op_add (pe_op op_mul (pv 6) (pv 6)) (pe_op op_mul pe_int (pv 6))) pa_nil)) pe_int) pe_int) pa_nil)) (pv 1)))))))))))), ?_⟩
    obtain ⟨p, ns, c, l, hd, hps, hns, hc0, hcB⟩ := hp.ex
    have npd : p ≠ d := ne_of hps hd (by intro z; cases z)
    have n0 : n ≠ 0 := by omega
    have nB : n < 1073741824 := by omega
    have pn : ∀ {H' : Hp} {c' l' : Int}, H' p = some (.lst (ns.map V.int)) → H' d = some (.dK (penK p c' l')) → 0 ≤ c' → c' ≤ B + 1 → Pen H' d (B + 1) := fun {H' c' l'} a b e g => ⟨p, ns, c', l', b, a, hns, e, g⟩
    -- pen['left'] >= span
    refine ⟨_, rfl, d, .int l, rfl, get_left hd, _, rfl, l, n, rfl, rfl, _, rfl, ite2 (fun hln => ?_) (fun hln => ?_)⟩
    · refine ⟨_, rfl, d, .int l, rfl, get_left hd, .inl ⟨l, rfl, _, rfl, l, n, rfl, rfl, h0, ?_⟩⟩
      refine ⟨_, rfl, d, .int l, rfl, get_left hd, _, rfl, l, n, rfl, rfl, ⟨h0, nB⟩, _, rfl, d, _, rfl, put_at_left hd, ?_⟩
      refine ⟨_, rfl, ?_⟩
      exact q _ _ (Int.emod_nonneg _ n0) (Int.emod_lt_of_pos _ h0) Keep.at (pn (by rw [upd_ne npd]; exact hps) upd_same hc0 (by omega))
    · refine ⟨_, rfl, d, .int c, rfl, get_count hd, ?_⟩
      refine ⟨_, rfl, _, _, rfl, rfl, _, rfl, d, _, rfl, put_at_count hd, ?_⟩
      refine ⟨_, rfl, _, c, rfl, rfl, .inl ⟨by decide, by decide⟩, _, _, rfl, rfl, ?_⟩
      generalize eH1 : upd H d (.dK (penK p (c + 1) l)) = H1
      have hd1 : H1 d = some (.dK (penK p (c + 1) l)) := by rw [← eH1]; exact upd_same
      have hp1 : H1 p = some (.lst (ns.map V.int)) := by rw [← eH1, upd_ne npd]; exact hps
      have k1 : Keep d H H1 := by rw [← eH1]; exact Keep.at
      -- if pen['cells'] != []
      have hcl : ∀ {H2 : Hp}, H2 d = some (.dK (penK p (c + 1) l)) → H2 p = some (.lst (ns.map V.int)) → DGet H2 d (V.str "cells") (some (.ref p)) ∧ (SqL K H2 p (ns.map V.int) ∨ SqT K H2 p (ns.map V.int)) := fun {H2} a b => ⟨get_cells a, .inl (SqL.of b)⟩
      refine ⟨fun σ H2 => (∃ x : Int, σ = [some (.ref d), some (.int n), none, some (.int c), some (.int x), none, none]) ∧ H2 d = some (.dK (penK p (c + 1) l)) ∧ H2 p = some (.lst (ns.map V.int)) ∧ Keep d H H2, ?_, ?_⟩
      · refine ⟨_, rfl, d, .ref p, rfl, get_cells hd1, Nat.zero_le _, fun e ne => ?_⟩
        have he1 : ∀ {b o}, H1 b = some o → (upd H1 e (.lst [])) b = some o := fun {b o} z => by rw [upd_ne (ne_of_none z ne)]; exact z
        refine ⟨.list (ns.map PyData.int), .list [], .lst (SqL.of (he1 hp1)) (dp_ints _), .lst (SqL.of upd_same) .nil, sh_ints _, sh_ints [], _, rfl, ?_⟩
        rw [neD_nil]
        generalize eH2 : upd H1 e (.lst []) = H2
        have hd2 : H2 d = some (.dK (penK p (c + 1) l)) := by rw [← eH2]; exact he1 hd1
        have hp2 : H2 p = some (.lst (ns.map V.int)) := by rw [← eH2]; exact he1 hp1
        have k2 : Keep d H H2 := by rw [← eH2]; exact k1.trans (Keep.new ne)
        refine ite2 (fun hne => ?_) (fun hne => ?_)
        · have hn0 : 0 < ns.length := by
            cases ns with
            | nil => simp at hne
            | cons a r => exact Nat.zero_lt_succ _
          have hpos : (0 : Int) < ((ns.map V.int).length : Int) := by rw [List.length_map]; omega
          obtain ⟨j, hj⟩ : ∃ j : Nat, c % ((ns.map V.int).length : Int) = (j : Int) := ⟨(c % ((ns.map V.int).length : Int)).toNat, (Int.toNat_of_nonneg (Int.emod_nonneg _ (by omega))).symm⟩
          have hjl : j < ns.length := by
            have z := Int.emod_lt_of_pos c hpos
            rw [hj, List.length_map] at z
            omega
          refine ⟨_, rfl, d, .ref p, rfl, get_cells hd2, _, rfl, .inl ⟨c, rfl, _, rfl, d, .ref p, rfl, get_cells hd2, p, _, rfl, .inl (SqL.of hp2), _, _, rfl, rfl, hpos, p, _, _, .int (ns[j]'hjl), rfl, rfl, SqL.of hp2, at_of hj (by rw [List.getElem?_map, List.getElem?_eq_getElem hjl]; rfl), ?_⟩⟩
          exact ⟨⟨_, rfl⟩, hd2, hp2, k2⟩
        · exact ⟨⟨_, rfl⟩, hd2, hp2, k2⟩
      · rintro σ2 H2 ⟨⟨x, rfl⟩, hd2, hp2, k2⟩
        refine ⟨fun σ H3 => σ = [some (.ref d), some (.int n), none, some (.int c), some (.int x), none, none] ∧ H3 = H2, ?_, ?_⟩
        · refine ⟨_, rfl, _, rfl, d, .ref p, rfl, get_cells hd2, p, _, rfl, .inl (SqL.of hp2), _, _, rfl, rfl, _, rfl, ite2 (fun _ => ?_) (fun _ => ⟨rfl, rfl⟩)⟩
          refine ⟨_, rfl, _, _, rfl, rfl, ⟨by decide, by decide, by decide⟩, _, _, rfl, rfl, _, rfl, ite2 (fun _ => ?_) (fun _ => ⟨rfl, rfl⟩)⟩
          refine ⟨_, rfl, _, _, rfl, rfl, ⟨by decide, by decide, by decide⟩, _, _, rfl, rfl, _, rfl, _, _, rfl, rfl, ⟨h0, nB⟩, _, rfl, d, _, rfl, put_at_left hd2, ?_⟩
          refine ⟨_, rfl, _, _, rfl, rfl, ⟨by decide, by decide, by decide⟩, _, _, rfl, rfl, .inl ⟨_, rfl, _, rfl, _, _, rfl, rfl, h0, ?_⟩⟩
          exact q _ _ (Int.emod_nonneg _ n0) (Int.emod_lt_of_pos _ h0) (k2.trans Keep.at) (pn (by rw [upd_ne npd]; exact hp2) upd_same (by omega) (by omega))
        · rintro σ3 H3 ⟨rfl, rfl⟩
          have hc64 : -(2 ^ 64) < c ∧ c < 2 ^ 64 := ⟨by omega, by omega⟩
          refine ⟨_, rfl, .inl ⟨x, rfl, _, _, rfl, rfl, (show (0 : Int) < 2147482811 by decide), _, _, rfl, rfl, .inr ⟨by decide, by decide⟩, ?_⟩⟩
          refine ⟨_, rfl, _, c, rfl, rfl, .inl ⟨by decide, by decide⟩, _, rfl, _, c, rfl, rfl, .inr hc64, _, _, rfl, rfl, ?_⟩
          refine ⟨_, rfl, _, rfl, _, c, rfl, rfl, .inl ⟨by decide, by decide⟩, _, _, rfl, rfl, _, _, rfl, rfl, .inl ⟨_, rfl, _, _, rfl, rfl, (show (0 : Int) < 2147482873 by decide), ?_⟩⟩
          skip
          dsimp only
          generalize x % 2147482811 * 60013 + 35023 * c * c = y1
          have hy2 := Int.emod_lt_of_pos (y1 + 151 * c + 23) (show (0 : Int) < 2147482873 by decide)
          have hy20 := Int.emod_nonneg (y1 + 151 * c + 23) (show (2147482873 : Int) ≠ 0 by decide)
          generalize (y1 + 151 * c + 23) % 2147482873 = y2 at hy2 hy20
          refine ⟨_, rfl, _, rfl, y2, _, rfl, rfl, y2, _, rfl, rfl, .inl ⟨by omega, by omega⟩, .inl ⟨_, rfl, _, _, rfl, rfl, (show (0 : Int) < 2147482951 by decide), ?_⟩⟩
          skip
          dsimp only
          have hy3 := Int.emod_lt_of_pos (y2 * (y2 + 90007)) (show (0 : Int) < 2147482951 by decide)
          have hy30 := Int.emod_nonneg (y2 * (y2 + 90007)) (show (2147482951 : Int) ≠ 0 by decide)
          generalize (y2 * (y2 + 90007)) % 2147482951 = y3 at hy3 hy30
          refine ⟨_, rfl, _, rfl, y3, y3, rfl, rfl, .inl ⟨by omega, by omega⟩, _, rfl, _, y3, rfl, rfl, .inl ⟨by decide, by decide⟩, _, _, rfl, rfl, .inl ⟨_, rfl, _, _, rfl, rfl, (show (0 : Int) < 2147483033 by decide), _, _, rfl, rfl, ⟨(show (0 : Int) < 64 by decide), (show (64 : Int) < 1073741824 by decide)⟩, .inl ⟨_, rfl, _, rfl, _, n, rfl, rfl, h0, ?_⟩⟩⟩
          exact q _ _ (Int.emod_nonneg _ n0) (Int.emod_lt_of_pos _ h0) k2 (pn hp2 hd2 (by omega) (by omega))
end
section
variable {P : Program} {w : World} {K : PySem.W.Frag} {mg : Str → Option Value} {base : Heap} {C : Addr}
theorem ok_draw' (A : At K mg "_law_draw" sDraw ["_law_pen", "_law_span"]) (T : Blt mg) : DefOk P w K mg base CX0 "_law_draw" 1 ["_law_pen", "_law_span"] spDraw := A.ok fun f fd F => ok_draw F T.int T.len
def spBegin (K : PySem.W.Frag) : Sp := fun vs H Q _ => ∃ (a : Addr) (ns : List Int), vs = [.ref a] ∧ SqL K H a (ns.map V.int) ∧ ns.length ≤ 63 ∧ ∀ (d : Addr) (H' : Hp), H d = none → Same H H' → Pen H' d 0 → Q (.ref d) H'
theorem take63 (xs : List V) (h : xs.length ≤ 63) : cutV xs none (some 63) = xs := by
  unfold cutV
  rw [HT.sIx_none, show HT.sIx xs.length xs.length (some 63) = min 63 xs.length from HT.sIx_nat xs.length xs.length 63, List.drop_zero, Nat.min_eq_right h, Nat.sub_zero, List.take_length]
theorem ok_begin (A : At K mg "_law_begin" sBegin ["_law_script"]) (T : Blt mg) : DefOk P w K mg base CX0 "_law_begin" 1 ["_law_script"] (spBegin K) := by
  refine A.ok fun f fd F => F.ok scBegin (fun vs H Q E h => ?_) (fun cdv A outer s H vs Q E hr h => ?_)
  · obtain ⟨a, ns, rfl, _⟩ := h
    rfl
  · obtain ⟨a, ns, rfl, hS, hl, q⟩ := h
    refine ⟨_, pss_one (ps_ret (pe_disp (pps_cons pe_str (pe_callTy call_list_of (by rfl) T.list (by decide +kernel) (pa_cons (pe_slice sl_list (pv 0) po_none (po_some pe_int)) pa_nil))
      (pps_cons pe_str pe_int (pps_cons pe_str pe_int pps_nil))) (by rfl) (by rfl) (fun z => by cases z) (by decide))), ?_⟩
    intro d hd
    have s0 : Same H (upd H d (.dK [])) := same_new hd
    refine ⟨_, rfl, 63, rfl, a, _, rfl, s0.seq hS, fun c hc => ?_⟩
    rw [take63 _ (by rw [List.length_map]; exact hl)]
    have s1 : Same H (upd (upd H d (.dK [])) c (.lst (ns.map V.int))) := s0.trans (same_new hc)
    refine ⟨c, _, rfl, .inl (SqL.of upd_same), fun p hp => ?_⟩
    have s2 : Same (upd (upd H d (.dK [])) c (.lst (ns.map V.int))) (upd (upd (upd H d (.dK [])) c (.lst (ns.map V.int))) p (.lst (ns.map V.int))) := same_new hp
    have hdd : upd (upd (upd H d (.dK [])) c (.lst (ns.map V.int))) p (.lst (ns.map V.int)) d = some (.dK []) := s2 _ _ (same_new hc _ _ upd_same)
    have npd : p ≠ d := fun z => by
      rw [z] at hp
      have := same_new (o := .lst (ns.map V.int)) hc _ _ (upd_same (H := H) (a := d) (o := .dK []))
      rw [hp] at this
      cases this
    refine ⟨hdd, [(Sum.inr "cells", .ref p), (Sum.inr "count", .int 0), (Sum.inr "left", .int 0)], rfl, by show 3 ≤ 15; decide, ?_⟩
    have em : mergeK [] [(Sum.inr "cells", V.ref p), (Sum.inr "count", V.int 0), (Sum.inr "left", V.int 0)] = penK p 0 0 := by
      unfold mergeK
      rw [List.foldl_cons, putK_new _ valV_nil, List.foldl_cons, putK_new _ (by
        rw [List.nil_append, valV_neg (fun e => ne_txt.1 (Sum.inr.inj e)), valV_nil]), List.foldl_cons, putK_new _ (by
        show valV [_, _] _ = none
        rw [valV_neg (fun e => ne_txt.2.1 (Sum.inr.inj e)), valV_neg (fun e => ne_txt.2.2.1 (Sum.inr.inj e)), valV_nil])]
      rfl
    rw [em]
    refine q d _ hd (fun b o e => ?_) ⟨p, ns, 0, 0, upd_same, ?_, hl, by omega, by omega⟩
    · rw [upd_ne (ne_of_none e hd)]
      exact s2 _ _ (s1 _ _ e)
    · rw [upd_ne npd]
      exact upd_same
theorem scPick : FnScope ["_law_pen", "_law_some"] ["_law_pen", "_law_some"] (defScope sPick) := ⟨rfl, rfl, rfl, by decide +kernel, rfl, by decide +kernel, by decide +kernel⟩
def spPick : Sp := fun vs H Q _ => ∃ (d a : Addr) (xs : List V) (B : Int), vs = [.ref d, .ref a] ∧ H a = some (.lst xs) ∧ xs ≠ [] ∧ xs.length ≤ 1000 ∧ Pen H d B ∧ B ≤ 1000000000 ∧ ∀ (x : V) (H' : Hp), x ∈ xs → Keep d H H' → Pen H' d (B + 1) → Q x H'
theorem ok_pick (A : At K mg "_law_pick" sPick ["_law_pen", "_law_some"]) (T : Blt mg) (D : DefOk P w K mg base CX0 "_law_draw" 1 ["_law_pen", "_law_span"] spDraw) : DefOk P w K mg base CX0 "_law_pick" 2 ["_law_pen", "_law_some"] spPick := by
  refine A.ok fun f fd F => F.ok scPick (fun vs H Q E h => ?_) (fun cdv A outer s H vs Q E hr h => ?_)
  · obtain ⟨d, a, xs, B, rfl, _⟩ := h
    rfl
  · obtain ⟨d, a, xs, B, rfl, ha, hne, hl, hp, hB, q⟩ := h
    refine ⟨_, pss_one (ps_ret (pe_ix ix_list (pv 1) (pe_def D hr (by decide) (by rfl) pass0 (pa_cons (pv 0) (pa_cons (pe_callB call_len_seq (by rfl) T.len PySem.boot_len (pa_cons (pv 1) pa_nil)) pa_nil))) (fun _ _ => rfl))), ?_⟩
    have h0 : 0 < xs.length := List.length_pos_iff.mpr hne
    refine ⟨_, rfl, _, rfl, _, rfl, a, xs, rfl, .inl (SqL.of ha), d, (xs.length : Int), B, rfl, hp, hB, by omega, by omega, fun v H' h1 h2 kp hp' => ?_⟩
    have nad : a ≠ d := by
      obtain ⟨p, ns, c, l, e, _⟩ := hp.ex
      exact ne_of ha e (by intro z; cases z)
    obtain ⟨j, rfl⟩ : ∃ j : Nat, v = (j : Int) := ⟨v.toNat, (Int.toNat_of_nonneg h1).symm⟩
    have hj : j < xs.length := by omega
    exact ⟨a, xs, _, xs[j], rfl, rfl, SqL.of (kp _ _ nad ha), atI_nat (List.getElem?_eq_getElem hj), q _ _ (List.getElem_mem hj) kp hp'⟩
end
section
variable {P : Program} {w : World} {K : PySem.W.Frag} {mg : Str → Option Value} {base : Heap} {C : Addr}
theorem scSame : FnScope ["_law_one", "_law_other"] ["_law_one", "_law_other"] (defScope sSame) := ⟨rfl, rfl, rfl, by decide +kernel, rfl, by decide +kernel, by decide +kernel⟩
def spSame : Sp := fun vs H Q _ => (∃ a b : Int, vs = [.int a, .int b] ∧ Q (.bl (decide (a = b))) H) ∨ ∃ x : V, vs = [x, x] ∧ Odd H x ∧ Q (.bl true) H
theorem ok_same (A : At K mg "_law_same" sSame ["_law_one", "_law_other"]) (T : Blt mg) : DefOk P w K mg base CX0 "_law_same" 1 ["_law_one", "_law_other"] spSame := by
  refine A.ok fun f fd F => F.ok scSame (fun vs H Q E h => ?_) (fun cdv A outer s H vs Q E hr h => ?_)
  · rcases h with ⟨a, b, rfl, _⟩ | ⟨x, rfl, _⟩
    · rfl
    · rfl
  · refine ⟨_, pss_one (ps_ret (pe_and (pe_cmpR (op_eqOdd hr.units) (pv 0) (pv 1) (nomark _))
      (pe_one (pe_cmpR op_eq (pe_callB call_isi (by rfl) T.isi (by decide +kernel) (pa_cons (pv 0) (pa_cons (pe_bltn (v := .ty "bool") (by rfl) T.bool (by decide +kernel) rfl) pa_nil)))
        (pe_callB call_isi (by rfl) T.isi (by decide +kernel) (pa_cons (pv 1) (pa_cons (pe_bltn (v := .ty "bool") (by rfl) T.bool (by decide +kernel) rfl) pa_nil))) (nomark _))))), ?_⟩
    rcases h with ⟨a, b, rfl, q⟩ | ⟨x, rfl, od, q⟩
    · refine ⟨_, rfl, _, rfl, .inl ⟨a, b, rfl, rfl, _, rfl, ite2 (fun e => ?_) (fun e => ?_)⟩⟩
      · obtain ⟨t1, h1, _, k1⟩ := (Thing.int (H := H) a).isi (K := K)
        obtain ⟨t2, h2, _, k2⟩ := (Thing.int (H := H) b).isi (K := K)
        refine ⟨_, rfl, _, _, t1, _, _, rfl, .ty _, h1, k1, _, rfl, _, _, t2, _, _, rfl, .ty _, h2, k2, rfl, ?_⟩
        rw [e] at q
        exact q
      · rw [eq_false_of_ne_true e] at q
        exact q
    · refine ⟨_, rfl, _, rfl, .inr ⟨od, rfl, _, rfl, iteT ?_⟩⟩
      obtain ⟨t1, h1, _, k1⟩ := od.thing.isi (K := K)
      refine ⟨_, rfl, _, _, t1, _, _, rfl, .ty _, h1, k1, _, rfl, _, _, t1, _, _, rfl, .ty _, h1, k1, rfl, ?_⟩
      have e : decide (V.bl (isBl x) = V.bl (isBl x)) = true := decide_eq_true rfl
      show Q (.bl (decide (V.bl (isBl x) = V.bl (isBl x)))) H
      rw [e]
      exact q
/-! ### odd values that are drawn -/
/-- no integer; which texts -/
structure Wrong (H : Hp) (x : V) : Prop where
  od : Odd H x
  ni : Own.isInt x = false
  nt : ∀ z : Str, x = .str z → z = "1" ∨ z = "" ∨ z = "Cut"
theorem Wrong.same {H H' : Hp} {x : V} (h : Wrong H x) (s : Same H H') : Wrong H' x := ⟨h.od.same s, h.ni, h.nt⟩
theorem scWrong : FnScope ["_law_pen"] ["_law_pen"] (defScope sWrong) := ⟨rfl, rfl, rfl, by decide +kernel, rfl, by decide +kernel, by decide +kernel⟩
def spWrong : Sp := fun vs H Q _ => ∃ (d : Addr) (B : Int), vs = [.ref d] ∧ Pen H d B ∧ B ≤ 1000000000 ∧ ∀ (x : V) (H' : Hp), Wrong H' x → Keep d H H' → Pen H' d (B + 1) → Q x H'
theorem ok_wrong (A : At K mg "_law_wrong" sWrong ["_law_pen"]) (D : DefOk P w K mg base CX0 "_law_pick" 2 ["_law_pen", "_law_some"] spPick) : DefOk P w K mg base CX0 "_law_wrong" 3 ["_law_pen"] spWrong := by
  refine A.ok fun f fd F => F.ok scWrong (fun vs H Q E h => ?_) (fun cdv A outer s H vs Q E hr h => ?_)
  · obtain ⟨d, B, rfl, _⟩ := h
    rfl
  · obtain ⟨d, B, rfl, hp, hB, q⟩ := h
    refine ⟨_, pss_one (ps_ret (pe_def D hr (by decide) (by rfl) pass0 (pa_cons (pv 0) (pa_cons (pe_lst (pa_cons pe_non (pa_cons pe_bl (pa_cons pe_bl (pa_cons pe_str (pa_cons pe_str (pa_cons pe_str
      (pa_cons (pe_tup (pa_cons pe_int (pa_cons pe_int pa_nil))) (pa_cons (pe_tup pa_nil) (pa_cons (pe_lst (pa_cons pe_int pa_nil)) (pa_cons pe_dnewK (pa_cons (pe_disp (pps_cons pe_str pe_int pps_nil) (by rfl) (by rfl) (fun z => by cases z) (by decide)) pa_nil)))))))))))) pa_nil)))), ?_⟩
    refine ⟨_, rfl, by show 2 ≤ sizeLine; decide, fun t1 n1 => ⟨Nat.zero_le _, fun t2 n2 => ⟨by show 1 ≤ sizeLine; decide, fun t3 n3 => ?_⟩⟩⟩
    intro t4 n4 t5 n5
    refine ⟨upd_same, txK [("a", .int 1)], rfl, by show 1 ≤ 15; decide, by show 11 ≤ sizeLine; decide, fun l nl => ?_⟩
    have em : mergeK [] (txK [("a", V.int 1)]) = txK [("a", V.int 1)] := merge_new (by decide +kernel)
    rw [upd_upd, em] at nl ⊢
    generalize hh1 : upd H t1 (HO.tup [.int 1, .int 2]) = H1 at n2 n3 n4 n5 nl ⊢
    have s1 : Same H H1 := hh1 ▸ same_new n1
    have e1 : H1 t1 = some (HO.tup [.int 1, .int 2]) := hh1 ▸ upd_same
    generalize hh2 : upd H1 t2 (HO.tup []) = H2 at n3 n4 n5 nl ⊢
    have s2 : Same H1 H2 := hh2 ▸ same_new n2
    have e2 : H2 t2 = some (HO.tup []) := hh2 ▸ upd_same
    generalize hh3 : upd H2 t3 (HO.lst [.int 1]) = H3 at n4 n5 nl ⊢
    have s3 : Same H2 H3 := hh3 ▸ same_new n3
    have e3 : H3 t3 = some (HO.lst [.int 1]) := hh3 ▸ upd_same
    generalize hh4 : upd H3 t4 (HO.dK []) = H4 at n5 nl ⊢
    have s4 : Same H3 H4 := hh4 ▸ same_new n4
    have e4 : H4 t4 = some (HO.dK []) := hh4 ▸ upd_same
    generalize hh5 : upd H4 t5 (HO.dK (txK [("a", V.int 1)])) = H5 at nl ⊢
    have s5 : Same H4 H5 := hh5 ▸ same_new n5
    have e5 : H5 t5 = some (HO.dK (txK [("a", V.int 1)])) := hh5 ▸ upd_same
    have s6 : Same H5 (upd H5 l (HO.lst [.non, .bl true, .bl false, .str "1", .str "", .str "Cut", .ref t1, .ref t2, .ref t3, .ref t4, .ref t5])) := same_new nl
    have sA : Same H (upd H5 l (HO.lst [.non, .bl true, .bl false, .str "1", .str "", .str "Cut", .ref t1, .ref t2, .ref t3, .ref t4, .ref t5])) := (((((s1.trans s2).trans s3).trans s4).trans s5).trans s6)
    have f1 := s6 _ _ (s5 _ _ (s4 _ _ (s3 _ _ (s2 _ _ e1))))
    have f2 := s6 _ _ (s5 _ _ (s4 _ _ (s3 _ _ e2)))
    have f3 := s6 _ _ (s5 _ _ (s4 _ _ e3))
    have f4 := s6 _ _ (s5 _ _ e4)
    have f5 := s6 _ _ e5
    refine ⟨d, l, _, B, rfl, upd_same, by simp, by show 11 ≤ 1000; decide, hp.same sA, hB, fun x H' hx kp hp' => q x H' ?_ ((Keep.same sA).trans kp) hp'⟩
    obtain ⟨p0, ns0, c0, l0, hd0, _⟩ := (hp.same s1).ex
    have d1 : t1 ≠ d := ne_of e1 hd0 (by intro z; cases z)
    obtain ⟨p0, ns0, c0, l0, hd0, _⟩ := hp.ex
    have d2 : t2 ≠ d := (ne_of_none (s1 _ _ hd0) n2).symm
    have d3 : t3 ≠ d := (ne_of_none (s2 _ _ (s1 _ _ hd0)) n3).symm
    have d4 : t4 ≠ d := (ne_of_none (s3 _ _ (s2 _ _ (s1 _ _ hd0))) n4).symm
    have d5 : t5 ≠ d := (ne_of_none (s4 _ _ (s3 _ _ (s2 _ _ (s1 _ _ hd0)))) n5).symm
    have g1 := kp _ _ d1 f1
    have g2 := kp _ _ d2 f2
    have g3 := kp _ _ d3 f3
    have g4 := kp _ _ d4 f4
    have g5 := kp _ _ d5 f5
    simp only [List.mem_cons, List.not_mem_nil, or_false] at hx
    rcases hx with rfl | rfl | rfl | rfl | rfl | rfl | rfl | rfl | rfl | rfl | rfl
    · exact ⟨.flat rfl, rfl, fun z e => by cases e⟩
    · exact ⟨.flat rfl, rfl, fun z e => by cases e⟩
    · exact ⟨.flat rfl, rfl, fun z e => by cases e⟩
    · exact ⟨.flat (by decide +kernel), rfl, fun z e => by cases e; simp⟩
    · exact ⟨.flat (by decide +kernel), rfl, fun z e => by cases e; simp⟩
    · exact ⟨.flat (by decide +kernel), rfl, fun z e => by cases e; simp⟩
    · exact ⟨.tup g1 rfl, rfl, fun z e => by cases e⟩
    · exact ⟨.tup g2 rfl, rfl, fun z e => by cases e⟩
    · exact ⟨.lst g3 rfl, rfl, fun z e => by cases e⟩
    · exact ⟨.dct g4 (by simp) (by simp), rfl, fun z e => by cases e⟩
    · exact ⟨.dct g5 (by simp [txK]) (by simp [txK, flatB]), rfl, fun z e => by cases e⟩
end
section
variable {P : Program} {w : World} {K : PySem.W.Frag} {mg : Str → Option Value} {base : Heap} {C : Addr}
theorem scRefd : FnScope ["_law_deed", "_law_value", "_law_told", "e"] ["_law_deed", "_law_value"] (defScope sRefd) := ⟨rfl, rfl, rfl, by decide +kernel, rfl, by decide +kernel, by decide +kernel⟩
def spRefd (C : Addr) : (Hp → VK → XK → Prop) → List V → Hp → VK → Prop := fun tl rest H Q => ∃ v : V, rest = [v] ∧ Odd H v ∧ (∀ (Q' : VK) (E' : XK), Bad C "value" v H E' → tl H Q' E') ∧ ∀ H', Same H H' → Q (.bl true) H'
theorem ld_refd (A : At K mg "_law_refused" sRefd ["_law_deed", "_law_value"]) (T : ErrC P w K mg base "BadValue" "value" 1 C (spErr C "value")) (D : DefOk P w K mg base CX0 "_law_same" 1 ["_law_one", "_law_other"] spSame) : LamDefAt P w K mg base "_law_refused" 6 (spRefd C) := by
  obtain ⟨g, fd, F, gm, b⟩ := A.ex
  refine ⟨g, ⟨fun A outer s H us f vs FF bb fr ws spl kl Q hr hkl e0 r G hf hc CC q => ?_⟩, gm, F.kp⟩
  have KX : K.In s.heap := e0.mod.kin.keeps fun b o e => (e0.bs b o e).1
  obtain ⟨v, rfl, od, q1, q2⟩ := q
  have hb := b s us KX (by rw [List.append_nil, ← r.length]; rfl)
  rw [List.append_nil] at hb
  obtain ⟨oc, od', kV, doc, pm, an, cdv, ct, osl, rfl, lk, hcd⟩ := F.ex
  refine LamX.run_ofS (N := ["_law_deed", "_law_value", "_law_told", "e"]) lk hcd scRefd hr e0 hb r rfl fun hr' => ?_
  have nd := scRefd.nd
  refine ⟨_, pss_cons (ps_set (i := 2) nd rfl (.inl rfl) pe_non)
    (pss_cons (ps_try_as (i := 3) (c := .ref C) rfl rfl nd rfl rfl ⟨rfl, by decide, .inl T.g⟩ L2.takes0
        (fun W pn xe tk _ => pss_one (ps_expr (pe_deedS (i := 0) (E := WE W) CC rfl G (hr'.mono (by omega)) (fun σ => passAt tk σ) rfl (.inl rfl))))
        (fun a oe cls d pn hz hf => pss_one (ps_set (i := 2) nd rfl (.inl rfl) (pe_tup (pa_cons (pe_xf T.xf T.noV hz hf (pv 3)) pa_nil)))))
    (pss_one (ps_ret (pe_and (pe_cmpR op_notN (pv 2) pe_non (nomark _)) (pe_one (pe_def D hr' (by decide) (by rfl) pass0 (pa_cons (pe_ix ix_tup (pv 2) pe_int (fun _ _ => rfl)) (pa_cons (pv 1) pa_nil)))))))), ?_⟩
  refine ⟨rfl, hf, hc, q1 _ _ fun d H1 s1 nd1 e1 => ⟨true, T.te, fun _ a na => ?_, fun z => nomatch z⟩⟩
  refine ⟨_, rfl, rfl, rfl, d, _, v, rfl, e1, by simp [List.lookup], by show 1 ≤ sizeLine; decide, fun p np => ?_⟩
  refine ⟨_, rfl, rfl, _, rfl, iteT ?_⟩
  have s2 : Same H1 (upd H1 p (.tup [v])) := same_new np
  refine ⟨_, rfl, p, [v], 0, v, rfl, rfl, SqT.of upd_same, rfl, v, rfl, .inr ⟨v, rfl, (od.same s1).same s2, ?_⟩⟩
  exact q2 _ (s1.trans s2)
end
end K10

/-! k10: the program's checks, powers of ten. -/
namespace K10
open PySem PySem.Spec PyProof.Rows L2 LamX NdefX Own
abbrev pInt : Stmt := topS 6
abbrev pWhole : Stmt := topS 7
abbrev pNWhole : Stmt := topS 8
section
variable {P : Program} {w : World} {K : PySem.W.Frag} {mg : Str → Option Value} {base : Heap} {C aT : Addr}
theorem scpInt : FnScope ["value"] ["value"] (defScope pInt) := ⟨rfl, rfl, rfl, by decide +kernel, rfl, by decide +kernel, by decide +kernel⟩
def spIsInt : Sp := fun vs H Q _ => ∃ x : V, vs = [x] ∧ Thing H x ∧ Q (.bl (Own.isInt x)) H
theorem ok_isInt (A : At K mg "is_an_integer" pInt ["value"]) (T : Blt mg) : DefOk P w K mg base CX0 "is_an_integer" 1 ["value"] spIsInt := by
  refine A.ok fun f fd F => F.ok scpInt (fun vs H Q E h => ?_) (fun cdv A outer s H vs Q E hr h => ?_)
  · obtain ⟨x, rfl, _⟩ := h
    rfl
  · obtain ⟨x, rfl, th, q⟩ := h
    refine ⟨_, pss_one (ps_ret (pe_and (pe_callB call_isi (by rfl) T.isi (by decide +kernel) (pa_cons (pv 0) (pa_cons (pe_bltn (v := .ty "int") (by rfl) T.int (by decide +kernel) rfl) pa_nil)))
      (pe_one (pe_not (pe_callB call_isi (by rfl) T.isi (by decide +kernel) (pa_cons (pv 0) (pa_cons (pe_bltn (v := .ty "bool") (by rfl) T.bool (by decide +kernel) rfl) pa_nil))))))), ?_⟩
    obtain ⟨t, ht, h1, h2⟩ := th.isi (K := K)
    have hb : isBl x = true → Own.isInt x = false := by cases x <;> simp [Own.isInt, isBl]
    refine ⟨_, rfl, x, .ty "int", t, _, _, rfl, .ty _, ht, h1, _, rfl, ite2 (fun e => ?_) (fun e => ?_)⟩
    · refine ⟨_, rfl, x, .ty "bool", t, _, _, rfl, .ty _, ht, h2, _, rfl, ?_⟩
      have z : (!isBl x) = Own.isInt x := by cases e1 : Own.isInt x <;> cases e2 : isBl x <;> simp_all
      rw [z]
      exact q
    · have z : false = Own.isInt x := by cases e1 : Own.isInt x <;> cases e2 : isBl x <;> simp_all
      rw [z]
      exact q
/-- an integer from 0 on -/
def isWh : V → Bool
  | .int i => decide (0 ≤ i)
  | _ => false
theorem scpWhole : FnScope ["value"] ["value"] (defScope pWhole) := ⟨rfl, rfl, rfl, by decide +kernel, rfl, by decide +kernel, by decide +kernel⟩
def spIsWh : Sp := fun vs H Q _ => ∃ x : V, vs = [x] ∧ Thing H x ∧ Q (.bl (isWh x)) H
theorem ok_isWh (A : At K mg "is_whole_number" pWhole ["value"]) (D : DefOk P w K mg base CX0 "is_an_integer" 1 ["value"] spIsInt) : DefOk P w K mg base CX0 "is_whole_number" 2 ["value"] spIsWh := by
  refine A.ok fun f fd F => F.ok scpWhole (fun vs H Q E h => ?_) (fun cdv A outer s H vs Q E hr h => ?_)
  · obtain ⟨x, rfl, _⟩ := h
    rfl
  · obtain ⟨x, rfl, th, q⟩ := h
    refine ⟨_, pss_one (ps_ret (pe_and (pe_def D hr (by decide) (by rfl) pass0 (pa_cons (pv 0) pa_nil)) (pe_one (pe_cmpR op_ge (pv 0) pe_int (nomark _))))), ?_⟩
    refine ⟨_, rfl, x, rfl, th, _, rfl, ite2 (fun e => ?_) (fun e => ?_)⟩
    · cases x <;> first | (exact ⟨_, rfl, _, _, rfl, rfl, q⟩) | (simp [Own.isInt] at e)
    · have z : isWh x = false := by cases x <;> first | rfl | (simp [Own.isInt] at e)
      rw [z] at q
      exact q
theorem scpNWh : FnScope ["value"] ["value"] (defScope pNWhole) := ⟨rfl, rfl, rfl, by decide +kernel, rfl, by decide +kernel, by decide +kernel⟩
def spNWh (C : Addr) : Sp := fun vs H Q E => ∃ x : V, vs = [x] ∧ Thing H x ∧ (isWh x = true → Q .non H) ∧ (isWh x = false → Bad C "value" x H E)
theorem ok_nWh (A : At K mg "need_whole_number" pNWhole ["value"]) (T : ErrC P w K mg base "BadValue" "value" 1 C (spErr C "value")) (D : DefOk P w K mg base CX0 "is_whole_number" 2 ["value"] spIsWh) : DefOk P w K mg base (L2.CX P w) "need_whole_number" 3 ["value"] (spNWh C) := by
  refine A.ok fun f fd F => F.okX scpNWh (fun vs H Q E h => ?_) (fun cdv A outer s H vs Q E hr h => ?_)
  · obtain ⟨x, rfl, _⟩ := h
    rfl
  · obtain ⟨x, rfl, th, q1, q2⟩ := h
    refine ⟨_, pss_one (ps_if (pt_not (pt_val (pe_def D hr (by decide) (by rfl) pass0 (pa_cons (pv 0) pa_nil)))) (pss_one (ps_raise rfl (takes_of rfl rfl rfl rfl) (pmk_err T hr (by decide) (by rfl) (pv 0)))) pss_nil), ?_⟩
    refine ⟨_, rfl, x, rfl, th, _, rfl, ite2 (fun e => ?_) (fun e => ?_)⟩
    · exact ⟨_, rfl, bad_mk (q2 (by simpa using e))⟩
    · exact q1 (by simpa using e)
end
end K10

/-! k10: the program's ways. -/
namespace K10
open PySem PySem.Spec PyProof.Rows L2 LamX NdefX Own
abbrev sNWay : Stmt := topS 14
abbrev sWays : Stmt := topS 25
/-- what the walk asks of the top for the ways -/
structure TxW (P : Program) (w : World) (K : PySem.W.Frag) (mg : Str → Option Value) (base : Heap) (C aW : Addr) : Prop where
  err : ErrC P w K mg base "BadValue" "value" 1 C (spErr C "value")
  gW : mg "WAYS" = some (.ref aW)
  ways : ∀ H : Hp, SqT K H aW (waysL.map V.str)
section
variable {P : Program} {w : World} {K : PySem.W.Frag} {mg : Str → Option Value} {base : Heap} {C aW : Addr}
theorem scNWay : FnScope ["value"] ["value"] (defScope sNWay) := ⟨rfl, rfl, rfl, by decide +kernel, rfl, by decide +kernel, by decide +kernel⟩
def spNWay (C : Addr) : Sp := fun vs H Q E => ∃ x : V, vs = [x] ∧ Thing H x ∧ (isWay x = true → Q .non H) ∧ (isWay x = false → Bad C "value" x H E)
theorem ok_nWay (A : At K mg "need_way" sNWay ["value"]) (T : TxW P w K mg base C aW) : DefOk P w K mg base (L2.CX P w) "need_way" 3 ["value"] (spNWay C) := by
  refine A.ok fun f fd F => F.okX scNWay (fun vs H Q E h => ?_) (fun cdv A outer s H vs Q E hr h => ?_)
  · obtain ⟨x, rfl, _⟩ := h
    rfl
  · obtain ⟨x, rfl, th, q1, q2⟩ := h
    refine ⟨_, pss_one (ps_if (pt_cmpR (OpR.or op_notIn_seq (op_notInW (hu_of hr))) (pv 0) (pe_glob (v := .ref aW) (by rfl) T.gW rfl) (by rfl)) (pss_one (ps_raise rfl (takes_of rfl rfl rfl rfl) (pmk_err T.err hr (by decide) (by rfl) (pv 0)))) pss_nil), ?_⟩
    rcases th.noTxt with nt | ⟨z, rfl⟩
    · have hw : isWay x = false := by cases nt <;> rfl
      exact ⟨_, rfl, .inr ⟨aW, waysL, rfl, T.ways H, nt, _, rfl, iteT ⟨_, rfl, bad_mk (q2 hw)⟩⟩⟩
    · refine ⟨_, rfl, .inl ⟨aW, _, rfl, .inr (T.ways H), rfl, by decide +kernel, _, rfl, ?_⟩⟩
      have e : inV (.str z) (waysL.map V.str) = decide (z ∈ waysL) := by
        unfold inV
        rw [List.any_map]
        have : ∀ l : List Str, (l.any ((fun y => eqV y (.str z)) ∘ V.str)) = decide (z ∈ l) := by
          intro l
          induction l with
          | nil => rfl
          | cons a r ih =>
            rw [List.any_cons, ih]
            show (a == z || decide (z ∈ r)) = decide (z ∈ a :: r)
            by_cases h : a = z
            · subst h
              simp
            · have h' : ¬ z = a := fun e => h e.symm
              simp [h, h']
        exact this waysL
      show if (if true = true then !inV (.str z) (waysL.map V.str) else inV (.str z) (waysL.map V.str)) = true then _ else _
      rw [if_pos rfl, e]
      refine ite2 (fun e => ?_) (fun e => ?_)
      · exact ⟨_, rfl, bad_mk (q2 (by simpa [isWay] using e))⟩
      · exact q1 (by simpa [isWay] using e)
theorem scWays : FnScope [] [] (defScope sWays) := ⟨rfl, rfl, rfl, by decide +kernel, rfl, by decide +kernel, by decide +kernel⟩
def spWays : Sp := fun vs H Q _ => vs = [] ∧ ∀ p, H p = none → Q (.ref p) (upd H p (.lst (waysL.map V.str)))
theorem ok_ways (A : At K mg "_law_ways" sWays []) : DefOk P w K mg base CX0 "_law_ways" 1 [] spWays := by
  refine A.ok fun f fd F => F.ok scWays (fun vs H Q E h => by rw [h.1] <;> rfl) (fun cdv A outer s H vs Q E hr h => ?_)
  obtain ⟨rfl, q⟩ := h
  refine ⟨_, pss_one (ps_ret (pe_lst (pa_cons pe_str (pa_cons pe_str (pa_cons pe_str (pa_cons pe_str (pa_cons pe_str (pa_cons pe_str (pa_cons pe_str (pa_cons pe_str (pa_cons pe_str pa_nil))))))))))), ?_⟩
  exact ⟨by show 9 ≤ sizeLine; decide, q⟩
end
end K10

/-! k10: the class Shape. -/
namespace Own
open PySem PySem.Spec PyProof.Rows L2 LamX NdefX
theorem Thing.tyx {K : PySem.W.Frag} {H : Hp} {x : V} (h : Thing H x) : ∃ T ∈ tys, TyX K H x (.type T) := by
  cases h with
  | non => exact ⟨"NoneType", by simp [tys], .base .non⟩
  | bl b => exact ⟨"bool", by simp [tys], .base (.bl b)⟩
  | int i => exact ⟨"int", by simp [tys], .base (.int i)⟩
  | str z => exact ⟨"str", by simp [tys], .base (.str z)⟩
  | lst e => exact ⟨"list", by simp [tys], .base (.lst e)⟩
  | tup e => exact ⟨"tuple", by simp [tys], .base (.tup e)⟩
  | dct e => exact ⟨"dict", by simp [tys], .base (.dK e)⟩
/-- isinstance by a class of the program -/
structure WIs (K : PySem.W.Frag) (W : Addr) : Prop where
  ha : PySem.W.findIn K (.ref W) "__class__" = some (some (.builtin "object.__class__"))
  hn : PySem.W.specialIn K (.builtin "object.__class__") "__get__" = some (some (.builtin "getset_descriptor.__get__"))
  ht : PySem.W.takesIn K (.builtin "object.__class__") = some true
  hm : PySem.W.mroIn K W (.type "object") = some true
  no : ∀ T ∈ tys, PySem.W.kitOne K (.type T) (.ref W) = some false
end Own
namespace K10
open PySem PySem.Spec PyProof.Rows L2 LamX NdefX Own
abbrev shI (i : Nat) : Stmt := inClass (topS 10) i
abbrev pNShape : Stmt := topS 11
/-- what the class is -/
structure ShapeC (K : PySem.W.Frag) (mg : Str → Option Value) (S : Addr) : Prop where
  g : mg "Shape" = some (.ref S)
  cls : Cls K S
  nw : NoAttr K S "whole"
  ns : NoAttr K S "scale"
/-- a Shape stands at a: u whole figures, s places -/
def SAt (S : Addr) (H : Hp) (a : Addr) (u s : Nat) : Prop := ∃ dx, H a = some (.ins S dx [("whole", .int u), ("scale", .int s)])
theorem SAt.same {S a : Addr} {H H' : Hp} {u s : Nat} (h : SAt S H a u s) (z : Same H H') : SAt S H' a u s := by
  obtain ⟨dx, e⟩ := h
  exact ⟨dx, z _ _ e⟩
theorem lk_w (u s : V) : (([("whole", u), ("scale", s)] : List (Str × V))).lookup ("whole" : Str) = some u := by simp [List.lookup]
theorem lk_s (u s : V) : (([("whole", u), ("scale", s)] : List (Str × V))).lookup ("scale" : Str) = some s := by
  have e : (("scale" : Str) == "whole") = false := by decide +kernel
  simp [List.lookup, e]
theorem put2 (u s : V) : putF "scale" s (putF "whole" u []) = ([("whole", u), ("scale", s)] : List (Str × V)) := by
  have e : ¬ (("whole" : Str) = "scale") := by decide +kernel
  simp [putF, e]
theorem isWh_nat {y : V} (h : isWh y = true) : ∃ s : Nat, y = .int s := by
  cases y with
  | int i =>
    have z : 0 ≤ i := of_decide_eq_true h
    exact ⟨i.toNat, by rw [Int.toNat_of_nonneg z]⟩
  | _ => cases h
section
variable {P : Program} {w : World} {K : PySem.W.Frag} {mg : Str → Option Value} {base : Heap} {C CN S : Addr}
theorem scSI : FnScope ["self", "whole", "scale"] ["self", "whole", "scale"] (defScope (shI 0)) := ⟨rfl, rfl, rfl, by decide +kernel, rfl, by decide +kernel, by decide +kernel⟩
def spSI (C CN S : Addr) : Sp := fun vs H Q E => ∃ (a dx : Addr) (x y : V), vs = [.ref a, x, y] ∧ H a = some (.ins S dx []) ∧ Thing H x ∧ Thing H y ∧ (isWh x = false → Bad C "value" x H E) ∧ (isWh x = true → isWh y = false → Bad C "value" y H E) ∧
  ∀ (u s : Nat), x = .int u → y = .int s → (u = 0 → s = 0 → E (.ref CN) none H) ∧ (¬ (u = 0 ∧ s = 0) → Q .non (upd H a (.ins S dx [("whole", .int u), ("scale", .int s)])))
theorem ok_sI {f : Addr} {fd : FuncData} (F : Fun K "__init__" "Shape.__init__" (shI 0) f fd) (T : ShapeC K mg S) (TN : ErrN P w K mg base "NoFigures" CN) (D2 : DefOk P w K mg base (L2.CX P w) "need_whole_number" 3 ["value"] (spNWh C)) :
    FnOk P w K mg base (L2.CX P w) 4 f fd ["self", "whole", "scale"] (spSI C CN S) := by
  refine F.okX scSI (fun vs H Q E h => ?_) (fun cdv A outer s0 H vs Q E hr h => ?_)
  · obtain ⟨a, dx, x, y, rfl, _⟩ := h
    rfl
  · obtain ⟨a, dx, x, y, rfl, ha, tx, ty, q1, q2, q3⟩ := h
    refine ⟨_, pss_cons (ps_expr (pe_def (E := E) D2 hr (by decide) (by rfl) (passes_call (takes_of rfl rfl rfl rfl) fun _ _ _ _ z => z) (pa_cons (pv 1) pa_nil)))
      (pss_cons (ps_expr (pe_def (E := E) D2 hr (by decide) (by rfl) (passes_call (takes_of rfl rfl rfl rfl) fun _ _ _ _ z => z) (pa_cons (pv 2) pa_nil)))
      (pss_cons (ps_if (PW.pt (pw_and (pt_cmpR op_eq (pv 1) pe_int (nomark _)) (pw_and1 (pt_cmpR op_eq (pv 2) pe_int (nomark _))))) (pss_one (ps_raise rfl (takes_of rfl rfl rfl rfl) (pmk_errN TN hr (by decide) (by rfl)))) pss_nil)
      (pss_cons (ps_fld (pv 0) (pv 1) rfl) (pss_one (ps_fld (pv 0) (pv 2) rfl))))), ?_⟩
    refine ⟨_, rfl, x, rfl, tx, fun hx => ?_, q1⟩
    refine ⟨_, rfl, y, rfl, ty, fun hy => ?_, q2 hx⟩
    obtain ⟨u, rfl⟩ := isWh_nat hx
    obtain ⟨s, rfl⟩ := isWh_nat hy
    obtain ⟨q4, q5⟩ := q3 u s rfl rfl
    refine ⟨_, rfl, rfl, _, rfl, ite2 (fun e => ?_) (fun e => ?_)⟩
    · have u0 : u = 0 := by
        have z : (u : Int) = 0 := by simpa using e
        omega
      refine ⟨_, rfl, rfl, _, rfl, ite2 (fun e2 => ?_) (fun e2 => ?_)⟩
      · have s0 : s = 0 := by
          have z : (s : Int) = 0 := by simpa using e2
          omega
        exact q4 u0 s0
      · have s0 : s ≠ 0 := by
          have z : ¬ (s : Int) = 0 := by simpa using e2
          omega
        refine ⟨_, rfl, _, rfl, a, S, dx, [], rfl, ha, T.cls, T.nw, by decide, ?_⟩
        refine ⟨_, rfl, _, rfl, a, S, dx, _, rfl, upd_same, T.cls, T.ns, by show 1 < 1000; decide, ?_⟩
        rw [upd_upd, put2]
        exact q5 (fun z => s0 z.2)
    · have u0 : u ≠ 0 := by
        have z : ¬ (u : Int) = 0 := by simpa using e
        omega
      refine ⟨_, rfl, _, rfl, a, S, dx, [], rfl, ha, T.cls, T.nw, by decide, ?_⟩
      refine ⟨_, rfl, _, rfl, a, S, dx, _, rfl, upd_same, T.cls, T.ns, by show 1 < 1000; decide, ?_⟩
      rw [upd_upd, put2]
      exact q5 (fun z => u0 z.1)
end
end K10

/-! k10: Shapes made, told, needed. -/
namespace K10
open PySem PySem.Spec PyProof.Rows L2 LamX NdefX Own
section
variable {P : Program} {w : World} {K : PySem.W.Frag} {mg : Str → Option Value} {base : Heap} {C CN S : Addr}
theorem isWh_cast (n : Nat) : isWh (.int (n : Int)) = true := by
  show decide (0 ≤ (n : Int)) = true
  exact decide_eq_true (by omega)
theorem isWh_no {n : Nat} {p : Prop} (z : isWh (.int (n : Int)) = false) : p := by
  rw [isWh_cast] at z
  cases z
/-- how the class is called -/
structure SMk (P : Program) (w : World) (K : PySem.W.Frag) (mg : Str → Option Value) (base : Heap) (C CN S : Addr) : Prop where
  ex : ∃ (fI : Addr) (fd : FuncData), Mk K S fI ∧ FnOk P w K mg base (L2.CX P w) 4 fI fd ["self", "whole", "scale"] (spSI C CN S) ∧ Binds K fd ["self", "whole", "scale"] []
/-- what the call Shape(x, y) gives -/
def spShape (C CN S : Addr) : Sp := fun vs H Q E => ∃ x y : V, vs = [x, y] ∧ Thing H x ∧ Thing H y ∧ (isWh x = false → Bad C "value" x H E) ∧ (isWh x = true → isWh y = false → Bad C "value" y H E) ∧
  ∀ (u s : Nat), x = .int u → y = .int s → (u = 0 → s = 0 → ∀ H', Same H H' → E (.ref CN) none H') ∧ (¬ (u = 0 ∧ s = 0) → ∀ (a : Addr) (H' : Hp), Same H H' → H a = none → SAt S H' a u s → Q (.ref a) H')
theorem shape_make {vs : List V} {H : Hp} {Q : VK} {E : XK} (h : spShape C CN S vs H Q E) (a dx : Addr) (na : H a = none) (nd : H dx = none) (ne : dx ≠ a) : spSI C CN S (.ref a :: vs) (upd (upd H dx (.own a)) a (.ins S dx [])) (fun v H2 => v = .non ∧ Q (.ref a) H2) E := by
  obtain ⟨x, y, rfl, tx, ty, q1, q2, q3⟩ := h
  have na1 : upd H dx (.own a) a = none := (upd_ne ne.symm).trans na
  have s1 : Same H (upd (upd H dx (.own a)) a (.ins S dx [])) := (same_new nd).trans (same_new na1)
  refine ⟨a, dx, x, y, rfl, upd_same, tx.same s1, ty.same s1, fun z => (q1 z).same s1, fun z1 z2 => (q2 z1 z2).same s1, fun u s e1 e2 => ?_⟩
  obtain ⟨q4, q5⟩ := q3 u s e1 e2
  refine ⟨fun z1 z2 => q4 z1 z2 _ s1, fun z => ⟨rfl, q5 z a _ (fun b o e => ?_) na ⟨dx, upd_same⟩⟩⟩
  rw [upd_upd]
  exact ((same_new nd).trans (same_new na1)) _ _ e
/-- a Shape of whole numbers that are not both 0 -/
theorem shape_of {u s : Nat} {H : Hp} {Q : VK} {E : XK} (h : ¬ (u = 0 ∧ s = 0)) (q : ∀ (a : Addr) (H' : Hp), Same H H' → H a = none → SAt S H' a u s → Q (.ref a) H') : spShape C CN S [.int u, .int s] H Q E := by
  refine ⟨.int u, .int s, rfl, .int _, .int _, fun z => isWh_no z, fun _ z => isWh_no z, fun u' s' e1 e2 => ?_⟩
  obtain rfl : u = u' := by have := V.int.inj e1; omega
  obtain rfl : s = s' := by have := V.int.inj e2; omega
  exact ⟨fun z1 z2 => absurd ⟨z1, z2⟩ h, fun _ => q⟩
section
variable {X : Cx} {k : Nat} {E : XK} {p pos : Pos} {e e1 e2 : Expr} {t : TA} {ta : TE}
theorem pe_shape (M : SMk X.prog X.w X.K X.mg X.base C CN S) (T : ShapeC X.K X.mg S) (hr : Room k X.A) (hk : 5 ≤ k) (hg : Gl X "Shape") (hx : Passes (L2.CX X.prog X.w) X E) (ha : PA X [e1, e2] t)
    (he : starEach [e1, e2] X.env = (false, eval e1 X.env) :: starEach [e2] X.env := by rfl) (hpl : (backTo pos (starEach [e2] X.env)).any (·.1) = false := by rfl) : PE X (.Call (.Name "Shape" p) [e1, e2] [] pos) (tCall (spShape C CN S) [] E t) := by
  obtain ⟨fI, fd, mk, F, b2⟩ := M.ex
  constructor
  intro pins s σ H Q I h
  refine wpAny_Call_Name_kw (ld_glob I hg T.g ?_ (by decide))
  refine PySem.W.callWith_K (h₀ := X.base) I.ok.mod.kin mk.kp (thn (ha.run pos pins s σ H _ I h) ?_) he hpl
  rintro us s1 ⟨vs, H1, I1, r, q⟩
  refine ⟨I1.kIn, run_make mk F (hr.mono hk) b2 .nil hx I1 r fun a dx na nd ne => ?_⟩
  rw [List.append_nil] at q ⊢
  exact shape_make q a dx na nd ne
end
/-! ### width -/
theorem scWid : FnScope ["self"] ["self"] (defScope (shI 2)) := ⟨rfl, rfl, rfl, by decide +kernel, rfl, by decide +kernel, by decide +kernel⟩
def spWid (S : Addr) : Sp := fun vs H Q _ => ∃ (a : Addr) (u s : Nat), vs = [.ref a] ∧ SAt S H a u s ∧ Q (.int ((u + s : Nat) : Int)) H
theorem ok_wid {f : Addr} {fd : FuncData} (F : Fun K "width" "Shape.width" (shI 2) f fd) (T : ShapeC K mg S) : FnOk P w K mg base CX0 1 f fd ["self"] (spWid S) := by
  refine F.ok scWid (fun vs H Q E h => ?_) (fun cdv A outer s0 H vs Q E hr h => ?_)
  · obtain ⟨a, u, s, rfl, _⟩ := h
    rfl
  · obtain ⟨a, u, s, rfl, ⟨dx, ea⟩, q⟩ := h
    refine ⟨_, pss_one (ps_ret (pe_op op_add (pe_fld (pv 0) (by rfl)) (pe_fld (pv 0) (by rfl)))), ?_⟩
    exact ⟨_, rfl, a, S, dx, _, .int u, rfl, ea, T.cls, T.nw, lk_w _ _, _, rfl, a, S, dx, _, .int s, rfl, ea, T.cls, T.ns, lk_s _ _, _, _, rfl, rfl, q⟩
/-- the property -/
structure SWid (P : Program) (w : World) (K : PySem.W.Frag) (mg : Str → Option Value) (base : Heap) (S : Addr) : Prop where
  ex : ∃ (p g : Addr) (fd : FuncData), PropOf K S "width" p g ∧ FnOk P w K mg base CX0 1 g fd ["self"] (spWid S) ∧ Binds K fd ["self"] []
section
variable {X : Cx} {k : Nat} {pos : Pos} {e : Expr} {ta : TE}
theorem pe_width (D : SWid X.prog X.w X.K X.mg X.base S) (T : ShapeC X.K X.mg S) (hr : Room k X.A) (hk : 2 ≤ k) (he : PE X e ta) (hab : attributeBase e "width" X.env (eval e X.env) = eval e X.env) : PE X (.Attribute e "width" pos) (tProp S (spWid S) [] E0 ta) := by
  obtain ⟨p, g, fd, hp, F, b⟩ := D.ex
  exact pe_prop he T.cls hp F (hr.mono hk) b .nil pass0 hab
end
/-! ### need_shape -/
theorem scNSh : FnScope ["value"] ["value"] (defScope pNShape) := ⟨rfl, rfl, rfl, by decide +kernel, rfl, by decide +kernel, by decide +kernel⟩
def spNSh (C S : Addr) : Sp := fun vs H Q E => ∃ x : V, vs = [x] ∧ ((∃ (a : Addr) (u s : Nat), x = .ref a ∧ SAt S H a u s ∧ Q .non H) ∨ (Thing H x ∧ Bad C "value" x H E))
theorem ok_nSh (A : At K mg "need_shape" pNShape ["value"]) (B : Blt mg) (T : ShapeC K mg S) (I : WIs K S) (TE : ErrC P w K mg base "BadValue" "value" 1 C (spErr C "value")) : DefOk P w K mg base (L2.CX P w) "need_shape" 3 ["value"] (spNSh C S) := by
  refine A.ok fun f fd F => F.okX scNSh (fun vs H Q E h => ?_) (fun cdv A outer s H vs Q E hr h => ?_)
  · obtain ⟨x, rfl, _⟩ := h
    rfl
  · obtain ⟨x, rfl, h⟩ := h
    refine ⟨_, pss_one (ps_if (pt_not (pt_val (pe_callB call_isi (by rfl) B.isi (by decide +kernel) (pa_cons (pv 0) (pa_cons (pe_glob (v := .ref S) (by rfl) T.g rfl) pa_nil))))) (pss_one (ps_raise rfl (takes_of rfl rfl rfl rfl) (pmk_err TE hr (by decide) (by rfl) (pv 0)))) pss_nil), ?_⟩
    rcases h with ⟨a, u, s', rfl, ⟨dx, ea⟩, q⟩ | ⟨th, bad⟩
    · exact ⟨_, rfl, _, _, _, _, true, rfl, .own S, .base (.ins ea T.cls I.ha I.hn I.ht I.hm), by unfold PySem.W.kitOne; rw [if_pos (by simp)], _, rfl, iteF q⟩
    · obtain ⟨ty, hty, tx⟩ := th.tyx (K := K)
      exact ⟨_, rfl, _, _, _, _, false, rfl, .own S, tx, I.no ty hty, _, rfl, iteT ⟨_, rfl, bad_mk bad⟩⟩
end
end K10

/-! k10: the class Dialect: made. -/
namespace K10
open PySem PySem.Spec PyProof.Rows L2 LamX NdefX Own
abbrev dI (i : Nat) : Stmt := inClass (topS 17) i
abbrev psD : List Str := ["self", "cap", "kept", "extra", "places", "way"]
/-- what the class is -/
structure DialC (K : PySem.W.Frag) (mg : Str → Option Value) (D : Addr) : Prop where
  g : mg "Dialect" = some (.ref D)
  cls : Cls K D
  n1 : NoAttr K D "cap"
  n2 : NoAttr K D "kept"
  n3 : NoAttr K D "extra"
  n4 : NoAttr K D "places"
  n5 : NoAttr K D "way"
def dialF (c k e p : Nat) (t : Str) : List (Str × V) := [("cap", .int c), ("kept", .int k), ("extra", .int e), ("places", .int p), ("way", .str t)]
/-- a Dialect stands at a -/
def DAt (D : Addr) (H : Hp) (a : Addr) (c k e p : Nat) (t : Str) : Prop := ∃ dx, H a = some (.ins D dx (dialF c k e p t))
theorem DAt.same {D a : Addr} {H H' : Hp} {c k e p : Nat} {t : Str} (h : DAt D H a c k e p t) (z : Same H H') : DAt D H' a c k e p t := by
  obtain ⟨dx, e⟩ := h
  exact ⟨dx, z _ _ e⟩
def okC : V → Bool
  | .int i => decide (0 < i)
  | _ => false
def okM (m : Nat) : V → Bool
  | .int i => decide (0 ≤ i) && decide (i ≤ m)
  | _ => false
/-- the arguments of a Dialect, the first wrong one refused; G: what comes of good ones -/
def dialArgs (C : Addr) (H : Hp) (E : XK) (c k e p v : V) (G : Nat → Nat → Nat → Nat → Str → Prop) : Prop :=
  (Thing H c ∧ okC c = false ∧ Bad C "value" c H E) ∨ ∃ c0 : Nat, c = .int c0 ∧ 0 < c0 ∧
  ((Thing H k ∧ okM c0 k = false ∧ Bad C "value" k H E) ∨ ∃ k0 : Nat, k = .int k0 ∧ k0 ≤ c0 ∧
  ((Thing H e ∧ okM 1 e = false ∧ Bad C "value" e H E) ∨ ∃ e0 : Nat, e = .int e0 ∧ e0 ≤ 1 ∧
  ((Thing H p ∧ isWh p = false ∧ Bad C "value" p H E) ∨ ∃ p0 : Nat, p = .int p0 ∧
  ((Thing H v ∧ isWay v = false ∧ Bad C "value" v H E) ∨ ∃ t ∈ waysL, v = .str t ∧ G c0 k0 e0 p0 t))))
theorem dialArgs.ext {C : Addr} {H H' : Hp} {E : XK} {c k e p v : V} {G G' : Nat → Nat → Nat → Nat → Str → Prop} (h : dialArgs C H E c k e p v G) (s : Same H H') (g : ∀ c0 k0 e0 p0 t, G c0 k0 e0 p0 t → G' c0 k0 e0 p0 t) : dialArgs C H' E c k e p v G' := by
  rcases h with ⟨th, n, b⟩ | ⟨c0, e1, h1, h⟩
  · exact .inl ⟨th.same s, n, b.same s⟩
  refine .inr ⟨c0, e1, h1, ?_⟩
  rcases h with ⟨th, n, b⟩ | ⟨k0, e2, h2, h⟩
  · exact .inl ⟨th.same s, n, b.same s⟩
  refine .inr ⟨k0, e2, h2, ?_⟩
  rcases h with ⟨th, n, b⟩ | ⟨e0, e3, h3, h⟩
  · exact .inl ⟨th.same s, n, b.same s⟩
  refine .inr ⟨e0, e3, h3, ?_⟩
  rcases h with ⟨th, n, b⟩ | ⟨p0, e4, h⟩
  · exact .inl ⟨th.same s, n, b.same s⟩
  refine .inr ⟨p0, e4, ?_⟩
  rcases h with ⟨th, n, b⟩ | ⟨t, ht, e5, h⟩
  · exact .inl ⟨th.same s, n, b.same s⟩
  exact .inr ⟨t, ht, e5, g _ _ _ _ _ h⟩
theorem put2d (c k : V) : putF "kept" k (putF "cap" c []) = ([("cap", c), ("kept", k)] : List (Str × V)) := by
  have e1 : ¬ (("cap" : Str) = "kept") := by decide +kernel
  have e2 : ¬ (("cap" : Str) = "extra") := by decide +kernel
  have e3 : ¬ (("cap" : Str) = "places") := by decide +kernel
  have e4 : ¬ (("cap" : Str) = "way") := by decide +kernel
  have e5 : ¬ (("kept" : Str) = "extra") := by decide +kernel
  have e6 : ¬ (("kept" : Str) = "places") := by decide +kernel
  have e7 : ¬ (("kept" : Str) = "way") := by decide +kernel
  have e8 : ¬ (("extra" : Str) = "places") := by decide +kernel
  have e9 : ¬ (("extra" : Str) = "way") := by decide +kernel
  have e10 : ¬ (("places" : Str) = "way") := by decide +kernel
  simp [putF, e1, e2, e3, e4, e5, e6, e7, e8, e9, e10]
theorem put3d (c k e : V) : putF "extra" e (putF "kept" k (putF "cap" c [])) = ([("cap", c), ("kept", k), ("extra", e)] : List (Str × V)) := by
  have e1 : ¬ (("cap" : Str) = "kept") := by decide +kernel
  have e2 : ¬ (("cap" : Str) = "extra") := by decide +kernel
  have e3 : ¬ (("cap" : Str) = "places") := by decide +kernel
  have e4 : ¬ (("cap" : Str) = "way") := by decide +kernel
  have e5 : ¬ (("kept" : Str) = "extra") := by decide +kernel
  have e6 : ¬ (("kept" : Str) = "places") := by decide +kernel
  have e7 : ¬ (("kept" : Str) = "way") := by decide +kernel
  have e8 : ¬ (("extra" : Str) = "places") := by decide +kernel
  have e9 : ¬ (("extra" : Str) = "way") := by decide +kernel
  have e10 : ¬ (("places" : Str) = "way") := by decide +kernel
  simp [putF, e1, e2, e3, e4, e5, e6, e7, e8, e9, e10]
theorem put4d (c k e p : V) : putF "places" p (putF "extra" e (putF "kept" k (putF "cap" c []))) = ([("cap", c), ("kept", k), ("extra", e), ("places", p)] : List (Str × V)) := by
  have e1 : ¬ (("cap" : Str) = "kept") := by decide +kernel
  have e2 : ¬ (("cap" : Str) = "extra") := by decide +kernel
  have e3 : ¬ (("cap" : Str) = "places") := by decide +kernel
  have e4 : ¬ (("cap" : Str) = "way") := by decide +kernel
  have e5 : ¬ (("kept" : Str) = "extra") := by decide +kernel
  have e6 : ¬ (("kept" : Str) = "places") := by decide +kernel
  have e7 : ¬ (("kept" : Str) = "way") := by decide +kernel
  have e8 : ¬ (("extra" : Str) = "places") := by decide +kernel
  have e9 : ¬ (("extra" : Str) = "way") := by decide +kernel
  have e10 : ¬ (("places" : Str) = "way") := by decide +kernel
  simp [putF, e1, e2, e3, e4, e5, e6, e7, e8, e9, e10]
theorem put5d (c k e p t : V) : putF "way" t (putF "places" p (putF "extra" e (putF "kept" k (putF "cap" c [])))) = ([("cap", c), ("kept", k), ("extra", e), ("places", p), ("way", t)] : List (Str × V)) := by
  have e1 : ¬ (("cap" : Str) = "kept") := by decide +kernel
  have e2 : ¬ (("cap" : Str) = "extra") := by decide +kernel
  have e3 : ¬ (("cap" : Str) = "places") := by decide +kernel
  have e4 : ¬ (("cap" : Str) = "way") := by decide +kernel
  have e5 : ¬ (("kept" : Str) = "extra") := by decide +kernel
  have e6 : ¬ (("kept" : Str) = "places") := by decide +kernel
  have e7 : ¬ (("kept" : Str) = "way") := by decide +kernel
  have e8 : ¬ (("extra" : Str) = "places") := by decide +kernel
  have e9 : ¬ (("extra" : Str) = "way") := by decide +kernel
  have e10 : ¬ (("places" : Str) = "way") := by decide +kernel
  simp [putF, e1, e2, e3, e4, e5, e6, e7, e8, e9, e10]
section
variable {P : Program} {w : World} {K : PySem.W.Frag} {mg : Str → Option Value} {base : Heap} {C D aW : Addr}
theorem scDI : FnScope psD psD (defScope (dI 0)) := ⟨rfl, rfl, rfl, by decide +kernel, rfl, by decide +kernel, by decide +kernel⟩
def spDI (C D : Addr) : Sp := fun vs H Q E => ∃ (a dx : Addr) (c k e p v : V), vs = [.ref a, c, k, e, p, v] ∧ H a = some (.ins D dx []) ∧ dialArgs C H E c k e p v fun c0 k0 e0 p0 t => Q .non (upd H a (.ins D dx (dialF c0 k0 e0 p0 t)))
theorem ok_dI {f : Addr} {fd : FuncData} {kws : List (Str × V)} (F : FunD K "__init__" "Dialect.__init__" (defArgs (dI 0)) (defBody (dI 0)) (defScope (dI 0)) [] kws f fd) (T : DialC K mg D) (TE : ErrC P w K mg base "BadValue" "value" 1 C (spErr C "value")) (D1 : DefOk P w K mg base CX0 "is_whole_number" 2 ["value"] spIsWh)
    (D2 : DefOk P w K mg base (L2.CX P w) "need_whole_number" 3 ["value"] (spNWh C)) (D3 : DefOk P w K mg base (L2.CX P w) "need_way" 3 ["value"] (spNWay C)) : FnOk P w K mg base (L2.CX P w) 4 f fd psD (spDI C D) := by
  refine F.ok scDI (fun vs H Q E h => ?_) (fun cdv A outer s0 H vs Q E hr h => ?_)
  · obtain ⟨a, dx, c, k, e, p, v, rfl, _⟩ := h
    rfl
  · obtain ⟨a, dx, c, k, e, p, v, rfl, ha, h⟩ := h
    refine ⟨_, pss_cons (ps_if (PW.pt (pw_or (pt_not (pt_val (pe_def D1 hr (by decide) (by rfl) pass0 (pa_cons (pv 1) pa_nil)))) (pw_or1 (pt_cmpR op_eq (pv 1) pe_int (nomark _))))) (pss_one (ps_raise rfl (takes_of rfl rfl rfl rfl) (pmk_err TE hr (by decide) (by rfl) (pv 1)))) pss_nil)
      (pss_cons (ps_if (PW.pt (pw_or (pt_not (pt_val (pe_def D1 hr (by decide) (by rfl) pass0 (pa_cons (pv 2) pa_nil)))) (pw_or1 (pt_cmpR op_gt (pv 2) (pv 1) (nomark _))))) (pss_one (ps_raise rfl (takes_of rfl rfl rfl rfl) (pmk_err TE hr (by decide) (by rfl) (pv 2)))) pss_nil)
      (pss_cons (ps_if (PW.pt (pw_or (pt_not (pt_val (pe_def D1 hr (by decide) (by rfl) pass0 (pa_cons (pv 3) pa_nil)))) (pw_or1 (pt_cmpR op_gt (pv 3) pe_int (nomark _))))) (pss_one (ps_raise rfl (takes_of rfl rfl rfl rfl) (pmk_err TE hr (by decide) (by rfl) (pv 3)))) pss_nil)
      (pss_cons (ps_expr (pe_def (E := E) D2 hr (by decide) (by rfl) (passes_call (takes_of rfl rfl rfl rfl) fun _ _ _ _ z => z) (pa_cons (pv 4) pa_nil)))
      (pss_cons (ps_expr (pe_def (E := E) D3 hr (by decide) (by rfl) (passes_call (takes_of rfl rfl rfl rfl) fun _ _ _ _ z => z) (pa_cons (pv 5) pa_nil)))
      (pss_cons (ps_fld (pv 0) (pv 1) rfl) (pss_cons (ps_fld (pv 0) (pv 2) rfl) (pss_cons (ps_fld (pv 0) (pv 3) rfl) (pss_cons (ps_fld (pv 0) (pv 4) rfl) (pss_one (ps_fld (pv 0) (pv 5) rfl)))))))))), ?_⟩
    rcases h with ⟨th, n, b⟩ | ⟨c0, rfl, h1, h⟩
    · refine ⟨_, rfl, c, rfl, th, _, rfl, ?_⟩
      cases hw : isWh c with
      | false => exact iteT ⟨_, rfl, bad_mk b⟩
      | true =>
        obtain ⟨c0, rfl⟩ := isWh_nat hw
        have z : ¬ (0 : Int) < (c0 : Int) := of_decide_eq_false n
        exact iteF ⟨_, rfl, rfl, _, rfl, ite2 (fun _ => ⟨_, rfl, bad_mk b⟩) (fun e => absurd (decide_eq_true (congrArg V.int (by omega))) e)⟩
    refine ⟨_, rfl, .int c0, rfl, .int _, _, rfl, ?_⟩
    rw [isWh_cast]
    refine iteF ⟨_, rfl, rfl, _, rfl, ite2 (fun e => ?_) (fun _ => ?_)⟩
    · have z : (c0 : Int) = 0 := by simpa using e
      omega
    rcases h with ⟨th, n, b⟩ | ⟨k0, rfl, h2, h⟩
    · refine ⟨_, rfl, k, rfl, th, _, rfl, ?_⟩
      cases hw : isWh k with
      | false => exact iteT ⟨_, rfl, bad_mk b⟩
      | true =>
        obtain ⟨k0, rfl⟩ := isWh_nat hw
        have z : ¬ ((k0 : Int) ≤ (c0 : Int)) := by
          intro y
          have n' : (decide ((0 : Int) ≤ (k0 : Int)) && decide ((k0 : Int) ≤ (c0 : Int))) = false := n
          rw [decide_eq_true y, decide_eq_true (show (0 : Int) ≤ (k0 : Int) by omega)] at n'
          cases n'
        exact iteF ⟨_, rfl, _, rfl, _, _, rfl, rfl, _, rfl, ite2 (fun _ => ⟨_, rfl, bad_mk b⟩) (fun e => absurd (decide_eq_true (by omega)) e)⟩
    refine ⟨_, rfl, .int k0, rfl, .int _, _, rfl, ?_⟩
    rw [isWh_cast]
    refine iteF ⟨_, rfl, _, rfl, _, _, rfl, rfl, _, rfl, ite2 (fun e => ?_) (fun _ => ?_)⟩
    · have z : (c0 : Int) < (k0 : Int) := of_decide_eq_true e
      omega
    rcases h with ⟨th, n, b⟩ | ⟨e0, rfl, h3, h⟩
    · refine ⟨_, rfl, e, rfl, th, _, rfl, ?_⟩
      cases hw : isWh e with
      | false => exact iteT ⟨_, rfl, bad_mk b⟩
      | true =>
        obtain ⟨e0, rfl⟩ := isWh_nat hw
        have z : ¬ ((e0 : Int) ≤ ((1 : Nat) : Int)) := by
          intro y
          have n' : (decide ((0 : Int) ≤ (e0 : Int)) && decide ((e0 : Int) ≤ ((1 : Nat) : Int))) = false := n
          rw [decide_eq_true y, decide_eq_true (show (0 : Int) ≤ (e0 : Int) by omega)] at n'
          cases n'
        exact iteF ⟨_, rfl, _, _, rfl, rfl, _, rfl, ite2 (fun _ => ⟨_, rfl, bad_mk b⟩) (fun e => absurd (decide_eq_true (by omega)) e)⟩
    refine ⟨_, rfl, .int e0, rfl, .int _, _, rfl, ?_⟩
    rw [isWh_cast]
    refine iteF ⟨_, rfl, _, _, rfl, rfl, _, rfl, ite2 (fun e => ?_) (fun _ => ?_)⟩
    · have z : (1 : Int) < (e0 : Int) := of_decide_eq_true e
      omega
    rcases h with ⟨th, n, b⟩ | ⟨p0, rfl, h⟩
    · exact ⟨_, rfl, p, rfl, th, fun z => absurd (z.symm.trans n) (by decide), fun _ => b⟩
    refine ⟨_, rfl, .int p0, rfl, .int _, fun _ => ?_, fun z => isWh_no z⟩
    rcases h with ⟨th, n, b⟩ | ⟨t, ht, rfl, q⟩
    · exact ⟨_, rfl, v, rfl, th, fun z => absurd (z.symm.trans n) (by decide), fun _ => b⟩
    refine ⟨_, rfl, .str t, rfl, .str _, fun _ => ?_, fun e => absurd ((show isWay (.str t) = true from decide_eq_true ht).symm.trans e) (by decide)⟩
    refine ⟨_, rfl, _, rfl, a, D, dx, [], rfl, ha, T.cls, T.n1, by decide, ?_⟩
    refine ⟨_, rfl, _, rfl, a, D, dx, _, rfl, upd_same, T.cls, T.n2, by show 1 < 1000; decide, ?_⟩
    refine ⟨_, rfl, _, rfl, a, D, dx, _, rfl, upd_same, T.cls, T.n3, by rw [put2d]; show 2 < 1000; decide, ?_⟩
    refine ⟨_, rfl, _, rfl, a, D, dx, _, rfl, upd_same, T.cls, T.n4, by rw [put3d]; show 3 < 1000; decide, ?_⟩
    refine ⟨_, rfl, _, rfl, a, D, dx, _, rfl, upd_same, T.cls, T.n5, by rw [put4d]; show 4 < 1000; decide, ?_⟩
    rw [put5d, upd_upd, upd_upd, upd_upd, upd_upd]
    exact q
/-- how the class is called -/
def kwsD : List (Str × V) := [("extra", .int 0), ("places", .int 0), ("way", .str "halfup")]
structure DMk (P : Program) (w : World) (K : PySem.W.Frag) (mg : Str → Option Value) (base : Heap) (C D : Addr) : Prop where
  ex : ∃ (fI : Addr) (fd : FuncData), Mk K D fI ∧ FnOk P w K mg base (L2.CX P w) 4 fI fd psD (spDI C D) ∧ FunD K "__init__" "Dialect.__init__" (defArgs (dI 0)) (defBody (dI 0)) (defScope (dI 0)) [] kwsD fI fd
end
end K10

/-! k10: Dialects called. -/
namespace K10
open PySem PySem.Spec PyProof.Rows L2 LamX NdefX Own
def g0 {α : Type} (us mv _ws : List α) : List α := us ++ mv
def gAll {α : Type} (us _mv ws : List α) : List α := us ++ ws
def gE {α : Type} (us mv ws : List α) : List α := us ++ (ws ++ mv)
def gW {α : Type} (us mv ws : List α) : List α := us ++ (mv ++ ws)
def gP {α : Type} (us mv ws : List α) : List α := match mv with
  | [] => us ++ ws
  | m :: r => us ++ (m :: (ws ++ r))
def gWPE {α : Type} (us _mv ws : List α) : List α := us ++ ws.reverse
def gWP {α : Type} (us mv ws : List α) : List α := us ++ (mv ++ ws.reverse)
theorem vals_rev {vs : List V} {us : List Value} (h : Vals vs us) : Vals vs.reverse us.reverse := by
  induction h with
  | nil => exact .nil
  | cons a b ih =>
    rw [List.reverse_cons, List.reverse_cons]
    exact ih.append (.cons a .nil)
theorem vals_gP {vs mz zs : List V} {us mv ws : List Value} (a : Vals vs us) (b : Vals mz mv) (c : Vals zs ws) : Vals (gP vs mz zs) (gP us mv ws) := by
  cases b with
  | nil => exact a.append c
  | cons x y => exact a.append (.cons x (c.append y))
section
variable {K : PySem.W.Frag} {fI : Addr} {fd : FuncData}
abbrev FDI (K : PySem.W.Frag) (fI : Addr) (fd : FuncData) : Prop := FunD K "__init__" "Dialect.__init__" (defArgs (dI 0)) (defBody (dI 0)) (defScope (dI 0)) [] kwsD fI fd
theorem kb0 (F : FDI K fI fd) : ∃ mv : List Value, KBn K fd psD 3 [] (fun us ws => g0 us mv ws) (fun vs zs => g0 vs ((kwsD : List (Str × V)).map (·.2)) zs) :=
  F.kbinds0 3 [] kwsD g0 (by simp [kwsD]) (by simp [kwsD]) (fun a b c => a.append b) fun D doc pm an cdv ct us mv ws l1 l2 l3 => by
    match us, mv, ws, l1, l2, l3 with
    | [a, b, c], [x, y, z], [], _, _, _ => exact ⟨_, _, _, _, _, _, rfl, rfl, ⟨_, _, _, _, _, _, rfl, rfl, ⟨_, _, _, _, _, _, rfl, rfl, rfl⟩⟩⟩
theorem kbA (F : FDI K fI fd) : ∃ mv : List Value, KBn K fd psD 3 ["extra", "places", "way"] (fun us ws => gAll us mv ws) (fun vs zs => gAll vs (([] : List (Str × V)).map (·.2)) zs) :=
  F.kbinds0 3 ["extra", "places", "way"] [] gAll (by simp [kwsD]) (by simp [kwsD]) (fun a _ c => a.append c) fun D doc pm an cdv ct us mv ws l1 l2 l3 => by
    match us, mv, ws, l1, l2, l3 with
    | [a, b, c], [], [u, v, w], _, _, _ => exact rfl
theorem kbE (F : FDI K fI fd) : ∃ mv : List Value, KBn K fd psD 3 ["extra"] (fun us ws => gE us mv ws) (fun vs zs => gE vs (([("places", .int 0), ("way", .str "halfup")] : List (Str × V)).map (·.2)) zs) :=
  F.kbinds0 3 ["extra"] [("places", .int 0), ("way", .str "halfup")] gE (by simp [kwsD]) (by simp [kwsD]) (fun a b c => a.append (c.append b)) fun D doc pm an cdv ct us mv ws l1 l2 l3 => by
    match us, mv, ws, l1, l2, l3 with
    | [a, b, c], [x, y], [u], _, _, _ => exact ⟨_, _, _, _, _, _, rfl, rfl, ⟨_, _, _, _, _, _, rfl, rfl, rfl⟩⟩
theorem kbW (F : FDI K fI fd) : ∃ mv : List Value, KBn K fd psD 3 ["way"] (fun us ws => gW us mv ws) (fun vs zs => gW vs (([("extra", .int 0), ("places", .int 0)] : List (Str × V)).map (·.2)) zs) :=
  F.kbinds0 3 ["way"] [("extra", .int 0), ("places", .int 0)] gW (by simp [kwsD]) (by simp [kwsD]) (fun a b c => a.append (b.append c)) fun D doc pm an cdv ct us mv ws l1 l2 l3 => by
    match us, mv, ws, l1, l2, l3 with
    | [a, b, c], [x, y], [u], _, _, _ => exact ⟨_, _, _, _, _, _, rfl, rfl, ⟨_, _, _, _, _, _, rfl, rfl, rfl⟩⟩
theorem kbP (F : FDI K fI fd) : ∃ mv : List Value, KBn K fd psD 3 ["places"] (fun us ws => gP us mv ws) (fun vs zs => gP vs (([("extra", .int 0), ("way", .str "halfup")] : List (Str × V)).map (·.2)) zs) :=
  F.kbinds0 3 ["places"] [("extra", .int 0), ("way", .str "halfup")] gP (by simp [kwsD]) (by simp [kwsD]) (vals_gP) fun D doc pm an cdv ct us mv ws l1 l2 l3 => by
    match us, mv, ws, l1, l2, l3 with
    | [a, b, c], [x, y], [u], _, _, _ => exact ⟨_, _, _, _, _, _, rfl, rfl, ⟨_, _, _, _, _, _, rfl, rfl, rfl⟩⟩
theorem kbWPE (F : FDI K fI fd) : ∃ mv : List Value, KBn K fd psD 3 ["way", "places", "extra"] (fun us ws => gWPE us mv ws) (fun vs zs => gWPE vs (([] : List (Str × V)).map (·.2)) zs) :=
  F.kbinds0 3 ["way", "places", "extra"] [] gWPE (by simp [kwsD]) (by simp [kwsD]) (fun a _ c => a.append (vals_rev c)) fun D doc pm an cdv ct us mv ws l1 l2 l3 => by
    match us, mv, ws, l1, l2, l3 with
    | [a, b, c], [], [u, v, w], _, _, _ => exact rfl
theorem kbWP (F : FDI K fI fd) : ∃ mv : List Value, KBn K fd psD 3 ["way", "places"] (fun us ws => gWP us mv ws) (fun vs zs => gWP vs (([("extra", .int 0)] : List (Str × V)).map (·.2)) zs) :=
  F.kbinds0 3 ["way", "places"] [("extra", .int 0)] gWP (by simp [kwsD]) (by simp [kwsD]) (fun a b c => a.append (b.append (vals_rev c))) fun D doc pm an cdv ct us mv ws l1 l2 l3 => by
    match us, mv, ws, l1, l2, l3 with
    | [a, b, c], [x], [u, v], _, _, _ => exact ⟨_, _, _, _, _, _, rfl, rfl, rfl⟩
end
section
variable {P : Program} {w : World} {K : PySem.W.Frag} {mg : Str → Option Value} {base : Heap} {C D : Addr}
def spDial (C D : Addr) (c k e p v : V) (H : Hp) (Q : VK) (E : XK) : Prop := dialArgs C H E c k e p v fun c0 k0 e0 p0 t => ∀ (a : Addr) (H' : Hp), Same H H' → H a = none → DAt D H' a c0 k0 e0 p0 t → Q (.ref a) H'
theorem dial_make {c k e p v : V} {H : Hp} {Q : VK} {E : XK} (h : spDial C D c k e p v H Q E) (a dx : Addr) (na : H a = none) (nd : H dx = none) (ne : dx ≠ a) : spDI C D [.ref a, c, k, e, p, v] (upd (upd H dx (.own a)) a (.ins D dx [])) (fun v H2 => v = .non ∧ Q (.ref a) H2) E := by
  have na1 : upd H dx (.own a) a = none := (upd_ne ne.symm).trans na
  have s1 : Same H (upd (upd H dx (.own a)) a (.ins D dx [])) := (same_new nd).trans (same_new na1)
  refine ⟨a, dx, c, k, e, p, v, rfl, upd_same, h.ext s1 fun c0 k0 e0 p0 t q => ⟨rfl, q a _ (fun b o z => ?_) na ⟨dx, upd_same⟩⟩⟩
  rw [upd_upd]
  exact ((same_new nd).trans (same_new na1)) _ _ z
/-- a Dialect of good values -/
theorem dial_of {c k e p : Nat} {t : Str} {H : Hp} {Q : VK} {E : XK} (h1 : 0 < c) (h2 : k ≤ c) (h3 : e ≤ 1) (ht : t ∈ waysL) (q : ∀ (a : Addr) (H' : Hp), Same H H' → H a = none → DAt D H' a c k e p t → Q (.ref a) H') : spDial C D (.int c) (.int k) (.int e) (.int p) (.str t) H Q E :=
  .inr ⟨c, rfl, h1, .inr ⟨k, rfl, h2, .inr ⟨e, rfl, h3, .inr ⟨p, rfl, .inr ⟨t, ht, rfl, q⟩⟩⟩⟩⟩
def tDial (C D : Addr) (m : Nat) (gV : List V → List V → List V) (E : XK) (t tk : TA) : TE := fun σ H Q => t σ H fun vs H1 => tk σ H1 fun zs H2 => ∃ c k e p v : V, vs.length = 2 ∧ zs.length = m ∧ (∀ x : V, gV (x :: vs) zs = [x, c, k, e, p, v]) ∧ spDial C D c k e p v H2 Q E
section
variable {X : Cx} {k : Nat} {E : XK} {p pos : Pos} {e1 e2 : Expr} {ks : List Str} {kws : List Keyword} {t tk : TA} {g : List Value → List Value → List Value → List Value} {gV : List V → List V → List V}
theorem pe_dial (M : DMk X.prog X.w X.K X.mg X.base C D) (T : DialC X.K X.mg D) (hkb : ∀ {fI fd}, FDI X.K fI fd → ∃ mv : List Value, KBn X.K fd psD 3 ks (fun us ws => g us mv ws) gV) (hr : Room k X.A) (hk : 5 ≤ k) (hg : Gl X "Dialect") (hx : Passes (L2.CX X.prog X.w) X E) (ha : PA X [e1, e2] t) (hkw : PK X kws tk)
    (hall : (backToKw pos (keywordEach kws X.env)).all (·.1.isSome) = true := by rfl) (hks : (backToKw pos (keywordEach kws X.env)).filterMap (·.1) = ks := by rfl)
    (he : starEach [e1, e2] X.env = (false, eval e1 X.env) :: starEach [e2] X.env := by rfl) (hpl : ((backTo pos (starEach [e1, e2] X.env)).any (·.1) || (backToKw pos (keywordEach kws X.env)).any (·.1.isNone)) = false := by rfl) :
    PE X (.Call (.Name "Dialect" p) [e1, e2] kws pos) (tDial C D ks.length gV E t tk) := by
  obtain ⟨fI, fd, mk, F, FD⟩ := M.ex
  obtain ⟨mv, kb⟩ := hkb FD
  refine ⟨fun pins s σ H Q I h => ?_⟩
  refine wpAny_Call_Name_kw (ld_glob I hg T.g ?_ (by decide))
  refine PySem.W.callWith_KW (h₀ := X.base) I.ok.mod.kin mk.kp hall (thn (ha.run pos pins s σ H _ I h) fun us s1 ⟨vs, H1, I1, r, q⟩ => ?_) hpl he
  refine thn (hkw.run pos pins s1 σ H1 _ I1 q) fun ws s2 ⟨zs, H2, I2, rz, c, k', e, p', v, l1, l2, eg, q2⟩ => ⟨I2.kIn, ?_⟩
  rw [hks]
  refine run_makeK (n := 2) mk F (hr.mono hk) kb hx I2 r rz l1 l2 fun a dx na nd ne => ?_
  rw [eg]
  exact dial_make q2 a dx na nd ne
end
end
end K10

/-! k10: the methods of a Dialect. -/
namespace K10
open PySem PySem.Spec PyProof.Rows L2 LamX NdefX Own
def opsL : List Str := ["sum", "difference", "product", "quotient"]
def isOp : V → Bool
  | .str z => decide (z ∈ opsL)
  | _ => false
def uncU (o : Str) (u1 s1 u2 s2 e p : Nat) : Nat := if o = "product" then u1 + u2 + e else if o = "quotient" then u1 + s2 else max u1 u2 + 1
def uncS (o : Str) (u1 s1 u2 s2 e p : Nat) : Nat := if o = "product" then s1 + s2 else if o = "quotient" then max p (s1 + u2 + 1) else max s1 s2
def cutS (c k u s : Nat) : Nat := if u + s ≤ c then s else max (c - u) (min s k)
def cutU (c k u s : Nat) : Nat := if u + s ≤ c then u else c - max (c - u) (min s k)
theorem unc_nz {o : Str} {u1 s1 u2 s2 e p : Nat} (h : ¬ (u1 = 0 ∧ s1 = 0)) : ¬ (uncU o u1 s1 u2 s2 e p = 0 ∧ uncS o u1 s1 u2 s2 e p = 0) := by
  unfold uncU uncS
  by_cases h1 : o = "product"
  · rw [if_pos h1, if_pos h1]
    omega
  · rw [if_neg h1, if_neg h1]
    by_cases h2 : o = "quotient"
    · rw [if_pos h2, if_pos h2]
      omega
    · rw [if_neg h2, if_neg h2]
      omega
theorem cut_nz {c k u s : Nat} (h : ¬ (u = 0 ∧ s = 0)) (hc : 0 < c) (hk : k ≤ c) : ¬ (cutU c k u s = 0 ∧ cutS c k u s = 0) := by
  unfold cutU cutS
  split <;> omega
theorem lk1 (c k e p : Nat) (t : Str) : (dialF c k e p t).lookup ("cap" : Str) = some (.int c) := by simp [dialF, List.lookup]
theorem lk2 (c k e p : Nat) (t : Str) : (dialF c k e p t).lookup ("kept" : Str) = some (.int k) := by
  have e1 : (("kept" : Str) == "cap") = false := by decide +kernel
  simp [dialF, List.lookup, e1]
theorem lk3 (c k e p : Nat) (t : Str) : (dialF c k e p t).lookup ("extra" : Str) = some (.int e) := by
  have e1 : (("extra" : Str) == "cap") = false := by decide +kernel
  have e2 : (("extra" : Str) == "kept") = false := by decide +kernel
  simp [dialF, List.lookup, e1, e2]
theorem lk4 (c k e p : Nat) (t : Str) : (dialF c k e p t).lookup ("places" : Str) = some (.int p) := by
  have e1 : (("places" : Str) == "cap") = false := by decide +kernel
  have e2 : (("places" : Str) == "kept") = false := by decide +kernel
  have e3 : (("places" : Str) == "extra") = false := by decide +kernel
  simp [dialF, List.lookup, e1, e2, e3]
theorem lk5 (c k e p : Nat) (t : Str) : (dialF c k e p t).lookup ("way" : Str) = some (.str t) := by
  have e1 : (("way" : Str) == "cap") = false := by decide +kernel
  have e2 : (("way" : Str) == "kept") = false := by decide +kernel
  have e3 : (("way" : Str) == "extra") = false := by decide +kernel
  have e4 : (("way" : Str) == "places") = false := by decide +kernel
  simp [dialF, List.lookup, e1, e2, e3, e4]
theorem lkm {m : Str} (c k e p : Nat) (t : Str) (h : ∀ f ∈ (["cap", "kept", "extra", "places", "way"] : List Str), (m == f) = false) : (dialF c k e p t).lookup m = none := by
  simp [dialF, List.lookup, h "cap" (by simp), h "kept" (by simp), h "extra" (by simp), h "places" (by simp), h "way" (by simp)]
section
variable {P : Program} {w : World} {K : PySem.W.Frag} {mg : Str → Option Value} {base : Heap} {C CN S D aO : Addr}
theorem scUnc : FnScope ["self", "word", "one", "other"] ["self", "word", "one", "other"] (defScope (dI 2)) := ⟨rfl, rfl, rfl, by decide +kernel, rfl, by decide +kernel, by decide +kernel⟩
/-- a word and two shapes, the first wrong one refused -/
def stepArgs (C S : Addr) (H : Hp) (E : XK) (wd x y : V) (G : Str → Addr → Nat → Nat → Addr → Nat → Nat → Prop) : Prop :=
  (Thing H wd ∧ isOp wd = false ∧ Bad C "value" wd H E) ∨ ∃ o ∈ opsL, wd = .str o ∧
  ((Thing H x ∧ Bad C "value" x H E) ∨ ∃ (b1 : Addr) (u1 s1 : Nat), x = .ref b1 ∧ SAt S H b1 u1 s1 ∧ ¬ (u1 = 0 ∧ s1 = 0) ∧
  ((Thing H y ∧ Bad C "value" y H E) ∨ ∃ (b2 : Addr) (u2 s2 : Nat), y = .ref b2 ∧ SAt S H b2 u2 s2 ∧ ¬ (u2 = 0 ∧ s2 = 0) ∧ G o b1 u1 s1 b2 u2 s2))
def spUnc (C S D : Addr) : Sp := fun vs H Q E => ∃ (a : Addr) (c k e p : Nat) (t : Str) (wd x y : V), vs = [.ref a, wd, x, y] ∧ DAt D H a c k e p t ∧
  stepArgs C S H E wd x y fun o _ u1 s1 _ u2 s2 => ∀ (r : Addr) (H' : Hp), Same H H' → SAt S H' r (uncU o u1 s1 u2 s2 e p) (uncS o u1 s1 u2 s2 e p) → Q (.ref r) H'
theorem max_if (s s2 : Nat) : (if ((s2 : Nat) : Int) > ((s : Nat) : Int) then ((s2 : Nat) : Int) else ((s : Nat) : Int)) = ((max s s2 : Nat) : Int) := by
  split <;> omega
theorem min_if (s z : Nat) : (if ((z : Nat) : Int) < ((s : Nat) : Int) then ((z : Nat) : Int) else ((s : Nat) : Int)) = ((min s z : Nat) : Int) := by
  split <;> omega
theorem ok_unc {f : Addr} {fd : FuncData} (F : Fun K "uncut" "Dialect.uncut" (dI 2) f fd) (B : Blt mg) (T : ShapeC K mg S) (TD : DialC K mg D) (TE : ErrC P w K mg base "BadValue" "value" 1 C (spErr C "value")) (gO : mg "OPERATIONS" = some (.ref aO)) (ops : ∀ H : Hp, SqT K H aO (opsL.map V.str))
    (M : SMk P w K mg base C CN S) (D1 : DefOk P w K mg base (L2.CX P w) "need_shape" 3 ["value"] (spNSh C S)) : FnOk P w K mg base (L2.CX P w) 6 f fd ["self", "word", "one", "other"] (spUnc C S D) := by
  refine F.okX scUnc (fun vs H Q E h => ?_) (fun cdv A outer s0 H vs Q E hr h => ?_)
  · obtain ⟨a, c, k, e, p, t, wd, x, y, rfl, _⟩ := h
    rfl
  · obtain ⟨a, c, k, e, p, t, wd, x, y, rfl, ⟨dx, ea⟩, h⟩ := h
    refine ⟨_, pss_cons (ps_if (pt_cmpR (OpR.or op_notIn_seq (op_notInW (hu_of hr))) (pv 1) (pe_glob (v := .ref aO) (by rfl) gO rfl) (by rfl)) (pss_one (ps_raise rfl (takes_of rfl rfl rfl rfl) (pmk_err TE hr (by decide) (by rfl) (pv 1)))) pss_nil)
      (pss_cons (ps_expr (pe_def (E := E) D1 hr (by decide) (by rfl) (passes_call (takes_of rfl rfl rfl rfl) fun _ _ _ _ z => z) (pa_cons (pv 2) pa_nil)))
      (pss_cons (ps_expr (pe_def (E := E) D1 hr (by decide) (by rfl) (passes_call (takes_of rfl rfl rfl rfl) fun _ _ _ _ z => z) (pa_cons (pv 3) pa_nil)))
      (pss_cons (ps_if (pt_cmpR op_eq (pv 1) pe_str (nomark _)) (pss_one (ps_ret (pe_shape (C := C) (CN := CN) (E := E) M T hr (by decide) (by rfl) (passes_call (takes_of rfl rfl rfl rfl) fun _ _ _ _ z => z) (pa_cons (pe_op op_add (pe_op op_add (pe_fld (pv 2) (by rfl)) (pe_fld (pv 3) (by rfl))) (pe_fld (pv 0) (by rfl))) (pa_cons (pe_op op_add (pe_fld (pv 2) (by rfl)) (pe_fld (pv 3) (by rfl))) pa_nil))))) pss_nil)
      (pss_cons (ps_if (pt_cmpR op_eq (pv 1) pe_str (nomark _)) (pss_one (ps_ret (pe_shape (C := C) (CN := CN) (E := E) M T hr (by decide) (by rfl) (passes_call (takes_of rfl rfl rfl rfl) fun _ _ _ _ z => z) (pa_cons (pe_op op_add (pe_fld (pv 2) (by rfl)) (pe_fld (pv 3) (by rfl))) (pa_cons (pe_callB (call_max2 rfl) (by rfl) B.max (by decide +kernel) (pa_cons (pe_fld (pv 0) (by rfl)) (pa_cons (pe_op op_add (pe_op op_add (pe_fld (pv 2) (by rfl)) (pe_fld (pv 3) (by rfl))) pe_int) pa_nil))) pa_nil))))) pss_nil)
      (pss_one (ps_ret (pe_shape (C := C) (CN := CN) (E := E) M T hr (by decide) (by rfl) (passes_call (takes_of rfl rfl rfl rfl) fun _ _ _ _ z => z) (pa_cons (pe_op op_add (pe_callB (call_max2 rfl) (by rfl) B.max (by decide +kernel) (pa_cons (pe_fld (pv 2) (by rfl)) (pa_cons (pe_fld (pv 3) (by rfl)) pa_nil))) pe_int) (pa_cons (pe_callB (call_max2 rfl) (by rfl) B.max (by decide +kernel) (pa_cons (pe_fld (pv 2) (by rfl)) (pa_cons (pe_fld (pv 3) (by rfl)) pa_nil))) pa_nil))))))))), ?_⟩
    have inop : ∀ z : Str, inV (.str z) (opsL.map V.str) = decide (z ∈ opsL) := fun z => by
      unfold inV
      rw [List.any_map]
      have : ∀ l : List Str, (l.any ((fun y => eqV y (.str z)) ∘ V.str)) = decide (z ∈ l) := by
        intro l
        induction l with
        | nil => rfl
        | cons a r ih =>
          rw [List.any_cons, ih]
          show (a == z || decide (z ∈ r)) = decide (z ∈ a :: r)
          by_cases h : a = z
          · subst h
            simp
          · have h' : ¬ z = a := fun e => h e.symm
            simp [h, h']
      exact this opsL
    rcases h with ⟨th, n, b⟩ | ⟨o, ho, rfl, h⟩
    · rcases th.noTxt with nt | ⟨z, rfl⟩
      · exact ⟨_, rfl, .inr ⟨aO, opsL, rfl, ops H, nt, _, rfl, iteT ⟨_, rfl, bad_mk b⟩⟩⟩
      · refine ⟨_, rfl, .inl ⟨aO, _, rfl, .inr (ops H), rfl, by decide +kernel, _, rfl, ?_⟩⟩
        show if (if true = true then !inV (.str z) (opsL.map V.str) else inV (.str z) (opsL.map V.str)) = true then _ else _
        have n' : decide (z ∈ opsL) = false := n
        rw [if_pos rfl, inop, n']
        exact iteT ⟨_, rfl, bad_mk b⟩
    refine ⟨_, rfl, .inl ⟨aO, _, rfl, .inr (ops H), rfl, by decide +kernel, _, rfl, ?_⟩⟩
    show if (if true = true then !inV (.str o) (opsL.map V.str) else inV (.str o) (opsL.map V.str)) = true then _ else _
    rw [if_pos rfl, inop, decide_eq_true ho]
    refine iteF ?_
    rcases h with ⟨th, b⟩ | ⟨b1, u1, s1, rfl, w1, z1, h⟩
    · exact ⟨_, rfl, x, rfl, .inr ⟨th, b⟩⟩
    refine ⟨_, rfl, _, rfl, .inl ⟨b1, u1, s1, rfl, w1, ?_⟩⟩
    rcases h with ⟨th, b⟩ | ⟨b2, u2, s2, rfl, w2, z2, q⟩
    · exact ⟨_, rfl, y, rfl, .inr ⟨th, b⟩⟩
    refine ⟨_, rfl, _, rfl, .inl ⟨b2, u2, s2, rfl, w2, ?_⟩⟩
    have nz := unc_nz (o := o) (u2 := u2) (s2 := s2) (e := e) (p := p) z1
    have fin : ∀ (U V' : Nat), uncU o u1 s1 u2 s2 e p = U → uncS o u1 s1 u2 s2 e p = V' → spShape C CN S [.int U, .int V'] H Q E := fun U V' h1 h2 => by
      subst h1 h2
      exact shape_of nz fun r H' sm _ ws => q r H' sm ws
    obtain ⟨d1, e1⟩ := id w1
    obtain ⟨d2, e2⟩ := id w2
    refine ⟨_, rfl, rfl, _, rfl, ite2 (fun c1 => ?_) (fun c1 => ?_)⟩
    · have ho1 : o = "product" := by simpa using c1
      refine ⟨_, rfl, b1, S, d1, _, .int u1, rfl, e1, T.cls, T.nw, lk_w _ _, _, rfl, b2, S, d2, _, .int u2, rfl, e2, T.cls, T.nw, lk_w _ _, _, _, rfl, rfl, _, rfl, a, D, dx, _, .int e, rfl, ea, TD.cls, TD.n3, lk3 _ _ _ _ _, _, _, rfl, rfl, _, rfl, b1, S, d1, _, .int s1, rfl, e1, T.cls, T.ns, lk_s _ _, _, rfl, b2, S, d2, _, .int s2, rfl, e2, T.cls, T.ns, lk_s _ _, _, _, rfl, rfl, ?_⟩
      dsimp only [tNil]
      rw [List.append_nil, show (u1 : Int) + (u2 : Int) + (e : Int) = ((u1 + u2 + e : Nat) : Int) by omega, show (s1 : Int) + (s2 : Int) = ((s1 + s2 : Nat) : Int) by omega]
      exact fin _ _ (by unfold uncU; rw [if_pos ho1]) (by unfold uncS; rw [if_pos ho1])
    have no1 : ¬ o = "product" := by simpa using c1
    refine ⟨_, rfl, rfl, _, rfl, ite2 (fun c2 => ?_) (fun c2 => ?_)⟩
    · have ho2 : o = "quotient" := by simpa using c2
      refine ⟨_, rfl, b1, S, d1, _, .int u1, rfl, e1, T.cls, T.nw, lk_w _ _, _, rfl, b2, S, d2, _, .int s2, rfl, e2, T.cls, T.ns, lk_s _ _, _, _, rfl, rfl, _, rfl, a, D, dx, _, .int p, rfl, ea, TD.cls, TD.n4, lk4 _ _ _ _ _, _, rfl, b1, S, d1, _, .int s1, rfl, e1, T.cls, T.ns, lk_s _ _, _, rfl, b2, S, d2, _, .int u2, rfl, e2, T.cls, T.nw, lk_w _ _, _, _, rfl, rfl, _, _, rfl, rfl, _, _, rfl, ?_⟩
      dsimp only [tNil]
      rw [List.append_nil, show (u1 : Int) + (s2 : Int) = ((u1 + s2 : Nat) : Int) by omega, show (s1 : Int) + (u2 : Int) + 1 = ((s1 + u2 + 1 : Nat) : Int) by omega, max_if]
      exact fin _ _ (by unfold uncU; rw [if_neg no1, if_pos ho2]) (by unfold uncS; rw [if_neg no1, if_pos ho2])
    have no2 : ¬ o = "quotient" := by simpa using c2
    refine ⟨_, rfl, b1, S, d1, _, .int u1, rfl, e1, T.cls, T.nw, lk_w _ _, _, rfl, b2, S, d2, _, .int u2, rfl, e2, T.cls, T.nw, lk_w _ _, _, _, rfl, _, _, rfl, rfl, _, rfl, b1, S, d1, _, .int s1, rfl, e1, T.cls, T.ns, lk_s _ _, _, rfl, b2, S, d2, _, .int s2, rfl, e2, T.cls, T.ns, lk_s _ _, _, _, rfl, ?_⟩
    dsimp only [tNil]
    rw [List.append_nil, max_if, max_if, show ((max u1 u2 : Nat) : Int) + 1 = ((max u1 u2 + 1 : Nat) : Int) by omega]
    exact fin _ _ (by unfold uncU; rw [if_neg no1, if_neg no2]) (by unfold uncS; rw [if_neg no1, if_neg no2])
theorem scCut : FnScope ["self", "shape", "scale"] ["self", "shape"] (defScope (dI 3)) := ⟨rfl, rfl, rfl, by decide +kernel, rfl, by decide +kernel, by decide +kernel⟩
def spCut (C S D : Addr) : Sp := fun vs H Q E => ∃ (a : Addr) (c k e p : Nat) (t : Str) (x : V), vs = [.ref a, x] ∧ DAt D H a c k e p t ∧ 0 < c ∧ k ≤ c ∧ ((Thing H x ∧ Bad C "value" x H E) ∨ ∃ (b u s : Nat), x = .ref b ∧ SAt S H b u s ∧ ¬ (u = 0 ∧ s = 0) ∧
  ∀ (r : Addr) (H' : Hp), Same H H' → SAt S H' r (cutU c k u s) (cutS c k u s) → Q (.ref r) H')
theorem ok_cut {f : Addr} {fd : FuncData} (F : Fun K "cut" "Dialect.cut" (dI 3) f fd) (B : Blt mg) (T : ShapeC K mg S) (TD : DialC K mg D) (M : SMk P w K mg base C CN S) (W : SWid P w K mg base S) (D1 : DefOk P w K mg base (L2.CX P w) "need_shape" 3 ["value"] (spNSh C S)) :
    FnOk P w K mg base (L2.CX P w) 6 f fd ["self", "shape"] (spCut C S D) := by
  refine F.okX scCut (fun vs H Q E h => ?_) (fun cdv A outer s0 H vs Q E hr h => ?_)
  · obtain ⟨a, c, k, e, p, t, x, rfl, _⟩ := h
    rfl
  · obtain ⟨a, c, k, e, p, t, x, rfl, ⟨dx, ea⟩, hc, hk, h⟩ := h
    have nd := scCut.nd
    refine ⟨_, pss_cons (ps_expr (pe_def (E := E) D1 hr (by decide) (by rfl) (passes_call (takes_of rfl rfl rfl rfl) fun _ _ _ _ z => z) (pa_cons (pv 1) pa_nil)))
      (pss_cons (ps_if (pt_cmpR op_le (pe_width W T hr (by decide) (pv 1) (by rfl)) (pe_fld (pv 0) (by rfl)) (nomark _)) (pss_one (ps_ret (pv 1))) pss_nil)
      (pss_cons (ps_set (i := 2) nd rfl (.inl rfl) (pe_callB (call_max2 rfl) (by rfl) B.max (by decide +kernel) (pa_cons (pe_op op_sub (pe_fld (pv 0) (by rfl)) (pe_fld (pv 1) (by rfl))) (pa_cons (pe_callB (call_min2 rfl) (by rfl) B.min (by decide +kernel) (pa_cons (pe_fld (pv 1) (by rfl)) (pa_cons (pe_fld (pv 0) (by rfl)) pa_nil))) pa_nil))))
      (pss_one (ps_ret (pe_shape (C := C) (CN := CN) (E := E) M T hr (by decide) (by rfl) (passes_call (takes_of rfl rfl rfl rfl) fun _ _ _ _ z => z) (pa_cons (pe_op op_sub (pe_fld (pv 0) (by rfl)) (pv 2)) (pa_cons (pv 2) pa_nil))))))), ?_⟩
    rcases h with ⟨th, b⟩ | ⟨b, u, s, rfl, ws, nz, q⟩
    · exact ⟨_, rfl, x, rfl, .inr ⟨th, b⟩⟩
    refine ⟨_, rfl, _, rfl, .inl ⟨b, u, s, rfl, ws, ?_⟩⟩
    obtain ⟨d1, e1⟩ := id ws
    refine ⟨_, rfl, b, d1, _, rfl, e1, b, u, s, rfl, ws, ?_⟩
    refine ⟨_, rfl, a, D, dx, _, .int c, rfl, ea, TD.cls, TD.n1, lk1 _ _ _ _ _, _, _, rfl, rfl, _, rfl, ite2 (fun g => ?_) (fun g => ?_)⟩
    · have hle : u + s ≤ c := by
        have z : ((u + s : Nat) : Int) ≤ (c : Int) := of_decide_eq_true g
        omega
      refine ⟨_, rfl, q b H (Same.refl H) ?_⟩
      unfold cutU cutS
      rw [if_pos hle, if_pos hle]
      exact ws
    · have hle : ¬ u + s ≤ c := by
        have z : ¬ ((u + s : Nat) : Int) ≤ (c : Int) := fun y => g (decide_eq_true y)
        omega
      refine ⟨_, rfl, a, D, dx, _, .int c, rfl, ea, TD.cls, TD.n1, lk1 _ _ _ _ _, _, rfl, b, S, d1, _, .int u, rfl, e1, T.cls, T.nw, lk_w _ _, _, _, rfl, rfl, _, rfl, b, S, d1, _, .int s, rfl, e1, T.cls, T.ns, lk_s _ _, _, rfl, a, D, dx, _, .int k, rfl, ea, TD.cls, TD.n2, lk2 _ _ _ _ _, _, _, rfl, _, _, rfl, ?_⟩
      dsimp only [gName, List.set]
      have em : (if (if (k : Int) < (s : Int) then (k : Int) else (s : Int)) > (c : Int) - (u : Int) then (if (k : Int) < (s : Int) then (k : Int) else (s : Int)) else (c : Int) - (u : Int)) = ((max (c - u) (min s k) : Nat) : Int) := by
        rw [min_if]
        split <;> omega
      rw [em]
      have nz2 := cut_nz nz hc hk
      unfold cutU cutS at nz2
      rw [if_neg hle, if_neg hle] at nz2
      have q := q
      unfold cutU cutS at q
      rw [if_neg hle, if_neg hle] at q
      have hm : max (c - u) (min s k) ≤ c := by omega
      generalize max (c - u) (min s k) = m at nz2 q hm ⊢
      refine ⟨_, rfl, a, D, dx, _, .int c, rfl, ea, TD.cls, TD.n1, lk1 _ _ _ _ _, _, rfl, _, _, rfl, rfl, _, rfl, ?_⟩
      dsimp only [tNil]
      rw [List.append_nil, show (c : Int) - (m : Int) = ((c - m : Nat) : Int) by omega]
      exact shape_of nz2 fun r H' sm _ ws => q r H' sm ws
/-- a method of the class -/
structure DMeth (P : Program) (w : World) (K : PySem.W.Frag) (mg : Str → Option Value) (base : Heap) (D : Addr) (m : Str) (k : Nat) (ps : List Str) (sp : Sp) : Prop where
  ex : ∃ (f : Addr) (fd : FuncData), Meth K D m f ∧ FnOk P w K mg base (L2.CX P w) k f fd ps sp ∧ Binds K fd ps []
theorem scShOf : FnScope ["self", "word", "one", "other"] ["self", "word", "one", "other"] (defScope (dI 4)) := ⟨rfl, rfl, rfl, by decide +kernel, rfl, by decide +kernel, by decide +kernel⟩
def spShOf (C S D : Addr) : Sp := fun vs H Q E => ∃ (a : Addr) (c k e p : Nat) (t : Str) (wd x y : V), vs = [.ref a, wd, x, y] ∧ DAt D H a c k e p t ∧ 0 < c ∧ k ≤ c ∧
  stepArgs C S H E wd x y fun o _ u1 s1 _ u2 s2 => ∀ (r : Addr) (H' : Hp), Same H H' → SAt S H' r (cutU c k (uncU o u1 s1 u2 s2 e p) (uncS o u1 s1 u2 s2 e p)) (cutS c k (uncU o u1 s1 u2 s2 e p) (uncS o u1 s1 u2 s2 e p)) → Q (.ref r) H'
theorem stepArgs.imp {H : Hp} {E : XK} {wd x y : V} {G G' : Str → Addr → Nat → Nat → Addr → Nat → Nat → Prop} (h : stepArgs C S H E wd x y G) (g : ∀ o b1 u1 s1 b2 u2 s2, ¬ (u1 = 0 ∧ s1 = 0) → G o b1 u1 s1 b2 u2 s2 → G' o b1 u1 s1 b2 u2 s2) : stepArgs C S H E wd x y G' := by
  rcases h with ⟨th, n, b⟩ | ⟨o, ho, e1, h⟩
  · exact .inl ⟨th, n, b⟩
  refine .inr ⟨o, ho, e1, ?_⟩
  rcases h with ⟨th, b⟩ | ⟨b1, u1, s1, e2, w1, z1, h⟩
  · exact .inl ⟨th, b⟩
  refine .inr ⟨b1, u1, s1, e2, w1, z1, ?_⟩
  rcases h with ⟨th, b⟩ | ⟨b2, u2, s2, e3, w2, z2, h⟩
  · exact .inl ⟨th, b⟩
  exact .inr ⟨b2, u2, s2, e3, w2, z2, g _ _ _ _ _ _ _ z1 h⟩
theorem ok_shOf {f : Addr} {fd : FuncData} (F : Fun K "shape_of" "Dialect.shape_of" (dI 4) f fd) (TD : DialC K mg D) (MU : DMeth P w K mg base D "uncut" 6 ["self", "word", "one", "other"] (spUnc C S D)) (MC : DMeth P w K mg base D "cut" 6 ["self", "shape"] (spCut C S D)) :
    FnOk P w K mg base (L2.CX P w) 7 f fd ["self", "word", "one", "other"] (spShOf C S D) := by
  refine F.okX scShOf (fun vs H Q E h => ?_) (fun cdv A outer s0 H vs Q E hr h => ?_)
  · obtain ⟨a, c, k, e, p, t, wd, x, y, rfl, _⟩ := h
    rfl
  · obtain ⟨a, c, k, e, p, t, wd, x, y, rfl, da, hc, hk, h⟩ := h
    obtain ⟨fU, fdU, mU, FU, bU⟩ := MU.ex
    obtain ⟨fC, fdC, mC, FC, bC⟩ := MC.ex
    refine ⟨_, pss_one (ps_ret (pe_meth (E := E) (pv 0) TD.cls mC FC (hr.mono (by decide)) bC .nil (passes_call (takes_of rfl rfl rfl rfl) fun _ _ _ _ z => z) (pa_cons (pe_meth (E := E) (pv 0) TD.cls mU FU (hr.mono (by decide)) bU .nil (passes_call (takes_of rfl rfl rfl rfl) fun _ _ _ _ z => z) (pa_cons (pv 1) (pa_cons (pv 2) (pa_cons (pv 3) pa_nil)))) pa_nil))), ?_⟩
    obtain ⟨dx, ea⟩ := id da
    refine ⟨_, rfl, a, dx, _, rfl, ea, lkm _ _ _ _ _ (by decide +kernel), _, rfl, a, dx, _, rfl, ea, lkm _ _ _ _ _ (by decide +kernel), _, rfl, _, rfl, _, rfl, a, c, k, e, p, t, wd, x, y, rfl, da, ?_⟩
    refine h.imp fun o b1 u1 s1 b2 u2 s2 z1 q r H' sm ws => ?_
    exact ⟨a, c, k, e, p, t, .ref r, rfl, da.same sm, hc, hk, .inr ⟨r, _, _, rfl, ws, unc_nz z1, fun r2 H2 sm2 ws2 => q r2 H2 (sm.trans sm2) ws2⟩⟩
end
end K10

/-! k10: ==; the law's shapes. -/
namespace K10
open PySem PySem.Spec PyProof.Rows L2 LamX NdefX Own
abbrev sShape : Stmt := topS 26
abbrev sSeen : Stmt := topS 27
abbrev sUnc : Stmt := topS 28
abbrev sCut : Stmt := topS 29
abbrev sDial : Stmt := topS 30
abbrev sWide : Stmt := topS 31
section
variable {P : Program} {w : World} {K : PySem.W.Frag} {mg : Str → Option Value} {base : Heap} {C CN S D aO : Addr}
theorem scEqD : FnScope ["self", "other"] ["self", "other"] (defScope (dI 1)) := ⟨rfl, rfl, rfl, by decide +kernel, rfl, by decide +kernel, by decide +kernel⟩
def spEqD (D : Addr) : Sp := fun vs H Q _ => ∃ (a : Addr) (c k e p : Nat) (t : Str) (y : V), vs = [.ref a, y] ∧ DAt D H a c k e p t ∧
  ((∃ (b : Addr) (c2 k2 e2 p2 : Nat) (t2 : Str), y = .ref b ∧ DAt D H b c2 k2 e2 p2 t2 ∧ Q (.bl (decide (c = c2 ∧ k = k2 ∧ e = e2 ∧ p = p2 ∧ t = t2))) H) ∨ (Thing H y ∧ Q (.bl false) H))
theorem dec_nat (a b : Nat) : decide (V.int (a : Int) = V.int (b : Int)) = decide (a = b) := by
  by_cases h : a = b
  · subst h
    simp
  · rw [decide_eq_false h]
    exact decide_eq_false fun z => h (by have := V.int.inj z; omega)
theorem ok_eqD {g : Addr} {fd : FuncData} (F : Fun K "__eq__" "Dialect.__eq__" (dI 1) g fd) (B : Blt mg) (T : DialC K mg D) (I : WIs K D) : FnOk P w K mg base (L2.CX P w) 1 g fd ["self", "other"] (spEqD D) := by
  refine F.okX scEqD (fun vs H Q E h => ?_) (fun cdv A outer s0 H vs Q E hr h => ?_)
  · obtain ⟨a, c, k, e, p, t, y, rfl, _⟩ := h
    rfl
  · obtain ⟨a, c, k, e, p, t, y, rfl, ⟨dx, ea⟩, h⟩ := h
    refine ⟨_, pss_one (ps_ret (pe_and (pe_callB call_isi (by rfl) B.isi (by decide +kernel) (pa_cons (pv 1) (pa_cons (pe_glob (v := .ref D) (by rfl) T.g rfl) pa_nil)))
      (pe_and (pe_cmpR op_eq (pe_fld (pv 0) (by rfl)) (pe_fld (pv 1) (by rfl)) (nomark _)) (pe_and (pe_cmpR op_eq (pe_fld (pv 0) (by rfl)) (pe_fld (pv 1) (by rfl)) (nomark _)) (pe_and (pe_cmpR op_eq (pe_fld (pv 0) (by rfl)) (pe_fld (pv 1) (by rfl)) (nomark _))
      (pe_and (pe_cmpR op_eq (pe_fld (pv 0) (by rfl)) (pe_fld (pv 1) (by rfl)) (nomark _)) (pe_one (pe_cmpR op_eq (pe_fld (pv 0) (by rfl)) (pe_fld (pv 1) (by rfl)) (nomark _))))))))), ?_⟩
    rcases h with ⟨b, c2, k2, e2, p2, t2, rfl, ⟨dy, eb⟩, q⟩ | ⟨th, q⟩
    · refine ⟨_, rfl, _, _, _, _, true, rfl, .own D, .base (.ins eb T.cls I.ha I.hn I.ht I.hm), by unfold PySem.W.kitOne; rw [if_pos (by simp)], _, rfl, iteT ?_⟩
      refine ⟨_, rfl, a, D, dx, _, .int c, rfl, ea, T.cls, T.n1, lk1 _ _ _ _ _, _, rfl, b, D, dy, _, .int c2, rfl, eb, T.cls, T.n1, lk1 _ _ _ _ _, rfl, _, rfl, ite2 (fun g => ?_) (fun g => ?_)⟩
      rotate_left
      · have h0 : ¬ c = c2 := by rw [dec_nat] at g; simpa using g
        rw [decide_eq_false (fun z => h0 z.1)] at q
        exact q
      rw [dec_nat] at g
      have h1 : c = c2 := of_decide_eq_true g
      refine ⟨_, rfl, a, D, dx, _, .int k, rfl, ea, T.cls, T.n2, lk2 _ _ _ _ _, _, rfl, b, D, dy, _, .int k2, rfl, eb, T.cls, T.n2, lk2 _ _ _ _ _, rfl, _, rfl, ite2 (fun g => ?_) (fun g => ?_)⟩
      rotate_left
      · have h0 : ¬ k = k2 := by rw [dec_nat] at g; simpa using g
        rw [decide_eq_false (fun z => h0 z.2.1)] at q
        exact q
      rw [dec_nat] at g
      have h2 : k = k2 := of_decide_eq_true g
      refine ⟨_, rfl, a, D, dx, _, .int e, rfl, ea, T.cls, T.n3, lk3 _ _ _ _ _, _, rfl, b, D, dy, _, .int e2, rfl, eb, T.cls, T.n3, lk3 _ _ _ _ _, rfl, _, rfl, ite2 (fun g => ?_) (fun g => ?_)⟩
      rotate_left
      · have h0 : ¬ e = e2 := by rw [dec_nat] at g; simpa using g
        rw [decide_eq_false (fun z => h0 z.2.2.1)] at q
        exact q
      rw [dec_nat] at g
      have h3 : e = e2 := of_decide_eq_true g
      refine ⟨_, rfl, a, D, dx, _, .int p, rfl, ea, T.cls, T.n4, lk4 _ _ _ _ _, _, rfl, b, D, dy, _, .int p2, rfl, eb, T.cls, T.n4, lk4 _ _ _ _ _, rfl, _, rfl, ite2 (fun g => ?_) (fun g => ?_)⟩
      rotate_left
      · have h0 : ¬ p = p2 := by rw [dec_nat] at g; simpa using g
        rw [decide_eq_false (fun z => h0 z.2.2.2.1)] at q
        exact q
      rw [dec_nat] at g
      have h4 : p = p2 := of_decide_eq_true g
      refine ⟨_, rfl, a, D, dx, _, .str t, rfl, ea, T.cls, T.n5, lk5 _ _ _ _ _, _, rfl, b, D, dy, _, .str t2, rfl, eb, T.cls, T.n5, lk5 _ _ _ _ _, rfl, ?_⟩
      show Q (.bl (decide (V.str t = V.str t2))) H
      have e5 : decide (V.str t = V.str t2) = decide (c = c2 ∧ k = k2 ∧ e = e2 ∧ p = p2 ∧ t = t2) := by
        rw [Own.dec_str]
        by_cases ht : t = t2
        · rw [decide_eq_true ht, decide_eq_true (show _ from ⟨h1, h2, h3, h4, ht⟩)]
        · rw [decide_eq_false ht, decide_eq_false (fun z => ht z.2.2.2.2)]
      rw [e5]
      exact q
    · obtain ⟨ty, hty, tx⟩ := th.tyx (K := K)
      exact ⟨_, rfl, _, _, _, _, false, rfl, .own D, tx, I.no ty hty, _, rfl, iteF q⟩
/-- how two Dialects are compared -/
structure DEq (P : Program) (w : World) (K : PySem.W.Frag) (mg : Str → Option Value) (base : Heap) (D : Addr) : Prop where
  ex : ∃ (f : Addr) (fd : FuncData), PySem.W.findIn K (.ref D) "__eq__" = some (some (.ref f)) ∧ PySem.W.isFn K (.ref f) = true ∧ FnOk P w K mg base (L2.CX P w) 1 f fd ["self", "other"] (spEqD D) ∧ Binds K fd ["self", "other"] []
  sub : ∀ T ∈ tys, PySem.W.subIn K (.type T) (.ref D) = some false
end
end K10

/-! k10: the law's small defs. -/
namespace K10
open PySem PySem.Spec PyProof.Rows L2 LamX NdefX Own
/-- a pair of ints, as data -/
theorem dp_two {K : PySem.W.Frag} {H : Hp} {a : Addr} {u v : Int} (e : H a = some (.tup [.int u, .int v])) : Dp K H (.ref a) (.tuple [.int u, .int v]) := .tup (SqT.of e) (.cons (.int u) (.cons (.int v) .nil))
theorem sh_two (u v : Int) : SeqAt.shaped (.tuple [.int u, .int v]) = true := by
  unfold SeqAt.shaped
  simp [PyData.canLay0, PyData.canLayAll0, PyData.depth, PyData.depthAll]
/-- the told numbers of a dialect -/
def Told (H : Hp) (l : Addr) (c k e p : Nat) (t : Str) : Prop := H l = some (.lst [.int c, .int k, .int e, .int p, .str t])
def Two (H : Hp) (r : Addr) (u s : Nat) : Prop := H r = some (.tup [.int u, .int s])
section
variable {P : Program} {w : World} {K : PySem.W.Frag} {mg : Str → Option Value} {base : Heap} {C CN S D aO : Addr}
theorem scShape : FnScope ["_law_pen", "_law_most", "_law_whole", "_law_scale"] ["_law_pen", "_law_most"] (defScope sShape) := ⟨rfl, rfl, rfl, by decide +kernel, rfl, by decide +kernel, by decide +kernel⟩
def spLShape : Sp := fun vs H Q _ => ∃ (d : Addr) (m : Nat) (B : Int), vs = [.ref d, .int m] ∧ 1 ≤ m ∧ m ≤ 100 ∧ Pen H d B ∧ B ≤ 800000000 ∧ ∀ (u s : Nat) (r : Addr) (H' : Hp), u ≤ m → s ≤ m → ¬ (u = 0 ∧ s = 0) → Keep d H H' → Pen H' d (B + 10) → Two H' r u s → r ≠ d → Q (.ref r) H'
theorem ok_lshape (A : At K mg "_law_shape" sShape ["_law_pen", "_law_most"]) (D1 : DefOk P w K mg base CX0 "_law_draw" 1 ["_law_pen", "_law_span"] spDraw) (D2 : DefOk P w K mg base CX0 "_law_pick" 2 ["_law_pen", "_law_some"] spPick) : DefOk P w K mg base CX0 "_law_shape" 3 ["_law_pen", "_law_most"] spLShape := by
  refine A.ok fun f fd F => F.ok scShape (fun vs H Q E h => ?_) (fun cdv A outer s0 H vs Q E hr h => ?_)
  · obtain ⟨d, m, B, rfl, _⟩ := h
    rfl
  · obtain ⟨d, m, B, rfl, hm1, hm2, hp, hB, q⟩ := h
    have nd := scShape.nd
    refine ⟨_, pss_cons (ps_par (i := 2) (j := 3) (by rfl) nd rfl rfl (by decide) rfl rfl (pa_cons (pe_def D1 hr (by decide) (by rfl) pass0 (pa_cons (pv 0) (pa_cons (pe_op op_add (pv 1) pe_int) pa_nil))) (pa_cons (pe_def D1 hr (by decide) (by rfl) pass0 (pa_cons (pv 0) (pa_cons (pe_op op_add (pv 1) pe_int) pa_nil))) pa_nil)) (by rfl))
      (pss_cons (ps_asg (pe_def D2 hr (by decide) (by rfl) pass0 (pa_cons (pv 0) (pa_cons (pe_lst (pa_cons (pe_tup (pa_cons (pv 2) (pa_cons (pv 3) pa_nil))) (pa_cons (pe_tup (pa_cons (pv 2) (pa_cons (pv 3) pa_nil))) (pa_cons (pe_tup (pa_cons pe_int (pa_cons (pv 3) pa_nil))) (pa_cons (pe_tup (pa_cons (pv 2) (pa_cons pe_int pa_nil))) (pa_cons (pe_tup (pa_cons pe_int (pa_cons pe_int pa_nil))) pa_nil)))))) pa_nil)))
          (pg_tup rfl (pgs_cons (pg_name (i := 2) nd rfl (.inl rfl)) (pgs_cons (pg_name (i := 3) nd rfl (.inl rfl)) pgs_nil))))
      (pss_cons (ps_if (pt_cmpR op_eq (pe_op op_add (pv 2) (pv 3)) pe_int (nomark _)) (pss_one (ps_ret (pe_tup (pa_cons pe_int (pa_cons pe_int pa_nil))))) pss_nil)
      (pss_one (ps_ret (pe_tup (pa_cons (pv 2) (pa_cons (pv 3) pa_nil))))))), ?_⟩
    have gm : (m : Int) + 1 = ((m + 1 : Nat) : Int) := by omega
    refine ⟨_, rfl, _, rfl, _, _, rfl, rfl, d, (m : Int) + 1, B, rfl, hp, by omega, by omega, by omega, fun x H1 a1 a2 k1 p1 => ?_⟩
    refine ⟨_, rfl, _, rfl, _, _, rfl, rfl, d, (m : Int) + 1, _, rfl, p1, by omega, by omega, by omega, fun y H2 b1 b2 k2 p2 => ?_⟩
    obtain ⟨x, rfl⟩ : ∃ n : Nat, x = (n : Int) := ⟨x.toNat, (Int.toNat_of_nonneg a1).symm⟩
    obtain ⟨y, rfl⟩ : ∃ n : Nat, y = (n : Int) := ⟨y.toNat, (Int.toNat_of_nonneg b1).symm⟩
    refine ⟨_, _, rfl, ?_⟩
    dsimp only [gName, List.set]
    refine ⟨_, rfl, _, rfl, _, rfl, by show 2 ≤ sizeLine; decide, fun r1 m1 => ?_⟩
    have t1 := same_new (o := HO.tup [.int x, .int y]) m1
    have f1 : Two (upd H2 r1 (HO.tup [.int x, .int y])) r1 x y := upd_same
    generalize upd H2 r1 (HO.tup [.int x, .int y]) = A1 at t1 f1 ⊢
    refine ⟨_, rfl, _, rfl, by show 2 ≤ sizeLine; decide, fun r2 m2 => ?_⟩
    have t2 := same_new (o := HO.tup [.int x, .int y]) m2
    have f2 : Two (upd A1 r2 (HO.tup [.int x, .int y])) r2 x y := upd_same
    generalize upd A1 r2 (HO.tup [.int x, .int y]) = A2 at t2 f2 ⊢
    refine ⟨_, rfl, by show 2 ≤ sizeLine; decide, fun r3 m3 => ?_⟩
    have t3 := same_new (o := HO.tup [.int 0, .int y]) m3
    have f3 : Two (upd A2 r3 (HO.tup [.int 0, .int y])) r3 0 y := upd_same
    generalize upd A2 r3 (HO.tup [.int 0, .int y]) = A3 at t3 f3 ⊢
    refine ⟨_, rfl, by show 2 ≤ sizeLine; decide, fun r4 m4 => ?_⟩
    have t4 := same_new (o := HO.tup [.int x, .int 0]) m4
    have f4 : Two (upd A3 r4 (HO.tup [.int x, .int 0])) r4 x 0 := upd_same
    generalize upd A3 r4 (HO.tup [.int x, .int 0]) = A4 at t4 f4 ⊢
    refine ⟨by show 2 ≤ sizeLine; decide, fun r5 m5 => ?_⟩
    have t5 := same_new (o := HO.tup [.int 1, .int 1]) m5
    have f5 : Two (upd A4 r5 (HO.tup [.int 1, .int 1])) r5 1 1 := upd_same
    generalize upd A4 r5 (HO.tup [.int 1, .int 1]) = A5 at t5 f5 ⊢
    refine ⟨by show 5 ≤ sizeLine; decide, fun l nl => ?_⟩
    have sl := same_new (o := HO.lst [.ref r1, .ref r2, .ref r3, .ref r4, .ref r5]) nl
    have all : ∀ v ∈ ([.ref r1, .ref r2, .ref r3, .ref r4, .ref r5] : List V), ∃ (r : Addr) (u s : Nat), v = .ref r ∧ Two (upd A5 l (HO.lst [.ref r1, .ref r2, .ref r3, .ref r4, .ref r5])) r u s ∧ u ≤ m ∧ s ≤ m := by
      intro v hv
      simp only [List.mem_cons, List.not_mem_nil, or_false] at hv
      rcases hv with rfl | rfl | rfl | rfl | rfl
      · exact ⟨r1, x, y, rfl, sl _ _ (t5 _ _ (t4 _ _ (t3 _ _ (t2 _ _ f1)))), by omega, by omega⟩
      · exact ⟨r2, x, y, rfl, sl _ _ (t5 _ _ (t4 _ _ (t3 _ _ f2))), by omega, by omega⟩
      · exact ⟨r3, 0, y, rfl, sl _ _ (t5 _ _ (t4 _ _ f3)), by omega, by omega⟩
      · exact ⟨r4, x, 0, rfl, sl _ _ (t5 _ _ f4), by omega, by omega⟩
      · exact ⟨r5, 1, 1, rfl, sl _ _ f5, by omega, by omega⟩
    have sA : Same H2 (upd A5 l (HO.lst [.ref r1, .ref r2, .ref r3, .ref r4, .ref r5])) := ((((t1.trans t2).trans t3).trans t4).trans t5).trans sl
    refine ⟨d, l, _, _, rfl, upd_same, by simp, by show 5 ≤ 1000; decide, p2.same sA, by omega, fun v H3 hv k3 p3 => ?_⟩
    obtain ⟨r, u, s, rfl, er, hu, hs⟩ := all v hv
    obtain ⟨pp, ns, cc, ll, ed, _⟩ := id (p2.same sA).ex
    have rd : r ≠ d := ne_of er ed (by intro y; cases y)
    have er3 := k3 _ _ rd er
    have kk := ((k1.trans k2).trans (Keep.same sA)).trans k3
    refine ⟨r, _, rfl, SqT.of er3, rfl, _, _, rfl, _, _, rfl, rfl, ?_⟩
    dsimp only [gName, List.set]
    obtain ⟨pp3, ns3, cc3, ll3, ed3, _⟩ := id p3.ex
    refine ⟨_, rfl, _, rfl, _, _, rfl, rfl, rfl, _, rfl, ite2 (fun g => ?_) (fun g => ?_)⟩
    · refine ⟨by show 2 ≤ sizeLine; decide, fun r6 m6 => ?_⟩
      exact q 1 0 r6 _ (by omega) (by omega) (by omega) (kk.trans (Keep.new m6)) ((p3.same (same_new m6)).mono (by omega)) upd_same (ne_of_none ed3 m6).symm
    · have z : ¬ (u : Int) + (s : Int) = 0 := by simpa using g
      refine ⟨_, rfl, _, rfl, by show 2 ≤ sizeLine; decide, fun r6 m6 => ?_⟩
      exact q u s r6 _ hu hs (by omega) (kk.trans (Keep.new m6)) ((p3.same (same_new m6)).mono (by omega)) upd_same (ne_of_none ed3 m6).symm
theorem scSeen : FnScope ["_law_shape_here", "_law_part"] ["_law_shape_here"] (defScope sSeen) := ⟨rfl, rfl, rfl, by decide +kernel, rfl, by decide +kernel, by decide +kernel⟩
def spSeen (S : Addr) : Sp := fun vs H Q _ => ∃ (a : Addr) (u s : Nat), vs = [.ref a] ∧ SAt S H a u s ∧ ∀ (r : Addr) (H' : Hp), Same H H' → H r = none → Two H' r u s → Q (.ref r) H'
theorem ok_seen (A : At K mg "_law_seen" sSeen ["_law_shape_here"]) (B : Blt mg) (T : ShapeC K mg S) (I : WIs K S) : DefOk P w K mg base CX0 "_law_seen" 1 ["_law_shape_here"] (spSeen S) := by
  refine A.ok fun f fd F => F.ok scSeen (fun vs H Q E h => ?_) (fun cdv A outer s0 H vs Q E hr h => ?_)
  · obtain ⟨a, u, s, rfl, _⟩ := h
    rfl
  · obtain ⟨a, u, s, rfl, ⟨dx, ea⟩, q⟩ := h
    have nd := scSeen.nd
    refine ⟨_, pss_cons (ps_if (pt_not (pt_val (pe_callB call_isi (by rfl) B.isi (by decide +kernel) (pa_cons (pv 0) (pa_cons (pe_glob (v := .ref S) (by rfl) T.g rfl) pa_nil))))) (pss_one (ps_ret pe_non)) pss_nil)
      (pss_cons (ps_for PassesOwn.never rfl (pi_tup (pe_tup (pa_cons (pe_fld (pv 0) (by rfl)) (pa_cons (pe_fld (pv 0) (by rfl)) pa_nil)))) (pg_name (i := 1) nd rfl (.inl rfl))
        (pss_one (ps_if (PW.pt (pw_or (pt_not (pt_val (pe_callB call_isi (by rfl) B.isi (by decide +kernel) (pa_cons (pv 1) (pa_cons (pe_bltn (v := .ty "int") (by rfl) B.int (by decide +kernel) rfl) pa_nil)))))
          (pw_or1 (pt_val (pe_callB call_isi (by rfl) B.isi (by decide +kernel) (pa_cons (pv 1) (pa_cons (pe_bltn (v := .ty "bool") (by rfl) B.bool (by decide +kernel) rfl) pa_nil))))))) (pss_one (ps_ret pe_non)) pss_nil)))
      (pss_one (ps_ret (pe_tup (pa_cons (pe_fld (pv 0) (by rfl)) (pa_cons (pe_fld (pv 0) (by rfl)) pa_nil)))))), ?_⟩
    refine ⟨_, rfl, _, _, _, _, true, rfl, .own S, .base (.ins ea T.cls I.ha I.hn I.ht I.hm), by unfold PySem.W.kitOne; rw [if_pos (by simp)], _, rfl, iteF ?_⟩
    refine ⟨_, rfl, a, S, dx, _, .int u, rfl, ea, T.cls, T.nw, lk_w _ _, _, rfl, a, S, dx, _, .int s, rfl, ea, T.cls, T.ns, lk_s _ _, by show 2 ≤ sizeLine; decide, fun p np => ?_⟩
    have s1 := same_new (o := HO.tup [.int u, .int s]) np
    refine ⟨p, rfl, ⟨_, SqT.of upd_same⟩, for_tup (K := K) (xs := [.int u, .int s]) (fun i σ H' => (∃ y : Option V, σ = [some (.ref a), y]) ∧ H' = upd H p (.tup [.int u, .int s])) ⟨⟨none, rfl⟩, rfl⟩ (fun i σ H' _ z => by rw [z.2]; exact SqT.of upd_same) ?_ ?_⟩
    · rintro i x σ H' hx ⟨⟨y, rfl⟩, rfl⟩
      have hi : ∃ n : Int, x = .int n := by
        have m := List.mem_of_getElem? hx
        simp only [List.mem_cons, List.not_mem_nil, or_false] at m
        rcases m with rfl | rfl
        · exact ⟨_, rfl⟩
        · exact ⟨_, rfl⟩
      obtain ⟨n, rfl⟩ := hi
      obtain ⟨t, h1, h2, h3⟩ := (Thing.int (H := upd H p (.tup [.int u, .int s])) n).isi (K := K)
      refine ⟨_, rfl, _, _, t, _, _, rfl, .ty _, h1, h2, _, rfl, iteF ⟨_, rfl, _, _, t, _, _, rfl, .ty _, h1, h3, _, rfl, iteF ?_⟩⟩
      exact ⟨⟨_, rfl⟩, rfl⟩
    · rintro σ H' ⟨⟨y, rfl⟩, rfl⟩
      have ea1 := s1 _ _ ea
      refine ⟨_, rfl, a, S, dx, _, .int u, rfl, ea1, T.cls, T.nw, lk_w _ _, _, rfl, a, S, dx, _, .int s, rfl, ea1, T.cls, T.ns, lk_s _ _, by show 2 ≤ sizeLine; decide, fun r nr => ?_⟩
      exact q r _ (s1.trans (same_new nr)) (s1.free nr) upd_same
end
end K10

/-! k10: the law's reckoning of shapes. -/
namespace K10
open PySem PySem.Spec PyProof.Rows L2 LamX NdefX Own
section
variable {P : Program} {w : World} {K : PySem.W.Frag} {mg : Str → Option Value} {base : Heap} {C CN S D aO : Addr}
theorem two_of {H : Hp} {r : Addr} {x y : Int} {u s : Nat} (h1 : x = (u : Int)) (h2 : y = (s : Int)) (e : H r = some (.tup [.int x, .int y])) : Two H r u s := by
  subst h1 h2
  exact e
theorem scLUnc : FnScope ["_law_word", "_law_one", "_law_other", "_law_told", "_law_whole", "_law_scale", "_law_more", "_law_after"] ["_law_word", "_law_one", "_law_other", "_law_told"] (defScope sUnc) := ⟨rfl, rfl, rfl, by decide +kernel, rfl, by decide +kernel, by decide +kernel⟩
def spLUnc : Sp := fun vs H Q _ => ∃ (o : Str) (a b l : Addr) (u1 s1 u2 s2 c k e p : Nat) (t : Str), vs = [.str o, .ref a, .ref b, .ref l] ∧ Two H a u1 s1 ∧ Two H b u2 s2 ∧ Told H l c k e p t ∧
  ∀ (r : Addr) (H' : Hp), Same H H' → Two H' r (uncU o u1 s1 u2 s2 e p) (uncS o u1 s1 u2 s2 e p) → Q (.ref r) H'
theorem ok_lunc (A : At K mg "_law_uncut" sUnc ["_law_word", "_law_one", "_law_other", "_law_told"]) (B : Blt mg) : DefOk P w K mg base CX0 "_law_uncut" 1 ["_law_word", "_law_one", "_law_other", "_law_told"] spLUnc := by
  refine A.ok fun f fd F => F.ok scLUnc (fun vs H Q E h => ?_) (fun cdv A outer s0 H vs Q E hr h => ?_)
  · obtain ⟨o, a, b, l, u1, s1, u2, s2, c, k, e, p, t, rfl, _⟩ := h
    rfl
  · obtain ⟨o, a, b, l, u1, s1, u2, s2, c, k, e, p, t, rfl, ea, eb, el, q⟩ := h
    have nd := scLUnc.nd
    refine ⟨_, pss_cons (ps_asg (pe_tup (pa_cons (pv 1) (pa_cons (pv 2) pa_nil))) (pg_tup rfl (pgs_cons (pg_tup rfl (pgs_cons (pg_name (i := 4) nd rfl (.inl rfl)) (pgs_cons (pg_name (i := 5) nd rfl (.inl rfl)) pgs_nil))) (pgs_cons (pg_tup rfl (pgs_cons (pg_name (i := 6) nd rfl (.inl rfl)) (pgs_cons (pg_name (i := 7) nd rfl (.inl rfl)) pgs_nil))) pgs_nil))))
      (pss_cons (ps_if (pt_cmpR op_eq (pv 0) pe_str (nomark _)) (pss_one (ps_ret (pe_tup (pa_cons (pe_op op_add (pe_op op_add (pv 4) (pv 6)) (pe_ix ix_list (pv 3) pe_int (fun _ _ => rfl))) (pa_cons (pe_op op_add (pv 5) (pv 7)) pa_nil))))) pss_nil)
      (pss_cons (ps_if (pt_cmpR op_eq (pv 0) pe_str (nomark _)) (pss_one (ps_ret (pe_tup (pa_cons (pe_op op_add (pv 4) (pv 7)) (pa_cons (pe_callB (call_max2 rfl) (by rfl) B.max (by decide +kernel) (pa_cons (pe_ix ix_list (pv 3) pe_int (fun _ _ => rfl)) (pa_cons (pe_op op_add (pe_op op_add (pv 5) (pv 6)) pe_int) pa_nil))) pa_nil))))) pss_nil)
      (pss_one (ps_ret (pe_tup (pa_cons (pe_op op_add (pe_callB (call_max2 rfl) (by rfl) B.max (by decide +kernel) (pa_cons (pv 4) (pa_cons (pv 6) pa_nil))) pe_int) (pa_cons (pe_callB (call_max2 rfl) (by rfl) B.max (by decide +kernel) (pa_cons (pv 5) (pa_cons (pv 7) pa_nil))) pa_nil))))))), ?_⟩
    refine ⟨_, rfl, _, rfl, by show 2 ≤ sizeLine; decide, fun r nr => ?_⟩
    have sr := same_new (o := HO.tup [.ref a, .ref b]) nr
    have ea := sr _ _ ea
    have eb := sr _ _ eb
    have el := sr _ _ el
    refine ⟨r, _, rfl, SqT.of upd_same, rfl, _, _, rfl, a, _, rfl, SqT.of ea, rfl, _, _, rfl, _, _, rfl, rfl, _, _, rfl, b, _, rfl, SqT.of eb, rfl, _, _, rfl, _, _, rfl, rfl, rfl, ?_⟩
    dsimp only [gName, List.set]
    refine ⟨_, rfl, rfl, _, rfl, ite2 (fun c1 => ?_) (fun c1 => ?_)⟩
    · have h1 : o = "product" := by simpa using c1
      have eU : uncU o u1 s1 u2 s2 e p = u1 + u2 + e := by unfold uncU; rw [if_pos h1]
      have eS : uncS o u1 s1 u2 s2 e p = s1 + s2 := by unfold uncS; rw [if_pos h1]
      exact ⟨_, rfl, _, rfl, _, _, rfl, rfl, _, rfl, l, _, 2, _, rfl, rfl, SqL.of el, rfl, _, _, rfl, rfl, _, rfl, _, rfl, _, _, rfl, rfl, by show 2 ≤ sizeLine; decide, fun r2 n2 => q r2 _ (sr.trans (same_new n2)) (two_of (by rw [eU]; omega) (by rw [eS]; omega) upd_same)⟩
    have n1 : ¬ o = "product" := by simpa using c1
    refine ⟨_, rfl, rfl, _, rfl, ite2 (fun c2 => ?_) (fun c2 => ?_)⟩
    · have h2 : o = "quotient" := by simpa using c2
      have eU : uncU o u1 s1 u2 s2 e p = u1 + s2 := by unfold uncU; rw [if_neg n1, if_pos h2]
      have eS : uncS o u1 s1 u2 s2 e p = max p (s1 + u2 + 1) := by unfold uncS; rw [if_neg n1, if_pos h2]
      exact ⟨_, rfl, _, rfl, _, _, rfl, rfl, _, rfl, l, _, 3, _, rfl, rfl, SqL.of el, rfl, _, rfl, _, rfl, _, _, rfl, rfl, _, _, rfl, rfl, _, _, rfl, by show 2 ≤ sizeLine; decide, fun r2 n2 => q r2 _ (sr.trans (same_new n2)) (two_of (by rw [eU]; omega) (by rw [eS]; split <;> omega) upd_same)⟩
    have n2 : ¬ o = "quotient" := by simpa using c2
    have eU : uncU o u1 s1 u2 s2 e p = max u1 u2 + 1 := by unfold uncU; rw [if_neg n1, if_neg n2]
    have eS : uncS o u1 s1 u2 s2 e p = max s1 s2 := by unfold uncS; rw [if_neg n1, if_neg n2]
    exact ⟨_, rfl, _, rfl, _, _, rfl, _, _, rfl, rfl, _, rfl, _, rfl, _, _, rfl, by show 2 ≤ sizeLine; decide, fun r2 n2 => q r2 _ (sr.trans (same_new n2)) (two_of (by rw [eU, max_if]; omega) (by rw [eS, max_if]) upd_same)⟩
theorem scLCut : FnScope ["_law_shape_here", "_law_told", "_law_whole", "_law_scale", "_law_kept"] ["_law_shape_here", "_law_told"] (defScope sCut) := ⟨rfl, rfl, rfl, by decide +kernel, rfl, by decide +kernel, by decide +kernel⟩
def spLCut : Sp := fun vs H Q _ => ∃ (a l : Addr) (u s c k e p : Nat) (t : Str), vs = [.ref a, .ref l] ∧ Two H a u s ∧ Told H l c k e p t ∧ k ≤ c ∧ ∀ (r : Addr) (H' : Hp), Same H H' → Two H' r (cutU c k u s) (cutS c k u s) → Q (.ref r) H'
theorem ok_lcut (A : At K mg "_law_cut" sCut ["_law_shape_here", "_law_told"]) (B : Blt mg) : DefOk P w K mg base CX0 "_law_cut" 1 ["_law_shape_here", "_law_told"] spLCut := by
  refine A.ok fun f fd F => F.ok scLCut (fun vs H Q E h => ?_) (fun cdv A outer s0 H vs Q E hr h => ?_)
  · obtain ⟨a, l, u, s, c, k, e, p, t, rfl, _⟩ := h
    rfl
  · obtain ⟨a, l, u, s, c, k, e, p, t, rfl, ea, el, hk, q⟩ := h
    have nd := scLCut.nd
    refine ⟨_, pss_cons (ps_asg (pv 0) (pg_tup rfl (pgs_cons (pg_name (i := 2) nd rfl (.inl rfl)) (pgs_cons (pg_name (i := 3) nd rfl (.inl rfl)) pgs_nil))))
      (pss_cons (ps_if (pt_cmpR op_le (pe_op op_add (pv 2) (pv 3)) (pe_ix ix_list (pv 1) pe_int (fun _ _ => rfl)) (nomark _)) (pss_one (ps_ret (pv 0))) pss_nil)
      (pss_cons (ps_set (i := 4) nd rfl (.inl rfl) (pe_callB (call_min2 rfl) (by rfl) B.min (by decide +kernel) (pa_cons (pv 3) (pa_cons (pe_ix ix_list (pv 1) pe_int (fun _ _ => rfl)) pa_nil))))
      (pss_cons (ps_if (pt_cmpR op_ge (pe_op op_sub (pe_ix ix_list (pv 1) pe_int (fun _ _ => rfl)) (pv 2)) (pv 4) (nomark _)) (pss_one (ps_ret (pe_tup (pa_cons (pv 2) (pa_cons (pe_op op_sub (pe_ix ix_list (pv 1) pe_int (fun _ _ => rfl)) (pv 2)) pa_nil))))) pss_nil)
      (pss_one (ps_ret (pe_tup (pa_cons (pe_op op_sub (pe_ix ix_list (pv 1) pe_int (fun _ _ => rfl)) (pv 4)) (pa_cons (pv 4) pa_nil)))))))), ?_⟩
    refine ⟨_, rfl, a, _, rfl, SqT.of ea, rfl, _, _, rfl, _, _, rfl, rfl, ?_⟩
    dsimp only [gName, List.set]
    refine ⟨_, rfl, _, rfl, _, _, rfl, rfl, _, rfl, l, _, 0, _, rfl, rfl, SqL.of el, rfl, _, _, rfl, rfl, _, rfl, ite2 (fun g => ?_) (fun g => ?_)⟩
    · have z : (u : Int) + (s : Int) ≤ (c : Int) := of_decide_eq_true g
      refine ⟨_, rfl, q a H (Same.refl H) ?_⟩
      unfold cutU cutS
      rw [if_pos (show u + s ≤ c by omega), if_pos (show u + s ≤ c by omega)]
      exact ea
    have z : ¬ (u : Int) + (s : Int) ≤ (c : Int) := fun y => g (decide_eq_true y)
    unfold cutU cutS at q
    rw [if_neg (show ¬ u + s ≤ c by omega), if_neg (show ¬ u + s ≤ c by omega)] at q
    refine ⟨_, rfl, _, rfl, l, _, 1, _, rfl, rfl, SqL.of el, rfl, _, _, rfl, ?_⟩
    dsimp only [gName, List.set]
    rw [min_if]
    refine ⟨_, rfl, l, _, 0, _, rfl, rfl, SqL.of el, rfl, _, rfl, _, _, rfl, rfl, _, rfl, _, _, rfl, rfl, _, rfl, ite2 (fun g => ?_) (fun g => ?_)⟩
    · have z2 : ((min s k : Nat) : Int) ≤ (c : Int) - (u : Int) := of_decide_eq_true g
      exact ⟨_, rfl, _, rfl, l, _, 0, _, rfl, rfl, SqL.of el, rfl, _, rfl, _, _, rfl, rfl, by show 2 ≤ sizeLine; decide, fun r nr => q r _ (same_new nr) (two_of (by omega) (by omega) upd_same)⟩
    · have z2 : ¬ ((min s k : Nat) : Int) ≤ (c : Int) - (u : Int) := fun y => g (decide_eq_true y)
      exact ⟨_, rfl, l, _, 0, _, rfl, rfl, SqL.of el, rfl, _, rfl, _, _, rfl, rfl, _, rfl, by show 2 ≤ sizeLine; decide, fun r nr => q r _ (same_new nr) (two_of (by omega) (by omega) upd_same)⟩
theorem scLDial : FnScope ["_law_told"] ["_law_told"] (defScope sDial) := ⟨rfl, rfl, rfl, by decide +kernel, rfl, by decide +kernel, by decide +kernel⟩
def spLDial (D : Addr) : Sp := fun vs H Q _ => ∃ (l : Addr) (c k e p : Nat) (t : Str), vs = [.ref l] ∧ Told H l c k e p t ∧ 0 < c ∧ k ≤ c ∧ e ≤ 1 ∧ t ∈ waysL ∧ ∀ (a : Addr) (H' : Hp), Same H H' → H a = none → DAt D H' a c k e p t → Q (.ref a) H'
theorem ok_ldial (A : At K mg "_law_dialect" sDial ["_law_told"]) (T : DialC K mg D) (M : DMk P w K mg base C D) : DefOk P w K mg base CX0 "_law_dialect" 6 ["_law_told"] (spLDial D) := by
  refine A.ok fun f fd F => F.ok scLDial (fun vs H Q E h => ?_) (fun cdv A outer s0 H vs Q E hr h => ?_)
  · obtain ⟨l, c, k, e, p, t, rfl, _⟩ := h
    rfl
  · obtain ⟨l, c, k, e, p, t, rfl, el, h1, h2, h3, ht, q⟩ := h
    refine ⟨_, pss_one (ps_ret (pe_dial (C := C) (E := E0) M T kbA hr (by decide) (by rfl) passL (pa_cons (pe_ix ix_list (pv 0) pe_int (fun _ _ => rfl)) (pa_cons (pe_ix ix_list (pv 0) pe_int (fun _ _ => rfl)) pa_nil)) (pk_cons (pe_ix ix_list (pv 0) pe_int (fun _ _ => rfl)) (pk_cons (pe_ix ix_list (pv 0) pe_int (fun _ _ => rfl)) (pk_cons (pe_ix ix_list (pv 0) pe_int (fun _ _ => rfl)) pk_nil))))), ?_⟩
    exact ⟨_, rfl, l, _, 0, _, rfl, rfl, SqL.of el, rfl, _, rfl, l, _, 1, _, rfl, rfl, SqL.of el, rfl, _, rfl, l, _, 2, _, rfl, rfl, SqL.of el, rfl, _, rfl, l, _, 3, _, rfl, rfl, SqL.of el, rfl, _, rfl, l, _, 4, _, rfl, rfl, SqL.of el, rfl, _, _, _, _, _, rfl, rfl, fun _ => rfl, dial_of h1 h2 h3 ht q⟩
end
end K10

/-! k10: wide, right. -/
namespace K10
open PySem PySem.Spec PyProof.Rows L2 LamX NdefX Own
abbrev sRight : Stmt := topS 32
def argE0 : Stmt → Expr
  | .If (.UnaryOp _ (.Call _ (a :: _) _ _) _) _ _ _ => a
  | _ => .Constant .none 0 ⟨0, 0, 0, 0⟩
def lcScope : Expr → Scope
  | .ListComp _ _ s _ => s
  | _ => ⟨.function, [], false, false, []⟩
section
variable {P : Program} {w : World} {K : PySem.W.Frag} {mg : Str → Option Value} {base : Heap} {C CN S D aO : Addr}
theorem scWide : FnScope ["_law_pen", "_law_told", "_law_cap", "_law_whole", "_law_after"] ["_law_pen", "_law_told"] (defScope sWide) := ⟨rfl, rfl, rfl, by decide +kernel, rfl, by decide +kernel, by decide +kernel⟩
def spLWide : Sp := fun vs H Q _ => ∃ (d l : Addr) (c k e p : Nat) (t : Str) (B : Int), vs = [.ref d, .ref l] ∧ Told H l c k e p t ∧ l ≠ d ∧ Pen H d B ∧ B ≤ 800000000 ∧ ∀ (u s : Nat) (r : Addr) (H' : Hp), ¬ (u = 0 ∧ s = 0) → Keep d H H' → Pen H' d (B + 10) → Two H' r u s → r ≠ d → Q (.ref r) H'
theorem ok_lwide (A : At K mg "_law_wide" sWide ["_law_pen", "_law_told"]) (Bl : Blt mg) (D1 : DefOk P w K mg base CX0 "_law_draw" 1 ["_law_pen", "_law_span"] spDraw) (D2 : DefOk P w K mg base CX0 "_law_pick" 2 ["_law_pen", "_law_some"] spPick) : DefOk P w K mg base CX0 "_law_wide" 3 ["_law_pen", "_law_told"] spLWide := by
  refine A.ok fun f fd F => F.ok scWide (fun vs H Q E h => ?_) (fun cdv A outer s0 H vs Q E hr h => ?_)
  · obtain ⟨d, l, c, k, e, p, t, B, rfl, _⟩ := h
    rfl
  · obtain ⟨d, l, c, k, e, p, t, B, rfl, el, nl, hp, hB, q⟩ := h
    have nd := scWide.nd
    refine ⟨_, pss_cons (ps_set (i := 2) nd rfl (.inl rfl) (pe_callB (call_min2 rfl) (by rfl) Bl.min (by decide +kernel) (pa_cons (pe_ix ix_list (pv 1) pe_int (fun _ _ => rfl)) (pa_cons pe_int pa_nil))))
      (pss_cons (ps_set (i := 3) nd rfl (.inl rfl) (pe_def D2 hr (by decide) (by rfl) pass0 (pa_cons (pv 0) (pa_cons (pe_lst (pa_cons (pe_def D1 hr (by decide) (by rfl) pass0 (pa_cons (pv 0) (pa_cons (pe_op op_add (pv 2) pe_int) pa_nil))) (pa_cons (pv 2) (pa_cons (pe_callB (call_max2 rfl) (by rfl) Bl.max (by decide +kernel) (pa_cons (pe_op op_sub (pv 2) (pe_ix ix_list (pv 1) pe_int (fun _ _ => rfl))) (pa_cons pe_int pa_nil))) pa_nil)))) pa_nil))))
      (pss_cons (ps_set (i := 4) nd rfl (.inl rfl) (pe_op op_add (pe_callB (call_max2 rfl) (by rfl) Bl.max (by decide +kernel) (pa_cons (pe_op op_sub (pv 2) (pv 3)) (pa_cons pe_int pa_nil))) (pe_def D1 hr (by decide) (by rfl) pass0 (pa_cons (pv 0) (pa_cons pe_int pa_nil)))))
      (pss_cons (ps_if (pt_cmpR op_eq (pe_op op_add (pv 3) (pv 4)) pe_int (nomark _)) (pss_one (ps_ret (pe_tup (pa_cons pe_int (pa_cons pe_int pa_nil))))) pss_nil)
      (pss_one (ps_ret (pe_tup (pa_cons (pv 3) (pa_cons (pv 4) pa_nil)))))))), ?_⟩
    refine ⟨_, rfl, l, _, 0, _, rfl, rfl, SqL.of el, rfl, _, _, rfl, ?_⟩
    dsimp only [gName, List.set]
    have em : ∃ m : Nat, (if (60 : Int) < (c : Int) then (60 : Int) else (c : Int)) = (m : Int) ∧ m ≤ 60 := by
      by_cases h : (60 : Int) < (c : Int)
      · exact ⟨60, by rw [if_pos h]; rfl, by omega⟩
      · exact ⟨c, by rw [if_neg h], by omega⟩
    obtain ⟨m, em, hm⟩ := em
    rw [em]
    refine ⟨_, rfl, _, rfl, _, rfl, _, _, rfl, rfl, d, (m : Int) + 1, B, rfl, hp, by omega, by omega, by omega, fun x H1 a1 a2 k1 p1 => ?_⟩
    have el1 : Told H1 l c k e p t := k1 _ _ nl el
    refine ⟨_, rfl, _, rfl, _, rfl, l, _, 1, _, rfl, rfl, SqL.of el1, rfl, _, _, rfl, rfl, _, _, rfl, ?_⟩
    refine ⟨by show 3 ≤ sizeLine; decide, fun g ng => ?_⟩
    refine ⟨d, g, _, _, rfl, upd_same, by simp, by show 3 ≤ 1000; decide, p1.same (same_new ng), by omega, fun v H2 hv k2 p2 => ?_⟩
    have hv : ∃ u : Nat, v = .int u ∧ u ≤ 60 := by
      simp only [List.mem_cons, List.not_mem_nil, or_false] at hv
      rcases hv with rfl | rfl | rfl
      · exact ⟨x.toNat, by rw [Int.toNat_of_nonneg a1], by omega⟩
      · exact ⟨m, rfl, hm⟩
      · refine ⟨m - k, congrArg V.int ?_, by omega⟩
        split <;> omega
    obtain ⟨u, rfl, hu⟩ := hv
    dsimp only [gName, List.set]
    have kk := (k1.trans (Keep.new ng)).trans k2
    refine ⟨_, rfl, _, rfl, _, _, rfl, rfl, _, _, rfl, _, rfl, d, 3, _, rfl, p2, by omega, by decide, by decide, fun y H3 b1 b2 k3 p3 => ?_⟩
    have kk := kk.trans k3
    obtain ⟨s, es⟩ : ∃ s : Nat, (if (0 : Int) > (m : Int) - (u : Int) then (0 : Int) else (m : Int) - (u : Int)) + y = (s : Int) := by
      refine ⟨((if (0 : Int) > (m : Int) - (u : Int) then (0 : Int) else (m : Int) - (u : Int)) + y).toNat, ?_⟩
      rw [Int.toNat_of_nonneg]
      split <;> omega
    refine ⟨_, _, rfl, rfl, ?_⟩
    dsimp only [gName, List.set]
    rw [es]
    obtain ⟨pp3, ns3, cc3, ll3, ed3, _⟩ := id p3.ex
    refine ⟨_, rfl, _, rfl, _, _, rfl, rfl, rfl, _, rfl, ite2 (fun g => ?_) (fun g => ?_)⟩
    · exact ⟨by show 2 ≤ sizeLine; decide, fun r6 m6 => q 1 0 r6 _ (by omega) (kk.trans (Keep.new m6)) ((p3.same (same_new m6)).mono (by omega)) upd_same (ne_of_none ed3 m6).symm⟩
    · have z : ¬ (u : Int) + (s : Int) = 0 := by simpa using g
      exact ⟨_, rfl, _, rfl, by show 2 ≤ sizeLine; decide, fun r6 m6 => q u s r6 _ (by omega) (kk.trans (Keep.new m6)) ((p3.same (same_new m6)).mono (by omega)) upd_same (ne_of_none ed3 m6).symm⟩
abbrev nRight : List Str := ["_law_pen", "_law_told", "_law_dialect_here", "_law_shown", "_law_one", "_law_other", "_law_near", "_law_word", "_law_first", "_law_second", "_law_a", "_law_b", "_law_due", "_law_row", "_law_k"]
theorem scRight : FnScope nRight ["_law_pen", "_law_told"] (defScope sRight) := ⟨rfl, rfl, rfl, by decide +kernel, rfl, by decide +kernel, by decide +kernel⟩
abbrev bRight (i : Nat) : Stmt := (defBody sRight).getD i (.Pass ⟨0, 0, 0, 0⟩)
theorem blkR : BlkOk nRight (defScope sRight) (lcScope (argE0 (bRight 2))) [("_law_k", 14)] := blkOk_by (by decide +kernel)
def spLRight (D : Addr) : Sp := fun vs H Q _ => ∃ (d l : Addr) (c k e p : Nat) (t : Str) (B : Int), vs = [.ref d, .ref l] ∧ Told H l c k e p t ∧ l ≠ d ∧ 0 < c ∧ k ≤ c ∧ e ≤ 1 ∧ t ∈ waysL ∧ Pen H d B ∧ B ≤ 100000000 ∧ ∀ (H' : Hp), Keep d H H' → Pen H' d (B + 100) → Q (.bl true) H'
end
end K10

/-! k10: right. -/
namespace K10
open PySem PySem.Spec PyProof.Rows L2 LamX NdefX Own
section
variable {P : Program} {w : World} {K : PySem.W.Frag} {mg : Str → Option Value} {base : Heap} {C CN S D aO : Addr}
/-- what stands through the loops of right -/
structure RG (D : Addr) (c k e p : Nat) (t : Str) (a l d r1 r2 r3 : Addr) (u1 s1 u2 s2 u3 s3 : Nat) (B : Int) (H0 H : Hp) : Prop where
  da : DAt D H a c k e p t
  tl : Told H l c k e p t
  w1 : Two H r1 u1 s1
  w2 : Two H r2 u2 s2
  w3 : Two H r3 u3 s3
  pn : Pen H d B
  kp : Keep d H0 H
theorem RG.same {c k e p : Nat} {t : Str} {a l d r1 r2 r3 : Addr} {u1 s1 u2 s2 u3 s3 : Nat} {B : Int} {H0 H H' : Hp} (h : RG D c k e p t a l d r1 r2 r3 u1 s1 u2 s2 u3 s3 B H0 H) (z : Same H H') : RG D c k e p t a l d r1 r2 r3 u1 s1 u2 s2 u3 s3 B H0 H' :=
  ⟨h.da.same z, z _ _ h.tl, z _ _ h.w1, z _ _ h.w2, z _ _ h.w3, h.pn.same z, h.kp.trans (Keep.same z)⟩
theorem two_ne {H : Hp} {r r' : Addr} {u s : Nat} (h1 : Two H r u s) (h2 : Two H r' u s) : ∃ d e, Dp K H (.ref r) d ∧ Dp K H (.ref r') e ∧ SeqAt.shaped d = true ∧ SeqAt.shaped e = true ∧ (!PyData.eqv d e) = false := by
  refine ⟨_, _, dp_two h1, dp_two h2, sh_two _ _, sh_two _ _, ?_⟩
  rw [SeqAt.eqv_refl _ (SeqAt.canLay_of_shaped (sh_two _ _))]
  rfl
theorem ok_right (A : At K mg "_law_right" sRight ["_law_pen", "_law_told"]) (B : Blt mg) (T : ShapeC K mg S) (TD : DialC K mg D) (M : SMk P w K mg base C CN S) (MU : DMeth P w K mg base D "uncut" 6 ["self", "word", "one", "other"] (spUnc C S D)) (MC : DMeth P w K mg base D "cut" 6 ["self", "shape"] (spCut C S D)) (MS : DMeth P w K mg base D "shape_of" 7 ["self", "word", "one", "other"] (spShOf C S D))
    (DD : DefOk P w K mg base CX0 "_law_dialect" 6 ["_law_told"] (spLDial D)) (DSa : DefOk P w K mg base CX0 "_law_same" 1 ["_law_one", "_law_other"] spSame) (DSh : DefOk P w K mg base CX0 "_law_shape" 3 ["_law_pen", "_law_most"] spLShape) (DW : DefOk P w K mg base CX0 "_law_wide" 3 ["_law_pen", "_law_told"] spLWide)
    (DU : DefOk P w K mg base CX0 "_law_uncut" 1 ["_law_word", "_law_one", "_law_other", "_law_told"] spLUnc) (DC : DefOk P w K mg base CX0 "_law_cut" 1 ["_law_shape_here", "_law_told"] spLCut) (DSe : DefOk P w K mg base CX0 "_law_seen" 1 ["_law_shape_here"] (spSeen S)) :
    DefOk P w K mg base CX0 "_law_right" 8 ["_law_pen", "_law_told"] (spLRight D) := by
  refine A.ok fun f fd F => F.ok scRight (fun vs H Q E h => ?_) (fun cdv A outer s0 H vs Q E hr h => ?_)
  · obtain ⟨d, l, c, k, e, p, t, B, rfl, _⟩ := h
    rfl
  · obtain ⟨d, l, c, k, e, p, t, B0, rfl, tl, nl, hc, hk, he, ht, hp, hB, q⟩ := h
    have nd := scRight.nd
    obtain ⟨fU, fdU, mU, FU, bU⟩ := MU.ex
    obtain ⟨fC, fdC, mC, FC, bC⟩ := MC.ex
    obtain ⟨fS, fdS, mS, FS, bS⟩ := MS.ex
    refine ⟨_, pss_cons (ps_set (i := 2) nd rfl (.inl rfl) (pe_def DD hr (by decide) (by rfl) pass0 (pa_cons (pv 1) pa_nil)))
      (pss_cons (ps_set (i := 3) nd rfl (.inr rfl) (pe_lst (pa_cons (pe_fld (pv 2) (by rfl)) (pa_cons (pe_fld (pv 2) (by rfl)) (pa_cons (pe_fld (pv 2) (by rfl)) (pa_cons (pe_fld (pv 2) (by rfl)) (pa_cons (pe_fld (pv 2) (by rfl)) pa_nil)))))))
      (pss_cons (ps_if (pt_not (pt_val (pe_callB (cr_all rfl) (by rfl) B.all PyProof.Rows.boot_all (pa_cons (pe_lc (own := [("_law_k", 14)]) (te := tCall spSame [] E0 (tCons (tOp (rIxL K) (tVar 3) (tVar 14)) (tCons (tOp (rIxL K) (tVar 1) (tVar 14)) tNil))) rfl nd (pi_range1 (by rfl) B.range (pa_cons pe_int pa_nil)) blkR (fun _ _ _ _ _ => (pg_name (i := 14) nd rfl (.inl rfl))) (fun _ _ _ _ _ => pts_nil) (fun _ _ _ _ _ => (pe_def DSa hr (by decide) (by rfl) pass0 (pa_cons (pe_ix ix_list (pv 3) (pv 14) (fun _ _ => rfl)) (pa_cons (pe_ix ix_list (pv 1) (pv 14) (fun _ _ => rfl)) pa_nil))))) pa_nil)))) (pss_one (ps_ret pe_bl)) pss_nil)
      (pss_cons (ps_par3 (i := 4) (j := 5) (l := 6) (by rfl) nd rfl rfl rfl (by decide) (by decide) (by decide) rfl rfl rfl (pa_cons (pe_def DSh hr (by decide) (by rfl) pass0 (pa_cons (pv 0) (pa_cons pe_int pa_nil))) (pa_cons (pe_def DSh hr (by decide) (by rfl) pass0 (pa_cons (pv 0) (pa_cons pe_int pa_nil))) (pa_cons (pe_def DW hr (by decide) (by rfl) pass0 (pa_cons (pv 0) (pa_cons (pv 1) pa_nil))) pa_nil))) (by rfl))
      (pss_cons (ps_for PassesOwn.never rfl (pi_list (pe_lst (pa_cons pe_str (pa_cons pe_str (pa_cons pe_str (pa_cons pe_str pa_nil)))))) (pg_name (i := 7) nd rfl (.inl rfl)) (pss_one (ps_for PassesOwn.never rfl (pi_list (pe_lst (pa_cons (pe_tup (pa_cons (pv 4) (pa_cons (pv 5) pa_nil))) (pa_cons (pe_tup (pa_cons (pv 5) (pa_cons (pv 4) pa_nil))) (pa_cons (pe_tup (pa_cons (pv 6) (pa_cons (pv 4) pa_nil))) pa_nil))))) (pg_tup rfl (pgs_cons (pg_name (i := 8) nd rfl (.inl rfl)) (pgs_cons (pg_name (i := 9) nd rfl (.inl rfl)) pgs_nil)))
        (pss_cons (ps_par (i := 10) (j := 11) (by rfl) nd rfl rfl (by decide) rfl rfl (pa_cons (pe_shape (C := C) (CN := CN) (E := E0) M T hr (by decide) (by rfl) passL (pa_cons (pe_ix ix_tup (pv 8) pe_int (fun _ _ => rfl)) (pa_cons (pe_ix ix_tup (pv 8) pe_int (fun _ _ => rfl)) pa_nil))) (pa_cons (pe_shape (C := C) (CN := CN) (E := E0) M T hr (by decide) (by rfl) passL (pa_cons (pe_ix ix_tup (pv 9) pe_int (fun _ _ => rfl)) (pa_cons (pe_ix ix_tup (pv 9) pe_int (fun _ _ => rfl)) pa_nil))) pa_nil)) (by rfl))
        (pss_cons (ps_set (i := 12) nd rfl (.inl rfl) (pe_def DU hr (by decide) (by rfl) pass0 (pa_cons (pv 7) (pa_cons (pv 8) (pa_cons (pv 9) (pa_cons (pv 1) pa_nil))))))
        (pss_cons (ps_if (pt_cmpR (op_neD hr.units) (pe_def DSe hr (by decide) (by rfl) pass0 (pa_cons (pe_meth (E := E0) (pv 2) TD.cls mU FU (hr.mono (by decide)) bU .nil passL (pa_cons (pv 7) (pa_cons (pv 10) (pa_cons (pv 11) pa_nil)))) pa_nil)) (pv 12) (nomark _)) (pss_one (ps_ret pe_bl)) pss_nil)
        (pss_one (ps_if (pt_cmpR (op_neD hr.units) (pe_def DSe hr (by decide) (by rfl) pass0 (pa_cons (pe_meth (E := E0) (pv 2) TD.cls mS FS (hr.mono (by decide)) bS .nil passL (pa_cons (pv 7) (pa_cons (pv 10) (pa_cons (pv 11) pa_nil)))) pa_nil)) (pe_def DC hr (by decide) (by rfl) pass0 (pa_cons (pv 12) (pa_cons (pv 1) pa_nil))) (nomark _)) (pss_one (ps_ret pe_bl)) pss_nil))))))))
      (pss_cons (ps_for PassesOwn.never rfl (pi_list (pe_lst (pa_cons (pv 4) (pa_cons (pv 5) (pa_cons (pv 6) pa_nil))))) (pg_name (i := 13) nd rfl (.inl rfl)) (pss_one (ps_if (pt_cmpR (op_neD hr.units) (pe_def DSe hr (by decide) (by rfl) pass0 (pa_cons (pe_meth (E := E0) (pv 2) TD.cls mC FC (hr.mono (by decide)) bC .nil passL (pa_cons (pe_shape (C := C) (CN := CN) (E := E0) M T hr (by decide) (by rfl) passL (pa_cons (pe_ix ix_tup (pv 13) pe_int (fun _ _ => rfl)) (pa_cons (pe_ix ix_tup (pv 13) pe_int (fun _ _ => rfl)) pa_nil))) pa_nil)) pa_nil)) (pe_def DC hr (by decide) (by rfl) pass0 (pa_cons (pv 13) (pa_cons (pv 1) pa_nil))) (nomark _)) (pss_one (ps_ret pe_bl)) pss_nil)))
      (pss_one (ps_ret pe_bl))))))), ?_⟩
    refine ⟨_, rfl, l, c, k, e, p, t, rfl, tl, hc, hk, he, ht, fun a H1 sm1 na1 da1 => ?_⟩
    have tl1 := sm1 _ _ tl
    have p1 := hp.same sm1
    have k1 : Keep d H H1 := Keep.same sm1
    dsimp only [gName, List.set]
    obtain ⟨dx, ea⟩ := id da1
    refine ⟨_, rfl, a, D, dx, _, .int c, rfl, ea, TD.cls, TD.n1, lk1 _ _ _ _ _, _, rfl, a, D, dx, _, .int k, rfl, ea, TD.cls, TD.n2, lk2 _ _ _ _ _, _, rfl, a, D, dx, _, .int e, rfl, ea, TD.cls, TD.n3, lk3 _ _ _ _ _, _, rfl, a, D, dx, _, .int p, rfl, ea, TD.cls, TD.n4, lk4 _ _ _ _ _, _, rfl, a, D, dx, _, .str t, rfl, ea, TD.cls, TD.n5, lk5 _ _ _ _ _, by show 5 ≤ sizeLine; decide, fun g ng => ?_⟩
    have sg := same_new (o := HO.lst [.int c, .int k, .int e, .int p, .str t]) ng
    have eg : Told (upd H1 g (HO.lst [.int c, .int k, .int e, .int p, .str t])) g c k e p t := upd_same
    have tl2 := sg _ _ tl1
    have p2 := p1.same sg
    have k2 : Keep d H _ := k1.trans (Keep.same sg)
    have da2 := da1.same sg
    generalize upd H1 g (HO.lst [.int c, .int k, .int e, .int p, .str t]) = H2 at eg tl2 p2 k2 da2 ⊢
    dsimp only [gName, List.set]
    refine ⟨_, rfl, by decide, by decide, fun L nL => lc_range (lo := 0) (n := 5) (fun i H' => Same H2 H' ∧ H' L = some (.lst ((List.replicate i true).map V.bl))) ⟨same_new nL, upd_same⟩ ?_ ?_⟩
    · rintro i H' hi ⟨sm, eL⟩
      refine ⟨rfl, ?_⟩
      unfold tYes
      dsimp only
      rw [if_pos rfl]
      have hv : ∃ x : V, ([.int c, .int k, .int e, .int p, .str t] : List V)[i]? = some x ∧ okF x = true := by
        match i, hi with
        | 0, _ => exact ⟨_, rfl, rfl⟩
        | 1, _ => exact ⟨_, rfl, rfl⟩
        | 2, _ => exact ⟨_, rfl, rfl⟩
        | 3, _ => exact ⟨_, rfl, rfl⟩
        | 4, _ =>
          refine ⟨_, rfl, ?_⟩
          have all : ∀ z ∈ waysL, okF (.str z) = true := by decide +kernel
          exact all t ht
      obtain ⟨x, hx, ox⟩ := hv
      have at0 : atI ([.int c, .int k, .int e, .int p, .str t] : List V) (0 + (i : Int)) = some x := by
        rw [Int.zero_add]
        exact atI_nat hx
      refine ⟨_, rfl, _, rfl, g, _, _, x, rfl, rfl, SqL.of (sm _ _ eg), at0, _, rfl, _, rfl, l, _, _, x, rfl, rfl, SqL.of (sm _ _ tl2), at0, .inr ⟨x, rfl, .flat ox, ?_⟩⟩
      refine ⟨_, eL, by rw [List.length_map, List.length_replicate]; have := sizeLine_eq; omega, fun b o z => (upd_ne (ne_of_none z nL)).trans (sm _ _ z), ?_⟩
      rw [upd_same, List.replicate_succ', List.map_append]
      rfl
    · rintro H' ⟨sm, eL⟩
      refine ⟨L, List.replicate 5 true, rfl, SqL.of eL, _, rfl, iteF ?_⟩
      have tl3 := sm _ _ tl2
      have p3 := p2.same sm
      have k3 : Keep d H H' := k2.trans (Keep.same sm)
      have da3 := da2.same sm
      clear eg tl2 p2 k2 da2 sg na1 da1 tl1 p1 k1 ng ea
      refine ⟨_, rfl, d, 35, B0, rfl, by decide, by decide, p3, by omega, fun u1 s1 r1 H4 _ _ z1 k4 p4 w1 n1 => ?_⟩
      have tl4 := k4 _ _ nl tl3
      obtain ⟨pp3, ns3, cc3, ll3, ed3, _⟩ := id p3.ex
      have nad : a ≠ d := by
        obtain ⟨dx, z⟩ := id da3
        exact ne_of z ed3 (by intro x; cases x)
      have keepD : ∀ {H' H'' : Hp}, DAt D H' a c k e p t → Keep d H' H'' → DAt D H'' a c k e p t := fun z k => by
        obtain ⟨dx, z⟩ := z
        exact ⟨dx, k _ _ nad z⟩
      have da4 := keepD da3 k4
      refine ⟨_, rfl, d, 35, B0 + 10, rfl, by decide, by decide, p4, by omega, fun u2 s2 r2 H5 _ _ z2 k5 p5 w2 n2 => ?_⟩
      have tl5 := k5 _ _ nl tl4
      have w1 := k5 _ _ n1 w1
      have da5 := keepD da4 k5
      refine ⟨_, rfl, _, rfl, d, l, c, k, e, p, t, B0 + 10 + 10, rfl, tl5, nl, p5, by omega, fun u3 s3 r3 H6 z3 k6 p6 w3 n3 => ?_⟩
      have G6 : RG D c k e p t a l d r1 r2 r3 u1 s1 u2 s2 u3 s3 (B0 + 10 + 10 + 10) H H6 := ⟨keepD da5 k6, k6 _ _ nl tl5, k6 _ _ n1 w1, k6 _ _ n2 w2, w3, p6, ((k3.trans k4).trans k5).trans k6⟩
      refine ⟨_, _, _, rfl, ?_⟩
      clear da3 da4 da5 tl3 tl4 tl5 w1 w2 w3 k3 k4 k5 k6 p3 p4 p5 p6 ed3 sm eL nL
      dsimp only [gName, List.set]
      -- the four words
      refine ⟨by show 4 ≤ sizeLine; decide, fun m nm => ⟨m, rfl, ⟨_, SqL.of upd_same⟩, for_list (K := K) (xs := opsL.map V.str) (fun j σ H' => (∃ y7 y8 y9 y10 y11 y12 : Option V, σ = [some (.ref d), some (.ref l), some (.ref a), some (.ref g), some (.ref r1), some (.ref r2), some (.ref r3), y7, y8, y9, y10, y11, y12, none, none]) ∧ RG D c k e p t a l d r1 r2 r3 u1 s1 u2 s2 u3 s3 (B0 + 10 + 10 + 10) H H' ∧ H' m = some (.lst (opsL.map V.str))) ⟨⟨none, none, none, none, none, none, rfl⟩, G6.same (same_new nm), upd_same⟩ (fun j σ H' _ z => SqL.of z.2.2) ?_ ?_⟩⟩
      · rintro j x σ H7 hx ⟨⟨y7, y8, y9, y10, y11, y12, rfl⟩, G7, em⟩
        rw [List.getElem?_map] at hx
        obtain ⟨o, ho, rfl⟩ := Option.map_eq_some_iff.mp hx
        have ho := List.mem_of_getElem? ho
        dsimp only [gName, List.set]
        refine ⟨_, rfl, _, rfl, by show 2 ≤ sizeLine; decide, fun t1 m1 => ?_⟩
        have a1 := same_new (o := HO.tup [.ref r1, .ref r2]) m1
        have f1 : upd H7 t1 (HO.tup [.ref r1, .ref r2]) t1 = some (.tup [.ref r1, .ref r2]) := upd_same
        generalize upd H7 t1 (HO.tup [.ref r1, .ref r2]) = A1 at a1 f1 ⊢
        refine ⟨_, rfl, _, rfl, by show 2 ≤ sizeLine; decide, fun t2 m2 => ?_⟩
        have a2 := same_new (o := HO.tup [.ref r2, .ref r1]) m2
        have f2 : upd A1 t2 (HO.tup [.ref r2, .ref r1]) t2 = some (.tup [.ref r2, .ref r1]) := upd_same
        generalize upd A1 t2 (HO.tup [.ref r2, .ref r1]) = A2 at a2 f2 ⊢
        refine ⟨_, rfl, _, rfl, by show 2 ≤ sizeLine; decide, fun t3 m3 => ?_⟩
        have a3 := same_new (o := HO.tup [.ref r3, .ref r1]) m3
        have f3 : upd A2 t3 (HO.tup [.ref r3, .ref r1]) t3 = some (.tup [.ref r3, .ref r1]) := upd_same
        generalize upd A2 t3 (HO.tup [.ref r3, .ref r1]) = A3 at a3 f3 ⊢
        refine ⟨by show 3 ≤ sizeLine; decide, fun n nn => ?_⟩
        have a4 := same_new (o := HO.lst [.ref t1, .ref t2, .ref t3]) nn
        have en : upd A3 n (HO.lst [.ref t1, .ref t2, .ref t3]) n = some (.lst [.ref t1, .ref t2, .ref t3]) := upd_same
        generalize upd A3 n (HO.lst [.ref t1, .ref t2, .ref t3]) = A4 at a4 en ⊢
        have f1 := a4 _ _ (a3 _ _ (a2 _ _ f1))
        have f2 := a4 _ _ (a3 _ _ f2)
        have f3 := a4 _ _ f3
        have em := (((a1.trans a2).trans a3).trans a4) _ _ em
        have G8 := G7.same (((a1.trans a2).trans a3).trans a4)
        clear a1 a2 a3 a4 m1 m2 m3 nn G7
        refine ⟨n, rfl, ⟨_, SqL.of en⟩, for_list (K := K) (xs := [.ref t1, .ref t2, .ref t3]) (fun j σ H' => (∃ y8 y9 y10 y11 y12 : Option V, σ = [some (.ref d), some (.ref l), some (.ref a), some (.ref g), some (.ref r1), some (.ref r2), some (.ref r3), some (.str o), y8, y9, y10, y11, y12, none, none]) ∧ Same A4 H') ⟨⟨_, _, _, _, _, rfl⟩, Same.refl _⟩ (fun j σ H' _ z => SqL.of (z.2 _ _ en)) ?_ ?_⟩
        · rintro j x σ H9 hx ⟨⟨y8, y9, y10, y11, y12, rfl⟩, s9⟩
          have G9 := G8.same s9
          have hp : ∃ (tt rf rs : Addr) (uf sf us ss : Nat), x = .ref tt ∧ H9 tt = some (.tup [.ref rf, .ref rs]) ∧ Two H9 rf uf sf ∧ Two H9 rs us ss ∧ ¬ (uf = 0 ∧ sf = 0) ∧ ¬ (us = 0 ∧ ss = 0) := by
            have m := List.mem_of_getElem? hx
            simp only [List.mem_cons, List.not_mem_nil, or_false] at m
            rcases m with rfl | rfl | rfl
            · exact ⟨t1, r1, r2, u1, s1, u2, s2, rfl, s9 _ _ f1, G9.w1, G9.w2, z1, z2⟩
            · exact ⟨t2, r2, r1, u2, s2, u1, s1, rfl, s9 _ _ f2, G9.w2, G9.w1, z2, z1⟩
            · exact ⟨t3, r3, r1, u3, s3, u1, s1, rfl, s9 _ _ f3, G9.w3, G9.w1, z3, z1⟩
          obtain ⟨tt, rf, rs, uf, sf, us, ss, rfl, et, wf, ws, zf, zs⟩ := hp
          clear hx G9
          refine ⟨tt, _, rfl, SqT.of et, rfl, _, _, rfl, _, _, rfl, rfl, ?_⟩
          dsimp only [gName, List.set]
          refine ⟨_, rfl, rf, _, 0, _, rfl, rfl, SqT.of wf, rfl, _, rfl, rf, _, 1, _, rfl, rfl, SqT.of wf, rfl, ?_⟩
          dsimp only [tNil]
          rw [List.append_nil]
          refine shape_of zf fun ba H10 sA _ wa => ?_
          have ws := sA _ _ ws
          refine ⟨_, rfl, rs, _, 0, _, rfl, rfl, SqT.of ws, rfl, _, rfl, rs, _, 1, _, rfl, rfl, SqT.of ws, rfl, ?_⟩
          dsimp only [tNil]
          rw [List.append_nil]
          refine shape_of zs fun bb H11 sB _ wb => ?_
          have wa := wa.same sB
          have wf := sB _ _ (sA _ _ wf)
          have ws := sB _ _ ws
          have s11 := (s9.trans sA).trans sB
          refine ⟨_, _, rfl, ?_⟩
          dsimp only [gName, List.set]
          refine ⟨_, rfl, _, rfl, _, rfl, _, rfl, o, rf, rs, l, uf, sf, us, ss, c, k, e, p, t, rfl, wf, ws, (G8.same s11).tl, fun du H12 sC ed => ?_⟩
          dsimp only [gName, List.set]
          have s12 := s11.trans sC
          have wa := wa.same sC
          have wb := wb.same sC
          have G12 := G8.same s12
          clear wf ws s9 s11 sA sB sC et
          obtain ⟨dx, ea⟩ := id G12.da
          refine ⟨_, rfl, a, dx, _, rfl, ea, lkm _ _ _ _ _ (by decide +kernel), _, rfl, _, rfl, _, rfl, a, c, k, e, p, t, .str o, .ref ba, .ref bb, rfl, G12.da, .inr ⟨o, ho, rfl, .inr ⟨ba, uf, sf, rfl, wa, zf, .inr ⟨bb, us, ss, rfl, wb, zs, fun r H13 sD wr => ?_⟩⟩⟩⟩
          refine ⟨r, _, _, rfl, wr, fun e1 H14 sE _ w14 => ?_⟩
          have s14 := (s12.trans sD).trans sE
          have ed := sE _ _ (sD _ _ ed)
          have wa := (wa.same sD).same sE
          have wb := (wb.same sD).same sE
          obtain ⟨p1, p2, q1, q2, q3, q4, q5⟩ := two_ne (K := K) w14 ed
          refine ⟨_, rfl, p1, p2, q1, q2, q3, q4, _, rfl, ?_⟩
          rw [q5]
          refine iteF ?_
          have G14 := G8.same s14
          obtain ⟨dx, ea⟩ := id G14.da
          clear q1 q2 q3 q4 q5 w14 sD sE wr s12 G12
          refine ⟨_, rfl, a, dx, _, rfl, ea, lkm _ _ _ _ _ (by decide +kernel), _, rfl, _, rfl, _, rfl, a, c, k, e, p, t, .str o, .ref ba, .ref bb, rfl, G14.da, hc, hk, .inr ⟨o, ho, rfl, .inr ⟨ba, uf, sf, rfl, wa, zf, .inr ⟨bb, us, ss, rfl, wb, zs, fun r H15 sF wr => ?_⟩⟩⟩⟩
          refine ⟨r, _, _, rfl, wr, fun e3 H16 sG _ w16 => ?_⟩
          have ed := sG _ _ (sF _ _ ed)
          have s16 := (s14.trans sF).trans sG
          refine ⟨_, rfl, _, rfl, du, l, _, _, c, k, e, p, t, rfl, ed, (G8.same s16).tl, hk, fun e4 H17 sH w17 => ?_⟩
          obtain ⟨p1, p2, q1, q2, q3, q4, q5⟩ := two_ne (K := K) (sH _ _ w16) w17
          refine ⟨p1, p2, q1, q2, q3, q4, _, rfl, ?_⟩
          rw [q5]
          exact iteF ⟨⟨_, _, _, _, _, rfl⟩, s16.trans sH⟩
        · rintro σ H9 ⟨⟨y8, y9, y10, y11, y12, rfl⟩, s9⟩
          exact ⟨⟨_, _, _, _, _, _, rfl⟩, G8.same s9, s9 _ _ em⟩
      · rintro σ H7 ⟨⟨y7, y8, y9, y10, y11, y12, rfl⟩, G7, em⟩
        clear em nm G6
        refine ⟨_, rfl, _, rfl, _, rfl, by show 3 ≤ sizeLine; decide, fun n nn => ?_⟩
        have sn := same_new (o := HO.lst [.ref r1, .ref r2, .ref r3]) nn
        have en : upd H7 n (HO.lst [.ref r1, .ref r2, .ref r3]) n = some (.lst [.ref r1, .ref r2, .ref r3]) := upd_same
        have G8 := G7.same sn
        generalize upd H7 n (HO.lst [.ref r1, .ref r2, .ref r3]) = A4 at en G8 ⊢
        clear G7 sn nn
        refine ⟨n, rfl, ⟨_, SqL.of en⟩, for_list (K := K) (xs := [.ref r1, .ref r2, .ref r3]) (fun j σ H' => (∃ y13 : Option V, σ = [some (.ref d), some (.ref l), some (.ref a), some (.ref g), some (.ref r1), some (.ref r2), some (.ref r3), y7, y8, y9, y10, y11, y12, y13, none]) ∧ Same A4 H') ⟨⟨_, rfl⟩, Same.refl _⟩ (fun j σ H' _ z => SqL.of (z.2 _ _ en)) ?_ ?_⟩
        · rintro j x σ H9 hx ⟨⟨y13, rfl⟩, s9⟩
          have G9 := G8.same s9
          have hp : ∃ (rf : Addr) (uf sf : Nat), x = .ref rf ∧ Two H9 rf uf sf ∧ ¬ (uf = 0 ∧ sf = 0) := by
            have m := List.mem_of_getElem? hx
            simp only [List.mem_cons, List.not_mem_nil, or_false] at m
            rcases m with rfl | rfl | rfl
            · exact ⟨r1, u1, s1, rfl, G9.w1, z1⟩
            · exact ⟨r2, u2, s2, rfl, G9.w2, z2⟩
            · exact ⟨r3, u3, s3, rfl, G9.w3, z3⟩
          obtain ⟨rf, uf, sf, rfl, wf, zf⟩ := hp
          dsimp only [gName, List.set]
          obtain ⟨dx, ea⟩ := id G9.da
          refine ⟨_, rfl, a, dx, _, rfl, ea, lkm _ _ _ _ _ (by decide +kernel), _, rfl, rf, _, 0, _, rfl, rfl, SqT.of wf, rfl, _, rfl, rf, _, 1, _, rfl, rfl, SqT.of wf, rfl, ?_⟩
          dsimp only [tNil]
          rw [List.append_nil]
          refine shape_of zf fun ba H10 sA _ wa => ?_
          have s10 := s9.trans sA
          have wf := sA _ _ wf
          refine ⟨a, c, k, e, p, t, .ref ba, rfl, (G8.same s10).da, hc, hk, .inr ⟨ba, uf, sf, rfl, wa, zf, fun r H11 sB wr => ?_⟩⟩
          refine ⟨r, _, _, rfl, wr, fun e1 H14 sE _ w14 => ?_⟩
          have wf := sE _ _ (sB _ _ wf)
          have s14 := (s10.trans sB).trans sE
          refine ⟨_, rfl, _, rfl, rf, l, _, _, c, k, e, p, t, rfl, wf, (G8.same s14).tl, hk, fun e4 H17 sH w17 => ?_⟩
          obtain ⟨p1, p2, q1, q2, q3, q4, q5⟩ := two_ne (K := K) (sH _ _ w14) w17
          refine ⟨p1, p2, q1, q2, q3, q4, _, rfl, ?_⟩
          rw [q5]
          exact iteF ⟨⟨_, rfl⟩, s14.trans sH⟩
        · rintro σ H9 ⟨⟨y13, rfl⟩, s9⟩
          have G9 := G8.same s9
          exact q H9 G9.kp (G9.pn.mono (by omega))
end
end K10

/-! k10: equal. -/
namespace K10
open PySem PySem.Spec PyProof.Rows L2 LamX NdefX Own
abbrev sEqual : Stmt := topS 33
abbrev bEqual (i : Nat) : Stmt := (defBody sEqual).getD i (.Pass ⟨0, 0, 0, 0⟩)
def retArg : Stmt → Expr
  | .Return (some (.Call _ (a :: _) _ _)) _ => a
  | _ => .Constant .none 0 ⟨0, 0, 0, 0⟩
def told5 (c k e p : Nat) (t : Str) : List V := [.int c, .int k, .int e, .int p, .str t]
section
variable {P : Program} {w : World} {K : PySem.W.Frag} {mg : Str → Option Value} {base : Heap} {C CN S D aO : Addr}
theorem dp_told {H : Hp} {l : Addr} {c k e p : Nat} {t : Str} (h : Told H l c k e p t) : Dp K H (.ref l) (.list [.int c, .int k, .int e, .int p, .str t]) := .lst (SqL.of h) (.cons (.int _) (.cons (.int _) (.cons (.int _) (.cons (.int _) (.cons (.str _) .nil)))))
theorem way_ok {t : Str} (ht : t ∈ waysL) : PyData.strOk t = true := by
  have all : ∀ z ∈ waysL, PyData.strOk z = true := by decide +kernel
  exact all t ht
theorem sh_told {c k e p : Int} {t : Str} (st : PyData.strOk t = true) : SeqAt.shaped (.list [.int c, .int k, .int e, .int p, .str t]) = true := by
  unfold SeqAt.shaped
  simp [PyData.canLay0, PyData.canLayAll0, PyData.depth, PyData.depthAll, st]
theorem sh_tail {e p : Int} {t : Str} (st : PyData.strOk t = true) : SeqAt.shaped (.list [.int e, .int p, .str t]) = true := by
  unfold SeqAt.shaped
  simp [PyData.canLay0, PyData.canLayAll0, PyData.depth, PyData.depthAll, st]
theorem beq_nat (a b : Nat) : ((a : Int) == (b : Int)) = decide (a = b) := by
  by_cases h : a = b
  · subst h
    simp
  · rw [decide_eq_false h]
    exact beq_false_of_ne fun z => h (by omega)
theorem beq_txt (a b : Str) : (a == b) = decide (a = b) := by
  by_cases h : a = b
  · subst h
    simp
  · rw [decide_eq_false h]
    exact beq_false_of_ne h
theorem eqv_told (c k e p c2 k2 e2 p2 : Nat) (t t2 : Str) : PyData.eqv (.list [.int c, .int k, .int e, .int p, .str t]) (.list [.int c2, .int k2, .int e2, .int p2, .str t2]) = decide (c = c2 ∧ k = k2 ∧ e = e2 ∧ p = p2 ∧ t = t2) := by
  simp only [PyData.eqv, PyData.eqvAll, beq_nat, beq_txt, Bool.and_true]
  simp only [Bool.decide_and]
theorem eqv_tail (e p e2 p2 : Nat) (t t2 : Str) : PyData.eqv (.list [.int e, .int p, .str t]) (.list [.int e2, .int p2, .str t2]) = decide (e = e2 ∧ p = p2 ∧ t = t2) := by
  simp only [PyData.eqv, PyData.eqvAll, beq_nat, beq_txt, Bool.and_true]
  simp only [Bool.decide_and]
/-- a row of two equal answers -/
def RowB (H : Hp) (v : V) : Prop := ∃ (q : Addr) (b : Bool), v = .ref q ∧ H q = some (.tup [.bl b, .bl b])
theorem RowB.same {H H' : Hp} {v : V} (h : RowB H v) (s : Same H H') : RowB H' v := by
  obtain ⟨q, b, e, z⟩ := h
  exact ⟨q, b, e, s _ _ z⟩
theorem RowB.put {H : Hp} {v : V} {r : Addr} {l : List V} {o : HO} (h : RowB H v) (hr : H r = some (.lst l)) : RowB (upd H r o) v := by
  obtain ⟨q, b, e, z⟩ := h
  exact ⟨q, b, e, (upd_ne (ne_of z hr (by intro y; cases y))).trans z⟩
theorem cut_take {xs : List V} {i : Nat} (h : i ≤ xs.length) : cutV xs none (some (i : Int)) = xs.take i := by
  unfold cutV
  rw [HT.sIx_none, HT.sIx_nat, List.drop_zero, Nat.min_eq_left h, Nat.sub_zero]
theorem cut_drop {xs : List V} {i : Nat} (h : i ≤ xs.length) : cutV xs (some (i : Int)) none = xs.drop i := by
  unfold cutV
  rw [HT.sIx_none, HT.sIx_nat, Nat.min_eq_left h, List.take_of_length_le (by rw [List.length_drop]; omega)]
theorem DAt.put {H : Hp} {a r : Addr} {c k e p : Nat} {t : Str} {l : List V} {o : HO} (h : DAt D H a c k e p t) (hr : H r = some (.lst l)) : DAt D (upd H r o) a c k e p t := by
  obtain ⟨dx, z⟩ := h
  exact ⟨dx, (upd_ne (ne_of z hr (by intro y; cases y))).trans z⟩
abbrev nEqual : List Str := ["_law_told", "_law_dialect_here", "_law_plain", "_law_shown", "_law_manner", "_law_turned", "_law_rows", "_law_k", "_law_other", "_law_row"]
theorem scEqual : FnScope nEqual ["_law_told"] (defScope sEqual) := ⟨rfl, rfl, rfl, by decide +kernel, rfl, by decide +kernel, by decide +kernel⟩
theorem blkE : BlkOk nEqual (defScope sEqual) (lcScope (retArg (bEqual 9))) [("_law_row", 9)] := blkOk_by (by decide +kernel)
def spLEq : Sp := fun vs H Q _ => ∃ (l : Addr) (c k e p : Nat) (t : Str), vs = [.ref l] ∧ Told H l c k e p t ∧ 0 < c ∧ k ≤ c ∧ e ≤ 1 ∧ t ∈ waysL ∧ ∀ H', Same H H' → Q (.bl true) H'
/-- the dialects of equal: one number other -/
theorem others {c k e p i : Nat} {t mn : Str} (hi : i < 5) (hc : 0 < c) (hk : k ≤ c) (he : e ≤ 1) (ht : t ∈ waysL) (hm : mn ∈ waysL) : ∃ (x : V) (c2 k2 e2 p2 : Nat) (t2 : Str), (told5 (c + 1) (k - 1) (1 - e) (p + 1) mn)[i]? = some x ∧
    (told5 c k e p t).take i ++ [x] ++ (told5 c k e p t).drop (i + 1) = [.int c2, .int k2, .int e2, .int p2, .str t2] ∧ 0 < c2 ∧ k2 ≤ c2 ∧ e2 ≤ 1 ∧ t2 ∈ waysL := by
  match i, hi with
  | 0, _ => exact ⟨_, c + 1, k, e, p, t, rfl, rfl, by omega, by omega, he, ht⟩
  | 1, _ => exact ⟨_, c, k - 1, e, p, t, rfl, rfl, by omega, by omega, he, ht⟩
  | 2, _ => exact ⟨_, c, k, 1 - e, p, t, rfl, rfl, by omega, by omega, by omega, ht⟩
  | 3, _ => exact ⟨_, c, k, e, p + 1, t, rfl, rfl, by omega, by omega, he, ht⟩
  | 4, _ => exact ⟨_, c, k, e, p, mn, rfl, rfl, by omega, by omega, he, hm⟩
theorem ifC {b : Bool} {x y : V} {σ : L2.St} {H : Hp} {Q : VK} (h : Q (if b = true then x else y) H) : if b = true then tC x σ H Q else tC y σ H Q := by
  cases b <;> exact h
theorem ok_equal (A : At K mg "_law_equal" sEqual ["_law_told"]) (B : Blt mg) (TD : DialC K mg D) (MD : DMk P w K mg base C D) (EQ : DEq P w K mg base D)
    (DD : DefOk P w K mg base CX0 "_law_dialect" 6 ["_law_told"] (spLDial D)) (DSa : DefOk P w K mg base CX0 "_law_same" 1 ["_law_one", "_law_other"] spSame) : DefOk P w K mg base CX0 "_law_equal" 8 ["_law_told"] spLEq := by
  refine A.ok fun f fd F => F.ok scEqual (fun vs H Q E h => ?_) (fun cdv A outer s0 H vs Q E hr h => ?_)
  · obtain ⟨l, c, k, e, p, t, rfl, _⟩ := h
    rfl
  · obtain ⟨l, c, k, e, p, t, rfl, tl, hc, hk, he, ht, q⟩ := h
    have nd := scEqual.nd
    obtain ⟨fE, fdE, eq1, eq2, eqF, eqb⟩ := EQ.ex
    refine ⟨_, pss_cons (ps_par (i := 1) (j := 2) (by rfl) nd rfl rfl (by decide) rfl rfl (pa_cons (pe_def DD hr (by decide) (by rfl) pass0 (pa_cons (pv 0) pa_nil)) (pa_cons (pe_dial (C := C) (E := E0) MD TD kb0 hr (by decide) (by rfl) passL (pa_cons (pe_ix ix_list (pv 0) pe_int (fun _ _ => rfl)) (pa_cons (pe_ix ix_list (pv 0) pe_int (fun _ _ => rfl)) pa_nil)) pk_nil) pa_nil)) (by rfl))
      (pss_cons (ps_set (i := 3) nd rfl (.inl rfl) (pe_lst (pa_cons (pe_fld (pv 2) (by rfl)) (pa_cons (pe_fld (pv 2) (by rfl)) (pa_cons (pe_fld (pv 2) (by rfl)) (pa_cons (pe_fld (pv 2) (by rfl)) (pa_cons (pe_fld (pv 2) (by rfl)) pa_nil)))))))
      (pss_cons (ps_if (pt_cmpR (op_neD hr.units) (pv 3) (pe_lst (pa_cons (pe_ix ix_list (pv 0) pe_int (fun _ _ => rfl)) (pa_cons (pe_ix ix_list (pv 0) pe_int (fun _ _ => rfl)) (pa_cons pe_int (pa_cons pe_int (pa_cons pe_str pa_nil)))))) (nomark _)) (pss_one (ps_ret pe_bl)) pss_nil)
      (pss_cons (ps_set (i := 4) nd rfl (.inl rfl) (pe_ifExp (pt_cmpR op_ne (pe_ix ix_list (pv 0) pe_int (fun _ _ => rfl)) pe_str (nomark _)) pe_str pe_str))
      (pss_cons (ps_set (i := 5) nd rfl (.inl rfl) (pe_lst (pa_cons (pe_op op_add (pe_ix ix_list (pv 0) pe_int (fun _ _ => rfl)) pe_int) (pa_cons (pe_ix ix_list (pv 0) pe_int (fun _ _ => rfl)) (pa_cons (pe_op op_sub pe_int (pe_ix ix_list (pv 0) pe_int (fun _ _ => rfl))) (pa_cons (pe_op op_add (pe_ix ix_list (pv 0) pe_int (fun _ _ => rfl)) pe_int) (pa_cons (pv 4) pa_nil)))))))
      (pss_cons (ps_set (i := 6) nd rfl (.inl rfl) (pe_lst (pa_cons (pe_tup (pa_cons (pe_cmpR (op_ownEq (E := E0) eqF (hr.mono (by decide)) eq1 eq2 EQ.sub eqb passL) (pv 1) (pe_def DD hr (by decide) (by rfl) pass0 (pa_cons (pv 0) pa_nil)) (nomark _)) (pa_cons pe_bl pa_nil))) (pa_cons (pe_tup (pa_cons (pe_cmpR (op_ownEq (E := E0) eqF (hr.mono (by decide)) eq1 eq2 EQ.sub eqb passL) (pv 1) (pe_callTy call_tuple_of (by rfl) B.tuple (by decide +kernel) (pa_cons (pv 0) pa_nil)) (nomark _)) (pa_cons pe_bl pa_nil))) pa_nil))))
      (pss_cons (ps_expr (pe_bm PySem.F.plainAttrs_list PySem.F.slot_list_append PySem.F.type_list_append mt_append (pv 6) (pa_cons (pe_tup (pa_cons (pe_cmpR (op_ownEq (E := E0) eqF (hr.mono (by decide)) eq1 eq2 EQ.sub eqb passL) (pv 1) (pv 2) (nomark _)) (pa_cons (pe_cmpR (op_eqD hr.units) (pe_slice sl_list (pv 0) (po_some pe_int) po_none) (pe_lst (pa_cons pe_int (pa_cons pe_int (pa_cons pe_str pa_nil)))) (nomark _)) pa_nil))) pa_nil)))
      (pss_cons (ps_asg (pe_callB (call_max2 rfl) (by rfl) B.max (by decide +kernel) (pa_cons (pe_op op_sub (pe_ix ix_list (pv 0) pe_int (fun _ _ => rfl)) pe_int) (pa_cons pe_int pa_nil))) (pg_sub (pv 5) pe_int set_list))
      (pss_cons (ps_for PassesOwn.never rfl (pi_range1 (by rfl) B.range (pa_cons pe_int pa_nil)) (pg_name (i := 7) nd rfl (.inl rfl)) (pss_cons (ps_set (i := 8) nd rfl (.inl rfl) (pe_op op_cat (pe_op op_cat (pe_slice sl_list (pv 0) po_none (po_some (pv 7))) (pe_lst (pa_cons (pe_ix ix_list (pv 5) (pv 7) (fun _ _ => rfl)) pa_nil))) (pe_slice sl_list (pv 0) (po_some (pe_op op_add (pv 7) pe_int)) po_none)))
        (pss_one (ps_expr (pe_bm PySem.F.plainAttrs_list PySem.F.slot_list_append PySem.F.type_list_append mt_append (pv 6) (pa_cons (pe_tup (pa_cons (pe_cmpR (op_ownEq (E := E0) eqF (hr.mono (by decide)) eq1 eq2 EQ.sub eqb passL) (pv 1) (pe_def DD hr (by decide) (by rfl) pass0 (pa_cons (pv 8) pa_nil)) (nomark _)) (pa_cons (pe_cmpR (op_eqD hr.units) (pv 8) (pv 0) (nomark _)) pa_nil))) pa_nil))))))
      (pss_one (ps_ret (pe_callB (cr_all rfl) (by rfl) B.all PyProof.Rows.boot_all (pa_cons (pe_lc (own := [("_law_row", 9)]) (te := tCall spSame [] E0 (tCons (tOp (rIxT K) (tVar 9) (tC (.int 0))) (tCons (tOp (rIxT K) (tVar 9) (tC (.int 1))) tNil))) rfl nd (pi_list (pv 6)) blkE (fun _ _ _ _ _ => (pg_name (i := 9) nd rfl (.inl rfl))) (fun _ _ _ _ _ => pts_nil) (fun _ _ _ _ _ => (pe_def DSa hr (by decide) (by rfl) pass0 (pa_cons (pe_ix ix_tup (pv 9) pe_int (fun _ _ => rfl)) (pa_cons (pe_ix ix_tup (pv 9) pe_int (fun _ _ => rfl)) pa_nil))))) pa_nil)))))))))))), ?_⟩
    refine ⟨_, rfl, l, c, k, e, p, t, rfl, tl, hc, hk, he, ht, fun a H1 sm1 na1 da1 => ?_⟩
    have tl1 := sm1 _ _ tl
    refine ⟨_, rfl, l, _, 0, _, rfl, rfl, SqL.of tl1, rfl, _, rfl, l, _, 1, _, rfl, rfl, SqL.of tl1, rfl, _, _, _, _, _, rfl, rfl, fun _ => rfl, dial_of (e := 0) (p := 0) (t := "halfup") hc hk (by decide) (by decide) fun b H2 sm2 na2 db2 => ?_⟩
    have tl2 := sm2 _ _ tl1
    have da2 := da1.same sm2
    refine ⟨_, _, rfl, ?_⟩
    dsimp only [gName, List.set]
    obtain ⟨dy, eb⟩ := id db2
    refine ⟨_, rfl, b, D, dy, _, .int c, rfl, eb, TD.cls, TD.n1, lk1 _ _ _ _ _, _, rfl, b, D, dy, _, .int k, rfl, eb, TD.cls, TD.n2, lk2 _ _ _ _ _, _, rfl, b, D, dy, _, .int (0 : Nat), rfl, eb, TD.cls, TD.n3, lk3 _ _ _ _ _, _, rfl, b, D, dy, _, .int (0 : Nat), rfl, eb, TD.cls, TD.n4, lk4 _ _ _ _ _, _, rfl, b, D, dy, _, .str "halfup", rfl, eb, TD.cls, TD.n5, lk5 _ _ _ _ _, by show 5 ≤ sizeLine; decide, fun gS ng => ?_⟩
    have sg := same_new (o := HO.lst [.int c, .int k, .int (0 : Nat), .int (0 : Nat), .str "halfup"]) ng
    have eg : Told (upd H2 gS (HO.lst [.int c, .int k, .int (0 : Nat), .int (0 : Nat), .str "halfup"])) gS c k 0 0 "halfup" := upd_same
    have tl3 := sg _ _ tl2
    have da3 := da2.same sg
    have db3 := db2.same sg
    have s3 := (sm1.trans sm2).trans sg
    generalize upd H2 gS (HO.lst [.int c, .int k, .int (0 : Nat), .int (0 : Nat), .str "halfup"]) = H3 at eg tl3 da3 db3 s3 ⊢
    dsimp only [gName, List.set]
    clear sg eb db2 da2 tl2 tl1 da1 sm1 sm2 na1 na2 ng
    refine ⟨_, rfl, _, rfl, l, _, 0, _, rfl, rfl, SqL.of tl3, rfl, _, rfl, l, _, 1, _, rfl, rfl, SqL.of tl3, rfl, by show 5 ≤ sizeLine; decide, fun g2 ng2 => ?_⟩
    have sg2 := same_new (o := HO.lst [.int c, .int k, .int 0, .int 0, .str "halfup"]) ng2
    have eg2 : Told (upd H3 g2 (HO.lst [.int c, .int k, .int 0, .int 0, .str "halfup"])) g2 c k 0 0 "halfup" := upd_same
    refine ⟨_, _, dp_told (sg2 _ _ eg), dp_told eg2, sh_told (by decide +kernel), sh_told (by decide +kernel), _, rfl, ?_⟩
    rw [SeqAt.eqv_refl _ (SeqAt.canLay_of_shaped (sh_told (by decide +kernel)))]
    refine iteF ?_
    have tl4 := sg2 _ _ tl3
    have da4 := da3.same sg2
    have db4 := db3.same sg2
    have s4 := s3.trans sg2
    generalize upd H3 g2 (HO.lst [.int c, .int k, .int 0, .int 0, .str "halfup"]) = H4 at tl4 da4 db4 s4 ⊢
    clear sg2 eg2 eg tl3 da3 db3 s3 ng2
    refine ⟨_, rfl, l, _, 4, _, rfl, rfl, SqL.of tl4, rfl, rfl, _, rfl, ifC ?_⟩
    obtain ⟨mn, hm, emn⟩ : ∃ mn ∈ waysL, (if (!decide (V.str t = V.str "floor")) = true then V.str "floor" else V.str "cut") = .str mn := by
      by_cases z : V.str t = V.str "floor"
      · exact ⟨"cut", by decide +kernel, by rw [decide_eq_true z]; rfl⟩
      · exact ⟨"floor", by decide +kernel, by rw [decide_eq_false z]; rfl⟩
    dsimp only [gName, List.set]
    rw [emn]
    refine ⟨_, rfl, l, _, 0, _, rfl, rfl, SqL.of tl4, rfl, _, _, rfl, rfl, _, rfl, l, _, 1, _, rfl, rfl, SqL.of tl4, rfl, _, rfl, l, _, 2, _, rfl, rfl, SqL.of tl4, rfl, _, _, rfl, rfl, _, rfl, l, _, 3, _, rfl, rfl, SqL.of tl4, rfl, _, _, rfl, rfl, _, rfl, by show 5 ≤ sizeLine; decide, fun tn nt => ?_⟩
    dsimp only [gName, List.set]
    have sn := same_new (o := HO.lst [.int ((c : Int) + 1), .int k, .int (1 - (e : Int)), .int ((p : Int) + 1), .str mn]) nt
    have et : upd H4 tn (HO.lst [.int ((c : Int) + 1), .int k, .int (1 - (e : Int)), .int ((p : Int) + 1), .str mn]) tn = some (.lst [.int ((c : Int) + 1), .int k, .int (1 - (e : Int)), .int ((p : Int) + 1), .str mn]) := upd_same
    have tl5 := sn _ _ tl4
    have da5 := da4.same sn
    have db5 := db4.same sn
    have s5 := s4.trans sn
    have nT : ∀ {b' : Addr} {o : HO}, H b' = some o → b' ≠ tn := fun z => ne_of_none (s4 _ _ z) nt
    generalize upd H4 tn (HO.lst [.int ((c : Int) + 1), .int k, .int (1 - (e : Int)), .int ((p : Int) + 1), .str mn]) = H5 at et tl5 da5 db5 s5 ⊢
    clear sn tl4 da4 db4 s4 nt emn
    -- the first two rows
    obtain ⟨dx, ea⟩ := id da5
    refine ⟨_, rfl, _, rfl, l, c, k, e, p, t, rfl, tl5, hc, hk, he, ht, fun b2 H6 sm6 _ d6 => ?_⟩
    obtain ⟨dz, ez⟩ := id d6
    refine ⟨a, dx, _, rfl, sm6 _ _ ea, .inl ⟨b2, dz, _, rfl, ez⟩, a, c, k, e, p, t, .ref b2, rfl, da5.same sm6, .inl ⟨b2, c, k, e, p, t, rfl, d6, ?_⟩⟩
    rw [decide_eq_true (show c = c ∧ k = k ∧ e = e ∧ p = p ∧ t = t from ⟨rfl, rfl, rfl, rfl, rfl⟩)]
    refine ⟨by show 2 ≤ sizeLine; decide, fun r1 m1 => ?_⟩
    have a1 := sm6.trans (same_new (o := HO.tup [.bl true, .bl true]) m1)
    have f1 : upd H6 r1 (HO.tup [.bl true, .bl true]) r1 = some (.tup [.bl true, .bl true]) := upd_same
    generalize upd H6 r1 (HO.tup [.bl true, .bl true]) = H7 at a1 f1 ⊢
    clear m1 ez d6 sm6
    refine ⟨_, rfl, _, rfl, l, _, rfl, .inl ⟨SqL.of (a1 _ _ tl5), fun tq nq => ?_⟩⟩
    have a2 := a1.trans (same_new (o := HO.tup [.int c, .int k, .int e, .int p, .str t]) nq)
    refine ⟨a, dx, _, rfl, a2 _ _ ea, .inr (.tup upd_same), a, c, k, e, p, t, .ref tq, rfl, da5.same a2, .inr ⟨.tup upd_same, ?_⟩⟩
    refine ⟨by show 2 ≤ sizeLine; decide, fun r2 m2 => ⟨by show 2 ≤ sizeLine; decide, fun rw' mw => ?_⟩⟩
    have a3 := a2.trans (same_new (o := HO.tup [.bl false, .bl false]) m2)
    have f1 := same_new (o := HO.tup [.bl false, .bl false]) m2 _ _ (same_new (o := HO.tup [.int c, .int k, .int e, .int p, .str t]) nq _ _ f1)
    have f2 : upd (upd H7 tq (HO.tup [.int c, .int k, .int e, .int p, .str t])) r2 (HO.tup [.bl false, .bl false]) r2 = some (.tup [.bl false, .bl false]) := upd_same
    have sw := same_new (o := HO.lst [.ref r1, .ref r2]) mw
    have ew : upd (upd (upd H7 tq (HO.tup [.int c, .int k, .int e, .int p, .str t])) r2 (HO.tup [.bl false, .bl false])) rw' (HO.lst [.ref r1, .ref r2]) rw' = some (.lst [.ref r1, .ref r2]) := upd_same
    have a4 := a3.trans sw
    have f1 := sw _ _ f1
    have f2 := sw _ _ f2
    have nw : ∀ {b' : Addr} {o : HO}, H5 b' = some o → b' ≠ rw' := fun z => ne_of_none (a3 _ _ z) mw
    dsimp only [gName, List.set]
    generalize upd (upd (upd H7 tq (HO.tup [.int c, .int k, .int e, .int p, .str t])) r2 (HO.tup [.bl false, .bl false])) rw' (HO.lst [.ref r1, .ref r2]) = H8 at a4 f1 f2 ew ⊢
    have tl8 := a4 _ _ tl5
    have da8 := da5.same a4
    have db8 := db5.same a4
    have et8 := a4 _ _ et
    have s8 := s5.trans a4
    have nwl := nw tl5
    have nwt := nw et
    have nlt := nT tl
    have nwH : ∀ {b' : Addr} {o : HO}, H b' = some o → b' ≠ rw' := fun z => nw (s5 _ _ z)
    clear a1 a2 a3 a4 ea sw mw nw et db5 da5 tl5 s5 nq m2
    -- the third row
    obtain ⟨dx, ea⟩ := id da8
    obtain ⟨dy, eb⟩ := id db8
    refine ⟨_, rfl, .inl ⟨rfl, _, SqL.of ew⟩, _, rfl, _, rfl, a, dx, _, rfl, ea, .inl ⟨b, dy, _, rfl, eb⟩, a, c, k, e, p, t, .ref b, rfl, da8, .inl ⟨b, c, k, 0, 0, "halfup", rfl, db8, ?_⟩⟩
    refine ⟨_, rfl, 2, rfl, l, _, rfl, SqL.of tl8, fun g ng => ?_⟩
    rw [show cutV [.int c, .int k, .int e, .int p, .str t] (some 2) none = [.int e, .int p, .str t] from cut_drop (i := 2) (xs := told5 c k e p t) (by show 2 ≤ 5; decide)]
    refine ⟨by show 3 ≤ sizeLine; decide, fun g2 ng2 => ?_⟩
    have dt : ∀ {H' : Hp} {q : Addr} {e' p' : Int} {t' : Str}, H' q = some (.lst [.int e', .int p', .str t']) → Dp K H' (.ref q) (.list [.int e', .int p', .str t']) := fun z => .lst (SqL.of z) (.cons (.int _) (.cons (.int _) (.cons (.str _) .nil)))
    have sb := same_new (o := HO.lst [.int 0, .int 0, .str "halfup"]) ng2
    have sa := same_new (o := HO.lst [.int e, .int p, .str t]) ng
    refine ⟨_, _, dt (sb _ _ upd_same), dt upd_same, sh_tail (way_ok ht), sh_tail (by decide +kernel), ?_⟩
    rw [show PyData.eqv (.list [.int (e : Int), .int (p : Int), .str t]) (.list [.int 0, .int 0, .str "halfup"]) = decide (c = c ∧ k = k ∧ e = 0 ∧ p = 0 ∧ t = "halfup") from (eqv_tail e p 0 0 t "halfup").trans (by simp)]
    refine ⟨by show 2 ≤ sizeLine; decide, fun r3 m3 => ?_⟩
    generalize decide (c = c ∧ k = k ∧ e = 0 ∧ p = 0 ∧ t = "halfup") = b3 at m3 ⊢
    have sc := (sa.trans sb).trans (same_new (o := HO.tup [.bl b3, .bl b3]) m3)
    have f3 : upd (upd (upd H8 g (.lst [.int e, .int p, .str t])) g2 (.lst [.int 0, .int 0, .str "halfup"])) r3 (.tup [.bl b3, .bl b3]) r3 = some (.tup [.bl b3, .bl b3]) := upd_same
    generalize upd (upd (upd H8 g (.lst [.int e, .int p, .str t])) g2 (.lst [.int 0, .int 0, .str "halfup"])) r3 (.tup [.bl b3, .bl b3]) = H9 at sc f3 ⊢
    have ew9 := sc _ _ ew
    refine ⟨rw', _, _, rfl, rfl, ew9, by show 2 < sizeLine; decide, ?_⟩
    -- what stands behind a row more
    have R9 : ∀ v ∈ ([.ref r1, .ref r2] ++ [.ref r3] : List V), RowB (upd H9 rw' (.lst ([.ref r1, .ref r2] ++ [.ref r3]))) v := by
      intro v hv
      refine RowB.put ?_ ew9
      simp only [List.cons_append, List.nil_append, List.mem_cons, List.not_mem_nil, or_false] at hv
      rcases hv with rfl | rfl | rfl
      · exact ⟨r1, _, rfl, sc _ _ f1⟩
      · exact ⟨r2, _, rfl, sc _ _ f2⟩
      · exact ⟨r3, _, rfl, f3⟩
    have s9 : Same H (upd H9 rw' (.lst ([.ref r1, .ref r2] ++ [.ref r3]))) := fun b' o z => (upd_ne (nwH z)).trans (sc _ _ (s8 _ _ z))
    have tl9 : Told (upd H9 rw' (.lst ([.ref r1, .ref r2] ++ [.ref r3]))) l c k e p t := (upd_ne nwl).trans (sc _ _ tl8)
    have da9 : DAt D (upd H9 rw' (.lst ([.ref r1, .ref r2] ++ [.ref r3]))) a c k e p t := (da8.same sc).put ew9
    have et9 := (upd_ne (o := HO.lst ([.ref r1, .ref r2] ++ [.ref r3])) nwt).trans (sc _ _ et8)
    have el9 : upd H9 rw' (.lst ([.ref r1, .ref r2] ++ [.ref r3])) rw' = some (.lst ([.ref r1, .ref r2] ++ [.ref r3])) := upd_same
    generalize upd H9 rw' (.lst ([.ref r1, .ref r2] ++ [.ref r3])) = H10 at R9 s9 tl9 da9 et9 el9 ⊢
    clear sa sb sc ea eb da8 db8 tl8 et8 s8 ew ew9 f1 f2 f3 m3 ng ng2
    -- turned[1]
    refine ⟨_, rfl, l, _, 0 + 1, _, rfl, rfl, SqL.of tl9, rfl, _, _, rfl, rfl, _, _, rfl, _, rfl, tn, _, 1, 1, rfl, rfl, et9, rfl, ?_⟩
    have eN : (([.int ((c : Int) + 1), .int k, .int (1 - (e : Int)), .int ((p : Int) + 1), .str mn] : List V).set 1 (.int (if (0 : Int) > (k : Int) - 1 then 0 else (k : Int) - 1))) = told5 (c + 1) (k - 1) (1 - e) (p + 1) mn := by
      have e1 : (if (0 : Int) > (k : Int) - 1 then (0 : Int) else (k : Int) - 1) = ((k - 1 : Nat) : Int) := by split <;> omega
      have e2 : 1 - (e : Int) = ((1 - e : Nat) : Int) := by omega
      rw [e1, e2]
      rfl
    rw [eN]
    have R11 : ∀ v ∈ ([.ref r1, .ref r2] ++ [.ref r3] : List V), RowB (upd H10 tn (.lst (told5 (c + 1) (k - 1) (1 - e) (p + 1) mn))) v := fun v hv => (R9 v hv).put et9
    have s11 : Same H (upd H10 tn (.lst (told5 (c + 1) (k - 1) (1 - e) (p + 1) mn))) := fun b' o z => (upd_ne (nT z)).trans (s9 _ _ z)
    have tl11 : Told (upd H10 tn (.lst (told5 (c + 1) (k - 1) (1 - e) (p + 1) mn))) l c k e p t := (upd_ne nlt).trans tl9
    have da11 := da9.put (o := .lst (told5 (c + 1) (k - 1) (1 - e) (p + 1) mn)) et9
    have et11 : upd H10 tn (.lst (told5 (c + 1) (k - 1) (1 - e) (p + 1) mn)) tn = some (.lst (told5 (c + 1) (k - 1) (1 - e) (p + 1) mn)) := upd_same
    have el11 : upd H10 tn (.lst (told5 (c + 1) (k - 1) (1 - e) (p + 1) mn)) rw' = some (.lst ([.ref r1, .ref r2] ++ [.ref r3])) := (upd_ne nwt.symm).trans el9
    generalize upd H10 tn (.lst (told5 (c + 1) (k - 1) (1 - e) (p + 1) mn)) = H11 at R11 s11 tl11 da11 et11 el11 ⊢
    clear R9 s9 tl9 da9 et9 el9 eN
    refine ⟨_, rfl, by decide, by decide, for_range (lo := 0) (n := 5) (fun i σ H' => (∃ y7 y8 : Option V, σ = [some (.ref l), some (.ref a), some (.ref b), some (.ref gS), some (.str mn), some (.ref tn), some (.ref rw'), y7, y8, none]) ∧ Same H H' ∧ Told H' l c k e p t ∧ DAt D H' a c k e p t ∧ H' tn = some (.lst (told5 (c + 1) (k - 1) (1 - e) (p + 1) mn)) ∧
      ∃ R : List V, H' rw' = some (.lst R) ∧ R.length = 3 + i ∧ ∀ v ∈ R, RowB H' v) ⟨⟨_, _, rfl⟩, s11, tl11, da11, et11, _, el11, rfl, R11⟩ ?_ ?_⟩
    · rintro i σ H12 hi ⟨⟨y7, y8, rfl⟩, s12, tl12, da12, et12, R, eR, lR, rows⟩
      dsimp only [gName, List.set]
      rw [Int.zero_add]
      obtain ⟨x, c2, k2, e2, p2, t2, hx, eo, h1, h2, h3, h4⟩ := others (p := p) hi hc hk he ht hm
      have l5 : (told5 c k e p t).length = 5 := rfl
      refine ⟨_, rfl, _, rfl, _, rfl, l, _, rfl, SqL.of tl12, fun z1 n1 => ?_⟩
      rw [show cutV [.int c, .int k, .int e, .int p, .str t] none (some (i : Int)) = (told5 c k e p t).take i from cut_take (xs := told5 c k e p t) (by rw [l5]; omega)]
      have a1 := same_new (o := HO.lst ((told5 c k e p t).take i)) n1
      refine ⟨_, rfl, _, rfl, tn, _, _, x, rfl, rfl, SqL.of (a1 _ _ et12), atI_nat hx, by show 1 ≤ sizeLine; decide, fun z2 n2 => ?_⟩
      have a2 := same_new (o := HO.lst [x]) n2
      refine ⟨z1, z2, _, _, rfl, rfl, a2 _ _ upd_same, upd_same, by rw [List.length_take, l5]; show min i 5 + 1 ≤ sizeLine; have := sizeLine_eq; omega, fun z3 n3 => ?_⟩
      have a3 := (a1.trans a2).trans (same_new (o := HO.lst ((told5 c k e p t).take i ++ [x])) n3)
      have w3 : upd (upd (upd H12 z1 (HO.lst ((told5 c k e p t).take i))) z2 (HO.lst [x])) z3 (HO.lst ((told5 c k e p t).take i ++ [x])) z3 = some (.lst ((told5 c k e p t).take i ++ [x])) := upd_same
      generalize upd (upd (upd H12 z1 (HO.lst ((told5 c k e p t).take i))) z2 (HO.lst [x])) z3 (HO.lst ((told5 c k e p t).take i ++ [x])) = H13 at a3 w3 ⊢
      clear a1 a2 n1 n2 n3
      refine ⟨_, rfl, _, rfl, _, _, rfl, rfl, _, rfl, l, _, rfl, SqL.of (a3 _ _ tl12), fun z4 n4 => ?_⟩
      rw [show cutV [.int c, .int k, .int e, .int p, .str t] (some ((i : Int) + 1)) none = (told5 c k e p t).drop (i + 1) from cut_drop (i := i + 1) (xs := told5 c k e p t) (by rw [l5]; omega)]
      have a4 := same_new (o := HO.lst ((told5 c k e p t).drop (i + 1))) n4
      refine ⟨z3, z4, _, _, rfl, rfl, a4 _ _ w3, upd_same, by rw [List.length_append, List.length_take, List.length_drop, l5]; show min i 5 + 1 + (5 - (i + 1)) ≤ sizeLine; have := sizeLine_eq; omega, fun ot no => ?_⟩
      rw [eo]
      have a5 := (a3.trans a4).trans (same_new (o := HO.lst [.int c2, .int k2, .int e2, .int p2, .str t2]) no)
      have w5 : Told (upd (upd H13 z4 (HO.lst ((told5 c k e p t).drop (i + 1)))) ot (HO.lst [.int c2, .int k2, .int e2, .int p2, .str t2])) ot c2 k2 e2 p2 t2 := upd_same
      generalize upd (upd H13 z4 (HO.lst ((told5 c k e p t).drop (i + 1)))) ot (HO.lst [.int c2, .int k2, .int e2, .int p2, .str t2]) = H14 at a5 w5 ⊢
      clear a3 a4 n4 no w3
      dsimp only [gName, List.set]
      refine ⟨_, rfl, .inl ⟨rfl, _, SqL.of (a5 _ _ eR)⟩, _, rfl, _, rfl, ot, c2, k2, e2, p2, t2, rfl, w5, h1, h2, h3, h4, fun b2 H15 sm _ d2 => ?_⟩
      have a6 := a5.trans sm
      obtain ⟨dx, ea⟩ := id (da12.same a6)
      obtain ⟨dz, ez⟩ := id d2
      refine ⟨a, dx, _, rfl, ea, .inl ⟨b2, dz, _, rfl, ez⟩, a, c, k, e, p, t, .ref b2, rfl, da12.same a6, .inl ⟨b2, c2, k2, e2, p2, t2, rfl, d2, ?_⟩⟩
      refine ⟨_, rfl, _, rfl, _, _, dp_told (sm _ _ w5), dp_told (a6 _ _ tl12), sh_told (way_ok h4), sh_told (way_ok ht), ?_⟩
      rw [eqv_told, show decide (c2 = c ∧ k2 = k ∧ e2 = e ∧ p2 = p ∧ t2 = t) = decide (c = c2 ∧ k = k2 ∧ e = e2 ∧ p = p2 ∧ t = t2) from decide_eq_decide.mpr ⟨fun ⟨a, b, c, d, e⟩ => ⟨a.symm, b.symm, c.symm, d.symm, e.symm⟩, fun ⟨a, b, c, d, e⟩ => ⟨a.symm, b.symm, c.symm, d.symm, e.symm⟩⟩]
      refine ⟨by show 2 ≤ sizeLine; decide, fun r4 m4 => ?_⟩
      generalize decide (c = c2 ∧ k = k2 ∧ e = e2 ∧ p = p2 ∧ t = t2) = b4 at m4 ⊢
      have a7 := a6.trans (same_new (o := HO.tup [.bl b4, .bl b4]) m4)
      have f4 : upd H15 r4 (.tup [.bl b4, .bl b4]) r4 = some (.tup [.bl b4, .bl b4]) := upd_same
      generalize upd H15 r4 (.tup [.bl b4, .bl b4]) = H16 at a7 f4 ⊢
      clear a5 a6 sm ea ez d2 w5 m4
      have eR7 := a7 _ _ eR
      refine ⟨rw', _, _, rfl, rfl, eR7, by rw [lR]; have := sizeLine_eq; omega, ?_⟩
      refine ⟨⟨_, _, rfl⟩, fun b' o z => (upd_ne (nwH z)).trans (a7 _ _ (s12 _ _ z)), (upd_ne nwl).trans (a7 _ _ tl12), (da12.same a7).put eR7, (upd_ne nwt).trans (a7 _ _ et12), _, upd_same, by rw [List.length_append, lR]; rfl, fun v hv => RowB.put ?_ eR7⟩
      rcases List.mem_append.mp hv with hv | hv
      · exact (rows v hv).same a7
      · rw [List.mem_singleton.mp hv]
        exact ⟨r4, _, rfl, f4⟩
    · rintro σ H12 ⟨⟨y7, y8, rfl⟩, s12, tl12, da12, et12, R, eR, lR, rows⟩
      refine ⟨_, rfl, rw', rfl, ⟨_, SqL.of eR⟩, fun L nL => lc_list (K := K) (xs := R) (fun i H' => Same H12 H' ∧ H' L = some (.lst ((List.replicate i true).map V.bl))) ⟨same_new nL, upd_same⟩ (fun i H' _ z => SqL.of (z.1 _ _ eR)) ?_ ?_⟩
      · rintro i x H' hx ⟨sm, eL⟩
        obtain ⟨hi, _⟩ := List.getElem?_eq_some_iff.mp hx
        obtain ⟨qa, bb, rfl, eq⟩ := (rows x (List.mem_of_getElem? hx)).same sm
        refine ⟨rfl, ?_⟩
        unfold tYes
        dsimp only
        rw [if_pos rfl]
        refine ⟨_, rfl, qa, _, 0, _, rfl, rfl, SqT.of eq, rfl, _, rfl, qa, _, 1, _, rfl, rfl, SqT.of eq, rfl, .inr ⟨.bl bb, rfl, .flat rfl, ?_⟩⟩
        refine ⟨_, eL, by rw [List.length_map, List.length_replicate]; have := sizeLine_eq; omega, fun b' o z => (upd_ne (ne_of_none z nL)).trans (sm _ _ z), ?_⟩
        rw [upd_same, List.replicate_succ', List.map_append]
        rfl
      · rintro H' ⟨sm, eL⟩
        refine ⟨L, _, rfl, SqL.of eL, ?_⟩
        rw [show (List.replicate R.length true).all id = true by rw [List.all_eq_true]; intro b hb; rw [List.eq_of_mem_replicate hb]; rfl]
        exact q H' (s12.trans sm)
end
end K10

/-! k10: the twelve lambdas. -/
namespace K10
open PySem PySem.Spec PyProof.Rows L2 LamX NdefX Own
abbrev sRefs : Stmt := topS 34
def noE : Expr := .Constant .none 0 ⟨0, 0, 0, 0⟩
def asgV : Stmt → Expr
  | .Assign _ v _ => v
  | _ => noE
def eltE (i : Nat) : Expr → Expr
  | .List es _ => es.getD i noE
  | .Tuple es _ _ => es.getD i noE
  | _ => noE
def argE : Stmt → Expr
  | .Expr (.Call _ (a :: _) _ _) _ => a
  | _ => noE
def lamArgs : Expr → Arguments
  | .Lambda a _ _ _ => a
  | _ => ⟨[], [], none, [], [], none, []⟩
def lamBody : Expr → Expr
  | .Lambda _ b _ _ => b
  | _ => noE
def lamScope : Expr → Scope
  | .Lambda _ _ s _ => s
  | _ => ⟨.function, [], false, false, []⟩
abbrev bRefs (i : Nat) : Stmt := (defBody sRefs).getD i (.Pass ⟨0, 0, 0, 0⟩)
abbrev lx1 : Expr := eltE 0 (eltE 0 (asgV (bRefs 6)))
abbrev lx2 : Expr := eltE 0 (argE (bRefs 7))
abbrev lx3 : Expr := eltE 0 (argE (bRefs 8))
abbrev lx4 : Expr := eltE 0 (argE (bRefs 9))
abbrev lx5 : Expr := eltE 0 (argE (bRefs 10))
abbrev lx6 : Expr := eltE 0 (argE (bRefs 11))
abbrev lx7 : Expr := eltE 0 (argE (bRefs 12))
abbrev lx8 : Expr := eltE 0 (argE (bRefs 13))
abbrev lx9 : Expr := eltE 0 (argE (bRefs 14))
abbrev lx10 : Expr := eltE 0 (argE (bRefs 15))
abbrev lx11 : Expr := eltE 0 (argE (bRefs 16))
abbrev lx12 : Expr := eltE 0 (argE (bRefs 17))
theorem stepArgs.bad {C S : Addr} {H H' : Hp} {E : XK} {wd x y : V} {G : Str → Addr → Nat → Nat → Addr → Nat → Nat → Prop} (h : stepArgs C S H E wd x y (fun _ _ _ _ _ _ _ => False)) (s : Same H H') : stepArgs C S H' E wd x y G := by
  rcases h with ⟨th, n, b⟩ | ⟨o, ho, e1, h⟩
  · exact .inl ⟨th.same s, n, b.same s⟩
  refine .inr ⟨o, ho, e1, ?_⟩
  rcases h with ⟨th, b⟩ | ⟨b1, u1, s1, e2, w1, z1, h⟩
  · exact .inl ⟨th.same s, b.same s⟩
  refine .inr ⟨b1, u1, s1, e2, w1.same s, z1, ?_⟩
  rcases h with ⟨th, b⟩ | ⟨b2, u2, s2, e3, w2, z2, h⟩
  · exact .inl ⟨th.same s, b.same s⟩
  · exact h.elim
section
variable {P : Program} {w : World} {K : PySem.W.Frag} {mg : Str → Option Value} {base : Heap} {C CN S D : Addr} {X : Cx} {f c' : Addr}
def sq1 (C S D : Addr) : List (Option V) → Hp → VK → XK → Prop := fun ws H Q E => ∃ lo od nn : V, ws = [some lo, some od, some nn] ∧ spDial C D nn lo od (.int 0) (.str "halfup") H Q E
def sq2 (C S D : Addr) : List (Option V) → Hp → VK → XK → Prop := fun ws H Q E => ∃ ca hi od : V, ws = [some ca, some hi, some od] ∧ spDial C D ca hi od (.int 0) (.str "halfup") H Q E
def sq3 (C S D : Addr) : List (Option V) → Hp → VK → XK → Prop := fun ws H Q E => ∃ ca lo : V, ws = [some ca, some lo] ∧ spDial C D ca lo (.int 0) (.int 0) (.str "up") H Q E
def sq4 (C S D : Addr) : List (Option V) → Hp → VK → XK → Prop := fun ws H Q E => ∃ wr ca lo : V, ws = [some wr, some ca, some lo] ∧ spDial C D ca wr (.int 0) lo (.str "halfup") H Q E
def sq5 (C S D : Addr) : List (Option V) → Hp → VK → XK → Prop := fun ws H Q E => ∃ ca ke lo od : V, ws = [some ca, some ke, some lo, some od] ∧ spDial C D ca ke od lo (.str "up") H Q E
def sq6 (C S D : Addr) : List (Option V) → Hp → VK → XK → Prop := fun ws H Q E => ∃ ca ke lo : V, ws = [some ca, some ke, some lo] ∧ spDial C D ca ke (.int 0) lo (.str "up") H Q E
def sq7 (C S D : Addr) : List (Option V) → Hp → VK → XK → Prop := fun ws H Q E => ∃ wr ca ke : V, ws = [some wr, some ca, some ke] ∧ spDial C D ca ke (.int 0) (.int 0) wr H Q E
def sq8 (C S D : Addr) : List (Option V) → Hp → VK → XK → Prop := fun ws H Q E => ∃ wr ca ke lo wd : V, ws = [some wr, some ca, some ke, some lo, some wd] ∧ ∃ c k : Nat, ca = .int c ∧ ke = .int k ∧ 0 < c ∧ k ≤ c ∧ stepArgs C S H E wd wr lo (fun _ _ _ _ _ _ _ => False)
def sq9 (C S D : Addr) : List (Option V) → Hp → VK → XK → Prop := fun ws H Q E => ∃ wr ca ke lo : V, ws = [some wr, some ca, some ke, some lo] ∧ ∃ c k : Nat, ca = .int c ∧ ke = .int k ∧ 0 < c ∧ k ≤ c ∧ stepArgs C S H E (.str "product") wr lo (fun _ _ _ _ _ _ _ => False)
def sq10 (C S D : Addr) : List (Option V) → Hp → VK → XK → Prop := fun ws H Q E => ∃ sh ca ke lo : V, ws = [some sh, some ca, some ke, some lo] ∧ ∃ c k : Nat, ca = .int c ∧ ke = .int k ∧ 0 < c ∧ k ≤ c ∧ stepArgs C S H E (.str "sum") sh lo (fun _ _ _ _ _ _ _ => False)
def sq11 (C S D : Addr) : List (Option V) → Hp → VK → XK → Prop := fun ws H Q E => ∃ sh ca ke lo wd : V, ws = [some sh, some ca, some ke, some lo, some wd] ∧ ∃ c k : Nat, ca = .int c ∧ ke = .int k ∧ 0 < c ∧ k ≤ c ∧ stepArgs C S H E wd sh lo (fun _ _ _ _ _ _ _ => False)
def sq12 (C S D : Addr) : List (Option V) → Hp → VK → XK → Prop := fun ws H Q E => ∃ wr ca ke : V, ws = [some wr, some ca, some ke] ∧ ∃ c k : Nat, ca = .int c ∧ ke = .int k ∧ 0 < c ∧ k ≤ c ∧ Thing H wr ∧ Bad C "value" wr H E
theorem nsL1 : NScope ["_law_low", "_law_odd", "_law_none"] [] ["_law_low", "_law_odd", "_law_none"] (lamScope lx1) := nscope_by (by decide +kernel)
theorem nsL2 : NScope ["_law_cap", "_law_high", "_law_odd"] [] ["_law_cap", "_law_high", "_law_odd"] (lamScope lx2) := nscope_by (by decide +kernel)
theorem nsL3 : NScope ["_law_cap", "_law_low"] [] ["_law_cap", "_law_low"] (lamScope lx3) := nscope_by (by decide +kernel)
theorem nsL4 : NScope ["_law_wrong_here", "_law_cap", "_law_low"] [] ["_law_wrong_here", "_law_cap", "_law_low"] (lamScope lx4) := nscope_by (by decide +kernel)
theorem nsL5 : NScope ["_law_cap", "_law_kept", "_law_low", "_law_odd"] [] ["_law_cap", "_law_kept", "_law_low", "_law_odd"] (lamScope lx5) := nscope_by (by decide +kernel)
theorem nsL6 : NScope ["_law_cap", "_law_kept", "_law_low"] [] ["_law_cap", "_law_kept", "_law_low"] (lamScope lx6) := nscope_by (by decide +kernel)
theorem nsL7 : NScope ["_law_wrong_here", "_law_cap", "_law_kept"] [] ["_law_wrong_here", "_law_cap", "_law_kept"] (lamScope lx7) := nscope_by (by decide +kernel)
theorem nsL8 : NScope ["_law_wrong_here", "_law_cap", "_law_kept", "_law_low", "_law_word"] [] ["_law_wrong_here", "_law_cap", "_law_kept", "_law_low", "_law_word"] (lamScope lx8) := nscope_by (by decide +kernel)
theorem nsL9 : NScope ["_law_wrong_here", "_law_cap", "_law_kept", "_law_low"] [] ["_law_wrong_here", "_law_cap", "_law_kept", "_law_low"] (lamScope lx9) := nscope_by (by decide +kernel)
theorem nsL10 : NScope ["_law_shape_here", "_law_cap", "_law_kept", "_law_low"] [] ["_law_shape_here", "_law_cap", "_law_kept", "_law_low"] (lamScope lx10) := nscope_by (by decide +kernel)
theorem nsL11 : NScope ["_law_shape_here", "_law_cap", "_law_kept", "_law_low", "_law_word"] [] ["_law_shape_here", "_law_cap", "_law_kept", "_law_low", "_law_word"] (lamScope lx11) := nscope_by (by decide +kernel)
theorem nsL12 : NScope ["_law_wrong_here", "_law_cap", "_law_kept"] [] ["_law_wrong_here", "_law_cap", "_law_kept"] (lamScope lx12) := nscope_by (by decide +kernel)
theorem lok1 (T : ShapeC K mg S) (TD : DialC K mg D) (MD : DMk P w K mg base C D) (MU : DMeth P w K mg base D "uncut" 6 ["self", "word", "one", "other"] (spUnc C S D)) (MC : DMeth P w K mg base D "cut" 6 ["self", "shape"] (spCut C S D)) (MS : DMeth P w K mg base D "shape_of" 7 ["self", "word", "one", "other"] (spShOf C S D)) : LOk P w K mg base (L2.CX P w) 9 f (lamF X (lamArgs lx1) (lamScope lx1) c') (lamBody lx1) ["_law_low", "_law_odd", "_law_none"] (sq1 C S D) := by
  refine lok_of (N := ["_law_low", "_law_odd", "_law_none"]) (ps := []) nsL1 rfl (fun dV doc pm ctv s us hl hd => ?_) (fun A outer s H ws Q E hr hl h => ?_)
  · obtain rfl := List.length_eq_zero_iff.mp hl
    rcases hd with ⟨_, rfl⟩ | ⟨n, _⟩
    · exact .of_eq rfl
    · exact (n rfl).elim
  · obtain ⟨lo, od, nn, rfl, h⟩ := h
    refine ⟨_, (pe_dial (C := C) (E := E) MD TD kbE hr (by decide) (by rfl) (passes_call (takes_of rfl rfl rfl rfl) fun _ _ _ _ z => z) (pa_cons (pv 2) (pa_cons (pv 0) pa_nil)) (pk_cons (pv 1) pk_nil)), ?_⟩
    exact ⟨_, rfl, _, rfl, _, rfl, _, _, _, _, _, rfl, rfl, fun _ => rfl, h⟩
theorem lok2 (T : ShapeC K mg S) (TD : DialC K mg D) (MD : DMk P w K mg base C D) (MU : DMeth P w K mg base D "uncut" 6 ["self", "word", "one", "other"] (spUnc C S D)) (MC : DMeth P w K mg base D "cut" 6 ["self", "shape"] (spCut C S D)) (MS : DMeth P w K mg base D "shape_of" 7 ["self", "word", "one", "other"] (spShOf C S D)) : LOk P w K mg base (L2.CX P w) 9 f (lamF X (lamArgs lx2) (lamScope lx2) c') (lamBody lx2) ["_law_cap", "_law_high", "_law_odd"] (sq2 C S D) := by
  refine lok_of (N := ["_law_cap", "_law_high", "_law_odd"]) (ps := []) nsL2 rfl (fun dV doc pm ctv s us hl hd => ?_) (fun A outer s H ws Q E hr hl h => ?_)
  · obtain rfl := List.length_eq_zero_iff.mp hl
    rcases hd with ⟨_, rfl⟩ | ⟨n, _⟩
    · exact .of_eq rfl
    · exact (n rfl).elim
  · obtain ⟨ca, hi, od, rfl, h⟩ := h
    refine ⟨_, (pe_dial (C := C) (E := E) MD TD kbE hr (by decide) (by rfl) (passes_call (takes_of rfl rfl rfl rfl) fun _ _ _ _ z => z) (pa_cons (pv 0) (pa_cons (pv 1) pa_nil)) (pk_cons (pv 2) pk_nil)), ?_⟩
    exact ⟨_, rfl, _, rfl, _, rfl, _, _, _, _, _, rfl, rfl, fun _ => rfl, h⟩
theorem lok3 (T : ShapeC K mg S) (TD : DialC K mg D) (MD : DMk P w K mg base C D) (MU : DMeth P w K mg base D "uncut" 6 ["self", "word", "one", "other"] (spUnc C S D)) (MC : DMeth P w K mg base D "cut" 6 ["self", "shape"] (spCut C S D)) (MS : DMeth P w K mg base D "shape_of" 7 ["self", "word", "one", "other"] (spShOf C S D)) : LOk P w K mg base (L2.CX P w) 9 f (lamF X (lamArgs lx3) (lamScope lx3) c') (lamBody lx3) ["_law_cap", "_law_low"] (sq3 C S D) := by
  refine lok_of (N := ["_law_cap", "_law_low"]) (ps := []) nsL3 rfl (fun dV doc pm ctv s us hl hd => ?_) (fun A outer s H ws Q E hr hl h => ?_)
  · obtain rfl := List.length_eq_zero_iff.mp hl
    rcases hd with ⟨_, rfl⟩ | ⟨n, _⟩
    · exact .of_eq rfl
    · exact (n rfl).elim
  · obtain ⟨ca, lo, rfl, h⟩ := h
    refine ⟨_, (pe_dial (C := C) (E := E) MD TD kbW hr (by decide) (by rfl) (passes_call (takes_of rfl rfl rfl rfl) fun _ _ _ _ z => z) (pa_cons (pv 0) (pa_cons (pv 1) pa_nil)) (pk_cons pe_str pk_nil)), ?_⟩
    exact ⟨_, rfl, _, rfl, _, _, _, _, _, rfl, rfl, fun _ => rfl, h⟩
theorem lok4 (T : ShapeC K mg S) (TD : DialC K mg D) (MD : DMk P w K mg base C D) (MU : DMeth P w K mg base D "uncut" 6 ["self", "word", "one", "other"] (spUnc C S D)) (MC : DMeth P w K mg base D "cut" 6 ["self", "shape"] (spCut C S D)) (MS : DMeth P w K mg base D "shape_of" 7 ["self", "word", "one", "other"] (spShOf C S D)) : LOk P w K mg base (L2.CX P w) 9 f (lamF X (lamArgs lx4) (lamScope lx4) c') (lamBody lx4) ["_law_wrong_here", "_law_cap", "_law_low"] (sq4 C S D) := by
  refine lok_of (N := ["_law_wrong_here", "_law_cap", "_law_low"]) (ps := []) nsL4 rfl (fun dV doc pm ctv s us hl hd => ?_) (fun A outer s H ws Q E hr hl h => ?_)
  · obtain rfl := List.length_eq_zero_iff.mp hl
    rcases hd with ⟨_, rfl⟩ | ⟨n, _⟩
    · exact .of_eq rfl
    · exact (n rfl).elim
  · obtain ⟨wr, ca, lo, rfl, h⟩ := h
    refine ⟨_, (pe_dial (C := C) (E := E) MD TD kbP hr (by decide) (by rfl) (passes_call (takes_of rfl rfl rfl rfl) fun _ _ _ _ z => z) (pa_cons (pv 1) (pa_cons (pv 0) pa_nil)) (pk_cons (pv 2) pk_nil)), ?_⟩
    exact ⟨_, rfl, _, rfl, _, rfl, _, _, _, _, _, rfl, rfl, fun _ => rfl, h⟩
theorem lok5 (T : ShapeC K mg S) (TD : DialC K mg D) (MD : DMk P w K mg base C D) (MU : DMeth P w K mg base D "uncut" 6 ["self", "word", "one", "other"] (spUnc C S D)) (MC : DMeth P w K mg base D "cut" 6 ["self", "shape"] (spCut C S D)) (MS : DMeth P w K mg base D "shape_of" 7 ["self", "word", "one", "other"] (spShOf C S D)) : LOk P w K mg base (L2.CX P w) 9 f (lamF X (lamArgs lx5) (lamScope lx5) c') (lamBody lx5) ["_law_cap", "_law_kept", "_law_low", "_law_odd"] (sq5 C S D) := by
  refine lok_of (N := ["_law_cap", "_law_kept", "_law_low", "_law_odd"]) (ps := []) nsL5 rfl (fun dV doc pm ctv s us hl hd => ?_) (fun A outer s H ws Q E hr hl h => ?_)
  · obtain rfl := List.length_eq_zero_iff.mp hl
    rcases hd with ⟨_, rfl⟩ | ⟨n, _⟩
    · exact .of_eq rfl
    · exact (n rfl).elim
  · obtain ⟨ca, ke, lo, od, rfl, h⟩ := h
    refine ⟨_, (pe_dial (C := C) (E := E) MD TD kbWPE hr (by decide) (by rfl) (passes_call (takes_of rfl rfl rfl rfl) fun _ _ _ _ z => z) (pa_cons (pv 0) (pa_cons (pv 1) pa_nil)) (pk_cons pe_str (pk_cons (pv 2) (pk_cons (pv 3) pk_nil)))), ?_⟩
    exact ⟨_, rfl, _, rfl, _, rfl, _, rfl, _, _, _, _, _, rfl, rfl, fun _ => rfl, h⟩
theorem lok6 (T : ShapeC K mg S) (TD : DialC K mg D) (MD : DMk P w K mg base C D) (MU : DMeth P w K mg base D "uncut" 6 ["self", "word", "one", "other"] (spUnc C S D)) (MC : DMeth P w K mg base D "cut" 6 ["self", "shape"] (spCut C S D)) (MS : DMeth P w K mg base D "shape_of" 7 ["self", "word", "one", "other"] (spShOf C S D)) : LOk P w K mg base (L2.CX P w) 9 f (lamF X (lamArgs lx6) (lamScope lx6) c') (lamBody lx6) ["_law_cap", "_law_kept", "_law_low"] (sq6 C S D) := by
  refine lok_of (N := ["_law_cap", "_law_kept", "_law_low"]) (ps := []) nsL6 rfl (fun dV doc pm ctv s us hl hd => ?_) (fun A outer s H ws Q E hr hl h => ?_)
  · obtain rfl := List.length_eq_zero_iff.mp hl
    rcases hd with ⟨_, rfl⟩ | ⟨n, _⟩
    · exact .of_eq rfl
    · exact (n rfl).elim
  · obtain ⟨ca, ke, lo, rfl, h⟩ := h
    refine ⟨_, (pe_dial (C := C) (E := E) MD TD kbWP hr (by decide) (by rfl) (passes_call (takes_of rfl rfl rfl rfl) fun _ _ _ _ z => z) (pa_cons (pv 0) (pa_cons (pv 1) pa_nil)) (pk_cons pe_str (pk_cons (pv 2) pk_nil))), ?_⟩
    exact ⟨_, rfl, _, rfl, _, rfl, _, _, _, _, _, rfl, rfl, fun _ => rfl, h⟩
theorem lok7 (T : ShapeC K mg S) (TD : DialC K mg D) (MD : DMk P w K mg base C D) (MU : DMeth P w K mg base D "uncut" 6 ["self", "word", "one", "other"] (spUnc C S D)) (MC : DMeth P w K mg base D "cut" 6 ["self", "shape"] (spCut C S D)) (MS : DMeth P w K mg base D "shape_of" 7 ["self", "word", "one", "other"] (spShOf C S D)) : LOk P w K mg base (L2.CX P w) 9 f (lamF X (lamArgs lx7) (lamScope lx7) c') (lamBody lx7) ["_law_wrong_here", "_law_cap", "_law_kept"] (sq7 C S D) := by
  refine lok_of (N := ["_law_wrong_here", "_law_cap", "_law_kept"]) (ps := []) nsL7 rfl (fun dV doc pm ctv s us hl hd => ?_) (fun A outer s H ws Q E hr hl h => ?_)
  · obtain rfl := List.length_eq_zero_iff.mp hl
    rcases hd with ⟨_, rfl⟩ | ⟨n, _⟩
    · exact .of_eq rfl
    · exact (n rfl).elim
  · obtain ⟨wr, ca, ke, rfl, h⟩ := h
    refine ⟨_, (pe_dial (C := C) (E := E) MD TD kbW hr (by decide) (by rfl) (passes_call (takes_of rfl rfl rfl rfl) fun _ _ _ _ z => z) (pa_cons (pv 1) (pa_cons (pv 2) pa_nil)) (pk_cons (pv 0) pk_nil)), ?_⟩
    exact ⟨_, rfl, _, rfl, _, rfl, _, _, _, _, _, rfl, rfl, fun _ => rfl, h⟩
theorem lok8 (T : ShapeC K mg S) (TD : DialC K mg D) (MD : DMk P w K mg base C D) (MU : DMeth P w K mg base D "uncut" 6 ["self", "word", "one", "other"] (spUnc C S D)) (MC : DMeth P w K mg base D "cut" 6 ["self", "shape"] (spCut C S D)) (MS : DMeth P w K mg base D "shape_of" 7 ["self", "word", "one", "other"] (spShOf C S D)) : LOk P w K mg base (L2.CX P w) 9 f (lamF X (lamArgs lx8) (lamScope lx8) c') (lamBody lx8) ["_law_wrong_here", "_law_cap", "_law_kept", "_law_low", "_law_word"] (sq8 C S D) := by
  refine lok_of (N := ["_law_wrong_here", "_law_cap", "_law_kept", "_law_low", "_law_word"]) (ps := []) nsL8 rfl (fun dV doc pm ctv s us hl hd => ?_) (fun A outer s H ws Q E hr hl h => ?_)
  · obtain rfl := List.length_eq_zero_iff.mp hl
    rcases hd with ⟨_, rfl⟩ | ⟨n, _⟩
    · exact .of_eq rfl
    · exact (n rfl).elim
  · obtain ⟨wr, ca, ke, lo, wd, rfl, c, k, rfl, rfl, hc, hk, h⟩ := h
    obtain ⟨fU, fdU, mU, FU, bU⟩ := MU.ex
    refine ⟨_, (pe_meth (E := E) (pe_dial (C := C) (E := E) MD TD kb0 hr (by decide) (by rfl) (passes_call (takes_of rfl rfl rfl rfl) fun _ _ _ _ z => z) (pa_cons (pv 1) (pa_cons (pv 2) pa_nil)) pk_nil) TD.cls mU FU (hr.mono (by decide)) bU .nil (passes_call (takes_of rfl rfl rfl rfl) fun _ _ _ _ z => z) (pa_cons (pv 4) (pa_cons (pv 0) (pa_cons (pv 3) pa_nil)))), ?_⟩
    refine ⟨_, rfl, _, rfl, _, _, _, _, _, rfl, rfl, fun _ => rfl, dial_of (e := 0) (p := 0) (t := "halfup") hc hk (by decide) (by decide) fun a H' sm _ da => ?_⟩
    obtain ⟨dx, ea⟩ := id da
    exact ⟨a, dx, _, rfl, ea, lkm _ _ _ _ _ (by decide +kernel), _, rfl, _, rfl, _, rfl, a, c, k, 0, 0, "halfup", _, _, _, rfl, da, h.bad sm⟩
theorem lok9 (T : ShapeC K mg S) (TD : DialC K mg D) (MD : DMk P w K mg base C D) (MU : DMeth P w K mg base D "uncut" 6 ["self", "word", "one", "other"] (spUnc C S D)) (MC : DMeth P w K mg base D "cut" 6 ["self", "shape"] (spCut C S D)) (MS : DMeth P w K mg base D "shape_of" 7 ["self", "word", "one", "other"] (spShOf C S D)) : LOk P w K mg base (L2.CX P w) 9 f (lamF X (lamArgs lx9) (lamScope lx9) c') (lamBody lx9) ["_law_wrong_here", "_law_cap", "_law_kept", "_law_low"] (sq9 C S D) := by
  refine lok_of (N := ["_law_wrong_here", "_law_cap", "_law_kept", "_law_low"]) (ps := []) nsL9 rfl (fun dV doc pm ctv s us hl hd => ?_) (fun A outer s H ws Q E hr hl h => ?_)
  · obtain rfl := List.length_eq_zero_iff.mp hl
    rcases hd with ⟨_, rfl⟩ | ⟨n, _⟩
    · exact .of_eq rfl
    · exact (n rfl).elim
  · obtain ⟨wr, ca, ke, lo, rfl, c, k, rfl, rfl, hc, hk, h⟩ := h
    obtain ⟨fU, fdU, mU, FU, bU⟩ := MU.ex
    refine ⟨_, (pe_meth (E := E) (pe_dial (C := C) (E := E) MD TD kb0 hr (by decide) (by rfl) (passes_call (takes_of rfl rfl rfl rfl) fun _ _ _ _ z => z) (pa_cons (pv 1) (pa_cons (pv 2) pa_nil)) pk_nil) TD.cls mU FU (hr.mono (by decide)) bU .nil (passes_call (takes_of rfl rfl rfl rfl) fun _ _ _ _ z => z) (pa_cons pe_str (pa_cons (pv 0) (pa_cons (pv 3) pa_nil)))), ?_⟩
    refine ⟨_, rfl, _, rfl, _, _, _, _, _, rfl, rfl, fun _ => rfl, dial_of (e := 0) (p := 0) (t := "halfup") hc hk (by decide) (by decide) fun a H' sm _ da => ?_⟩
    obtain ⟨dx, ea⟩ := id da
    exact ⟨a, dx, _, rfl, ea, lkm _ _ _ _ _ (by decide +kernel), _, rfl, _, rfl, a, c, k, 0, 0, "halfup", _, _, _, rfl, da, h.bad sm⟩
theorem lok10 (T : ShapeC K mg S) (TD : DialC K mg D) (MD : DMk P w K mg base C D) (MU : DMeth P w K mg base D "uncut" 6 ["self", "word", "one", "other"] (spUnc C S D)) (MC : DMeth P w K mg base D "cut" 6 ["self", "shape"] (spCut C S D)) (MS : DMeth P w K mg base D "shape_of" 7 ["self", "word", "one", "other"] (spShOf C S D)) : LOk P w K mg base (L2.CX P w) 9 f (lamF X (lamArgs lx10) (lamScope lx10) c') (lamBody lx10) ["_law_shape_here", "_law_cap", "_law_kept", "_law_low"] (sq10 C S D) := by
  refine lok_of (N := ["_law_shape_here", "_law_cap", "_law_kept", "_law_low"]) (ps := []) nsL10 rfl (fun dV doc pm ctv s us hl hd => ?_) (fun A outer s H ws Q E hr hl h => ?_)
  · obtain rfl := List.length_eq_zero_iff.mp hl
    rcases hd with ⟨_, rfl⟩ | ⟨n, _⟩
    · exact .of_eq rfl
    · exact (n rfl).elim
  · obtain ⟨sh, ca, ke, lo, rfl, c, k, rfl, rfl, hc, hk, h⟩ := h
    obtain ⟨fS, fdS, mS, FS, bS⟩ := MS.ex
    refine ⟨_, (pe_meth (E := E) (pe_dial (C := C) (E := E) MD TD kb0 hr (by decide) (by rfl) (passes_call (takes_of rfl rfl rfl rfl) fun _ _ _ _ z => z) (pa_cons (pv 1) (pa_cons (pv 2) pa_nil)) pk_nil) TD.cls mS FS (hr.mono (by decide)) bS .nil (passes_call (takes_of rfl rfl rfl rfl) fun _ _ _ _ z => z) (pa_cons pe_str (pa_cons (pv 0) (pa_cons (pv 3) pa_nil)))), ?_⟩
    refine ⟨_, rfl, _, rfl, _, _, _, _, _, rfl, rfl, fun _ => rfl, dial_of (e := 0) (p := 0) (t := "halfup") hc hk (by decide) (by decide) fun a H' sm _ da => ?_⟩
    obtain ⟨dx, ea⟩ := id da
    exact ⟨a, dx, _, rfl, ea, lkm _ _ _ _ _ (by decide +kernel), _, rfl, _, rfl, a, c, k, 0, 0, "halfup", _, _, _, rfl, da, hc, hk, h.bad sm⟩
theorem lok11 (T : ShapeC K mg S) (TD : DialC K mg D) (MD : DMk P w K mg base C D) (MU : DMeth P w K mg base D "uncut" 6 ["self", "word", "one", "other"] (spUnc C S D)) (MC : DMeth P w K mg base D "cut" 6 ["self", "shape"] (spCut C S D)) (MS : DMeth P w K mg base D "shape_of" 7 ["self", "word", "one", "other"] (spShOf C S D)) : LOk P w K mg base (L2.CX P w) 9 f (lamF X (lamArgs lx11) (lamScope lx11) c') (lamBody lx11) ["_law_shape_here", "_law_cap", "_law_kept", "_law_low", "_law_word"] (sq11 C S D) := by
  refine lok_of (N := ["_law_shape_here", "_law_cap", "_law_kept", "_law_low", "_law_word"]) (ps := []) nsL11 rfl (fun dV doc pm ctv s us hl hd => ?_) (fun A outer s H ws Q E hr hl h => ?_)
  · obtain rfl := List.length_eq_zero_iff.mp hl
    rcases hd with ⟨_, rfl⟩ | ⟨n, _⟩
    · exact .of_eq rfl
    · exact (n rfl).elim
  · obtain ⟨sh, ca, ke, lo, wd, rfl, c, k, rfl, rfl, hc, hk, h⟩ := h
    obtain ⟨fS, fdS, mS, FS, bS⟩ := MS.ex
    refine ⟨_, (pe_meth (E := E) (pe_dial (C := C) (E := E) MD TD kb0 hr (by decide) (by rfl) (passes_call (takes_of rfl rfl rfl rfl) fun _ _ _ _ z => z) (pa_cons (pv 1) (pa_cons (pv 2) pa_nil)) pk_nil) TD.cls mS FS (hr.mono (by decide)) bS .nil (passes_call (takes_of rfl rfl rfl rfl) fun _ _ _ _ z => z) (pa_cons (pv 4) (pa_cons (pv 0) (pa_cons (pv 3) pa_nil)))), ?_⟩
    refine ⟨_, rfl, _, rfl, _, _, _, _, _, rfl, rfl, fun _ => rfl, dial_of (e := 0) (p := 0) (t := "halfup") hc hk (by decide) (by decide) fun a H' sm _ da => ?_⟩
    obtain ⟨dx, ea⟩ := id da
    exact ⟨a, dx, _, rfl, ea, lkm _ _ _ _ _ (by decide +kernel), _, rfl, _, rfl, _, rfl, a, c, k, 0, 0, "halfup", _, _, _, rfl, da, hc, hk, h.bad sm⟩
theorem lok12 (T : ShapeC K mg S) (TD : DialC K mg D) (MD : DMk P w K mg base C D) (MU : DMeth P w K mg base D "uncut" 6 ["self", "word", "one", "other"] (spUnc C S D)) (MC : DMeth P w K mg base D "cut" 6 ["self", "shape"] (spCut C S D)) (MS : DMeth P w K mg base D "shape_of" 7 ["self", "word", "one", "other"] (spShOf C S D)) : LOk P w K mg base (L2.CX P w) 9 f (lamF X (lamArgs lx12) (lamScope lx12) c') (lamBody lx12) ["_law_wrong_here", "_law_cap", "_law_kept"] (sq12 C S D) := by
  refine lok_of (N := ["_law_wrong_here", "_law_cap", "_law_kept"]) (ps := []) nsL12 rfl (fun dV doc pm ctv s us hl hd => ?_) (fun A outer s H ws Q E hr hl h => ?_)
  · obtain rfl := List.length_eq_zero_iff.mp hl
    rcases hd with ⟨_, rfl⟩ | ⟨n, _⟩
    · exact .of_eq rfl
    · exact (n rfl).elim
  · obtain ⟨wr, ca, ke, rfl, c, k, rfl, rfl, hc, hk, th, b⟩ := h
    obtain ⟨fC, fdC, mC, FC, bC⟩ := MC.ex
    refine ⟨_, (pe_meth (E := E) (pe_dial (C := C) (E := E) MD TD kb0 hr (by decide) (by rfl) (passes_call (takes_of rfl rfl rfl rfl) fun _ _ _ _ z => z) (pa_cons (pv 1) (pa_cons (pv 2) pa_nil)) pk_nil) TD.cls mC FC (hr.mono (by decide)) bC .nil (passes_call (takes_of rfl rfl rfl rfl) fun _ _ _ _ z => z) (pa_cons (pv 0) pa_nil)), ?_⟩
    refine ⟨_, rfl, _, rfl, _, _, _, _, _, rfl, rfl, fun _ => rfl, dial_of (e := 0) (p := 0) (t := "halfup") hc hk (by decide) (by decide) fun a H' sm _ da => ?_⟩
    obtain ⟨dx, ea⟩ := id da
    exact ⟨a, dx, _, rfl, ea, lkm _ _ _ _ _ (by decide +kernel), _, rfl, a, c, k, 0, 0, "halfup", _, rfl, da, hc, hk, .inl ⟨th.same sm, b.same sm⟩⟩
/-- the twelve -/
inductive Elv where
  | l1 | l2 | l3 | l4 | l5 | l6 | l7 | l8 | l9 | l10 | l11 | l12
def nfN (X : Cx) : Elv → Addr → NF
  | .l1 => fun c' => lamF X (lamArgs lx1) (lamScope lx1) c'
  | .l2 => fun c' => lamF X (lamArgs lx2) (lamScope lx2) c'
  | .l3 => fun c' => lamF X (lamArgs lx3) (lamScope lx3) c'
  | .l4 => fun c' => lamF X (lamArgs lx4) (lamScope lx4) c'
  | .l5 => fun c' => lamF X (lamArgs lx5) (lamScope lx5) c'
  | .l6 => fun c' => lamF X (lamArgs lx6) (lamScope lx6) c'
  | .l7 => fun c' => lamF X (lamArgs lx7) (lamScope lx7) c'
  | .l8 => fun c' => lamF X (lamArgs lx8) (lamScope lx8) c'
  | .l9 => fun c' => lamF X (lamArgs lx9) (lamScope lx9) c'
  | .l10 => fun c' => lamF X (lamArgs lx10) (lamScope lx10) c'
  | .l11 => fun c' => lamF X (lamArgs lx11) (lamScope lx11) c'
  | .l12 => fun c' => lamF X (lamArgs lx12) (lamScope lx12) c'
def bN : Elv → Expr
  | .l1 => lamBody lx1
  | .l2 => lamBody lx2
  | .l3 => lamBody lx3
  | .l4 => lamBody lx4
  | .l5 => lamBody lx5
  | .l6 => lamBody lx6
  | .l7 => lamBody lx7
  | .l8 => lamBody lx8
  | .l9 => lamBody lx9
  | .l10 => lamBody lx10
  | .l11 => lamBody lx11
  | .l12 => lamBody lx12
def frN : Elv → List Str
  | .l1 => ["_law_low", "_law_odd", "_law_none"]
  | .l2 => ["_law_cap", "_law_high", "_law_odd"]
  | .l3 => ["_law_cap", "_law_low"]
  | .l4 => ["_law_wrong_here", "_law_cap", "_law_low"]
  | .l5 => ["_law_cap", "_law_kept", "_law_low", "_law_odd"]
  | .l6 => ["_law_cap", "_law_kept", "_law_low"]
  | .l7 => ["_law_wrong_here", "_law_cap", "_law_kept"]
  | .l8 => ["_law_wrong_here", "_law_cap", "_law_kept", "_law_low", "_law_word"]
  | .l9 => ["_law_wrong_here", "_law_cap", "_law_kept", "_law_low"]
  | .l10 => ["_law_shape_here", "_law_cap", "_law_kept", "_law_low"]
  | .l11 => ["_law_shape_here", "_law_cap", "_law_kept", "_law_low", "_law_word"]
  | .l12 => ["_law_wrong_here", "_law_cap", "_law_kept"]
def slN : Elv → List Nat
  | .l1 => [6, 8, 9]
  | .l2 => [4, 7, 8]
  | .l3 => [4, 6]
  | .l4 => [2, 4, 6]
  | .l5 => [4, 5, 6, 8]
  | .l6 => [4, 5, 6]
  | .l7 => [2, 4, 5]
  | .l8 => [2, 4, 5, 6, 10]
  | .l9 => [2, 4, 5, 6]
  | .l10 => [3, 4, 5, 6]
  | .l11 => [3, 4, 5, 6, 10]
  | .l12 => [2, 4, 5]
def sqN (C S D : Addr) : Elv → List (Option V) → Hp → VK → XK → Prop
  | .l1 => sq1 C S D
  | .l2 => sq2 C S D
  | .l3 => sq3 C S D
  | .l4 => sq4 C S D
  | .l5 => sq5 C S D
  | .l6 => sq6 C S D
  | .l7 => sq7 C S D
  | .l8 => sq8 C S D
  | .l9 => sq9 C S D
  | .l10 => sq10 C S D
  | .l11 => sq11 C S D
  | .l12 => sq12 C S D
def lamN (X : Cx) (C S D : Addr) (σ : L2.St) (i : Elv) : Lam := ⟨nfN X i, bN i, frN i, (slN i).map (slotAt σ), sqN C S D i⟩
theorem lokNs (T : ShapeC K mg S) (TD : DialC K mg D) (MD : DMk P w K mg base C D) (MU : DMeth P w K mg base D "uncut" 6 ["self", "word", "one", "other"] (spUnc C S D)) (MC : DMeth P w K mg base D "cut" 6 ["self", "shape"] (spCut C S D)) (MS : DMeth P w K mg base D "shape_of" 7 ["self", "word", "one", "other"] (spShOf C S D)) {σ : L2.St} (i : Elv) (f c' : Addr) :
    LOk P w K mg base (L2.CX P w) 9 f ((lamN X C S D σ i).nf c') (lamN X C S D σ i).b (lamN X C S D σ i).fr (lamN X C S D σ i).sp := by
  cases i
  · exact lok1 T TD MD MU MC MS
  · exact lok2 T TD MD MU MC MS
  · exact lok3 T TD MD MU MC MS
  · exact lok4 T TD MD MU MC MS
  · exact lok5 T TD MD MU MC MS
  · exact lok6 T TD MD MU MC MS
  · exact lok7 T TD MD MU MC MS
  · exact lok8 T TD MD MU MC MS
  · exact lok9 T TD MD MU MC MS
  · exact lok10 T TD MD MU MC MS
  · exact lok11 T TD MD MU MC MS
  · exact lok12 T TD MD MU MC MS
end
section
variable {P : Program} {w : World} {K : PySem.W.Frag} {mg : Str → Option Value} {base : Heap} {C : Addr}
theorem ld_refdH (A : At K mg "_law_refused" sRefd ["_law_deed", "_law_value"]) (T : ErrC P w K mg base "BadValue" "value" 1 C (spErr C "value")) (D : DefOk P w K mg base CX0 "_law_same" 1 ["_law_one", "_law_other"] spSame) : LamDefAt P w K mg base "_law_refused" 10 (spRefd C) := by
  obtain ⟨g, fd, F, gm, b⟩ := A.ex
  refine ⟨g, ⟨fun A outer s H us f vs FF bb fr ws spl kl Q hr hkl e0 r G hf hc CC q => ?_⟩, gm, F.kp⟩
  have KX : K.In s.heap := e0.mod.kin.keeps fun b o e => (e0.bs b o e).1
  obtain ⟨v, rfl, od, q1, q2⟩ := q
  have hb := b s us KX (by rw [List.append_nil, ← r.length]; rfl)
  rw [List.append_nil] at hb
  obtain ⟨oc, od', kV, doc, pm, an, cdv, ct, osl, rfl, lk, hcd⟩ := F.ex
  refine LamX.run_ofS (N := ["_law_deed", "_law_value", "_law_told", "e"]) lk hcd scRefd hr e0 hb r rfl fun hr' => ?_
  have nd := scRefd.nd
  refine ⟨_, pss_cons (ps_set (i := 2) nd rfl (.inl rfl) pe_non)
    (pss_cons (ps_try_as (i := 3) (c := .ref C) rfl rfl nd rfl rfl ⟨rfl, by decide, .inl T.g⟩ L2.takes0
        (fun W pn xe tk _ => pss_one (ps_expr (pe_deedS (i := 0) (E := WE W) CC rfl G (hr'.mono (by omega)) (fun σ => passAt tk σ) rfl (.inl rfl))))
        (fun a oe cls d pn hz hf => pss_one (ps_set (i := 2) nd rfl (.inl rfl) (pe_tup (pa_cons (pe_xf T.xf T.noV hz hf (pv 3)) pa_nil)))))
    (pss_one (ps_ret (pe_and (pe_cmpR op_notN (pv 2) pe_non (nomark _)) (pe_one (pe_def D hr' (by decide) (by rfl) pass0 (pa_cons (pe_ix ix_tup (pv 2) pe_int (fun _ _ => rfl)) (pa_cons (pv 1) pa_nil)))))))), ?_⟩
  refine ⟨rfl, hf, hc, q1 _ _ fun d H1 s1 nd1 e1 => ⟨true, T.te, fun _ a na => ?_, fun z => nomatch z⟩⟩
  refine ⟨_, rfl, rfl, rfl, d, _, v, rfl, e1, by simp [List.lookup], by show 1 ≤ sizeLine; decide, fun p np => ?_⟩
  refine ⟨_, rfl, rfl, _, rfl, iteT ?_⟩
  have s2 : Same H1 (upd H1 p (.tup [v])) := same_new np
  refine ⟨_, rfl, p, [v], 0, v, rfl, rfl, SqT.of upd_same, rfl, v, rfl, .inr ⟨v, rfl, (od.same s1).same s2, ?_⟩⟩
  exact q2 _ (s1.trans s2)
end
end K10

/-! k10: refusals. -/
namespace K10
open PySem PySem.Spec PyProof.Rows L2 LamX NdefX Own
def qL : Str := (envOfC "_law_refusals" (defScope sRefs) 0 0 .none).qual ++ "<lambda>"
abbrev nRefs : List Str := ["_law_pen", "_law_told", "_law_wrong_here", "_law_shape_here", "_law_cap", "_law_kept", "_law_low", "_law_high", "_law_odd", "_law_none", "_law_word", "_law_rows", "_law_row"]
theorem scRefs : FnScope nRefs ["_law_pen", "_law_told"] (defScope sRefs) := ⟨rfl, rfl, rfl, by decide +kernel, rfl, by decide +kernel, by decide +kernel⟩
theorem fr1 : ∀ y ∈ (lamScope lx1).names, y.2 = .free → (defScope sRefs).names.lookup y.1 = some .cell ∨ (defScope sRefs).names.lookup y.1 = some .free := by decide +kernel
theorem in1 : ∀ y ∈ (["_law_low", "_law_odd", "_law_none"] : List Str), (y, NameKind.free) ∈ (lamScope lx1).names := by decide +kernel
theorem fr2 : ∀ y ∈ (lamScope lx2).names, y.2 = .free → (defScope sRefs).names.lookup y.1 = some .cell ∨ (defScope sRefs).names.lookup y.1 = some .free := by decide +kernel
theorem in2 : ∀ y ∈ (["_law_cap", "_law_high", "_law_odd"] : List Str), (y, NameKind.free) ∈ (lamScope lx2).names := by decide +kernel
theorem fr3 : ∀ y ∈ (lamScope lx3).names, y.2 = .free → (defScope sRefs).names.lookup y.1 = some .cell ∨ (defScope sRefs).names.lookup y.1 = some .free := by decide +kernel
theorem in3 : ∀ y ∈ (["_law_cap", "_law_low"] : List Str), (y, NameKind.free) ∈ (lamScope lx3).names := by decide +kernel
theorem fr4 : ∀ y ∈ (lamScope lx4).names, y.2 = .free → (defScope sRefs).names.lookup y.1 = some .cell ∨ (defScope sRefs).names.lookup y.1 = some .free := by decide +kernel
theorem in4 : ∀ y ∈ (["_law_wrong_here", "_law_cap", "_law_low"] : List Str), (y, NameKind.free) ∈ (lamScope lx4).names := by decide +kernel
theorem fr5 : ∀ y ∈ (lamScope lx5).names, y.2 = .free → (defScope sRefs).names.lookup y.1 = some .cell ∨ (defScope sRefs).names.lookup y.1 = some .free := by decide +kernel
theorem in5 : ∀ y ∈ (["_law_cap", "_law_kept", "_law_low", "_law_odd"] : List Str), (y, NameKind.free) ∈ (lamScope lx5).names := by decide +kernel
theorem fr6 : ∀ y ∈ (lamScope lx6).names, y.2 = .free → (defScope sRefs).names.lookup y.1 = some .cell ∨ (defScope sRefs).names.lookup y.1 = some .free := by decide +kernel
theorem in6 : ∀ y ∈ (["_law_cap", "_law_kept", "_law_low"] : List Str), (y, NameKind.free) ∈ (lamScope lx6).names := by decide +kernel
theorem fr7 : ∀ y ∈ (lamScope lx7).names, y.2 = .free → (defScope sRefs).names.lookup y.1 = some .cell ∨ (defScope sRefs).names.lookup y.1 = some .free := by decide +kernel
theorem in7 : ∀ y ∈ (["_law_wrong_here", "_law_cap", "_law_kept"] : List Str), (y, NameKind.free) ∈ (lamScope lx7).names := by decide +kernel
theorem fr8 : ∀ y ∈ (lamScope lx8).names, y.2 = .free → (defScope sRefs).names.lookup y.1 = some .cell ∨ (defScope sRefs).names.lookup y.1 = some .free := by decide +kernel
theorem in8 : ∀ y ∈ (["_law_wrong_here", "_law_cap", "_law_kept", "_law_low", "_law_word"] : List Str), (y, NameKind.free) ∈ (lamScope lx8).names := by decide +kernel
theorem fr9 : ∀ y ∈ (lamScope lx9).names, y.2 = .free → (defScope sRefs).names.lookup y.1 = some .cell ∨ (defScope sRefs).names.lookup y.1 = some .free := by decide +kernel
theorem in9 : ∀ y ∈ (["_law_wrong_here", "_law_cap", "_law_kept", "_law_low"] : List Str), (y, NameKind.free) ∈ (lamScope lx9).names := by decide +kernel
theorem fr10 : ∀ y ∈ (lamScope lx10).names, y.2 = .free → (defScope sRefs).names.lookup y.1 = some .cell ∨ (defScope sRefs).names.lookup y.1 = some .free := by decide +kernel
theorem in10 : ∀ y ∈ (["_law_shape_here", "_law_cap", "_law_kept", "_law_low"] : List Str), (y, NameKind.free) ∈ (lamScope lx10).names := by decide +kernel
theorem fr11 : ∀ y ∈ (lamScope lx11).names, y.2 = .free → (defScope sRefs).names.lookup y.1 = some .cell ∨ (defScope sRefs).names.lookup y.1 = some .free := by decide +kernel
theorem in11 : ∀ y ∈ (["_law_shape_here", "_law_cap", "_law_kept", "_law_low", "_law_word"] : List Str), (y, NameKind.free) ∈ (lamScope lx11).names := by decide +kernel
theorem fr12 : ∀ y ∈ (lamScope lx12).names, y.2 = .free → (defScope sRefs).names.lookup y.1 = some .cell ∨ (defScope sRefs).names.lookup y.1 = some .free := by decide +kernel
theorem in12 : ∀ y ∈ (["_law_wrong_here", "_law_cap", "_law_kept"] : List Str), (y, NameKind.free) ∈ (lamScope lx12).names := by decide +kernel
theorem blkF : BlkOk nRefs (defScope sRefs) (lcScope (retArg (bRefs 18))) [("_law_row", 12)] := blkOk_by (by decide +kernel)
/-- which value is refused -/
def due (nn wr od wd : V) (lo hi : Int) : Elv → V
  | .l1 => nn
  | .l2 => .int hi
  | .l3 => .int lo
  | .l4 => wr
  | .l5 => od
  | .l6 => .int lo
  | .l7 => wr
  | .l8 => wd
  | .l9 => wr
  | .l10 => .int lo
  | .l11 => wd
  | .l12 => wr
section
variable {P : Program} {w : World} {K : PySem.W.Frag} {mg : Str → Option Value} {base : Heap} {C CN S D : Addr}
theorem shape_lit {σ : L2.St} {H : Hp} {Q : VK} {E : XK} (q : ∀ (a : Addr) (H' : Hp), Same H H' → H a = none → SAt S H' a 1 1 → Q (.ref a) H') : tCall (spShape C CN S) [] E (tCons (tC (.int 1)) (tCons (tC (.int 1)) tNil)) σ H Q :=
  shape_of (C := C) (CN := CN) (S := S) (u := 1) (s := 1) (by decide) q
theorem wrong_way {H : Hp} {x : V} (h : Wrong H x) : isWay x = false := by
  cases x with
  | str z =>
    rcases h.nt z rfl with rfl | rfl | rfl <;> decide
  | _ => rfl
theorem wrong_wh {x : V} (nx : Own.isInt x = false) : isWh x = false := by
  cases x <;> first | rfl | (simp [Own.isInt] at nx)
theorem wrong_m {x : V} {n : Nat} (nx : Own.isInt x = false) : okM n x = false := by
  cases x <;> first | rfl | (simp [Own.isInt] at nx)
theorem wrong_c {x : V} (nx : Own.isInt x = false) : okC x = false := by
  cases x <;> first | rfl | (simp [Own.isInt] at nx)
theorem wrong_op {H : Hp} {x : V} (h : Wrong H x) : isOp x = false := by
  cases x with
  | str z =>
    rcases h.nt z rfl with rfl | rfl | rfl <;> decide
  | _ => rfl
/-- each row's value is the one that is refused -/
theorem toldN {X : Cx} {dp lp rw nn wr od wd : V} {sh dx : Addr} {lo hi : Int} {c k : Nat} {y : Option V} (hlo : lo < 0) (hhi : (c : Int) < hi) (hod : okM 1 od = false) (hnn : okC nn = false) (hwd : isOp wd = false) (nw : Own.isInt wr = false) (gw : isWay wr = false) (hc : 0 < c) (hk : k ≤ c)
    (H : Hp) (i : Elv) (os : Odds H [nn, wr, od, wd]) (fs : Firm H [(sh, .ins S dx [("whole", .int ((1 : Nat) : Int)), ("scale", .int ((1 : Nat) : Int))])]) : Odd H (due nn wr od wd lo hi i) ∧ ∀ (Q' : VK) (E' : XK), Bad C "value" (due nn wr od wd lo hi i) H E' →
    (lamN X C S D [some dp, some lp, some wr, some (.ref sh), some (.int c), some (.int k), some (.int lo), some (.int hi), some od, some nn, some wd, some rw, y] i).sp (lamN X C S D [some dp, some lp, some wr, some (.ref sh), some (.int c), some (.int k), some (.int lo), some (.int hi), some od, some nn, some wd, some rw, y] i).ws H Q' E' := by
  have on : Odd H nn := os nn (by simp)
  have ow : Odd H wr := os wr (by simp)
  have oo : Odd H od := os od (by simp)
  have od' : Odd H wd := os wd (by simp)
  have ws : SAt S H sh 1 1 := ⟨dx, (fs _ (List.mem_singleton.mpr rfl)).1⟩
  have glo : okM c (.int lo) = false := by
    show (decide (0 ≤ lo) && decide (lo ≤ (c : Int))) = false
    rw [decide_eq_false (show ¬ 0 ≤ lo by omega)]
    rfl
  have ghi : okM c (.int hi) = false := by
    show (decide (0 ≤ hi) && decide (hi ≤ (c : Int))) = false
    rw [decide_eq_false (show ¬ hi ≤ (c : Int) by omega), Bool.and_false]
  have wlo : isWh (.int lo) = false := decide_eq_false (by omega)
  cases i
  · exact ⟨on, fun Q' E' bad => ⟨.int lo, od, nn, rfl, .inl ⟨on.thing, hnn, bad⟩⟩⟩
  · exact ⟨.flat rfl, fun Q' E' bad => ⟨.int c, .int hi, od, rfl, .inr ⟨c, rfl, hc, .inl ⟨.int _, ghi, bad⟩⟩⟩⟩
  · exact ⟨.flat rfl, fun Q' E' bad => ⟨.int c, .int lo, rfl, .inr ⟨c, rfl, hc, .inl ⟨.int _, glo, bad⟩⟩⟩⟩
  · exact ⟨ow, fun Q' E' bad => ⟨wr, .int c, .int lo, rfl, .inr ⟨c, rfl, hc, .inl ⟨ow.thing, wrong_m nw, bad⟩⟩⟩⟩
  · exact ⟨oo, fun Q' E' bad => ⟨.int c, .int k, .int lo, od, rfl, .inr ⟨c, rfl, hc, .inr ⟨k, rfl, hk, .inl ⟨oo.thing, hod, bad⟩⟩⟩⟩⟩
  · exact ⟨.flat rfl, fun Q' E' bad => ⟨.int c, .int k, .int lo, rfl, .inr ⟨c, rfl, hc, .inr ⟨k, rfl, hk, .inr ⟨0, rfl, by decide, .inl ⟨.int _, wlo, bad⟩⟩⟩⟩⟩⟩
  · exact ⟨ow, fun Q' E' bad => ⟨wr, .int c, .int k, rfl, .inr ⟨c, rfl, hc, .inr ⟨k, rfl, hk, .inr ⟨0, rfl, by decide, .inr ⟨0, rfl, .inl ⟨ow.thing, gw, bad⟩⟩⟩⟩⟩⟩⟩
  · exact ⟨od', fun Q' E' bad => ⟨wr, .int c, .int k, .int lo, wd, rfl, c, k, rfl, rfl, hc, hk, .inl ⟨od'.thing, hwd, bad⟩⟩⟩
  · exact ⟨ow, fun Q' E' bad => ⟨wr, .int c, .int k, .int lo, rfl, c, k, rfl, rfl, hc, hk, .inr ⟨"product", by decide +kernel, rfl, .inl ⟨ow.thing, bad⟩⟩⟩⟩
  · exact ⟨.flat rfl, fun Q' E' bad => ⟨.ref sh, .int c, .int k, .int lo, rfl, c, k, rfl, rfl, hc, hk, .inr ⟨"sum", by decide +kernel, rfl, .inr ⟨sh, 1, 1, rfl, ws, by decide, .inl ⟨.int _, bad⟩⟩⟩⟩⟩
  · exact ⟨od', fun Q' E' bad => ⟨.ref sh, .int c, .int k, .int lo, wd, rfl, c, k, rfl, rfl, hc, hk, .inl ⟨od'.thing, hwd, bad⟩⟩⟩
  · exact ⟨ow, fun Q' E' bad => ⟨wr, .int c, .int k, rfl, c, k, rfl, rfl, hc, hk, ow.thing, bad⟩⟩
def spRefs (Pt : Addr) : Sp := fun vs H Q _ => ∃ (d l : Addr) (c k e p : Nat) (t : Str) (B : Int), vs = [.ref d, .ref l] ∧ Told H l c k e p t ∧ l ≠ d ∧ Pen H d B ∧ B ≤ 100000000 ∧ 0 < c ∧ k ≤ c ∧ Tabs [(Pt, qL)] H ∧ ∀ H', Q (.bl true) H'
theorem ok_refs {c0 Pt : Addr} (A : AtC K mg "_law_refusals" sRefs ["_law_pen", "_law_told"] c0) (TB : TabB base mg c0 Pt) (B : Blt mg) (D1 : DefOk P w K mg base CX0 "_law_draw" 1 ["_law_pen", "_law_span"] spDraw) (D2 : DefOk P w K mg base CX0 "_law_pick" 2 ["_law_pen", "_law_some"] spPick)
    (D3 : DefOk P w K mg base CX0 "_law_wrong" 3 ["_law_pen"] spWrong) (M : SMk P w K mg base C CN S) (T : ShapeC K mg S) (TD : DialC K mg D) (MD : DMk P w K mg base C D) (MU : DMeth P w K mg base D "uncut" 6 ["self", "word", "one", "other"] (spUnc C S D)) (MC : DMeth P w K mg base D "cut" 6 ["self", "shape"] (spCut C S D)) (MS : DMeth P w K mg base D "shape_of" 7 ["self", "word", "one", "other"] (spShOf C S D)) (D6 : LamDefAt P w K mg base "_law_refused" 10 (spRefd C)) :
    DefOk P w K mg base CX0 "_law_refusals" 11 ["_law_pen", "_law_told"] (spRefs Pt) := by
  obtain ⟨g, oc, od0, kV, doc, pm, an, ct, osl, lk, hcd, gm, kp, bd⟩ := A.ex
  refine ⟨g, _, fn_of lk hcd scRefs (fun vs H Q E h => ?_) (fun A outer s H vs Q E hr h => ?_), gm, kp, bd⟩
  · obtain ⟨d, l, c, k, e, p, t, B, rfl, _⟩ := h
    rfl
  · obtain ⟨d, l, c, k, e, p, t, B0, rfl, tl, nl, hp, hB, hc, hk, hT, q⟩ := h
    have nd := scRefs.nd
    have hm : (Pt, qL) ∈ [(Pt, qL)] := List.mem_singleton.mpr rfl
    have hu : ∀ p ∈ [(Pt, qL)], p.1 = Pt → p.2 = qL := fun p hp _ => by rw [List.mem_singleton.mp hp]
    refine ⟨_, pss_cons (ps_asg (pe_tup (pa_cons (pe_def D3 hr (by decide) (by rfl) pass0 (pa_cons (pv 0) pa_nil)) (pa_cons (pe_shape (C := C) (CN := CN) (E := E0) M T hr (by decide) (by rfl) passL (pa_cons pe_int (pa_cons pe_int pa_nil))) pa_nil))) (pg_tup rfl (pgs_cons (pg_name (i := 2) nd rfl (.inr rfl)) (pgs_cons (pg_name (i := 3) nd rfl (.inr rfl)) pgs_nil))))
      (pss_cons (ps_asg (pe_tup (pa_cons (pe_ix ix_list (pv 1) pe_int (fun _ _ => rfl)) (pa_cons (pe_ix ix_list (pv 1) pe_int (fun _ _ => rfl)) pa_nil))) (pg_tup rfl (pgs_cons (pg_name (i := 4) nd rfl (.inr rfl)) (pgs_cons (pg_name (i := 5) nd rfl (.inr rfl)) pgs_nil))))
      (pss_cons (ps_asg (pe_tup (pa_cons (pe_op op_sub (pe_un un_neg pe_int) (pe_def D1 hr (by decide) (by rfl) pass0 (pa_cons (pv 0) (pa_cons pe_int pa_nil)))) (pa_cons (pe_op op_add (pe_op op_add (pv 4) pe_int) (pe_def D1 hr (by decide) (by rfl) pass0 (pa_cons (pv 0) (pa_cons pe_int pa_nil)))) pa_nil))) (pg_tup rfl (pgs_cons (pg_name (i := 6) nd rfl (.inr rfl)) (pgs_cons (pg_name (i := 7) nd rfl (.inr rfl)) pgs_nil))))
      (pss_cons (ps_set (i := 8) nd rfl (.inr rfl) (pe_def D2 hr (by decide) (by rfl) pass0 (pa_cons (pv 0) (pa_cons (pe_lst (pa_cons pe_int (pa_cons (pe_un un_neg pe_int) (pa_cons pe_non (pa_cons pe_bl (pa_cons pe_int pa_nil)))))) pa_nil))))
      (pss_cons (ps_set (i := 9) nd rfl (.inr rfl) (pe_def D2 hr (by decide) (by rfl) pass0 (pa_cons (pv 0) (pa_cons (pe_lst (pa_cons pe_int (pa_cons (pv 6) (pa_cons (pv 2) pa_nil)))) pa_nil))))
      (pss_cons (ps_set (i := 10) nd rfl (.inr rfl) (pe_def D2 hr (by decide) (by rfl) pass0 (pa_cons (pv 0) (pa_cons (pe_lst (pa_cons pe_non (pa_cons pe_str (pa_cons pe_str (pa_cons pe_str (pa_cons pe_str (pa_cons pe_int (pa_cons (pe_tup (pa_cons pe_str pa_nil)) (pa_cons pe_str pa_nil))))))))) pa_nil))))
      (pss_cons (ps_set (i := 11) nd rfl (.inl rfl) (pe_lst (pa_cons (pe_tup (pa_cons (pe_lamV TB rfl hm hu rfl rfl fr1) (pa_cons (pv 9) pa_nil))) pa_nil)))
      (pss_cons (ps_expr (pe_bm PySem.F.plainAttrs_list PySem.F.slot_list_append PySem.F.type_list_append mt_append (pv 11) (pa_cons (pe_tup (pa_cons (pe_lamV TB rfl hm hu rfl rfl fr2) (pa_cons (pv 7) pa_nil))) pa_nil)))
      (pss_cons (ps_expr (pe_bm PySem.F.plainAttrs_list PySem.F.slot_list_append PySem.F.type_list_append mt_append (pv 11) (pa_cons (pe_tup (pa_cons (pe_lamV TB rfl hm hu rfl rfl fr3) (pa_cons (pv 6) pa_nil))) pa_nil)))
      (pss_cons (ps_expr (pe_bm PySem.F.plainAttrs_list PySem.F.slot_list_append PySem.F.type_list_append mt_append (pv 11) (pa_cons (pe_tup (pa_cons (pe_lamV TB rfl hm hu rfl rfl fr4) (pa_cons (pv 2) pa_nil))) pa_nil)))
      (pss_cons (ps_expr (pe_bm PySem.F.plainAttrs_list PySem.F.slot_list_append PySem.F.type_list_append mt_append (pv 11) (pa_cons (pe_tup (pa_cons (pe_lamV TB rfl hm hu rfl rfl fr5) (pa_cons (pv 8) pa_nil))) pa_nil)))
      (pss_cons (ps_expr (pe_bm PySem.F.plainAttrs_list PySem.F.slot_list_append PySem.F.type_list_append mt_append (pv 11) (pa_cons (pe_tup (pa_cons (pe_lamV TB rfl hm hu rfl rfl fr6) (pa_cons (pv 6) pa_nil))) pa_nil)))
      (pss_cons (ps_expr (pe_bm PySem.F.plainAttrs_list PySem.F.slot_list_append PySem.F.type_list_append mt_append (pv 11) (pa_cons (pe_tup (pa_cons (pe_lamV TB rfl hm hu rfl rfl fr7) (pa_cons (pv 2) pa_nil))) pa_nil)))
      (pss_cons (ps_expr (pe_bm PySem.F.plainAttrs_list PySem.F.slot_list_append PySem.F.type_list_append mt_append (pv 11) (pa_cons (pe_tup (pa_cons (pe_lamV TB rfl hm hu rfl rfl fr8) (pa_cons (pv 10) pa_nil))) pa_nil)))
      (pss_cons (ps_expr (pe_bm PySem.F.plainAttrs_list PySem.F.slot_list_append PySem.F.type_list_append mt_append (pv 11) (pa_cons (pe_tup (pa_cons (pe_lamV TB rfl hm hu rfl rfl fr9) (pa_cons (pv 2) pa_nil))) pa_nil)))
      (pss_cons (ps_expr (pe_bm PySem.F.plainAttrs_list PySem.F.slot_list_append PySem.F.type_list_append mt_append (pv 11) (pa_cons (pe_tup (pa_cons (pe_lamV TB rfl hm hu rfl rfl fr10) (pa_cons (pv 6) pa_nil))) pa_nil)))
      (pss_cons (ps_expr (pe_bm PySem.F.plainAttrs_list PySem.F.slot_list_append PySem.F.type_list_append mt_append (pv 11) (pa_cons (pe_tup (pa_cons (pe_lamV TB rfl hm hu rfl rfl fr11) (pa_cons (pv 10) pa_nil))) pa_nil)))
      (pss_cons (ps_expr (pe_bm PySem.F.plainAttrs_list PySem.F.slot_list_append PySem.F.type_list_append mt_append (pv 11) (pa_cons (pe_tup (pa_cons (pe_lamV TB rfl hm hu rfl rfl fr12) (pa_cons (pv 2) pa_nil))) pa_nil)))
      (pss_one (ps_ret (pe_callB (cr_all rfl) (by rfl) B.all PyProof.Rows.boot_all (pa_cons (pe_lcD (own := [("_law_row", 12)]) (te := fun σ => tLamCall (lamN (cxOf CX0 P w K mg base nRefs "_law_refusals" (defScope sRefs) g (.ref c0) A outer s H E) C S D σ) (spRefd C) (tCons (tOp (rIxT K) (tVar 12) (tC (.int 0))) (tCons (tOp (rIxT K) (tVar 12) (tC (.int 1))) tNil))) rfl nd (pi_list (pv 11)) blkF (fun _ _ _ _ _ => pg_name (i := 12) nd rfl (.inl rfl))
        (fun pins σ s' H' Cc cl fp I hfp => pe_lamcall (L := lamN _ C S D σ) D6 (show 9 < 10 by decide) hr (by decide) (lokNs T TD MD MU MC MS) (fun i c' => ?_) (fun i c' b => ?_) (by rfl)
          (pa_cons (pe_ix ix_tup (pv 12) pe_int (fun _ _ => rfl)) (pa_cons (pe_ix ix_tup (pv 12) pe_int (fun _ _ => rfl)) pa_nil)))) pa_nil))))))))))))))))))))), ?_⟩
    · cases i
      · exact cells_blk I fr1 in1 rfl
      · exact cells_blk I fr2 in2 rfl
      · exact cells_blk I fr3 in3 rfl
      · exact cells_blk I fr4 in4 rfl
      · exact cells_blk I fr5 in5 rfl
      · exact cells_blk I fr6 in6 rfl
      · exact cells_blk I fr7 in7 rfl
      · exact cells_blk I fr8 in8 rfl
      · exact cells_blk I fr9 in9 rfl
      · exact cells_blk I fr10 in10 rfl
      · exact cells_blk I fr11 in11 rfl
      · exact cells_blk I fr12 in12 rfl
    · cases i
      · exact cells_fp I fr1 hfp b
      · exact cells_fp I fr2 hfp b
      · exact cells_fp I fr3 hfp b
      · exact cells_fp I fr4 hfp b
      · exact cells_fp I fr5 hfp b
      · exact cells_fp I fr6 hfp b
      · exact cells_fp I fr7 hfp b
      · exact cells_fp I fr8 hfp b
      · exact cells_fp I fr9 hfp b
      · exact cells_fp I fr10 hfp b
      · exact cells_fp I fr11 hfp b
      · exact cells_fp I fr12 hfp b
    · refine ⟨_, rfl, d, B0, rfl, hp, by omega, fun wr H2 wx k2 p2 => ?_⟩
      have tl2 := k2 _ _ nl tl
      have T2 := tabs_keep hT hp k2
      refine shape_lit (C := C) (CN := CN) (S := S) (E := E0) fun sh H3 s3 n3 w3 => ?_
      refine ⟨by show 2 ≤ sizeLine; decide, fun pt np => ?_⟩
      have s4 := s3.trans (same_new (o := HO.tup [wr, .ref sh]) np)
      have w4 := w3.same (same_new (o := HO.tup [wr, .ref sh]) np)
      refine ⟨pt, _, rfl, SqT.of upd_same, rfl, _, _, rfl, _, _, rfl, rfl, ?_⟩
      generalize upd H3 pt (.tup [wr, .ref sh]) = H4 at s4 w4 ⊢
      have wx4 := wx.same s4
      have tl4 := s4 _ _ tl2
      have T4 := T2.ext s4
      have p4 := p2.same s4
      dsimp only [gName, List.set]
      clear s3 n3 w3 np s4 T2 p2 tl2
      refine ⟨_, rfl, l, _, 0, _, rfl, rfl, SqL.of tl4, rfl, _, rfl, l, _, 1, _, rfl, rfl, SqL.of tl4, rfl, by show 2 ≤ sizeLine; decide, fun pt np => ?_⟩
      have s5 := same_new (o := HO.tup [.int c, .int k]) np
      refine ⟨pt, _, rfl, SqT.of upd_same, rfl, _, _, rfl, _, _, rfl, rfl, ?_⟩
      generalize upd H4 pt (.tup [.int c, .int k]) = H5 at s5 ⊢
      have wx5 := wx4.same s5
      have T5 := T4.ext s5
      have p5 := p4.same s5
      have w5 := w4.same s5
      dsimp only [gName, List.set]
      clear wx wx4 tl4 T4 p4 w4 np s5
      refine ⟨_, rfl, _, rfl, d, 9, _, rfl, p5, by omega, by decide, by decide, fun v1 H6 b1 b2 k6 p6 => ⟨_, _, rfl, rfl, ?_⟩⟩
      refine ⟨_, rfl, _, _, rfl, rfl, _, rfl, d, 9, _, rfl, p6, by omega, by decide, by decide, fun v2 H7 b3 b4 k7 p7 => ⟨_, _, rfl, rfl, by show 2 ≤ sizeLine; decide, fun pt np => ?_⟩⟩
      have wo7 : Odds H7 [wr] := ((Odds.nil.cons wx5.od).keep p5 k6).keep p6 k7
      obtain ⟨dsh, esh⟩ := w5
      obtain ⟨pp, ns, cc, ll, ed, _⟩ := id p5.ex
      have nsh : sh ≠ d := ne_of esh ed (by intro y; cases y)
      have esh7 := k7 _ _ nsh (k6 _ _ nsh esh)
      have T7 := tabs_keep (tabs_keep T5 p5 k6) p6 k7
      have hlo : -1 - v1 < 0 := by omega
      have hhi : (c : Int) < (c : Int) + 1 + v2 := by omega
      refine ⟨pt, _, rfl, SqT.of upd_same, rfl, _, _, rfl, _, _, rfl, rfl, ?_⟩
      have s8 := same_new (o := HO.tup [.int (-1 - v1), .int ((c : Int) + 1 + v2)]) np
      dsimp only [gName, List.set]
      generalize upd H7 pt (.tup [.int (-1 - v1), .int ((c : Int) + 1 + v2)]) = H8 at s8 ⊢
      generalize -1 - v1 = lo at hlo ⊢
      generalize (c : Int) + 1 + v2 = hi at hhi ⊢
      have wo8 := wo7.same s8
      have esh8 := s8 _ _ esh7
      have T8 := T7.ext s8
      have p8 := p7.same s8
      have nw := wx5.ni
      have gw := wrong_way wx5
      have go := wrong_op wx5
      clear s8 esh7 T7 p7 wo7 np T5 p5 p6 k6 k7 esh ed wx5
      -- odd
      refine ⟨_, rfl, _, rfl, by show 5 ≤ sizeLine; decide, fun g1 ng1 => ?_⟩
      have s9 := same_new (o := HO.lst [.int 2, .int (-1), .non, .bl true, .int 5]) ng1
      refine ⟨d, g1, _, _, rfl, upd_same, by simp, by show 5 ≤ 1000; decide, p8.same s9, by omega, fun od H10 hod k10 p10 => ?_⟩
      have hod : okM 1 od = false ∧ okF od = true := by
        simp only [List.mem_cons, List.not_mem_nil, or_false] at hod
        rcases hod with rfl | rfl | rfl | rfl | rfl <;> exact ⟨rfl, rfl⟩
      obtain ⟨hod, fod⟩ := hod
      have wo10 := (wo8.same s9).keep (p8.same s9) k10
      have esh10 := k10 _ _ nsh (s9 _ _ esh8)
      have T10 := tabs_keep (T8.ext s9) (p8.same s9) k10
      dsimp only [gName, List.set]
      clear s9 p8 k10 T8 wo8 esh8 ng1
      -- none
      refine ⟨_, rfl, _, rfl, _, rfl, by show 3 ≤ sizeLine; decide, fun g1 ng1 => ?_⟩
      have s11 := same_new (o := HO.lst [.int 0, .int lo, wr]) ng1
      refine ⟨d, g1, _, _, rfl, upd_same, by simp, by show 3 ≤ 1000; decide, p10.same s11, by omega, fun nn H12 hnn k12 p12 => ?_⟩
      have wo12 := (wo10.same s11).keep (p10.same s11) k12
      have hnn : okC nn = false ∧ Odd H12 nn := by
        simp only [List.mem_cons, List.not_mem_nil, or_false] at hnn
        rcases hnn with rfl | rfl | rfl
        · exact ⟨rfl, .flat rfl⟩
        · exact ⟨decide_eq_false (by omega), .flat rfl⟩
        · exact ⟨wrong_c nw, wo12 _ (by simp)⟩
      obtain ⟨hnn, on12⟩ := hnn
      have esh12 := k12 _ _ nsh (s11 _ _ esh10)
      have T12 := tabs_keep (T10.ext s11) (p10.same s11) k12
      have os12 : Odds H12 [nn, wr, od] := fun x hx => by
        have z := wo12.cons on12
        simp only [List.mem_cons, List.not_mem_nil, or_false] at hx
        rcases hx with rfl | rfl | rfl
        · exact z _ (by simp)
        · exact z _ (by simp)
        · exact .flat fod
      dsimp only [gName, List.set]
      clear s11 p10 k12 T10 wo10 esh10 ng1 wo12 on12
      -- word
      refine ⟨_, rfl, by show 1 ≤ sizeLine; decide, fun r1 m1 => ⟨by show 8 ≤ sizeLine; decide, fun g1 ng1 => ?_⟩⟩
      have s13 := same_new (o := HO.tup [.str "sum"]) m1
      have s14 := same_new (o := HO.lst [.non, .str "", .str "Sum", .str "column", .str "plus", .int 3, .ref r1, .str "round"]) ng1
      have er1 := s14 _ _ (upd_same (H := H12) (a := r1) (o := .tup [.str "sum"]))
      have s15 := s13.trans s14
      refine ⟨d, g1, _, _, rfl, upd_same, by simp, by show 8 ≤ 1000; decide, p12.same s15, by omega, fun wd H16 hwd k16 p16 => ?_⟩
      obtain ⟨pp, ns, cc, ll, ed, _⟩ := id (p12.same s15).ex
      have er1 := k16 _ _ (ne_of er1 ed (by intro y; cases y)) er1
      have hwd : isOp wd = false ∧ Odd H16 wd := by
        simp only [List.mem_cons, List.not_mem_nil, or_false] at hwd
        rcases hwd with rfl | rfl | rfl | rfl | rfl | rfl | rfl | rfl
        · exact ⟨rfl, .flat rfl⟩
        · exact ⟨by decide +kernel, .flat (by decide +kernel)⟩
        · exact ⟨by decide +kernel, .flat (by decide +kernel)⟩
        · exact ⟨by decide +kernel, .flat (by decide +kernel)⟩
        · exact ⟨by decide +kernel, .flat (by decide +kernel)⟩
        · exact ⟨rfl, .flat rfl⟩
        · exact ⟨rfl, .tup er1 (by decide +kernel)⟩
        · exact ⟨by decide +kernel, .flat (by decide +kernel)⟩
      obtain ⟨hwd, ow16⟩ := hwd
      have esh16 := k16 _ _ nsh (s15 _ _ esh12)
      have T16 := tabs_keep (T12.ext s15) (p12.same s15) k16
      have os16 : Odds H16 [nn, wr, od, wd] := fun x hx => by
        have z := (os12.same s15).keep (p12.same s15) k16
        simp only [List.mem_cons, List.not_mem_nil, or_false] at hx
        rcases hx with rfl | rfl | rfl | rfl
        · exact z _ (by simp)
        · exact z _ (by simp)
        · exact z _ (by simp)
        · exact ow16
      have fs16 : Firm H16 [(sh, .ins S dsh [("whole", .int ((1 : Nat) : Int)), ("scale", .int ((1 : Nat) : Int))])] := fun p hp => by
        rw [List.mem_singleton.mp hp]
        exact ⟨esh16, fun _ z => (by cases z), fun _ z => (by cases z)⟩
      dsimp only [gName, List.set]
      clear s13 s14 s15 p12 k16 T12 esh12 ng1 m1 os12 er1 ed ow16 esh16
      -- the rows
      refine ⟨T16, fun a1 c1 H6 x6 T6 _ l1 d1 => ⟨_, rfl, by show 2 ≤ sizeLine; decide, fun q1 m1 => ⟨by show 1 ≤ sizeLine; decide, fun r nr => ?_⟩⟩⟩
      have T := (T6.ext (same_new (o := HO.tup [.ref a1, nn]) m1)).ext (same_new (o := HO.lst [.ref q1]) nr)
      have G : ∀ X : Cx, X = (cxOf CX0 P w K mg base nRefs "_law_refusals" (defScope sRefs) g (.ref c0) A outer s H E) → Rb (nfN X) bN (due nn wr od wd lo hi) (upd (upd H6 q1 (.tup [.ref a1, nn])) r (.lst [.ref q1])) (upd (upd H6 q1 (.tup [.ref a1, nn])) r (.lst [.ref q1])) r 1 [nn, wr, od, wd] _ := fun X hX => by
        subst hX
        exact (Rb.one (i := Elv.l1) os16 fs16 rfl x6 l1 d1 m1 nr).1
      have G := G _ rfl
      generalize upd (upd H6 q1 (.tup [.ref a1, nn])) r (.lst [.ref q1]) = H9 at G T ⊢
      clear x6 T6 l1 d1 m1 nr T16 os16 fs16
      obtain ⟨ys, hy, _⟩ := G.lst
      refine ⟨_, rfl, .inl ⟨rfl, _, SqL.of hy⟩, T, fun a c2 H1 x1 T1 _ ll dd => ⟨_, rfl, by show 2 ≤ sizeLine; decide, fun q2 m => ?_⟩⟩
      obtain ⟨xs, u, hl, G⟩ := G.add (i := Elv.l2) (v := .int hi) rfl x1 ll dd m
      refine ⟨r, xs, _, rfl, rfl, u, by rw [hl]; show 1 < sizeLine; decide, ?_⟩
      have T := tabs_put (T1.ext (same_new m)) (o := .lst (xs ++ [.ref q2])) u
      generalize upd (upd H1 q2 (.tup [.ref a, .int hi])) r (.lst (xs ++ [.ref q2])) = H9 at G T ⊢
      clear x1 T1 ll dd m u hl hy
      obtain ⟨ys, hy, _⟩ := G.lst
      refine ⟨_, rfl, .inl ⟨rfl, _, SqL.of hy⟩, T, fun a c2 H1 x1 T1 _ ll dd => ⟨_, rfl, by show 2 ≤ sizeLine; decide, fun q3 m => ?_⟩⟩
      obtain ⟨xs, u, hl, G⟩ := G.add (i := Elv.l3) (v := .int lo) rfl x1 ll dd m
      refine ⟨r, xs, _, rfl, rfl, u, by rw [hl]; show 2 < sizeLine; decide, ?_⟩
      have T := tabs_put (T1.ext (same_new m)) (o := .lst (xs ++ [.ref q3])) u
      generalize upd (upd H1 q3 (.tup [.ref a, .int lo])) r (.lst (xs ++ [.ref q3])) = H9 at G T ⊢
      clear x1 T1 ll dd m u hl hy
      obtain ⟨ys, hy, _⟩ := G.lst
      refine ⟨_, rfl, .inl ⟨rfl, _, SqL.of hy⟩, T, fun a c2 H1 x1 T1 _ ll dd => ⟨_, rfl, by show 2 ≤ sizeLine; decide, fun q4 m => ?_⟩⟩
      obtain ⟨xs, u, hl, G⟩ := G.add (i := Elv.l4) (v := wr) rfl x1 ll dd m
      refine ⟨r, xs, _, rfl, rfl, u, by rw [hl]; show 3 < sizeLine; decide, ?_⟩
      have T := tabs_put (T1.ext (same_new m)) (o := .lst (xs ++ [.ref q4])) u
      generalize upd (upd H1 q4 (.tup [.ref a, wr])) r (.lst (xs ++ [.ref q4])) = H9 at G T ⊢
      clear x1 T1 ll dd m u hl hy
      obtain ⟨ys, hy, _⟩ := G.lst
      refine ⟨_, rfl, .inl ⟨rfl, _, SqL.of hy⟩, T, fun a c2 H1 x1 T1 _ ll dd => ⟨_, rfl, by show 2 ≤ sizeLine; decide, fun q5 m => ?_⟩⟩
      obtain ⟨xs, u, hl, G⟩ := G.add (i := Elv.l5) (v := od) rfl x1 ll dd m
      refine ⟨r, xs, _, rfl, rfl, u, by rw [hl]; show 4 < sizeLine; decide, ?_⟩
      have T := tabs_put (T1.ext (same_new m)) (o := .lst (xs ++ [.ref q5])) u
      generalize upd (upd H1 q5 (.tup [.ref a, od])) r (.lst (xs ++ [.ref q5])) = H9 at G T ⊢
      clear x1 T1 ll dd m u hl hy
      obtain ⟨ys, hy, _⟩ := G.lst
      refine ⟨_, rfl, .inl ⟨rfl, _, SqL.of hy⟩, T, fun a c2 H1 x1 T1 _ ll dd => ⟨_, rfl, by show 2 ≤ sizeLine; decide, fun q6 m => ?_⟩⟩
      obtain ⟨xs, u, hl, G⟩ := G.add (i := Elv.l6) (v := .int lo) rfl x1 ll dd m
      refine ⟨r, xs, _, rfl, rfl, u, by rw [hl]; show 5 < sizeLine; decide, ?_⟩
      have T := tabs_put (T1.ext (same_new m)) (o := .lst (xs ++ [.ref q6])) u
      generalize upd (upd H1 q6 (.tup [.ref a, .int lo])) r (.lst (xs ++ [.ref q6])) = H9 at G T ⊢
      clear x1 T1 ll dd m u hl hy
      obtain ⟨ys, hy, _⟩ := G.lst
      refine ⟨_, rfl, .inl ⟨rfl, _, SqL.of hy⟩, T, fun a c2 H1 x1 T1 _ ll dd => ⟨_, rfl, by show 2 ≤ sizeLine; decide, fun q7 m => ?_⟩⟩
      obtain ⟨xs, u, hl, G⟩ := G.add (i := Elv.l7) (v := wr) rfl x1 ll dd m
      refine ⟨r, xs, _, rfl, rfl, u, by rw [hl]; show 6 < sizeLine; decide, ?_⟩
      have T := tabs_put (T1.ext (same_new m)) (o := .lst (xs ++ [.ref q7])) u
      generalize upd (upd H1 q7 (.tup [.ref a, wr])) r (.lst (xs ++ [.ref q7])) = H9 at G T ⊢
      clear x1 T1 ll dd m u hl hy
      obtain ⟨ys, hy, _⟩ := G.lst
      refine ⟨_, rfl, .inl ⟨rfl, _, SqL.of hy⟩, T, fun a c2 H1 x1 T1 _ ll dd => ⟨_, rfl, by show 2 ≤ sizeLine; decide, fun q8 m => ?_⟩⟩
      obtain ⟨xs, u, hl, G⟩ := G.add (i := Elv.l8) (v := wd) rfl x1 ll dd m
      refine ⟨r, xs, _, rfl, rfl, u, by rw [hl]; show 7 < sizeLine; decide, ?_⟩
      have T := tabs_put (T1.ext (same_new m)) (o := .lst (xs ++ [.ref q8])) u
      generalize upd (upd H1 q8 (.tup [.ref a, wd])) r (.lst (xs ++ [.ref q8])) = H9 at G T ⊢
      clear x1 T1 ll dd m u hl hy
      obtain ⟨ys, hy, _⟩ := G.lst
      refine ⟨_, rfl, .inl ⟨rfl, _, SqL.of hy⟩, T, fun a c2 H1 x1 T1 _ ll dd => ⟨_, rfl, by show 2 ≤ sizeLine; decide, fun q9 m => ?_⟩⟩
      obtain ⟨xs, u, hl, G⟩ := G.add (i := Elv.l9) (v := wr) rfl x1 ll dd m
      refine ⟨r, xs, _, rfl, rfl, u, by rw [hl]; show 8 < sizeLine; decide, ?_⟩
      have T := tabs_put (T1.ext (same_new m)) (o := .lst (xs ++ [.ref q9])) u
      generalize upd (upd H1 q9 (.tup [.ref a, wr])) r (.lst (xs ++ [.ref q9])) = H9 at G T ⊢
      clear x1 T1 ll dd m u hl hy
      obtain ⟨ys, hy, _⟩ := G.lst
      refine ⟨_, rfl, .inl ⟨rfl, _, SqL.of hy⟩, T, fun a c2 H1 x1 T1 _ ll dd => ⟨_, rfl, by show 2 ≤ sizeLine; decide, fun q10 m => ?_⟩⟩
      obtain ⟨xs, u, hl, G⟩ := G.add (i := Elv.l10) (v := .int lo) rfl x1 ll dd m
      refine ⟨r, xs, _, rfl, rfl, u, by rw [hl]; show 9 < sizeLine; decide, ?_⟩
      have T := tabs_put (T1.ext (same_new m)) (o := .lst (xs ++ [.ref q10])) u
      generalize upd (upd H1 q10 (.tup [.ref a, .int lo])) r (.lst (xs ++ [.ref q10])) = H9 at G T ⊢
      clear x1 T1 ll dd m u hl hy
      obtain ⟨ys, hy, _⟩ := G.lst
      refine ⟨_, rfl, .inl ⟨rfl, _, SqL.of hy⟩, T, fun a c2 H1 x1 T1 _ ll dd => ⟨_, rfl, by show 2 ≤ sizeLine; decide, fun q11 m => ?_⟩⟩
      obtain ⟨xs, u, hl, G⟩ := G.add (i := Elv.l11) (v := wd) rfl x1 ll dd m
      refine ⟨r, xs, _, rfl, rfl, u, by rw [hl]; show 10 < sizeLine; decide, ?_⟩
      have T := tabs_put (T1.ext (same_new m)) (o := .lst (xs ++ [.ref q11])) u
      generalize upd (upd H1 q11 (.tup [.ref a, wd])) r (.lst (xs ++ [.ref q11])) = H9 at G T ⊢
      clear x1 T1 ll dd m u hl hy
      obtain ⟨ys, hy, _⟩ := G.lst
      refine ⟨_, rfl, .inl ⟨rfl, _, SqL.of hy⟩, T, fun a c2 H1 x1 T1 _ ll dd => ⟨_, rfl, by show 2 ≤ sizeLine; decide, fun q12 m => ?_⟩⟩
      obtain ⟨xs, u, hl, G⟩ := G.add (i := Elv.l12) (v := wr) rfl x1 ll dd m
      refine ⟨r, xs, _, rfl, rfl, u, by rw [hl]; show 11 < sizeLine; decide, ?_⟩
      have T := tabs_put (T1.ext (same_new m)) (o := .lst (xs ++ [.ref q12])) u
      generalize upd (upd H1 q12 (.tup [.ref a, wr])) r (.lst (xs ++ [.ref q12])) = H9 at G T ⊢
      clear x1 T1 ll dd m u hl hy
      -- the comprehension
      obtain ⟨ys, hy, _⟩ := G.lst
      refine ⟨_, rfl, r, rfl, ⟨_, SqL.of hy⟩, fun L nL => ?_⟩
      exact rb_all (L := lamN _ C S D _) (due := due nn wr od wd lo hi) (C := C) (fld := "value") (fun x H tl Q o1 o2 o3 => ⟨x, rfl, o1, o2, o3⟩) (toldN hlo hhi hod hnn hwd nw gw hc hk) (fun _ => rfl) (fun _ => rfl) G hy (show 12 ≤ 1000 by decide) nL fun H' _ ⟨bs, e1, e2⟩ => ⟨L, bs, rfl, SqL.of e1, by rw [e2]; exact q H'⟩
end
end K10

/-! k10: the law. -/
namespace K10
open PySem PySem.Spec PyProof.Rows L2 LamX NdefX Own
abbrev sLaw : Stmt := topS 35
section
variable {P : Program} {w : World} {K : PySem.W.Frag} {mg : Str → Option Value} {base : Heap} {C CN S D : Addr}
abbrev nLaw : List Str := ["_law_script", "_law_pen", "_law_cap", "_law_kept", "_law_told"]
theorem scLaw : FnScope nLaw ["_law_script"] (defScope sLaw) := ⟨rfl, rfl, rfl, by decide +kernel, rfl, by decide +kernel, by decide +kernel⟩
def spLaw (K : PySem.W.Frag) (Pt : Addr) : Sp := fun vs H Q _ => ∃ (a : Addr) (ns : List Int), vs = [.ref a] ∧ SqL K H a (ns.map V.int) ∧ ns.length ≤ 63 ∧ Tabs [(Pt, qL)] H ∧ ∀ H', Q (.bl true) H'
theorem ok_law {f : Addr} {fd : FuncData} {Pt : Addr} (F : Fun K "law" "law" sLaw f fd) (B : Blt mg) (D0 : DefOk P w K mg base CX0 "_law_begin" 1 ["_law_script"] (spBegin K)) (D1 : DefOk P w K mg base CX0 "_law_draw" 1 ["_law_pen", "_law_span"] spDraw)
    (D2 : DefOk P w K mg base CX0 "_law_pick" 2 ["_law_pen", "_law_some"] spPick) (DY : DefOk P w K mg base CX0 "_law_ways" 1 [] spWays) (DR : DefOk P w K mg base CX0 "_law_right" 8 ["_law_pen", "_law_told"] (spLRight D)) (DE : DefOk P w K mg base CX0 "_law_equal" 8 ["_law_told"] spLEq)
    (DF : DefOk P w K mg base CX0 "_law_refusals" 11 ["_law_pen", "_law_told"] (spRefs Pt)) : FnOk P w K mg base CX0 12 f fd ["_law_script"] (spLaw K Pt) := by
  refine F.ok scLaw (fun vs H Q E h => ?_) (fun cdv A outer s0 H vs Q E hr h => ?_)
  · obtain ⟨a, ns, rfl, _⟩ := h
    rfl
  · obtain ⟨a, ns, rfl, hs, hl, hT, q⟩ := h
    have nd := scLaw.nd
    refine ⟨_, pss_cons (ps_set (i := 1) nd rfl (.inl rfl) (pe_def D0 hr (by decide) (by rfl) pass0 (pa_cons (pv 0) pa_nil)))
      (pss_cons (ps_set (i := 2) nd rfl (.inl rfl) (pe_def D2 hr (by decide) (by rfl) pass0 (pa_cons (pv 1) (pa_cons (pe_lst (pa_cons (pe_op op_add pe_int (pe_def D1 hr (by decide) (by rfl) pass0 (pa_cons (pv 1) (pa_cons pe_int pa_nil)))) (pa_cons (pe_op op_add pe_int (pe_def D1 hr (by decide) (by rfl) pass0 (pa_cons (pv 1) (pa_cons pe_int pa_nil)))) (pa_cons (pe_op op_add pe_int (pe_def D1 hr (by decide) (by rfl) pass0 (pa_cons (pv 1) (pa_cons pe_int pa_nil)))) (pa_cons pe_int pa_nil))))) pa_nil))))
      (pss_cons (ps_set (i := 3) nd rfl (.inl rfl) (pe_def D2 hr (by decide) (by rfl) pass0 (pa_cons (pv 1) (pa_cons (pe_lst (pa_cons pe_int (pa_cons (pe_def D1 hr (by decide) (by rfl) pass0 (pa_cons (pv 1) (pa_cons (pe_op op_add (pv 2) pe_int) pa_nil))) (pa_cons (pe_callB (call_min2 rfl) (by rfl) B.min (by decide +kernel) (pa_cons (pv 2) (pa_cons (pe_def D1 hr (by decide) (by rfl) pass0 (pa_cons (pv 1) (pa_cons pe_int pa_nil))) pa_nil))) (pa_cons (pv 2) pa_nil))))) pa_nil))))
      (pss_cons (ps_set (i := 4) nd rfl (.inl rfl) (pe_lst (pa_cons (pv 2) (pa_cons (pv 3) (pa_cons (pe_def D1 hr (by decide) (by rfl) pass0 (pa_cons (pv 1) (pa_cons pe_int pa_nil))) (pa_cons (pe_def D2 hr (by decide) (by rfl) pass0 (pa_cons (pv 1) (pa_cons (pe_lst (pa_cons pe_int (pa_cons (pe_def D1 hr (by decide) (by rfl) pass0 (pa_cons (pv 1) (pa_cons pe_int pa_nil))) pa_nil))) pa_nil))) (pa_cons (pe_def D2 hr (by decide) (by rfl) pass0 (pa_cons (pv 1) (pa_cons (pe_def0 DY hr (by decide) (by rfl) pass0) pa_nil))) pa_nil)))))))
      (pss_one (ps_ret (pe_and (pe_def DR hr (by decide) (by rfl) pass0 (pa_cons (pv 1) (pa_cons (pv 4) pa_nil))) (pe_and (pe_def DE hr (by decide) (by rfl) pass0 (pa_cons (pv 4) pa_nil)) (pe_one (pe_def DF hr (by decide) (by rfl) pass0 (pa_cons (pv 1) (pa_cons (pv 4) pa_nil))))))))))), ?_⟩
    refine ⟨_, rfl, a, ns, rfl, hs, hl, fun d H1 nd1 s1 p1 => ?_⟩
    have T1 := hT.ext s1
    dsimp only [gName, List.set]
    refine ⟨_, rfl, _, rfl, d, 12, _, rfl, p1, by omega, by decide, by decide, fun x1 H2 a1 a2 k2 p2 => ⟨_, _, rfl, rfl, ?_⟩⟩
    refine ⟨_, rfl, d, 60, _, rfl, p2, by omega, by decide, by decide, fun x2 H3 b1 b2 k3 p3 => ⟨_, _, rfl, rfl, ?_⟩⟩
    refine ⟨_, rfl, d, 60, _, rfl, p3, by omega, by decide, by decide, fun x3 H4 c1 c2 k4 p4 => ⟨_, _, rfl, rfl, by show 4 ≤ sizeLine; decide, fun g ng => ?_⟩⟩
    have T4 := tabs_keep (tabs_keep (tabs_keep T1 p1 k2) p2 k3) p3 k4
    have sg := same_new (o := HO.lst [.int (1 + x1), .int (1 + x2), .int (1 + x3), .int 199]) ng
    refine ⟨d, g, _, _, rfl, upd_same, by simp, by show 4 ≤ 1000; decide, p4.same sg, by omega, fun v H5 hv k5 p5 => ?_⟩
    have T5 := tabs_keep (T4.ext sg) (p4.same sg) k5
    have hv : ∃ c : Nat, v = .int c ∧ 0 < c ∧ c ≤ 199 := by
      simp only [List.mem_cons, List.not_mem_nil, or_false] at hv
      rcases hv with rfl | rfl | rfl | rfl
      · exact ⟨(1 + x1).toNat, by rw [Int.toNat_of_nonneg (by omega)], by omega, by omega⟩
      · exact ⟨(1 + x2).toNat, by rw [Int.toNat_of_nonneg (by omega)], by omega, by omega⟩
      · exact ⟨(1 + x3).toNat, by rw [Int.toNat_of_nonneg (by omega)], by omega, by omega⟩
      · exact ⟨199, rfl, by omega, by omega⟩
    obtain ⟨c, rfl, hc, hc2⟩ := hv
    clear T1 T4 sg k2 k3 k4 k5 p1 p2 p3 p4 ng s1
    dsimp only [gName, List.set]
    refine ⟨_, rfl, _, rfl, _, rfl, _, _, rfl, rfl, d, (c : Int) + 1, _, rfl, p5, by omega, by omega, by omega, fun x4 H6 d1 d2 k6 p6 => ?_⟩
    refine ⟨_, rfl, _, rfl, d, 7, _, rfl, p6, by omega, by decide, by decide, fun x5 H7 e1 e2 k7 p7 => ⟨_, _, rfl, _, rfl, by show 4 ≤ sizeLine; decide, fun g ng => ?_⟩⟩
    have T7 := tabs_keep (tabs_keep T5 p5 k6) p6 k7
    have sg := same_new (o := HO.lst [.int 0, .int x4, .int (if x5 < (c : Int) then x5 else (c : Int)), .int c]) ng
    refine ⟨d, g, _, _, rfl, upd_same, by simp, by show 4 ≤ 1000; decide, p7.same sg, by omega, fun v H8 hv k8 p8 => ?_⟩
    have T8 := tabs_keep (T7.ext sg) (p7.same sg) k8
    have hv : ∃ k : Nat, v = .int k ∧ k ≤ c := by
      simp only [List.mem_cons, List.not_mem_nil, or_false] at hv
      rcases hv with rfl | rfl | rfl | rfl
      · exact ⟨0, rfl, by omega⟩
      · exact ⟨x4.toNat, by rw [Int.toNat_of_nonneg d1], by omega⟩
      · by_cases z : x5 < (c : Int)
        · exact ⟨x5.toNat, by rw [if_pos z, Int.toNat_of_nonneg e1], by omega⟩
        · exact ⟨c, by rw [if_neg z], by omega⟩
      · exact ⟨c, rfl, by omega⟩
    obtain ⟨k, rfl, hk⟩ := hv
    clear T5 T7 sg k6 k7 k8 p5 p6 p7 ng
    dsimp only [gName, List.set]
    refine ⟨_, rfl, _, rfl, _, rfl, d, 2, _, rfl, p8, by omega, by decide, by decide, fun x6 H9 f1 f2 k9 p9 => ?_⟩
    refine ⟨_, rfl, _, rfl, d, 31, _, rfl, p9, by omega, by decide, by decide, fun x7 H10 h1 h2 k10 p10 => ⟨by show 2 ≤ sizeLine; decide, fun g ng => ?_⟩⟩
    have sg := same_new (o := HO.lst [.int 0, .int x7]) ng
    refine ⟨d, g, _, _, rfl, upd_same, by simp, by show 2 ≤ 1000; decide, p10.same sg, by omega, fun v H11 hv k11 p11 => ?_⟩
    have T11 := tabs_keep ((tabs_keep (tabs_keep T8 p8 k9) p9 k10).ext sg) (p10.same sg) k11
    have hv : ∃ p : Nat, v = .int p := by
      simp only [List.mem_cons, List.not_mem_nil, or_false] at hv
      rcases hv with rfl | rfl
      · exact ⟨0, rfl⟩
      · exact ⟨x7.toNat, by rw [Int.toNat_of_nonneg h1]⟩
    obtain ⟨p, rfl⟩ := hv
    clear sg ng
    refine ⟨_, rfl, rfl, fun g ng => ?_⟩
    have sg := same_new (o := HO.lst (waysL.map V.str)) ng
    refine ⟨d, g, _, _, rfl, upd_same, by decide, by show 9 ≤ 1000; decide, p11.same sg, by omega, fun v H12 hv k12 p12 => ?_⟩
    have T12 := tabs_keep (T11.ext sg) (p11.same sg) k12
    obtain ⟨t, ht, rfl⟩ := List.mem_map.mp hv
    obtain ⟨e, he, he1⟩ : ∃ e : Nat, x6 = (e : Int) ∧ e ≤ 1 := ⟨x6.toNat, by rw [Int.toNat_of_nonneg f1], by omega⟩
    subst he
    refine ⟨by show 5 ≤ sizeLine; decide, fun l nl => ?_⟩
    have sl := same_new (o := HO.lst [.int c, .int k, .int e, .int p, .str t]) nl
    have tl : Told (upd H12 l (HO.lst [.int c, .int k, .int e, .int p, .str t])) l c k e p t := upd_same
    have T13 := T12.ext sl
    have p13 := p12.same sl
    obtain ⟨pp, ns', cc, ll, ed, _⟩ := id p13.ex
    have ld : l ≠ d := ne_of tl ed (by intro y; cases y)
    generalize upd H12 l (HO.lst [.int c, .int k, .int e, .int p, .str t]) = H13 at tl T13 p13 ⊢
    dsimp only [gName, List.set]
    clear sl nl T12 p12 k12 sg ng T11 p11 k11 p10 k10 p9 k9 p8 T8 ed
    refine ⟨_, rfl, _, rfl, d, l, c, k, e, p, t, _, rfl, tl, ld, hc, hk, he1, ht, p13, by omega, fun H14 k14 p14 => ⟨_, rfl, iteT ?_⟩⟩
    have T14 := tabs_keep T13 p13 k14
    have tl14 := k14 _ _ ld tl
    refine ⟨_, rfl, l, c, k, e, p, t, rfl, tl14, hc, hk, he1, ht, fun H15 s15 => ⟨_, rfl, iteT ?_⟩⟩
    exact ⟨_, rfl, _, rfl, d, l, c, k, e, p, t, _, rfl, s15 _ _ tl14, ld, p14.same s15, by omega, hc, hk, T14.ext s15, q⟩
end
end K10

set_option maxHeartbeats 0
/-! k10: what the top leaves; the end. -/
namespace K10
open PySem PySem.Spec PyProof.Rows L2 LamX NdefX Own
def nmF : Str × Option Str := ("_law_refusals", none)
def dfn (x : Str) (i : Nat) : He.DefD := ⟨(x, none), x, x, defArgs (topS i), defBody (topS i), defScope (topS i), [], []⟩
def dMk (x m : Str) (i j : Nat) (pd : List He.Dv) (kd : List (Str × He.Dv)) : He.DefD := ⟨(x, some m), m, x ++ "." ++ m, defArgs (inClass (topS i) j), defBody (inClass (topS i) j), defScope (inClass (topS i) j), pd, kd⟩
def fnL : List He.DefD := [dMk "BadValue" "__init__" 3 0 [] [], dMk "NoFigures" "__init__" 4 0 [] [], dMk "Shape" "__init__" 10 0 [] [], dMk "Dialect" "__init__" 17 0 [] [("extra", .int 0), ("places", .int 0), ("way", .str "halfup")], dMk "Dialect" "__eq__" 17 1 [] [], dMk "Dialect" "uncut" 17 2 [] [], dMk "Dialect" "cut" 17 3 [] [], dMk "Dialect" "shape_of" 17 4 [] [], dfn "is_an_integer" 6, dfn "is_whole_number" 7, dfn "need_whole_number" 8, dfn "need_shape" 11, dfn "need_way" 14, dfn "_law_begin" 19, dfn "_law_draw" 20, dfn "_law_pick" 21, dfn "_law_wrong" 22, dfn "_law_same" 23, dfn "_law_refused" 24, dfn "_law_ways" 25, dfn "_law_shape" 26, dfn "_law_seen" 27, dfn "_law_uncut" 28, dfn "_law_cut" 29, dfn "_law_dialect" 30, dfn "_law_wide" 31, dfn "_law_right" 32, dfn "_law_equal" 33, dfn "_law_refusals" 34, dfn "law" 35]
def psL : List He.DefD := [dMk "Shape" "width" 10 2 [] []]
def gloL : List Str := (["BadValue", "NoFigures", "Shape", "Dialect", "WAYS", "OPERATIONS", "is_an_integer", "is_whole_number", "need_whole_number", "need_shape", "need_way", "_law_begin", "_law_draw", "_law_pick", "_law_wrong", "_law_same", "_law_refused", "_law_ways", "_law_shape", "_law_seen", "_law_uncut", "_law_cut", "_law_dialect", "_law_wide", "_law_right"] : List Str) ++ (["_law_equal", "_law_refusals", "law"] : List Str)
def freeL : List Str := ["isinstance", "int", "bool", "len", "list", "range", "tuple", "all", "divmod", "min", "max", "str", "abs", "dict", "any"]
def moreL : List He.Fa := [He.Fa.exm "BadValue" "BadValue" true, .meth "BadValue" "__init__", .noat "BadValue" "value", .keep "BadValue", .exm "NoFigures" "NoFigures" true, .meth "NoFigures" "__init__", .keep "NoFigures", .cls "Shape", .mkr "Shape", .noat "Shape" "whole", .noat "Shape" "scale", .cls "Dialect", .mkr "Dialect", .noat "Dialect" "cap", .noat "Dialect" "kept", .noat "Dialect" "extra", .noat "Dialect" "places", .noat "Dialect" "way", .meth "Dialect" "__eq__", .meth "Dialect" "uncut", .meth "Dialect" "cut", .meth "Dialect" "shape_of"]
def faL : List He.Fa := gloL.map He.Fa.glo ++ freeL.map He.Fa.free ++ moreL
def tsL : List He.Tab := []
/-- isinstance by the class -/
def wisB (K : PySem.W.Frag) (W : Addr) : Bool := (decide (PySem.W.findIn K (.ref W) "__class__" = some (some (.builtin "object.__class__"))) && (decide (PySem.W.specialIn K (.builtin "object.__class__") "__get__" = some (some (.builtin "getset_descriptor.__get__"))) &&
  (decide (PySem.W.takesIn K (.builtin "object.__class__") = some true) && (decide (PySem.W.mroIn K W (.type "object") = some true) && ((tys.all fun T => decide (PySem.W.kitOne K (.type T) (.ref W) = some false)))))))
def exL (K : PySem.W.Frag) : Bool := oexB K (He.ga K "BadValue") && (L2.xfB K (He.ga K "BadValue") && (oexB K (He.ga K "NoFigures") && (He.tupB K "WAYS" (waysL.map He.Dv.str) && (He.tupB K "OPERATIONS" (opsL.map He.Dv.str) && (wisB K (He.ga K "Shape") && (wisB K (He.ga K "Dialect") && ((tys.all fun T => decide (PySem.W.subIn K (.type T) (.ref (He.ga K "Dialect")) = some false)) && (propB K ("Shape", some "width") "Shape.width"))))))))
abbrev rowK : PySem.W.OpenRow := PySem.W.OpenLaw.row PySem.Challenge.rw_figurestay_k10_dialect_rules
abbrev hkL : PySem.W.Hook := hookP 6 faL fnL tsL [nmF] exL psL
def obL (s : PySem.W.SharedT) : AlP := obsP 6 faL fnL tsL [nmF] exL psL (HandSHeadRun.getT s)
theorem obL_eq (s : PySem.W.SharedT) : obL s = hkL.obs s.abs := obsP_eq (HandSHeadRun.getT_eq s)
def looseL : List Str := (["FigureError", "BadValue", "NoFigures", "Shape", "Dialect", "WAYS", "OPERATIONS", "is_an_integer", "is_whole_number", "need_whole_number", "need_shape", "need_way", "_law_begin", "_law_draw", "_law_pick", "_law_wrong", "_law_same", "_law_refused", "_law_ways", "_law_shape", "_law_seen", "_law_uncut", "_law_cut", "_law_dialect", "_law_wide"] : List Str) ++ (["_law_right", "_law_equal", "_law_refusals", "_wall"] : List Str)
end K10

/-! k10: what the top leaves; the end. -/
namespace K10
open PySem PySem.Spec PyProof.Rows L2 LamX NdefX Own
theorem runF (w : World) : HandSHeadRun.RunEq rowK (PySem.W.view rowK.prog [35]) hkL obL 4000 looseL (w.withFollow "special-get-raises" false) := by
  intro os
  kernel_rfl
theorem runT (w : World) : HandSHeadRun.RunEq rowK (PySem.W.view rowK.prog [35]) hkL obL 4000 looseL (w.withFollow "special-get-raises" true) := by
  intro os
  kernel_rfl
theorem runL (w : World) : HandSHeadRun.RunEq rowK (PySem.W.view rowK.prog [35]) hkL obL 4000 looseL w := PySem.W.byRow2 "special-get-raises" (P := fun w => HandSHeadRun.RunEq rowK (PySem.W.view rowK.prog [35]) hkL obL 4000 looseL w) runF runT w
end K10

/-! k10: what the top leaves; the end. -/
namespace K10
open PySem PySem.Spec PyProof.Rows L2 LamX NdefX Own
section
variable {P : Program} {w : World} {K : PySem.W.Frag} {mg : Str → Option Value} {h : Heap}
theorem gloF (X : K.In h) (G : h.Ns mainGlobals mg) (d : He.SaysD faL fnL K) {x : Str} (hx : x ∈ gloL) : mg x = some (.ref (He.ga K x)) :=
  He.glo_ok X G (d.facts (List.mem_append_left _ (List.mem_append_left _ (List.mem_map.mpr ⟨x, hx, rfl⟩))))
theorem freeF (X : K.In h) (G : h.Ns mainGlobals mg) (d : He.SaysD faL fnL K) {x : Str} (hx : x ∈ freeL) : mg x = none :=
  He.free_ok X G (d.facts (List.mem_append_left _ (List.mem_append_right _ (List.mem_map.mpr ⟨x, hx, rfl⟩))))
theorem moreF (d : He.SaysD faL fnL K) {f : He.Fa} (hf : f ∈ moreL) : f.ok K = true := d.facts (List.mem_append_right _ hf)
theorem wis_ok {W : Addr} (h : wisB K W = true) : WIs K W := by
  obtain ⟨z2, y⟩ := He.ba h
  obtain ⟨z3, y⟩ := He.ba y
  obtain ⟨z4, y⟩ := He.ba y
  obtain ⟨z5, z6⟩ := He.ba y
  exact ⟨of_decide_eq_true z2, of_decide_eq_true z3, of_decide_eq_true z4, of_decide_eq_true z5, fun T hT => of_decide_eq_true (List.all_eq_true.mp z6 T hT)⟩
theorem scE_BadValue : FnScope ["self", "value"] ["self", "value"] (defScope (inClass (topS 3) 0)) := ⟨rfl, rfl, rfl, by decide +kernel, rfl, by decide +kernel, by decide +kernel⟩
theorem ok_err_BadValue {base : Heap} {C : Addr} {f : Addr} {fd : FuncData} (F : Fun K "__init__" "BadValue.__init__" (inClass (topS 3) 0) f fd) (T : OexC K C) (no : PySem.W.findIn K (.ref C) "value" = some none) : FnOk P w K mg base CX0 1 f fd ["self", "value"] (spErr C "value") := by
  refine F.ok scE_BadValue (fun vs H Q E h => ?_) (fun cdv A outer s H vs Q E hr h => ?_)
  · obtain ⟨a, y, rfl, _⟩ := h
    rfl
  · obtain ⟨a, y, rfl, ha, q⟩ := h
    refine ⟨_, pss_one (ps_ost (pv 0) (pv 1)), ?_⟩
    exact ⟨_, rfl, _, rfl, a, C, rfl, T, no, .inl ⟨ha, fun dx n1 n2 => q dx n1 n2⟩⟩
theorem scE_NoFigures : FnScope ["self"] ["self"] (defScope (inClass (topS 4) 0)) := ⟨rfl, rfl, rfl, by decide +kernel, rfl, by decide +kernel, by decide +kernel⟩
theorem ok_err_NoFigures {base : Heap} {f : Addr} {fd : FuncData} (F : Fun K "__init__" "NoFigures.__init__" (inClass (topS 4) 0) f fd) : FnOk P w K mg base CX0 1 f fd ["self"] (fun vs H Q _ => ∃ a : Addr, vs = [.ref a] ∧ Q .non H) := by
  refine F.ok scE_NoFigures (fun vs H Q E h => ?_) (fun cdv A outer s H vs Q E hr h => ?_)
  · obtain ⟨a, rfl, _⟩ := h
    rfl
  · obtain ⟨a, rfl, q⟩ := h
    exact ⟨_, pss_one ps_pass, q⟩
theorem law_at {fa : Addr} (X : K.In h) (G : h.Ns mainGlobals mg) (hfa : mg "law" = some (.ref fa)) (c : He.SaysX faL fnL tsL [nmF] exL w h K) (cp : SaysP psL K) : LawAtS PySem.Challenge.rw_figurestay_k10_dialect_rules w K CX0 12 63 "_law_script" mg fa h := by
  have d := c.t.d
  obtain ⟨oex_BadValue, y⟩ := He.ba c.more
  obtain ⟨xf_BadValue, y⟩ := He.ba y
  obtain ⟨oex_NoFigures, y⟩ := He.ba y
  obtain ⟨tup_WAYS, y⟩ := He.ba y
  obtain ⟨tup_OPERATIONS, y⟩ := He.ba y
  obtain ⟨wis_Shape, y⟩ := He.ba y
  obtain ⟨wis_Dialect, y⟩ := He.ba y
  obtain ⟨sub_Dialect, prop_Shape_width⟩ := He.ba y
  have te_BadValue := He.exm_ok (moreF d (f := .exm "BadValue" "BadValue" true) (List.mem_of_getElem? (i := 0) rfl))
  have mt_BadValue := He.meth_ok (moreF d (f := .meth "BadValue" "__init__") (List.mem_of_getElem? (i := 1) rfl))
  have no_BadValue := He.noat_ok (moreF d (f := .noat "BadValue" "value") (List.mem_of_getElem? (i := 2) rfl))
  obtain ⟨fd_BadValue, F0_BadValue⟩ := d.def_ 0 (d := dMk "BadValue" "__init__" 3 0 [] []) rfl
  have F_BadValue : Fun K "__init__" "BadValue.__init__" (inClass (topS 3) 0) _ fd_BadValue := fun_of F0_BadValue
  have b_BadValue := F_BadValue.binds (ps := ["self", "value"]) fun _ _ _ _ _ _ us hl => match us, hl with | [_, _], _ => rfl
  have te_NoFigures := He.exm_ok (moreF d (f := .exm "NoFigures" "NoFigures" true) (List.mem_of_getElem? (i := 4) rfl))
  have mt_NoFigures := He.meth_ok (moreF d (f := .meth "NoFigures" "__init__") (List.mem_of_getElem? (i := 5) rfl))
  obtain ⟨fd_NoFigures, F0_NoFigures⟩ := d.def_ 1 (d := dMk "NoFigures" "__init__" 4 0 [] []) rfl
  have F_NoFigures : Fun K "__init__" "NoFigures.__init__" (inClass (topS 4) 0) _ fd_NoFigures := fun_of F0_NoFigures
  have b_NoFigures := F_NoFigures.binds (ps := ["self"]) fun _ _ _ _ _ _ us hl => match us, hl with | [_], _ => rfl
  have cls_Shape := He.cls_ok (moreF d (f := .cls "Shape") (List.mem_of_getElem? (i := 7) rfl))
  have mk_Shape := He.mkr_ok (moreF d (f := .mkr "Shape") (List.mem_of_getElem? (i := 8) rfl))
  have no_Shape_whole := He.noat_ok (moreF d (f := .noat "Shape" "whole") (List.mem_of_getElem? (i := 9) rfl))
  have no_Shape_scale := He.noat_ok (moreF d (f := .noat "Shape" "scale") (List.mem_of_getElem? (i := 10) rfl))
  obtain ⟨fd_Shape, FI_Shape⟩ := d.def_ 2 (d := dMk "Shape" "__init__" 10 0 [] []) rfl
  have GI_Shape : Fun K "__init__" "Shape.__init__" (inClass (topS 10) 0) _ fd_Shape := fun_of FI_Shape
  have bI_Shape := GI_Shape.binds (ps := ["self", "whole", "scale"]) fun _ _ _ _ _ _ us hl => match us, hl with | [_, _, _], _ => rfl
  have cls_Dialect := He.cls_ok (moreF d (f := .cls "Dialect") (List.mem_of_getElem? (i := 11) rfl))
  have mk_Dialect := He.mkr_ok (moreF d (f := .mkr "Dialect") (List.mem_of_getElem? (i := 12) rfl))
  have no_Dialect_cap := He.noat_ok (moreF d (f := .noat "Dialect" "cap") (List.mem_of_getElem? (i := 13) rfl))
  have no_Dialect_kept := He.noat_ok (moreF d (f := .noat "Dialect" "kept") (List.mem_of_getElem? (i := 14) rfl))
  have no_Dialect_extra := He.noat_ok (moreF d (f := .noat "Dialect" "extra") (List.mem_of_getElem? (i := 15) rfl))
  have no_Dialect_places := He.noat_ok (moreF d (f := .noat "Dialect" "places") (List.mem_of_getElem? (i := 16) rfl))
  have no_Dialect_way := He.noat_ok (moreF d (f := .noat "Dialect" "way") (List.mem_of_getElem? (i := 17) rfl))
  obtain ⟨fd_Dialect, FI_Dialect⟩ := d.def_ 3 (d := dMk "Dialect" "__init__" 17 0 [] [("extra", .int 0), ("places", .int 0), ("way", .str "halfup")]) rfl
  have m_Dialect_eq := He.meth_ok (moreF d (f := .meth "Dialect" "__eq__") (List.mem_of_getElem? (i := 18) rfl))
  obtain ⟨fd_Dialect_eq, F_Dialect_eq⟩ := d.def_ 4 (d := dMk "Dialect" "__eq__" 17 1 [] []) rfl
  have G_Dialect_eq : Fun K "__eq__" "Dialect.__eq__" (inClass (topS 17) 1) _ fd_Dialect_eq := fun_of F_Dialect_eq
  have b_Dialect_eq := G_Dialect_eq.binds (ps := ["self", "other"]) fun _ _ _ _ _ _ us hl => match us, hl with | [_, _], _ => rfl
  have m_Dialect_uncut := He.meth_ok (moreF d (f := .meth "Dialect" "uncut") (List.mem_of_getElem? (i := 19) rfl))
  obtain ⟨fd_Dialect_uncut, F_Dialect_uncut⟩ := d.def_ 5 (d := dMk "Dialect" "uncut" 17 2 [] []) rfl
  have G_Dialect_uncut : Fun K "uncut" "Dialect.uncut" (inClass (topS 17) 2) _ fd_Dialect_uncut := fun_of F_Dialect_uncut
  have b_Dialect_uncut := G_Dialect_uncut.binds (ps := ["self", "word", "one", "other"]) fun _ _ _ _ _ _ us hl => match us, hl with | [_, _, _, _], _ => rfl
  have m_Dialect_cut := He.meth_ok (moreF d (f := .meth "Dialect" "cut") (List.mem_of_getElem? (i := 20) rfl))
  obtain ⟨fd_Dialect_cut, F_Dialect_cut⟩ := d.def_ 6 (d := dMk "Dialect" "cut" 17 3 [] []) rfl
  have G_Dialect_cut : Fun K "cut" "Dialect.cut" (inClass (topS 17) 3) _ fd_Dialect_cut := fun_of F_Dialect_cut
  have b_Dialect_cut := G_Dialect_cut.binds (ps := ["self", "shape"]) fun _ _ _ _ _ _ us hl => match us, hl with | [_, _], _ => rfl
  have m_Dialect_shape_of := He.meth_ok (moreF d (f := .meth "Dialect" "shape_of") (List.mem_of_getElem? (i := 21) rfl))
  obtain ⟨fd_Dialect_shape_of, F_Dialect_shape_of⟩ := d.def_ 7 (d := dMk "Dialect" "shape_of" 17 4 [] []) rfl
  have G_Dialect_shape_of : Fun K "shape_of" "Dialect.shape_of" (inClass (topS 17) 4) _ fd_Dialect_shape_of := fun_of F_Dialect_shape_of
  have b_Dialect_shape_of := G_Dialect_shape_of.binds (ps := ["self", "word", "one", "other"]) fun _ _ _ _ _ _ us hl => match us, hl with | [_, _, _, _], _ => rfl
  obtain ⟨⟨pa_Shape_width, po_Shape_width⟩, oa_Shape_width⟩ := prop_ok prop_Shape_width
  obtain ⟨fd_Shape_width, F_Shape_width⟩ := funD_at (cp.at_ 0 (d := dMk "Shape" "width" 10 2 [] []) rfl) oa_Shape_width
  have G_Shape_width : Fun K "width" "Shape.width" (inClass (topS 10) 2) _ fd_Shape_width := fun_of F_Shape_width
  have b_Shape_width := G_Shape_width.binds (ps := ["self"]) fun _ _ _ _ _ _ us hl => match us, hl with | [_], _ => rfl
  obtain ⟨fd_is_an_integer, F_is_an_integer⟩ := d.def_ 8 (d := dfn "is_an_integer" 6) rfl
  have A_is_an_integer : At K mg "is_an_integer" (topS 6) ["value"] := at_of F_is_an_integer (gloF X G d (by decide +kernel)) fun _ _ _ _ _ _ us hl => match us, hl with | [_], _ => rfl
  obtain ⟨fd_is_whole_number, F_is_whole_number⟩ := d.def_ 9 (d := dfn "is_whole_number" 7) rfl
  have A_is_whole_number : At K mg "is_whole_number" (topS 7) ["value"] := at_of F_is_whole_number (gloF X G d (by decide +kernel)) fun _ _ _ _ _ _ us hl => match us, hl with | [_], _ => rfl
  obtain ⟨fd_need_whole_number, F_need_whole_number⟩ := d.def_ 10 (d := dfn "need_whole_number" 8) rfl
  have A_need_whole_number : At K mg "need_whole_number" (topS 8) ["value"] := at_of F_need_whole_number (gloF X G d (by decide +kernel)) fun _ _ _ _ _ _ us hl => match us, hl with | [_], _ => rfl
  obtain ⟨fd_need_shape, F_need_shape⟩ := d.def_ 11 (d := dfn "need_shape" 11) rfl
  have A_need_shape : At K mg "need_shape" (topS 11) ["value"] := at_of F_need_shape (gloF X G d (by decide +kernel)) fun _ _ _ _ _ _ us hl => match us, hl with | [_], _ => rfl
  obtain ⟨fd_need_way, F_need_way⟩ := d.def_ 12 (d := dfn "need_way" 14) rfl
  have A_need_way : At K mg "need_way" (topS 14) ["value"] := at_of F_need_way (gloF X G d (by decide +kernel)) fun _ _ _ _ _ _ us hl => match us, hl with | [_], _ => rfl
  obtain ⟨fd__law_begin, F__law_begin⟩ := d.def_ 13 (d := dfn "_law_begin" 19) rfl
  have A__law_begin : At K mg "_law_begin" (topS 19) ["_law_script"] := at_of F__law_begin (gloF X G d (by decide +kernel)) fun _ _ _ _ _ _ us hl => match us, hl with | [_], _ => rfl
  obtain ⟨fd__law_draw, F__law_draw⟩ := d.def_ 14 (d := dfn "_law_draw" 20) rfl
  have A__law_draw : At K mg "_law_draw" (topS 20) ["_law_pen", "_law_span"] := at_of F__law_draw (gloF X G d (by decide +kernel)) fun _ _ _ _ _ _ us hl => match us, hl with | [_, _], _ => rfl
  obtain ⟨fd__law_pick, F__law_pick⟩ := d.def_ 15 (d := dfn "_law_pick" 21) rfl
  have A__law_pick : At K mg "_law_pick" (topS 21) ["_law_pen", "_law_some"] := at_of F__law_pick (gloF X G d (by decide +kernel)) fun _ _ _ _ _ _ us hl => match us, hl with | [_, _], _ => rfl
  obtain ⟨fd__law_wrong, F__law_wrong⟩ := d.def_ 16 (d := dfn "_law_wrong" 22) rfl
  have A__law_wrong : At K mg "_law_wrong" (topS 22) ["_law_pen"] := at_of F__law_wrong (gloF X G d (by decide +kernel)) fun _ _ _ _ _ _ us hl => match us, hl with | [_], _ => rfl
  obtain ⟨fd__law_same, F__law_same⟩ := d.def_ 17 (d := dfn "_law_same" 23) rfl
  have A__law_same : At K mg "_law_same" (topS 23) ["_law_one", "_law_other"] := at_of F__law_same (gloF X G d (by decide +kernel)) fun _ _ _ _ _ _ us hl => match us, hl with | [_, _], _ => rfl
  obtain ⟨fd__law_refused, F__law_refused⟩ := d.def_ 18 (d := dfn "_law_refused" 24) rfl
  have A__law_refused : At K mg "_law_refused" (topS 24) ["_law_deed", "_law_value"] := at_of F__law_refused (gloF X G d (by decide +kernel)) fun _ _ _ _ _ _ us hl => match us, hl with | [_, _], _ => rfl
  obtain ⟨fd__law_ways, F__law_ways⟩ := d.def_ 19 (d := dfn "_law_ways" 25) rfl
  have A__law_ways : At K mg "_law_ways" (topS 25) [] := at_of F__law_ways (gloF X G d (by decide +kernel)) fun _ _ _ _ _ _ us hl => match us, hl with | [], _ => rfl
  obtain ⟨fd__law_shape, F__law_shape⟩ := d.def_ 20 (d := dfn "_law_shape" 26) rfl
  have A__law_shape : At K mg "_law_shape" (topS 26) ["_law_pen", "_law_most"] := at_of F__law_shape (gloF X G d (by decide +kernel)) fun _ _ _ _ _ _ us hl => match us, hl with | [_, _], _ => rfl
  obtain ⟨fd__law_seen, F__law_seen⟩ := d.def_ 21 (d := dfn "_law_seen" 27) rfl
  have A__law_seen : At K mg "_law_seen" (topS 27) ["_law_shape_here"] := at_of F__law_seen (gloF X G d (by decide +kernel)) fun _ _ _ _ _ _ us hl => match us, hl with | [_], _ => rfl
  obtain ⟨fd__law_uncut, F__law_uncut⟩ := d.def_ 22 (d := dfn "_law_uncut" 28) rfl
  have A__law_uncut : At K mg "_law_uncut" (topS 28) ["_law_word", "_law_one", "_law_other", "_law_told"] := at_of F__law_uncut (gloF X G d (by decide +kernel)) fun _ _ _ _ _ _ us hl => match us, hl with | [_, _, _, _], _ => rfl
  obtain ⟨fd__law_cut, F__law_cut⟩ := d.def_ 23 (d := dfn "_law_cut" 29) rfl
  have A__law_cut : At K mg "_law_cut" (topS 29) ["_law_shape_here", "_law_told"] := at_of F__law_cut (gloF X G d (by decide +kernel)) fun _ _ _ _ _ _ us hl => match us, hl with | [_, _], _ => rfl
  obtain ⟨fd__law_dialect, F__law_dialect⟩ := d.def_ 24 (d := dfn "_law_dialect" 30) rfl
  have A__law_dialect : At K mg "_law_dialect" (topS 30) ["_law_told"] := at_of F__law_dialect (gloF X G d (by decide +kernel)) fun _ _ _ _ _ _ us hl => match us, hl with | [_], _ => rfl
  obtain ⟨fd__law_wide, F__law_wide⟩ := d.def_ 25 (d := dfn "_law_wide" 31) rfl
  have A__law_wide : At K mg "_law_wide" (topS 31) ["_law_pen", "_law_told"] := at_of F__law_wide (gloF X G d (by decide +kernel)) fun _ _ _ _ _ _ us hl => match us, hl with | [_, _], _ => rfl
  obtain ⟨fd__law_right, F__law_right⟩ := d.def_ 26 (d := dfn "_law_right" 32) rfl
  have A__law_right : At K mg "_law_right" (topS 32) ["_law_pen", "_law_told"] := at_of F__law_right (gloF X G d (by decide +kernel)) fun _ _ _ _ _ _ us hl => match us, hl with | [_, _], _ => rfl
  obtain ⟨fd__law_equal, F__law_equal⟩ := d.def_ 27 (d := dfn "_law_equal" 33) rfl
  have A__law_equal : At K mg "_law_equal" (topS 33) ["_law_told"] := at_of F__law_equal (gloF X G d (by decide +kernel)) fun _ _ _ _ _ _ us hl => match us, hl with | [_], _ => rfl
  obtain ⟨fdR, FR⟩ := d.def_ 28 (d := dfn "_law_refusals" 34) rfl
  obtain ⟨fdL, FL⟩ := d.def_ 29 (d := dfn "law" 35) rfl
  have e := hfa.symm.trans (gloF X G d (x := "law") (by decide +kernel))
  cases e
  have FL' : Fun K "law" "law" sLaw _ fdL := fun_of FL
  have FR' : Fun K "_law_refusals" "_law_refusals" sRefs _ fdR := fun_of FR
  have AR : AtC K mg "_law_refusals" sRefs ["_law_pen", "_law_told"] (He.cT K nmF).1 := by
    have bR := FR'.binds (ps := ["_law_pen", "_law_told"]) fun _ _ _ _ _ _ us hl => match us, hl with | [_, _], _ => rfl
    have gR := gloF X G d (x := "_law_refusals") (by decide +kernel)
    have kR := FR'.kp
    obtain ⟨oc, od, kV, doc, pm, an, cdv, ct, osl, rfl, lk, hcd⟩ := FR'.ex
    obtain ⟨cc, rfl⟩ := He.codeIn_ref hcd
    have ec : He.codeOf K nmF = cc := He.codeOf_eq lk rfl
    refine ⟨_, oc, od, kV, doc, pm, an, ct, osl, ?_, ?_, gR, kR, ?_⟩
    · show K.lookup _ = some ⟨oc, od, .func (PySem.W.fnOf _ _ _ _ _ .none kV doc pm an (.ref (He.codeOf K nmF)) ct), osl⟩
      rw [ec]
      exact lk
    · show PySem.W.codeIn K (.ref (He.codeOf K nmF)) _ = true
      rw [ec]
      exact hcd
    · show Binds K (PySem.W.fnOf _ _ _ _ _ .none kV doc pm an (.ref (He.codeOf K nmF)) ct) _ []
      rw [ec]
      exact bR
  have hL : ∀ (s : Shared) (u : Value), BindsTo s fdL ⟨[u], []⟩ [("_law_script", u)] := by
    obtain ⟨oc, od, kV, doc, pm, an, cdv, ct, osl, rfl, lk, hcd⟩ := FL'.ex
    exact fun s u => .of_eq rfl
  refine ⟨fdL, [He.cT K nmF], spLaw K (He.cT K nmF).2, fun p hp => ?_, fun p hp => ?_, fun p hp => ?_, hL, fun H a ns hl _ hT hs => ⟨a, ns, rfl, hs, hl, fun p hp => ?_, fun _ => rfl⟩, fun base XB GB TBs => ?_⟩
  · rw [List.mem_singleton.mp hp]
    exact c.empty nmF (List.mem_singleton.mpr rfl)
  · rw [List.mem_singleton.mp hp]
    exact c.out nmF (List.mem_singleton.mpr rfl)
  · rw [List.mem_singleton.mp hp]
    exact PySem.W.codeHd_of_K X (c.hd nmF (List.mem_singleton.mpr rfl))
  · rw [List.mem_singleton.mp hp]
    exact TabS.nil (hT (He.cT K nmF) (List.mem_singleton.mpr rfl))
  · have TB := TBs (He.cT K nmF) (List.mem_singleton.mpr rfl)
    have B : Blt mg := { isi := freeF X G d (by decide +kernel), int := freeF X G d (by decide +kernel), bool := freeF X G d (by decide +kernel), len := freeF X G d (by decide +kernel), list := freeF X G d (by decide +kernel), range := freeF X G d (by decide +kernel), tuple := freeF X G d (by decide +kernel), all := freeF X G d (by decide +kernel), dm := freeF X G d (by decide +kernel), min := freeF X G d (by decide +kernel), max := freeF X G d (by decide +kernel), str := freeF X G d (by decide +kernel), abs := freeF X G d (by decide +kernel), dict := freeF X G d (by decide +kernel), any := freeF X G d (by decide +kernel) }
    have TE_BadValue : ErrC PySem.Challenge.rw_figurestay_k10_dialect_rules.prog w K mg base "BadValue" "value" 1 (He.ga K "BadValue") (spErr (He.ga K "BadValue") "value") := ⟨gloF X G d (by decide +kernel), oexB_ok oex_BadValue, ⟨_, fd_BadValue, mt_BadValue.1, beq_iff_eq.mp mt_BadValue.fn, ok_err_BadValue F_BadValue (oexB_ok oex_BadValue) no_BadValue, b_BadValue⟩, L2.xfB_ok xf_BadValue, te_BadValue, no_BadValue⟩
    have TE_NoFigures : ErrN PySem.Challenge.rw_figurestay_k10_dialect_rules.prog w K mg base "NoFigures" (He.ga K "NoFigures") := ⟨gloF X G d (by decide +kernel), oexB_ok oex_NoFigures, ⟨_, fd_NoFigures, mt_NoFigures.1, beq_iff_eq.mp mt_NoFigures.fn, ok_err_NoFigures F_NoFigures, b_NoFigures⟩⟩
    have I_Shape : WIs K (He.ga K "Shape") := wis_ok wis_Shape
    have I_Dialect : WIs K (He.ga K "Dialect") := wis_ok wis_Dialect
    have sL_Dialect : ∀ T ∈ tys, PySem.W.subIn K (.type T) (.ref (He.ga K "Dialect")) = some false := fun T hT => of_decide_eq_true (List.all_eq_true.mp sub_Dialect T hT)
    have ops : ∀ H : Hp, SqT K H (He.ga K "OPERATIONS") (opsL.map V.str) := fun H => by
      have z := He.tupB_ok tup_OPERATIONS H
      rw [List.map_map] at z
      exact z
    have T : ShapeC K mg (He.ga K "Shape") := ⟨(gloF X G d (by decide +kernel)), cls_Shape, no_Shape_whole, no_Shape_scale⟩
    have TD : DialC K mg (He.ga K "Dialect") := ⟨(gloF X G d (by decide +kernel)), cls_Dialect, no_Dialect_cap, no_Dialect_kept, no_Dialect_extra, no_Dialect_places, no_Dialect_way⟩
    have TX : TxW PySem.Challenge.rw_figurestay_k10_dialect_rules.prog w K mg base (He.ga K "BadValue") (He.ga K "WAYS") := ⟨TE_BadValue, (gloF X G d (by decide +kernel)), fun H => by
      have z := He.tupB_ok tup_WAYS H
      rw [List.map_map] at z
      exact z⟩
    have D1 := ok_isInt (P := PySem.Challenge.rw_figurestay_k10_dialect_rules.prog) (w := w) (base := base) A_is_an_integer B
    have D2 := ok_isWh A_is_whole_number D1
    have D4 := ok_nWh A_need_whole_number TE_BadValue D2
    have E1 := ok_nWay A_need_way TX
    have M : SMk PySem.Challenge.rw_figurestay_k10_dialect_rules.prog w K mg base (He.ga K "BadValue") (He.ga K "NoFigures") (He.ga K "Shape") := ⟨_, fd_Shape, mk_Shape, ok_sI GI_Shape T TE_NoFigures D4, bI_Shape⟩
    have W : SWid PySem.Challenge.rw_figurestay_k10_dialect_rules.prog w K mg base (He.ga K "Shape") := ⟨pa_Shape_width, _, fd_Shape_width, po_Shape_width, ok_wid G_Shape_width T, b_Shape_width⟩
    have MD : DMk PySem.Challenge.rw_figurestay_k10_dialect_rules.prog w K mg base (He.ga K "BadValue") (He.ga K "Dialect") := ⟨_, fd_Dialect, mk_Dialect, ok_dI FI_Dialect TD TE_BadValue D2 D4 E1, FI_Dialect⟩
    have D8 := ok_nSh A_need_shape B T I_Shape TE_BadValue
    have MU : DMeth PySem.Challenge.rw_figurestay_k10_dialect_rules.prog w K mg base (He.ga K "Dialect") "uncut" 6 ["self", "word", "one", "other"] (spUnc (He.ga K "BadValue") (He.ga K "Shape") (He.ga K "Dialect")) := ⟨_, fd_Dialect_uncut, m_Dialect_uncut, ok_unc G_Dialect_uncut B T TD TE_BadValue (gloF X G d (by decide +kernel)) ops M D8, b_Dialect_uncut⟩
    have MC : DMeth PySem.Challenge.rw_figurestay_k10_dialect_rules.prog w K mg base (He.ga K "Dialect") "cut" 6 ["self", "shape"] (spCut (He.ga K "BadValue") (He.ga K "Shape") (He.ga K "Dialect")) := ⟨_, fd_Dialect_cut, m_Dialect_cut, ok_cut G_Dialect_cut B T TD M W D8, b_Dialect_cut⟩
    have MS : DMeth PySem.Challenge.rw_figurestay_k10_dialect_rules.prog w K mg base (He.ga K "Dialect") "shape_of" 7 ["self", "word", "one", "other"] (spShOf (He.ga K "BadValue") (He.ga K "Shape") (He.ga K "Dialect")) := ⟨_, fd_Dialect_shape_of, m_Dialect_shape_of, ok_shOf G_Dialect_shape_of TD MU MC, b_Dialect_shape_of⟩
    have EQ : DEq PySem.Challenge.rw_figurestay_k10_dialect_rules.prog w K mg base (He.ga K "Dialect") := ⟨⟨_, fd_Dialect_eq, m_Dialect_eq.1, m_Dialect_eq.fn, ok_eqD G_Dialect_eq B TD I_Dialect, b_Dialect_eq⟩, sL_Dialect⟩
    have L0 := ok_begin (P := PySem.Challenge.rw_figurestay_k10_dialect_rules.prog) (w := w) (base := base) A__law_begin B
    have L1 := ok_draw' (P := PySem.Challenge.rw_figurestay_k10_dialect_rules.prog) (w := w) (base := base) A__law_draw B
    have L2 := ok_pick A__law_pick B L1
    have L10 := ok_wrong A__law_wrong L2
    have L11 := ok_same (P := PySem.Challenge.rw_figurestay_k10_dialect_rules.prog) (w := w) (base := base) A__law_same B
    have L12 := ld_refdH A__law_refused TE_BadValue L11
    have L13 := ok_ways (P := PySem.Challenge.rw_figurestay_k10_dialect_rules.prog) (w := w) (base := base) A__law_ways
    have L14 := ok_lshape A__law_shape L1 L2
    have L15 := ok_seen (P := PySem.Challenge.rw_figurestay_k10_dialect_rules.prog) (w := w) (base := base) A__law_seen B T I_Shape
    have L16 := ok_lunc (P := PySem.Challenge.rw_figurestay_k10_dialect_rules.prog) (w := w) (base := base) A__law_uncut B
    have L17 := ok_lcut (P := PySem.Challenge.rw_figurestay_k10_dialect_rules.prog) (w := w) (base := base) A__law_cut B
    have L18 := ok_ldial A__law_dialect TD MD
    have L19 := ok_lwide A__law_wide B L1 L2
    have L20 := ok_right A__law_right B T TD M MU MC MS L18 L11 L14 L19 L16 L17 L15
    have L21 := ok_equal A__law_equal B TD MD EQ L18 L11
    have L22 := ok_refs AR TB B L1 L2 L10 M T TD MD MU MC MS L12
    exact ok_law FL' B L0 L1 L2 L13 L20 L21 L22
end
end K10
open PySem PySem.W PySem.Calls PyProof.Rows
theorem PySem.Challenge.cw_figurestay_k10_dialect_rules_holds : PySem.Challenge.rw_figurestay_k10_dialect_rules.Holds := by
  w_on; o_law
  refine HandSHeadRun.head_any (r := OpenLaw.row PySem.Challenge.rw_figurestay_k10_dialect_rules) (q := view (OpenLaw.row PySem.Challenge.rw_figurestay_k10_dialect_rules).prog [35]) (H := K10.hkL) (ob := K10.obL) (M := 4000) (loose := K10.looseL)
    (d := HandSHeadRun.topDef (OpenLaw.row PySem.Challenge.rw_figurestay_k10_dialect_rules).prog 35) (kwd := []) K10.obL_eq
    (by kernel_rfl) (fun s => by kernel_rfl) K10.runL (by kernel_rfl) (by kernel_rfl) (by kernel_rfl) (by rfl) (by first | assumption | decide +kernel) (by decide +kernel) ⟨rfl, rfl, rfl, rfl, rfl, by decide +kernel⟩ ?hw ?hc
  case hw => w_witness2
  case hc =>
    refine LamX.walk_ofTsE (l := PySem.Challenge.rw_figurestay_k10_dialect_rules) (n := 63) (k := 12) (x := "_law_script") (CX := fun _ => L2.CX0) rfl (by decide) (by kernel_rfl) ⟨rfl, by decide, by decide⟩ ?F (fun _ _ _ _ _ z => z)
    intro w mg fa h Y G hmg0
    obtain ⟨K, KX, c, cp⟩ := Y
    have hmg : mg ("law" : PySem.Str) = some (.ref fa) := by
      have e : (HandSHeadRun.topDef (OpenLaw.row PySem.Challenge.rw_figurestay_k10_dialect_rules).prog 35).name = ("law" : PySem.Str) := by kernel_rfl
      rw [← e]
      exact hmg0
    exact ⟨K, KX, K10.law_at KX G hmg c cp⟩
