import PyProof.Rows.All
import Wide.All
import OpenK.AllK
import Wide.FinOn
import HandS.ForMost
import HandS.ForExc
import HandS.Wide
import HandS.WideBits
import HandS.IsInst
import HandS.ExcInit
import HandS.ExcField
import HandS.Nested
import HandS.Deep
import HandS.More
import HandS.Codes
import HandS.Lambda
import KE.KDflt
import KE.IntTextLaws
import HandS.ExcOwn
import HandS.WordsExc
import KE.KStateDown
import HandS.Head0
import HandS.Head1
import HandS.Head2
import HandS.HeadEnd
import HandS.HeadHook1
import HandS.HeadHook2
import HandS.HeadHook3
import HandS.HeadHook4
import HandS.HeadWalk
import KE.KOpsOwn
import HandS.OwnEq
import PyProof.Rows.RuleN_abs
import PyProof.InstNe
import PySem.Challenge.RW_figurestay_k53_whole_gaps
import HandS.StrMore
import HandS.Text
import HandS.ExcIs
import KE.KExcIs
import PyProof.NeKinds
import HandS.Property
import HandS.Comp
import HandS.TryMany
import HandS.SortKw
import KE.DataMinKey
import PyProof.SeqI3
import Wide.Once
set_option Elab.async false
set_option linter.all false
set_option maxRecDepth 100000
set_option maxHeartbeats 4000000
/-! own layer, of no law: OWN -/
namespace Own
open PySem PySem.Spec PyProof.Rows L2
/-! ### heaps -/
/-- all but what stands at d is as it was -/
def Keep (d : Addr) (H H' : Hp) : Prop := ∀ b o, b ≠ d → H b = some o → H' b = some o
theorem Keep.refl {d : Addr} {H : Hp} : Keep d H H := fun _ _ _ e => e
theorem Keep.trans {d : Addr} {H H1 H2 : Hp} (a : Keep d H H1) (b : Keep d H1 H2) : Keep d H H2 := fun c o n e => b c o n (a c o n e)
theorem Keep.new {d p : Addr} {o : HO} {H : Hp} (h : H p = none) : Keep d H (upd H p o) := fun b u _ e => by
  rw [upd_ne (ne_of_none e h)]
  exact e
theorem Keep.at {d : Addr} {o : HO} {H : Hp} : Keep d H (upd H d o) := fun b u n e => by
  rw [upd_ne n]
  exact e
theorem Keep.same {d : Addr} {H H' : Hp} (s : Same H H') : Keep d H H' := fun b u _ e => s b u e
theorem same_new {H : Hp} {p : Addr} {o : HO} (h : H p = none) : Same H (upd H p o) := fun b u e => by
  rw [upd_ne (ne_of_none e h)]
  exact e
theorem ne_txt : ¬ (("cells" : Str) = "count") ∧ ¬ (("cells" : Str) = "left") ∧ ¬ (("count" : Str) = "left") ∧ ¬ (("count" : Str) = "cells") ∧ ¬ (("left" : Str) = "cells") ∧ ¬ (("left" : Str) = "count") := by decide +kernel
/-- what the pen's dict holds -/
def penK (p : Addr) (c l : Int) : List (Key × V) := [(Sum.inr "cells", V.ref p), (Sum.inr "count", V.int c), (Sum.inr "left", V.int l)]
theorem pen_cells (p : Addr) (c l : Int) : valV (penK p c l) (Sum.inr "cells" : Key) = some (.ref p) := valV_pos rfl
theorem pen_count (p : Addr) (c l : Int) : valV (penK p c l) (Sum.inr "count" : Key) = some (.int c) := by
  unfold penK
  rw [valV_neg (fun e => ne_txt.1 (Sum.inr.inj e)), valV_pos rfl]
theorem pen_left (p : Addr) (c l : Int) : valV (penK p c l) (Sum.inr "left" : Key) = some (.int l) := by
  unfold penK
  rw [valV_neg (fun e => ne_txt.2.1 (Sum.inr.inj e)), valV_neg (fun e => ne_txt.2.2.1 (Sum.inr.inj e)), valV_pos rfl]
theorem key_dec {a b : Str} (h : ¬ a = b) : decide ((Sum.inr a : Key) = Sum.inr b) = false := decide_eq_false fun e => h (Sum.inr.inj e)
theorem put_count (p : Addr) (c l c' : Int) : putK (penK p c l) (Sum.inr "count" : Key) (.int c') = penK p c' l := by
  unfold penK putK
  simp [key_dec ne_txt.1, key_dec ne_txt.2.2.1, key_dec ne_txt.2.2.2.2.2, ne_txt]
theorem put_left (p : Addr) (c l l' : Int) : putK (penK p c l) (Sum.inr "left" : Key) (.int l') = penK p c l' := by
  unfold penK putK
  simp [key_dec ne_txt.2.1, key_dec ne_txt.2.2.1, ne_txt]
/-- the pen stands at d: at most B draws were begun -/
structure Pen (H : Hp) (d : Addr) (B : Int) : Prop where
  ex : ∃ (p : Addr) (ns : List Int) (c l : Int), H d = some (.dK (penK p c l)) ∧ H p = some (.lst (ns.map V.int)) ∧ ns.length ≤ 63 ∧ 0 ≤ c ∧ c ≤ B
theorem Pen.mono {H : Hp} {d : Addr} {B B' : Int} (h : Pen H d B) (z : B ≤ B') : Pen H d B' := by
  obtain ⟨p, ns, c, l, a, b, e, f, g⟩ := h.ex
  exact ⟨p, ns, c, l, a, b, e, f, by omega⟩
theorem Pen.same {H H' : Hp} {d : Addr} {B : Int} (h : Pen H d B) (s : Same H H') : Pen H' d B := by
  obtain ⟨p, ns, c, l, a, b, e, f, g⟩ := h.ex
  exact ⟨p, ns, c, l, s _ _ a, s _ _ b, e, f, g⟩
end Own

/-! from L06 -/
namespace Own
open PySem PySem.Spec PyProof.Rows L2 LamX NdefX
/-- the integers that stand as defaults -/
def dInts : List Expr → List Int
  | .Constant (.int i) _ _ :: r => i :: dInts r
  | _ => []
/-- the tuple of defaults -/
def DfV (H : Hp) (dV : Value) (ds : List Int) : Prop := (ds = [] ∧ dV = .none) ∨ (ds ≠ [] ∧ ∃ T : Addr, dV = .ref T ∧ H T = some (.tup (ds.map V.int)))
def DfIn (h : Heap) (dV : Value) (us : List Value) : Prop := (us = [] ∧ dV = .none) ∨ (us ≠ [] ∧ ∃ T : Addr, dV = .ref T ∧ IsTup h T us.toArray)
/-- a lambda's words in F (its body apart), its defaults dV -/
abbrev lamFd (F : NF) (b : Expr) (dV doc pm ctv : Value) : FuncData := PySem.W.kdv_fn F.name F.qual F.params (.expr b) F.scope F.cl dV doc pm (.ref F.c) ctv
def LamO (f : Addr) (F : NF) (b : Expr) (dV : Value) : HO := .ext fun h => ∃ doc pm ctv : Value, h.get? f = some ({ cls := .type "function", data := .func (lamFd F b dV doc pm ctv) } : Obj)
/-- at f stands the lambda F, whose body is b -/
def LamAt (H : Hp) (f : Addr) (F : NF) (b : Expr) : Prop := ∃ dV : Value, H f = some (LamO f F b dV) ∧ DfV H dV (dInts F.params.defaults)
theorem lamO_ne {f : Addr} {F : NF} {b : Expr} {dV : Value} (ps : Array Value) : LamO f F b dV ≠ .tbl ps := fun z => by
  unfold LamO at z
  cases z
theorem LamAt.ext {H H' : Hp} {f : Addr} {F : NF} {b : Expr} (h : LamAt H f F b) (e : ExtN H H') : LamAt H' f F b := by
  obtain ⟨dV, h1, h2⟩ := h
  refine ⟨dV, e _ _ h1 lamO_ne, ?_⟩
  rcases h2 with z | ⟨n, T, z, q⟩
  · exact .inl z
  · exact .inr ⟨n, T, z, e _ _ q fun ps z => by cases z⟩
theorem lamO_at {P : Program} {w : World} {H : Hp} {h : Heap} {f : Addr} {F : NF} {b : Expr} (hok : HOk P w H h) (e : LamAt H f F b) :
    ∃ dV doc pm ctv : Value, h.get? f = some ({ cls := .type "function", data := .func (lamFd F b dV doc pm ctv) } : Obj) ∧ ∃ us : List Value, Vals ((dInts F.params.defaults).map V.int) us ∧ DfIn h dV us := by
  obtain ⟨dV, h1, h2⟩ := e
  obtain ⟨doc, pm, ctv, z⟩ := (hok f _ h1).1
  refine ⟨dV, doc, pm, ctv, z, ?_⟩
  rcases h2 with ⟨n, z⟩ | ⟨n, T, z, q⟩
  · rw [n]
    exact ⟨[], .nil, .inl ⟨rfl, z⟩⟩
  · obtain ⟨_, its, r, p⟩ := hok T _ q
    refine ⟨its, r, .inr ⟨fun z => ?_, T, z, p⟩⟩
    rw [z] at r
    cases hd : dInts F.params.defaults with
    | nil => exact n hd
    | cons a l =>
      rw [hd] at r
      cases r
section
variable {X : Cx} {pins : List (Addr × Obj)} {σ : L2.St} {H : Hp} {s : Shared}
theorem lam_laid {F : NF} {b : Expr} {dV doc pm ctv : Value} {t' : Nat} (I : Inv X pins σ H s) :
    Inv X pins σ (upd H s.heap.objs.size (LamO s.heap.objs.size F b dV)) { s with heap := s.heap.push ({ cls := .type "function", data := .func (lamFd F b dV doc pm ctv) } : Obj), toks := t' } := by
  have e : (s.heap.push ({ cls := .type "function", data := .func (lamFd F b dV doc pm ctv) } : Obj)).get? s.heap.objs.size = some ({ cls := .type "function", data := .func (lamFd F b dV doc pm ctv) } : Obj) := Heap.get?_push_size _ rfl
  exact I.laid (fun _ _ z => Heap.get?_push_of_some _ z) (Nat.le_refl _) ⟨⟨doc, pm, ctv, e⟩, ⟨_, e⟩, fun _ _ ⟨d, p, c, z⟩ k => ⟨d, p, c, k _ z⟩⟩
/-- the words of the lambda that X makes: c' its code object -/
abbrev lamF (X : Cx) (params : Arguments) (scope : Scope) (c' : Addr) : NF := ⟨"<lambda>", X.env.qual ++ "<lambda>", params, [], scope, cloFrom X.env.cells scope.names [], c'⟩
/-- a lambda made, its defaults laid, and known from now on -/
theorem lam_tail {T : List (Addr × Str)} {c P : Addr} {params : Arguments} {body : Expr} {scope : Scope} {pos : Pos} {fl : Nat} {dV : Value} {E Q : Value → Shared → Prop} (I : Inv X pins σ H s) (TB : TabB X.base X.mg c P) (hcode : X.env.code = .ref c)
    (hm : (P, X.env.qual ++ "<lambda>") ∈ T) (hu : ∀ p ∈ T, p.1 = P → p.2 = X.env.qual ++ "<lambda>") (hT : Tabs T H) (hfree : ∀ y ∈ scope.names, y.2 = .free → ∃ c, X.env.cells.lookup y.1 = some c)
    (k : ∀ (f c' : Addr) (H1 : Hp) (s' : Shared), Inv X pins σ H1 s' → ExtN H H1 → Tabs T H1 → H f = none → H1 f = some (LamO f (lamF X params scope c') body dV) → H1 c' = some (CodeO c' (X.env.qual ++ "<lambda>")) → Q (.ref f) s') :
    wpAny (model X.prog X.w) X.A (makeTail "<lambda>" (X.env.qual ++ "<lambda>") params (.expr body) scope X.env dV .none none pos fl) Q E s := by
  have hTP := hT (P, X.env.qual ++ "<lambda>") hm
  obtain ⟨ps, hP, trip, among⟩ := hTP
  have oP : s.heap.get? P = some { cls := .none, data := .fields ps } := I.hok P _ hP
  have bl := TB.bm.keeps I.bk
  have gl := I.mod.glob.keeps I.bk
  have cd := TB.code.keeps I.bk
  rcases hc : codeAmong pos ps.toList with _ | cv
  · refine PySem.W.kdv_makeTail (closure_ok hfree) I.ok.glob gl hcode cd oP trip hc TB.gP bl ?_
    intro c' ctv doc h' tk hx hge hlt hrec htb
    obtain ⟨c0, oc, vs, t, hc0, hoc, hdc, hvc⟩ := hrec
    obtain rfl : c0 = c' := (Value.ref.inj hc0).symm
    have fresh : H c0 = none := I.hok.fresh hge
    have I1 := inv_table (t' := tk) (q := X.env.qual ++ "<lambda>") (h' := h') I hP (fun b o n e => hx b o n e) htb hge ⟨oc, vs, t, hoc, hdc, hvc⟩
    generalize eH1 : upd (upd H P (.tbl (ps ++ #[rawInt pos.line, rawInt pos.col, .ref c0]))) c0 (CodeO c0 (X.env.qual ++ "<lambda>")) = H1 at I1
    have at1 : H1 c0 = some (CodeO c0 (X.env.qual ++ "<lambda>")) := by rw [← eH1]; exact upd_same
    have ext1 : ExtN H H1 := fun b o e n => by
      have b1 : b ≠ c0 := ne_of_none e fresh
      have b2 : b ≠ P := fun z => n ps (Option.some.inj (e.symm.trans (z ▸ hP)))
      rw [← eH1, upd_ne b1, upd_ne b2]
      exact e
    have tabs1 : Tabs T H1 := fun p hp => by
      by_cases hb : p.1 = P
      · have hq := hu p hp hb
        rw [hq, hb]
        refine ⟨ps ++ #[rawInt pos.line, rawInt pos.col, .ref c0], ?_, ?_, fun p' cv hcv => ?_⟩
        · rw [← eH1, upd_ne (ne_of_none hP fresh), upd_same]
        · rw [Array.toList_append]
          exact PySem.TriplesOk_snoc _ _ _ _ trip
        · rw [Array.toList_append] at hcv
          rcases among_app _ trip hcv with z | z
          · obtain ⟨c1, a1, a2⟩ := among p' cv z
            exact ⟨c1, a1, ext1 _ _ a2 codeO_ne⟩
          · exact ⟨c0, z, at1⟩
      · obtain ⟨qs, a1, a2, a3⟩ := hT p hp
        refine ⟨qs, ?_, a2, fun p' cv hcv => ?_⟩
        · rw [← eH1, upd_ne (ne_of_none a1 fresh), upd_ne hb]
          exact a1
        · obtain ⟨c1, b1, b2⟩ := a3 p' cv hcv
          exact ⟨c1, b1, ext1 _ _ b2 codeO_ne⟩
    have nf1 : H1 h'.objs.size = none := I1.hok.fresh (Nat.le_refl _)
    have I2 := lam_laid (F := lamF X params scope c0) (b := body) (dV := dV) (doc := doc) (pm := (X.mg "__name__").getD .none) (ctv := ctv) (t' := tk) I1
    have up : ∀ b o, H1 b = some o → upd H1 h'.objs.size (LamO h'.objs.size (lamF X params scope c0) body dV) b = some o := fun b o e => (upd_ne (ne_of_none e nf1)).trans e
    exact k _ c0 _ _ I2 (ext1.trans (ExtN.of up)) (tabs1.ext up) (I.hok.fresh (Nat.le_trans hge (Nat.le_of_lt hlt))) upd_same (up _ _ at1)
  · obtain ⟨c', rfl, at0⟩ := among pos cv hc
    refine PySem.W.kdv_makeTailHit (closure_ok hfree) I.ok.glob gl hcode cd oP trip hc bl ?_
    intro ctv doc h' tk hx hsz
    have I1 : Inv X pins σ H { s with heap := h', toks := tk } := I.kept hx
    have nf1 : H h'.objs.size = none := I1.hok.fresh (Nat.le_refl _)
    have I2 := lam_laid (F := lamF X params scope c') (b := body) (dV := dV) (doc := doc) (pm := (X.mg "__name__").getD .none) (ctv := ctv) (t' := tk) I1
    have up : ∀ b o, H b = some o → upd H h'.objs.size (LamO h'.objs.size (lamF X params scope c') body dV) b = some o := fun b o e => (upd_ne (ne_of_none e nf1)).trans e
    exact k _ c' _ _ I2 (ExtN.of up) (hT.ext up) nf1 upd_same (up _ _ at0)
/-- the reading of a lambda as a value -/
def tLamV (X : Cx) (T : List (Addr × Str)) (params : Arguments) (body : Expr) (scope : Scope) : TE := fun _ H Q => Tabs T H ∧ ∀ (f c' : Addr) (H1 : Hp), ExtN H H1 → Tabs T H1 → H f = none →
  LamAt H1 f (lamF X params scope c') body → H1 c' = some (CodeO c' (X.env.qual ++ "<lambda>")) → Q (.ref f) H1
theorem pe_lamV {T : List (Addr × Str)} {c P : Addr} {params : Arguments} {body : Expr} {scope : Scope} {pos : Pos} (TB : TabB X.base X.mg c P) (hcode : X.env.code = .ref c) (hm : (P, X.env.qual ++ "<lambda>") ∈ T)
    (hu : ∀ p ∈ T, p.1 = P → p.2 = X.env.qual ++ "<lambda>") (hdef : params.defaults = []) (hkd : params.kw_defaults = []) (hfr : ∀ y ∈ scope.names, y.2 = .free → X.env.scope.names.lookup y.1 = some .cell ∨ X.env.scope.names.lookup y.1 = some .free) :
    PE X (.Lambda params body scope pos) (tLamV X T params body scope) := by
  refine ⟨fun pins s σ H Q I h => PySem.W.kla_eval ?_ ?_⟩
  · rw [defaultsOf_eq, hdef, hkd]
    rfl
  rw [makeFunction_eq]
  simp only [List.zip_nil_right, List.filterMap_nil, List.isEmpty_nil, if_true, pure_bind]
  refine lam_tail I TB hcode hm hu h.1 (fun y hy e => ?_) fun f c' H1 s' I1 e1 t1 n1 a1 b1 => ⟨.ref f, H1, I1, rfl, h.2 f c' H1 e1 t1 n1 ⟨.none, a1, .inl ⟨by show dInts params.defaults = []; rw [hdef] <;> rfl, rfl⟩⟩ b1⟩
  rcases hfr y hy e with z | z
  · exact I.ok.has _ (.inl z)
  · exact I.ok.has _ (.inr z)
/-- .. with one integer as default -/
theorem pe_lamV1 {T : List (Addr × Str)} {c P : Addr} {params : Arguments} {body : Expr} {scope : Scope} {pos p1 : Pos} {i : Int} {j : Nat} (TB : TabB X.base X.mg c P) (hcode : X.env.code = .ref c) (hm : (P, X.env.qual ++ "<lambda>") ∈ T)
    (hu : ∀ p ∈ T, p.1 = P → p.2 = X.env.qual ++ "<lambda>") (hdef : params.defaults = [.Constant (.int i) j p1]) (hkd : params.kw_defaults = []) (hfr : ∀ y ∈ scope.names, y.2 = .free → X.env.scope.names.lookup y.1 = some .cell ∨ X.env.scope.names.lookup y.1 = some .free) :
    PE X (.Lambda params body scope pos) (tLamV X T params body scope) := by
  refine ⟨fun pins s σ H Q I h => PySem.W.kdv_lam (by rw [hdef]; rfl) hkd ?_⟩
  rw [hdef]
  refine PySem.W.kdv_all1 (thn ((pe_int (X := X) (i := i) (j := j) (pos := p1)).run pins s σ H (fun v H1 => v = .int i ∧ H1 = H) I ⟨rfl, rfl⟩) ?_)
  rintro u s1 ⟨v, H1, I1, r1, rfl, rfl⟩
  refine PySem.W.kdv_all0 ?_
  rw [makeFunction_eq]
  simp only [List.zip_nil_right, List.filterMap_nil, List.isEmpty_nil, List.isEmpty_cons, if_true, pure_bind, Bool.false_eq_true, if_false]
  refine wpAny_bind (wpAny_newTextTuple ?_)
  have nT : H1 s1.heap.objs.size = none := I1.hok.fresh (Nat.le_refl _)
  have I2 : Inv X pins σ (upd H1 s1.heap.objs.size (.tup [.int i])) { s1 with heap := s1.heap.push { cls := .type "tuple", data := .seq [u].toArray } } :=
    I1.laid (t' := s1.toks) (fun _ _ z => Heap.get?_push_of_some _ z) (Nat.le_refl _) ⟨by show 1 ≤ sizeLine; decide, [u], .cons r1 .nil, IsTup.new s1.heap _⟩
  have up : ∀ b o, H1 b = some o → upd H1 s1.heap.objs.size (HO.tup [V.int i]) b = some o := fun b o e => (upd_ne (ne_of_none e nT)).trans e
  refine lam_tail I2 TB hcode hm hu (h.1.ext up) (fun y hy e => ?_) fun f c' H2 s' I3 e1 t1 n1 a1 b1 => ⟨.ref f, H2, I3, rfl, h.2 f c' H2 ((ExtN.of up).trans e1) t1 ?_ ⟨_, a1, .inr ⟨?_, _, rfl, ?_⟩⟩ b1⟩
  · rcases hfr y hy e with z | z
    · exact I.ok.has _ (.inl z)
    · exact I.ok.has _ (.inr z)
  · cases q : H1 f with
    | none => rfl
    | some o => exact (Option.some_ne_none _ ((up _ _ q).symm.trans n1)).elim
  · show dInts params.defaults ≠ []
    rw [hdef]
    simp [dInts]
  · show H2 s1.heap.objs.size = some (.tup ((dInts params.defaults).map V.int))
    rw [hdef]
    exact e1 _ _ upd_same fun ps z => by cases z
end
/-! ### what a lambda promises -/
structure LOk (P : Program) (w : World) (K : PySem.W.Frag) (mg : Str → Option Value) (base : Heap) (CX : CXT) (k : Nat) (f : Addr) (F : NF) (b : Expr) (fr : List Str) (sp : List (Option V) → Hp → VK → XK → Prop) : Prop where
  run : ∀ (A : Around) (outer : List Env) (s : Shared) (H : Hp) (ws : List (Option V)) (Q : VK) (E : XK), Room k A → Env0 P w K mg base A outer s H → LamAt H f F b → H F.c = some (CodeO F.c F.qual) →
    CellsAt F.cl fr ws s.heap H → sp ws H Q E → codeAny (model P w) A (.call (.ref f) ⟨[], []⟩) (CR CX outer P w H s Q E) s
section
variable {CX : CXT} {P : Program} {w : World} {K : PySem.W.Frag} {mg : Str → Option Value} {base : Heap} {N ps fr : List Str} {F : NF} {b : Expr} {f : Addr} {k : Nat} {sp : List (Option V) → Hp → VK → XK → Prop}
theorem lok_of (S : NScope N ps fr F.scope) (hl : (dInts F.params.defaults).length = ps.length)
    (hb : ∀ (dV doc pm ctv : Value) (s : Shared) (us : List Value), us.length = ps.length → DfIn s.heap dV us → BindsTo s (lamFd F b dV doc pm ctv) ⟨[], []⟩ (ps.zip us))
    (hbody : ∀ (A : Around) (outer : List Env) (s : Shared) (H : Hp) (ws : List (Option V)) (Q : VK) (E : XK), Room k (A.deeper (envF F f s.heap.objs.size)) → ws.length = fr.length → sp ws H Q E →
      ∃ t, PE (ncx CX P w K mg base N F f A outer s H E) b t ∧ t (startF N ((dInts F.params.defaults).map V.int) ws) H Q) : LOk P w K mg base CX (k + 1) f F b fr sp := by
  refine ⟨fun A outer s H ws Q E hr e0 hf hc C hsp => ?_⟩
  have lim : s.heap.NoLimit := e0.mod.nolimit.keeps fun b o e => (e0.bs b o e).1
  obtain ⟨dV, doc, pm, ctv, ho, us, rus, hd⟩ := lamO_at e0.hok hf
  have hlu : us.length = ps.length := by rw [← rus.length, List.length_map, hl]
  refine PySem.W.kla_callFunE hr.depth ho rfl S.co S.gen rfl (codeO_at e0.hok hc) ?_
  refine hb dV doc pm ctv s us hlu hd _ _ _ _ ?_
  refine wpAny_newFunctionEnv S.nocell (fun ⟨n, v⟩ hy => S.par n (List.of_mem_zip hy).1) (fun h₁ hns hsb => ⟨lim.fresh _ hsb, ?_⟩) S.kind
  show codeAny _ _ (.expr b (envF F f s.heap.objs.size)) _ _
  obtain ⟨t, ht, hq⟩ := hbody A outer s H ws Q E (hr.deeper _) C.len hsp
  have old : ∀ b o, s.heap.get? b = some o → h₁.get? b = some o := fun b o e => hsb.extBut b o (Nat.ne_of_lt (Heap.lt_size e)) (Heap.get?_push_of_some _ e)
  have I := inv_startN (CX := CX) (N := N) (F := F) (f := f) (E := E) (us := us) (vs := (dInts F.params.defaults).map V.int) (tk := s.toks + (ps.zip us).length) S hr.hd e0 (by rw [List.length_map, hl]) rus C hns old
  refine PySem.W.kla_codeExpr (wpAny_mono (ht.run [] _ _ H Q I hq) (fun v s' q => ?_) fun e s' q => q)
  obtain ⟨x, H', J, rx, q⟩ := q
  exact ⟨x, H', J.os, J.bare, J.base, J.hok, rx, q⟩
end
end Own

/-! from M06 -/
namespace Own
open PySem PySem.Spec PyProof.Rows L2 LamX NdefX
section
variable {X : Cx} {pins : List (Addr × Obj)} {σ : L2.St} {H : Hp} {s : Shared} {cl : List (Str × Addr)} {fr : List Str} {ws : List (Option V)}
/-- what captured cells held at the entry they hold still -/
theorem cells_still (C : CellsAt cl fr ws X.s_0.heap X.H_0) (hx : ∀ b, b ∉ X.ex ∨ ∀ y, cl.lookup y ≠ some b) (I : Inv X pins σ H s) : CellsAt cl fr ws s.heap H := by
  have nx : ∀ {y c}, cl.lookup y = some c → c ∉ X.ex := fun {y c} e => (hx c).elim id fun z => absurd e (z y)
  have still : ∀ {y c v}, cl.lookup y = some c → X.s_0.heap.IsCell c v → s.heap.IsCell c v := fun {y c v} e ⟨o, ho, hd⟩ => by
    obtain ⟨sl, z⟩ := I.base.any ho (C.all y c e).1 (nx e)
    exact ⟨_, z, hd⟩
  constructor
  · exact C.len
  · intro y c e
    obtain ⟨n, v, z⟩ := C.all y c e
    obtain ⟨o, ho, _⟩ := id z
    exact ⟨I.base.free c o ho n (nx e), v, still e z⟩
  · exact C.inj
  · intro i y e
    obtain ⟨c, hc, hv⟩ := C.has i y e
    refine ⟨c, hc, fun v ev => ?_⟩
    obtain ⟨u, r, z⟩ := hv v ev
    exact ⟨u, r, still hc z⟩
/-- the call of a made lambda -/
theorem run_lam {CX : CXT} {k : Nat} {f : Addr} {F : NF} {b : Expr} {sp : List (Option V) → Hp → VK → XK → Prop} {Q : VK} {E : XK} (G : LOk X.prog X.w X.K X.mg X.base CX k f F b fr sp) (hr : Room k X.A) (hx : Passes CX X E) (I : Inv X pins σ H s)
    (hf : LamAt H f F b) (hc : H F.c = some (CodeO F.c F.qual)) (C : CellsAt F.cl fr ws s.heap H) (q : sp ws H Q E) : wpAny (model X.prog X.w) X.A (call (.ref f) []) (EP X pins σ Q) X.xe s := by
  refine wpAny_call (codeAny_mono (G.run _ _ _ _ _ _ _ hr I.env0 hf hc C q) fun r s' z => ?_)
  rcases r with e | fl
  · exact hx pins σ H s e s' I z
  · cases fl
    case ret u => exact I.after z
    all_goals exact False.elim z
/-- deed(), deed a name whose slot holds a lambda; what it captured is known at the entry of this very def -/
theorem pe_deed {CX : CXT} {k i : Nat} {f : Addr} {F : NF} {b : Expr} {sp : List (Option V) → Hp → VK → XK → Prop} {E : XK} {a : Str} {p1 p2 : Pos} (C : CellsAt F.cl fr ws X.s_0.heap X.H_0) (hex : X.ex = []) (G : LOk X.prog X.w X.K X.mg X.base CX k f F b fr sp) (hr : Room k X.A)
    (hx : Passes CX X E) (hN : X.N[i]? = some a) (hv : Vis X.env.scope a) (hd : (a == ("__debug__" : Str)) = false := by decide) (hcd : (a == ("__classdict__" : Str)) = false := by decide) :
    PE X (.Call (.Name a p1) [] [] p2) (fun σ H Q => σ[i]? = some (some (.ref f)) ∧ LamAt H f F b ∧ H F.c = some (CodeO F.c F.qual) ∧ sp ws H Q E) := by
  constructor
  intro pins s σ H Q I h
  obtain ⟨hs, hf, hc, q⟩ := h
  refine wpAny_Call_Name_kw (thn ((pe_var (pos := p1) hN hv hd hcd).run pins s σ H (fun v H1 => v = .ref f ∧ H1 = H) I ⟨.ref f, hs, rfl, rfl⟩) ?_)
  rintro u s1 ⟨v, H1, I1, r1, rfl, rfl⟩
  obtain rfl : u = Value.ref f := r1
  obtain ⟨dV, doc, pm, ctv, ho, _⟩ := lamO_at I1.hok hf
  refine PySem.W.callWith_F0 ⟨_, _, _, _, ho⟩ ?_
  exact run_lam G hr hx I1 hf hc (cells_still C (fun _ => .inl (by rw [hex]; simp)) I1) q
end
section
variable {X : Cx}
/-- a list comprehension's reading, the element's depending on the def's slots as the block begins -/
def tLcD (wi : TI) (g : TG) (te : L2.St → TE) (vs : List Nat) : TE := fun σ H Q => tLc wi g tYes (te σ) vs σ H Q
theorem pe_lcD {elt tg iter : Expr} {scope : Scope} {own : List (Str × Nat)} {pos : Pos} {wi : TI} {g : TG} {te : L2.St → TE} (hc : X.calm = true) (hN : X.N.Nodup) (hi : PI X tg iter wi) (ok : BlkOk X.N X.env.scope scope own)
    (hg : ∀ (s : Shared) (H : Hp) (C : Addr) (cl : List (Str × Addr)) (fp : List Addr), PG (X.blk s H scope (compEnvC scope cl C X.env) fp) tg g)
    (he : ∀ (pins : List (Addr × Obj)) (σ : L2.St) (s : Shared) (H : Hp) (C : Addr) (cl : List (Str × Addr)) (fp : List Addr), Inv X pins σ H s → (∀ b ∈ fp, FpOk X pins H b) → PE (X.blk s H scope (compEnvC scope cl C X.env) fp) elt (te σ))
    (hs : ∀ x, foldedSetIterable iter X.env x = pure x := by intro _; rfl) : PE X (.ListComp elt [⟨tg, iter, [], 0⟩] scope pos) (tLcD wi g te (own.map (·.2))) := by
  constructor
  intro pins s σ H Q I h
  have cap : ∀ y ∈ scope.names, y.2 = .free → ∃ c, X.env.cells.lookup y.1 = some c := fun y hy e => (ok.free y hy e).elim (fun z => I.ok.has _ (.inl z)) (fun z => I.ok.has _ (.inr z))
  rw [eval_ListComp]
  refine wpAny_comprehension_free (use := none) rfl hs (closure_ok cap) ok.kind (fun y hy e => (ok.uniq y hy).trans (congrArg some e)) ?_
  refine thn (hi.run pins s σ H _ I h) fun itr sA hA => thn hA fun _ sB hB => ?_
  obtain ⟨it, fp, tn, J, HB, rfl, IB, T, tB, fB, q⟩ := hB
  have nD : HB sB.heap.objs.size = none := IB.hok.fresh (Nat.le_refl _)
  obtain ⟨W, ⟨m0, w0⟩, turn⟩ := q _ nD
  refine wpAny_newObj_type (newEnv_comp ?_) (by show 0 ≤ sizeLine; decide)
  have inSz : ∀ b ∈ fp, b < sB.heap.objs.size := fun b hb => (T.obj _ _ tB b hb).elim fun _ z => Heap.lt_size z.1
  -- the new list stands
  generalize hsC : ({ sB with heap := sB.heap.push { cls := .type "list", data := .seq ([] : List Value).toArray } } : Shared) = sC
  have heapC : sC.heap = sB.heap.push { cls := .type "list", data := .seq ([] : List Value).toArray } := by subst hsC; rfl
  have toC : ∀ b o, sB.heap.get? b = some o → sC.heap.get? b = some o := fun b o z => by rw [heapC]; exact Heap.get?_push_of_some _ z
  generalize hD : sB.heap.objs.size = D at nD w0 turn inSz
  have IC : Inv X pins σ (upd HB D (.lst [])) sC := by
    have z := IB.laid (a := D) (o := .lst []) (t' := sB.toks) (h' := sC.heap) toC (Nat.le_of_eq hD) ⟨Nat.zero_le _, [], 0, .nil, by rw [heapC, ← hD]; exact Heap.get?_push_size _ rfl⟩
    subst hsC
    exact z
  generalize hHC : upd HB D (.lst []) = HC at IC w0
  have fC : ∀ b ∈ fp, FpOk X pins HC b ∧ b < sC.heap.objs.size := fun b hb => by
    have lt := inSz b hb
    refine ⟨⟨?_, (fB b hb).2⟩, ?_⟩
    · rw [← hHC, upd_ne (Nat.ne_of_lt lt)]
      exact (fB b hb).1
    · rw [heapC, Heap.size_push, hD]
      exact Nat.lt_succ_of_lt lt
  have tC : tn 0 sC.heap := T.keep _ _ _ tB fun b _ o z => toC b o z
  have blk := block_start IC ok hN fC
  generalize hcl : cellsFrom (sC.heap.objs.size + 1) scope.names (cloFrom X.env.cells scope.names []) = cells at blk ⊢
  have hgB := hg sC HC sC.heap.objs.size cells fp
  have heB := he pins σ sC HC sC.heap.objs.size cells fp IC (fun b hb => (fC b hb).1)
  have htB : PTs (X.blk sC HC scope (compEnvC scope cells sC.heap.objs.size X.env) fp) [] tYes := pts_nil
  show codeAny _ _ (.compStart (.ListComp elt [⟨tg, iter, [], 0⟩] scope pos) 0 (.ref it) (.ref D) (compEnvC scope cells sC.heap.objs.size X.env)) (compPost (model X.prog X.w) X.A X.xe none (EP X pins σ Q) (.ref D) sC.heap.objs.size) { sC with heap := pushCells (sC.heap.push { cls := .type "dict", data := .dict #[] }) scope.names }
  generalize hce : compEnvC scope cells sC.heap.objs.size X.env = ce at blk hgB heB htB ⊢
  have ceL : ce.locals = sC.heap.objs.size := by rw [← hce]; rfl
  generalize hsE : ({ sC with heap := pushCells (sC.heap.push { cls := .type "dict", data := .dict #[] }) scope.names } : Shared) = sE at blk ⊢
  have tE : tn 0 sE.heap := T.keep _ _ _ tC fun b _ o z => by rw [← hsE]; exact pushCells_keeps _ _ _ _ (Heap.get?_push_of_some _ z)
  -- the iterator's objects as the block sees them
  have seen : ∀ {σ' : L2.St} {H' : Hp} {s' : Shared}, Inv (X.blk sC HC scope ce fp) [] σ' H' s' → (∀ b ∈ fp, H' b = none) → ∀ b ∈ fp, FpOk (X.blk sC HC scope ce fp) [] H' b := fun {σ' H' s'} J' n b hb => by
    have z1 := J'.ok.exf b hb
    exact ⟨n b hb, z1.1, J'.ok.exfs b hb, .inl hb, z1.2, fun p hp => absurd (show p ∈ ([] : List (Addr × Obj)) ++ [] from hp) (by simp)⟩
  have whole : codeAny (model X.prog X.w) X.A (.compLoop (.ListComp elt [⟨tg, iter, [], 0⟩] scope pos) 0 (.ref it) (.ref D) ce) (compPost (model X.prog X.w) X.A X.xe none (EP X pins σ Q) (.ref D) sC.heap.objs.size) sE := by
    refine compLoop_any (fun n s' => ∃ (i : Nat) (H' : Hp), W i n H' ∧ (∀ b ∈ fp, H' b = none) ∧ tn i s'.heap ∧ Inv (X.blk sC HC scope ce fp) [] (wipe σ (own.map (·.2))) H' s') ?_ m0 ⟨0, HC, w0, fun b hb => (fC b hb).1.1, tE, blk⟩
    rintro n sF ⟨i, HF, wF, nF, tF, IF⟩
    rcases turn i n HF wF with ⟨hstop, hq⟩ | ⟨hgo, Nx, hNx, step⟩
    · have fin := T.done (X.blk sC HC scope ce fp) rfl rfl rfl hc i [] sF _ HF (fun _ _ => False) IF (seen IF nF) tF hstop
      refine thnF fin ?_
      rintro _ sG ⟨rfl, IG⟩
      have IX : Inv X pins σ HF sG := IC.call' (ch := fp) IG.os IG.base IG.hok IG.bare fun b hb => by
        obtain ⟨⟨_, a1, a2, a3, a4, a5⟩, _⟩ := fC b hb
        exact ⟨a3, a1, a4, a5⟩
      have free : HF sC.heap.objs.size = none := by
        have z : HF ce.locals = none := IG.free
        rw [← ceL]
        exact z
      obtain ⟨m, hn, _⟩ := IG.loc
      have hn : sG.heap.Ns ce.locals m := hn
      rw [ceL] at hn
      obtain ⟨f0, f1, f2, f3, f4, f5⟩ := IC.fpOk (H' := HF) (Nat.le_refl _) free
      exact ⟨m, hn, fun h2 sb => ⟨.ref D, HF, IX.turned (t' := sG.toks) (fun b o hb e => (sb.2 b hb).trans e) f0 f1 f3 f4 f5, rfl, hq⟩⟩
    · have nxt := T.item (X.blk sC HC scope ce fp) rfl rfl rfl hc i [] sF _ HF (fun _ _ => False) IF (seen IF nF) tF hgo
      refine thnF nxt ?_
      rintro _ sG ⟨u, rfl, hG⟩
      refine thnF hG ?_
      rintro _ sI ⟨x, HI, II, rI, yI, tI, nI⟩
      have pinned := II.pinned (seen II nI) (T.obj _ _ tI)
      refine thnF (hgB.run _ sI _ HI x u _ pinned rI (step x HI yI)) ?_
      rintro _ sJ ⟨σJ, HJ, IJ, hwJ, qJ⟩
      refine thnF (htB.run _ sJ σJ HJ _ IJ qJ) ?_
      rintro b sK ⟨HK, IK, qK⟩
      have again : ∀ {s' : Shared} {H' : Hp}, Inv (X.blk sC HC scope ce fp) ([] ++ pinsAt fp sI.heap) σJ H' s' → Nx H' → ∃ m, m < n ∧ ∃ (i : Nat) (H' : Hp), W i m H' ∧ (∀ b ∈ fp, H' b = none) ∧ tn i s'.heap ∧ Inv (X.blk sC HC scope ce fp) [] (wipe σ (own.map (·.2))) H' s' := fun {s' H'} J' hx => by
        obtain ⟨m', lt, w'⟩ := hNx H' hx
        have pn : ∀ b ∈ fp, ∀ o, sI.heap.get? b = some o → s'.heap.get? b = some o ∧ H' b = none := fun b hb o z => by
          have y := J'.pin (b, o) (List.mem_append_right _ (List.mem_append_right _ (mem_pinsAt hb z)))
          exact ⟨y.1, y.2.1⟩
        refine ⟨m', lt, i + 1, H', w', fun b hb => ?_, T.keep _ _ _ tI fun b hb o z => (pn b hb o z).1, ?_⟩
        · obtain ⟨o, z, _⟩ := T.obj _ _ tI b hb
          exact (pn b hb o z).2
        · refine (J'.unpinned (pins := [])).weak (by rw [← hwJ, wipe_length]) fun j v z => ?_
          rw [← hwJ] at z
          exact (wipe_some z).1
      cases b
      case false =>
        simp only [Bool.false_eq_true, if_false] at qK ⊢
        exact again IK qK
      case true =>
        simp only [if_true] at qK ⊢
        refine thnF (heB.run _ sK σJ HK _ IK qK) ?_
        rintro z sL ⟨y, HL, IL, rL, acc, hacc, hlen, hnx⟩
        exact app_ok (X := X.blk sC HC scope ce fp) IL hacc hlen rL fun sM IM => again IM hnx
  exact codeAny_compStart_list whole (T.self X.A 0 _ _ _ tE whole)
end
end Own

/-! from N06 -/
namespace Own
open PySem PySem.Spec PyProof.Rows L2 LamX NdefX
/-- a def of the text as its callers know it -/
structure DefOk (P : Program) (w : World) (K : PySem.W.Frag) (mg : Str → Option Value) (base : Heap) (CX : CXT) (x : Str) (k : Nat) (ps : List Str) (sp : Sp) : Prop where
  ex : ∃ (f : Addr) (fd : FuncData), FnOk P w K mg base CX k f fd ps sp ∧ mg x = some (.ref f) ∧ PySem.W.keepIn K (.ref f) = true ∧ Binds K fd ps []
/-- .. as the top has left it -/
structure At (K : PySem.W.Frag) (mg : Str → Option Value) (x : Str) (st : Stmt) (ps : List Str) : Prop where
  ex : ∃ (f : Addr) (fd : FuncData), Fun K x x st f fd ∧ mg x = some (.ref f) ∧ Binds K fd ps []
theorem At.ok {P : Program} {w : World} {K : PySem.W.Frag} {mg : Str → Option Value} {base : Heap} {CX : CXT} {x : Str} {st : Stmt} {k : Nat} {ps : List Str} {sp : Sp} (a : At K mg x st ps) (h : ∀ (f : Addr) (fd : FuncData), Fun K x x st f fd → FnOk P w K mg base CX k f fd ps sp) :
    DefOk P w K mg base CX x k ps sp := by
  obtain ⟨f, fd, F, g, b⟩ := a.ex
  exact ⟨f, fd, h f fd F, g, F.kp, b⟩
section
variable {X : Cx} {CX : CXT} {k j : Nat} {ps : List Str} {sp : Sp} {E : XK} {x : Str} {p pos : Pos} {e : Expr} {es : List Expr} {t : TA}
theorem pe_def (D : DefOk X.prog X.w X.K X.mg X.base CX x k ps sp) (hr : Room j X.A) (hj : k ≤ j) (hg : Gl X x) (hx : Passes CX X E) (ha : PA X (e :: es) t) (hdb : (x == ("__debug__" : Str)) = false := by decide)
    (he : starEach (e :: es) X.env = (false, eval e X.env) :: starEach es X.env := by rfl) (hpl : (backTo pos (starEach es X.env)).any (·.1) = false := by rfl) : PE X (.Call (.Name x p) (e :: es) [] pos) (tCall sp [] E t) := by
  obtain ⟨f, fd, F, g, kp, b⟩ := D.ex
  exact pe_call F (hr.mono hj) hg g kp b .nil hx ha hdb he hpl
theorem pe_def0 (D : DefOk X.prog X.w X.K X.mg X.base CX x k ps sp) (hr : Room j X.A) (hj : k ≤ j) (hg : Gl X x) (hx : Passes CX X E) (hdb : (x == ("__debug__" : Str)) = false := by decide) : PE X (.Call (.Name x p) [] [] pos) (tCall sp [] E tNil) := by
  obtain ⟨f, fd, F, g, kp, b⟩ := D.ex
  exact pe_call0 F (hr.mono hj) hg g kp b .nil hx hdb
end
/-- a def whose first argument is a lambda; sp: what it makes of the lambda's promise and of the other arguments -/
structure LamDef (P : Program) (w : World) (K : PySem.W.Frag) (mg : Str → Option Value) (base : Heap) (g : Addr) (k : Nat) (sp : (Hp → VK → XK → Prop) → List V → Hp → VK → Prop) : Prop where
  run : ∀ (A : Around) (outer : List Env) (s : Shared) (H : Hp) (us : List Value) (f : Addr) (vs : List V) (F : NF) (b : Expr) (fr : List Str) (ws : List (Option V)) (spl : List (Option V) → Hp → VK → XK → Prop) (kl : Nat) (Q : VK), Room k A → kl < k → Env0 P w K mg base A outer s H →
    Vals (.ref f :: vs) us → LOk P w K mg base (L2.CX P w) kl f F b fr spl → LamAt H f F b → H F.c = some (CodeO F.c F.qual) → CellsAt F.cl fr ws s.heap H → sp (spl ws) vs H Q →
    codeAny (model P w) A (.call (.ref g) ⟨us, []⟩) (CR CX0 outer P w H s Q E0) s
structure LamDefAt (P : Program) (w : World) (K : PySem.W.Frag) (mg : Str → Option Value) (base : Heap) (x : Str) (k : Nat) (sp : (Hp → VK → XK → Prop) → List V → Hp → VK → Prop) : Prop where
  ex : ∃ g : Addr, LamDef P w K mg base g k sp ∧ mg x = some (.ref g) ∧ PySem.W.keepIn K (.ref g) = true
/-- one of several lambdas: its words by its code object's address, its body, the captured names and their values, its promise -/
structure Lam where
  nf : Addr → NF
  b : Expr
  fr : List Str
  ws : List (Option V)
  sp : List (Option V) → Hp → VK → XK → Prop
def tLamCall {ι : Type} (L : ι → Lam) (sp : (Hp → VK → XK → Prop) → List V → Hp → VK → Prop) (t : TA) : TE := fun σ H Q => t σ H fun vs H1 => ∃ (i : ι) (f c' : Addr) (rest : List V), vs = .ref f :: rest ∧ LamAt H1 f ((L i).nf c') (L i).b ∧
  H1 ((L i).nf c').c = some (CodeO ((L i).nf c').c ((L i).nf c').qual) ∧ sp ((L i).sp (L i).ws) rest H1 Q
theorem pe_lamcall {ι : Type} {X : Cx} {L : ι → Lam} {k kl j : Nat} {sp : (Hp → VK → XK → Prop) → List V → Hp → VK → Prop} {x : Str} {p pos : Pos} {e : Expr} {es : List Expr} {t : TA} (D : LamDefAt X.prog X.w X.K X.mg X.base x k sp) (hkl : kl < k) (hr : Room j X.A) (hj : k ≤ j)
    (G : ∀ (i : ι) (f c' : Addr), LOk X.prog X.w X.K X.mg X.base (L2.CX X.prog X.w) kl f ((L i).nf c') (L i).b (L i).fr (L i).sp) (C : ∀ (i : ι) (c' : Addr), CellsAt ((L i).nf c').cl (L i).fr (L i).ws X.s_0.heap X.H_0) (hxc : ∀ (i : ι) (c' b : Addr), b ∉ X.ex ∨ ∀ y, ((L i).nf c').cl.lookup y ≠ some b)
    (hg : Gl X x) (ha : PA X (e :: es) t) (hdb : (x == ("__debug__" : Str)) = false := by decide) (he : starEach (e :: es) X.env = (false, eval e X.env) :: starEach es X.env := by rfl) (hpl : (backTo pos (starEach es X.env)).any (·.1) = false := by rfl) :
    PE X (.Call (.Name x p) (e :: es) [] pos) (tLamCall L sp t) := by
  obtain ⟨g, R, gm, kp⟩ := D.ex
  constructor
  intro pins s σ H Q I h
  refine wpAny_Call_Name_kw (ld_glob I hg gm ?_ hdb)
  refine PySem.W.callWith_K (h₀ := X.base) I.ok.mod.kin kp (thn (ha.run pos pins s σ H _ I h) ?_) he hpl
  rintro us s1 ⟨vs, H1, I1, r, i, f, c', rest, rfl, hf, hc, q⟩
  refine ⟨I1.kIn, wpAny_call (codeAny_mono (R.run X.A X.stack s1 H1 us f rest _ _ _ _ _ kl Q (hr.mono hj) hkl I1.env0 r (G i f c') hf hc (cells_still (C i c') (hxc i c') I1) q) fun z s' hz => ?_)⟩
  rcases z with er | fl
  · exact (show False from hz).elim
  · cases fl
    case ret u => exact I1.after hz
    all_goals exact False.elim hz
/-- what the def's own cells hold, told to a block that begins -/
theorem cells_blk {X : Cx} {pins : List (Addr × Obj)} {σ : L2.St} {H : Hp} {s : Shared} {scope : Scope} {fr : List Str} {js : List Nat} (I : Inv X pins σ H s) (hfree : ∀ y ∈ scope.names, y.2 = .free → X.env.scope.names.lookup y.1 = some .cell ∨ X.env.scope.names.lookup y.1 = some .free)
    (hfr : ∀ y ∈ fr, (y, NameKind.free) ∈ scope.names) (hjs : js.map (fun j => X.N[j]?) = fr.map some) : CellsAt (cloFrom X.env.cells scope.names []) fr (js.map (slotAt σ)) s.heap H := cells_of I (Caps.made I.ok hfree hfr hjs)
theorem cells_fp {X : Cx} {pins : List (Addr × Obj)} {σ : L2.St} {H : Hp} {s : Shared} {scope : Scope} {fp : List Addr} (I : Inv X pins σ H s) (hfree : ∀ y ∈ scope.names, y.2 = .free → X.env.scope.names.lookup y.1 = some .cell ∨ X.env.scope.names.lookup y.1 = some .free)
    (hfp : ∀ b ∈ fp, FpOk X pins H b) (b : Addr) : b ∉ fp ∨ ∀ y, (cloFrom X.env.cells scope.names []).lookup y ≠ some b := by
  by_cases hb : b ∈ fp
  · refine .inr fun y z => ?_
    have hf : ∀ y ∈ scope.names, y.2 = .free → ∃ c, X.env.cells.lookup y.1 = some c := fun y hy e => (hfree y hy e).elim (fun z => I.ok.has _ (.inl z)) fun z => I.ok.has _ (.inr z)
    exact (hfp b hb).2.2.2.2.1 y b (clo_cm hf z) rfl
  · exact .inl hb
end Own

/-! from S06 -/
namespace PySem.SeqAt
open AutoSeq1 (wpAny_loadPart')
open MeetsSeq
theorem own_str_dict0 (b : Str) (u : Tok) (l : Addr) (es : Array DictEntry) (ep : Nat) :
    Meets (Builtin.«str.__eq__» ⟨[.str b u, .ref l], []⟩) (fun _ R s => s.heap.get? l = some ({ cls := .type "dict", dict := none, data := .dict es ep, slots := #[] } : Obj) ∧ R (.ok (.ret .notImplemented)) s) :=
  .of_wp fun prog w A R s h => by
    obtain ⟨hp, g, d, tk, os⟩ := s
    obtain ⟨hl, h⟩ := h
    wp_walk using wpAny_loadPart' hl, wpAny_load hl
    exact ⟨_, rfl, h⟩
theorem own_dict_str0 (b : Str) (u : Tok) (l : Addr) (es : Array DictEntry) (ep : Nat) :
    Meets (Builtin.«dict.__eq__» ⟨[.ref l, .str b u], []⟩) (fun _ R s => s.heap.get? l = some ({ cls := .type "dict", dict := none, data := .dict es ep, slots := #[] } : Obj) ∧ R (.ok (.ret .notImplemented)) s) :=
  .of_wp fun prog w A R s h => by
    obtain ⟨hp, g, d, tk, os⟩ := s
    obtain ⟨hl, h⟩ := h
    have f1 := F.sub_str_dict
    wp_walk using wpAny_loadPart' hl, wpAny_load hl
    exact ⟨_, rfl, h⟩
theorem own_rc_str_dict {A : Around} {s : Shared} {l : Addr} {es : Array DictEntry} {ep : Nat} (b : Str) (u : Tok) (ho : s.heap.get? l = some ({ cls := .type "dict", dict := none, data := .dict es ep, slots := #[] } : Obj)) (hu : A.units < cLine) : RcAt A s (.str b u) (.ref l) false :=
  fun prog w E Q h => by
    refine rc_eq_decline_or (k := false) (typeIs_str s b u) ⟨_, ho, rfl⟩ (by decide) F.sub_dict_str F.slot_str_eq F.slot_dict_eq_refl ?_ ?_ ?_ (.inr hu) h
    · exact fun _ hq => call_meets F.slot_str_eq (typeIs_str s b u) F.entry_str_eq (F.args_str_eq_2 _ _) (own_str_dict0 b u l es ep) ⟨ho, hq⟩
    · exact fun _ hq => call_meets F.slot_dict_eq_refl ⟨_, ho, rfl⟩ F.entry_dict_eq (F.args_dict_eq_2 _ _) (own_dict_str0 b u l es ep) ⟨ho, hq⟩
    · exact fun _ hq => wpAny_of_eq (rfl : isSame (.str b u) (.ref l) = pure false) hq
theorem own_eq_str_dict {A : Around} {s : Shared} {l : Addr} {es : Array DictEntry} {ep : Nat} (b : Str) (u : Tok) (ho : s.heap.get? l = some ({ cls := .type "dict", dict := none, data := .dict es ep, slots := #[] } : Obj)) (hu : A.units < cLine) : EqAt A s (.str b u) (.ref l) false :=
  fun prog w E Q h => by
    unfold eqBool
    refine wpAny_holding (wpAny_ite_split (fun z => absurd (eq_of_beq z) nofun) fun _ => ?_)
    exact wpAny_bind (own_rc_str_dict b u ho hu prog w E _ (wpAny_truthy_bool h))
end PySem.SeqAt
namespace Own
open PySem PySem.Spec PyProof.Rows L2
/-- a value that is no text, and no number with a text's place -/
inductive NoTxt (H : Hp) : V → Prop where
  | non : NoTxt H .non
  | bl (b : Bool) : NoTxt H (.bl b)
  | int (i : Int) : NoTxt H (.int i)
  | lst {a : Addr} {xs : List V} (e : H a = some (.lst xs)) : NoTxt H (.ref a)
  | tup {a : Addr} {xs : List V} (e : H a = some (.tup xs)) : NoTxt H (.ref a)
  | dct {a : Addr} {kvs : List (Key × V)} (e : H a = some (.dK kvs)) : NoTxt H (.ref a)
theorem NoTxt.ne {X : Cx} {pins : List (Addr × Obj)} {σ : L2.St} {H : Hp} {s : Shared} {x : V} {v : Value} (I : Inv X pins σ H s) (h : NoTxt H x) (r : RelV x v) {A : Around} (hu : A.units < cLine) (z : Str) (t : Tok) : SeqAt.EqAt A s (.str z t) v false := by
  cases h with
  | non => cases r; exact SeqAt.EqAt.str_none z t
  | bl b => cases r; exact SeqAt.EqAt.str_bool z t b
  | int i =>
    obtain ⟨u, rfl⟩ := r
    exact SeqAt.EqAt.str_int z t i u
  | lst e =>
    cases r
    obtain ⟨its, _, pl, _⟩ := I.list (SqL.of e)
    exact SeqAt.EqAt.str_list z t pl.isList hu
  | tup e =>
    cases r
    obtain ⟨its, _, pl, _⟩ := I.tuple (SqT.of e)
    exact SeqAt.EqAt.str_tuple z t pl hu
  | dct e =>
    cases r
    obtain ⟨_, _, vs, _, ⟨⟨c, dd, da, sl⟩, es, ep, ho, hx, hd, _⟩⟩ := (show ObjOk X.prog X.w H s.heap _ (.dK _) from I.hok _ _ e)
    obtain ⟨rfl, rfl, rfl⟩ := hx
    obtain rfl : da = .dict es ep := hd
    exact SeqAt.own_eq_str_dict z t ho hu
def rNotInW (K : PySem.W.Frag) : R2 := fun x y H Q => ∃ (p : Addr) (zs : List Str), y = .ref p ∧ SqT K H p (zs.map V.str) ∧ NoTxt H x ∧ Q (.bl true) H
theorem op_notInW {X : Cx} (hu : X.A.units + 1 < cLine) : OpR X (compareOp .NotIn) (rNotInW X.K) := by
  intro pins s σ H x y v u Q I rx ry h
  obtain ⟨p, zs, rfl, hq, nt, q⟩ := h
  cases ry
  obtain ⟨its, r, pl, hz⟩ := I.tuple hq
  have txts : ∀ w ∈ its, ∃ (z : Str) (t : Tok), w = .str z t := fun w hw => by
    obtain ⟨i, hi⟩ := List.mem_iff_getElem?.mp hw
    have hlt : i < (zs.map V.str).length := by
      rw [Paired.length r]
      exact (List.getElem?_eq_some_iff.mp hi).1
    obtain ⟨u', h1, h2⟩ := r.get (List.getElem?_eq_getElem hlt)
    rw [hi] at h1
    cases h1
    rw [List.getElem_map] at h2
    obtain ⟨t, z⟩ := h2
    exact ⟨_, t, z⟩
  have hu0 : X.A.units < cLine := Nat.lt_of_le_of_lt (Nat.le_succ _) hu
  have hu' : X.A.in1.units < cLine := by first | exact hu0 | exact hu
  refine SeqAt.notIn_tupleAt (fun _ => false) pl (fun w hw => ?_) ⟨.bl _, H, I, rfl, ?_⟩
  · obtain ⟨z, t, rfl⟩ := txts w (by simpa using hw)
    exact nt.ne I rx hu' z t
  · have e : its.toArray.any (fun _ => false) = false := by simp
    rw [e]
    exact q
end Own


/-! from P06 -/
namespace Own
open PySem PySem.Spec PyProof.Rows L2
inductive Thing (H : Hp) : V → Prop where
  | non : Thing H .non
  | bl (b : Bool) : Thing H (.bl b)
  | int (i : Int) : Thing H (.int i)
  | str (z : Str) : Thing H (.str z)
  | lst {a : Addr} {xs : List V} (e : H a = some (.lst xs)) : Thing H (.ref a)
  | tup {a : Addr} {xs : List V} (e : H a = some (.tup xs)) : Thing H (.ref a)
  | dct {a : Addr} {kvs : List (Key × V)} (e : H a = some (.dK kvs)) : Thing H (.ref a)
theorem Thing.same {H H' : Hp} {x : V} (h : Thing H x) (s : Same H H') : Thing H' x := by
  cases h with
  | non => exact .non
  | bl b => exact .bl b
  | int i => exact .int i
  | str z => exact .str z
  | lst e => exact .lst (s _ _ e)
  | tup e => exact .tup (s _ _ e)
  | dct e => exact .dct (s _ _ e)
def isInt : V → Bool
  | .int _ => true
  | _ => false
def isBl : V → Bool
  | .bl _ => true
  | _ => false
/-- isinstance(x, int), isinstance(x, bool) -/
theorem Thing.isi {K : PySem.W.Frag} {H : Hp} {x : V} (h : Thing H x) : ∃ t : Value, TyX K H x t ∧ PySem.W.kitOne K t (.type "int") = some (isInt x || isBl x) ∧ PySem.W.kitOne K t (.type "bool") = some (isBl x) := by
  cases h with
  | non => exact ⟨_, .base .non, kit_ty (show kitB "NoneType" "int" = some false by decide +kernel), kit_ty (show kitB "NoneType" "bool" = some false by decide +kernel)⟩
  | bl b => exact ⟨_, .base (.bl b), kit_ty (show kitB "bool" "int" = some true by decide +kernel), kit_ty (show kitB "bool" "bool" = some true by decide +kernel)⟩
  | int i => exact ⟨_, .base (.int i), kit_ty (show kitB "int" "int" = some true by decide +kernel), kit_ty (show kitB "int" "bool" = some false by decide +kernel)⟩
  | str z => exact ⟨_, .base (.str z), kit_ty (show kitB "str" "int" = some false by decide +kernel), kit_ty (show kitB "str" "bool" = some false by decide +kernel)⟩
  | lst e => exact ⟨_, .base (.lst e), kit_ty (show kitB "list" "int" = some false by decide +kernel), kit_ty (show kitB "list" "bool" = some false by decide +kernel)⟩
  | tup e => exact ⟨_, .base (.tup e), kit_ty (show kitB "tuple" "int" = some false by decide +kernel), kit_ty (show kitB "tuple" "bool" = some false by decide +kernel)⟩
  | dct e => exact ⟨_, .base (.dK e), kit_ty (show kitB "dict" "int" = some false by decide +kernel), kit_ty (show kitB "dict" "bool" = some false by decide +kernel)⟩
theorem Thing.noTxt {H : Hp} {x : V} (h : Thing H x) : NoTxt H x ∨ ∃ z, x = .str z := by
  cases h with
  | non => exact .inl .non
  | bl b => exact .inl (.bl b)
  | int i => exact .inl (.int i)
  | str z => exact .inr ⟨z, rfl⟩
  | lst e => exact .inl (.lst e)
  | tup e => exact .inl (.tup e)
  | dct e => exact .inl (.dct e)
/-- what a written dict says at a text -/
def KGet (K : PySem.W.Frag) (d : Addr) (z : Str) (r : Option V) : Prop := ∃ ro : Option Value, PySem.W.nsIn K d z = some ro ∧ RelO r ro
section
variable {X : Cx} {d : Addr} {es : Array DictEntry} {n : Nat} {o e f : Expr} {apos cpos : Pos} {td ty tx : TE}
theorem pe_kget2 (D : KDict X.K X.w d es n) (ho : PE X o td) (he : PE X e ty) (hf : PE X f tx) (m : M2 X o "get" apos e f cpos) :
    PE X (.Call (.Attribute o "get" apos) [e, f] [] cpos) (fun σ H Q => td σ H fun x H1 => x = .ref d ∧ ty σ H1 fun y H2 => tx σ H2 fun z H3 => ∃ (t : Str) (r : Option V), y = .str t ∧ KGet X.K d t r ∧ Q (r.getD z) H3) := by
  constructor
  intro pins s σ H Q I h
  refine wpAny_Call_method m.base m.few m.line PySem.F.plainAttrs_dict PySem.F.slot_dict_get PySem.F.type_dict_get (thn (ho.run pins s σ H _ I h) ?_)
  rintro u s1 ⟨x, H1, I1, rx, rfl, q1⟩
  obtain rfl : u = Value.ref d := rx
  refine ⟨kd_type D I1, fun b q => ?_, ?_⟩
  · cases q
    exact ⟨_, I1.kIn _ _ D.at_, rfl⟩
  rw [m.trees]
  refine Calls.callWith_builtin rfl (Calls.evalArgs_plain (Calls.spliced_cons (thn (he.run pins s1 σ H1 _ I1 q1) ?_)))
  rintro iv s2 ⟨y, H2, I2, ry, q2⟩
  refine Calls.spliced_cons (thn (hf.run pins s2 σ H2 _ I2 q2) ?_)
  rintro fv s3 ⟨z, H3, I3, rz, t, r, rfl, ⟨ro, hk, rr⟩, q3⟩
  refine Calls.spliced_nil ?_
  obtain ⟨tk, rfl⟩ := ry
  show wpAny _ _ (call (.builtin "dict.get") [.ref d, .str t tk, fv]) _ _ _
  refine call_meetsIn PySem.F.slot_dict_get (kd_type D I3) PySem.F.entry_dict_get (PySem.F.args_dict_get_3 _ _ _) (meets_dict_get_default (strKind X.prog X.w) d (strKind_is X.prog X.w t tk) D.low fv) ⟨_, PySem.W.mapOf_K (prog := X.prog) I3.kIn D.at_ D.lit, ?_⟩
  rw [PySem.W.find_K D.at_ hk]
  refine ⟨r.getD z, H3, I3.tok _, ?_, q3⟩
  cases r with
  | none =>
    cases ro with
    | none => exact rz
    | some u => exact rr.elim
  | some v =>
    cases ro with
    | none => exact rr.elim
    | some u => exact rr
end
/-! ### an error class whose __init__ keeps one field -/
structure ErrC (P : Program) (w : World) (K : PySem.W.Frag) (mg : Str → Option Value) (base : Heap) (x fld : Str) (k : Nat) (C : Addr) (sp : Sp) : Prop where
  g : mg x = some (.ref C)
  oex : OexC K C
  ini : ∃ (fI : Addr) (fd : FuncData), PySem.W.findIn K (.ref C) "__init__" = some (some (.ref fI)) ∧ PySem.W.typeIn K (.ref fI) = some (.type "function") ∧ FnOk P w K mg base CX0 k fI fd ["self", fld] sp ∧ Binds K fd ["self", fld] []
  xf : XfC K C
  te : PySem.W.exmOne K (.ref C) (.ref C) = some true
  noV : PySem.W.findIn K (.ref C) fld = some none
def spErr (C : Addr) (fld : Str) : Sp := fun vs H Q _ => ∃ (a : Addr) (y : V), vs = [.ref a, y] ∧ H a = some (exo a C none) ∧ ∀ dx, H dx = none → dx ≠ a → Q .non (upd (upd H dx (exd dx [(fld, y)])) a (exo a C (some dx)))
/-- such an error leaves: its value x -/
def Bad (C : Addr) (fld : Str) (x : V) (H : Hp) (E : XK) : Prop := ∀ (d : Addr) (H' : Hp), Same H H' → H d = none → H' d = some (.xd [(fld, x)]) → E (.ref C) (some d) H'
theorem Bad.same {C : Addr} {fld : Str} {x : V} {H H1 : Hp} {E : XK} (h : Bad C fld x H E) (s : Same H H1) : Bad C fld x H1 E := fun d H' s' n e => h d H' (s.trans s') (s.free n) e
section
variable {X : Cx} {x fld : Str} {k j : Nat} {C : Addr} {e : Expr} {te : TE} {p pos : Pos}
theorem pmk_err (D : ErrC X.prog X.w X.K X.mg X.base x fld k C (spErr C fld)) (hr : Room j X.A) (hj : k + 1 ≤ j) (hg : Gl X x) (he : PE X e te) (hdb : (x == ("__debug__" : Str)) = false := by decide)
    (hst : starEach (e :: []) X.env = (false, eval e X.env) :: starEach [] X.env := by rfl) (hpl : (backTo pos (starEach [] X.env)).any (·.1) = false := by rfl) :
    PMk X (.Call (.Name x p) [e] [] pos) (tMkO C (spErr C fld) [] (tCons te tNil)) := by
  obtain ⟨fI, fd, iC, tI, F1, b⟩ := D.ini
  exact pmk_oex D.oex iC tI F1 (hr.mono hj) b .nil (fun _ _ _ _ _ _ _ z => z.elim) hg D.g (pa_cons he pa_nil hst) hdb hst hpl
end
/-- the end of such a making -/
theorem bad_mk {C : Addr} {fld : Str} {y : V} {H : Hp} {Q : XK} (h : Bad C fld y H Q) : [y].length ≤ 1000 ∧ ∀ a, H a = none → spErr C fld (.ref a :: ([y] ++ [])) (upd H a (exo a C none))
    (fun v H2 => v = .non ∧ ∃ (d : Addr) (fs : List (Str × V)), H2 a = some (exo a C (some d)) ∧ H2 d = some (exd d fs) ∧ H d = none ∧ Q (.ref C) (some d) (upd (del H2 a) d (.xd fs))) (fun _ _ _ => False) := by
  refine ⟨by show 1 ≤ 1000; decide, fun a na => ⟨a, y, rfl, upd_same, fun dx ndx ne => ⟨rfl, dx, [(fld, y)], upd_same, ?_, ?_, ?_⟩⟩⟩
  · rw [upd_ne ne, upd_same]
  · rw [upd_ne ne] at ndx
    exact ndx
  · have nd : H dx = none := by
      rw [upd_ne ne] at ndx
      exact ndx
    refine h dx _ (fun b o e => ?_) nd upd_same
    have b1 : b ≠ a := ne_of_none e na
    have b2 : b ≠ dx := ne_of_none e nd
    rw [upd_ne b2, del_ne b1, upd_ne b1, upd_ne b2, upd_ne b1]
    exact e
end Own

/-! from U06 -/
namespace Own
open PySem PySem.Spec PyProof.Rows L2
theorem op_mulS {X : Cx} : OpR X (binaryOp .Mult) (fun x y H Q => ∃ (z : Str) (n : Int), x = .str z ∧ y = .int n ∧ MulOk z n ∧ Q (.str (Txt.mul z n)) H) := by
  intro pins s σ H x y v u Q I rx ry h
  obtain ⟨z, n, rfl, rfl, ok, q⟩ := h
  obtain ⟨t, rfl⟩ := rx
  obtain ⟨t', rfl⟩ := ry
  exact SB.mul ok fun t2 k => ⟨.str _, H, I.tok _, ⟨_, rfl⟩, q⟩
theorem zeros_fold : ∀ (n : Nat) (acc : Array Nat), ((List.replicate n #[48]).foldl (· ++ ·) acc).toList = acc.toList ++ List.replicate n 48
  | 0, acc => by simp
  | n + 1, acc => by
    rw [List.replicate_succ, List.foldl_cons, zeros_fold n, Array.toList_append, List.replicate_succ, List.append_assoc]
    rfl
theorem zero_cps : ("0" : Str).cps = #[48] := by decide +kernel
theorem one_cps : ("1" : Str).cps = #[49] := by decide +kernel
theorem zeros (n : Nat) : (Txt.mul "0" (n : Int)).cps.toList = List.replicate n 48 := by
  unfold Txt.mul
  by_cases h0 : n = 0
  · subst h0
    rw [if_pos (by omega)]
    rfl
  · rw [if_neg (by omega)]
    by_cases h1 : n = 1
    · subst h1
      rw [if_pos (by simp), zero_cps]
      rfl
    · have e : ¬ (((n : Int) == 1 || ("0" : Str).length == 0) = true) := by
        have l : ("0" : Str).length = 1 := by decide +kernel
        rw [l]
        simp
        omega
      rw [if_neg e]
      show ((List.replicate (n : Int).toNat ("0" : Str).cps).foldl (· ++ ·) #[]).toList = _
      rw [zero_cps, Int.toNat_natCast, zeros_fold]
      rfl
/-- '1' + '0' * n -/
def tenS (n : Nat) : Str := ("1" : Str) ++ Txt.mul "0" (n : Int)
theorem tenS_list (n : Nat) : (tenS n).cps.toList = 49 :: List.replicate n 48 := by
  have e : (tenS n).cps = ("1" : Str).cps ++ (Txt.mul "0" (n : Int)).cps := rfl
  rw [e, Array.toList_append, zeros, one_cps]
  rfl
theorem tens_val : ∀ (n a : Nat), (List.replicate n 48).foldl (fun acc c => acc * 10 + (c - 48)) a = a * 10 ^ n
  | 0, a => by simp
  | n + 1, a => by
    rw [List.replicate_succ, List.foldl_cons, tens_val n]
    show (a * 10 + 0) * 10 ^ n = a * 10 ^ (n + 1)
    rw [Nat.add_zero, Nat.pow_succ, Nat.mul_assoc, Nat.mul_comm 10]
theorem str_len (x : Str) : x.length = x.cps.toList.length := by
  cases x
  rfl
theorem tenS_len (n : Nat) : (tenS n).length = n + 1 := by
  rw [str_len, tenS_list, List.length_cons, List.length_replicate]
theorem ten_text {n : Nat} (h : n ≤ 600) : PySem.intText? (tenS n) = some ((10 : Int) ^ n) := by
  have e := PySem.intText_digits (x := tenS n) (fun c hc => by
      rw [tenS_list] at hc
      rcases List.mem_cons.mp hc with rfl | hc
      · exact ⟨by decide, by decide⟩
      · have := (List.mem_replicate.mp hc).2
        omega) (by rw [tenS_list]; simp) (by rw [tenS_len]; omega)
  rw [e]
  have z : NumText.digitsVal (tenS n).cps.toList = 10 ^ n := by
    rw [tenS_list]
    unfold NumText.digitsVal
    rw [List.foldl_cons, tens_val]
    simp
  rw [z]
  simp
theorem mulOk0 {n : Nat} (h : n ≤ 600) : MulOk "0" (n : Int) := by
  have l : ("0" : Str).length = 1 := by decide +kernel
  refine ⟨?_, fun h1 h2 => ?_, fun h1 h2 => ?_⟩
  · rw [Bool.or_eq_false_iff]
    exact ⟨decide_eq_false (by omega), decide_eq_false (by omega)⟩
  · rw [l]
    have z := Int.le_ediv_of_mul_le (c := (n : Int)) (a := 1) (b := 2 ^ 63 - 1) (by omega) (by omega)
    omega
  · rw [l, Nat.one_mul, Int.toNat_natCast]
    exact decide_eq_false (by have := sizeLine_eq; omega)
end Own

/-! from V06 -/
namespace Own
theorem ten_pos (n : Nat) : (0 : Int) < (10 : Int) ^ n := Int.pow_pos (by decide)
theorem ten_mono {m n : Nat} (h : m ≤ n) : (10 : Int) ^ m ≤ (10 : Int) ^ n := by
  obtain ⟨k, rfl⟩ := Nat.le.dest h
  rw [Int.pow_add]
  have a := ten_pos m
  have b : (1 : Int) ≤ (10 : Int) ^ k := ten_pos k
  have := Int.mul_le_mul_of_nonneg_left b (Int.le_of_lt a)
  omega
theorem ten_nat (n : Nat) : ((10 : Int) ^ n).natAbs = 10 ^ n := by
  rw [Int.natAbs_pow]
  rfl
theorem ten_lt (n : Nat) : ((10 : Int) ^ n).natAbs < 2 ^ (4 * n + 1) := by
  rw [ten_nat, Nat.pow_succ, Nat.pow_mul]
  have a : 10 ^ n ≤ (2 ^ 4) ^ n := Nat.pow_le_pow_left (by decide) n
  have b : 0 < (2 ^ 4) ^ n := Nat.pow_pos (by decide)
  omega
theorem lt_two {i j : Int} {k : Nat} (h0 : 0 ≤ i) (h1 : i ≤ j) (h : j.natAbs < 2 ^ k) : i.natAbs < 2 ^ k := Nat.lt_of_le_of_lt (by omega) h
end Own

/-! from W06 -/
namespace Own
open PySem PySem.Spec PyProof.Rows L2
theorem merge_app : ∀ (kvs acc : List (Key × V)), ((acc ++ kvs).map (·.1)).Nodup → mergeK acc kvs = acc ++ kvs
  | [], acc, _ => by simp [mergeK]
  | p :: r, acc, h => by
    have hn : valV acc p.1 = none := by
      cases e : valV acc p.1 with
      | none => rfl
      | some v =>
        have m := valV_in e
        rw [List.map_append, List.nodup_append] at h
        exact absurd rfl (h.2.2 p.1 m p.1 (by simp))
    have z := merge_app r (acc ++ [p]) (by
      rw [List.append_assoc]
      exact h)
    show mergeK (putK acc p.1 p.2) r = acc ++ p :: r
    rw [putK_new _ hn, z, List.append_assoc]
    rfl
theorem merge_new {kvs : List (Key × V)} (h : (kvs.map (·.1)).Nodup) : mergeK [] kvs = kvs := merge_app kvs [] h
/-- a dict of texts -/
def txK (l : List (Str × V)) : List (Key × V) := l.map fun p => (Sum.inr p.1, p.2)
theorem txK_val : ∀ (l : List (Str × V)) (z : Str), valV (txK l) (Sum.inr z : Key) = l.lookup z
  | [], z => rfl
  | p :: r, z => by
    obtain ⟨a, v⟩ := p
    by_cases h : a = z
    · subst h
      rw [show txK ((a, v) :: r) = (Sum.inr a, v) :: txK r from rfl, valV_pos rfl]
      simp [List.lookup]
    · rw [show txK ((a, v) :: r) = (Sum.inr a, v) :: txK r from rfl, valV_neg (fun e => h (Sum.inr.inj e)), txK_val r z]
      have hb : (z == a) = false := by simpa using fun e : z = a => h e.symm
      simp [List.lookup, hb]
theorem DGet.tx {H : Hp} {a : Addr} {l : List (Str × V)} (z : Str) (e : H a = some (.dK (txK l))) : DGet H a (.str z) (l.lookup z) := by
  have q := DGet.k (k := (Sum.inr z : Key)) e
  rw [txK_val] at q
  exact q
end Own

/-! from Y06 -/
namespace Own
open PySem PySem.Spec PyProof.Rows L2
/-- a flat value's datum -/
def datV : V → PyData
  | .bl b => .bool b
  | .int i => .int i
  | .str z => .str z
  | _ => .none
def okF : V → Bool
  | .non => true
  | .bl _ => true
  | .int _ => true
  | .str z => PyData.strOk z
  | _ => false
/-- a value handed in that is equal to itself -/
inductive Odd (H : Hp) : V → Prop where
  | flat {x : V} (h : okF x = true) : Odd H x
  | lst {a : Addr} {xs : List V} (e : H a = some (.lst xs)) (f : xs.all okF = true) : Odd H (.ref a)
  | tup {a : Addr} {xs : List V} (e : H a = some (.tup xs)) (f : xs.all okF = true) : Odd H (.ref a)
  | dct {a : Addr} {kvs : List (Key × V)} (e : H a = some (.dK kvs)) (n : (kvs.map (·.1)).Nodup) (f : ∀ p ∈ kvs, flatB p.2 = true) : Odd H (.ref a)
theorem Odd.same {H H' : Hp} {x : V} (h : Odd H x) (s : Same H H') : Odd H' x := by
  cases h with
  | flat h => exact .flat h
  | lst e f => exact .lst (s _ _ e) f
  | tup e f => exact .tup (s _ _ e) f
  | dct e n f => exact .dct (s _ _ e) n f
theorem Odd.thing {H : Hp} {x : V} (h : Odd H x) : Thing H x := by
  cases h with
  | flat h =>
    cases x <;> first | exact .non | exact .bl _ | exact .int _ | exact .str _ | (simp [okF] at h)
  | lst e f => exact .lst e
  | tup e f => exact .tup e
  | dct e n f => exact .dct e
theorem dp_flat {K : PySem.W.Frag} {H : Hp} {x : V} (h : okF x = true) : Dp K H x (datV x) ∧ (datV x).canLay0 = true ∧ (datV x).depth = 0 := by
  cases x <;> first
    | exact ⟨.non, by simp [datV, PyData.canLay0], by simp [datV, PyData.depth]⟩
    | exact ⟨.bl _, by simp [datV, PyData.canLay0], by simp [datV, PyData.depth]⟩
    | exact ⟨.int _, by simp [datV, PyData.canLay0], by simp [datV, PyData.depth]⟩
    | exact ⟨.str _, by simpa [datV, PyData.canLay0, okF] using h, by simp [datV, PyData.depth]⟩
    | (simp [okF] at h)
theorem dp_flats {K : PySem.W.Frag} {H : Hp} : ∀ {xs : List V}, xs.all okF = true → DpAll K H xs (xs.map datV) ∧ PyData.canLayAll0 (xs.map datV) = true ∧ PyData.depthAll (xs.map datV) = 0
  | [], _ => ⟨.nil, by simp [PyData.canLayAll0], by simp [PyData.depthAll]⟩
  | x :: r, h => by
    rw [List.all_cons, Bool.and_eq_true] at h
    obtain ⟨a1, a2, a3⟩ := dp_flat (K := K) (H := H) h.1
    obtain ⟨b1, b2, b3⟩ := dp_flats (K := K) (H := H) h.2
    exact ⟨.cons a1 b1, by simp [PyData.canLayAll0, a2, b2], by simp [PyData.depthAll, a3, b3]⟩
/-- x == x of such a value: the three rules -/
theorem op_eqOdd {X : Cx} (hu : X.A.units + 64 < cLine) : OpR X (compareOp .Eq) (fun x y H Q => (∃ a b : Int, x = .int a ∧ y = .int b ∧ Q (.bl (decide (a = b))) H) ∨ (Odd H x ∧ y = x ∧ Q (.bl true) H)) := by
  intro pins s σ H x y v u Q I rx ry h
  rcases h with ⟨a, b, rfl, rfl, q⟩ | ⟨od, rfl, q⟩
  · refine op_eq pins s σ H _ _ v u Q I rx ry ⟨rfl, ?_⟩
    have e : decide (V.int a = V.int b) = decide (a = b) := by simp
    rw [e]
    exact q
  · cases od with
    | flat h =>
      obtain ⟨a1, a2, a3⟩ := dp_flat (K := X.K) (H := H) h
      have sh : SeqAt.shaped (datV y) = true := by
        unfold SeqAt.shaped
        rw [a2, a3]
        rfl
      refine op_eqD hu pins s σ H _ _ v u Q I rx ry ⟨_, _, a1, a1, sh, sh, ?_⟩
      rw [SeqAt.eqv_refl _ (SeqAt.canLay_of_shaped sh)]
      exact q
    | @lst a xs e f =>
      obtain ⟨a1, a2, a3⟩ := dp_flats (K := X.K) (H := H) f
      have sh : SeqAt.shaped (.list (xs.map datV)) = true := by
        unfold SeqAt.shaped
        simp [PyData.canLay0, PyData.depth, a2, a3]
      have d : Dp X.K H (.ref a) (.list (xs.map datV)) := .lst (SqL.of e) a1
      refine op_eqD hu pins s σ H _ _ v u Q I rx ry ⟨_, _, d, d, sh, sh, ?_⟩
      rw [SeqAt.eqv_refl _ (SeqAt.canLay_of_shaped sh)]
      exact q
    | @tup a xs e f =>
      obtain ⟨a1, a2, a3⟩ := dp_flats (K := X.K) (H := H) f
      have sh : SeqAt.shaped (.tuple (xs.map datV)) = true := by
        unfold SeqAt.shaped
        simp [PyData.canLay0, PyData.depth, a2, a3]
      have d : Dp X.K H (.ref a) (.tuple (xs.map datV)) := .tup (SqT.of e) a1
      refine op_eqD hu pins s σ H _ _ v u Q I rx ry ⟨_, _, d, d, sh, sh, ?_⟩
      rw [SeqAt.eqv_refl _ (SeqAt.canLay_of_shaped sh)]
      exact q
    | @dct a kvs e n f => exact op_eq_dict (by omega) pins s σ H _ _ v u Q I rx ry ⟨a, a, kvs, rfl, rfl, e, e, n, f, q⟩
end Own

/-! from AA06 -/
namespace Own
open PySem PySem.Spec PyProof.Rows L2 LamX NdefX
section
variable {X : Cx} {cl : List (Str × Addr)} {fr : List Str} {ws : List (Option V)}
/-- as pe_deed, what it may let out told by the slots -/
theorem pe_deedS {CX : CXT} {k i : Nat} {f : Addr} {F : NF} {b : Expr} {sp : List (Option V) → Hp → VK → XK → Prop} {E : L2.St → XK} {a : Str} {p1 p2 : Pos} (C : CellsAt F.cl fr ws X.s_0.heap X.H_0) (hex : X.ex = []) (G : LOk X.prog X.w X.K X.mg X.base CX k f F b fr sp) (hr : Room k X.A)
    (hx : ∀ σ, PassesAt CX X σ (E σ)) (hN : X.N[i]? = some a) (hv : Vis X.env.scope a) (hd : (a == ("__debug__" : Str)) = false := by decide) (hcd : (a == ("__classdict__" : Str)) = false := by decide) :
    PE X (.Call (.Name a p1) [] [] p2) (fun σ H Q => σ[i]? = some (some (.ref f)) ∧ LamAt H f F b ∧ H F.c = some (CodeO F.c F.qual) ∧ sp ws H Q (E σ)) := by
  constructor
  intro pins s σ H Q I h
  obtain ⟨hs, hf, hc, q⟩ := h
  refine wpAny_Call_Name_kw (thn ((pe_var (pos := p1) hN hv hd hcd).run pins s σ H (fun v H1 => v = .ref f ∧ H1 = H) I ⟨.ref f, hs, rfl, rfl⟩) ?_)
  rintro u s1 ⟨v, H1, I1, r1, rfl, rfl⟩
  obtain rfl : u = Value.ref f := r1
  obtain ⟨dV, doc, pm, ctv, ho, _⟩ := lamO_at I1.hok hf
  refine PySem.W.callWith_F0 ⟨_, _, _, _, ho⟩ ?_
  have C' := cells_still C (fun _ => .inl (by rw [hex]; simp)) I1
  refine wpAny_call (codeAny_mono (G.run _ _ _ _ _ _ _ hr I1.env0 hf hc C' q) fun r s' z => ?_)
  rcases r with e | fl
  · exact hx σ pins _ _ e s' I1 z
  · cases fl
    case ret u => exact I1.after z
    all_goals exact False.elim z
end
end Own

/-! from CC06 -/
namespace Own
open PySem PySem.Spec PyProof.Rows L2 LamX NdefX
/-- at q stands the pair of a lambda and v -/
def RowAt (H : Hp) (nf : Addr → NF) (b : Expr) (v : V) (q : Addr) : Prop := ∃ f c' : Addr, H q = some (.tup [.ref f, v]) ∧ LamAt H f (nf c') b ∧ H (nf c').c = some (CodeO (nf c').c (nf c').qual)
section
variable {H H' : Hp} {nf : Addr → NF} {b : Expr} {v x : V} {q r : Addr} {l : List V} {o : HO}
theorem RowAt.ext (h : RowAt H nf b v q) (e : ExtN H H') : RowAt H' nf b v q := by
  obtain ⟨f, c', h1, h2, h3⟩ := h
  exact ⟨f, c', e _ _ h1 (fun ps z => by cases z), h2.ext e, e _ _ h3 codeO_ne⟩
theorem LamAt.put {f : Addr} {F : NF} (h : LamAt H f F b) (hr : H r = some (.lst l)) : LamAt (upd H r o) f F b := by
  obtain ⟨dV, h1, h2⟩ := h
  have a : f ≠ r := ne_of h1 hr (by unfold LamO; intro z; cases z)
  refine ⟨dV, (upd_ne a).trans h1, ?_⟩
  rcases h2 with z | ⟨n, T, z, q⟩
  · exact .inl z
  · have a : T ≠ r := ne_of q hr (by intro z; cases z)
    exact .inr ⟨n, T, z, (upd_ne a).trans q⟩
theorem RowAt.put (h : RowAt H nf b v q) (hr : H r = some (.lst l)) : RowAt (upd H r o) nf b v q := by
  obtain ⟨f, c', h1, h2, h3⟩ := h
  have a : q ≠ r := ne_of h1 hr (by intro z; cases z)
  have c : (nf c').c ≠ r := ne_of h3 hr (by unfold CodeO; intro z; cases z)
  exact ⟨f, c', (upd_ne a).trans h1, h2.put hr, (upd_ne c).trans h3⟩
theorem Odd.ext (h : Odd H x) (e : ExtN H H') : Odd H' x := by
  cases h with
  | flat h => exact .flat h
  | lst e' f => exact .lst (e _ _ e' (fun ps z => by cases z)) f
  | tup e' f => exact .tup (e _ _ e' (fun ps z => by cases z)) f
  | dct e' n f => exact .dct (e _ _ e' (fun ps z => by cases z)) n f
theorem Odd.off (h : Odd H x) (n : H r = none) : x ≠ .ref r := by
  cases h with
  | flat h => intro z; rw [z] at h; cases h
  | lst e f => intro z; rw [V.ref.inj z, n] at e; cases e
  | tup e f => intro z; rw [V.ref.inj z, n] at e; cases e
  | dct e n' f => intro z; rw [V.ref.inj z, n] at e; cases e
theorem Odd.put (h : Odd H x) (n : x ≠ .ref r) : Odd (upd H r o) x := by
  cases h with
  | flat h => exact .flat h
  | lst e f => exact .lst ((upd_ne (fun z => n (by rw [z]))).trans e) f
  | tup e f => exact .tup ((upd_ne (fun z => n (by rw [z]))).trans e) f
  | dct e n' f => exact .dct ((upd_ne (fun z => n (by rw [z]))).trans e) n' f
theorem tabs_put {T : List (Addr × Str)} (h : Tabs T H) (hr : H r = some (.lst l)) : Tabs T (upd H r o) := fun p hp => by
  obtain ⟨ps, h1, h2, h3⟩ := h p hp
  have a : p.1 ≠ r := ne_of h1 hr (by intro z; cases z)
  refine ⟨ps, (upd_ne a).trans h1, h2, fun pos cv hc => ?_⟩
  obtain ⟨c, e1, e2⟩ := h3 pos cv hc
  have b : c ≠ r := ne_of e2 hr (by unfold CodeO; intro z; cases z)
  exact ⟨c, e1, (upd_ne b).trans e2⟩
theorem extN_new (h : H r = none) : ExtN H (upd H r o) := ExtN.of fun b u e => (upd_ne (ne_of_none e h)).trans e
theorem ExtN.same (s : Same H H') : ExtN H H' := ExtN.of s
end
theorem Pen_odd {d : Addr} {B : Int} (h : Pen H d B) (o : Odd H x) : x ≠ .ref d := by
  obtain ⟨p, ns, c, l, e, _⟩ := h.ex
  intro z
  rw [z] at o
  cases o with
  | flat h => cases h
  | lst e' f => rw [e] at e'; cases e'
  | tup e' f => rw [e] at e'; cases e'
  | dct e' n f =>
    rw [e] at e'
    cases e'
    have := f _ (List.mem_cons_self ..)
    cases this
theorem Odd.keep {d : Addr} (h : Odd H x) (n : x ≠ .ref d) (k : Keep d H H') : Odd H' x := by
  cases h with
  | flat h => exact .flat h
  | lst e f => exact .lst (k _ _ (fun z => n (by rw [z])) e) f
  | tup e f => exact .tup (k _ _ (fun z => n (by rw [z])) e) f
  | dct e n' f => exact .dct (k _ _ (fun z => n (by rw [z])) e) n' f
theorem tabs_keep {T : List (Addr × Str)} {d : Addr} {B : Int} (h : Tabs T H) (hp : Pen H d B) (k : Keep d H H') : Tabs T H' := fun p hq => by
  obtain ⟨pp, ns, cc, ll, ed, _⟩ := hp.ex
  obtain ⟨ps, h1, h2, h3⟩ := h p hq
  have a : p.1 ≠ d := ne_of h1 ed (by intro z; cases z)
  refine ⟨ps, k _ _ a h1, h2, fun pos cv hc => ?_⟩
  obtain ⟨c, e1, e2⟩ := h3 pos cv hc
  have b : c ≠ d := ne_of e2 ed (by unfold CodeO; intro z; cases z)
  exact ⟨c, e1, k _ _ b e2⟩
/-- a list at r of pairs of a lambda and a value; x, y: two odd values -/
structure Bag {ι : Type} (nf : ι → Addr → NF) (bf : ι → Expr) (H : Hp) (r : Addr) (R : List (ι × V × Addr)) (x y : V) : Prop where
  l : H r = some (.lst (R.map fun p => .ref p.2.2))
  rows : ∀ p ∈ R, RowAt H (nf p.1) (bf p.1) p.2.1 p.2.2
  ox : Odd H x
  oy : Odd H y
  xr : x ≠ .ref r
  yr : y ≠ .ref r
theorem Bag.ext {ι : Type} {nf : ι → Addr → NF} {bf : ι → Expr} {R : List (ι × V × Addr)} {y : V} (h : Bag nf bf H r R x y) (e : ExtN H H') : Bag nf bf H' r R x y :=
  ⟨e _ _ h.l (fun ps z => by cases z), fun p hp => (h.rows p hp).ext e, h.ox.ext e, h.oy.ext e, h.xr, h.yr⟩
theorem Bag.set {ι : Type} {nf : ι → Addr → NF} {bf : ι → Expr} {R : List (ι × V × Addr)} {y : V} {D : Addr} {zs : List V} (h : Bag nf bf H r R x y) (hD : H D = some (.lst zs)) (n : D ≠ r) (nx : x ≠ .ref D) (ny : y ≠ .ref D) : Bag nf bf (upd H D o) r R x y :=
  ⟨(upd_ne n.symm).trans h.l, fun p hp => (h.rows p hp).put hD, h.ox.put nx, h.oy.put ny, h.xr, h.yr⟩
theorem Bag.add {ι : Type} {nf : ι → Addr → NF} {bf : ι → Expr} {R : List (ι × V × Addr)} {y v : V} {H1 : Hp} {i : ι} {f c' q : Addr} (h : Bag nf bf H r R x y) (e : ExtN H H1) (a : LamAt H1 f (nf i c') (bf i)) (c : H1 (nf i c').c = some (CodeO (nf i c').c (nf i c').qual)) (nq : H1 q = none) :
    upd H1 q (.tup [.ref f, v]) r = some (.lst (R.map fun p => .ref p.2.2)) ∧ Bag nf bf (upd (upd H1 q (.tup [.ref f, v])) r (.lst (R.map (fun p => .ref p.2.2) ++ [.ref q]))) r (R ++ [(i, v, q)]) x y := by
  have g := (h.ext e).ext (extN_new (o := .tup [.ref f, v]) nq)
  have e2 := extN_new (o := HO.tup [.ref f, v]) nq
  refine ⟨g.l, by rw [upd_same, List.map_append]; rfl, fun p hp => ?_, g.ox.put g.xr, g.oy.put g.yr, g.xr, g.yr⟩
  rcases List.mem_append.mp hp with hp | hp
  · exact (g.rows p hp).put g.l
  · rw [List.mem_singleton.mp hp]
    exact RowAt.put ⟨f, c', upd_same, a.ext e2, e2 _ _ c codeO_ne⟩ g.l
/-- a def of the text and its code object -/
structure AtC (K : PySem.W.Frag) (mg : Str → Option Value) (x : Str) (st : Stmt) (ps : List Str) (c : Addr) : Prop where
  ex : ∃ (f : Addr) (oc : Value) (od : Option Addr) (kV doc pm : Value) (an : Option Addr) (ct : Value) (osl : Array (Option Value)), K.lookup f = some ⟨oc, od, .func (PySem.W.fnOf x x (defArgs st) (defBody st) (defScope st) .none kV doc pm an (.ref c) ct), osl⟩ ∧ PySem.W.codeIn K (.ref c) x = true ∧
    mg x = some (.ref f) ∧ PySem.W.keepIn K (.ref f) = true ∧ Binds K (PySem.W.fnOf x x (defArgs st) (defBody st) (defScope st) .none kV doc pm an (.ref c) ct) ps []
end Own

namespace Own
open PySem PySem.Spec PyProof.Rows L2 LamX NdefX
theorem log2_lt {n k : Nat} (h : n < 2 ^ k) (hk : 0 < k) : n.log2 < k := by
  by_cases h0 : n = 0
  · subst h0
    simpa using hk
  · exact (Nat.log2_lt h0).mpr h
theorem dm_ok {n d : Int} (h0 : 0 < d) (h : d.natAbs < 2 ^ 1000) : CDivP n d := by
  refine ⟨h0, ?_⟩
  have a := log2_lt h (by decide)
  unfold Builtin.divisionGoesByPylong
  have e : ¬ (d == 0) = true := by simp; omega
  have z : ¬ (d.natAbs.log2 / 30 + 1 > 300) := by omega
  simp only [e, Bool.false_eq_true, if_false]
  rw [decide_eq_false z]
  rfl
theorem up_two {n a b : Nat} (h : n < 2 ^ a) (l : a ≤ b) : n < 2 ^ b := Nat.lt_of_lt_of_le h (Nat.pow_le_pow_right (by decide) l)
theorem add_lt {i j : Int} {a : Nat} (hi : i.natAbs < 2 ^ a) (hj : j.natAbs < 2 ^ a) : (i + j).natAbs < 2 ^ (a + 1) := by
  rw [Nat.pow_succ]
  omega
end Own

namespace Own
open PySem PySem.Spec PyProof.Rows L2 LamX NdefX
/-- what the law leans on of an error's class -/
def oexB (K : PySem.W.Frag) (C : Addr) : Bool := (match K.lookup C with
  | some ⟨.type t, _, .cls cd, sl⟩ => decide (t = "type") && (cd.hasDict && (!cd.hasDel && ((match cd.mro with
    | .ref D :: bm => decide (D = C) && PySem.HandSPX.refsVE bm
    | _ => false) && (match sl.toList with
    | [_, _, _, _, some (.builtin n), _] => decide (n = "ValueError.__new__")
    | _ => false))))
  | _ => false) && (decide (PySem.W.findIn K (.ref C) "__setattr__" = some (some (.builtin "object.__setattr__"))) && (decide (PySem.W.subIn K (.ref C) (.type "BaseException") = some true) && (decide (PySem.W.typeIn K (.ref C) = some (.type "type")) && PySem.W.keepIn K (.ref C))))
theorem oexB_ok {K : PySem.W.Frag} {C : Addr} (h : oexB K C = true) : OexC K C := by
  obtain ⟨h0, h⟩ := He.ba h
  obtain ⟨h1, h⟩ := He.ba h
  obtain ⟨h2, h⟩ := He.ba h
  obtain ⟨h3, h4⟩ := He.ba h
  refine ⟨?_, of_decide_eq_true h1, of_decide_eq_true h2, of_decide_eq_true h3, h4⟩
  cases q : K.lookup C with
  | none => rw [q] at h0; cases h0
  | some o =>
    rw [q] at h0
    obtain ⟨oc, od, dt, ⟨sl⟩⟩ := o
    cases oc with
    | type t =>
      cases dt with
      | cls cd =>
        obtain ⟨nm, bs, mro, ns, qn, hd, sn, sub, ab, col, del⟩ := cd
        obtain ⟨a1, a⟩ := He.ba h0
        obtain ⟨a2, a⟩ := He.ba a
        obtain ⟨a3, a⟩ := He.ba a
        obtain ⟨a4, a5⟩ := He.ba a
        have e1 : t = "type" := of_decide_eq_true a1
        have e2 : hd = true := a2
        have e3 : del = false := by
          have z : (!del) = true := a3
          simpa using z
        subst e1 e2 e3
        cases mro with
        | nil => cases a4
        | cons m bm =>
          cases m with
          | ref D =>
            obtain ⟨b1, b2⟩ := He.ba (show (decide (D = C) && PySem.HandSPX.refsVE bm) = true from a4)
            have e4 : D = C := of_decide_eq_true b1
            subst e4
            match sl, a5 with
            | [k0, k1, k2, k3, some (.builtin n), k5], z =>
              have e5 : n = "ValueError.__new__" := of_decide_eq_true z
              subst e5
              exact ⟨_, _, _, _, _, _, _, _, _, _, _, _, _, _, _, rfl, b2⟩
          | _ => cases a4
      | _ => cases h0
    | _ => cases dt <;> cases h0
def isTup (K : PySem.W.Frag) (a : Addr) : Bool := match K.lookup a with
  | some ⟨.type c, _, _, _⟩ => decide (c = "tuple")
  | _ => false
theorem isTup_ok {K : PySem.W.Frag} {a : Addr} (h : isTup K a = true) : ∃ o : Obj, K.lookup a = some o ∧ o.cls = .type "tuple" := by
  unfold isTup at h
  cases q : K.lookup a with
  | none => rw [q] at h; cases h
  | some o =>
    rw [q] at h
    obtain ⟨oc, od, dt, sl⟩ := o
    cases oc with
    | type c => exact ⟨_, rfl, congrArg Value.type (of_decide_eq_true h)⟩
    | _ => cases h
section
variable {P : Program} {w : World} {K : PySem.W.Frag} {mg : Str → Option Value} {h : Heap}
theorem fun_of {x qual : Str} {st : Stmt} {f : Addr} {fd : FuncData} (F : FunD K x qual (defArgs st) (defBody st) (defScope st) [] [] f fd) : Fun K x qual st f fd := by
  obtain ⟨oc, od, dV, kV, doc, pm, an, cdv, ct, osl, rfl, lk, hcd, hD, _⟩ := F.ex
  rcases hD with ⟨_, rfl⟩ | ⟨n, _⟩
  · exact ⟨⟨oc, od, kV, doc, pm, an, cdv, ct, osl, rfl, lk, hcd⟩, F.kp⟩
  · exact absurd rfl n
theorem at_of {x : Str} {st : Stmt} {ps : List Str} {f : Addr} {fd : FuncData} (F : FunD K x x (defArgs st) (defBody st) (defScope st) [] [] f fd) (g : mg x = some (.ref f))
    (b : ∀ (kV doc pm : Value) (an : Option Addr) (cdv ct : Value) (us : List Value), us.length = ps.length → bindArgs (PySem.W.fnOf x x (defArgs st) (defBody st) (defScope st) .none kV doc pm an cdv ct) ⟨us, []⟩ = pure (ps.zip us)) : At K mg x st ps :=
  ⟨f, fd, fun_of F, g, (fun_of F).binds b⟩
end
end Own
namespace Own
/-- built-in names that no module takes -/
structure Blt (mg : PySem.Str → Option PySem.Value) : Prop where
  isi : mg "isinstance" = none
  int : mg "int" = none
  bool : mg "bool" = none
  len : mg "len" = none
  list : mg "list" = none
  range : mg "range" = none
  tuple : mg "tuple" = none
  all : mg "all" = none
  dm : mg "divmod" = none
  min : mg "min" = none
  max : mg "max" = none
  str : mg "str" = none
  abs : mg "abs" = none
  dict : mg "dict" = none
  any : mg "any" = none
end Own

/-! own layer, of no law: OWNQ: a pen with any names for its cells, its count and what is left. -/
namespace Own
open PySem PySem.Spec PyProof.Rows L2 LamX NdefX
def penG (a b c : Str) (p : Addr) (m l : Int) : List (Key × V) := [(Sum.inr a, V.ref p), (Sum.inr b, V.int m), (Sum.inr c, V.int l)]
/-- the three names are unlike -/
def Un3 (a b c : Str) : Prop := ¬ a = b ∧ ¬ a = c ∧ ¬ b = c
section
variable {a b c : Str} {p d : Addr} {m l m' l' : Int} {H H' : Hp} {B B' : Int}
theorem gpen_a (u : Un3 a b c) (h : H d = some (.dK (penG a b c p m l))) : DGet H d (V.str a) (some (.ref p)) := by
  have z := DGet.k (k := (Sum.inr a : Key)) h
  have e : valV (penG a b c p m l) (Sum.inr a : Key) = some (.ref p) := valV_pos rfl
  rw [e] at z
  exact z
theorem gpen_b (u : Un3 a b c) (h : H d = some (.dK (penG a b c p m l))) : DGet H d (V.str b) (some (.int m)) := by
  have z := DGet.k (k := (Sum.inr b : Key)) h
  have e : valV (penG a b c p m l) (Sum.inr b : Key) = some (.int m) := by
    unfold penG
    rw [valV_neg (fun e => u.1 (Sum.inr.inj e)), valV_pos rfl]
  rw [e] at z
  exact z
theorem gpen_c (u : Un3 a b c) (h : H d = some (.dK (penG a b c p m l))) : DGet H d (V.str c) (some (.int l)) := by
  have z := DGet.k (k := (Sum.inr c : Key)) h
  have e : valV (penG a b c p m l) (Sum.inr c : Key) = some (.int l) := by
    unfold penG
    rw [valV_neg (fun e => u.2.1 (Sum.inr.inj e)), valV_neg (fun e => u.2.2 (Sum.inr.inj e)), valV_pos rfl]
  rw [e] at z
  exact z
theorem ppen_b (u : Un3 a b c) (h : H d = some (.dK (penG a b c p m l))) : DPut H d (V.str b) (.int m') (upd H d (.dK (penG a b c p m' l))) := by
  have z := DPut.k (k := (Sum.inr b : Key)) (v := .int m') h (by show 3 < sizeLine; decide)
  have e : putK (penG a b c p m l) (Sum.inr b : Key) (.int m') = penG a b c p m' l := by
    unfold penG putK
    simp [key_dec u.1, key_dec (show ¬ c = b from fun e => u.2.2 e.symm), u.1, u.2.2, show ¬ c = b from fun e => u.2.2 e.symm]
  rw [e] at z
  exact z
theorem ppen_c (u : Un3 a b c) (h : H d = some (.dK (penG a b c p m l))) : DPut H d (V.str c) (.int l') (upd H d (.dK (penG a b c p m l'))) := by
  have z := DPut.k (k := (Sum.inr c : Key)) (v := .int l') h (by show 3 < sizeLine; decide)
  have e : putK (penG a b c p m l) (Sum.inr c : Key) (.int l') = penG a b c p m l' := by
    unfold penG putK
    simp [key_dec u.2.1, key_dec u.2.2, u.2.1, u.2.2]
  rw [e] at z
  exact z
/-- the pen stands at d: at most B draws were begun -/
structure PenG (a b c : Str) (H : Hp) (d : Addr) (B : Int) : Prop where
  ex : ∃ (p : Addr) (ns : List Int) (m l : Int), H d = some (.dK (penG a b c p m l)) ∧ H p = some (.lst (ns.map V.int)) ∧ ns.length ≤ 63 ∧ 0 ≤ m ∧ m ≤ B
theorem PenG.mono (h : PenG a b c H d B) (z : B ≤ B') : PenG a b c H d B' := by
  obtain ⟨p, ns, m, l, e1, e2, e3, f, g⟩ := h.ex
  exact ⟨p, ns, m, l, e1, e2, e3, f, by omega⟩
theorem PenG.same (h : PenG a b c H d B) (s : Same H H') : PenG a b c H' d B := by
  obtain ⟨p, ns, m, l, e1, e2, e3, f, g⟩ := h.ex
  exact ⟨p, ns, m, l, s _ _ e1, s _ _ e2, e3, f, g⟩
theorem PenG.at_ (h : PenG a b c H d B) : ∃ kvs, H d = some (.dK kvs) ∧ ∃ q ∈ kvs, flatB q.2 = false := by
  obtain ⟨p, ns, m, l, e, _⟩ := h.ex
  exact ⟨_, e, _, List.mem_cons_self, rfl⟩
theorem PenG.odd {x : V} (h : PenG a b c H d B) (o : Odd H x) : x ≠ .ref d := by
  obtain ⟨kvs, e, q, hq, f⟩ := h.at_
  intro z
  rw [z] at o
  cases o with
  | flat h => cases h
  | lst e' f => rw [e] at e'; cases e'
  | tup e' f => rw [e] at e'; cases e'
  | dct e' n g =>
    rw [e] at e'
    cases e'
    rw [g _ hq] at f
    cases f
theorem tabs_keepG {T : List (Addr × Str)} (h : Tabs T H) (hp : PenG a b c H d B) (k : Keep d H H') : Tabs T H' := fun p hq => by
  obtain ⟨kvs, ed, _⟩ := hp.at_
  obtain ⟨ps, h1, h2, h3⟩ := h p hq
  have a : p.1 ≠ d := ne_of h1 ed (by intro z; cases z)
  refine ⟨ps, k _ _ a h1, h2, fun pos cv hc => ?_⟩
  obtain ⟨c, e1, e2⟩ := h3 pos cv hc
  have b : c ≠ d := ne_of e2 ed (by unfold CodeO; intro z; cases z)
  exact ⟨c, e1, k _ _ b e2⟩
end
/-- the dict that begins a pen, written out -/
theorem merge_pen {a b c : Str} (u : Un3 a b c) (p : Addr) (m l : Int) : mergeK [] [(Sum.inr a, V.ref p), (Sum.inr b, V.int m), (Sum.inr c, V.int l)] = penG a b c p m l := by
  unfold mergeK
  rw [List.foldl_cons, putK_new _ valV_nil, List.foldl_cons, putK_new _ (by
    rw [List.nil_append, valV_neg (fun e => u.1 (Sum.inr.inj e)), valV_nil]), List.foldl_cons, putK_new _ (by
    show valV [_, _] _ = none
    rw [valV_neg (fun e => u.2.1 (Sum.inr.inj e)), valV_neg (fun e => u.2.2 (Sum.inr.inj e)), valV_nil])]
  rfl
theorem cut63 (xs : List V) (h : xs.length ≤ 63) : cutV xs none (some 63) = xs := by
  unfold cutV
  rw [HT.sIx_none, show HT.sIx xs.length xs.length (some 63) = min 63 xs.length from HT.sIx_nat xs.length xs.length 63, List.drop_zero, Nat.min_eq_right h, Nat.sub_zero, List.take_length]
theorem neG_nil {xs : List Int} : PyData.eqv (.list (xs.map PyData.int)) (.list []) = decide (xs = []) := by
  cases xs with
  | nil => rfl
  | cons a r => rfl
theorem dpG_ints {K : PySem.W.Frag} {H : Hp} : ∀ ns : List Int, DpAll K H (ns.map V.int) (ns.map PyData.int)
  | [] => .nil
  | a :: r => .cons (.int a) (dpG_ints r)
theorem layG_ints : ∀ ns : List Int, PyData.canLayAll0 (ns.map PyData.int) = true
  | [] => by simp only [List.map_nil, PyData.canLayAll0]
  | a :: r => by simp only [List.map_cons, PyData.canLayAll0, PyData.canLay0, layG_ints r, Bool.and_self]
theorem depG_ints : ∀ ns : List Int, PyData.depthAll (ns.map PyData.int) ≤ 1
  | [] => by simp [PyData.depthAll]
  | a :: r => by
    have z := depG_ints r
    simp only [List.map_cons, PyData.depthAll, PyData.depth]
    omega
theorem shG_ints (ns : List Int) : SeqAt.shaped (.list (ns.map PyData.int)) = true := by
  have a := layG_ints ns
  have b := depG_ints ns
  have z : (PyData.list (ns.map PyData.int)).depth ≤ 64 := by
    simp only [PyData.depth]
    omega
  unfold SeqAt.shaped
  rw [Bool.and_eq_true]
  exact ⟨by simpa [PyData.canLay0] using a, decide_eq_true z⟩
end Own

/-! own layer, of no law: OWNY: what drawing keeps, the pen's list among it. -/
namespace Own
open PySem PySem.Spec PyProof.Rows L2 LamX NdefX
/-- all but the pen's dict is as it was; its list is the same one -/
structure KeepG (a b c : Str) (d : Addr) (H H' : Hp) : Prop where
  k : ∀ x o, x ≠ d → H x = some o → H' x = some o
  c : ∀ p m l, H d = some (.dK (penG a b c p m l)) → ∃ m' l', H' d = some (.dK (penG a b c p m' l'))
instance {a b c : Str} {d : Addr} {H H' : Hp} : CoeFun (KeepG a b c d H H') (fun _ => ∀ x o, x ≠ d → H x = some o → H' x = some o) := ⟨KeepG.k⟩
section
variable {a b c : Str} {d p x : Addr} {o : HO} {H H' H1 H2 : Hp} {m l m' l' : Int}
theorem penG_inj {p p' : Addr} {m m' l l' : Int} (h : penG a b c p m l = penG a b c p' m' l') : p = p' := by
  unfold penG at h
  have z := (List.cons.inj h).1
  exact V.ref.inj (Prod.mk.inj z).2
theorem KeepG.refl : KeepG a b c d H H := ⟨fun _ _ _ e => e, fun _ m l e => ⟨m, l, e⟩⟩
theorem KeepG.trans (h : KeepG a b c d H H1) (k : KeepG a b c d H1 H2) : KeepG a b c d H H2 :=
  ⟨fun x o n e => k.k x o n (h.k x o n e), fun p m l e => by
    obtain ⟨m1, l1, e1⟩ := h.c p m l e
    exact k.c p m1 l1 e1⟩
theorem KeepG.same (s : Same H H') : KeepG a b c d H H' := ⟨fun x o _ e => s x o e, fun p m l e => ⟨m, l, s _ _ e⟩⟩
theorem KeepG.new (h : H p = none) : KeepG a b c d H (upd H p o) := KeepG.same (same_new h)
theorem KeepG.put (hd : H d = some (.dK (penG a b c p m l))) : KeepG a b c d H (upd H d (.dK (penG a b c p m' l'))) :=
  ⟨fun x o n e => (upd_ne n).trans e, fun p' m1 l1 e => by
    have z := e.symm.trans hd
    have y := penG_inj (HO.dK.inj (Option.some.inj z))
    rw [y]
    exact ⟨m', l', upd_same⟩⟩
/-- x is not the pen's list -/
def OffG (a b c : Str) (H : Hp) (d x : Addr) : Prop := ∀ p m l, H d = some (.dK (penG a b c p m l)) → p ≠ x
theorem OffG.of {B : Int} (hp : PenG a b c H d B) (h : H x = none) : OffG a b c H d x := fun p m l e => by
  obtain ⟨p0, ns, m0, l0, e0, e1, _⟩ := hp.ex
  have y := penG_inj (HO.dK.inj (Option.some.inj (e.symm.trans e0)))
  rw [y]
  exact ne_of_none e1 h
theorem OffG.keep {B : Int} (h : OffG a b c H d x) (hp : PenG a b c H d B) (k : KeepG a b c d H H') : OffG a b c H' d x := fun p m l e => by
  obtain ⟨p0, ns, m0, l0, e0, _⟩ := hp.ex
  obtain ⟨m1, l1, e1⟩ := k.c p0 m0 l0 e0
  have y := penG_inj (HO.dK.inj (Option.some.inj (e.symm.trans e1)))
  rw [y]
  exact h p0 m0 l0 e0
theorem OffG.at_ {y : Addr} (h : OffG a b c H d x) (n : d ≠ y) : OffG a b c (upd H y o) d x := fun p m l e => h p m l ((upd_ne n).symm.trans e)
/-- a list that is not the pen's is stored anew -/
theorem PenG.put {B : Int} {xs : List V} (hp : PenG a b c H d B) (hx : H x = some (.lst xs)) (f : OffG a b c H d x) : PenG a b c (upd H x o) d B := by
  obtain ⟨p, ns, m, l, e1, e2, e3, e4, e5⟩ := hp.ex
  have n1 : d ≠ x := ne_of e1 hx (by intro z; cases z)
  exact ⟨p, ns, m, l, (upd_ne n1).trans e1, (upd_ne (f p m l e1)).trans e2, e3, e4, e5⟩
theorem PenG.ne_lst {B : Int} {xs : List V} (hp : PenG a b c H d B) (hx : H x = some (.lst xs)) : d ≠ x := by
  obtain ⟨p, ns, m, l, e1, _⟩ := hp.ex
  exact ne_of e1 hx (by intro z; cases z)
/-- .. and over what was not there at first -/
theorem KeepG.over (k : KeepG a b c d H H') (n : H x = none) : KeepG a b c d H (upd H' x o) :=
  ⟨fun y u m e => (upd_ne (ne_of_none e n)).trans (k.k y u m e), fun p m l e => by
    obtain ⟨m1, l1, e1⟩ := k.c p m l e
    exact ⟨m1, l1, (upd_ne (ne_of_none e n)).trans e1⟩⟩
theorem KeepG.lst {B : Int} {xs : List V} (k : KeepG a b c d H H') (hp : PenG a b c H d B) (h : H x = some (.lst xs)) : H' x = some (.lst xs) := k.k _ _ (hp.ne_lst h).symm h
end
end Own

/-! own layer, of no law: OWN2: operators by an own class. -/
namespace Own
open PySem PySem.Spec PyProof.Rows L2 LamX NdefX
section
variable {X : Cx} {pins : List (Addr × Obj)} {σ : L2.St} {H : Hp} {s : Shared}
theorem back_of {Q : VK} {A : Around} {c : Sem Value} (h : wpAny (model X.prog X.w) A c (EP X pins σ Q) X.xe s) : wpAny (model X.prog X.w) A c (PySem.W.CmpBack (EP X pins σ Q)) X.xe s := by
  refine wpAny_mono h (fun v s' q => ?_) fun _ _ e => e
  obtain ⟨y, H', I', r, q'⟩ := q
  cases v with
  | notImplemented => cases y <;> first | exact (nomatch r) | (obtain ⟨_, z⟩ := r; cases z)
  | _ => exact ⟨y, H', I', r, q'⟩
variable {CX : CXT} {n : Nat} {C f : Addr} {fd : FuncData} {ps : List Str} {sp : Sp} {E : XK} {op : Operator}
/-- x op y, both of the class at C, whose own method takes them -/
theorem op_own (F : FnOk X.prog X.w X.K X.mg X.base CX n f fd ps sp) (hr : Room n X.A) (hc : PySem.W.selfFirst X.K C = true) (hs : PySem.W.findIn X.K (.ref C) (PySem.dunder op.info.2) = some (some (.ref f))) (hf : PySem.W.isFn X.K (.ref f) = true) (hb : Binds X.K fd ps []) (hx : Passes CX X E) :
    OpR X (binaryOp op) (fun x y H Q => ∃ a b dx dy fs gs, x = V.ref a ∧ y = V.ref b ∧ H a = some (.ins C dx fs) ∧ H b = some (.ins C dy gs) ∧ sp [.ref a, .ref b] H Q E) := by
  intro pins s σ H x y v u Q I rx ry h
  obtain ⟨a, b, dx, dy, fs, gs, rfl, rfl, ha, hb', q⟩ := h
  cases rx
  cases ry
  obtain ⟨mA, J, _⟩ := ins_get I.hok ha
  obtain ⟨mB, J', _⟩ := ins_get I.hok hb'
  obtain ⟨od, J, _⟩ := J.look
  obtain ⟨od', J', _⟩ := J'.look
  obtain ⟨m, hF⟩ := I.fr
  exact PySem.W.binop_K hF I.ok.mod.kin J J'.type hc hs hf (back_of (run_fn F hr hb .nil hx I (.cons (show L2.RelV (V.ref a) (Value.ref a) from rfl) (.cons (show L2.RelV (V.ref b) (Value.ref b) from rfl) .nil)) q))
/-- -x of the class at C -/
theorem un_own (F : FnOk X.prog X.w X.K X.mg X.base CX n f fd ps sp) (hr : Room n X.A) (hs : PySem.W.findIn X.K (.ref C) "__neg__" = some (some (.ref f))) (hf : PySem.W.isFn X.K (.ref f) = true) (hb : Binds X.K fd ps []) (hx : Passes CX X E) :
    UnR X (unaryOp .USub) (fun x H Q => ∃ a dx fs, x = V.ref a ∧ H a = some (.ins C dx fs) ∧ sp [.ref a] H Q E) := by
  intro pins s σ H x v Q I rx h
  obtain ⟨a, dx, fs, rfl, ha, q⟩ := h
  cases rx
  obtain ⟨mA, J, _⟩ := ins_get I.hok ha
  obtain ⟨od, J, _⟩ := J.look
  obtain ⟨m, hF⟩ := I.fr
  exact PySem.W.ksp_neg hF I.ok.mod.kin J hs hf (run_fn F hr hb .nil hx I (.cons (show L2.RelV (V.ref a) (Value.ref a) from rfl) .nil) q)
end
end Own

/-! own layer, of no law: OWN3: an own class and a built-in value, on either side. -/
namespace Own
open PySem PySem.Spec PySem.Calls PyProof.Rows
section
variable {prog : Program} {w : World} {A : Around} {E : Value → Shared → Prop} {s : Shared} {K : PySem.W.Frag} {x C f : Addr} {ox : Obj} {od : Option Obj} {T : String}
open PySem.W in
/-- own op built-in -/
theorem own_left {op : Operator} {b : Value} {r : Bool} {back ours : Option Value} {Q : Value → Shared → Prop} (KX : K.In s.heap) (J : InstAt s.heap x ox C od) (tb : Looks (model prog w) s.heap (typeOf b) (.type T)) (one : selfFirst K C = true)
    (me : findIn K (.ref C) (PySem.dunder op.info.2) = some (some (.ref f))) (fn : isFn K (.ref f) = true) (mr : findIn K (.ref C) (dunderR op.info.2) = some ours) (mp : ours = none ∨ ∃ g : Addr, ours = some (.ref g))
    (slot : fillsNumberSlot (.type T) op.info.2 = pure r) (their : typeLookup (.type T) (dunderR op.info.2) = pure back) (nosub : subIn K (.type T) (.ref C) = some false)
    (go : wpAny (model prog w) A (call (.ref f) [.ref x, b]) (PySem.W.CmpBack Q) E s) : wpAny (model prog w) A (binaryOp op (.ref x) b) Q E s := by
  obtain ⟨cd, tl, c1, c2⟩ := ksp_first one
  obtain ⟨sy, nm, e⟩ : ∃ sy nm, op.info = (sy, nm) := ⟨_, _, rfl⟩
  rw [e] at me mr slot their
  have did := ksp_try KX J me fn go
  obtain ⟨hp, gs, dr, tk, os⟩ := s
  have q1 : Looks (model prog w) hp (typeOf (.ref x)) (.ref C) := J.type
  have q3 : Looks (model prog w) hp (fillsNumberSlot (.ref C) nm) true := fills_K KX c1 c2 me
  have q4 : Looks (model prog w) hp (fillsNumberSlot (.type T) nm) r := Looks.of_pure slot
  have q5 : Looks (model prog w) hp (isSubtype (.type T) (.ref C)) false := looks_subIn KX nosub
  have q6 : Looks (model prog w) hp (numberSlotInPython (.ref C) nm) true := ksp_inPy KX me mr mp
  have q7 : Looks (model prog w) hp (numberSlotInPython (.type T) nm) false := Looks.of_pure rfl
  have q8 : Looks (model prog w) hp (typeLookup (.type T) (dunderR nm)) back := Looks.of_pure their
  have ne : (Value.ref C == Value.type T) = false := by rw [beq_eq_false_iff_ne]; intro z; cases z
  unfold binaryOp
  rw [e]
  dsimp only
  refine wpAny_holding (wpAny_bind ?_)
  unfold binaryOp1
  refine wpAny_bind (q1.at (wpAny_bind (tb.at (wpAny_bind (q3.at ?_)))))
  rw [ne]
  simp only [Bool.false_eq_true, if_false]
  cases r
  · ksp_lk
    refine wpAny_mono did (fun u s' z => ?_) fun _ _ z => z
    obtain ⟨v, rfl, hv⟩ := z
    ksp_lk
    exact hv
  · ksp_lk
    refine wpAny_mono did (fun u s' z => ?_) fun _ _ z => z
    obtain ⟨v, rfl, hv⟩ := z
    ksp_lk
    exact hv
open PySem.W in
/-- built-in op own: the built-in's own slot stands off, the class's reflected method takes them -/
theorem own_right {op : Operator} {a : Value} {l : Bool} {Q : Value → Shared → Prop} (KX : K.In s.heap) (J : InstAt s.heap x ox C od) (ta : ∀ s' : Shared, (∀ b o, s.heap.get? b = some o → s'.heap.get? b = some o) → Looks (model prog w) s'.heap (typeOf a) (.type T)) (one : selfFirst K C = true)
    (mr : findIn K (.ref C) (dunderR op.info.2) = some (some (.ref f))) (fn : isFn K (.ref f) = true) (fills : ∀ h : Heap, K.In h → Looks (model prog w) h (fillsNumberSlot (.ref C) op.info.2) true)
    (slot : fillsNumberSlot (.type T) op.info.2 = pure l) (nosub : subIn K (.ref C) (.type T) = some false)
    (off : l = true → ∀ {R : Option Value → Shared → Prop} {s' : Shared}, (∀ b o, s.heap.get? b = some o → s'.heap.get? b = some o) → (∀ t : Tok, R none { s' with toks := t }) → wpAny (model prog w) A (tryMethod a (PySem.dunder op.info.2) (.ref x)) R E s')
    (go : ∀ t : Tok, wpAny (model prog w) A (call (.ref f) [.ref x, a]) (PySem.W.CmpBack Q) E { s with toks := t }) : wpAny (model prog w) A (binaryOp op a (.ref x)) Q E s := by
  obtain ⟨sy, nm, e⟩ : ∃ sy nm, op.info = (sy, nm) := ⟨_, _, rfl⟩
  rw [e] at mr slot fills off
  have did : ∀ t : Tok, wpAny (model prog w) A (tryMethod (.ref x) (dunderR nm) a) (fun u s' => ∃ v, u = some v ∧ Q v s') E { s with toks := t } := fun t => ksp_try (s := { s with toks := t }) KX J mr fn (go t)
  have here := ta s fun _ _ z => z
  have q3 := fills s.heap KX
  obtain ⟨hp, gs, dr, tk, os⟩ := s
  have q1 : Looks (model prog w) hp (typeOf (.ref x)) (.ref C) := J.type
  have q2 : Looks (model prog w) hp (typeOf a) (.type T) := here
  have q4 : Looks (model prog w) hp (fillsNumberSlot (.type T) nm) l := Looks.of_pure slot
  have q5 : Looks (model prog w) hp (isSubtype (.ref C) (.type T)) false := looks_subIn KX nosub
  have q6 : Looks (model prog w) hp (fillsNumberSlot (.ref C) nm) true := q3
  have q7 : Looks (model prog w) hp (numberSlotInPython (.type T) nm) false := Looks.of_pure rfl
  have ne : (Value.type T == Value.ref C) = false := by rw [beq_eq_false_iff_ne]; intro z; cases z
  unfold binaryOp
  rw [e]
  dsimp only
  refine wpAny_holding (wpAny_bind ?_)
  unfold binaryOp1
  refine wpAny_bind (q2.at (wpAny_bind (q1.at (wpAny_bind (q4.at ?_)))))
  rw [ne]
  simp only [Bool.false_eq_true, if_false]
  refine wpAny_bind (q6.at ?_)
  cases l
  · ksp_lk
    refine wpAny_mono (did tk) (fun u s' z => ?_) fun _ _ z => z
    obtain ⟨v, rfl, hv⟩ := z
    ksp_lk
    exact hv
  · ksp_lk
    refine off rfl (fun _ _ z => z) fun t => ?_
    ksp_lk
    refine wpAny_mono (did t) (fun u s' z => ?_) fun _ _ z => z
    obtain ⟨v, rfl, hv⟩ := z
    ksp_lk
    exact hv
end
end Own

/-! own layer, of no law: OWN4. -/
namespace Own
open PySem PySem.Spec PySem.Calls PyProof.Rows AutoSeq1
def tys : List String := ["NoneType", "bool", "int", "str", "list", "tuple", "dict"]
theorem fill_add : ∀ T ∈ tys, fillsNumberSlot (.type T) "add" = pure (T == "int" || T == "bool") := by
  intro T hT
  simp only [tys, List.mem_cons, List.not_mem_nil, or_false] at hT
  rcases hT with rfl | rfl | rfl | rfl | rfl | rfl | rfl <;> kernel_rfl
theorem fill_sub : ∀ T ∈ tys, fillsNumberSlot (.type T) "sub" = pure (T == "int" || T == "bool") := by
  intro T hT
  simp only [tys, List.mem_cons, List.not_mem_nil, or_false] at hT
  rcases hT with rfl | rfl | rfl | rfl | rfl | rfl | rfl <;> kernel_rfl
theorem fill_mul : ∀ T ∈ tys, fillsNumberSlot (.type T) "mul" = pure (T == "int" || T == "bool") := by
  intro T hT
  simp only [tys, List.mem_cons, List.not_mem_nil, or_false] at hT
  rcases hT with rfl | rfl | rfl | rfl | rfl | rfl | rfl <;> kernel_rfl
theorem refl_add : ∀ T ∈ tys, typeLookup (.type T) (dunderR "add") = pure (if (T == "int" || T == "bool") = true then some (.builtin "int.__radd__") else none) := by
  intro T hT
  simp only [tys, List.mem_cons, List.not_mem_nil, or_false] at hT
  rcases hT with rfl | rfl | rfl | rfl | rfl | rfl | rfl <;> (rw [typeLookup_type, builtinLookup_eq_fast]; kernel_rfl)
theorem refl_sub : ∀ T ∈ tys, typeLookup (.type T) (dunderR "sub") = pure (if (T == "int" || T == "bool") = true then some (.builtin "int.__rsub__") else none) := by
  intro T hT
  simp only [tys, List.mem_cons, List.not_mem_nil, or_false] at hT
  rcases hT with rfl | rfl | rfl | rfl | rfl | rfl | rfl <;> (rw [typeLookup_type, builtinLookup_eq_fast]; kernel_rfl)
theorem refl_mul : ∀ T ∈ tys, typeLookup (.type T) (dunderR "mul") = pure (if (T == "int" || T == "bool") = true then some (.builtin "int.__rmul__") else if T == "str" then some (.builtin "str.__rmul__") else if T == "list" then some (.builtin "list.__rmul__") else if T == "tuple" then some (.builtin "tuple.__rmul__") else none) := by
  intro T hT
  simp only [tys, List.mem_cons, List.not_mem_nil, or_false] at hT
  rcases hT with rfl | rfl | rfl | rfl | rfl | rfl | rfl <;> (rw [typeLookup_type, builtinLookup_eq_fast]; kernel_rfl)
/-- an int's own slot stands off an object that is no int -/
theorem off_meets {nm : String} {x : Addr} {v : Value} {i : Int} {g : Int → Int → Sem Fin} (hv : (∃ t, v = .int i t) ∨ ∃ b, v = .bool b) : Meets (Builtin.Int.intBinary nm g false ⟨[v, .ref x], []⟩) (fun _ R s => ∃ o, s.heap.get? x = some o ∧ o.data = .plain ∧ R (.ok (.ret .notImplemented)) s) := by
  intro prog w A R s h
  obtain ⟨o, e, d, q⟩ := h
  obtain ⟨hp, gs, dr, tk, os⟩ := s
  rcases hv with ⟨t, rfl⟩ | ⟨b, rfl⟩
  · unfold Builtin.Int.intBinary
    wp_walk using wpAny_loadPart' e
    rw [d]
    exact wpAny_pure (wpAny_bind (wpAny_rule (wpAny_pure q)))
  · unfold Builtin.Int.intBinary
    wp_walk using wpAny_loadPart' e
    rw [d]
    exact wpAny_pure (wpAny_bind (wpAny_rule (wpAny_pure q)))
section
variable {prog : Program} {w : World} {A : Around} {E : Value → Shared → Prop} {s : Shared} {x : Addr} {o : Obj} {v : Value} {i : Int}
/-- .. so its method gives none -/
theorem off_try {T id : String} {nm : String} {nb : String} {g : Int → Int → Sem PySem.Fin} {R : Option Value → Shared → Prop} (hv : (∃ t, v = .int i t) ∨ ∃ b, v = .bool b) (ho : s.heap.get? x = some o) (hd : o.data = .plain) (hT : s.TypeIs v T) (slot : Slot T (dunder nm) id)
    (entry : entryFor table id = some (Builtin.Int.intBinary nb g false)) (args : argsOk id ⟨[v, .ref x], []⟩) (h : R none s) : wpAny (model prog w) A (tryMethod v (dunder nm) (.ref x)) R E s := by
  unfold tryMethod
  exact wpAny_bind (wpAny_callSpecial?_slot hT slot (call_meets slot hT entry args (off_meets hv) ⟨o, ho, hd, wpAny_pure h⟩))
theorem off_add {R : Option Value → Shared → Prop} (ho : s.heap.get? x = some o) (hd : o.data = .plain) (h : R none s) : (∀ t, v = .int i t → wpAny (model prog w) A (tryMethod v (dunder "add") (.ref x)) R E s) ∧ (∀ b, v = .bool b → wpAny (model prog w) A (tryMethod v (dunder "add") (.ref x)) R E s) := by
  refine ⟨fun t e => ?_, fun b e => ?_⟩
  · exact off_try (T := "int") (i := i) (.inl ⟨t, e⟩) ho hd (by rw [e]; exact rfl) F.slot_int_add F.entry_int_add (F.args_int_add_2 _ _) h
  · exact off_try (T := "bool") (i := i) (.inr ⟨b, e⟩) ho hd (by rw [e]; exact rfl) F.slot_bool_add F.entry_int_add (F.args_int_add_2 _ _) h
end
end Own

/-! own layer, of no law: OWN5: rules for an own class's operators with what is handed in. -/
namespace Own
open PySem PySem.Spec PyProof.Rows L2 LamX NdefX
/-- what an operator's built-in slots say -/
structure OpB (op : Operator) : Prop where
  fill : ∀ T ∈ tys, fillsNumberSlot (.type T) op.info.2 = pure (T == "int" || T == "bool")
  back : ∀ T ∈ tys, ∃ r, typeLookup (.type T) (dunderR op.info.2) = pure r
  off : ∀ {prog : Program} {w : World} {A : Around} {E : Value → Shared → Prop} {s : Shared} {x : Addr} {o : Obj} {v : Value} {i : Int} {R : Option Value → Shared → Prop}, s.heap.get? x = some o → o.data = .plain → ((∃ t, v = .int i t) ∨ ∃ b, v = .bool b) → R none s →
    wpAny (model prog w) A (tryMethod v (PySem.dunder op.info.2) (.ref x)) R E s
theorem opb_add : OpB .Add := ⟨fill_add, fun T h => ⟨_, refl_add T h⟩, fun {prog w A E s x o v i R} ho hd hv h => by
  rcases hv with ⟨t, e⟩ | ⟨b, e⟩
  · exact off_try (T := "int") (i := i) (.inl ⟨t, e⟩) ho hd (by rw [e]; exact rfl) F.slot_int_add F.entry_int_add (F.args_int_add_2 _ _) h
  · exact off_try (T := "bool") (i := i) (.inr ⟨b, e⟩) ho hd (by rw [e]; exact rfl) F.slot_bool_add F.entry_int_add (F.args_int_add_2 _ _) h⟩
theorem opb_sub : OpB .Sub := ⟨fill_sub, fun T h => ⟨_, refl_sub T h⟩, fun {prog w A E s x o v i R} ho hd hv h => by
  rcases hv with ⟨t, e⟩ | ⟨b, e⟩
  · exact off_try (T := "int") (i := i) (.inl ⟨t, e⟩) ho hd (by rw [e]; exact rfl) F.slot_int_sub F.entry_int_sub (F.args_int_sub_2 _ _) h
  · exact off_try (T := "bool") (i := i) (.inr ⟨b, e⟩) ho hd (by rw [e]; exact rfl) F.slot_bool_sub F.entry_int_sub (F.args_int_sub_2 _ _) h⟩
theorem opb_mul : OpB .Mult := ⟨fill_mul, fun T h => ⟨_, refl_mul T h⟩, fun {prog w A E s x o v i R} ho hd hv h => by
  rcases hv with ⟨t, e⟩ | ⟨b, e⟩
  · exact off_try (T := "int") (i := i) (.inl ⟨t, e⟩) ho hd (by rw [e]; exact rfl) F.slot_int_mul F.entry_int_mul (F.args_int_mul_2 _ _) h
  · exact off_try (T := "bool") (i := i) (.inr ⟨b, e⟩) ho hd (by rw [e]; exact rfl) F.slot_bool_mul F.entry_int_mul (F.args_int_mul_2 _ _) h⟩
section
variable {X : Cx} {pins : List (Addr × Obj)} {σ : L2.St} {H : Hp} {s : Shared}
/-- of which built-in type a thing is -/
theorem thing_ty {x : V} {v : Value} (I : Inv X pins σ H s) (t : Thing H x) (r : RelV x v) : ∃ T ∈ tys, PySem.W.Looks (model X.prog X.w) s.heap (typeOf v) (.type T) ∧ ((T == "int" || T == "bool") = true → ∃ i : Int, (∃ t, v = .int i t) ∨ ∃ b, v = .bool b) := by
  cases t with
  | non =>
    obtain rfl : v = .none := r
    exact ⟨"NoneType", by simp [tys], .of_pure rfl, fun z => absurd z (by decide)⟩
  | bl b =>
    obtain rfl : v = .bool b := r
    exact ⟨"bool", by simp [tys], .of_pure rfl, fun _ => ⟨0, .inr ⟨b, rfl⟩⟩⟩
  | int i =>
    obtain ⟨t, rfl⟩ := r
    exact ⟨"int", by simp [tys], .of_pure rfl, fun _ => ⟨i, .inl ⟨t, rfl⟩⟩⟩
  | str z =>
    obtain ⟨t, rfl⟩ := r
    exact ⟨"str", by simp [tys], .of_pure rfl, fun z => absurd z (by decide)⟩
  | @lst a xs e =>
    obtain rfl : v = .ref a := r
    obtain ⟨_, its, n, _, ho⟩ := I.hok a _ e
    exact ⟨"list", by simp [tys], fun A Q E s' k q => wpAny_typeOf_ref (k _ _ ho) q, fun z => absurd z (by decide)⟩
  | @tup a xs e =>
    obtain rfl : v = .ref a := r
    obtain ⟨_, its, _, o, ho, hc, _⟩ := I.hok a _ e
    exact ⟨"tuple", by simp [tys], fun A Q E s' k q => wpAny_typeOf_ref (k _ _ ho) (by rw [hc]; exact q), fun z => absurd z (by decide)⟩
  | @dct a kvs e =>
    obtain rfl : v = .ref a := r
    obtain ⟨_, _, vs, _, o, es, ep, ho, hc, _⟩ := I.hok a _ e
    exact ⟨"dict", by simp [tys], fun A Q E s' k q => wpAny_typeOf_ref (k _ _ ho) (by rw [hc.1]; exact q), fun z => absurd z (by decide)⟩
variable {CX : CXT} {n : Nat} {C f g : Addr} {fd : FuncData} {ps : List Str} {sp : Sp} {E : XK} {op : Operator}
/-- own op thing -/
theorem op_ownL (B : OpB op) (F : FnOk X.prog X.w X.K X.mg X.base CX n f fd ps sp) (hr : Room n X.A) (hc : PySem.W.selfFirst X.K C = true) (hs : PySem.W.findIn X.K (.ref C) (PySem.dunder op.info.2) = some (some (.ref f))) (hf : PySem.W.isFn X.K (.ref f) = true)
    (hm : PySem.W.findIn X.K (.ref C) (dunderR op.info.2) = some (some (.ref g))) (hsub : ∀ T ∈ tys, PySem.W.subIn X.K (.type T) (.ref C) = some false) (hb : Binds X.K fd ps []) (hx : Passes CX X E) :
    OpR X (binaryOp op) (fun x y H Q => ∃ a dx fs, x = V.ref a ∧ H a = some (.ins C dx fs) ∧ Thing H y ∧ sp [.ref a, y] H Q E) := by
  intro pins s σ H x y v u Q I rx ry h
  obtain ⟨a, dx, fs, rfl, ha, ty, q⟩ := h
  cases rx
  obtain ⟨mA, J, _⟩ := ins_get I.hok ha
  obtain ⟨od, J, _⟩ := J.look
  obtain ⟨T, hT, lk, _⟩ := thing_ty I ty ry
  obtain ⟨r, hbk⟩ := B.back T hT
  exact own_left I.kIn J lk hc hs hf hm (.inr ⟨g, rfl⟩) (B.fill T hT) hbk (hsub T hT) (back_of (run_fn F hr hb .nil hx I (.cons (show L2.RelV (V.ref a) (Value.ref a) from rfl) (.cons ry .nil)) q))
/-- thing op own -/
theorem op_ownR (B : OpB op) (F : FnOk X.prog X.w X.K X.mg X.base CX n f fd ps sp) (hr : Room n X.A) (hc : PySem.W.selfFirst X.K C = true) (hs : PySem.W.findIn X.K (.ref C) (PySem.dunder op.info.2) = some (some (.ref g))) (hf : PySem.W.isFn X.K (.ref f) = true)
    (hm : PySem.W.findIn X.K (.ref C) (dunderR op.info.2) = some (some (.ref f))) (hsub : ∀ T ∈ tys, PySem.W.subIn X.K (.ref C) (.type T) = some false) (hb : Binds X.K fd ps []) (hx : Passes CX X E) :
    OpR X (binaryOp op) (fun x y H Q => ∃ b dy fs, y = V.ref b ∧ H b = some (.ins C dy fs) ∧ Thing H x ∧ sp [.ref b, x] H Q E) := by
  intro pins s σ H x y v u Q I rx ry h
  obtain ⟨b, dy, fs, rfl, hb', tx, q⟩ := h
  cases ry
  obtain ⟨mB, J, _⟩ := ins_get I.hok hb'
  obtain ⟨od, J, _⟩ := J.look
  obtain ⟨T, hT, lk, num⟩ := thing_ty I tx rx
  obtain ⟨cd, tl, c1, c2⟩ := PySem.W.ksp_first hc
  refine own_right I.kIn J (fun s' k => lk.keeps k) hc hm hf (fun h K' => PySem.W.fills_K K' c1 c2 hs) (B.fill T hT) (hsub T hT) (fun z R s' k hR => ?_) fun t => ?_
  · obtain ⟨i, hi⟩ := num z
    obtain ⟨_, _, _, ho, _⟩ := I.hok b _ hb'
    exact B.off (k _ _ ho) rfl hi (hR s'.toks)
  · exact back_of (run_fn F hr hb .nil hx (I.tok t) (.cons (show L2.RelV (V.ref b) (Value.ref b) from rfl) (.cons rx .nil)) q)
end
end Own

/-! own layer, of no law: OWN6: == and abs of an own class. -/
namespace Own
open PySem PySem.Spec PyProof.Rows L2 LamX NdefX
section
variable {X : Cx} {pins : List (Addr × Obj)} {σ : L2.St} {H : Hp} {s : Shared}
variable {CX : CXT} {n : Nat} {C f : Addr} {fd : FuncData} {ps : List Str} {sp : Sp} {E : XK}
/-- own == anything -/
theorem op_ownEq (F : FnOk X.prog X.w X.K X.mg X.base CX n f fd ps sp) (hr : Room n X.A) (hs : PySem.W.findIn X.K (.ref C) "__eq__" = some (some (.ref f))) (hf : PySem.W.isFn X.K (.ref f) = true) (hsub : ∀ T ∈ tys, PySem.W.subIn X.K (.type T) (.ref C) = some false) (hb : Binds X.K fd ps []) (hx : Passes CX X E) :
    OpR X (compareOp .Eq) (fun x y H Q => ∃ a dx fs, x = V.ref a ∧ H a = some (.ins C dx fs) ∧ ((∃ b dy gs, y = V.ref b ∧ H b = some (.ins C dy gs)) ∨ Thing H y) ∧ sp [.ref a, y] H Q E) := by
  intro pins s σ H x y v u Q I rx ry h
  obtain ⟨a, dx, fs, rfl, ha, ty, q⟩ := h
  cases rx
  obtain ⟨mA, J, _⟩ := ins_get I.hok ha
  obtain ⟨od, J, _⟩ := J.look
  obtain ⟨m, hF⟩ := I.fr
  have un : X.A.units < cLine := by
    have := hr.units
    omega
  show wpAny (model X.prog X.w) X.A (richCompare .Eq (.ref a) u) (EP X pins σ Q) X.xe s
  have call := back_of (run_fn F hr hb .nil hx I (.cons (show L2.RelV (V.ref a) (Value.ref a) from rfl) (.cons ry .nil)) q)
  rcases ty with ⟨b, dy, gs, rfl, hb'⟩ | ty
  · cases ry
    obtain ⟨mB, J', _⟩ := ins_get I.hok hb'
    obtain ⟨od', J', _⟩ := J'.look
    exact PySem.W.cmp_K (op := .Eq) (tb := .ref C) un hF I.ok.mod.kin J J'.type (by simp [PySem.W.notFirst]) hs hf call
  · obtain ⟨T, hT, lk, _⟩ := thing_ty I ty ry
    exact PySem.W.cmp_K (op := .Eq) (tb := .type T) un hF I.ok.mod.kin J lk (by unfold PySem.W.notFirst; rw [hsub T hT]; simp) hs hf call
/-- abs(own) -/
theorem call_absOwn (F : FnOk X.prog X.w X.K X.mg X.base CX n f fd ps sp) (hr : Room (n + 1) X.A) (hs : PySem.W.findIn X.K (.ref C) "__abs__" = some (some (.ref f))) (hf : PySem.W.isFn X.K (.ref f) = true) (hb : Binds X.K fd ps []) (hx : Passes CX X E) :
    CallR X (.builtin "abs") (fun xs H Q => ∃ a dx fs, xs = [V.ref a] ∧ H a = some (.ins C dx fs) ∧ sp [.ref a] H Q E) := by
  intro pins s σ H xs us Q I rs h
  obtain ⟨a, dx, fs, rfl, ha, q⟩ := h
  obtain ⟨u, rfl, rx⟩ := vals1 rs
  cases rx
  obtain ⟨mA, J, _⟩ := ins_get I.hok ha
  obtain ⟨od, J, _⟩ := J.look
  have A1 : Room n X.A.in1 := hr.in1
  refine PySem.Calls.call_function_entry kind_abs plain_abs entry_abs (args_abs _) ?_
  unfold Builtin.«abs»
  refine wpAny_bind (m := oneArg "abs" _) (wpAny_pure ?_)
  refine wpAny_bind (m := callSpecial? (.ref a) (Str.ofString "__abs__")) (PySem.W.special_fn I.kIn J hs (beq_iff_eq.mp hf) ?_)
  have e0 : Env0 X.prog X.w X.K X.mg X.base X.A.in1 X.stack s H := by
    have e := I.env0
    exact ⟨e.frames, e.mod, e.bs, e.bsz, e.funs, e.frf, e.hok, e.bare⟩
  have r1 : Vals [V.ref a] [Value.ref a] := .cons (show L2.RelV (V.ref a) (Value.ref a) from rfl) .nil
  have hl := F.len _ _ _ _ q
  refine wpAny_call (codeAny_mono (F.run X.A.in1 X.stack s H ⟨[.ref a], []⟩ [.ref a] [.ref a] Q E A1 e0 (by
    have z := hb s [.ref a] I.kIn (by simpa using hl)
    simpa using z) r1 q) fun r s' hq => ?_)
  cases r with
  | error e => exact hx pins σ H s e s' I hq
  | ok fl =>
    cases fl with
    | ret w => exact wpAny_pure ⟨_, rfl, I.after hq⟩
    | next => exact False.elim hq
    | brk => exact False.elim hq
    | cont => exact False.elim hq
end
end Own

/-! own layer, of no law: OWN7: != of an own class that has == alone. -/
namespace Own
open PySem PySem.Spec PySem.Calls PyProof.Rows
section
variable {prog : Program} {w : World} {A : Around} {E : Value → Shared → Prop} {s : Shared} {K : PySem.W.Frag} {x C f : Addr} {ox : Obj} {od : Option Obj}
open PySem.W in
theorem ne_body {b : Value} {Q : Fin → Shared → Prop} (un : A.units < cLine) (KX : K.In s.heap) (J : InstAt s.heap x ox C od) (eq : findIn K (.ref C) "__eq__" = some (some (.ref f))) (fn : isFn K (.ref f) = true)
    (go : wpAny (model prog w) A (call (.ref f) [.ref x, b]) (fun v s' => ∃ c, v = .bool c ∧ Q (.done (.ret (.bool (!c)))) s') E s) : wpAny (model prog w) A (Builtin.«object.__ne__» ⟨[.ref x, b], []⟩) Q E s := by
  unfold Builtin.«object.__ne__»
  refine wpAny_bind (m := slotArgs "__ne__" 1 _) (wpAny_pure ?_)
  dsimp only
  refine wpAny_bind (wpAny_cRoomFor un ?_)
  refine wpAny_bind (m := callSpecialIfBound? (.ref x) (Str.ofString "__eq__") [b]) (ifBound_K KX J eq fn (wpAny_mono go (fun v s' z => ?_) fun _ _ e => e))
  obtain ⟨c, rfl, q⟩ := z
  exact wpAny_bind (wpAny_truthy_bool (wpAny_pure q))
theorem ne_args (a b : Value) : argsOk "object.__ne__" ⟨[a, b], []⟩ := F.cmpArgs_ne a b
theorem ne_bind (self : Value) : bindSpecial (.builtin "object.__ne__") self = pure (.builtin "object.__ne__", [self]) :=
  (Slot.of (T := "object") (name := "__ne__") (owner := "object") (n := "__ne__") (by rw [typeLookup_type, builtinLookup_eq_fast]; kernel_rfl) (by decide +kernel) (by decide +kernel) (by decide +kernel) (.inl (by decide +kernel)) (by rw [isSubtype_type]; kernel_rfl)).bind self
open PySem.W in
theorem ne_try {b : Value} {Q : Option Value → Shared → Prop} (un : A.units + 1 < cLine) (KX : K.In s.heap) (J : InstAt s.heap x ox C od) (ne : findIn K (.ref C) "__ne__" = some (some (.builtin "object.__ne__"))) (obj : subIn K (.ref C) (.type "object") = some true) (eq : findIn K (.ref C) "__eq__" = some (some (.ref f))) (fn : isFn K (.ref f) = true)
    (go : wpAny (model prog w) A.in1 (call (.ref f) [.ref x, b]) (fun v s' => ∃ c, v = .bool c ∧ Q (some (.bool (!c))) s') E s) : wpAny (model prog w) A (tryCompare (.ref x) "__ne__" b) Q E s := by
  have isO : Looks (model prog w) s.heap (isInstance (.ref x) (.type "object")) true := J.type.andThen (looks_subIn KX obj)
  have run : wpAny (model prog w) A (call (.builtin "object.__ne__") [.ref x, b]) (fun v s' => ∃ c : Bool, v = .bool c ∧ Q (some (.bool c)) s') E s := by
    refine wpAny_call (codeAny_call_builtin (by decide +kernel) F.cmpEntry_ne (check_slot F.cmpKind_ne F.cmpSplit_ne isO (ne_args _ _) (ne_body (A := A.in1) (by exact un) KX J eq fn (wpAny_mono go (fun v s' z => ?_) fun _ _ e => e))))
    obtain ⟨c, rfl, q⟩ := z
    exact ⟨c, rfl, ⟨!c, rfl, q⟩⟩
  have fin : wpAny (model prog w) A (call (.builtin "object.__ne__") ([.ref x] ++ [b]) >>= fun v => pure (some v)) (fun r s' => ∃ c : Bool, r = some (.bool c) ∧ Q (some (.bool c)) s') E s := wpAny_bind (wpAny_mono run (fun v s' z => by
    obtain ⟨c, rfl, q⟩ := z
    exact wpAny_pure ⟨c, rfl, q⟩) fun _ _ e => e)
  have whole : wpAny (model prog w) A (callSpecialIfBound? (.ref x) "__ne__" [b]) (fun r s' => ∃ c : Bool, r = some (.bool c) ∧ Q (some (.bool c)) s') E s := by
    simp only [callSpecialIfBound?, bindSpecialIfBound?]
    refine wpAny_holding (wpAny_bind (wpAny_bind (wpAny_bind (J.type.here ((looks_findIn KX ne).here ?_)))))
    refine wpAny_bind (wpAny_askSetting (wpAny_ite ?_))
    split
    · rw [ne_bind]
      exact wpAny_bind (wpAny_pure (wpAny_pure fin))
    · rw [ne_bind]
      exact wpAny_tryCatch (wpAny_bind (wpAny_pure (wpAny_pure fin)))
  unfold tryCompare
  refine wpAny_bind (wpAny_mono whole (fun r s' z => ?_) fun _ _ e => e)
  obtain ⟨c, rfl, q⟩ := z
  exact wpAny_pure q
open PySem.W in
/-- own != b -/
theorem own_ne {b tb : Value} {Q : Value → Shared → Prop} (un : A.units + 1 < cLine) (KX : K.In s.heap) (J : InstAt s.heap x ox C od) (lk : Looks (model prog w) s.heap (typeOf b) tb) (nf : notFirst K C tb = true) (ne : findIn K (.ref C) "__ne__" = some (some (.builtin "object.__ne__"))) (obj : subIn K (.ref C) (.type "object") = some true)
    (eq : findIn K (.ref C) "__eq__" = some (some (.ref f))) (fn : isFn K (.ref f) = true) (go : wpAny (model prog w) A.in1 (call (.ref f) [.ref x, b]) (fun v s' => ∃ c, v = .bool c ∧ Q (.bool (!c)) s') E s) : wpAny (model prog w) A (richCompare .NotEq (.ref x) b) Q E s := by
  have one : wpAny (model prog w) A (tryCompare (.ref x) "__ne__" b) (fun r s' => ∃ v, r = some v ∧ Q v s') E s := ne_try un KX J ne obj eq fn (wpAny_mono go (fun v s' z => by
    obtain ⟨c, rfl, q⟩ := z
    exact ⟨c, rfl, _, rfl, q⟩) fun _ _ e => e)
  unfold richCompare
  simp only [oneThing_ref]
  refine wpAny_holding (wpAny_bind (wpAny_cRoomFor (Nat.lt_of_succ_lt un) ?_))
  refine wpAny_bind (J.type.here (wpAny_bind (lk.here ?_)))
  split
  · rename_i hd
    have sb : subIn K tb (.ref C) = some false := by
      unfold notFirst at nf
      rcases Bool.or_eq_true_iff.mp nf with z | z
      · rw [beq_iff_eq.mp z] at hd
        simp at hd
      · exact beq_iff_eq.mp z
    refine wpAny_bind ((looks_subIn KX sb).here ?_)
    rw [if_neg Bool.false_ne_true]
    refine wpAny_bind (wpAny_mono one (fun r s' z => ?_) fun _ _ z => z)
    obtain ⟨v, rfl, hv⟩ := z
    exact wpAny_pure hv
  · refine wpAny_bind (wpAny_pure ?_)
    rw [if_neg Bool.false_ne_true]
    refine wpAny_bind (wpAny_mono one (fun r s' z => ?_) fun _ _ z => z)
    obtain ⟨v, rfl, hv⟩ := z
    exact wpAny_pure hv
end
end Own

/-! own layer, of no law: OWN8: the rule of !=. -/
namespace Own
open PySem PySem.Spec PyProof.Rows L2 LamX NdefX
section
variable {X : Cx} {pins : List (Addr × Obj)} {σ : L2.St} {H : Hp} {s : Shared}
variable {CX : CXT} {n : Nat} {C f : Addr} {fd : FuncData} {ps : List Str} {sp : Sp} {E : XK}
/-- a def's run one call deeper -/
theorem run_in1 {us : List Value} {vs : List V} {Q : VK} {R : Value → Shared → Prop} (F : FnOk X.prog X.w X.K X.mg X.base CX n f fd ps sp) (hr : Room (n + 1) X.A) (hb : Binds X.K fd ps []) (hx : Passes CX X E) (I : Inv X pins σ H s) (r : Vals vs us) (q : sp vs H Q E)
    (k : ∀ v s', EP X pins σ Q v s' → R v s') : wpAny (model X.prog X.w) X.A.in1 (call (.ref f) us) R X.xe s := by
  have e0 : Env0 X.prog X.w X.K X.mg X.base X.A.in1 X.stack s H := by
    have e := I.env0
    exact ⟨e.frames, e.mod, e.bs, e.bsz, e.funs, e.frf, e.hok, e.bare⟩
  have hl := F.len _ _ _ _ q
  have bt : BindsTo s fd ⟨us, []⟩ (ps.zip us) := by
    have z := hb s us I.kIn (by rw [List.append_nil, ← r.length]; exact hl)
    rw [List.append_nil] at z
    exact z
  refine wpAny_call (codeAny_mono (F.run X.A.in1 X.stack s H ⟨us, []⟩ us vs Q E hr.in1 e0 bt r q) fun r s' hq => ?_)
  cases r with
  | error e => exact hx pins σ H s e s' I hq
  | ok fl =>
    cases fl with
    | ret w => exact k _ _ (I.after hq)
    | next => exact False.elim hq
    | brk => exact False.elim hq
    | cont => exact False.elim hq
/-- own != anything -/
theorem op_ownNe (F : FnOk X.prog X.w X.K X.mg X.base CX n f fd ps sp) (hr : Room (n + 1) X.A) (ne : PySem.W.findIn X.K (.ref C) "__ne__" = some (some (.builtin "object.__ne__"))) (obj : PySem.W.subIn X.K (.ref C) (.type "object") = some true) (hs : PySem.W.findIn X.K (.ref C) "__eq__" = some (some (.ref f))) (hf : PySem.W.isFn X.K (.ref f) = true)
    (hsub : ∀ T ∈ tys, PySem.W.subIn X.K (.type T) (.ref C) = some false) (hb : Binds X.K fd ps []) (hx : Passes CX X E) :
    OpR X (compareOp .NotEq) (fun x y H Q => ∃ a dx fs, x = V.ref a ∧ H a = some (.ins C dx fs) ∧ ((∃ b dy gs, y = V.ref b ∧ H b = some (.ins C dy gs)) ∨ Thing H y) ∧ sp [.ref a, y] H (fun v H' => ∃ c, v = .bl c ∧ Q (.bl (!c)) H') E) := by
  intro pins s σ H x y v u Q I rx ry h
  obtain ⟨a, dx, fs, rfl, ha, ty, q⟩ := h
  cases rx
  obtain ⟨mA, J, _⟩ := ins_get I.hok ha
  obtain ⟨od, J, _⟩ := J.look
  have un : X.A.units + 1 < cLine := by
    have := hr.un
    omega
  show wpAny (model X.prog X.w) X.A (richCompare .NotEq (.ref a) u) (EP X pins σ Q) X.xe s
  have go : wpAny (model X.prog X.w) X.A.in1 (call (.ref f) [.ref a, u]) (fun v s' => ∃ c, v = .bool c ∧ EP X pins σ Q (.bool (!c)) s') X.xe s := run_in1 F hr hb hx I (.cons (show L2.RelV (V.ref a) (Value.ref a) from rfl) (.cons ry .nil)) q fun v s' z => by
    obtain ⟨z, H', I', rz, c, rfl, q'⟩ := z
    obtain rfl : v = .bool c := rz
    exact ⟨c, rfl, .bl (!c), H', I', rfl, q'⟩
  rcases ty with ⟨b, dy, gs, rfl, hb'⟩ | ty
  · cases ry
    obtain ⟨mB, J', _⟩ := ins_get I.hok hb'
    obtain ⟨od', J', _⟩ := J'.look
    exact own_ne un I.kIn J J'.type (by simp [PySem.W.notFirst]) ne obj hs hf go
  · obtain ⟨T, hT, lk, _⟩ := thing_ty I ty ry
    exact own_ne un I.kIn J lk (by unfold PySem.W.notFirst; rw [hsub T hT]; simp) ne obj hs hf go
end
end Own

/-! own layer, of no law: OWN9: an attribute as one of several targets. -/
namespace Own
open PySem PySem.Spec PyProof.Rows L2 LamX NdefX
section
variable {X : Cx} {o : Expr} {ta : TE} {f : Str} {pos : Pos}
def gFld (K : PySem.W.Frag) (ta : TE) (f : Str) : TG := fun y σ H Q => ta σ H fun x H2 => ∃ a C dx fs, x = V.ref a ∧ H2 a = some (.ins C dx fs) ∧ Cls K C ∧ NoAttr K C f ∧ fs.length < 1000 ∧ Q σ (upd H2 a (.ins C dx (putF f y fs)))
theorem pg_fld (ha : PE X o ta) : PG X (.Attribute o f pos) (gFld X.K ta f) := by
  refine ⟨fun pins s σ H v u Q I r h => ?_⟩
  have e : assign (.Attribute o f pos) X.env u = (do
      let ov ← holding [u] (eval o X.env)
      standAt pos.atName
      holding [u, ov] (setAttr ov f u)
      PySem.release [u, ov] []) := rfl
  rw [e]
  refine wpAny_bind (wpAny_holding (thn (ha.run pins s σ H _ I h) fun ov s1 z => ?_))
  obtain ⟨x, H1, I1, rx, a, C, dx, fs, rfl, ea, c, n, l, q⟩ := z
  obtain rfl : ov = Value.ref a := rx
  refine wpAny_bind (wpAny_standAt (wpAny_bind (wpAny_holding (setattr_ok I1 ea c n l r fun s3 I3 => ?_))))
  exact wpAny_release ⟨σ, _, I3, q⟩
end
end Own

/-! k53: the pen's defs. -/
namespace K53
open PySem PySem.Spec PyProof.Rows L2 LamX NdefX Own
def topS (i : Nat) : Stmt := PySem.Challenge.pw_figurestay_k53_whole_gaps.main.body.getD i (.Pass ⟨0, 0, 0, 0⟩)
abbrev sBegin : Stmt := topS 39
abbrev sDraw : Stmt := topS 40
abbrev sPick : Stmt := topS 41
abbrev sGreat : Stmt := topS 42
theorem un3 : Un3 "cells" "at" "left" := by unfold Un3; decide +kernel
abbrev Pen (H : Hp) (d : Addr) (B : Int) : Prop := PenG "cells" "at" "left" H d B
abbrev KeepP (d : Addr) (H H' : Hp) : Prop := KeepG "cells" "at" "left" d H H'
abbrev penK (p : Addr) (c l : Int) : List (Key × V) := penG "cells" "at" "left" p c l
section
variable {P : Program} {w : World} {K : PySem.W.Frag} {mg : Str → Option Value} {base : Heap} {C : Addr}
theorem scBegin : FnScope ["_law_script"] ["_law_script"] (defScope sBegin) := ⟨rfl, rfl, rfl, by decide +kernel, rfl, by decide +kernel, by decide +kernel⟩
theorem scDraw : FnScope ["_law_pen_here", "_law_span", "_law_digit", "_law_at_here", "_law_cell", "_law_mash"] ["_law_pen_here", "_law_span"] (defScope sDraw) := ⟨rfl, rfl, rfl, by decide +kernel, rfl, by decide +kernel, by decide +kernel⟩
/-- draw(pen, n): an int from 0 to n - 1; the pen has begun one draw more -/
def spDrawW : Sp := fun vs H Q _ => ∃ (d : Addr) (n B : Int), vs = [.ref d, .int n] ∧ Pen H d B ∧ B ≤ 1000000000 ∧ 0 < n ∧ n.natAbs < 2 ^ 300 ∧
  ∀ (v : Int) (H' : Hp), 0 ≤ v → v < n → KeepP d H H' → Pen H' d (B + 1) → Q (.int v) H'
theorem ok_drawW (A : At K mg "_law_draw" sDraw ["_law_pen_here", "_law_span"]) (T : Blt mg) : DefOk P w K mg base CX0 "_law_draw" 1 ["_law_pen_here", "_law_span"] spDrawW := by
  refine A.ok fun f fd F => F.ok scDraw (fun vs H Q E h => ?_) (fun cdv A outer s H vs Q E hr h => ?_)
  · obtain ⟨d, n, B, rfl, _⟩ := h
    rfl
  · obtain ⟨d, n, B, rfl, hp, hB, h0, h1, q⟩ := h
    have hu := hu_of hr
    have nd := scDraw.nd
    refine ⟨_, pss_cons (ps_if (pt_cmpR op_ge (pe_dget hu (pv 0) pe_str (fun _ _ => rfl)) (pv 1) (nomark _)) (pss_cons (ps_set (i := 2) nd rfl (.inl rfl) (pe_op op_mod (pe_callTy call_int1 (by rfl) T.int (by decide +kernel) (pa_cons (pe_dget hu (pv 0) pe_str (fun _ _ => rfl)) pa_nil)) (pv 1))) (pss_cons (ps_dput hu (pv 0) pe_str (pe_op op_fdivW (pe_dget hu (pv 0) pe_str (fun _ _ => rfl)) (pv 1)) rfl) (pss_one (ps_ret (pv 2))))) pss_nil)
      (pss_cons (ps_set (i := 3) nd rfl (.inl rfl) (pe_dget hu (pv 0) pe_str (fun _ _ => rfl)))
      (pss_cons (ps_dput hu (pv 0) pe_str (pe_op op_add (pv 3) pe_int) rfl)
      (pss_cons (ps_set (i := 4) nd rfl (.inl rfl) (pe_op op_add (pe_op op_mul pe_int (pv 3)) pe_int))
      (C8.pss_cut (ps_if (pt_cmpR (op_neD hr.units) (pe_dget hu (pv 0) pe_str (fun _ _ => rfl)) (pe_lst pa_nil) (nomark _)) (pss_one (ps_set (i := 4) nd rfl (.inl rfl) (pe_ix ix_list (pe_dget hu (pv 0) pe_str (fun _ _ => rfl)) (pe_op op_mod (pe_callTy call_int1 (by rfl) T.int (by decide +kernel) (pa_cons (pv 3) pa_nil)) (pe_callB call_len_seq (by rfl) T.len PySem.boot_len (pa_cons (pe_dget hu (pv 0) pe_str (fun _ _ => rfl)) pa_nil))) (fun _ _ => rfl)))) pss_nil)
      (C8.pss_cut (ps_if (PW.pt (pw_and (pt_cmpR op_lt (pv 3) (pe_callB call_len_seq (by rfl) T.len PySem.boot_len (pa_cons (pe_dget hu (pv 0) pe_str (fun _ _ => rfl)) pa_nil)) (nomark _)) (pw_and1 (pt_cmpR op_ge (pv 4) (pe_op op_pow pe_int pe_int) (nomark _))))) (pss_cons (ps_dput hu (pv 0) pe_str (pe_op op_fdivW (pe_op op_sub (pv 4) (pe_op op_pow pe_int pe_int)) (pv 1)) rfl) (pss_one (ps_ret (pe_op op_mod (pe_callTy call_int1 (by rfl) T.int (by decide +kernel) (pa_cons (pe_op op_sub (pv 4) (pe_op op_pow pe_int pe_int)) pa_nil)) (pv 1))))) pss_nil)
      (pss_cons (ps_set (i := 5) nd rfl (.inl rfl) (pe_op op_add (pe_op op_mul (pe_op op_mod (pe_callTy call_int1 (by rfl) T.int (by decide +kernel) (pa_cons (pv 4) pa_nil)) pe_int) pe_int) (pe_op op_mul (pe_op op_mul pe_int (pv 3)) (pv 3))))
      (pss_cons (ps_set (i := 5) nd rfl (.inl rfl) (pe_op op_mod (pe_callTy call_int1 (by rfl) T.int (by decide +kernel) (pa_cons (pe_op op_add (pe_op op_add (pv 5) (pe_op op_mul pe_int (pv 3))) pe_int) pa_nil)) pe_int))
      (pss_cons (ps_set (i := 5) nd rfl (.inl rfl) (pe_op op_mod (pe_callTy call_int1 (by rfl) T.int (by decide +kernel) (pa_cons (pe_op op_add (pe_op op_mul (pv 5) (pe_op op_add (pv 5) pe_int)) (pe_op op_mul pe_int (pv 3))) pa_nil)) pe_int))
      (pss_one (ps_ret (pe_op op_mod (pe_callTy call_int1 (by rfl) T.int (by decide +kernel) (pa_cons (pe_op op_fdiv (pe_op op_mod (pe_callTy call_int1 (by rfl) T.int (by decide +kernel) (pa_cons (pe_op op_add (pe_op op_mul (pv 5) (pv 5)) (pe_op op_mul pe_int (pv 5))) pa_nil)) pe_int) pe_int) pa_nil)) (pv 1)))))))))))), ?_⟩
    obtain ⟨p, ns, c, l, hd, hps, hns, hc0, hcB⟩ := hp.ex
    have npd : p ≠ d := ne_of hps hd (by intro z; cases z)
    have n0 : n ≠ 0 := by omega
    have nB : n.natAbs < 2 ^ 300 := h1
    have pn : ∀ {H' : Hp} {c' l' : Int}, H' p = some (.lst (ns.map V.int)) → H' d = some (.dK (penK p c' l')) → 0 ≤ c' → c' ≤ B + 1 → Pen H' d (B + 1) := fun {H' c' l'} a b e g => ⟨p, ns, c', l', b, a, hns, e, g⟩
    refine ⟨_, rfl, d, .int l, rfl, gpen_c un3 hd, _, rfl, l, n, rfl, rfl, _, rfl, ite2 (fun hln => ?_) (fun hln => ?_)⟩
    · refine ⟨_, rfl, d, .int l, rfl, gpen_c un3 hd, .inl ⟨l, rfl, _, rfl, l, n, rfl, rfl, h0, ?_⟩⟩
      refine ⟨_, rfl, d, .int l, rfl, gpen_c un3 hd, _, rfl, l, n, rfl, rfl, wide_div h0 nB (by decide) (by decide), _, rfl, d, _, rfl, ppen_c un3 hd, ?_⟩
      refine ⟨_, rfl, ?_⟩
      exact q _ _ (Int.emod_nonneg _ n0) (Int.emod_lt_of_pos _ h0) (KeepG.put hd) (pn (by rw [upd_ne npd]; exact hps) upd_same hc0 (by omega))
    · refine ⟨_, rfl, d, .int c, rfl, gpen_b un3 hd, ?_⟩
      refine ⟨_, rfl, _, _, rfl, rfl, _, rfl, d, _, rfl, ppen_b un3 hd, ?_⟩
      refine ⟨_, rfl, _, c, rfl, rfl, .inl ⟨by decide, by decide⟩, _, _, rfl, rfl, ?_⟩
      generalize eH1 : upd H d (.dK (penK p (c + 1) l)) = H1
      have hd1 : H1 d = some (.dK (penK p (c + 1) l)) := by rw [← eH1]; exact upd_same
      have hp1 : H1 p = some (.lst (ns.map V.int)) := by rw [← eH1, upd_ne npd]; exact hps
      have k1 : KeepP d H H1 := by rw [← eH1]; exact KeepG.put hd
      refine ⟨fun σ H2 => (∃ x : Int, σ = [some (.ref d), some (.int n), none, some (.int c), some (.int x), none]) ∧ H2 d = some (.dK (penK p (c + 1) l)) ∧ H2 p = some (.lst (ns.map V.int)) ∧ KeepP d H H2, ?_, ?_⟩
      · refine ⟨_, rfl, d, .ref p, rfl, gpen_a un3 hd1, Nat.zero_le _, fun e ne => ?_⟩
        have he1 : ∀ {b o}, H1 b = some o → (upd H1 e (.lst [])) b = some o := fun {b o} z => by rw [upd_ne (ne_of_none z ne)]; exact z
        refine ⟨.list (ns.map PyData.int), .list [], .lst (SqL.of (he1 hp1)) (dpG_ints _), .lst (SqL.of upd_same) .nil, shG_ints _, shG_ints [], _, rfl, ?_⟩
        rw [neG_nil]
        generalize eH2 : upd H1 e (.lst []) = H2
        have hd2 : H2 d = some (.dK (penK p (c + 1) l)) := by rw [← eH2]; exact he1 hd1
        have hp2 : H2 p = some (.lst (ns.map V.int)) := by rw [← eH2]; exact he1 hp1
        have k2 : KeepP d H H2 := by rw [← eH2]; exact k1.trans (KeepG.new ne)
        refine ite2 (fun hne => ?_) (fun hne => ?_)
        · have hn0 : 0 < ns.length := by
            cases ns with
            | nil => simp at hne
            | cons a r => exact Nat.zero_lt_succ _
          have hpos : (0 : Int) < ((ns.map V.int).length : Int) := by rw [List.length_map]; omega
          obtain ⟨j, hj⟩ : ∃ j : Nat, c % ((ns.map V.int).length : Int) = (j : Int) := ⟨(c % ((ns.map V.int).length : Int)).toNat, (Int.toNat_of_nonneg (Int.emod_nonneg _ (by omega))).symm⟩
          have hjl : j < ns.length := by
            have z := Int.emod_lt_of_pos c hpos
            rw [hj, List.length_map] at z
            omega
          refine ⟨_, rfl, d, .ref p, rfl, gpen_a un3 hd2, _, rfl, .inl ⟨c, rfl, _, rfl, d, .ref p, rfl, gpen_a un3 hd2, p, _, rfl, .inl (SqL.of hp2), _, _, rfl, rfl, hpos, p, _, _, .int (ns[j]'hjl), rfl, rfl, SqL.of hp2, L2.at_of hj (by rw [List.getElem?_map, List.getElem?_eq_getElem hjl]; rfl), ?_⟩⟩
          exact ⟨⟨_, rfl⟩, hd2, hp2, k2⟩
        · exact ⟨⟨_, rfl⟩, hd2, hp2, k2⟩
      · rintro σ2 H2 ⟨⟨x, rfl⟩, hd2, hp2, k2⟩
        refine ⟨fun σ H3 => σ = [some (.ref d), some (.int n), none, some (.int c), some (.int x), none] ∧ H3 = H2, ?_, ?_⟩
        · refine ⟨_, rfl, _, rfl, d, .ref p, rfl, gpen_a un3 hd2, p, _, rfl, .inl (SqL.of hp2), _, _, rfl, rfl, _, rfl, ite2 (fun _ => ?_) (fun _ => ⟨rfl, rfl⟩)⟩
          refine ⟨_, rfl, _, _, rfl, rfl, ⟨by decide, by decide, by decide⟩, _, _, rfl, rfl, _, rfl, ite2 (fun _ => ?_) (fun _ => ⟨rfl, rfl⟩)⟩
          refine ⟨_, rfl, _, _, rfl, rfl, ⟨by decide, by decide, by decide⟩, _, _, rfl, rfl, _, rfl, _, _, rfl, rfl, wide_div h0 nB (by decide) (by decide), _, rfl, d, _, rfl, ppen_c un3 hd2, ?_⟩
          refine ⟨_, rfl, _, _, rfl, rfl, ⟨by decide, by decide, by decide⟩, _, _, rfl, rfl, .inl ⟨_, rfl, _, rfl, _, _, rfl, rfl, h0, ?_⟩⟩
          exact q _ _ (Int.emod_nonneg _ n0) (Int.emod_lt_of_pos _ h0) (k2.trans (KeepG.put hd2)) (pn (by rw [upd_ne npd]; exact hp2) upd_same (by omega) (by omega))
        · rintro σ3 H3 ⟨rfl, rfl⟩
          have hc64 : -(2 ^ 64) < c ∧ c < 2 ^ 64 := ⟨by omega, by omega⟩
          have sm : ∀ {y : Int}, 0 ≤ y → y < 2147483648 → -(2 ^ 64) < y ∧ y < 2 ^ 64 := fun a b => ⟨by omega, by omega⟩
          refine ⟨_, rfl, .inl ⟨x, rfl, _, _, rfl, rfl, (show (0 : Int) < 2147482361 by decide), _, _, rfl, rfl, .inr ⟨by decide, by decide⟩, ?_⟩⟩
          refine ⟨_, rfl, _, c, rfl, rfl, .inl ⟨by decide, by decide⟩, _, rfl, _, c, rfl, rfl, .inr hc64, _, _, rfl, rfl, ?_⟩
          refine ⟨_, rfl, _, rfl, _, c, rfl, rfl, .inl ⟨by decide, by decide⟩, _, _, rfl, rfl, _, _, rfl, rfl, .inl ⟨_, rfl, _, _, rfl, rfl, (show (0 : Int) < 2147482409 by decide), ?_⟩⟩
          dsimp only
          generalize x % 2147482361 * 45533 + 33521 * c * c = y1
          have a1 := Int.emod_lt_of_pos (y1 + 131 * c + 37) (show (0 : Int) < 2147482409 by decide)
          have a2 := Int.emod_nonneg (y1 + 131 * c + 37) (show (2147482409 : Int) ≠ 0 by decide)
          generalize (y1 + 131 * c + 37) % 2147482409 = y2 at a1 a2
          refine ⟨_, rfl, _, rfl, y2, _, rfl, rfl, y2, _, rfl, rfl, .inl (sm a2 (by omega)), _, rfl, _, c, rfl, rfl, .inl ⟨by decide, by decide⟩, _, _, rfl, rfl, .inl ⟨_, rfl, _, _, rfl, rfl, (show (0 : Int) < 2147482501 by decide), ?_⟩⟩
          dsimp only
          have c1 := Int.emod_lt_of_pos (y2 * (y2 + 70429) + 5 * c) (show (0 : Int) < 2147482501 by decide)
          have c2 := Int.emod_nonneg (y2 * (y2 + 70429) + 5 * c) (show (2147482501 : Int) ≠ 0 by decide)
          generalize (y2 * (y2 + 70429) + 5 * c) % 2147482501 = y4 at c1 c2
          refine ⟨_, rfl, _, rfl, y4, y4, rfl, rfl, .inl (sm c2 (by omega)), _, rfl, _, y4, rfl, rfl, .inl ⟨by decide, by decide⟩, _, _, rfl, rfl, .inl ⟨_, rfl, _, _, rfl, rfl, (show (0 : Int) < 2147482573 by decide), _, _, rfl, rfl, ⟨(show (0 : Int) < 32 by decide), (show (32 : Int) < 1073741824 by decide)⟩, .inl ⟨_, rfl, _, rfl, _, n, rfl, rfl, h0, ?_⟩⟩⟩
          exact q _ _ (Int.emod_nonneg _ n0) (Int.emod_lt_of_pos _ h0) k2 (pn hp2 hd2 (by omega) (by omega))
/-- draw(pen, n): an int from 0 to n - 1; the pen has begun one draw more -/
def spDraw : Sp := fun vs H Q _ => ∃ (d : Addr) (n B : Int), vs = [.ref d, .int n] ∧ Pen H d B ∧ B ≤ 1000000000 ∧ 0 < n ∧ n ≤ 100000000 ∧
  ∀ (v : Int) (H' : Hp), 0 ≤ v → v < n → KeepP d H H' → Pen H' d (B + 1) → Q (.int v) H'
theorem drawn_of (D : DefOk P w K mg base CX0 "_law_draw" 1 ["_law_pen_here", "_law_span"] spDrawW) : DefOk P w K mg base CX0 "_law_draw" 1 ["_law_pen_here", "_law_span"] spDraw := by
  obtain ⟨f, fd, F, r⟩ := D
  refine ⟨f, fd, F.imp fun vs H Q E h => ?_, r⟩
  obtain ⟨d, n, B, e, hp, hB, h0, h1, q⟩ := h
  have big : (100000000 : Nat) < 2 ^ 300 := by decide +kernel
  exact ⟨d, n, B, e, hp, hB, h0, by omega, q⟩
def spBegin (K : PySem.W.Frag) : Sp := fun vs H Q _ => ∃ (a : Addr) (ns : List Int), vs = [.ref a] ∧ SqL K H a (ns.map V.int) ∧ ns.length ≤ 63 ∧ ∀ (d : Addr) (H' : Hp), H d = none → Same H H' → Pen H' d 0 → Q (.ref d) H'
theorem ok_begin (A : At K mg "_law_pen" sBegin ["_law_script"]) (T : Blt mg) : DefOk P w K mg base CX0 "_law_pen" 1 ["_law_script"] (spBegin K) := by
  refine A.ok fun f fd F => F.ok scBegin (fun vs H Q E h => ?_) (fun cdv A outer s H vs Q E hr h => ?_)
  · obtain ⟨a, ns, rfl, _⟩ := h
    rfl
  · obtain ⟨a, ns, rfl, hS, hl, q⟩ := h
    refine ⟨_, pss_one (ps_ret (pe_disp (pps_cons pe_str (pe_callTy call_list_of (by rfl) T.list (by decide +kernel) (pa_cons (pe_slice sl_list (pv 0) po_none (po_some pe_int)) pa_nil)) (pps_cons pe_str pe_int (pps_cons pe_str pe_int pps_nil))) (by rfl) (by rfl) (fun z => by cases z) (by decide))), ?_⟩
    intro d hd
    have s0 : Same H (upd H d (.dK [])) := same_new hd
    refine ⟨_, rfl, 63, rfl, a, _, rfl, s0.seq hS, fun c hc => ?_⟩
    rw [cut63 _ (by rw [List.length_map]; exact hl)]
    have s1 : Same H (upd (upd H d (.dK [])) c (.lst (ns.map V.int))) := s0.trans (same_new hc)
    refine ⟨c, _, rfl, .inl (SqL.of upd_same), fun p hp => ?_⟩
    have s2 : Same (upd (upd H d (.dK [])) c (.lst (ns.map V.int))) (upd (upd (upd H d (.dK [])) c (.lst (ns.map V.int))) p (.lst (ns.map V.int))) := same_new hp
    have hdd : upd (upd (upd H d (.dK [])) c (.lst (ns.map V.int))) p (.lst (ns.map V.int)) d = some (.dK []) := s2 _ _ (same_new hc _ _ upd_same)
    have npd : p ≠ d := fun z => by
      rw [z] at hp
      have := same_new (o := .lst (ns.map V.int)) hc _ _ (upd_same (H := H) (a := d) (o := .dK []))
      rw [hp] at this
      cases this
    refine ⟨hdd, [(Sum.inr "cells", .ref p), (Sum.inr "at", .int 0), (Sum.inr "left", .int 0)], rfl, by show 3 ≤ 15; decide, ?_⟩
    rw [merge_pen un3]
    refine q d _ hd (fun b o e => ?_) ⟨p, ns, 0, 0, upd_same, ?_, hl, by omega, by omega⟩
    · rw [upd_ne (ne_of_none e hd)]
      exact s2 _ _ (s1 _ _ e)
    · rw [upd_ne npd]
      exact upd_same
theorem scPick : FnScope ["_law_pen_here", "_law_menu"] ["_law_pen_here", "_law_menu"] (defScope sPick) := ⟨rfl, rfl, rfl, by decide +kernel, rfl, by decide +kernel, by decide +kernel⟩
def spPick : Sp := fun vs H Q _ => ∃ (d a : Addr) (xs : List V) (B : Int), vs = [.ref d, .ref a] ∧ H a = some (.lst xs) ∧ xs ≠ [] ∧ xs.length ≤ 1000 ∧ Pen H d B ∧ B ≤ 1000000000 ∧ ∀ (x : V) (H' : Hp), x ∈ xs → KeepP d H H' → Pen H' d (B + 1) → Q x H'
theorem ok_pick (A : At K mg "_law_pick" sPick ["_law_pen_here", "_law_menu"]) (T : Blt mg) (D : DefOk P w K mg base CX0 "_law_draw" 1 ["_law_pen_here", "_law_span"] spDraw) : DefOk P w K mg base CX0 "_law_pick" 2 ["_law_pen_here", "_law_menu"] spPick := by
  refine A.ok fun f fd F => F.ok scPick (fun vs H Q E h => ?_) (fun cdv A outer s H vs Q E hr h => ?_)
  · obtain ⟨d, a, xs, B, rfl, _⟩ := h
    rfl
  · obtain ⟨d, a, xs, B, rfl, ha, hne, hl, hp, hB, q⟩ := h
    refine ⟨_, pss_one (ps_ret (pe_ix ix_list (pv 1) (pe_def D hr (by decide) (by rfl) pass0 (pa_cons (pv 0) (pa_cons (pe_callB call_len_seq (by rfl) T.len PySem.boot_len (pa_cons (pv 1) pa_nil)) pa_nil))) (fun _ _ => rfl))), ?_⟩
    have h0 : 0 < xs.length := List.length_pos_iff.mpr hne
    refine ⟨_, rfl, _, rfl, _, rfl, a, xs, rfl, .inl (SqL.of ha), d, (xs.length : Int), B, rfl, hp, hB, by omega, by omega, fun v H' h1 h2 kp hp' => ?_⟩
    have nad : a ≠ d := by
      obtain ⟨p, ns, c, l, e, _⟩ := hp.ex
      exact ne_of ha e (by intro z; cases z)
    obtain ⟨j, rfl⟩ : ∃ j : Nat, v = (j : Int) := ⟨v.toNat, (Int.toNat_of_nonneg h1).symm⟩
    have hj : j < xs.length := by omega
    exact ⟨a, xs, _, xs[j], rfl, rfl, SqL.of (kp _ _ nad ha), atI_nat (List.getElem?_eq_getElem hj), q _ _ (List.getElem_mem hj) kp hp'⟩
theorem scGreat : FnScope ["_law_pen_here", "_law_figures", "_law_found", "_law_go"] ["_law_pen_here", "_law_figures"] (defScope sGreat) := ⟨rfl, rfl, rfl, by decide +kernel, rfl, by decide +kernel, by decide +kernel⟩
def spGreat : Sp := fun vs H Q _ => ∃ (d : Addr) (M : Nat) (B : Int), vs = [.ref d, .int M] ∧ 7 ≤ M ∧ M ≤ 100 ∧ Pen H d B ∧ B ≤ 900000000 ∧ ∀ (v : Int) (H' : Hp), 0 ≤ v → v < (10 : Int) ^ M → KeepP d H H' → Pen H' d (B + 200) → Q (.int v) H'
theorem ok_great (A : At K mg "_law_great" sGreat ["_law_pen_here", "_law_figures"]) (T : Blt mg) (D : DefOk P w K mg base CX0 "_law_draw" 1 ["_law_pen_here", "_law_span"] spDraw) : DefOk P w K mg base CX0 "_law_great" 2 ["_law_pen_here", "_law_figures"] spGreat := by
  refine A.ok fun f fd F => F.ok scGreat (fun vs H Q E h => ?_) (fun cdv A outer s H vs Q E hr h => ?_)
  · obtain ⟨d, M, B, rfl, _⟩ := h
    rfl
  · obtain ⟨d, M, B, rfl, hM0, hM, hp, hB, q⟩ := h
    have nd := scGreat.nd
    refine ⟨_, pss_cons (ps_set (i := 2) nd rfl (.inl rfl) pe_int)
      (pss_cons (ps_for PassesOwn.never rfl (pi_range1 (by rfl) T.range (pa_cons (pe_op op_add pe_int (pe_def D hr (by decide) (by rfl) pass0 (pa_cons (pv 0) (pa_cons (pe_op op_fdiv (pv 1) pe_int) pa_nil)))) pa_nil)) (pg_name (i := 3) nd rfl (.inl rfl)) (pss_one (ps_set (i := 2) nd rfl (.inl rfl) (pe_op op_add (pe_op op_mul (pv 2) (pe_op op_pow pe_int pe_int)) (pe_def D hr (by decide) (by rfl) pass0 (pa_cons (pv 0) (pa_cons (pe_op op_pow pe_int pe_int) pa_nil)))))))
      (pss_one (ps_ret (pv 2)))), ?_⟩
    have hq : 1 ≤ (M : Int) / 7 ∧ 7 * ((M : Int) / 7) ≤ M := by omega
    refine ⟨_, rfl, _, rfl, _, _, rfl, rfl, ⟨by decide, by decide⟩, d, (M : Int) / 7, B, rfl, hp, by omega, by omega, by omega, fun m H1 m0 m1 k1 p1 => ⟨_, _, rfl, rfl, ?_⟩⟩
    refine ⟨1 + m, rfl, by omega, by omega, for_range (lo := 0) (n := (1 + m).toNat) (fun i σ H' => (∃ (v : Int) (y : Option V), σ = [some (.ref d), some (.int M), some (.int v), y] ∧ 0 ≤ v ∧ v < (10 : Int) ^ (7 * i)) ∧ KeepP d H H' ∧ Pen H' d (B + 1 + i)) ⟨⟨0, none, rfl, by omega, by decide⟩, k1, p1.mono (by omega)⟩ ?_ ?_⟩
    · rintro i σ H' hi ⟨⟨v, y, rfl, v0, v1⟩, kk, pp⟩
      dsimp only [gName, List.set]
      refine ⟨_, rfl, _, _, rfl, rfl, ⟨by decide, by decide, by decide⟩, _, _, rfl, rfl, .inr ⟨by decide, by decide⟩, _, rfl, _, _, rfl, rfl, ⟨by decide, by decide, by decide⟩, d, 10 ^ 7, _, rfl, pp, by omega, by decide, by decide, fun x H2 x0 x1 k2 p2 => ⟨_, _, rfl, rfl, ?_⟩⟩
      have e : (10 : Int) ^ 7 = 10000000 := by decide
      have e' : (10 : Int) ^ (Int.toNat 7) = 10000000 := by decide
      rw [e] at x1
      rw [e']
      refine ⟨⟨_, _, rfl, by omega, ?_⟩, kk.trans k2, p2.mono (by omega)⟩
      rw [show 7 * (i + 1) = 7 * i + 7 by omega, Int.pow_add, e]
      generalize (10 : Int) ^ (7 * i) = T at v1 ⊢
      omega
    · rintro σ H' ⟨⟨v, y, rfl, v0, v1⟩, kk, pp⟩
      exact ⟨_, rfl, q v H' v0 (Int.lt_of_lt_of_le v1 (ten_mono (by omega))) kk (pp.mono (by omega))⟩
end
end K53

/-! k53: the program's checks, powers of ten. -/
namespace K53
open PySem PySem.Spec PyProof.Rows L2 LamX NdefX Own
abbrev pInt : Stmt := topS 9
abbrev pWhole : Stmt := topS 10
abbrev pNInt : Stmt := topS 12
abbrev pNWhole : Stmt := topS 13
abbrev pTenTo : Stmt := topS 14
section
variable {P : Program} {w : World} {K : PySem.W.Frag} {mg : Str → Option Value} {base : Heap} {C aT : Addr}
theorem scpInt : FnScope ["value"] ["value"] (defScope pInt) := ⟨rfl, rfl, rfl, by decide +kernel, rfl, by decide +kernel, by decide +kernel⟩
def spIsInt : Sp := fun vs H Q _ => ∃ x : V, vs = [x] ∧ Thing H x ∧ Q (.bl (Own.isInt x)) H
theorem ok_isInt (A : At K mg "is_an_integer" pInt ["value"]) (T : Blt mg) : DefOk P w K mg base CX0 "is_an_integer" 1 ["value"] spIsInt := by
  refine A.ok fun f fd F => F.ok scpInt (fun vs H Q E h => ?_) (fun cdv A outer s H vs Q E hr h => ?_)
  · obtain ⟨x, rfl, _⟩ := h
    rfl
  · obtain ⟨x, rfl, th, q⟩ := h
    refine ⟨_, pss_one (ps_ret (pe_and (pe_callB call_isi (by rfl) T.isi (by decide +kernel) (pa_cons (pv 0) (pa_cons (pe_bltn (v := .ty "int") (by rfl) T.int (by decide +kernel) rfl) pa_nil)))
      (pe_one (pe_not (pe_callB call_isi (by rfl) T.isi (by decide +kernel) (pa_cons (pv 0) (pa_cons (pe_bltn (v := .ty "bool") (by rfl) T.bool (by decide +kernel) rfl) pa_nil))))))), ?_⟩
    obtain ⟨t, ht, h1, h2⟩ := th.isi (K := K)
    have hb : isBl x = true → Own.isInt x = false := by cases x <;> simp [Own.isInt, isBl]
    refine ⟨_, rfl, x, .ty "int", t, _, _, rfl, .ty _, ht, h1, _, rfl, ite2 (fun e => ?_) (fun e => ?_)⟩
    · refine ⟨_, rfl, x, .ty "bool", t, _, _, rfl, .ty _, ht, h2, _, rfl, ?_⟩
      have z : (!isBl x) = Own.isInt x := by cases e1 : Own.isInt x <;> cases e2 : isBl x <;> simp_all
      rw [z]
      exact q
    · have z : false = Own.isInt x := by cases e1 : Own.isInt x <;> cases e2 : isBl x <;> simp_all
      rw [z]
      exact q
/-- an integer from 0 on -/
def isWh : V → Bool
  | .int i => decide (0 ≤ i)
  | _ => false
theorem scpWhole : FnScope ["value"] ["value"] (defScope pWhole) := ⟨rfl, rfl, rfl, by decide +kernel, rfl, by decide +kernel, by decide +kernel⟩
def spIsWh : Sp := fun vs H Q _ => ∃ x : V, vs = [x] ∧ Thing H x ∧ Q (.bl (isWh x)) H
theorem ok_isWh (A : At K mg "is_whole_number" pWhole ["value"]) (D : DefOk P w K mg base CX0 "is_an_integer" 1 ["value"] spIsInt) : DefOk P w K mg base CX0 "is_whole_number" 2 ["value"] spIsWh := by
  refine A.ok fun f fd F => F.ok scpWhole (fun vs H Q E h => ?_) (fun cdv A outer s H vs Q E hr h => ?_)
  · obtain ⟨x, rfl, _⟩ := h
    rfl
  · obtain ⟨x, rfl, th, q⟩ := h
    refine ⟨_, pss_one (ps_ret (pe_and (pe_def D hr (by decide) (by rfl) pass0 (pa_cons (pv 0) pa_nil)) (pe_one (pe_cmpR op_ge (pv 0) pe_int (nomark _))))), ?_⟩
    refine ⟨_, rfl, x, rfl, th, _, rfl, ite2 (fun e => ?_) (fun e => ?_)⟩
    · cases x <;> first | (exact ⟨_, rfl, _, _, rfl, rfl, q⟩) | (simp [Own.isInt] at e)
    · have z : isWh x = false := by cases x <;> first | rfl | (simp [Own.isInt] at e)
      rw [z] at q
      exact q
theorem scpNInt : FnScope ["value"] ["value"] (defScope pNInt) := ⟨rfl, rfl, rfl, by decide +kernel, rfl, by decide +kernel, by decide +kernel⟩
def spNInt (C : Addr) : Sp := fun vs H Q E => ∃ x : V, vs = [x] ∧ Thing H x ∧ (Own.isInt x = true → Q .non H) ∧ (Own.isInt x = false → Bad C "value" x H E)
theorem ok_nInt (A : At K mg "need_integer" pNInt ["value"]) (T : ErrC P w K mg base "BadValue" "value" 1 C (spErr C "value")) (D : DefOk P w K mg base CX0 "is_an_integer" 1 ["value"] spIsInt) : DefOk P w K mg base (L2.CX P w) "need_integer" 3 ["value"] (spNInt C) := by
  refine A.ok fun f fd F => F.okX scpNInt (fun vs H Q E h => ?_) (fun cdv A outer s H vs Q E hr h => ?_)
  · obtain ⟨x, rfl, _⟩ := h
    rfl
  · obtain ⟨x, rfl, th, q1, q2⟩ := h
    refine ⟨_, pss_one (ps_if (pt_not (pt_val (pe_def D hr (by decide) (by rfl) pass0 (pa_cons (pv 0) pa_nil)))) (pss_one (ps_raise rfl (takes_of rfl rfl rfl rfl) (pmk_err T hr (by decide) (by rfl) (pv 0)))) pss_nil), ?_⟩
    refine ⟨_, rfl, x, rfl, th, _, rfl, ite2 (fun e => ?_) (fun e => ?_)⟩
    · exact ⟨_, rfl, bad_mk (q2 (by simpa using e))⟩
    · exact q1 (by simpa using e)
theorem scpNWh : FnScope ["value"] ["value"] (defScope pNWhole) := ⟨rfl, rfl, rfl, by decide +kernel, rfl, by decide +kernel, by decide +kernel⟩
def spNWh (C : Addr) : Sp := fun vs H Q E => ∃ x : V, vs = [x] ∧ Thing H x ∧ (isWh x = true → Q .non H) ∧ (isWh x = false → Bad C "value" x H E)
theorem ok_nWh (A : At K mg "need_whole_number" pNWhole ["value"]) (T : ErrC P w K mg base "BadValue" "value" 1 C (spErr C "value")) (D : DefOk P w K mg base CX0 "is_whole_number" 2 ["value"] spIsWh) : DefOk P w K mg base (L2.CX P w) "need_whole_number" 3 ["value"] (spNWh C) := by
  refine A.ok fun f fd F => F.okX scpNWh (fun vs H Q E h => ?_) (fun cdv A outer s H vs Q E hr h => ?_)
  · obtain ⟨x, rfl, _⟩ := h
    rfl
  · obtain ⟨x, rfl, th, q1, q2⟩ := h
    refine ⟨_, pss_one (ps_if (pt_not (pt_val (pe_def D hr (by decide) (by rfl) pass0 (pa_cons (pv 0) pa_nil)))) (pss_one (ps_raise rfl (takes_of rfl rfl rfl rfl) (pmk_err T hr (by decide) (by rfl) (pv 0)))) pss_nil), ?_⟩
    refine ⟨_, rfl, x, rfl, th, _, rfl, ite2 (fun e => ?_) (fun e => ?_)⟩
    · exact ⟨_, rfl, bad_mk (q2 (by simpa using e))⟩
    · exact q1 (by simpa using e)
/-! ### ten_to: a table below sixteen, then halves -/
def tensL : List Int := (List.range 16).map fun i => (10 : Int) ^ i
theorem scTenTo : FnScope ["places", "half"] ["places"] (defScope pTenTo) := ⟨rfl, rfl, rfl, by decide +kernel, rfl, by decide +kernel, by decide +kernel⟩
def spTenTo (k : Nat) : Sp := fun vs H Q _ => ∃ n : Nat, vs = [.int n] ∧ n < 16 * 2 ^ k ∧ Q (.int ((10 : Int) ^ n)) H
theorem bot_of {x : Str} {st : Stmt} {ps : List Str} (A : At K mg x st ps) : DefOk P w K mg base CX0 x 0 ps (fun _ _ _ _ => False) :=
  A.ok fun f fd F => ⟨fun _ _ _ _ h => h.elim, fun _ _ _ _ _ _ _ _ _ _ _ _ _ h => h.elim⟩
theorem tens_at {n : Nat} (h : n < 16) : atI (tensL.map V.int) (n : Int) = some (.int ((10 : Int) ^ n)) := by
  refine atI_nat ?_
  rw [List.getElem?_map]
  unfold tensL
  rw [List.getElem?_map, List.getElem?_range h]
  rfl
theorem tens_len : ((tensL.map V.int).length : Int) = 16 := by decide +kernel
theorem tenTo_step {k N : Nat} {spD : Sp} (A : At K mg "ten_to" pTenTo ["places"]) (T : Blt mg) (gT : mg "TENS" = some (.ref aT)) (tens : ∀ H : Hp, SqT K H aT (tensL.map V.int)) (hN : N ≤ 4096) (D : DefOk P w K mg base CX0 "ten_to" k ["places"] spD)
    (h : ∀ (n : Nat) (H : Hp) (Q : VK) (E : XK), 16 ≤ n → n < N → Q (.int ((10 : Int) ^ (n / 2))) H → spD [.int ((n / 2 : Nat) : Int)] H Q E) : DefOk P w K mg base CX0 "ten_to" (k + 1) ["places"] (fun vs H Q _ => ∃ n : Nat, vs = [.int n] ∧ n < N ∧ Q (.int ((10 : Int) ^ n)) H) := by
  refine A.ok fun f fd F => F.ok scTenTo (fun vs H Q E h => ?_) (fun cdv A outer s H vs Q E hr hq => ?_)
  · obtain ⟨n, rfl, _⟩ := h
    rfl
  · obtain ⟨n, rfl, hn, q⟩ := hq
    have nd := scTenTo.nd
    refine ⟨_, pss_cons (ps_if (pt_cmpR op_lt (pv 0) (pe_callB call_len_seq (by rfl) T.len PySem.boot_len (pa_cons (pe_glob (v := .ref aT) (by rfl) gT rfl) pa_nil)) (nomark _)) (pss_one (ps_ret (pe_ix ix_tup (pe_glob (v := .ref aT) (by rfl) gT rfl) (pv 0) (fun _ _ => rfl)))) pss_nil)
      (pss_cons (ps_set (i := 1) nd rfl (.inl rfl) (pe_def (E := E0) D hr (Nat.le_refl _) (by rfl) pass0 (pa_cons (pe_op op_fdiv (pv 0) pe_int) pa_nil)))
      (pss_cons (ps_if (pt_cmpR op_eq (pe_op op_mod (pv 0) pe_int) pe_int (nomark _)) (pss_one (ps_ret (pe_op op_mulW (pe_op op_mulW (pv 1) (pv 1)) pe_int))) pss_nil)
      (pss_one (ps_ret (pe_op op_mulW (pv 1) (pv 1)))))), ?_⟩
    refine ⟨_, rfl, aT, _, rfl, .inr (tens H), _, _, rfl, rfl, _, rfl, ite2 (fun e => ?_) (fun e => ?_)⟩
    · have hl : n < 16 := by
        have z := of_decide_eq_true e
        rw [tens_len] at z
        omega
      exact ⟨_, rfl, aT, _, _, _, rfl, rfl, tens H, tens_at hl, q⟩
    · have hg : 16 ≤ n := by
        have z : ¬ ((n : Int) < ((tensL.map V.int).length : Int)) := fun z => e (decide_eq_true z)
        rw [tens_len] at z
        omega
      refine ⟨_, rfl, _, _, rfl, rfl, ⟨by decide, by decide⟩, ?_⟩
      have e2 : (n : Int) / 2 = ((n / 2 : Nat) : Int) := by omega
      dsimp only
      rw [e2]
      refine h n H _ _ hg hn ?_
      have b := ten_lt (n / 2)
      have b2 : ((10 : Int) ^ (n / 2) * (10 : Int) ^ (n / 2)).natAbs < 2 ^ (4 * (n / 2) + 1 + (4 * (n / 2) + 1)) := wide_lt b b
      refine ⟨_, rfl, _, _, rfl, rfl, (show (0 : Int) < 2 by decide), rfl, _, rfl, ite2 (fun e => ?_) (fun e => ?_)⟩
      · have ho : (n : Int) % 2 = 1 := by simpa using e
        refine ⟨_, rfl, _, rfl, _, _, rfl, rfl, wide_mul b b (by omega) (by omega) (by omega), _, _, rfl, rfl, wide_mul b2 (show ((10 : Int)).natAbs < 2 ^ 4 by decide) (by omega) (by decide) (by omega), ?_⟩
        have ex : (10 : Int) ^ (n / 2) * (10 : Int) ^ (n / 2) * 10 = (10 : Int) ^ n := by
          rw [← Int.pow_add, ← Int.pow_succ]
          congr 1
          omega
        show Q (.int ((10 : Int) ^ (n / 2) * (10 : Int) ^ (n / 2) * 10)) H
        rw [ex]
        exact q
      · have ho : (n : Int) % 2 ≠ 1 := by simpa using e
        refine ⟨_, rfl, _, rfl, _, _, rfl, rfl, wide_mul b b (by omega) (by omega) (by omega), ?_⟩
        have ex : (10 : Int) ^ (n / 2) * (10 : Int) ^ (n / 2) = (10 : Int) ^ n := by
          rw [← Int.pow_add]
          congr 1
          omega
        show Q (.int ((10 : Int) ^ (n / 2) * (10 : Int) ^ (n / 2))) H
        rw [ex]
        exact q
theorem ok_tenTo (A : At K mg "ten_to" pTenTo ["places"]) (T : Blt mg) (gT : mg "TENS" = some (.ref aT)) (tens : ∀ H : Hp, SqT K H aT (tensL.map V.int)) : ∀ k : Nat, k ≤ 8 → DefOk P w K mg base CX0 "ten_to" (k + 1) ["places"] (spTenTo k)
  | 0, _ => tenTo_step A T gT tens (by decide) (bot_of A) fun n H Q E h1 h2 _ => absurd h1 (by omega)
  | k + 1, hk => by
    have le : 16 * 2 ^ (k + 1) ≤ 4096 := by
      have := Nat.pow_le_pow_right (show 0 < 2 by decide) hk
      omega
    refine tenTo_step A T gT tens le (ok_tenTo A T gT tens k (by omega)) fun n H Q E h1 h2 q => ⟨n / 2, rfl, ?_, q⟩
    rw [Nat.pow_succ] at h2
    omega
end
end K53

/-! k53: without_zeros. -/
namespace K53
open PySem PySem.Spec PyProof.Rows L2 LamX NdefX Own
abbrev pWz : Stmt := topS 18
/-- u' at the scale s' is u at s, at its own scale -/
structure IsLow (u : Int) (s : Nat) (u' : Int) (s' : Nat) : Prop where
  le : s' ≤ s
  eq : u = u' * (10 : Int) ^ (s - s')
  own : s' = 0 ∨ u' % 10 ≠ 0
theorem low_step {u u' : Int} {s s' st : Nat} (h1 : s' ≤ s) (h2 : st ≤ s') (e : u = u' * (10 : Int) ^ (s - s')) (d : (10 : Int) ^ st ∣ u') : u = u' / (10 : Int) ^ st * (10 : Int) ^ (s - (s' - st)) := by
  obtain ⟨c, rfl⟩ := d
  have p : (10 : Int) ^ st ≠ 0 := Int.ne_of_gt (ten_pos st)
  rw [Int.mul_ediv_cancel_left _ p, e]
  have z : s - (s' - st) = st + (s - s') := by omega
  rw [z, Int.pow_add, Int.mul_comm ((10 : Int) ^ st) c, Int.mul_assoc]
theorem dvd_step {u' : Int} {st : Nat} (d : (10 : Int) ^ st ∣ u') (n : ¬ (10 : Int) ^ (2 * st) ∣ u') : ¬ (10 : Int) ^ st ∣ u' / (10 : Int) ^ st := by
  obtain ⟨c, rfl⟩ := d
  have p : (10 : Int) ^ st ≠ 0 := Int.ne_of_gt (ten_pos st)
  rw [Int.mul_ediv_cancel_left _ p]
  rintro ⟨k, rfl⟩
  refine n ⟨k, ?_⟩
  have z : 2 * st = st + st := by omega
  rw [z, Int.pow_add, Int.mul_assoc]
/-- what the halving steps leave -/
def Half (u' : Int) (s' st : Nat) : Prop := (st = 0 ∧ (s' = 0 ∨ u' % 10 ≠ 0)) ∨ ((∃ j, st = 2 ^ j) ∧ ¬ (2 * st ≤ s' ∧ (10 : Int) ^ (2 * st) ∣ u'))
theorem half_next {u' : Int} {s' st : Nat} (hp : ∃ j, st = 2 ^ j) (n : ¬ (st ≤ s' ∧ (10 : Int) ^ st ∣ u')) : Half u' s' (st / 2) := by
  obtain ⟨j, rfl⟩ := hp
  cases j with
  | zero =>
    refine .inl ⟨rfl, ?_⟩
    by_cases h : s' = 0
    · exact .inl h
    · refine .inr fun z => n ⟨by simp; omega, ?_⟩
      simpa using Int.dvd_of_emod_eq_zero z
  | succ j =>
    have e : 2 ^ (j + 1) / 2 = 2 ^ j := by rw [Nat.pow_succ]; omega
    refine .inr ⟨⟨j, e⟩, ?_⟩
    rw [e]
    have e2 : 2 * 2 ^ j = 2 ^ (j + 1) := by rw [Nat.pow_succ]; omega
    rw [e2]
    exact n
section
variable {P : Program} {w : World} {K : PySem.W.Frag} {mg : Str → Option Value} {base : Heap}
theorem scWz : FnScope ["units", "scale", "step", "block"] ["units", "scale"] (defScope pWz) := ⟨rfl, rfl, rfl, by decide +kernel, rfl, by decide +kernel, by decide +kernel⟩
def spWz : Sp := fun vs H Q _ => ∃ (u : Int) (s : Nat), vs = [.int u, .int s] ∧ s < 2000 ∧ ∀ (u' : Int) (s' : Nat) (p : Addr), IsLow u s u' s' → H p = none → Q (.ref p) (upd H p (.tup [.int u', .int s']))
theorem ok_wz (A : At K mg "without_zeros" pWz ["units", "scale"]) (D : DefOk P w K mg base CX0 "ten_to" 9 ["places"] (spTenTo 8)) : DefOk P w K mg base CX0 "without_zeros" 10 ["units", "scale"] spWz := by
  refine A.ok fun f fd F => F.ok scWz (fun vs H Q E h => ?_) (fun cdv A outer s0 H vs Q E hr h => ?_)
  · obtain ⟨u, s, rfl, _⟩ := h
    rfl
  · obtain ⟨u, s, rfl, hs, q⟩ := h
    have nd := scWz.nd
    refine ⟨_, pss_cons (ps_if (PW.pt (pw_or (pt_cmpR op_eq (pv 1) pe_int (nomark _)) (pw_or1 (pt_cmpR op_ne (pe_op op_mod (pv 0) pe_int) pe_int (nomark _))))) (pss_one (ps_ret (pe_tup (pa_cons (pv 0) (pa_cons (pv 1) pa_nil))))) pss_nil)
      (pss_cons (ps_if (pt_cmpR op_eq (pv 0) pe_int (nomark _)) (pss_one (ps_ret (pe_tup (pa_cons pe_int (pa_cons pe_int pa_nil))))) pss_nil)
      (pss_cons (ps_set (i := 2) nd rfl (.inl rfl) pe_int)
      (pss_cons (ps_while PassesOwn.never (pt_cmpR op_le (pe_op op_mul (pv 2) pe_int) (pv 1) (nomark _)) (pss_one (ps_set (i := 2) nd rfl (.inl rfl) (pe_op op_mul (pv 2) pe_int))))
      (pss_cons (ps_while PassesOwn.never (pt_cmpR op_gt (pv 2) pe_int (nomark _)) (pss_cons (ps_set (i := 3) nd rfl (.inl rfl) (pe_def D hr (by decide) (by rfl) pass0 (pa_cons (pv 2) pa_nil)))
        (pss_cons (ps_if (PW.pt (pw_and (pt_cmpR op_le (pv 2) (pv 1) (nomark _)) (pw_and1 (pt_cmpR op_eq (pe_op op_mod (pv 0) (pv 3)) pe_int (nomark _)))))
          (pss_one (ps_par (i := 0) (j := 1) (by rfl) nd rfl rfl (by decide) rfl rfl (pa_cons (pe_op op_fdivW (pv 0) (pv 3)) (pa_cons (pe_op op_sub (pv 1) (pv 2)) pa_nil)) (by rfl))) pss_nil)
        (pss_one (ps_set (i := 2) nd rfl (.inl rfl) (pe_op op_fdiv (pv 2) pe_int))))))
      (pss_one (ps_ret (pe_tup (pa_cons (pv 0) (pa_cons (pv 1) pa_nil))))))))), ?_⟩
    refine ⟨_, rfl, rfl, _, rfl, ite2 (fun e => iteT ?_) (fun e => ?_)⟩
    · have h0 : s = 0 := by simpa using e
      subst h0
      exact ⟨_, rfl, _, rfl, by show 2 ≤ sizeLine; decide, fun p np => q u 0 p ⟨Nat.le_refl _, by simp, .inl rfl⟩ np⟩
    have hs0 : s ≠ 0 := by simpa using e
    refine ⟨_, rfl, _, _, rfl, rfl, (show (0 : Int) < 10 by decide), rfl, _, rfl, ite2 (fun e => ?_) (fun e => ?_)⟩
    · have h0 : u % 10 ≠ 0 := by simpa using e
      exact ⟨_, rfl, _, rfl, by show 2 ≤ sizeLine; decide, fun p np => q u s p ⟨Nat.le_refl _, by simp, .inr h0⟩ np⟩
    refine ⟨_, rfl, rfl, _, rfl, ite2 (fun e => ?_) (fun e => ?_)⟩
    · have h0 : u = 0 := by simpa using e
      exact ⟨by show 2 ≤ sizeLine; decide, fun p np => q 0 0 p ⟨Nat.zero_le _, by rw [h0]; simp, .inl rfl⟩ np⟩
    dsimp only [gName, List.set]
    refine ⟨fun m σ H' => H' = H ∧ ∃ j : Nat, σ = [some (.int u), some (.int s), some (.int ((2 ^ j : Nat) : Int)), none] ∧ 2 ^ j ≤ s ∧ m = s - 2 ^ j, ⟨_, rfl, 0, rfl, by simp; omega, rfl⟩, ?_⟩
    rintro m σ H1 ⟨rfl, j, rfl, hj, rfl⟩
    have jp : 0 < 2 ^ j := Nat.pow_pos (by decide)
    refine ⟨_, rfl, _, _, rfl, rfl, .inr ⟨by decide, by decide⟩, _, rfl, _, _, rfl, rfl, _, rfl, ite2 (fun e => ?_) (fun e => ?_)⟩
    · have hle : ((2 ^ j : Nat) : Int) * 2 ≤ (s : Int) := of_decide_eq_true e
      refine ⟨fun σ' H' => H' = H1 ∧ σ' = [some (.int u), some (.int s), some (.int ((2 ^ (j + 1) : Nat) : Int)), none], fun σ' H' z => ⟨s - 2 ^ (j + 1), ?_, z.1, j + 1, z.2, ?_, rfl⟩, ?_⟩
      · rw [Nat.pow_succ]
        omega
      · rw [Nat.pow_succ]
        omega
      · refine ⟨_, rfl, _, _, rfl, rfl, .inr ⟨by decide, by decide⟩, rfl, ?_⟩
        have e2 : ((2 ^ j : Nat) : Int) * 2 = ((2 ^ (j + 1) : Nat) : Int) := by
          rw [Nat.pow_succ]
          omega
        dsimp only [gName, List.set]
        rw [e2]
    have hgt : ¬ ((2 ^ j : Nat) : Int) * 2 ≤ (s : Int) := fun z => e (decide_eq_true z)
    refine ⟨fun m σ H' => H' = H1 ∧ ∃ (u' : Int) (s' st : Nat) (bl : Option V), σ = [some (.int u'), some (.int s'), some (.int st), bl] ∧ m = st ∧ st < 2000 ∧ s' ≤ s ∧ u = u' * (10 : Int) ^ (s - s') ∧ Half u' s' st, ⟨_, rfl, u, s, 2 ^ j, none, rfl, rfl, by omega, Nat.le_refl _, by simp, .inr ⟨⟨j, rfl⟩, fun z => by omega⟩⟩, ?_⟩
    rintro m σ H2 ⟨rfl, u', s', st, bl, rfl, hm, hst, hle, eu, hf⟩
    have hm := hm.symm
    subst hm
    refine ⟨_, rfl, _, _, rfl, rfl, _, rfl, ite2 (fun e => ?_) (fun e => ?_)⟩
    · have h0 : 0 < st := by
        have z : (0 : Int) < (st : Int) := of_decide_eq_true e
        omega
      obtain ⟨hp, hn⟩ : (∃ j, st = 2 ^ j) ∧ ¬ (2 * st ≤ s' ∧ (10 : Int) ^ (2 * st) ∣ u') := by
        rcases hf with ⟨z, _⟩ | z
        · omega
        · exact z
      refine ⟨fun σ' H' => H' = H2 ∧ ∃ (u2 : Int) (s2 : Nat) (bl : Option V), σ' = [some (.int u2), some (.int s2), some (.int ((st / 2 : Nat) : Int)), bl] ∧ s2 ≤ s ∧ u = u2 * (10 : Int) ^ (s - s2) ∧ Half u2 s2 (st / 2), fun σ' H' ⟨z1, u2, s2, bl, z2, z3, z4, z5⟩ => ⟨st / 2, by omega, z1, u2, s2, st / 2, bl, z2, rfl, by omega, z3, z4, z5⟩, ?_⟩
      have e2 : (st : Int) / 2 = ((st / 2 : Nat) : Int) := by omega
      have tp := ten_pos st
      refine ⟨_, rfl, st, rfl, by show st < 16 * 2 ^ 8; omega, ?_⟩
      refine ⟨_, rfl, _, rfl, _, _, rfl, rfl, _, rfl, ite2 (fun e => ?_) (fun e => ?_)⟩
      · have l1 : st ≤ s' := by
          have z : (st : Int) ≤ (s' : Int) := of_decide_eq_true e
          omega
        refine ⟨_, rfl, _, rfl, _, _, rfl, rfl, tp, rfl, _, rfl, ite2 (fun e => ?_) (fun e => ?_)⟩
        · have d1 : (10 : Int) ^ st ∣ u' := Int.dvd_of_emod_eq_zero (by simpa using e)
          refine ⟨_, rfl, _, rfl, _, _, rfl, rfl, wide_div tp (ten_lt st) (by omega) (by omega), _, rfl, _, rfl, _, _, rfl, rfl, _, _, rfl, ?_⟩
          refine ⟨_, rfl, _, _, rfl, rfl, ⟨by decide, by decide⟩, ?_⟩
          dsimp only [gName, List.set]
          rw [e2]
          have e3 : (s' : Int) - (st : Int) = ((s' - st : Nat) : Int) := by omega
          rw [e3]
          refine ⟨rfl, u' / (10 : Int) ^ st, s' - st, some (.int ((10 : Int) ^ st)), rfl, by omega, low_step hle l1 eu d1, half_next hp fun z => ?_⟩
          by_cases l2 : 2 * st ≤ s'
          · exact dvd_step d1 (fun d2 => hn ⟨l2, d2⟩) z.2
          · omega
        · refine ⟨_, rfl, _, _, rfl, rfl, ⟨by decide, by decide⟩, ?_⟩
          dsimp only [gName, List.set]
          rw [e2]
          have nd1 : ¬ (10 : Int) ^ st ∣ u' := fun z => e (decide_eq_true (by show V.int (u' % (10 : Int) ^ st) = V.int 0; rw [Int.emod_eq_zero_of_dvd z]))
          exact ⟨rfl, u', s', some (.int ((10 : Int) ^ st)), rfl, hle, eu, half_next hp fun z => nd1 z.2⟩
      · have l1 : ¬ st ≤ s' := fun z => e (decide_eq_true (by omega))
        refine ⟨_, rfl, _, _, rfl, rfl, ⟨by decide, by decide⟩, ?_⟩
        dsimp only [gName, List.set]
        rw [e2]
        exact ⟨rfl, u', s', some (.int ((10 : Int) ^ st)), rfl, hle, eu, half_next hp fun z => l1 z.1⟩
    · have h0 : st = 0 := by
        have z : ¬ (0 : Int) < (st : Int) := fun z => e (decide_eq_true z)
        omega
      have own : s' = 0 ∨ u' % 10 ≠ 0 := by
        rcases hf with ⟨_, z⟩ | ⟨⟨j, z⟩, _⟩
        · exact z
        · have := Nat.pow_pos (n := j) (show 0 < 2 by decide)
          omega
      exact ⟨_, rfl, _, rfl, by show 2 ≤ sizeLine; decide, fun p np => q u' s' p ⟨hle, eu, own⟩ np⟩
end
end K53

/-! own layer, of no law: a number told as what is ahead of the point and the digits behind it -/
namespace Own
open PySem PySem.Spec PyProof.Rows L2 LamX NdefX
/-- ahead of the point -/
def wFl (u : Int) (s : Nat) : Int := if s = 0 then u else u / (10 : Int) ^ s
/-- the digits behind it -/
def wMo (u : Int) (s : Nat) : Str := if s = 0 then "" else Txt.zfill (Str.ofString (toString (u % (10 : Int) ^ s))) (s : Int)
def wRow (u : Int) (s : Nat) : List (Str × V) := [("units", .int u), ("scale", .int s), ("floor", .int (wFl u s)), ("more", .str (wMo u s))]
theorem wNe : (("scale" : Str) == "units") = false ∧ (("floor" : Str) == "units") = false ∧ (("floor" : Str) == "scale") = false ∧ (("more" : Str) == "units") = false ∧ (("more" : Str) == "scale") = false ∧ (("more" : Str) == "floor") = false := by decide +kernel
theorem wLk_u (u : Int) (s : Nat) : (wRow u s).lookup ("units" : Str) = some (.int u) := by simp [wRow, List.lookup]
theorem wLk_s (u : Int) (s : Nat) : (wRow u s).lookup ("scale" : Str) = some (.int s) := by simp [wRow, List.lookup, wNe]
theorem wLk_f (u : Int) (s : Nat) : (wRow u s).lookup ("floor" : Str) = some (.int (wFl u s)) := by simp [wRow, List.lookup, wNe]
theorem wLk_m (u : Int) (s : Nat) : (wRow u s).lookup ("more" : Str) = some (.str (wMo u s)) := by simp [wRow, List.lookup, wNe]
theorem wLk_no {m : Str} (u : Int) (s : Nat) (h1 : (m == "units") = false) (h2 : (m == "scale") = false) (h3 : (m == "floor") = false := by decide +kernel) (h4 : (m == "more") = false := by decide +kernel) : (wRow u s).lookup m = none := by simp [wRow, List.lookup, h1, h2, h3, h4]
theorem put4 (a b c d : V) : putF "more" d (putF "floor" c (putF "scale" b (putF "units" a []))) = ([("units", a), ("scale", b), ("floor", c), ("more", d)] : List (Str × V)) := by
  have e1 : ¬ (("units" : Str) = "scale") := by decide +kernel
  have e2 : ¬ (("units" : Str) = "floor") := by decide +kernel
  have e3 : ¬ (("units" : Str) = "more") := by decide +kernel
  have e4 : ¬ (("scale" : Str) = "floor") := by decide +kernel
  have e5 : ¬ (("scale" : Str) = "more") := by decide +kernel
  have e6 : ¬ (("floor" : Str) = "more") := by decide +kernel
  simp [putF, e1, e2, e3, e4, e5, e6]
/-! ### the digits -/
theorem numL_cons (n : Nat) : ∃ c l, TL.numL n = c :: l ∧ 48 ≤ c ∧ c ≤ 57 := by
  cases h : TL.numL n with
  | nil => exact absurd h (TL.numL_ne n)
  | cons c l =>
    have z := TL.numL_digits n c (by rw [h]; exact List.mem_cons_self ..)
    exact ⟨c, l, rfl, z.1, z.2⟩
theorem zf_list (n s : Nat) : (Txt.zfill (Str.ofString (toString (n : Int))) (s : Int)).cps.toList = List.replicate (s - (TL.numL n).length) 48 ++ TL.numL n := by
  have e : (Str.ofString (toString (n : Int))).cps.toList = TL.numL n := TL.tl_num n
  have l : (Str.ofString (toString (n : Int))).length = (TL.numL n).length := by rw [TL.len_tl]; exact congrArg List.length e
  generalize Str.ofString (toString (n : Int)) = x at e l
  unfold Txt.zfill
  by_cases h : (s : Int) ≤ (x.length : Int)
  · rw [if_pos h, e, show s - (TL.numL n).length = 0 by omega]
    rfl
  · rw [if_neg h]
    obtain ⟨c, r, ec, h1, h2⟩ := numL_cons n
    have hd : x.cps[0]? = some c := by
      rw [← Array.getElem?_toList, e, ec]
      rfl
    unfold zfilled
    rw [hd]
    split
    · rename_i z
      have := Option.some.inj z
      omega
    · rename_i z
      have := Option.some.inj z
      omega
    · rw [PyProof.Rows.padded_list, e, l]
      simp
theorem val_zeros : ∀ (k : Nat) (l : List Nat), NumText.digitsVal (List.replicate k 48 ++ l) = NumText.digitsVal l
  | 0, l => rfl
  | k + 1, l => by
    show NumText.digitsVal (48 :: (List.replicate k 48 ++ l)) = _
    exact val_zeros k l
theorem ten_nc (s : Nat) : ((10 : Int) ^ s) = ((10 ^ s : Nat) : Int) := by simp
theorem wMod (u : Int) (s : Nat) : ∃ n : Nat, u % (10 : Int) ^ s = (n : Int) ∧ n < 10 ^ s := by
  have p : 0 < 10 ^ s := Nat.pow_pos (by decide)
  rw [ten_nc]
  have a := Int.emod_nonneg u (show ((10 ^ s : Nat) : Int) ≠ 0 by omega)
  have b := Int.emod_lt_of_pos u (show (0 : Int) < ((10 ^ s : Nat) : Int) by omega)
  exact ⟨(u % ((10 ^ s : Nat) : Int)).toNat, by omega, by omega⟩
theorem wMo_list {u : Int} {s n : Nat} (h : s ≠ 0) (e : u % (10 : Int) ^ s = (n : Int)) : (wMo u s).cps.toList = List.replicate (s - (TL.numL n).length) 48 ++ TL.numL n := by
  unfold wMo
  rw [if_neg h, e]
  exact zf_list n s
theorem wMo_zero (u : Int) : (wMo u 0).cps.toList = [] := by
  have e : wMo u 0 = "" := by
    unfold wMo
    rw [if_pos rfl]
  rw [e]
  rfl
theorem wMo_len (u : Int) (s : Nat) : (wMo u s).cps.toList.length = s := by
  by_cases h : s = 0
  · subst h
    rw [wMo_zero]
    rfl
  · obtain ⟨n, e, l⟩ := wMod u s
    rw [wMo_list h e, List.length_append, List.length_replicate]
    have := TL.numL_len (Nat.pos_of_ne_zero h) l
    omega
theorem w_inj {u u2 : Int} {s s2 : Nat} (h1 : wFl u s = wFl u2 s2) (h2 : wMo u s = wMo u2 s2) : u = u2 ∧ s = s2 := by
  have e : s = s2 := by
    have a := wMo_len u s
    have b := wMo_len u2 s2
    rw [h2] at a
    omega
  subst e
  refine ⟨?_, rfl⟩
  by_cases h : s = 0
  · subst h
    exact h1
  · obtain ⟨n, e, l⟩ := wMod u s
    obtain ⟨n2, e2, l2⟩ := wMod u2 s
    have a := wMo_list h e
    have b := wMo_list h e2
    rw [h2, b] at a
    have v := congrArg NumText.digitsVal a
    rw [val_zeros, val_zeros, TL.numL_val, TL.numL_val] at v
    unfold wFl at h1
    rw [if_neg h, if_neg h] at h1
    have d1 := Int.mul_ediv_add_emod u ((10 : Int) ^ s)
    have d2 := Int.mul_ediv_add_emod u2 ((10 : Int) ^ s)
    rw [← d1, ← d2, h1, e, e2, v]
theorem w_ok (u : Int) (s : Nat) : PyData.strOk (wMo u s) = true := by
  have all : ∀ c ∈ (wMo u s).cps.toList, c < 0x110000 := fun c hc => by
    by_cases h : s = 0
    · subst h
      rw [wMo_zero] at hc
      cases hc
    · obtain ⟨n, e, l⟩ := wMod u s
      rw [wMo_list h e] at hc
      rcases List.mem_append.mp hc with z | z
      · rw [(List.mem_replicate.mp z).2]
        decide
      · have := TL.numL_digits n c z
        omega
  unfold PyData.strOk
  rw [Array.all_eq_true_iff_forall_mem]
  intro c hc
  exact decide_eq_true (all c (Array.mem_toList_iff.mpr hc))
/-- the two halves as data -/
theorem w_dp {K : PySem.W.Frag} {H : Hp} {a : Addr} {i : Int} {t : Str} (e : H a = some (.tup [.int i, .str t])) : Dp K H (.ref a) (.tuple [.int i, .str t]) := .tup (SqT.of e) (.cons (.int i) (.cons (.str t) .nil))
theorem w_sh (u : Int) (s : Nat) : SeqAt.shaped (.tuple [.int (wFl u s), .str (wMo u s)]) = true := by
  unfold SeqAt.shaped
  simp [PyData.canLay0, PyData.canLayAll0, PyData.depth, PyData.depthAll, w_ok]
theorem w_eqv (u u2 : Int) (s s2 : Nat) : PyData.eqv (.tuple [.int (wFl u s), .str (wMo u s)]) (.tuple [.int (wFl u2 s2), .str (wMo u2 s2)]) = (decide (u = u2) && decide (s = s2)) := by
  simp only [PyData.eqv, PyData.eqvAll, Bool.and_true]
  by_cases h : u = u2 ∧ s = s2
  · obtain ⟨rfl, rfl⟩ := h
    simp
  · have r : (decide (u = u2) && decide (s = s2)) = false := by
      rw [← Bool.decide_and]
      exact decide_eq_false h
    rw [r]
    have n : ¬ (wFl u s = wFl u2 s2 ∧ wMo u s = wMo u2 s2) := fun z => h (w_inj z.1 z.2)
    by_cases h1 : wFl u s = wFl u2 s2
    · have h2 : wMo u s ≠ wMo u2 s2 := fun z => n ⟨h1, z⟩
      rw [beq_false_of_ne h2, Bool.and_false]
    · rw [beq_false_of_ne h1, Bool.false_and]
/-- a list of statements that is never come to -/
theorem pss_dead {X : Cx} {ss : List Stmt} : PSs X ss (fun _ _ _ => False) := ⟨fun _ _ _ _ _ _ h => h.elim⟩
theorem dm_wide {n d : Int} (h0 : 0 < d) (h : d.natAbs < 2 ^ 9000) : CDivP n d := by
  refine ⟨h0, ?_⟩
  have a := log2_lt h (by decide)
  unfold Builtin.divisionGoesByPylong
  have e : ¬ (d == 0) = true := by simp; omega
  have z : ¬ (d.natAbs.log2 / 30 + 1 > 300) := by omega
  simp only [e, Bool.false_eq_true, if_false]
  rw [decide_eq_false z]
  rfl
end Own

/-! k53: digits_of, parted. -/
namespace K53
open PySem PySem.Spec PyProof.Rows L2 LamX NdefX Own
abbrev pDig : Stmt := topS 15
abbrev pPart : Stmt := topS 19
section
variable {P : Program} {w : World} {K : PySem.W.Frag} {mg : Str → Option Value} {base : Heap}
theorem scDig : FnScope ["number", "places", "ahead", "behind"] ["number"] (defScope pDig) := ⟨rfl, rfl, rfl, by decide +kernel, rfl, by decide +kernel, by decide +kernel⟩
/-- a number of few digits -/
def spDig : Sp := fun vs H Q _ => ∃ n : Nat, vs = [.int n] ∧ n < 10 ^ 500 ∧ Q (.str (Str.ofString (toString (n : Int)))) H
theorem small_log {n : Nat} (h : n < 10 ^ 500) : n.log2 < 1700 := log2_lt (Nat.lt_of_lt_of_le h (by decide +kernel)) (by decide)
theorem ok_dig (A : At K mg "digits_of" pDig ["number"]) (B : Blt mg) : DefOk P w K mg base CX0 "digits_of" 1 ["number"] spDig := by
  refine A.ok fun f fd F => F.ok scDig (fun vs H Q E h => ?_) (fun cdv A outer s0 H vs Q E hr h => ?_)
  · obtain ⟨n, rfl, _⟩ := h
    rfl
  · obtain ⟨n, rfl, hn, q⟩ := h
    have nd := scDig.nd
    refine ⟨_, pss_cons (ps_if (pt_cmpR op_lt (pe_bits (pv 0)) pe_int (nomark _)) (pss_one (ps_ret (pe_callTy call_str_int (by rfl) B.str (by decide +kernel) (pa_cons (pv 0) pa_nil)))) pss_nil) pss_dead, ?_⟩
    have lg := small_log hn
    have bits : Builtin.Int.intBits (n : Int) ≤ 1700 := by
      unfold Builtin.Int.intBits
      split
      · omega
      · have e : (n : Int).natAbs = n := by omega
        rw [e]
        omega
    refine ⟨_, rfl, n, rfl, _, _, rfl, rfl, _, rfl, ite2 (fun _ => ?_) (fun e => ?_)⟩
    · refine ⟨_, rfl, n, rfl, ?_, q⟩
      have e : (n : Int).natAbs = n := by omega
      rw [e]
      omega
    · exact absurd (decide_eq_true (by omega)) e
theorem scPart : FnScope ["units", "scale", "floor", "more"] ["units", "scale"] (defScope pPart) := ⟨rfl, rfl, rfl, by decide +kernel, rfl, by decide +kernel, by decide +kernel⟩
def spPart : Sp := fun vs H Q _ => ∃ (u : Int) (s : Nat), vs = [.int u, .int s] ∧ s < 500 ∧ ∀ (p : Addr) (H' : Hp), Same H H' → H' p = some (.tup [.int (wFl u s), .str (wMo u s)]) → Q (.ref p) H'
theorem ok_part (A : At K mg "parted" pPart ["units", "scale"]) (B : Blt mg) (D1 : DefOk P w K mg base CX0 "ten_to" 9 ["places"] (spTenTo 8)) (D2 : DefOk P w K mg base CX0 "digits_of" 1 ["number"] spDig) : DefOk P w K mg base CX0 "parted" 10 ["units", "scale"] spPart := by
  refine A.ok fun f fd F => F.ok scPart (fun vs H Q E h => ?_) (fun cdv A outer s0 H vs Q E hr h => ?_)
  · obtain ⟨u, s, rfl, _⟩ := h
    rfl
  · obtain ⟨u, s, rfl, hs, q⟩ := h
    have nd := scPart.nd
    refine ⟨_, pss_cons (ps_if (pt_cmpR op_eq (pv 1) pe_int (nomark _)) (pss_one (ps_ret (pe_tup (pa_cons (pv 0) (pa_cons pe_str pa_nil))))) pss_nil)
      (pss_cons (ps_asg (pe_callB call_divmodW (by rfl) B.dm (by decide +kernel) (pa_cons (pv 0) (pa_cons (pe_def D1 hr (by decide) (by rfl) pass0 (pa_cons (pv 1) pa_nil)) pa_nil))) (pg_tup rfl (pgs_cons (pg_name (i := 2) nd rfl (.inl rfl)) (pgs_cons (pg_name (i := 3) nd rfl (.inl rfl)) pgs_nil))))
      (pss_one (ps_ret (pe_tup (pa_cons (pv 2) (pa_cons (pe_bm PySem.F.plainAttrs_str PySem.F.slot_str_zfill PySem.F.type_str_zfill mt_zfill (pe_def D2 hr (by decide) (by rfl) pass0 (pa_cons (pv 3) pa_nil)) (pa_cons (pv 1) pa_nil)) pa_nil)))))), ?_⟩
    refine ⟨_, rfl, rfl, _, rfl, ite2 (fun e => ?_) (fun e => ?_)⟩
    · have h0 : s = 0 := by simpa using e
      subst h0
      refine ⟨_, rfl, by show 2 ≤ sizeLine; decide, fun p np => q p _ (same_new np) ?_⟩
      rw [upd_same]
      unfold wFl wMo
      rw [if_pos rfl, if_pos rfl]
    · have h0 : s ≠ 0 := by simpa using e
      refine ⟨_, rfl, _, rfl, s, rfl, by show s < 16 * 2 ^ 8; omega, _, _, rfl, dm_wide (ten_pos s) (up_two (ten_lt s) (by omega)), fun p hp => ?_⟩
      obtain ⟨n, en, hn⟩ := wMod u s
      have s1 : Same H (upd H p (.tup [.int (u / (10 : Int) ^ s), .int (u % (10 : Int) ^ s)])) := same_new hp
      refine ⟨p, _, rfl, SqT.of upd_same, rfl, _, _, rfl, _, _, rfl, rfl, ?_⟩
      have e1 : wFl u s = u / (10 : Int) ^ s := by
        unfold wFl
        rw [if_neg h0]
      have e2 : wMo u s = Txt.zfill (Str.ofString (toString (n : Int))) (s : Int) := by
        unfold wMo
        rw [if_neg h0, en]
      rw [en] at s1 ⊢
      dsimp only [gName, List.set]
      refine ⟨_, rfl, _, rfl, n, rfl, Nat.lt_of_lt_of_le hn (Nat.pow_le_pow_right (by decide) (by omega)), rfl, _, rfl, _, _, rfl, rfl, padOk_of (by omega) (by omega), by show 2 ≤ sizeLine; decide, fun p2 np2 => ?_⟩
      refine q p2 _ (s1.trans (same_new np2)) ?_
      rw [upd_same, e1, e2]
end
end K53

/-! k53: the class Worth. -/
namespace K53
open PySem PySem.Spec PyProof.Rows L2 LamX NdefX Own
abbrev wI (i : Nat) : Stmt := inClass (topS 17) i
section
variable {P : Program} {w : World} {K : PySem.W.Frag} {mg : Str → Option Value} {base : Heap} {C W : Addr}
/-- what the class is -/
structure WorthC (K : PySem.W.Frag) (mg : Str → Option Value) (W : Addr) : Prop where
  g : mg "Worth" = some (.ref W)
  cls : Cls K W
  nu : NoAttr K W "units"
  ns : NoAttr K W "scale"
  nf : NoAttr K W "floor"
  nm : NoAttr K W "more"
/-- a Worth stands at a: u units at the scale s -/
def WAt (W : Addr) (H : Hp) (a : Addr) (u : Int) (s : Nat) : Prop := ∃ dx, H a = some (.ins W dx (wRow u s))
theorem scWI : FnScope ["self", "units", "scale"] ["self", "units", "scale"] (defScope (wI 0)) := ⟨rfl, rfl, rfl, by decide +kernel, rfl, by decide +kernel, by decide +kernel⟩
/-- __init__ -/
def spWI (C W : Addr) : Sp := fun vs H Q E => ∃ (a dx : Addr) (x y : V), vs = [.ref a, x, y] ∧ H a = some (.ins W dx []) ∧ Thing H x ∧ Thing H y ∧ (Own.isInt x = false → Bad C "value" x H E) ∧ (Own.isInt x = true → isWh y = false → Bad C "value" y H E) ∧
  ∀ (u : Int) (s : Nat), x = .int u → y = .int s → s < 500 ∧ ∀ (u' : Int) (s' : Nat) (H' : Hp), IsLow u s u' s' → Keep a H H' → H' a = some (.ins W dx (wRow u' s')) → Q .non H'
theorem isWh_nat {y : V} (h : isWh y = true) : ∃ s : Nat, y = .int s := by
  cases y with
  | int i =>
    have z : 0 ≤ i := of_decide_eq_true h
    exact ⟨i.toNat, by rw [Int.toNat_of_nonneg z]⟩
  | _ => cases h
theorem ok_wI {f : Addr} {fd : FuncData} {dvs : List V} (F : FunD K "__init__" "Worth.__init__" (defArgs (wI 0)) (defBody (wI 0)) (defScope (wI 0)) dvs [] f fd) (T : WorthC K mg W) (D1 : DefOk P w K mg base (L2.CX P w) "need_integer" 3 ["value"] (spNInt C)) (D2 : DefOk P w K mg base (L2.CX P w) "need_whole_number" 3 ["value"] (spNWh C))
    (D3 : DefOk P w K mg base CX0 "without_zeros" 10 ["units", "scale"] spWz) (D4 : DefOk P w K mg base CX0 "parted" 10 ["units", "scale"] spPart) : FnOk P w K mg base (L2.CX P w) 11 f fd ["self", "units", "scale"] (spWI C W) := by
  refine F.ok scWI (fun vs H Q E h => ?_) (fun cdv A outer s0 H vs Q E hr h => ?_)
  · obtain ⟨a, dx, x, y, rfl, _⟩ := h
    rfl
  · obtain ⟨a, dx, x, y, rfl, ha, tx, ty, q1, q2, q3⟩ := h
    refine ⟨_, pss_cons (ps_expr (pe_def (E := E) D1 hr (by decide) (by rfl) (passes_call (takes_of rfl rfl rfl rfl) fun _ _ _ _ z => z) (pa_cons (pv 1) pa_nil)))
      (pss_cons (ps_expr (pe_def (E := E) D2 hr (by decide) (by rfl) (passes_call (takes_of rfl rfl rfl rfl) fun _ _ _ _ z => z) (pa_cons (pv 2) pa_nil)))
      (pss_cons (ps_asg (pe_def D3 hr (by decide) (by rfl) pass0 (pa_cons (pv 1) (pa_cons (pv 2) pa_nil))) (pg_tup rfl (pgs_cons (pg_fld (pv 0)) (pgs_cons (pg_fld (pv 0)) pgs_nil))))
      (pss_one (ps_asg (pe_def D4 hr (by decide) (by rfl) pass0 (pa_cons (pe_fld (pv 0) (by rfl)) (pa_cons (pe_fld (pv 0) (by rfl)) pa_nil))) (pg_tup rfl (pgs_cons (pg_fld (pv 0)) (pgs_cons (pg_fld (pv 0)) pgs_nil))))))), ?_⟩
    refine ⟨_, rfl, x, rfl, tx, fun hx => ?_, q1⟩
    refine ⟨_, rfl, y, rfl, ty, fun hy => ?_, q2 hx⟩
    obtain ⟨s, rfl⟩ := isWh_nat hy
    obtain ⟨u, rfl⟩ : ∃ u, x = .int u := by
      cases x <;> first | exact ⟨_, rfl⟩ | (simp [Own.isInt] at hx)
    obtain ⟨hs, q⟩ := q3 u s rfl rfl
    refine ⟨_, rfl, _, rfl, u, s, rfl, by omega, fun u' s' p lw np => ?_⟩
    have na : a ≠ p := ne_of_none ha np
    have ha1 : upd H p (.tup [.int u', .int s']) a = some (.ins W dx []) := (upd_ne na).trans ha
    refine ⟨p, _, rfl, SqT.of upd_same, rfl, _, _, rfl, ⟨_, rfl, a, W, dx, [], rfl, ha1, T.cls, T.nu, by decide, ?_⟩⟩
    refine ⟨_, _, rfl, ⟨_, rfl, a, W, dx, _, rfl, upd_same, T.cls, T.ns, by show 1 < 1000; decide, ?_⟩⟩
    refine ⟨rfl, ?_⟩
    rw [upd_upd]
    have k1 : Keep a H (upd (upd H p (.tup [.int u', .int s'])) a (.ins W dx (putF "scale" (.int s') (putF "units" (.int u') [])))) := (Keep.new np).trans Keep.at
    have ha2 : upd (upd H p (.tup [.int u', .int s'])) a (.ins W dx (putF "scale" (.int s') (putF "units" (.int u') []))) a = some (.ins W dx (putF "scale" (.int s') (putF "units" (.int u') []))) := upd_same
    generalize upd (upd H p (.tup [.int u', .int s'])) a (.ins W dx (putF "scale" (.int s') (putF "units" (.int u') []))) = H1 at k1 ha2 ⊢
    have e0 : ¬ (("units" : Str) = "scale") := by decide +kernel
    have e1 : (putF "scale" (.int s') (putF "units" (.int u') []) : List (Str × V)).lookup ("units" : Str) = some (V.int u') := by simp [putF, e0, List.lookup]
    have e2 : (putF "scale" (.int s') (putF "units" (.int u') []) : List (Str × V)).lookup ("scale" : Str) = some (V.int s') := by simp [putF, e0, List.lookup, wNe]
    have le := lw.le
    refine ⟨_, rfl, a, W, dx, _, .int u', rfl, ha2, T.cls, T.nu, e1, _, rfl, a, W, dx, _, .int s', rfl, ha2, T.cls, T.ns, e2, u', s', rfl, by omega, fun p2 H2 s2 h2 => ?_⟩
    have ha3 := s2 _ _ ha2
    have n2 : a ≠ p2 := ne_of ha3 h2 (by intro z; cases z)
    refine ⟨p2, _, rfl, SqT.of h2, rfl, _, _, rfl, ⟨_, rfl, a, W, dx, _, rfl, ha3, T.cls, T.nf, by show 2 < 1000; decide, ?_⟩⟩
    refine ⟨_, _, rfl, ⟨_, rfl, a, W, dx, _, rfl, upd_same, T.cls, T.nm, by show 3 < 1000; decide, ?_⟩⟩
    refine ⟨rfl, ?_⟩
    rw [upd_upd, put4]
    exact q u' s' _ lw ((k1.trans (Keep.same s2)).trans Keep.at) upd_same
end
end K53

/-! k53: Worths made; as_worth, units_at, sign. -/
namespace Own
open PySem PySem.Spec PyProof.Rows L2 LamX NdefX
theorem Thing.tyx {K : PySem.W.Frag} {H : Hp} {x : V} (h : Thing H x) : ∃ T ∈ tys, TyX K H x (.type T) := by
  cases h with
  | non => exact ⟨"NoneType", by simp [tys], .base .non⟩
  | bl b => exact ⟨"bool", by simp [tys], .base (.bl b)⟩
  | int i => exact ⟨"int", by simp [tys], .base (.int i)⟩
  | str z => exact ⟨"str", by simp [tys], .base (.str z)⟩
  | lst e => exact ⟨"list", by simp [tys], .base (.lst e)⟩
  | tup e => exact ⟨"tuple", by simp [tys], .base (.tup e)⟩
  | dct e => exact ⟨"dict", by simp [tys], .base (.dK e)⟩
end Own
namespace K53
open PySem PySem.Spec PyProof.Rows L2 LamX NdefX Own
abbrev pAsW : Stmt := topS 20
section
variable {P : Program} {w : World} {K : PySem.W.Frag} {mg : Str → Option Value} {base : Heap} {C W : Addr}
/-- isinstance by the class -/
structure WIs (K : PySem.W.Frag) (W : Addr) : Prop where
  ha : PySem.W.findIn K (.ref W) "__class__" = some (some (.builtin "object.__class__"))
  hn : PySem.W.specialIn K (.builtin "object.__class__") "__get__" = some (some (.builtin "getset_descriptor.__get__"))
  ht : PySem.W.takesIn K (.builtin "object.__class__") = some true
  hm : PySem.W.mroIn K W (.type "object") = some true
  no : ∀ T ∈ tys, PySem.W.kitOne K (.type T) (.ref W) = some false
/-- how the class is called -/
structure WMk (P : Program) (w : World) (K : PySem.W.Frag) (mg : Str → Option Value) (base : Heap) (C W : Addr) : Prop where
  ex : ∃ (fI : Addr) (fd : FuncData), Mk K W fI ∧ FnOk P w K mg base (L2.CX P w) 11 fI fd ["self", "units", "scale"] (spWI C W) ∧ Binds K fd ["self", "units", "scale"] [] ∧ ∃ ds, Vals [V.int 0] ds ∧ Binds K fd ["self", "units", "scale"] ds
theorem WAt.same {H H' : Hp} {a : Addr} {u : Int} {s : Nat} (h : WAt W H a u s) (z : Same H H') : WAt W H' a u s := by
  obtain ⟨dx, e⟩ := h
  exact ⟨dx, z _ _ e⟩
/-- what the call Worth(x, y) gives -/
def spWorth (C W : Addr) : Sp := fun vs H Q E => ∃ x y : V, vs = [x, y] ∧ Thing H x ∧ Thing H y ∧ (Own.isInt x = false → Bad C "value" x H E) ∧ (Own.isInt x = true → isWh y = false → Bad C "value" y H E) ∧
  ∀ (u : Int) (s : Nat), x = .int u → y = .int s → s < 500 ∧ ∀ (u' : Int) (s' : Nat) (a : Addr) (H' : Hp), IsLow u s u' s' → Same H H' → H a = none → WAt W H' a u' s' → Q (.ref a) H'
theorem worth_make {vs : List V} {H : Hp} {Q : VK} {E : XK} (h : spWorth C W vs H Q E) (a dx : Addr) (na : H a = none) (nd : H dx = none) (ne : dx ≠ a) : spWI C W (.ref a :: vs) (upd (upd H dx (.own a)) a (.ins W dx [])) (fun v H2 => v = .non ∧ Q (.ref a) H2) E := by
  obtain ⟨x, y, rfl, tx, ty, q1, q2, q3⟩ := h
  have na1 : upd H dx (.own a) a = none := (upd_ne ne.symm).trans na
  have s1 : Same H (upd (upd H dx (.own a)) a (.ins W dx [])) := (same_new nd).trans (same_new na1)
  refine ⟨a, dx, x, y, rfl, upd_same, tx.same s1, ty.same s1, fun z => (q1 z).same s1, fun z1 z2 => (q2 z1 z2).same s1, fun u s e1 e2 => ?_⟩
  obtain ⟨hs, q⟩ := q3 u s e1 e2
  refine ⟨hs, fun u' s' H' lw kp ha => ⟨rfl, q u' s' a H' lw (fun b o e => ?_) na ⟨dx, ha⟩⟩⟩
  have ba : b ≠ a := ne_of_none e na
  exact kp _ _ ba (s1 _ _ e)
section
variable {X : Cx} {k : Nat} {E : XK} {x : Str} {p pos : Pos} {e1 e2 : Expr} {t : TA}
/-- Worth(e1, e2) -/
theorem pe_worth (M : WMk X.prog X.w X.K X.mg X.base C W) (T : WorthC X.K X.mg W) (hr : Room k X.A) (hk : 12 ≤ k) (hg : Gl X "Worth") (hx : Passes (L2.CX X.prog X.w) X E) (ha : PA X [e1, e2] t)
    (he : starEach [e1, e2] X.env = (false, eval e1 X.env) :: starEach [e2] X.env := by rfl) (hpl : (backTo pos (starEach [e2] X.env)).any (·.1) = false := by rfl) : PE X (.Call (.Name "Worth" p) [e1, e2] [] pos) (tCall (spWorth C W) [] E t) := by
  obtain ⟨fI, fd, mk, F, b2, _⟩ := M.ex
  constructor
  intro pins s σ H Q I h
  refine wpAny_Call_Name_kw (ld_glob I hg T.g ?_ (by decide))
  refine PySem.W.callWith_K (h₀ := X.base) I.ok.mod.kin mk.kp (thn (ha.run pos pins s σ H _ I h) ?_) he hpl
  rintro us s1 ⟨vs, H1, I1, r, q⟩
  refine ⟨I1.kIn, run_make mk F (hr.mono hk) b2 .nil hx I1 r fun a dx na nd ne => ?_⟩
  rw [List.append_nil] at q ⊢
  exact worth_make q a dx na nd ne
/-- Worth(e1) -/
theorem pe_worth1 (M : WMk X.prog X.w X.K X.mg X.base C W) (T : WorthC X.K X.mg W) (hr : Room k X.A) (hk : 12 ≤ k) (hg : Gl X "Worth") (hx : Passes (L2.CX X.prog X.w) X E) {te : TE} (ha : PE X e1 te)
    (he : starEach [e1] X.env = (false, eval e1 X.env) :: starEach [] X.env := by rfl) (hpl : (backTo pos (starEach [] X.env)).any (·.1) = false := by rfl) : PE X (.Call (.Name "Worth" p) [e1] [] pos) (fun σ H Q => tCons te tNil σ H fun vs H1 => ∃ v, vs = [v] ∧ spWorth C W [v, .int 0] H1 Q E) := by
  obtain ⟨fI, fd, mk, F, _, ds, rd, b1⟩ := M.ex
  constructor
  intro pins s σ H Q I h
  refine wpAny_Call_Name_kw (ld_glob I hg T.g ?_ (by decide))
  refine PySem.W.callWith_K (h₀ := X.base) I.ok.mod.kin mk.kp (thn ((pa_cons ha pa_nil he).run pos pins s σ H (fun vs H1 => ∃ v, vs = [v] ∧ spWorth C W [v, .int 0] H1 Q E) I h) ?_) he hpl
  rintro us s1 ⟨vs, H1, I1, r, v, rfl, q⟩
  exact ⟨I1.kIn, run_make mk F (hr.mono hk) b1 rd hx I1 r fun a dx na nd ne => worth_make q a dx na nd ne⟩
end
/-! ### as_worth -/
theorem scAsW : FnScope ["value"] ["value"] (defScope pAsW) := ⟨rfl, rfl, rfl, by decide +kernel, rfl, by decide +kernel, by decide +kernel⟩
/-- a Worth as it is; an integer at the scale 0; anything else refused -/
def spAsW (C W : Addr) : Sp := fun vs H Q E => ∃ x : V, vs = [x] ∧ ((∃ (a : Addr) (u : Int) (s : Nat), x = .ref a ∧ WAt W H a u s ∧ Q (.ref a) H) ∨
  (Thing H x ∧ (Own.isInt x = false → Bad C "value" x H E) ∧ ∀ (u : Int) (a : Addr) (H' : Hp), x = .int u → Same H H' → H a = none → WAt W H' a u 0 → Q (.ref a) H'))
theorem low0 {u u' : Int} {s' : Nat} (h : IsLow u 0 u' s') : u' = u ∧ s' = 0 := by
  have a := h.le
  have z : s' = 0 := by omega
  subst z
  have e := h.eq
  simp at e
  exact ⟨e.symm, rfl⟩
theorem ok_asW (A : At K mg "as_worth" pAsW ["value"]) (B : Blt mg) (T : WorthC K mg W) (I : WIs K W) (M : WMk P w K mg base C W) : DefOk P w K mg base (L2.CX P w) "as_worth" 13 ["value"] (spAsW C W) := by
  refine A.ok fun f fd F => F.okX scAsW (fun vs H Q E h => ?_) (fun cdv A outer s H vs Q E hr h => ?_)
  · obtain ⟨x, rfl, _⟩ := h
    rfl
  · obtain ⟨x, rfl, h⟩ := h
    refine ⟨_, pss_one (ps_ret (pe_ifExp (pt_val (pe_callB call_isi (by rfl) B.isi (by decide +kernel) (pa_cons (pv 0) (pa_cons (pe_glob (v := .ref W) (by rfl) T.g rfl) pa_nil)))) (pv 0)
      (pe_worth1 (E := E) M T hr (by decide) (by rfl) (passes_call (takes_of rfl rfl rfl rfl) fun _ _ _ _ z => z) (pv 0)))), ?_⟩
    rcases h with ⟨a, u, s', rfl, wa, q⟩ | ⟨th, q1, q2⟩
    · obtain ⟨dx, ea⟩ := id wa
      refine ⟨_, rfl, _, _, _, _, true, rfl, .own W, .base (.ins ea T.cls I.ha I.hn I.ht I.hm), by unfold PySem.W.kitOne; rw [if_pos (by simp)], _, rfl, iteT ⟨_, rfl, q⟩⟩
    · obtain ⟨ty, hty, tx⟩ := th.tyx (K := K)
      refine ⟨_, rfl, _, _, _, _, false, rfl, .own W, tx, I.no ty hty, _, rfl, iteF ⟨_, rfl, _, rfl, _, _, rfl, th, .int 0, q1, (fun _ z => absurd z (by decide)), fun u s e1 e2 => ?_⟩⟩
      have e3 : (0 : Int) = (s : Int) := V.int.inj e2
      obtain rfl : s = 0 := by omega
      refine ⟨by decide, fun u' s' a H' lw sm na wa => ?_⟩
      obtain ⟨rfl, rfl⟩ := low0 lw
      exact q2 _ a H' e1 sm na wa
end
end K53

/-! k53: units_at, sign, +. -/
namespace K53
open PySem PySem.Spec PyProof.Rows L2 LamX NdefX Own
section
variable {P : Program} {w : World} {K : PySem.W.Frag} {mg : Str → Option Value} {base : Heap} {C C2 W : Addr}
theorem scUat : FnScope ["self", "scale"] ["self", "scale"] (defScope (wI 14)) := ⟨rfl, rfl, rfl, by decide +kernel, rfl, by decide +kernel, by decide +kernel⟩
/-- units_at, at a scale that the worth has -/
def spUat (W : Addr) : Sp := fun vs H Q _ => ∃ (a : Addr) (u : Int) (s n : Nat), vs = [.ref a, .int n] ∧ WAt W H a u s ∧ s ≤ n ∧ n < 500 ∧ u.natAbs < 2 ^ 90000 ∧ Q (.int (u * (10 : Int) ^ (n - s))) H
theorem lk_u (u : Int) (s : Nat) : (wRow u s).lookup ("units" : Str) = some (.int u) := wLk_u u s
theorem lk_s (u : Int) (s : Nat) : (wRow u s).lookup ("scale" : Str) = some (.int s) := wLk_s u s
theorem ok_uat {f : Addr} {fd : FuncData} (F : Fun K "units_at" "Worth.units_at" (wI 14) f fd) (T : WorthC K mg W) (T2 : ErrC P w K mg base "TooFine" "scale" 1 C2 (spErr C2 "scale")) (D1 : DefOk P w K mg base (L2.CX P w) "need_whole_number" 3 ["value"] (spNWh C)) (D2 : DefOk P w K mg base CX0 "ten_to" 9 ["places"] (spTenTo 8)) :
    FnOk P w K mg base (L2.CX P w) 10 f fd ["self", "scale"] (spUat W) := by
  refine F.okX scUat (fun vs H Q E h => ?_) (fun cdv A outer s0 H vs Q E hr h => ?_)
  · obtain ⟨a, u, s, n, rfl, _⟩ := h
    rfl
  · obtain ⟨a, u, s, n, rfl, ⟨dx, ea⟩, hle, hn, hu, q⟩ := h
    refine ⟨_, pss_cons (ps_expr (pe_def (E := E) D1 hr (by decide) (by rfl) (passes_call (takes_of rfl rfl rfl rfl) fun _ _ _ _ z => z) (pa_cons (pv 1) pa_nil)))
      (pss_cons (ps_if (pt_cmpR op_lt (pv 1) (pe_fld (pv 0) (by rfl)) (nomark _)) (pss_one (ps_raise rfl (takes_of rfl rfl rfl rfl) (pmk_err T2 hr (by decide) (by rfl) (pe_fld (pv 0) (by rfl))))) pss_nil)
      (pss_one (ps_ret (pe_op op_mulW (pe_fld (pv 0) (by rfl)) (pe_def (E := E) D2 hr (by decide) (by rfl) pass0 (pa_cons (pe_op op_sub (pv 1) (pe_fld (pv 0) (by rfl))) pa_nil)))))), ?_⟩
    refine ⟨_, rfl, .int n, rfl, .int _, fun _ => ?_, fun z => ?_⟩
    · refine ⟨_, rfl, _, rfl, a, W, dx, _, .int s, rfl, ea, T.cls, T.ns, lk_s _ _, _, _, rfl, rfl, _, rfl, ite2 (fun e => ?_) (fun e => ?_)⟩
      · have z : (n : Int) < (s : Int) := of_decide_eq_true e
        omega
      · refine ⟨_, rfl, a, W, dx, _, .int u, rfl, ea, T.cls, T.nu, lk_u _ _, _, rfl, _, rfl, a, W, dx, _, .int s, rfl, ea, T.cls, T.ns, lk_s _ _, _, _, rfl, rfl, ?_⟩
        have e2 : (n : Int) - (s : Int) = ((n - s : Nat) : Int) := by omega
        dsimp only
        rw [e2]
        exact ⟨n - s, rfl, by omega, _, _, rfl, rfl, wide_mul hu (ten_lt (n - s)) (by decide) (by omega) (by omega), q⟩
    · have z' : isWh (.int (n : Int)) = true := by
        show decide (0 ≤ (n : Int)) = true
        exact decide_eq_true (by omega)
      rw [z'] at z
      cases z
end
end K53

/-! k53: sums and differences of Worths. -/
namespace K53
open PySem PySem.Spec PyProof.Rows L2 LamX NdefX Own
section
variable {P : Program} {w : World} {K : PySem.W.Frag} {mg : Str → Option Value} {base : Heap} {C C2 W : Addr}
/-- a method by its name -/
structure WMeth (P : Program) (w : World) (K : PySem.W.Frag) (mg : Str → Option Value) (base : Heap) (W : Addr) (m : Str) (k : Nat) (ps : List Str) (sp : Sp) : Prop where
  ex : ∃ (f : Addr) (fd : FuncData), Meth K W m f ∧ FnOk P w K mg base (L2.CX P w) k f fd ps sp ∧ Binds K fd ps []
/-- u units at the scale s, told at the scale n -/
def at_ (u : Int) (s n : Nat) : Int := u * (10 : Int) ^ (n - s)
/-- what a new worth of v units at n is told as -/
def Gives (W : Addr) (H : Hp) (v : Int) (n : Nat) (Q : VK) : Prop := ∀ (u' : Int) (s' : Nat) (p : Addr) (H' : Hp), IsLow v n u' s' → Same H H' → H p = none → WAt W H' p u' s' → Q (.ref p) H'
def Small (u : Int) (s : Nat) : Prop := s < 250 ∧ u.natAbs < 2 ^ 40000
/-- self op other, other a worth, an integer or refused -/
def spBin (C W : Addr) (f : Int → Int → Int) : Sp := fun vs H Q E => ∃ (a : Addr) (u : Int) (s : Nat) (y : V), vs = [.ref a, y] ∧ WAt W H a u s ∧ Small u s ∧
  ((∃ (b : Addr) (u2 : Int) (s2 : Nat), y = .ref b ∧ WAt W H b u2 s2 ∧ Small u2 s2 ∧ Gives W H (f (at_ u s (max s s2)) (at_ u2 s2 (max s s2))) (max s s2) Q) ∨
    (Thing H y ∧ (Own.isInt y = false → Bad C "value" y H E) ∧ ∀ n : Int, y = .int n → Small n 0 ∧ Gives W H (f (at_ u s s) (at_ n 0 s)) s Q))
theorem Gives.same {H H' : Hp} {v : Int} {n : Nat} {Q : VK} (h : Gives W H v n Q) (s : Same H H') : Gives W H' v n Q := fun u' s' p H2 lw s2 np wp => h u' s' p H2 lw (s.trans s2) (s.free np) wp
theorem lk_m {m : Str} (u : Int) (s : Nat) (h1 : (m == "units") = false) (h2 : (m == "scale") = false) (h3 : (m == "floor") = false := by decide +kernel) (h4 : (m == "more") = false := by decide +kernel) : (wRow u s).lookup m = none := wLk_no u s h1 h2 h3 h4
theorem at_lt {u : Int} {s n : Nat} (h : u.natAbs < 2 ^ 40000) (hn : n < 500) : (at_ u s n).natAbs < 2 ^ 50000 := up_two (wide_lt h (ten_lt (n - s))) (by omega)
theorem scAdd : FnScope ["self", "other", "scale"] ["self", "other"] (defScope (wI 4)) := ⟨rfl, rfl, rfl, by decide +kernel, rfl, by decide +kernel, by decide +kernel⟩
theorem max_if (s s2 : Nat) : (if ((s2 : Nat) : Int) > ((s : Nat) : Int) then ((s2 : Nat) : Int) else ((s : Nat) : Int)) = ((max s s2 : Nat) : Int) := by
  by_cases h : s < s2
  · rw [if_pos (by omega)]
    omega
  · rw [if_neg (by omega)]
    omega
theorem ok_add {g : Addr} {fd : FuncData} (F : Fun K "__add__" "Worth.__add__" (wI 4) g fd) (B : Blt mg) (T : WorthC K mg W) (M : WMk P w K mg base C W) (D1 : DefOk P w K mg base (L2.CX P w) "as_worth" 13 ["value"] (spAsW C W)) (D2 : WMeth P w K mg base W "units_at" 10 ["self", "scale"] (spUat W)) :
    FnOk P w K mg base (L2.CX P w) 14 g fd ["self", "other"] (spBin C W (· + ·)) := by
  refine F.okX scAdd (fun vs H Q E h => ?_) (fun cdv A outer s0 H vs Q E hr h => ?_)
  · obtain ⟨a, u, s, y, rfl, _⟩ := h
    rfl
  · obtain ⟨a, u, s, y, rfl, wa, sm, h⟩ := h
    obtain ⟨fU, fdU, mU, FU, bU⟩ := D2.ex
    have nd := scAdd.nd
    refine ⟨_, C8.pss_cut (ps_set (i := 1) nd rfl (.inl rfl) (pe_def (E := E) D1 hr (by decide) (by rfl) (passes_call (takes_of rfl rfl rfl rfl) fun _ _ _ _ z => z) (pa_cons (pv 1) pa_nil)))
      (pss_cons (ps_set (i := 2) nd rfl (.inl rfl) (pe_callB (call_max2 rfl) (by rfl) B.max (by decide +kernel) (pa_cons (pe_fld (pv 0) (by rfl)) (pa_cons (pe_fld (pv 1) (by rfl)) pa_nil))))
      (pss_one (ps_ret (pe_worth (E := E) M T hr (by decide) (by rfl) (passes_call (takes_of rfl rfl rfl rfl) fun _ _ _ _ z => z)
        (pa_cons (pe_op op_add (pe_meth (E := E) (pv 0) T.cls mU FU (hr.mono (by decide)) bU .nil (passes_call (takes_of rfl rfl rfl rfl) fun _ _ _ _ z => z) (pa_cons (pv 2) pa_nil))
          (pe_meth (E := E) (pv 1) T.cls mU FU (hr.mono (by decide)) bU .nil (passes_call (takes_of rfl rfl rfl rfl) fun _ _ _ _ z => z) (pa_cons (pv 2) pa_nil))) (pa_cons (pv 2) pa_nil)))))), ?_⟩
    refine ⟨fun σ H1 => ∃ (b : Addr) (u2 : Int) (s2 : Nat), σ = [some (.ref a), some (.ref b), none] ∧ WAt W H1 a u s ∧ WAt W H1 b u2 s2 ∧ Small u2 s2 ∧ Gives W H1 (at_ u s (max s s2) + at_ u2 s2 (max s s2)) (max s s2) Q, ?_, ?_⟩
    · refine ⟨_, rfl, y, rfl, ?_⟩
      rcases h with ⟨b, u2, s2, rfl, wb, sm2, gv⟩ | ⟨th, bad, hn⟩
      · exact .inl ⟨b, u2, s2, rfl, wb, b, u2, s2, rfl, wa, wb, sm2, gv⟩
      · refine .inr ⟨th, bad, fun n p H' e sm' np wp => ⟨p, n, 0, rfl, wa.same sm', wp, (hn n e).1, ?_⟩⟩
        rw [show max s 0 = s by omega]
        exact (hn n e).2.same sm'
    · rintro σ H1 ⟨b, u2, s2, rfl, ⟨dx, ea⟩, ⟨dy, eb⟩, sm2, gv⟩
      refine ⟨_, rfl, a, W, dx, _, .int s, rfl, ea, T.cls, T.ns, lk_s _ _, _, rfl, b, W, dy, _, .int s2, rfl, eb, T.cls, T.ns, lk_s _ _, _, _, rfl, ?_⟩
      dsimp only [gName, List.set]
      rw [max_if]
      have m1 : max s s2 < 500 := by
        have := sm.1
        have := sm2.1
        omega
      refine ⟨_, rfl, a, dx, _, rfl, ea, lk_m _ _ (by decide +kernel) (by decide +kernel), _, rfl, a, u, s, max s s2, rfl, ⟨dx, ea⟩, by omega, m1, up_two sm.2 (by decide), ?_⟩
      refine ⟨_, rfl, b, dy, _, rfl, eb, lk_m _ _ (by decide +kernel) (by decide +kernel), _, rfl, b, u2, s2, max s s2, rfl, ⟨dy, eb⟩, by omega, m1, up_two sm2.2 (by decide), ?_⟩
      refine ⟨_, _, rfl, rfl, _, rfl, .int _, .int _, rfl, .int _, .int _, (fun z => by cases z), (fun _ z => ?_), fun U S e1 e2 => ?_⟩
      · have z' : isWh (.int ((max s s2 : Nat) : Int)) = true := by
          show decide (0 ≤ ((max s s2 : Nat) : Int)) = true
          exact decide_eq_true (by omega)
        rw [z'] at z
        cases z
      · have e3 : ((max s s2 : Nat) : Int) = (S : Int) := V.int.inj e2
        obtain rfl : S = max s s2 := by omega
        have e4 := V.int.inj e1
        rw [← e4]
        exact ⟨m1, fun u' s' p H' lw sm' np wp => gv u' s' p H' lw sm' np wp⟩
end
end K53

/-! k53: the other operators of Worths. -/
namespace K53
open PySem PySem.Spec PyProof.Rows L2 LamX NdefX Own
section
variable {P : Program} {w : World} {K : PySem.W.Frag} {mg : Str → Option Value} {base : Heap} {C C2 W : Addr}
theorem scSub : FnScope ["self", "other", "scale"] ["self", "other"] (defScope (wI 6)) := ⟨rfl, rfl, rfl, by decide +kernel, rfl, by decide +kernel, by decide +kernel⟩
theorem ok_sub {g : Addr} {fd : FuncData} (F : Fun K "__sub__" "Worth.__sub__" (wI 6) g fd) (B : Blt mg) (T : WorthC K mg W) (M : WMk P w K mg base C W) (D1 : DefOk P w K mg base (L2.CX P w) "as_worth" 13 ["value"] (spAsW C W)) (D2 : WMeth P w K mg base W "units_at" 10 ["self", "scale"] (spUat W)) :
    FnOk P w K mg base (L2.CX P w) 14 g fd ["self", "other"] (spBin C W (· - ·)) := by
  refine F.okX scSub (fun vs H Q E h => ?_) (fun cdv A outer s0 H vs Q E hr h => ?_)
  · obtain ⟨a, u, s, y, rfl, _⟩ := h
    rfl
  · obtain ⟨a, u, s, y, rfl, wa, sm, h⟩ := h
    obtain ⟨fU, fdU, mU, FU, bU⟩ := D2.ex
    have nd := scSub.nd
    refine ⟨_, C8.pss_cut (ps_set (i := 1) nd rfl (.inl rfl) (pe_def (E := E) D1 hr (by decide) (by rfl) (passes_call (takes_of rfl rfl rfl rfl) fun _ _ _ _ z => z) (pa_cons (pv 1) pa_nil)))
      (pss_cons (ps_set (i := 2) nd rfl (.inl rfl) (pe_callB (call_max2 rfl) (by rfl) B.max (by decide +kernel) (pa_cons (pe_fld (pv 0) (by rfl)) (pa_cons (pe_fld (pv 1) (by rfl)) pa_nil))))
      (pss_one (ps_ret (pe_worth (E := E) M T hr (by decide) (by rfl) (passes_call (takes_of rfl rfl rfl rfl) fun _ _ _ _ z => z)
        (pa_cons (pe_op op_sub (pe_meth (E := E) (pv 0) T.cls mU FU (hr.mono (by decide)) bU .nil (passes_call (takes_of rfl rfl rfl rfl) fun _ _ _ _ z => z) (pa_cons (pv 2) pa_nil))
          (pe_meth (E := E) (pv 1) T.cls mU FU (hr.mono (by decide)) bU .nil (passes_call (takes_of rfl rfl rfl rfl) fun _ _ _ _ z => z) (pa_cons (pv 2) pa_nil))) (pa_cons (pv 2) pa_nil)))))), ?_⟩
    refine ⟨fun σ H1 => ∃ (b : Addr) (u2 : Int) (s2 : Nat), σ = [some (.ref a), some (.ref b), none] ∧ WAt W H1 a u s ∧ WAt W H1 b u2 s2 ∧ Small u2 s2 ∧ Gives W H1 (at_ u s (max s s2) - at_ u2 s2 (max s s2)) (max s s2) Q, ?_, ?_⟩
    · refine ⟨_, rfl, y, rfl, ?_⟩
      rcases h with ⟨b, u2, s2, rfl, wb, sm2, gv⟩ | ⟨th, bad, hn⟩
      · exact .inl ⟨b, u2, s2, rfl, wb, b, u2, s2, rfl, wa, wb, sm2, gv⟩
      · refine .inr ⟨th, bad, fun n p H' e sm' np wp => ⟨p, n, 0, rfl, wa.same sm', wp, (hn n e).1, ?_⟩⟩
        rw [show max s 0 = s by omega]
        exact (hn n e).2.same sm'
    · rintro σ H1 ⟨b, u2, s2, rfl, ⟨dx, ea⟩, ⟨dy, eb⟩, sm2, gv⟩
      refine ⟨_, rfl, a, W, dx, _, .int s, rfl, ea, T.cls, T.ns, lk_s _ _, _, rfl, b, W, dy, _, .int s2, rfl, eb, T.cls, T.ns, lk_s _ _, _, _, rfl, ?_⟩
      dsimp only [gName, List.set]
      rw [max_if]
      have m1 : max s s2 < 500 := by
        have := sm.1
        have := sm2.1
        omega
      refine ⟨_, rfl, a, dx, _, rfl, ea, lk_m _ _ (by decide +kernel) (by decide +kernel), _, rfl, a, u, s, max s s2, rfl, ⟨dx, ea⟩, by omega, m1, up_two sm.2 (by decide), ?_⟩
      refine ⟨_, rfl, b, dy, _, rfl, eb, lk_m _ _ (by decide +kernel) (by decide +kernel), _, rfl, b, u2, s2, max s s2, rfl, ⟨dy, eb⟩, by omega, m1, up_two sm2.2 (by decide), ?_⟩
      refine ⟨_, _, rfl, rfl, _, rfl, .int _, .int _, rfl, .int _, .int _, (fun z => by cases z), (fun _ z => ?_), fun U S e1 e2 => ?_⟩
      · have z' : isWh (.int ((max s s2 : Nat) : Int)) = true := by
          show decide (0 ≤ ((max s s2 : Nat) : Int)) = true
          exact decide_eq_true (by omega)
        rw [z'] at z
        cases z
      · have e3 : ((max s s2 : Nat) : Int) = (S : Int) := V.int.inj e2
        obtain rfl : S = max s s2 := by omega
        have e4 := V.int.inj e1
        rw [← e4]
        exact ⟨m1, fun u' s' p H' lw sm' np wp => gv u' s' p H' lw sm' np wp⟩
/-- other op self, other no worth -/
def spRef (C W : Addr) (f : Int → Int → Int) : Sp := fun vs H Q E => ∃ (a : Addr) (u : Int) (s : Nat) (y : V), vs = [.ref a, y] ∧ WAt W H a u s ∧ Small u s ∧ Thing H y ∧ (Own.isInt y = false → Bad C "value" y H E) ∧ ∀ n : Int, y = .int n → Small n 0 ∧ Gives W H (f (at_ n 0 s) (at_ u s s)) s Q
theorem scRadd : FnScope ["self", "other"] ["self", "other"] (defScope (wI 5)) := ⟨rfl, rfl, rfl, by decide +kernel, rfl, by decide +kernel, by decide +kernel⟩
/-- the class's own operator -/
structure WOp (P : Program) (w : World) (K : PySem.W.Frag) (mg : Str → Option Value) (base : Heap) (W : Addr) (op : Operator) (k : Nat) (sp : Sp) : Prop where
  ex : ∃ (f : Addr) (fd : FuncData), PySem.W.selfFirst K W = true ∧ PySem.W.findIn K (.ref W) (PySem.dunder op.info.2) = some (some (.ref f)) ∧ PySem.W.isFn K (.ref f) = true ∧ FnOk P w K mg base (L2.CX P w) k f fd ["self", "other"] sp ∧ Binds K fd ["self", "other"] []
theorem ok_radd {g : Addr} {fd : FuncData} (F : Fun K "__radd__" "Worth.__radd__" (wI 5) g fd) (D1 : DefOk P w K mg base (L2.CX P w) "as_worth" 13 ["value"] (spAsW C W)) (D2 : WOp P w K mg base W .Add 14 (spBin C W (· + ·))) :
    FnOk P w K mg base (L2.CX P w) 15 g fd ["self", "other"] (spRef C W (· + ·)) := by
  refine F.okX scRadd (fun vs H Q E h => ?_) (fun cdv A outer s0 H vs Q E hr h => ?_)
  · obtain ⟨a, u, s, y, rfl, _⟩ := h
    rfl
  · obtain ⟨a, u, s, y, rfl, wa, sm, th, bad, hn⟩ := h
    obtain ⟨fA, fdA, c1, c2, c3, FA, bA⟩ := D2.ex
    refine ⟨_, pss_one (ps_ret (pe_op (op_own (op := .Add) (E := E) FA hr c1 c2 c3 bA (passes_call (takes_of rfl rfl rfl rfl) fun _ _ _ _ z => z)) (pe_def (E := E) D1 hr (by decide) (by rfl) (passes_call (takes_of rfl rfl rfl rfl) fun _ _ _ _ z => z) (pa_cons (pv 1) pa_nil)) (pv 0))), ?_⟩
    refine ⟨_, rfl, y, rfl, .inr ⟨th, bad, fun n p H' e sm' np wp => ?_⟩⟩
    obtain ⟨sn, gv⟩ := hn n e
    obtain ⟨dx, ea⟩ := wa.same sm'
    obtain ⟨dp, ep⟩ := id wp
    refine ⟨_, rfl, p, a, dp, dx, _, _, rfl, rfl, ep, ea, p, n, 0, .ref a, rfl, wp, sn, .inl ⟨a, u, s, rfl, ⟨dx, ea⟩, sm, ?_⟩⟩
    rw [show max 0 s = s by omega]
    exact gv.same sm'
theorem scRsub : FnScope ["self", "other"] ["self", "other"] (defScope (wI 7)) := ⟨rfl, rfl, rfl, by decide +kernel, rfl, by decide +kernel, by decide +kernel⟩
theorem ok_rsub {g : Addr} {fd : FuncData} (F : Fun K "__rsub__" "Worth.__rsub__" (wI 7) g fd) (D1 : DefOk P w K mg base (L2.CX P w) "as_worth" 13 ["value"] (spAsW C W)) (D2 : WOp P w K mg base W .Sub 14 (spBin C W (· - ·))) :
    FnOk P w K mg base (L2.CX P w) 15 g fd ["self", "other"] (spRef C W (· - ·)) := by
  refine F.okX scRsub (fun vs H Q E h => ?_) (fun cdv A outer s0 H vs Q E hr h => ?_)
  · obtain ⟨a, u, s, y, rfl, _⟩ := h
    rfl
  · obtain ⟨a, u, s, y, rfl, wa, sm, th, bad, hn⟩ := h
    obtain ⟨fA, fdA, c1, c2, c3, FA, bA⟩ := D2.ex
    refine ⟨_, pss_one (ps_ret (pe_op (op_own (op := .Sub) (E := E) FA hr c1 c2 c3 bA (passes_call (takes_of rfl rfl rfl rfl) fun _ _ _ _ z => z)) (pe_def (E := E) D1 hr (by decide) (by rfl) (passes_call (takes_of rfl rfl rfl rfl) fun _ _ _ _ z => z) (pa_cons (pv 1) pa_nil)) (pv 0))), ?_⟩
    refine ⟨_, rfl, y, rfl, .inr ⟨th, bad, fun n p H' e sm' np wp => ?_⟩⟩
    obtain ⟨sn, gv⟩ := hn n e
    obtain ⟨dx, ea⟩ := wa.same sm'
    obtain ⟨dp, ep⟩ := id wp
    refine ⟨_, rfl, p, a, dp, dx, _, _, rfl, rfl, ep, ea, p, n, 0, .ref a, rfl, wp, sn, .inl ⟨a, u, s, rfl, ⟨dx, ea⟩, sm, ?_⟩⟩
    rw [show max 0 s = s by omega]
    exact gv.same sm'
end
end K53

/-! k53: products, negatives, sizes, signs, equality of Worths. -/
namespace K53
open PySem PySem.Spec PyProof.Rows L2 LamX NdefX Own
section
variable {P : Program} {w : World} {K : PySem.W.Frag} {mg : Str → Option Value} {base : Heap} {C C2 W : Addr}
theorem isWh_cast (n : Nat) : isWh (.int (n : Int)) = true := by
  show decide (0 ≤ (n : Int)) = true
  exact decide_eq_true (by omega)
/-- a new worth of v units at n -/
theorem worth_of {H : Hp} {v : Int} {n : Nat} {Q : VK} {E : XK} (hn : n < 500) (gv : Gives W H v n Q) : spWorth C W [.int v, .int n] H Q E := by
  refine ⟨.int v, .int n, rfl, .int _, .int _, (fun z => by cases z), (fun _ z => ?_), fun U S e1 e2 => ?_⟩
  · rw [isWh_cast] at z
    cases z
  · have e3 : (n : Int) = (S : Int) := V.int.inj e2
    obtain rfl : S = n := by omega
    rw [← V.int.inj e1]
    exact ⟨hn, gv⟩
theorem scMul : FnScope ["self", "other"] ["self", "other"] (defScope (wI 8)) := ⟨rfl, rfl, rfl, by decide +kernel, rfl, by decide +kernel, by decide +kernel⟩
def spMulW (C W : Addr) : Sp := fun vs H Q E => ∃ (a : Addr) (u : Int) (s : Nat) (y : V), vs = [.ref a, y] ∧ WAt W H a u s ∧ Small u s ∧
  ((∃ (b : Addr) (u2 : Int) (s2 : Nat), y = .ref b ∧ WAt W H b u2 s2 ∧ Small u2 s2 ∧ Gives W H (u * u2) (s + s2) Q) ∨ (Thing H y ∧ (Own.isInt y = false → Bad C "value" y H E) ∧ ∀ n : Int, y = .int n → Small n 0 ∧ Gives W H (u * n) s Q))
theorem ok_mul {g : Addr} {fd : FuncData} (F : Fun K "__mul__" "Worth.__mul__" (wI 8) g fd) (T : WorthC K mg W) (M : WMk P w K mg base C W) (D1 : DefOk P w K mg base (L2.CX P w) "as_worth" 13 ["value"] (spAsW C W)) :
    FnOk P w K mg base (L2.CX P w) 14 g fd ["self", "other"] (spMulW C W) := by
  refine F.okX scMul (fun vs H Q E h => ?_) (fun cdv A outer s0 H vs Q E hr h => ?_)
  · obtain ⟨a, u, s, y, rfl, _⟩ := h
    rfl
  · obtain ⟨a, u, s, y, rfl, wa, sm, h⟩ := h
    have nd := scMul.nd
    refine ⟨_, C8.pss_cut (ps_set (i := 1) nd rfl (.inl rfl) (pe_def (E := E) D1 hr (by decide) (by rfl) (passes_call (takes_of rfl rfl rfl rfl) fun _ _ _ _ z => z) (pa_cons (pv 1) pa_nil)))
      (pss_one (ps_ret (pe_worth (E := E) M T hr (by decide) (by rfl) (passes_call (takes_of rfl rfl rfl rfl) fun _ _ _ _ z => z)
        (pa_cons (pe_op op_mulW (pe_fld (pv 0) (by rfl)) (pe_fld (pv 1) (by rfl))) (pa_cons (pe_op op_add (pe_fld (pv 0) (by rfl)) (pe_fld (pv 1) (by rfl))) pa_nil))))), ?_⟩
    refine ⟨fun σ H1 => ∃ (b : Addr) (u2 : Int) (s2 : Nat), σ = [some (.ref a), some (.ref b)] ∧ WAt W H1 a u s ∧ WAt W H1 b u2 s2 ∧ Small u2 s2 ∧ Gives W H1 (u * u2) (s + s2) Q, ?_, ?_⟩
    · refine ⟨_, rfl, y, rfl, ?_⟩
      rcases h with ⟨b, u2, s2, rfl, wb, sm2, gv⟩ | ⟨th, bad, hn⟩
      · exact .inl ⟨b, u2, s2, rfl, wb, b, u2, s2, rfl, wa, wb, sm2, gv⟩
      · exact .inr ⟨th, bad, fun n p H' e sm' np wp => ⟨p, n, 0, rfl, wa.same sm', wp, (hn n e).1, (hn n e).2.same sm'⟩⟩
    · rintro σ H1 ⟨b, u2, s2, rfl, ⟨dx, ea⟩, ⟨dy, eb⟩, sm2, gv⟩
      refine ⟨_, rfl, a, W, dx, _, .int u, rfl, ea, T.cls, T.nu, lk_u _ _, _, rfl, b, W, dy, _, .int u2, rfl, eb, T.cls, T.nu, lk_u _ _, _, _, rfl, rfl, wide_mul sm.2 sm2.2 (by decide) (by decide) (by decide), ?_⟩
      refine ⟨_, rfl, a, W, dx, _, .int s, rfl, ea, T.cls, T.ns, lk_s _ _, _, rfl, b, W, dy, _, .int s2, rfl, eb, T.cls, T.ns, lk_s _ _, _, _, rfl, rfl, ?_⟩
      have e2 : (s : Int) + (s2 : Int) = ((s + s2 : Nat) : Int) := by omega
      dsimp only
      rw [e2]
      have l1 := sm.1
      have l2 := sm2.1
      exact worth_of (by omega) gv
theorem scRmul : FnScope ["self", "other"] ["self", "other"] (defScope (wI 9)) := ⟨rfl, rfl, rfl, by decide +kernel, rfl, by decide +kernel, by decide +kernel⟩
def spRmul (C W : Addr) : Sp := fun vs H Q E => ∃ (a : Addr) (u : Int) (s : Nat) (y : V), vs = [.ref a, y] ∧ WAt W H a u s ∧ Small u s ∧ Thing H y ∧ (Own.isInt y = false → Bad C "value" y H E) ∧ ∀ n : Int, y = .int n → Small n 0 ∧ Gives W H (n * u) s Q
theorem ok_rmul {g : Addr} {fd : FuncData} (F : Fun K "__rmul__" "Worth.__rmul__" (wI 9) g fd) (D1 : DefOk P w K mg base (L2.CX P w) "as_worth" 13 ["value"] (spAsW C W)) (D2 : WOp P w K mg base W .Mult 14 (spMulW C W)) :
    FnOk P w K mg base (L2.CX P w) 15 g fd ["self", "other"] (spRmul C W) := by
  refine F.okX scRmul (fun vs H Q E h => ?_) (fun cdv A outer s0 H vs Q E hr h => ?_)
  · obtain ⟨a, u, s, y, rfl, _⟩ := h
    rfl
  · obtain ⟨a, u, s, y, rfl, wa, sm, th, bad, hn⟩ := h
    obtain ⟨fA, fdA, c1, c2, c3, FA, bA⟩ := D2.ex
    refine ⟨_, pss_one (ps_ret (pe_op (op_own (op := .Mult) (E := E) FA hr c1 c2 c3 bA (passes_call (takes_of rfl rfl rfl rfl) fun _ _ _ _ z => z)) (pe_def (E := E) D1 hr (by decide) (by rfl) (passes_call (takes_of rfl rfl rfl rfl) fun _ _ _ _ z => z) (pa_cons (pv 1) pa_nil)) (pv 0))), ?_⟩
    refine ⟨_, rfl, y, rfl, .inr ⟨th, bad, fun n p H' e sm' np wp => ?_⟩⟩
    obtain ⟨sn, gv⟩ := hn n e
    obtain ⟨dx, ea⟩ := wa.same sm'
    obtain ⟨dp, ep⟩ := id wp
    refine ⟨_, rfl, p, a, dp, dx, _, _, rfl, rfl, ep, ea, p, n, 0, .ref a, rfl, wp, sn, .inl ⟨a, u, s, rfl, ⟨dx, ea⟩, sm, ?_⟩⟩
    rw [show 0 + s = s by omega]
    exact gv.same sm'
theorem scNeg : FnScope ["self"] ["self"] (defScope (wI 10)) := ⟨rfl, rfl, rfl, by decide +kernel, rfl, by decide +kernel, by decide +kernel⟩
def spUn (W : Addr) (f : Int → Int) : Sp := fun vs H Q _ => ∃ (a : Addr) (u : Int) (s : Nat), vs = [.ref a] ∧ WAt W H a u s ∧ Small u s ∧ Gives W H (f u) s Q
theorem ok_neg {g : Addr} {fd : FuncData} (F : Fun K "__neg__" "Worth.__neg__" (wI 10) g fd) (T : WorthC K mg W) (M : WMk P w K mg base C W) : FnOk P w K mg base (L2.CX P w) 13 g fd ["self"] (spUn W fun u => -u) := by
  refine F.okX scNeg (fun vs H Q E h => ?_) (fun cdv A outer s0 H vs Q E hr h => ?_)
  · obtain ⟨a, u, s, rfl, _⟩ := h
    rfl
  · obtain ⟨a, u, s, rfl, ⟨dx, ea⟩, sm, gv⟩ := h
    refine ⟨_, pss_one (ps_ret (pe_worth (E := E) M T hr (by decide) (by rfl) (passes_call (takes_of rfl rfl rfl rfl) fun _ _ _ _ z => z) (pa_cons (pe_un un_neg (pe_fld (pv 0) (by rfl))) (pa_cons (pe_fld (pv 0) (by rfl)) pa_nil)))), ?_⟩
    refine ⟨_, rfl, a, W, dx, _, .int u, rfl, ea, T.cls, T.nu, lk_u _ _, u, rfl, _, rfl, a, W, dx, _, .int s, rfl, ea, T.cls, T.ns, lk_s _ _, ?_⟩
    have l1 := sm.1
    exact worth_of (by omega) gv
theorem scAbs : FnScope ["self"] ["self"] (defScope (wI 11)) := ⟨rfl, rfl, rfl, by decide +kernel, rfl, by decide +kernel, by decide +kernel⟩
theorem ok_abs {g : Addr} {fd : FuncData} (F : Fun K "__abs__" "Worth.__abs__" (wI 11) g fd) (B : Blt mg) (T : WorthC K mg W) (M : WMk P w K mg base C W) : FnOk P w K mg base (L2.CX P w) 13 g fd ["self"] (spUn W fun u => if u < 0 then -u else u) := by
  refine F.okX scAbs (fun vs H Q E h => ?_) (fun cdv A outer s0 H vs Q E hr h => ?_)
  · obtain ⟨a, u, s, rfl, _⟩ := h
    rfl
  · obtain ⟨a, u, s, rfl, ⟨dx, ea⟩, sm, gv⟩ := h
    refine ⟨_, pss_one (ps_ret (pe_worth (E := E) M T hr (by decide) (by rfl) (passes_call (takes_of rfl rfl rfl rfl) fun _ _ _ _ z => z) (pa_cons (pe_callB call_abs (by rfl) B.abs (by decide +kernel) (pa_cons (pe_fld (pv 0) (by rfl)) pa_nil)) (pa_cons (pe_fld (pv 0) (by rfl)) pa_nil)))), ?_⟩
    refine ⟨_, rfl, a, W, dx, _, .int u, rfl, ea, T.cls, T.nu, lk_u _ _, u, rfl, _, rfl, a, W, dx, _, .int s, rfl, ea, T.cls, T.ns, lk_s _ _, ?_⟩
    have l1 := sm.1
    exact worth_of (by omega) gv
theorem scSgn : FnScope ["self"] ["self"] (defScope (wI 13)) := ⟨rfl, rfl, rfl, by decide +kernel, rfl, by decide +kernel, by decide +kernel⟩
def sgn (u : Int) : Int := if u = 0 then 0 else if 0 < u then 1 else -1
def spSgn (W : Addr) : Sp := fun vs H Q _ => ∃ (a : Addr) (u : Int) (s : Nat), vs = [.ref a] ∧ WAt W H a u s ∧ Q (.int (sgn u)) H
theorem ok_sgn {g : Addr} {fd : FuncData} (F : Fun K "sign" "Worth.sign" (wI 13) g fd) (T : WorthC K mg W) : FnOk P w K mg base (L2.CX P w) 1 g fd ["self"] (spSgn W) := by
  refine F.okX scSgn (fun vs H Q E h => ?_) (fun cdv A outer s0 H vs Q E hr h => ?_)
  · obtain ⟨a, u, s, rfl, _⟩ := h
    rfl
  · obtain ⟨a, u, s, rfl, ⟨dx, ea⟩, q⟩ := h
    refine ⟨_, pss_cons (ps_if (pt_cmpR op_eq (pe_fld (pv 0) (by rfl)) pe_int (nomark _)) (pss_one (ps_ret pe_int)) pss_nil)
      (pss_one (ps_ret (pe_ifExp (pt_cmpR op_gt (pe_fld (pv 0) (by rfl)) pe_int (nomark _)) pe_int (pe_un un_neg pe_int)))), ?_⟩
    unfold sgn at q
    refine ⟨_, rfl, a, W, dx, _, .int u, rfl, ea, T.cls, T.nu, lk_u _ _, rfl, _, rfl, ite2 (fun e => ?_) (fun e => ?_)⟩
    · have h0 : u = 0 := by simpa using e
      rw [if_pos h0] at q
      exact q
    · have h0 : u ≠ 0 := by simpa using e
      rw [if_neg h0] at q
      refine ⟨_, rfl, a, W, dx, _, .int u, rfl, ea, T.cls, T.nu, lk_u _ _, _, _, rfl, rfl, _, rfl, ite2 (fun e => ?_) (fun e => ?_)⟩
      · rw [if_pos (of_decide_eq_true e)] at q
        exact q
      · rw [if_neg (fun z => e (decide_eq_true z))] at q
        exact ⟨_, rfl, q⟩
end
end K53

/-! k53: == of Worths, compare. -/
namespace K53
open PySem PySem.Spec PyProof.Rows L2 LamX NdefX Own
abbrev pNeedW : Stmt := topS 21
section
variable {P : Program} {w : World} {K : PySem.W.Frag} {mg : Str → Option Value} {base : Heap} {C C2 W : Addr}
theorem scEq : FnScope ["self", "other"] ["self", "other"] (defScope (wI 1)) := ⟨rfl, rfl, rfl, by decide +kernel, rfl, by decide +kernel, by decide +kernel⟩
def spEqW (W : Addr) : Sp := fun vs H Q _ => ∃ (a : Addr) (u : Int) (s : Nat) (y : V), vs = [.ref a, y] ∧ WAt W H a u s ∧ ((∃ (b : Addr) (u2 : Int) (s2 : Nat), y = .ref b ∧ WAt W H b u2 s2 ∧ ∀ H', Same H H' → Q (.bl (decide (u = u2) && decide (s = s2))) H') ∨ (Thing H y ∧ Q (.bl false) H))
theorem ok_eq {g : Addr} {fd : FuncData} (F : Fun K "__eq__" "Worth.__eq__" (wI 1) g fd) (B : Blt mg) (T : WorthC K mg W) (I : WIs K W) : FnOk P w K mg base (L2.CX P w) 1 g fd ["self", "other"] (spEqW W) := by
  refine F.okX scEq (fun vs H Q E h => ?_) (fun cdv A outer s0 H vs Q E hr h => ?_)
  · obtain ⟨a, u, s, y, rfl, _⟩ := h
    rfl
  · obtain ⟨a, u, s, y, rfl, ⟨dx, ea⟩, h⟩ := h
    refine ⟨_, pss_cons (ps_if (pt_not (pt_val (pe_callB call_isi (by rfl) B.isi (by decide +kernel) (pa_cons (pv 1) (pa_cons (pe_glob (v := .ref W) (by rfl) T.g rfl) pa_nil))))) (pss_one (ps_ret pe_bl)) pss_nil)
      (pss_one (ps_ret (pe_cmpR (op_eqD hr.units) (pe_tup (pa_cons (pe_fld (pv 0) (by rfl)) (pa_cons (pe_fld (pv 0) (by rfl)) pa_nil))) (pe_tup (pa_cons (pe_fld (pv 1) (by rfl)) (pa_cons (pe_fld (pv 1) (by rfl)) pa_nil))) (nomark _)))), ?_⟩
    rcases h with ⟨b, u2, s2, rfl, ⟨dy, eb⟩, q⟩ | ⟨th, q⟩
    · refine ⟨_, rfl, _, _, _, _, true, rfl, .own W, .base (.ins eb T.cls I.ha I.hn I.ht I.hm), by unfold PySem.W.kitOne; rw [if_pos (by simp)], _, rfl, iteF ?_⟩
      refine ⟨_, rfl, a, W, dx, _, .int (wFl u s), rfl, ea, T.cls, T.nf, wLk_f u s, _, rfl, a, W, dx, _, .str (wMo u s), rfl, ea, T.cls, T.nm, wLk_m u s, by show 2 ≤ sizeLine; decide, fun p np => ?_⟩
      have s1 := same_new (o := HO.tup [.int (wFl u s), .str (wMo u s)]) np
      have e1 : upd H p (.tup [.int (wFl u s), .str (wMo u s)]) p = some (.tup [.int (wFl u s), .str (wMo u s)]) := upd_same
      generalize upd H p (.tup [.int (wFl u s), .str (wMo u s)]) = H1 at s1 e1 ⊢
      have eb1 := s1 _ _ eb
      refine ⟨_, rfl, b, W, dy, _, .int (wFl u2 s2), rfl, eb1, T.cls, T.nf, wLk_f u2 s2, _, rfl, b, W, dy, _, .str (wMo u2 s2), rfl, eb1, T.cls, T.nm, wLk_m u2 s2, by show 2 ≤ sizeLine; decide, fun p2 np2 => ?_⟩
      have s2' := same_new (o := HO.tup [.int (wFl u2 s2), .str (wMo u2 s2)]) np2
      refine ⟨_, _, w_dp (s2' _ _ e1), w_dp upd_same, w_sh u s, w_sh u2 s2, ?_⟩
      rw [w_eqv]
      exact q _ (s1.trans s2')
    · obtain ⟨ty, hty, tx⟩ := th.tyx (K := K)
      exact ⟨_, rfl, _, _, _, _, false, rfl, .own W, tx, I.no ty hty, _, rfl, iteT q⟩
theorem scNeedW : FnScope ["value"] ["value"] (defScope pNeedW) := ⟨rfl, rfl, rfl, by decide +kernel, rfl, by decide +kernel, by decide +kernel⟩
def spNeedW (C W : Addr) : Sp := fun vs H Q E => ∃ x : V, vs = [x] ∧ ((∃ (a : Addr) (u : Int) (s : Nat), x = .ref a ∧ WAt W H a u s ∧ Q .non H) ∨ (Thing H x ∧ Bad C "value" x H E))
theorem ok_needW (A : At K mg "need_worth" pNeedW ["value"]) (B : Blt mg) (T : WorthC K mg W) (I : WIs K W) (TE : ErrC P w K mg base "BadValue" "value" 1 C (spErr C "value")) : DefOk P w K mg base (L2.CX P w) "need_worth" 3 ["value"] (spNeedW C W) := by
  refine A.ok fun f fd F => F.okX scNeedW (fun vs H Q E h => ?_) (fun cdv A outer s H vs Q E hr h => ?_)
  · obtain ⟨x, rfl, _⟩ := h
    rfl
  · obtain ⟨x, rfl, h⟩ := h
    refine ⟨_, pss_one (ps_if (pt_not (pt_val (pe_callB call_isi (by rfl) B.isi (by decide +kernel) (pa_cons (pv 0) (pa_cons (pe_glob (v := .ref W) (by rfl) T.g rfl) pa_nil))))) (pss_one (ps_raise rfl (takes_of rfl rfl rfl rfl) (pmk_err TE hr (by decide) (by rfl) (pv 0)))) pss_nil), ?_⟩
    rcases h with ⟨a, u, s', rfl, ⟨dx, ea⟩, q⟩ | ⟨th, bad⟩
    · exact ⟨_, rfl, _, _, _, _, true, rfl, .own W, .base (.ins ea T.cls I.ha I.hn I.ht I.hm), by unfold PySem.W.kitOne; rw [if_pos (by simp)], _, rfl, iteF q⟩
    · obtain ⟨ty, hty, tx⟩ := th.tyx (K := K)
      exact ⟨_, rfl, _, _, _, _, false, rfl, .own W, tx, I.no ty hty, _, rfl, iteT ⟨_, rfl, bad_mk bad⟩⟩
theorem sgn_mul {u : Int} {n : Nat} : sgn (u * (10 : Int) ^ n) = sgn u := by
  have p := ten_pos n
  unfold sgn
  by_cases h : u = 0
  · subst h
    simp
  · have h1 : u * (10 : Int) ^ n ≠ 0 := Int.mul_ne_zero h (by omega)
    rw [if_neg h, if_neg h1]
    by_cases h2 : 0 < u
    · rw [if_pos h2, if_pos (Int.mul_pos h2 p)]
    · have h3 : u * (10 : Int) ^ n < 0 := Int.mul_neg_of_neg_of_pos (by omega) p
      rw [if_neg h2, if_neg (by omega)]
end
end K53

/-! own layer, of no law: OWNW: the nine ways, their mathematics. -/
namespace Own
open PySem PySem.Spec PyProof.Rows L2 LamX NdefX
def waysL : List Str := ["floor", "ceiling", "cut", "away", "halfup", "halfdown", "halfeven", "halfaway", "halfcut"]
def mirrL : List (Str × Str) := [("floor", "ceiling"), ("ceiling", "floor"), ("halfup", "halfdown"), ("halfdown", "halfup")]
def halvL : List (Str × Str) := [("halfup", "ceiling"), ("halfdown", "floor"), ("halfeven", "even"), ("halfaway", "away"), ("halfcut", "cut")]
def baseUp (w : Str) (b : Int) : Bool := if w = "even" then decide (b % 2 = 1) else if w = "cut" then decide (b < 0) else if w = "away" then decide (0 ≤ b) else decide (w = "ceiling")
def goesUp (w : Str) (b p : Int) : Bool := match halvL.lookup w with
  | some h => if p = 0 then baseUp h b else decide (0 < p)
  | none => baseUp w b
def near (n d : Int) (w : Str) : Int := if n % d = 0 then n / d else if goesUp w (n / d) (2 * (n % d) - d) = true then n / d + 1 else n / d
def mirr (w : Str) : Str := (mirrL.lookup w).getD w
theorem dec_int (a b : Int) : decide (V.int a = V.int b) = decide (a = b) := by simp
theorem dec_str (a b : Str) : decide (V.str a = V.str b) = decide (a = b) := by simp
/-- what the walk asks of the top: the names of built-ins are free; the tables -/
structure Txt (P : Program) (w : World) (K : PySem.W.Frag) (mg : Str → Option Value) (base : Heap) (C aW aM aH : Addr) (eM : Array DictEntry) (nM : Nat) (eH : Array DictEntry) (nH : Nat) : Prop where
  isi : mg "isinstance" = none
  int : mg "int" = none
  bool : mg "bool" = none
  len : mg "len" = none
  list : mg "list" = none
  range : mg "range" = none
  tuple : mg "tuple" = none
  all : mg "all" = none
  dm : mg "divmod" = none
  err : ErrC P w K mg base "BadValue" "value" 1 C (spErr C "value")
  gW : mg "WAYS" = some (.ref aW)
  ways : ∀ H : Hp, SqT K H aW (waysL.map V.str)
  gM : mg "MIRRORS" = some (.ref aM)
  dM : KDict K w aM eM nM
  mirr : ∀ z ∈ waysL, KGet K aM z ((mirrL.lookup z).map V.str)
  gH : mg "HALVES" = some (.ref aH)
  dH : KDict K w aH eH nH
  halv : ∀ z ∈ waysL, KGet K aH z ((halvL.lookup z).map V.str)
def isWay : V → Bool
  | .str z => decide (z ∈ waysL)
  | _ => false
theorem isWay_str {x : V} (h : isWay x = true) : ∃ z ∈ waysL, x = .str z := by
  cases x with
  | str z => exact ⟨z, by simpa [isWay] using h, rfl⟩
  | _ => simp [isWay] at h
theorem way_cases {z : Str} (h : z ∈ waysL) : z = "floor" ∨ z = "ceiling" ∨ z = "cut" ∨ z = "away" ∨ z = "halfup" ∨ z = "halfdown" ∨ z = "halfeven" ∨ z = "halfaway" ∨ z = "halfcut" := by
  simpa [waysL] using h
def baseK (z : Str) : Nat := if z = "even" then 0 else if z = "cut" then 1 else if z = "away" then 2 else if z = "ceiling" then 3 else 4
def kUp : Nat → Int → Bool
  | 0, b => decide (b % 2 = 1)
  | 1, b => decide (b < 0)
  | 2, b => decide (0 ≤ b)
  | 3, _ => true
  | _, _ => false
theorem base_k (z : Str) (b : Int) : baseUp z b = kUp (baseK z) b := by
  unfold baseUp baseK
  by_cases h1 : z = "even"
  · rw [if_pos h1, if_pos h1]
    rfl
  rw [if_neg h1, if_neg h1]
  by_cases h2 : z = "cut"
  · rw [if_pos h2, if_pos h2]
    rfl
  rw [if_neg h2, if_neg h2]
  by_cases h3 : z = "away"
  · rw [if_pos h3, if_pos h3]
    rfl
  rw [if_neg h3, if_neg h3]
  by_cases h4 : z = "ceiling"
  · rw [if_pos h4, decide_eq_true h4]
    rfl
  · rw [if_neg h4, decide_eq_false h4]
    rfl
theorem goes_none {z : Str} {k : Nat} (h : halvL.lookup z = none) (hk : baseK z = k) (b p : Int) : goesUp z b p = kUp k b := by
  unfold goesUp
  rw [h, ← hk]
  exact base_k z b
theorem goes_some {z y : Str} {k : Nat} (h : halvL.lookup z = some y) (hk : baseK y = k) (b p : Int) : goesUp z b p = if p = 0 then kUp k b else decide (0 < p) := by
  unfold goesUp
  rw [h, ← hk, ← base_k]
theorem mirr_of {z y : Str} (h : (mirrL.lookup z).getD z = y) : mirr z = y := h
theorem goes_mirr {z : Str} (hz : z ∈ waysL) (b p : Int) : goesUp (mirr z) (-b - 1) (-p) = !goesUp z b p := by
  rcases way_cases hz with rfl | rfl | rfl | rfl | rfl | rfl | rfl | rfl | rfl
  · rw [mirr_of (y := "ceiling") (by decide +kernel), goes_none (k := 3) (by decide +kernel) (by decide +kernel), goes_none (k := 4) (by decide +kernel) (by decide +kernel)]
    rfl
  · rw [mirr_of (y := "floor") (by decide +kernel), goes_none (k := 4) (by decide +kernel) (by decide +kernel), goes_none (k := 3) (by decide +kernel) (by decide +kernel)]
    rfl
  · rw [mirr_of (y := "cut") (by decide +kernel), goes_none (k := 1) (by decide +kernel) (by decide +kernel), goes_none (k := 1) (by decide +kernel) (by decide +kernel)]
    show decide (-b - 1 < 0) = !decide (b < 0)
    by_cases h : b < 0
    · rw [decide_eq_true h, decide_eq_false (by omega)]; rfl
    · rw [decide_eq_false h, decide_eq_true (by omega)]; rfl
  · rw [mirr_of (y := "away") (by decide +kernel), goes_none (k := 2) (by decide +kernel) (by decide +kernel), goes_none (k := 2) (by decide +kernel) (by decide +kernel)]
    show decide (0 ≤ -b - 1) = !decide (0 ≤ b)
    by_cases h : 0 ≤ b
    · rw [decide_eq_true h, decide_eq_false (by omega)]; rfl
    · rw [decide_eq_false h, decide_eq_true (by omega)]; rfl
  · rw [mirr_of (y := "halfdown") (by decide +kernel), goes_some (k := 4) (y := "floor") (by decide +kernel) (by decide +kernel), goes_some (k := 3) (y := "ceiling") (by decide +kernel) (by decide +kernel)]
    by_cases h : p = 0
    · rw [if_pos h, if_pos (by omega)]; rfl
    · rw [if_neg h, if_neg (by omega)]
      by_cases h : 0 < p
      · rw [decide_eq_true h, decide_eq_false (by omega)]; rfl
      · rw [decide_eq_false h, decide_eq_true (by omega)]; rfl
  · rw [mirr_of (y := "halfup") (by decide +kernel), goes_some (k := 3) (y := "ceiling") (by decide +kernel) (by decide +kernel), goes_some (k := 4) (y := "floor") (by decide +kernel) (by decide +kernel)]
    by_cases h : p = 0
    · rw [if_pos h, if_pos (by omega)]; rfl
    · rw [if_neg h, if_neg (by omega)]
      by_cases h : 0 < p
      · rw [decide_eq_true h, decide_eq_false (by omega)]; rfl
      · rw [decide_eq_false h, decide_eq_true (by omega)]; rfl
  · rw [mirr_of (y := "halfeven") (by decide +kernel), goes_some (k := 0) (y := "even") (by decide +kernel) (by decide +kernel), goes_some (k := 0) (y := "even") (by decide +kernel) (by decide +kernel)]
    by_cases h : p = 0
    · rw [if_pos h, if_pos (by omega)]
      show decide ((-b - 1) % 2 = 1) = !decide (b % 2 = 1)
      by_cases h : b % 2 = 1
      · rw [decide_eq_true h, decide_eq_false (by omega)]; rfl
      · rw [decide_eq_false h, decide_eq_true (by omega)]; rfl
    · rw [if_neg h, if_neg (by omega)]
      by_cases h : 0 < p
      · rw [decide_eq_true h, decide_eq_false (by omega)]; rfl
      · rw [decide_eq_false h, decide_eq_true (by omega)]; rfl
  · rw [mirr_of (y := "halfaway") (by decide +kernel), goes_some (k := 2) (y := "away") (by decide +kernel) (by decide +kernel), goes_some (k := 2) (y := "away") (by decide +kernel) (by decide +kernel)]
    by_cases h : p = 0
    · rw [if_pos h, if_pos (by omega)]
      show decide (0 ≤ -b - 1) = !decide (0 ≤ b)
      by_cases h : 0 ≤ b
      · rw [decide_eq_true h, decide_eq_false (by omega)]; rfl
      · rw [decide_eq_false h, decide_eq_true (by omega)]; rfl
    · rw [if_neg h, if_neg (by omega)]
      by_cases h : 0 < p
      · rw [decide_eq_true h, decide_eq_false (by omega)]; rfl
      · rw [decide_eq_false h, decide_eq_true (by omega)]; rfl
  · rw [mirr_of (y := "halfcut") (by decide +kernel), goes_some (k := 1) (y := "cut") (by decide +kernel) (by decide +kernel), goes_some (k := 1) (y := "cut") (by decide +kernel) (by decide +kernel)]
    by_cases h : p = 0
    · rw [if_pos h, if_pos (by omega)]
      show decide (-b - 1 < 0) = !decide (b < 0)
      by_cases h : b < 0
      · rw [decide_eq_true h, decide_eq_false (by omega)]; rfl
      · rw [decide_eq_false h, decide_eq_true (by omega)]; rfl
    · rw [if_neg h, if_neg (by omega)]
      by_cases h : 0 < p
      · rw [decide_eq_true h, decide_eq_false (by omega)]; rfl
      · rw [decide_eq_false h, decide_eq_true (by omega)]; rfl
theorem mirr_mem {z : Str} (hz : z ∈ waysL) : mirr z ∈ waysL := by
  rcases way_cases hz with rfl | rfl | rfl | rfl | rfl | rfl | rfl | rfl | rfl <;> decide +kernel
theorem near_mirr {n d : Int} {z : Str} (h0 : 0 < d) (hz : z ∈ waysL) : near (-n) d (mirr z) = -near n d z := by
  have r0 := Int.emod_nonneg n (show d ≠ 0 by omega)
  have r1 := Int.emod_lt_of_pos n h0
  have em := Int.emod_add_mul_ediv n d
  unfold near
  by_cases h : n % d = 0
  · have e1 : (-n) % d = 0 := Int.emod_eq_zero_of_dvd ((Int.dvd_neg).mpr (Int.dvd_of_emod_eq_zero h))
    rw [if_pos h, if_pos e1, Int.neg_ediv_of_dvd (Int.dvd_of_emod_eq_zero h)]
  · have e3 : -n = (d - n % d) + d * (-(n / d) - 1) := by
      rw [Int.mul_sub, Int.mul_neg]
      omega
    have e1 : (-n) % d = d - n % d := by
      rw [e3, Int.add_mul_emod_self_left, Int.emod_eq_of_lt (by omega) (by omega)]
    have e2 : (-n) / d = -(n / d) - 1 := by
      rw [e3, Int.add_mul_ediv_left _ _ (by omega), Int.ediv_eq_zero_of_lt (by omega) (by omega)]
      omega
    rw [if_neg h, e1, e2, if_neg (by omega)]
    have e4 : 2 * (d - n % d) - d = -(2 * (n % d) - d) := by omega
    rw [e4, goes_mirr hz]
    cases goesUp z (n / d) (2 * (n % d) - d)
    · show (if true = true then -(n / d) - 1 + 1 else _) = -(if false = true then _ else n / d)
      rw [if_pos rfl, if_neg (by decide)]
      omega
    · show (if false = true then _ else -(n / d) - 1) = -(if true = true then n / d + 1 else _)
      rw [if_pos rfl, if_neg (by decide)]
      omega
end Own

/-! own layer, of no law: OWNE: an error class whose __init__ keeps nothing. -/
namespace Own
open PySem PySem.Spec PyProof.Rows L2 LamX NdefX
section
variable {X : Cx}
theorem del_new {H : Hp} {a : Addr} {o : HO} (h : H a = none) : del (upd H a o) a = H := by
  funext b
  by_cases e : b = a
  · rw [e, del_same, h]
  · rw [del_ne e, upd_ne e]
theorem mk_endN {pins : List (Addr × Obj)} {σ : L2.St} {H1 H2 : Hp} {Q : XK} {hp hp2 h2 : Heap} {g1 g2 : Array GenState} {d1 d2 : Drawn} {t1 t2 : Nat} {os1 os2 : OsState} {a C : Addr} (T : Raises X (.ref C)) (I1 : Inv X pins σ H1 ⟨hp, g1, d1, t1, os1⟩)
    (ha : hp.objs.size ≤ a) (k : ∀ b o, hp.get? b = some o → hp2.get? b = some o) (un : Un (frs X.stack) [] (upd H1 a (exo a C none)) H2 hp2 h2) (hok : HOk X.prog X.w H2 h2) (ho : os2 = os1) (hb : AllBare g2)
    (ea : H2 a = some (exo a C none)) (q : Q (.ref C) none (del H2 a)) : MkP X pins σ Q (.ref a) ⟨h2, g2, d2, t2, os2⟩ := by
  obtain ⟨t0, hoe⟩ := exo_at hok ea
  have hn : H1 a = none := I1.hok.fresh ha
  obtain ⟨G, g1', g2'⟩ := restrict h2 fun b => decide (b ≠ a)
  have gk : ∀ b, b ≠ a → G.get? b = h2.get? b := fun b hb => g1' b (decide_eq_true hb)
  have ge : G.get? a = none := g2' a (by simp)
  have nha : ∀ {b : Addr} {o : Obj}, hp.get? b = some o → b ≠ a := fun {b o} z => Nat.ne_of_lt (Nat.lt_of_lt_of_le (Heap.lt_size z) ha)
  have up : ∀ {b : Addr}, b ≠ a → H1 b = none → upd H1 a (exo a C none) b = none := fun {b} hb n => by rw [upd_ne hb]; exact n
  have U : Un (frs X.stack) [] H1 (del H2 a) hp G := {
    keep := fun b o z n hf hx => by
      rw [gk b (nha z)]
      exact un.keep b o (k b o z) (up (nha z) n) hf hx
    slot := fun b o z n hf hx => by
      rw [gk b (nha z)]
      exact un.slot b o (k b o z) (up (nha z) n) hf hx
    free := fun b o z n hx => by
      rw [del_ne (nha z)]
      exact un.free b o (k b o z) (up (nha z) n) hx
    there := fun b o z hx => by
      rw [gk b (nha z)]
      exact un.there b o (k b o z) hx
    tups := fun b xs z => by
      rw [del_ne (ne_of_none z hn)]
      exact un.tups b xs (by rw [upd_ne (ne_of_none z hn)]; exact z)
    frzs := fun b o v z => by
      rw [del_ne (ne_of_none z hn)]
      exact un.frzs b o v (by rw [upd_ne (ne_of_none z hn)]; exact z)
    tbls := fun b ps z => by
      rw [del_ne (ne_of_none z hn)]
      exact un.tbls b ps (by rw [upd_ne (ne_of_none z hn)]; exact z) }
  have hok3 : HOk X.prog X.w (del H2 a) G := fun b o z => by
    have hba : b ≠ a := fun e => by
      rw [e, del_same] at z
      cases z
    rw [del_ne hba] at z
    have noa : ∀ {c : Addr}, H2 c = some (.own b) → c ≠ a := fun {c} hc => at_ne ea hc exo_own
    exact (hok b o z).stay (fun c v hc y => by
        have hca : c ≠ a := by
          rcases hc with hc | hc
          · rw [hc]
            exact hba
          · exact noa hc
        rw [gk c hca]
        exact y)
      (fun c hc => by rw [del_ne (noa hc)]; exact hc) (fun c xs hc => by rw [del_ne (at_ne ea hc exo_tup)]; exact hc)
  have J : Inv X pins σ (del H2 a) ⟨G, g2, d2, t2, os2⟩ := I1.call' (ch := []) ho U hok3 hb (fun b z => absurd z (by simp))
  refine ⟨a, _, _, ⟨G, g2, d2, t2, os2⟩, _, .ref C, none, rfl, J, fun b o z => ?_, ge, hoe, ⟨rfl, rfl⟩, rfl, rfl, del_same, rfl, hb, T, q⟩
  by_cases hba : b = a
  · rw [hba, ge] at z
    cases z
  · exact (gk b hba).symm.trans z
/-- C(), an own error class whose __init__ takes self alone and does nothing -/
theorem pmk_oex0 {x : Str} {C fI : Addr} {k : Nat} {fd : FuncData} {sp : Sp} {p pos : Pos} (T : OexC X.K C) (iC : PySem.W.findIn X.K (.ref C) "__init__" = some (some (.ref fI))) (tI : PySem.W.typeIn X.K (.ref fI) = some (.type "function"))
    (F1 : FnOk X.prog X.w X.K X.mg X.base CX0 k fI fd ["self"] sp) (hr : Room (k + 1) X.A) (hb : Binds X.K fd ["self"] []) (hg : Gl X x) (hm : X.mg x = some (.ref C)) (hdb : (x == ("__debug__" : Str)) = false := by decide) :
    PMk X (.Call (.Name x p) [] [] pos) (fun _ H Q => ∀ a, H a = none → sp [.ref a] (upd H a (exo a C none)) (fun v H2 => v = .non ∧ H2 a = some (exo a C none) ∧ Q (.ref C) none (del H2 a)) (fun _ _ _ => False)) := by
  intro pins s σ H Q I h
  obtain ⟨nm, q, N, bs, bm, sn, sub, ab, col, dd, k0, k1, k2, k3, k5, hC, hbm⟩ := T.cls
  refine wpAny_Call_Name_kw (ld_glob I hg hm ?_ hdb)
  refine PySem.W.callWith_K0 I.kIn T.kC ?_
  show wpAny _ _ (call (.ref C) []) _ _ _
  obtain ⟨hp, g, dr, tk, os⟩ := s
  have hsz : hp.objs.size ≤ hp.objs.size + 1 := Nat.le_succ _
  have hq := h (hp.objs.size + 1) (I.hok.fresh hsz)
  have kk : ∀ b o, hp.get? b = some o → ((hp.push (PySem.W.kdv_tup [])).push (PySem.HandSPX.excO C hp.objs.size)).get? b = some o := fun b o e => Heap.get?_push_of_some _ (Heap.get?_push_of_some _ e)
  have hget : ((hp.push (PySem.W.kdv_tup [])).push (PySem.HandSPX.excO C hp.objs.size)).get? (hp.objs.size + 1) = some (PySem.HandSPX.excO C hp.objs.size) := by heap_get
  have I2 : Inv X pins σ (upd H (hp.objs.size + 1) (exo (hp.objs.size + 1) C none)) ⟨(hp.push (PySem.W.kdv_tup [])).push (PySem.HandSPX.excO C hp.objs.size), g, dr, tk, os⟩ :=
    I.laid (t' := tk) (a := hp.objs.size + 1) (o := exo (hp.objs.size + 1) C none) (h' := (hp.push (PySem.W.kdv_tup [])).push (PySem.HandSPX.excO C hp.objs.size)) kk hsz (exo_ok hget)
  have r2 : Vals [V.ref (hp.objs.size + 1)] [Value.ref (hp.objs.size + 1)] := .cons rfl .nil
  refine wpAny_call (PySem.HandSPX.call_own F.excBase_ValueError (fun Y => PySem.HandSPX.refsVE_contains Y bm hbm) (I.kIn _ _ hC) (PySem.W.looks_findIn I.kIn iC) (fun self => PySem.W.bind_fn I.kIn self tI) (by show 0 ≤ sizeLine; exact Nat.zero_le _)
    (codeAny_mono (F1.run _ X.stack _ _ ⟨[Value.ref (hp.objs.size + 1)], []⟩ [Value.ref (hp.objs.size + 1)] _ _ (fun _ _ _ => False) (hr.make C [] []) (I2.env0.make C [] []) (hb _ [Value.ref (hp.objs.size + 1)] I2.kIn rfl) r2 hq) fun r s' hq' => ?_))
  cases r with
  | error er => exact False.elim hq'
  | ok fl =>
    cases fl with
    | ret u =>
      obtain ⟨v, H2, os2, bare2, un2, hok2, rv, ev, ea, q2⟩ := hq'
      subst ev
      obtain ⟨h2, g2, d2, t2, os'⟩ := s'
      exact ⟨rv, mk_endN (raises_own T.exC T.tyC) I hsz kk un2 hok2 os2 bare2 ea q2⟩
    | next => exact False.elim hq'
    | brk => exact False.elim hq'
    | cont => exact False.elim hq'
end
/-- an error class without fields -/
structure ErrN (P : Program) (w : World) (K : PySem.W.Frag) (mg : Str → Option Value) (base : Heap) (x : Str) (C : Addr) : Prop where
  g : mg x = some (.ref C)
  oex : OexC K C
  ini : ∃ (fI : Addr) (fd : FuncData), PySem.W.findIn K (.ref C) "__init__" = some (some (.ref fI)) ∧ PySem.W.typeIn K (.ref fI) = some (.type "function") ∧ FnOk P w K mg base CX0 1 fI fd ["self"] (fun vs H Q _ => ∃ a : Addr, vs = [.ref a] ∧ Q .non H) ∧ Binds K fd ["self"] []
section
variable {X : Cx} {x : Str} {j : Nat} {C : Addr} {p pos : Pos}
theorem pmk_errN (D : ErrN X.prog X.w X.K X.mg X.base x C) (hr : Room j X.A) (hj : 2 ≤ j) (hg : Gl X x) (hdb : (x == ("__debug__" : Str)) = false := by decide) : PMk X (.Call (.Name x p) [] [] pos) (fun _ H Q => Q (.ref C) none H) := by
  obtain ⟨fI, fd, iC, tI, F1, b⟩ := D.ini
  intro pins s σ H Q I h
  exact pmk_oex0 D.oex iC tI F1 (hr.mono hj) b hg D.g hdb pins s σ H Q I fun a na => ⟨a, rfl, rfl, upd_same, by rw [del_new na]; exact h⟩
end
end Own

/-! k53: the program's ways. -/
namespace K53
open PySem PySem.Spec PyProof.Rows L2 LamX NdefX Own
abbrev sNWay : Stmt := topS 25
abbrev sGoes : Stmt := topS 27
abbrev sNear : Stmt := topS 26
abbrev sWays : Stmt := topS 43
/-- what the walk asks of the top: the names of built-ins are free; the tables -/
structure Tx8 (P : Program) (w : World) (K : PySem.W.Frag) (mg : Str → Option Value) (base : Heap) (C aW aH : Addr) (eH : Array DictEntry) (nH : Nat) : Prop where
  isi : mg "isinstance" = none
  int : mg "int" = none
  bool : mg "bool" = none
  len : mg "len" = none
  list : mg "list" = none
  range : mg "range" = none
  tuple : mg "tuple" = none
  all : mg "all" = none
  dm : mg "divmod" = none
  err : ErrC P w K mg base "BadValue" "value" 1 C (spErr C "value")
  gW : mg "WAYS" = some (.ref aW)
  ways : ∀ H : Hp, SqT K H aW (waysL.map V.str)
  gH : mg "HALVES" = some (.ref aH)
  dH : KDict K w aH eH nH
  halv : ∀ z ∈ waysL, KGet K aH z ((halvL.lookup z).map V.str)
section
variable {P : Program} {w : World} {K : PySem.W.Frag} {mg : Str → Option Value} {base : Heap} {C aW aH : Addr} {eH : Array DictEntry} {nH : Nat}
theorem scNWay : FnScope ["value"] ["value"] (defScope sNWay) := ⟨rfl, rfl, rfl, by decide +kernel, rfl, by decide +kernel, by decide +kernel⟩
def spNWay (C : Addr) : Sp := fun vs H Q E => ∃ x : V, vs = [x] ∧ Thing H x ∧ (isWay x = true → Q .non H) ∧ (isWay x = false → Bad C "value" x H E)
theorem ok_nWay (A : At K mg "need_way" sNWay ["value"]) (T : Tx8 P w K mg base C aW aH eH nH) : DefOk P w K mg base (L2.CX P w) "need_way" 3 ["value"] (spNWay C) := by
  refine A.ok fun f fd F => F.okX scNWay (fun vs H Q E h => ?_) (fun cdv A outer s H vs Q E hr h => ?_)
  · obtain ⟨x, rfl, _⟩ := h
    rfl
  · obtain ⟨x, rfl, th, q1, q2⟩ := h
    refine ⟨_, pss_one (ps_if (pt_cmpR (OpR.or op_notIn_seq (op_notInW (hu_of hr))) (pv 0) (pe_glob (v := .ref aW) (by rfl) T.gW rfl) (by rfl)) (pss_one (ps_raise rfl (takes_of rfl rfl rfl rfl) (pmk_err T.err hr (by decide) (by rfl) (pv 0)))) pss_nil), ?_⟩
    rcases th.noTxt with nt | ⟨z, rfl⟩
    · have hw : isWay x = false := by cases nt <;> rfl
      exact ⟨_, rfl, .inr ⟨aW, waysL, rfl, T.ways H, nt, _, rfl, iteT ⟨_, rfl, bad_mk (q2 hw)⟩⟩⟩
    · refine ⟨_, rfl, .inl ⟨aW, _, rfl, .inr (T.ways H), rfl, by decide +kernel, _, rfl, ?_⟩⟩
      have e : inV (.str z) (waysL.map V.str) = decide (z ∈ waysL) := by
        unfold inV
        rw [List.any_map]
        have : ∀ l : List Str, (l.any ((fun y => eqV y (.str z)) ∘ V.str)) = decide (z ∈ l) := by
          intro l
          induction l with
          | nil => rfl
          | cons a r ih =>
            rw [List.any_cons, ih]
            show (a == z || decide (z ∈ r)) = decide (z ∈ a :: r)
            by_cases h : a = z
            · subst h
              simp
            · have h' : ¬ z = a := fun e => h e.symm
              simp [h, h']
        exact this waysL
      show if (if true = true then !inV (.str z) (waysL.map V.str) else inV (.str z) (waysL.map V.str)) = true then _ else _
      rw [if_pos rfl, e]
      refine ite2 (fun e => ?_) (fun e => ?_)
      · exact ⟨_, rfl, bad_mk (q2 (by simpa [isWay] using e))⟩
      · exact q1 (by simpa [isWay] using e)
theorem scGoes : FnScope ["way", "below", "past_half"] ["way", "below", "past_half"] (defScope sGoes) := ⟨rfl, rfl, rfl, by decide +kernel, rfl, by decide +kernel, by decide +kernel⟩
def spGoes : Sp := fun vs H Q _ => ∃ (z : Str) (b p : Int), vs = [.str z, .int b, .int p] ∧ z ∈ waysL ∧ Q (.bl (goesUp z b p)) H
theorem ok_goes (A : At K mg "_goes_up" sGoes ["way", "below", "past_half"]) (T : Tx8 P w K mg base C aW aH eH nH) : DefOk P w K mg base CX0 "_goes_up" 1 ["way", "below", "past_half"] spGoes := by
  refine A.ok fun f fd F => F.ok scGoes (fun vs H Q E h => ?_) (fun cdv A outer s H vs Q E hr h => ?_)
  · obtain ⟨z, b, p, rfl, _⟩ := h
    rfl
  · obtain ⟨z, b, p, rfl, hz, q⟩ := h
    have nd := scGoes.nd
    refine ⟨_, C8.pss_cut (ps_if (pt_cmpR (op_in_kd T.dH) (pv 0) (pe_glob (v := .ref aH) (by rfl) T.gH rfl) (by rfl))
        (pss_cons (ps_if (pt_cmpR op_ne (pv 2) pe_int (nomark _)) (pss_one (ps_ret (pe_cmpR op_gt (pv 2) pe_int (nomark _)))) pss_nil)
        (pss_one (ps_set (i := 0) nd rfl (.inl rfl) (pe_ix ix_kdict (pe_glob (v := .ref aH) (by rfl) T.gH rfl) (pv 0) (fun _ _ => rfl))))) pss_nil)
      (pss_cons (ps_if (pt_cmpR op_eq (pv 0) pe_str (nomark _)) (pss_one (ps_ret (pe_cmpR op_eq (pe_op op_mod (pv 1) pe_int) pe_int (nomark _)))) pss_nil)
      (pss_cons (ps_if (pt_cmpR op_eq (pv 0) pe_str (nomark _)) (pss_one (ps_ret (pe_cmpR op_lt (pv 1) pe_int (nomark _)))) pss_nil)
      (pss_cons (ps_if (pt_cmpR op_eq (pv 0) pe_str (nomark _)) (pss_one (ps_ret (pe_cmpR op_ge (pv 1) pe_int (nomark _)))) pss_nil)
      (pss_one (ps_ret (pe_cmpR op_eq (pv 0) pe_str (nomark _))))))), ?_⟩
    -- what a way says that is none of the nearer ones
    have tail : ∀ y : Str, (if y = "even" then (decide (V.int (b % 2) = V.int 1)) else if y = "cut" then decide (b < 0) else if y = "away" then decide (0 ≤ b) else decide (V.str y = V.str "ceiling")) = baseUp y b := fun y => by
      unfold baseUp
      rw [Own.dec_int, Own.dec_str]
    refine ⟨fun σ H' => ∃ y : Str, σ = [some (.str y), some (.int b), some (.int p)] ∧ H' = H ∧ baseUp y b = goesUp z b p, ?_, ?_⟩
    · obtain ⟨ro, hk, hr'⟩ := T.halv z hz
      refine ⟨_, rfl, z, ro, rfl, rfl, hk, _, rfl, ?_⟩
      cases hl : halvL.lookup z with
      | none =>
        rw [hl] at hr'
        have e : ro = none := by
          cases ro with
          | none => rfl
          | some u => exact hr'.elim
        subst e
        refine iteF ⟨z, rfl, rfl, ?_⟩
        unfold goesUp
        rw [hl]
      | some y =>
        rw [hl] at hr'
        obtain ⟨u, rfl⟩ : ∃ u, ro = some u := by
          cases ro with
          | none => exact hr'.elim
          | some u => exact ⟨u, rfl⟩
        refine iteT ?_
        refine ⟨_, rfl, rfl, _, rfl, ite2 (fun e => ?_) (fun e => ?_)⟩
        · have hp : p ≠ 0 := by simpa using e
          refine ⟨_, rfl, _, _, rfl, rfl, ?_⟩
          have g : goesUp z b p = decide (0 < p) := by
            unfold goesUp
            rw [hl]
            exact if_neg hp
          show Q (.bl (decide (0 < p))) H
          rw [← g]
          exact q
        · have hp : p = 0 := by simpa using e
          refine ⟨_, rfl, aH, z, .str y, rfl, rfl, ⟨eH, nH, u, T.dH.at_, T.dH.lit, hk, hr'⟩, y, rfl, rfl, ?_⟩
          unfold goesUp
          rw [hl]
          exact (if_pos hp).symm
    · rintro σ H' ⟨y, rfl, rfl, hy⟩
      rw [← hy, ← tail y] at q
      refine ⟨_, rfl, rfl, _, rfl, ite2 (fun e => ?_) (fun e => ?_)⟩
      · have e' : y = "even" := V.str.inj (of_decide_eq_true e)
        rw [if_pos e'] at q
        exact ⟨_, rfl, _, _, rfl, rfl, (show (0 : Int) < 2 by decide), rfl, q⟩
      · have e' : ¬ y = "even" := fun z => e (by rw [z]; simp)
        rw [if_neg e'] at q
        refine ⟨_, rfl, rfl, _, rfl, ite2 (fun e => ?_) (fun e => ?_)⟩
        · have e' : y = "cut" := V.str.inj (of_decide_eq_true e)
          rw [if_pos e'] at q
          exact ⟨_, rfl, _, _, rfl, rfl, q⟩
        · have e' : ¬ y = "cut" := fun z => e (by rw [z]; simp)
          rw [if_neg e'] at q
          refine ⟨_, rfl, rfl, _, rfl, ite2 (fun e => ?_) (fun e => ?_)⟩
          · have e' : y = "away" := V.str.inj (of_decide_eq_true e)
            rw [if_pos e'] at q
            exact ⟨_, rfl, _, _, rfl, rfl, q⟩
          · have e' : ¬ y = "away" := fun z => e (by rw [z]; simp)
            rw [if_neg e'] at q
            exact ⟨_, rfl, rfl, q⟩
theorem scNear : FnScope ["number", "divisor", "way", "below", "left"] ["number", "divisor", "way"] (defScope sNear) := ⟨rfl, rfl, rfl, by decide +kernel, rfl, by decide +kernel, by decide +kernel⟩
def spNear : Sp := fun vs H Q _ => ∃ (n d : Int) (z : Str), vs = [.int n, .int d, .str z] ∧ 0 < d ∧ d.natAbs < 2 ^ 1000 ∧ z ∈ waysL ∧ ∀ H', Same H H' → Q (.int (near n d z)) H'
theorem ok_near (A : At K mg "nearest_units" sNear ["number", "divisor", "way"]) (T : Tx8 P w K mg base C aW aH eH nH) (D : DefOk P w K mg base CX0 "_goes_up" 1 ["way", "below", "past_half"] spGoes) : DefOk P w K mg base CX0 "nearest_units" 2 ["number", "divisor", "way"] spNear := by
  refine A.ok fun f fd F => F.ok scNear (fun vs H Q E h => ?_) (fun cdv A outer s H vs Q E hr h => ?_)
  · obtain ⟨n, d, z, rfl, _⟩ := h
    rfl
  · obtain ⟨n, d, z, rfl, h0, hb, hz, q⟩ := h
    have nd := scNear.nd
    refine ⟨_, pss_cons (ps_asg (pe_callB call_divmodW (by rfl) T.dm (by decide +kernel) (pa_cons (pv 0) (pa_cons (pv 1) pa_nil))) (pg_tup rfl (pgs_cons (pg_name (i := 3) nd rfl (.inl rfl)) (pgs_cons (pg_name (i := 4) nd rfl (.inl rfl)) pgs_nil))))
      (pss_cons (ps_if (PW.pt (pw_and (pt_cmpR op_ne (pv 4) pe_int (nomark _)) (pw_and1 (pt_val (pe_def D hr (by decide) (by rfl) pass0 (pa_cons (pv 2) (pa_cons (pv 3) (pa_cons (pe_op op_sub (pe_op op_mul pe_int (pv 4)) (pv 1)) pa_nil))))))))
        (pss_one (ps_ret (pe_op op_add (pv 3) pe_int))) pss_nil)
      (pss_one (ps_ret (pv 3)))), ?_⟩
    refine ⟨_, rfl, _, rfl, n, d, rfl, dm_ok h0 hb, fun p hp => ?_⟩
    have sm : Same H (upd H p (.tup [.int (n / d), .int (n % d)])) := same_new hp
    refine ⟨p, _, rfl, SqT.of upd_same, rfl, _, _, rfl, _, _, rfl, rfl, ?_⟩
    refine ⟨_, rfl, rfl, _, rfl, ite2 (fun e => ?_) (fun e => ?_)⟩
    · have hne : n % d ≠ 0 := by simpa using e
      refine ⟨_, rfl, _, rfl, _, rfl, _, _, rfl, rfl, .inl ⟨by decide, by decide⟩, _, rfl, _, _, rfl, rfl, z, _, _, rfl, hz, _, rfl, ite2 (fun e => ?_) (fun e => ?_)⟩
      · refine ⟨_, rfl, _, _, rfl, rfl, ?_⟩
        have r : near n d z = n / d + 1 := by
          unfold near
          rw [if_neg hne, if_pos e]
        have q' := q _ sm
        rw [r] at q'
        exact q'
      · refine ⟨_, rfl, ?_⟩
        have r : near n d z = n / d := by
          unfold near
          rw [if_neg hne, if_neg e]
        have q' := q _ sm
        rw [r] at q'
        exact q'
    · have he : n % d = 0 := by simpa using e
      refine iteF ⟨_, rfl, ?_⟩
      have r : near n d z = n / d := by
        unfold near
        rw [if_pos he]
      have q' := q _ sm
      rw [r] at q'
      exact q'
theorem scWays : FnScope [] [] (defScope sWays) := ⟨rfl, rfl, rfl, by decide +kernel, rfl, by decide +kernel, by decide +kernel⟩
def spWays : Sp := fun vs H Q _ => vs = [] ∧ ∀ p, H p = none → Q (.ref p) (upd H p (.lst (waysL.map V.str)))
theorem ok_ways (A : At K mg "_law_ways" sWays []) : DefOk P w K mg base CX0 "_law_ways" 1 [] spWays := by
  refine A.ok fun f fd F => F.ok scWays (fun vs H Q E h => by rw [h.1] <;> rfl) (fun cdv A outer s H vs Q E hr h => ?_)
  obtain ⟨rfl, q⟩ := h
  refine ⟨_, pss_one (ps_ret (pe_lst (pa_cons pe_str (pa_cons pe_str (pa_cons pe_str (pa_cons pe_str (pa_cons pe_str (pa_cons pe_str (pa_cons pe_str (pa_cons pe_str (pa_cons pe_str pa_nil))))))))))), ?_⟩
  exact ⟨by show 9 ≤ sizeLine; decide, q⟩
end
end K53

/-! k53: rounded, rounded_quotient. -/
namespace K53
open PySem PySem.Spec PyProof.Rows L2 LamX NdefX Own
abbrev pRnd : Stmt := topS 28
/-- u units at s, rounded to n by t: how many units at n -/
def rnd (u : Int) (s n : Nat) (t : Str) : Int := if s ≤ n then u * (10 : Int) ^ (n - s) else near u ((10 : Int) ^ (s - n)) t
def absI (u : Int) : Int := if u < 0 then -u else u
def quo (u1 : Int) (s1 : Nat) (u2 : Int) (s2 n : Nat) (t : Str) : Int := near (u1 * sgn u2 * (10 : Int) ^ (n + s2 - s1)) (absI u2 * (10 : Int) ^ (s1 - (n + s2))) t
section
variable {P : Program} {w : World} {K : PySem.W.Frag} {mg : Str → Option Value} {base : Heap} {C CN W : Addr}
theorem scRnd : FnScope ["worth", "scale", "way"] ["worth", "scale", "way"] (defScope pRnd) := ⟨rfl, rfl, rfl, by decide +kernel, rfl, by decide +kernel, by decide +kernel⟩
/-- what comes of a new or old worth of v units at n -/
def Comes (W : Addr) (H : Hp) (v : Int) (n : Nat) (Q : VK) : Prop := ∀ (p : Addr) (u' : Int) (s' : Nat) (H' : Hp), Same H H' → WAt W H' p u' s' → IsLow v n u' s' → Q (.ref p) H'
def spRnd (C W : Addr) : Sp := fun vs H Q E => ∃ x y z : V, vs = [x, y, z] ∧ ((Thing H x ∧ Bad C "value" x H E) ∨ ∃ (a : Addr) (u : Int) (s : Nat), x = .ref a ∧ WAt W H a u s ∧ s ≤ 240 ∧ (s = 0 ∨ u % 10 ≠ 0) ∧
  ((Thing H y ∧ isWh y = false ∧ Bad C "value" y H E) ∨ ∃ n : Nat, y = .int n ∧ n < 500 ∧ ((Thing H z ∧ isWay z = false ∧ Bad C "value" z H E) ∨ ∃ t ∈ waysL, z = .str t ∧ Comes W H (rnd u s n t) n Q)))
theorem isWh_no {n : Nat} {p : Prop} (z : isWh (.int (n : Int)) = false) : p := by
  rw [isWh_cast] at z
  cases z
theorem isWay_ok {t : Str} (ht : t ∈ waysL) : isWay (.str t) = true := decide_eq_true ht
theorem ok_rnd (A : At K mg "rounded" pRnd ["worth", "scale", "way"]) (T : WorthC K mg W) (M : WMk P w K mg base C W) (D1 : DefOk P w K mg base (L2.CX P w) "need_worth" 3 ["value"] (spNeedW C W)) (D2 : DefOk P w K mg base (L2.CX P w) "need_whole_number" 3 ["value"] (spNWh C))
    (D3 : DefOk P w K mg base (L2.CX P w) "need_way" 3 ["value"] (spNWay C)) (D4 : DefOk P w K mg base CX0 "ten_to" 9 ["places"] (spTenTo 8)) (D5 : DefOk P w K mg base CX0 "nearest_units" 2 ["number", "divisor", "way"] spNear) :
    DefOk P w K mg base (L2.CX P w) "rounded" 13 ["worth", "scale", "way"] (spRnd C W) := by
  refine A.ok fun f fd F => F.okX scRnd (fun vs H Q E h => ?_) (fun cdv A outer s0 H vs Q E hr h => ?_)
  · obtain ⟨x, y, z, rfl, _⟩ := h
    rfl
  · obtain ⟨x, y, z, rfl, h⟩ := h
    refine ⟨_, pss_cons (ps_expr (pe_def (E := E) D1 hr (by decide) (by rfl) (passes_call (takes_of rfl rfl rfl rfl) fun _ _ _ _ z => z) (pa_cons (pv 0) pa_nil)))
      (pss_cons (ps_expr (pe_def (E := E) D2 hr (by decide) (by rfl) (passes_call (takes_of rfl rfl rfl rfl) fun _ _ _ _ z => z) (pa_cons (pv 1) pa_nil)))
      (pss_cons (ps_expr (pe_def (E := E) D3 hr (by decide) (by rfl) (passes_call (takes_of rfl rfl rfl rfl) fun _ _ _ _ z => z) (pa_cons (pv 2) pa_nil)))
      (pss_cons (ps_if (pt_cmpR op_le (pe_fld (pv 0) (by rfl)) (pv 1) (nomark _)) (pss_one (ps_ret (pv 0))) pss_nil)
      (pss_one (ps_ret (pe_worth (C := C) (E := E) M T hr (by decide) (by rfl) (passes_call (takes_of rfl rfl rfl rfl) fun _ _ _ _ z => z) (pa_cons (pe_def D5 hr (by decide) (by rfl) pass0 (pa_cons (pe_fld (pv 0) (by rfl)) (pa_cons (pe_def D4 hr (by decide) (by rfl) pass0 (pa_cons (pe_op op_sub (pe_fld (pv 0) (by rfl)) (pv 1)) pa_nil)) (pa_cons (pv 2) pa_nil)))) (pa_cons (pv 1) pa_nil)))))))), ?_⟩
    rcases h with ⟨th, bad⟩ | ⟨a, u, s, rfl, wa, hs, ow, h⟩
    · exact ⟨_, rfl, x, rfl, .inr ⟨th, bad⟩⟩
    refine ⟨_, rfl, _, rfl, .inl ⟨a, u, s, rfl, wa, ?_⟩⟩
    rcases h with ⟨th, hy, bad⟩ | ⟨n, rfl, hn, h⟩
    · exact ⟨_, rfl, y, rfl, th, fun z => absurd (z.symm.trans hy) (by decide), fun _ => bad⟩
    refine ⟨_, rfl, .int n, rfl, .int _, fun _ => ?_, fun z => isWh_no z⟩
    rcases h with ⟨th, hz, bad⟩ | ⟨t, ht, rfl, q⟩
    · exact ⟨_, rfl, z, rfl, th, fun e => absurd (e.symm.trans hz) (by decide), fun _ => bad⟩
    refine ⟨_, rfl, .str t, rfl, .str _, fun _ => ?_, fun e => absurd ((isWay_ok ht).symm.trans e) (by decide)⟩
    obtain ⟨dx, ea⟩ := id wa
    refine ⟨_, rfl, a, W, dx, _, .int s, rfl, ea, T.cls, T.ns, lk_s _ _, _, rfl, _, _, rfl, rfl, _, rfl, ite2 (fun e => ?_) (fun e => ?_)⟩
    · have z : (s : Int) ≤ (n : Int) := of_decide_eq_true e
      refine ⟨_, rfl, q a u s H (fun _ _ e => e) wa ⟨by omega, ?_, ow⟩⟩
      unfold rnd
      rw [if_pos (by omega)]
    · have z : ¬ (s : Int) ≤ (n : Int) := fun y => e (decide_eq_true y)
      have g : (s : Int) - (n : Int) = ((s - n : Nat) : Int) := by omega
      refine ⟨_, rfl, a, W, dx, _, .int u, rfl, ea, T.cls, T.nu, lk_u _ _, _, rfl, a, W, dx, _, .int s, rfl, ea, T.cls, T.ns, lk_s _ _, _, rfl, _, _, rfl, rfl, ?_⟩
      dsimp only
      rw [g]
      refine ⟨s - n, rfl, by omega, _, rfl, u, _, t, rfl, ten_pos _, up_two (ten_lt (s - n)) (by omega), ht, fun H1 sm => ⟨_, rfl, worth_of (by omega) fun u' s' p H2 lw sm2 np wp => q p u' s' H2 (sm.trans sm2) wp ?_⟩⟩
      unfold rnd
      rw [if_neg (by omega)]
      exact lw
end
section
variable {P : Program} {w : World} {K : PySem.W.Frag} {mg : Str → Option Value} {base : Heap} {C W : Addr}
abbrev sOne : Stmt := topS 11
/-- an integer from 1 on -/
def isOne : V → Bool
  | .int i => decide (1 ≤ i)
  | _ => false
theorem scOne : FnScope ["value"] ["value"] (defScope sOne) := ⟨rfl, rfl, rfl, by decide +kernel, rfl, by decide +kernel, by decide +kernel⟩
def spOne : Sp := fun vs H Q _ => ∃ x : V, vs = [x] ∧ Thing H x ∧ Q (.bl (isOne x)) H
theorem ok_one (A : At K mg "is_integer_from_1" sOne ["value"]) (D : DefOk P w K mg base CX0 "is_an_integer" 1 ["value"] spIsInt) : DefOk P w K mg base CX0 "is_integer_from_1" 2 ["value"] spOne := by
  refine A.ok fun f fd F => F.ok scOne (fun vs H Q E h => ?_) (fun cdv A outer s H vs Q E hr h => ?_)
  · obtain ⟨x, rfl, _⟩ := h
    rfl
  · obtain ⟨x, rfl, th, q⟩ := h
    refine ⟨_, pss_one (ps_ret (pe_and (pe_def D hr (by decide) (by rfl) pass0 (pa_cons (pv 0) pa_nil)) (pe_one (pe_cmpR op_ge (pv 0) pe_int (nomark _))))), ?_⟩
    refine ⟨_, rfl, x, rfl, th, _, rfl, ite2 (fun e => ?_) (fun e => ?_)⟩
    · cases x <;> first | (exact ⟨_, rfl, _, _, rfl, rfl, q⟩) | (simp [Own.isInt] at e)
    · have z : isOne x = false := by cases x <;> first | rfl | (simp [Own.isInt] at e)
      rw [z] at q
      exact q
end
end K53

/-! own layer, of no law: OWNX: isinstance of a caught error with a field; a def called with a lambda written there. -/
namespace Own
open PySem PySem.Spec PyProof.Rows L2 LamX NdefX
/-- isinstance(e, c), e the exception with a dict that the suite holds -/
theorem call_isED {X : Cx} {a D : Addr} {oe : Obj} {cls : Value} {d : Option Addr} {pn : List (Addr × Obj)} (C : ExcC X.K D) (hz : Zc cls d oe) (hf : ∃ vs, oe.data = .fields vs) : CallR (X.suite a ((a, oe) :: pn)) (.builtin "isinstance")
    (fun xs H Q => ∃ (c : V) (cv : Value) (b : Bool) (dd : Addr) (fs : List (Str × V)), xs = [.ref a, c] ∧ cls = .ref D ∧ d = some dd ∧ H dd = some (.xd fs) ∧ ClsV c cv ∧ PySem.W.kitOne X.K (.ref D) cv = some b ∧ Q (.bl b) H) := by
  intro pins s σ H xs us Q I r h
  obtain ⟨c, cv, b, dd, fs, rfl, rfl, rfl, ea, hcv, e, q⟩ := h
  obtain ⟨u1, u2, rfl, r1, r2⟩ := vals2 r
  have ec := hcv.eq r2
  subst ec
  cases (show u1 = Value.ref a from r1)
  obtain ⟨hget, _⟩ := I.pin (a, oe) (List.mem_append.mpr (.inl List.mem_cons_self))
  obtain ⟨vs, hv⟩ := hf
  have hx : ObjOk X.prog X.w H s.heap dd (.xd fs) := I.hok dd _ ea
  obtain ⟨mA, hns, hr⟩ := hx
  obtain ⟨od, ho, hl⟩ := lookIn_ns hns
  have J : PySem.W.InstAt s.heap a oe D (some od) := ⟨hget, hz.1, by unfold PySem.W.notCls; rw [hv] <;> rfl, by rw [hz.2]; exact ho⟩
  obtain ⟨cd, hc, _⟩ := PySem.W.any_some C.hd
  exact PySem.W.kia_one (PySem.W.kitx_exc (by rw [hc]; rfl) C.hg C.hk C.hs C.ha C.hn C.ht C.hm) I.kIn J e (fun z => nomatch z) fun tk => ⟨.bl b, H, I.kept (t' := tk) fun _ _ z => z, rfl, q⟩
/-- x(lambda: ..), the lambda without parameters -/
def tLamDir (X : Cx) (T : List (Addr × Str)) (params : Arguments) (body : Expr) (scope : Scope) (js : List Nat) (sp : (Hp → VK → XK → Prop) → List V → Hp → VK → Prop) (spl : List (Option V) → Hp → VK → XK → Prop) : TE :=
  fun σ H Q => tCons (tLamV X T params body scope) tNil σ H fun vs H1 => ∃ f c' : Addr, vs = [.ref f] ∧ LamAt H1 f (lamF X params scope c') body ∧ H1 c' = some (CodeO c' (X.env.qual ++ "<lambda>")) ∧ sp (spl (js.map (slotAt σ))) [] H1 Q
theorem pe_lamdir {X : Cx} {T : List (Addr × Str)} {params : Arguments} {body : Expr} {scope : Scope} {js : List Nat} {fr : List Str} {k kl j : Nat} {sp : (Hp → VK → XK → Prop) → List V → Hp → VK → Prop} {spl : List (Option V) → Hp → VK → XK → Prop} {x : Str} {p pos lpos : Pos}
    (D : LamDefAt X.prog X.w X.K X.mg X.base x k sp) (hkl : kl < k) (hr : Room j X.A) (hj : k ≤ j) (G : ∀ (f c' : Addr), LOk X.prog X.w X.K X.mg X.base (L2.CX X.prog X.w) kl f (lamF X params scope c') body fr spl)
    (hl : PE X (.Lambda params body scope lpos) (tLamV X T params body scope))
    (hfree : ∀ y ∈ scope.names, y.2 = .free → X.env.scope.names.lookup y.1 = some .cell ∨ X.env.scope.names.lookup y.1 = some .free) (hfr : ∀ y ∈ fr, (y, NameKind.free) ∈ scope.names) (hjs : js.map (fun j => X.N[j]?) = fr.map some)
    (hg : Gl X x) (hdb : (x == ("__debug__" : Str)) = false := by decide) (he : starEach [.Lambda params body scope lpos] X.env = (false, eval (.Lambda params body scope lpos) X.env) :: starEach [] X.env := by rfl) (hpl : (backTo pos (starEach [] X.env)).any (·.1) = false := by rfl) :
    PE X (.Call (.Name x p) [.Lambda params body scope lpos] [] pos) (tLamDir X T params body scope js sp spl) := by
  obtain ⟨g, R, gm, kp⟩ := D.ex
  have ha := pa_cons hl pa_nil
  constructor
  intro pins s σ H Q I h
  refine wpAny_Call_Name_kw (ld_glob I hg gm ?_ hdb)
  refine PySem.W.callWith_K (h₀ := X.base) I.ok.mod.kin kp (thn (ha.run pos pins s σ H _ I h) ?_) he hpl
  rintro us s1 ⟨vs, H1, I1, r, f, c', rfl, hf, hc, q⟩
  refine ⟨I1.kIn, wpAny_call (codeAny_mono (R.run X.A X.stack s1 H1 us f [] _ _ _ _ _ kl Q (hr.mono hj) hkl I1.env0 r (G f c') hf hc (cells_blk I1 hfree hfr hjs) q) fun z s' hz => ?_)⟩
  rcases z with er | fl
  · exact (show False from hz).elim
  · cases fl
    case ret u => exact I1.after hz
    all_goals exact False.elim hz
/-- x is flat, or an object -/
def Selfy (x : V) : Prop := flatV x = true ∨ ∃ a, x = .ref a
theorem Odd.selfy {H : Hp} {x : V} (h : Odd H x) : Selfy x := by
  cases h with
  | flat h => exact .inl (by cases x <;> first | rfl | (simp [okF] at h))
  | lst e f => exact .inr ⟨_, rfl⟩
  | tup e f => exact .inr ⟨_, rfl⟩
  | dct e n f => exact .inr ⟨_, rfl⟩
theorem eqV_self {x : V} (h : flatV x = true) : eqV x x = true := by
  cases x <;> first | (cases h; done) | rfl | (simp [eqV]; done)
theorem selfy_at {A : Around} {s : Shared} {x : V} {u v : Value} (h : Selfy x) (ru : RelV x u) (rv : RelV x v) : SeqAt.EqAt A s u v true := by
  rcases h with h | ⟨a, rfl⟩
  · have z := eqAt_V (A := A) (s := s) ru rv h h
    rw [eqV_self h] at z
    exact z
  · cases (show u = Value.ref a from ru)
    cases (show v = Value.ref a from rv)
    exact SeqAt.EqAt.same _
/-- [x] == [x], [x] != [x] -/
def rOne (K : PySem.W.Frag) (b : Bool) : R2 := fun x y H Q => ∃ (l m : Addr) (z : V), x = .ref l ∧ y = .ref m ∧ SqL K H l [z] ∧ SqL K H m [z] ∧ Selfy z ∧ Q (.bl b) H
section
variable {X : Cx}
theorem one_at {pins : List (Addr × Obj)} {σ : L2.St} {H : Hp} {s : Shared} {l m : Addr} {z : V} (I : Inv X pins σ H s) (h1 : SqL X.K H l [z]) (h2 : SqL X.K H m [z]) (hz : Selfy z) : ∃ i1 i2 : Value, s.heap.IsList l #[i1] ∧ s.heap.IsList m #[i2] ∧ ∀ A : Around, SeqAt.EqAt A s i1 i2 true := by
  obtain ⟨its1, r1, l1, _⟩ := I.list h1
  obtain ⟨its2, r2, l2, _⟩ := I.list h2
  obtain ⟨v1, rfl, q1⟩ := r1.one
  obtain ⟨v2, rfl, q2⟩ := r2.one
  exact ⟨v1, v2, l1.isList, l2.isList, fun A => selfy_at hz q1 q2⟩
theorem op_eqOne (hu : X.A.units + 64 < cLine) : OpR X (compareOp .Eq) (rOne X.K true) := by
  intro pins s σ H x y v u Q I rx ry h
  obtain ⟨l, m, z, rfl, rfl, h1, h2, hz, q⟩ := h
  cases (show v = Value.ref l from rx)
  cases (show u = Value.ref m from ry)
  obtain ⟨i1, i2, e1, e2, at_⟩ := one_at I h1 h2 hz
  have := SeqAt.RcAt.lists (A := X.A) (e := fun _ => true) e1 e2 rfl (by omega) (fun j j1 j2 => by
    have a : j = 0 := by have : j < 1 := j1; omega
    subst a
    exact at_ _)
  exact this X.prog X.w _ _ ⟨.bl true, H, I, rfl, q⟩
theorem op_neOne (hu : X.A.units + 64 < cLine) : OpR X (compareOp .NotEq) (rOne X.K false) := by
  intro pins s σ H x y v u Q I rx ry h
  obtain ⟨l, m, z, rfl, rfl, h1, h2, hz, q⟩ := h
  cases (show v = Value.ref l from rx)
  cases (show u = Value.ref m from ry)
  obtain ⟨i1, i2, e1, e2, at_⟩ := one_at I h1 h2 hz
  have := SeqAt.RcNeAt.lists (A := X.A) (e := fun _ => true) e1 e2 rfl (by omega) (fun j j1 j2 => by
    have a : j = 0 := by have : j < 1 := j1; omega
    subst a
    exact at_ _)
  exact this X.prog X.w _ _ ⟨.bl false, H, I, rfl, q⟩
end
end Own

/-! own layer, of no law: OWNP: properties of the program's classes, told by the top. -/
namespace Own
open PySem PySem.Spec PyProof.Rows L2 LamX NdefX
/-- the getter of a property: (class, its name) -/
def pgA (K : PySem.W.Frag) (p : Str × Option Str) : Addr := match PySem.W.findIn K (.ref (He.ga K p.1)) (p.2.getD "") with
  | some (some (.ref q)) => (match PySem.W.recIn K q "property" with
    | some (.ref g :: _) => g
    | _ => 0)
  | _ => 0
def fnWA (K : PySem.W.Frag) (a : Addr) : He.FnW := match K.lookup a with
  | some ⟨_, _, .func fd, _⟩ => some (fd.name, fd.qualname, fd.params, fd.body, fd.scope, fd.globals, fd.closure, fd.builtins)
  | _ => none
def okA (K : PySem.W.Frag) (a : Addr) (q : Str) : Bool := PySem.W.keepIn K (.ref a) && (match K.lookup a with
  | some ⟨_, _, .func fd, _⟩ => PySem.W.codeIn K fd.code q && (He.dflB K fd.defaults [] && He.kwdB K fd.kwdefaults [])
  | _ => false)
def propB (K : PySem.W.Frag) (p : Str × Option Str) (q : Str) : Bool := (match PySem.W.findIn K (.ref (He.ga K p.1)) (p.2.getD "") with
  | some (some (.ref r)) => decide (PySem.W.specialIn K (.ref r) "__get__" = some (some (.builtin "property.__get__"))) && (decide (PySem.W.takesIn K (.ref r) = some true) && (match PySem.W.recIn K r "property" with
    | some (.ref _ :: _) => true
    | _ => false))
  | _ => false) && okA K (pgA K p) q
theorem funD_at {K : PySem.W.Frag} {a : Addr} {d : He.DefD} (e : fnWA K a = d.val) (c : okA K a d.qual = true) : ∃ fd, FunD K d.name d.qual d.params d.body d.scope [] [] a fd := by
  obtain ⟨kp, c2⟩ := He.ba c
  unfold fnWA at e
  cases q : K.lookup a with
  | none =>
    rw [q] at c2
    cases c2
  | some o =>
    obtain ⟨oc, od, dt, osl⟩ := o
    rw [q] at c2 e
    cases dt with
    | func fd =>
      obtain ⟨n1, n2, n3, n4, n5, n6, n7, n8, n9, n10, n11, n12, n13, n14, n15⟩ := fd
      have e2 : (some (n1, n2, n3, n4, n5, n6, n7, n15) : He.FnW) = some (d.name, d.qual, d.params, .stmts d.body, d.scope, mainGlobals, [], builtinsNs) := e
      simp only [Option.some.injEq, Prod.mk.injEq] at e2
      obtain ⟨h1, h2, h3, h4, h5, h6, h7, h8⟩ := e2
      subst h1 h2 h3 h4 h5 h6 h7 h8
      have c3 : (PySem.W.codeIn K n13 d.qual && (He.dflB K n8 [] && He.kwdB K n9 [])) = true := c2
      obtain ⟨k1, k2⟩ := He.ba c3
      obtain ⟨k3, k4⟩ := He.ba k2
      exact ⟨_, ⟨oc, od, n8, n9, n10, n11, n12, n13, n14, osl, rfl, q, k1, He.dflB_ok k3, He.kwdB_ok k4⟩, kp⟩
    | _ => cases c2
theorem prop_ok {K : PySem.W.Frag} {C f : Str} {q : Str} (h : propB K (C, some f) q = true) : (∃ p, PropOf K (He.ga K C) f p (pgA K (C, some f))) ∧ okA K (pgA K (C, some f)) q = true := by
  obtain ⟨h1, h2⟩ := He.ba h
  refine ⟨?_, h2⟩
  have h1 : (match PySem.W.findIn K (.ref (He.ga K C)) f with
    | some (some (.ref r)) => decide (PySem.W.specialIn K (.ref r) "__get__" = some (some (.builtin "property.__get__"))) && (decide (PySem.W.takesIn K (.ref r) = some true) && (match PySem.W.recIn K r "property" with
      | some (.ref _ :: _) => true
      | _ => false))
    | _ => false) = true := h1
  have e : pgA K (C, some f) = (match PySem.W.findIn K (.ref (He.ga K C)) f with
    | some (some (.ref q)) => (match PySem.W.recIn K q "property" with
      | some (.ref g :: _) => g
      | _ => 0)
    | _ => 0) := rfl
  cases a : PySem.W.findIn K (.ref (He.ga K C)) f with
  | none => rw [a] at h1; cases h1
  | some a1 =>
    cases a1 with
    | none => rw [a] at h1; cases h1
    | some v =>
      cases v with
      | ref r =>
        rw [a] at h1 e
        obtain ⟨b1, b2⟩ := He.ba h1
        obtain ⟨b2, b3⟩ := He.ba b2
        have b3 : (match PySem.W.recIn K r "property" with
          | some (.ref _ :: _) => true
          | _ => false) = true := b3
        have e : pgA K (C, some f) = (match PySem.W.recIn K r "property" with
          | some (.ref g :: _) => g
          | _ => 0) := e
        refine ⟨r, a, of_decide_eq_true b1, of_decide_eq_true b2, ?_⟩
        cases c : PySem.W.recIn K r "property" with
        | none => rw [c] at b3; cases b3
        | some l =>
          cases l with
          | nil => rw [c] at b3; cases b3
          | cons x rest =>
            cases x with
            | ref g =>
              rw [c] at e
              have e : pgA K (C, some f) = g := e
              rw [e]
              exact ⟨rest, rfl⟩
            | _ => rw [c] at b3; cases b3
      | _ => rw [a] at h1; cases h1
/-- what is told: the getters' texts besides -/
structure SaysP (ps : List He.DefD) (K : PySem.W.Frag) : Prop where
  g : ps.map (fun d => fnWA K (pgA K d.at_)) = ps.map He.DefD.val
theorem SaysP.at_ {ps : List He.DefD} {K : PySem.W.Frag} (c : SaysP ps K) (i : Nat) {d : He.DefD} (h : ps[i]? = some d) : fnWA K (pgA K d.at_) = d.val := by
  have e : (ps.map fun d => fnWA K (pgA K d.at_))[i]? = (ps.map He.DefD.val)[i]? := by rw [c.g]
  rw [List.getElem?_map, List.getElem?_map, h] at e
  exact Option.some.inj e
abbrev AlP : Type := He.AlX × List He.FnW
def obsP (n : Nat) (fa : List He.Fa) (fn : List He.DefD) (ts : List He.Tab) (tf : List He.Defn) (ex : PySem.W.Frag → Bool) (ps : List He.DefD) (g : Addr → Option Obj) : AlP :=
  (He.obsX n fa fn ts tf ex g, ps.map fun d => fnWA (He.frT g (He.asD g n)) (pgA (He.frT g (He.asD g n)) d.at_))
def valP (fn : List He.DefD) (ts : List He.Tab) (ps : List He.DefD) (w : World) : AlP := (He.valX fn ts w, ps.map He.DefD.val)
def hookP (n : Nat) (fa : List He.Fa) (fn : List He.DefD) (ts : List He.Tab) (tf : List He.Defn) (ex : PySem.W.Frag → Bool) (ps : List He.DefD) : PySem.W.Hook where
  α := AlP
  obs := fun s => obsP n fa fn ts tf ex ps s.heap.get?
  val := fun w => valP fn ts ps w
  says := fun w h => ∃ K : PySem.W.Frag, K.In h ∧ He.SaysX fa fn ts tf ex w h K ∧ SaysP ps K
  of := fun _ _ e => ⟨_, He.frT_in, He.saysX_of (congrArg (fun z : AlP => z.1) e), ⟨congrArg (fun z : AlP => z.2) e⟩⟩
  keeps := fun _ _ _ ⟨K, hK, c, d⟩ k => ⟨K, PySem.W.Frag.In.keeps hK k, ⟨c.t, c.more, c.hd, c.out, fun p hp => k _ _ (c.empty p hp)⟩, d⟩
theorem obsP_eq {n : Nat} {fa : List He.Fa} {fn : List He.DefD} {ts : List He.Tab} {tf : List He.Defn} {ex : PySem.W.Frag → Bool} {ps : List He.DefD} {g : Addr → Option Obj} {s : Shared} (h : ∀ a, g a = s.heap.get? a) : obsP n fa fn ts tf ex ps g = (hookP n fa fn ts tf ex ps).obs s := by
  have e : g = s.heap.get? := funext h
  rw [e] <;> rfl
end Own

/-! own layer, of no law: OWNN: rounding as a fraction's. -/
namespace Own
open PySem PySem.Spec PyProof.Rows L2 LamX NdefX
theorem near_lo {n d : Int} (t : Str) : n / d ≤ near n d t := by
  unfold near
  split
  · exact Int.le_refl _
  · split <;> omega
theorem near_hi {n d : Int} (t : Str) : near n d t ≤ n / d + 1 := by
  unfold near
  split
  · omega
  · split <;> omega
theorem near_mul {k d : Int} (h : 0 < d) (t : Str) : near (k * d) d t = k := by
  unfold near
  rw [if_pos (Int.mul_emod_left k d), Int.mul_ediv_cancel _ (by omega)]
theorem goes_up_mono {z : Str} {b p p' : Int} (h : p ≤ p') (g : goesUp z b p = true) : goesUp z b p' = true := by
  unfold goesUp at g ⊢
  cases e : halvL.lookup z with
  | none =>
    rw [e] at g
    exact g
  | some y =>
    rw [e] at g
    dsimp only at g ⊢
    by_cases h1 : p = 0
    · rw [if_pos h1] at g
      by_cases h2 : p' = 0
      · rw [if_pos h2]
        exact g
      · rw [if_neg h2]
        exact decide_eq_true (by omega)
    · rw [if_neg h1] at g
      have h3 : 0 < p := of_decide_eq_true g
      rw [if_neg (by omega)]
      exact decide_eq_true (by omega)
/-- what goesUp asks of p is its sign alone -/
theorem goes_scale {z : Str} {b p c : Int} (hc : 0 < c) : goesUp z b (p * c) = goesUp z b p := by
  unfold goesUp
  cases e : halvL.lookup z with
  | none => rfl
  | some y =>
    dsimp only
    by_cases h : p = 0
    · subst h
      simp
    · have h1 : p * c ≠ 0 := Int.mul_ne_zero h (by omega)
      rw [if_neg h, if_neg h1]
      by_cases h2 : 0 < p
      · rw [decide_eq_true h2, decide_eq_true (Int.mul_pos h2 hc)]
      · have h3 : p * c < 0 := Int.mul_neg_of_neg_of_pos (by omega) hc
        rw [decide_eq_false h2, decide_eq_false (by omega)]
theorem near_scale {n d c : Int} (hd : 0 < d) (hc : 0 < c) (t : Str) : near (n * c) (d * c) t = near n d t := by
  have e1 : n * c / (d * c) = n / d := Int.mul_ediv_mul_of_pos_left n d hc
  have e2 : n * c % (d * c) = n % d * c := by
    rw [Int.emod_def, e1, Int.emod_def, Int.sub_mul]
    congr 1
    simp only [Int.mul_assoc, Int.mul_comm, Int.mul_left_comm]
  unfold near
  rw [e1, e2]
  by_cases h : n % d = 0
  · rw [if_pos h, if_pos (by rw [h, Int.zero_mul])]
  · rw [if_neg h, if_neg (Int.mul_ne_zero h (by omega))]
    have e3 : 2 * (n % d * c) - d * c = (2 * (n % d) - d) * c := by rw [Int.sub_mul, Int.mul_assoc]
    rw [e3, goes_scale hc]
/-- it hangs on the fraction alone -/
theorem near_ratio {n d n' d' : Int} (hd : 0 < d) (hd' : 0 < d') (h : n * d' = n' * d) (t : Str) : near n d t = near n' d' t := by
  rw [← near_scale (n := n) (d := d) hd hd' t, h, Int.mul_comm d d', near_scale hd' hd t]
theorem near_mono0 {n n' d : Int} (hd : 0 < d) (h : n ≤ n') (t : Str) : near n d t ≤ near n' d t := by
  have a : n / d ≤ n' / d := Int.ediv_le_ediv hd h
  by_cases e : n / d = n' / d
  · have r0 := Int.emod_nonneg n (show d ≠ 0 by omega)
    have r1 := Int.emod_lt_of_pos n hd
    have m := Int.emod_add_mul_ediv n d
    have m' := Int.emod_add_mul_ediv n' d
    rw [← e] at m'
    have hr : n % d ≤ n' % d := by omega
    by_cases h0 : n % d = 0
    · have z : near n d t = n / d := by
        unfold near
        rw [if_pos h0]
      rw [z, e]
      exact near_lo t
    · have hx : ¬ n' % d = 0 := by omega
      unfold near
      rw [if_neg h0, if_neg hx, ← e]
      by_cases g : goesUp t (n / d) (2 * (n % d) - d) = true
      · rw [if_pos g, if_pos (goes_up_mono (by omega) g)]
        exact Int.le_refl _
      · rw [if_neg g]
        split <;> omega
  · have z1 := near_hi (n := n) (d := d) t
    have z2 := near_lo (n := n') (d := d) t
    omega
theorem near_mono {n d n' d' : Int} (hd : 0 < d) (hd' : 0 < d') (h : n * d' ≤ n' * d) (t : Str) : near n d t ≤ near n' d' t := by
  rw [← near_scale (n := n) (d := d) hd hd' t, ← near_scale (n := n') (d := d') hd' hd t, Int.mul_comm d' d]
  exact near_mono0 (Int.mul_pos hd hd') h t
theorem near_nat {n d : Int} (hd : 0 < d) (t : Str) : (near n d t).natAbs ≤ n.natAbs + 1 := by
  have a := near_lo (n := n) (d := d) t
  have b := near_hi (n := n) (d := d) t
  have c := Int.natAbs_ediv_le_natAbs n d
  omega
/-- what a rounded number keeps to -/
def absZ (u : Int) : Int := if u < 0 then -u else u
def keepP (off : Int) (nr fr : Bool) : List (Str × V) := [("floor", .bl (decide (off < 0))), ("ceiling", .bl (decide (off > 0))), ("cut", .bl nr), ("away", .bl fr)]
def keepH (off : Int) (nr fr ev : Bool) : List (Str × V) := [("halfup", .bl (decide (off > 0))), ("halfdown", .bl (decide (off < 0))), ("halfeven", .bl ev), ("halfaway", .bl fr), ("halfcut", .bl nr)]
theorem keep_ok {n d : Int} (h0 : 0 < d) (hr : n % d ≠ 0) {z : Str} (hz : z ∈ waysL) : absZ (near n d z * d - n) < d ∧
    (∀ v, (keepP (near n d z * d - n) (decide (absZ (near n d z) * d < absZ n)) (decide (absZ (near n d z) * d > absZ n))).lookup z = some v → v = .bl true) ∧
    ((keepP (near n d z * d - n) (decide (absZ (near n d z) * d < absZ n)) (decide (absZ (near n d z) * d > absZ n))).lookup z = none → (2 * absZ (near n d z * d - n) ≠ d → 2 * absZ (near n d z * d - n) < d) ∧
      (2 * absZ (near n d z * d - n) = d → (keepH (near n d z * d - n) (decide (absZ (near n d z) * d < absZ n)) (decide (absZ (near n d z) * d > absZ n)) (decide (near n d z % 2 = 0))).lookup z = some (.bl true))) := by
  have r0 := Int.emod_nonneg n (show d ≠ 0 by omega)
  have r1 := Int.emod_lt_of_pos n h0
  have em := Int.emod_add_mul_ediv n d
  have eu : near n d z = if goesUp z (n / d) (2 * (n % d) - d) = true then n / d + 1 else n / d := by
    unfold near
    rw [if_neg hr]
  rw [eu]
  generalize n / d = q at em ⊢
  generalize n % d = r at hr r0 r1 em ⊢
  have em2 : q * d = n - r := by rw [Int.mul_comm]; omega
  have e1 : (q + 1) * d = n - r + d := by rw [Int.add_mul, em2, Int.one_mul]
  have e2 : -q * d = r - n := by rw [Int.neg_mul, em2]; omega
  have e3 : -(q + 1) * d = r - n - d := by rw [Int.neg_mul, e1]; omega
  have sg : (0 ≤ q ∧ 0 < n) ∨ (q < 0 ∧ n < 0) := by
    by_cases h : 0 ≤ q
    · have := Int.mul_nonneg h (Int.le_of_lt h0)
      exact .inl ⟨h, by omega⟩
    · have h2 : (q + 1) * d ≤ 0 := by
        have := Int.mul_nonneg (show 0 ≤ -(q + 1) by omega) (Int.le_of_lt h0)
        rw [Int.neg_mul] at this
        omega
      exact .inr ⟨by omega, by omega⟩
  -- the four numbers, up or not
  have up1 : ∀ b : Bool, (if b = true then q + 1 else q) * d - n = if b = true then d - r else -r := fun b => by cases b <;> simp <;> omega
  have up2 : ∀ b : Bool, absZ (if b = true then d - r else -r) = if b = true then d - r else r := fun b => by
    unfold absZ
    cases b <;> simp <;> omega
  have up3 : ∀ b : Bool, decide (absZ (if b = true then q + 1 else q) * d < absZ n) = (if b = true then decide (q < 0) else decide (0 ≤ q)) ∧ decide (absZ (if b = true then q + 1 else q) * d > absZ n) = (if b = true then decide (0 ≤ q) else decide (q < 0)) := fun b => by
    unfold absZ
    rcases sg with ⟨a, c⟩ | ⟨a, c⟩
    · cases b
      · simp only [Bool.false_eq_true, if_false]
        rw [if_neg (by omega), if_neg (by omega), em2, decide_eq_true (show n - r < n by omega), decide_eq_false (show ¬ n - r > n by omega), decide_eq_true a, decide_eq_false (by omega)]
        exact ⟨rfl, rfl⟩
      · simp only [if_true]
        rw [if_neg (by omega), if_neg (by omega), e1, decide_eq_false (show ¬ n - r + d < n by omega), decide_eq_true (show n - r + d > n by omega), decide_eq_true a, decide_eq_false (by omega)]
        exact ⟨rfl, rfl⟩
    · cases b
      · simp only [Bool.false_eq_true, if_false]
        rw [if_pos a, if_pos c, e2, decide_eq_false (show ¬ r - n < -n by omega), decide_eq_true (show r - n > -n by omega), decide_eq_true a, decide_eq_false (by omega)]
        exact ⟨rfl, rfl⟩
      · simp only [if_true]
        have e4 : (if q + 1 < 0 then -(q + 1) else q + 1) * d = r - n - d := by
          split
          · exact e3
          · have : q + 1 = 0 := by omega
            rw [this] at e1 ⊢
            omega
        rw [if_pos c, e4, decide_eq_true (show r - n - d < -n by omega), decide_eq_false (show ¬ r - n - d > -n by omega), decide_eq_true a, decide_eq_false (by omega)]
        exact ⟨rfl, rfl⟩
  generalize hb : goesUp z q (2 * r - d) = b
  rw [up1, (up3 b).1, (up3 b).2, up2]
  clear up1 up2 up3 eu e1 e2 e3 em em2
  refine ⟨by cases b <;> simp <;> omega, ?_⟩
  rcases way_cases hz with rfl | rfl | rfl | rfl | rfl | rfl | rfl | rfl | rfl
  · rw [goes_none (k := 4) (by decide +kernel) (by decide +kernel)] at hb
    subst hb
    refine ⟨fun v e => ?_, fun e => by cases (show some _ = none from e)⟩
    have e' := Option.some.inj e
    rw [← e']
    simp [kUp]
    omega
  · rw [goes_none (k := 3) (by decide +kernel) (by decide +kernel)] at hb
    subst hb
    refine ⟨fun v e => ?_, fun e => by cases (show some _ = none from e)⟩
    have e' := Option.some.inj e
    rw [← e']
    simp [kUp]
    omega
  · rw [goes_none (k := 1) (by decide +kernel) (by decide +kernel)] at hb
    subst hb
    refine ⟨fun v e => ?_, fun e => by cases (show some _ = none from e)⟩
    have e' := Option.some.inj e
    rw [← e']
    rcases sg with ⟨a, c⟩ | ⟨a, c⟩
    all_goals (simp [kUp] <;> omega)
  · rw [goes_none (k := 2) (by decide +kernel) (by decide +kernel)] at hb
    subst hb
    refine ⟨fun v e => ?_, fun e => by cases (show some _ = none from e)⟩
    have e' := Option.some.inj e
    rw [← e']
    rcases sg with ⟨a, c⟩ | ⟨a, c⟩
    all_goals (simp [kUp] <;> omega)
  · rw [goes_some (y := "ceiling") (k := 3) (by decide +kernel) (by decide +kernel)] at hb
    refine ⟨fun v e => (by cases (show none = some v from e)), fun _ => ⟨fun hn => ?_, fun he => ?_⟩⟩
    · by_cases g : 2 * r - d = 0
      · exact absurd (show 2 * (if b = true then d - r else r) = d by cases b <;> simp <;> omega) hn
      · rw [if_neg g] at hb
        subst hb
        by_cases g2 : 0 < 2 * r - d
        · rw [decide_eq_true g2, if_pos rfl]
          omega
        · rw [decide_eq_false g2, if_neg (by decide)]
          omega
    · have g : 2 * r - d = 0 := by cases b <;> simp at he <;> omega
      rw [if_pos g] at hb
      subst hb
      refine congrArg some (congrArg V.bl ?_)
      simp only [kUp]
      rcases sg with ⟨a, c⟩ | ⟨a, c⟩
      all_goals (simp <;> (repeat split) <;> omega)
  · rw [goes_some (y := "floor") (k := 4) (by decide +kernel) (by decide +kernel)] at hb
    refine ⟨fun v e => (by cases (show none = some v from e)), fun _ => ⟨fun hn => ?_, fun he => ?_⟩⟩
    · by_cases g : 2 * r - d = 0
      · exact absurd (show 2 * (if b = true then d - r else r) = d by cases b <;> simp <;> omega) hn
      · rw [if_neg g] at hb
        subst hb
        by_cases g2 : 0 < 2 * r - d
        · rw [decide_eq_true g2, if_pos rfl]
          omega
        · rw [decide_eq_false g2, if_neg (by decide)]
          omega
    · have g : 2 * r - d = 0 := by cases b <;> simp at he <;> omega
      rw [if_pos g] at hb
      subst hb
      refine congrArg some (congrArg V.bl ?_)
      simp only [kUp]
      rcases sg with ⟨a, c⟩ | ⟨a, c⟩
      all_goals (simp <;> (repeat split) <;> omega)
  · rw [goes_some (y := "even") (k := 0) (by decide +kernel) (by decide +kernel)] at hb
    refine ⟨fun v e => (by cases (show none = some v from e)), fun _ => ⟨fun hn => ?_, fun he => ?_⟩⟩
    · by_cases g : 2 * r - d = 0
      · exact absurd (show 2 * (if b = true then d - r else r) = d by cases b <;> simp <;> omega) hn
      · rw [if_neg g] at hb
        subst hb
        by_cases g2 : 0 < 2 * r - d
        · rw [decide_eq_true g2, if_pos rfl]
          omega
        · rw [decide_eq_false g2, if_neg (by decide)]
          omega
    · have g : 2 * r - d = 0 := by cases b <;> simp at he <;> omega
      rw [if_pos g] at hb
      subst hb
      refine congrArg some (congrArg V.bl ?_)
      simp only [kUp]
      rcases sg with ⟨a, c⟩ | ⟨a, c⟩
      all_goals (simp <;> (repeat split) <;> omega)
  · rw [goes_some (y := "away") (k := 2) (by decide +kernel) (by decide +kernel)] at hb
    refine ⟨fun v e => (by cases (show none = some v from e)), fun _ => ⟨fun hn => ?_, fun he => ?_⟩⟩
    · by_cases g : 2 * r - d = 0
      · exact absurd (show 2 * (if b = true then d - r else r) = d by cases b <;> simp <;> omega) hn
      · rw [if_neg g] at hb
        subst hb
        by_cases g2 : 0 < 2 * r - d
        · rw [decide_eq_true g2, if_pos rfl]
          omega
        · rw [decide_eq_false g2, if_neg (by decide)]
          omega
    · have g : 2 * r - d = 0 := by cases b <;> simp at he <;> omega
      rw [if_pos g] at hb
      subst hb
      refine congrArg some (congrArg V.bl ?_)
      simp only [kUp]
      rcases sg with ⟨a, c⟩ | ⟨a, c⟩
      all_goals (simp <;> (repeat split) <;> omega)
  · rw [goes_some (y := "cut") (k := 1) (by decide +kernel) (by decide +kernel)] at hb
    refine ⟨fun v e => (by cases (show none = some v from e)), fun _ => ⟨fun hn => ?_, fun he => ?_⟩⟩
    · by_cases g : 2 * r - d = 0
      · exact absurd (show 2 * (if b = true then d - r else r) = d by cases b <;> simp <;> omega) hn
      · rw [if_neg g] at hb
        subst hb
        by_cases g2 : 0 < 2 * r - d
        · rw [decide_eq_true g2, if_pos rfl]
          omega
        · rw [decide_eq_false g2, if_neg (by decide)]
          omega
    · have g : 2 * r - d = 0 := by cases b <;> simp at he <;> omega
      rw [if_pos g] at hb
      subst hb
      refine congrArg some (congrArg V.bl ?_)
      simp only [kUp]
      rcases sg with ⟨a, c⟩ | ⟨a, c⟩
      all_goals (simp <;> (repeat split) <;> omega)
end Own

/-! k53: the class Shape. -/
namespace K53
open PySem PySem.Spec PyProof.Rows L2 LamX NdefX Own
abbrev shI (i : Nat) : Stmt := inClass (topS 31) i
/-- what the class is -/
structure ShapeC (K : PySem.W.Frag) (mg : Str → Option Value) (S : Addr) : Prop where
  g : mg "Shape" = some (.ref S)
  cls : Cls K S
  nw : NoAttr K S "whole"
  ns : NoAttr K S "scale"
/-- a Shape stands at a: u whole figures, s places -/
def SAt (S : Addr) (H : Hp) (a : Addr) (u s : Nat) : Prop := ∃ dx, H a = some (.ins S dx [("whole", .int u), ("scale", .int s)])
theorem SAt.same {S a : Addr} {H H' : Hp} {u s : Nat} (h : SAt S H a u s) (z : Same H H') : SAt S H' a u s := by
  obtain ⟨dx, e⟩ := h
  exact ⟨dx, z _ _ e⟩
theorem lkW (u s : V) : (([("whole", u), ("scale", s)] : List (Str × V))).lookup ("whole" : Str) = some u := by simp [List.lookup]
theorem lkS (u s : V) : (([("whole", u), ("scale", s)] : List (Str × V))).lookup ("scale" : Str) = some s := by
  have e : (("scale" : Str) == "whole") = false := by decide +kernel
  simp [List.lookup, e]
theorem putS2 (u s : V) : putF "scale" s (putF "whole" u []) = ([("whole", u), ("scale", s)] : List (Str × V)) := by
  have e : ¬ (("whole" : Str) = "scale") := by decide +kernel
  simp [putF, e]
section
variable {P : Program} {w : World} {K : PySem.W.Frag} {mg : Str → Option Value} {base : Heap} {C CN S : Addr}
theorem scSI : FnScope ["self", "whole", "scale"] ["self", "whole", "scale"] (defScope (shI 0)) := ⟨rfl, rfl, rfl, by decide +kernel, rfl, by decide +kernel, by decide +kernel⟩
def spSI (C CN S : Addr) : Sp := fun vs H Q E => ∃ (a dx : Addr) (x y : V), vs = [.ref a, x, y] ∧ H a = some (.ins S dx []) ∧ Thing H x ∧ Thing H y ∧ (isWh x = false → Bad C "value" x H E) ∧ (isWh x = true → isWh y = false → Bad C "value" y H E) ∧
  ∀ (u s : Nat), x = .int u → y = .int s → (u = 0 → s = 0 → E (.ref CN) none H) ∧ (¬ (u = 0 ∧ s = 0) → Q .non (upd H a (.ins S dx [("whole", .int u), ("scale", .int s)])))
theorem ok_sI {f : Addr} {fd : FuncData} (F : Fun K "__init__" "Shape.__init__" (shI 0) f fd) (T : ShapeC K mg S) (TN : ErrN P w K mg base "NoFigures" CN) (D2 : DefOk P w K mg base (L2.CX P w) "need_whole_number" 3 ["value"] (spNWh C)) :
    FnOk P w K mg base (L2.CX P w) 4 f fd ["self", "whole", "scale"] (spSI C CN S) := by
  refine F.okX scSI (fun vs H Q E h => ?_) (fun cdv A outer s0 H vs Q E hr h => ?_)
  · obtain ⟨a, dx, x, y, rfl, _⟩ := h
    rfl
  · obtain ⟨a, dx, x, y, rfl, ha, tx, ty, q1, q2, q3⟩ := h
    refine ⟨_, pss_cons (ps_expr (pe_def (E := E) D2 hr (by decide) (by rfl) (passes_call (takes_of rfl rfl rfl rfl) fun _ _ _ _ z => z) (pa_cons (pv 1) pa_nil)))
      (pss_cons (ps_expr (pe_def (E := E) D2 hr (by decide) (by rfl) (passes_call (takes_of rfl rfl rfl rfl) fun _ _ _ _ z => z) (pa_cons (pv 2) pa_nil)))
      (pss_cons (ps_if (PW.pt (pw_and (pt_cmpR op_eq (pv 1) pe_int (nomark _)) (pw_and1 (pt_cmpR op_eq (pv 2) pe_int (nomark _))))) (pss_one (ps_raise rfl (takes_of rfl rfl rfl rfl) (pmk_errN TN hr (by decide) (by rfl)))) pss_nil)
      (pss_cons (ps_fld (pv 0) (pv 1) rfl) (pss_one (ps_fld (pv 0) (pv 2) rfl))))), ?_⟩
    refine ⟨_, rfl, x, rfl, tx, fun hx => ?_, q1⟩
    refine ⟨_, rfl, y, rfl, ty, fun hy => ?_, q2 hx⟩
    obtain ⟨u, rfl⟩ := isWh_nat hx
    obtain ⟨s, rfl⟩ := isWh_nat hy
    obtain ⟨q4, q5⟩ := q3 u s rfl rfl
    refine ⟨_, rfl, rfl, _, rfl, ite2 (fun e => ?_) (fun e => ?_)⟩
    · have u0 : u = 0 := by
        have z : (u : Int) = 0 := by simpa using e
        omega
      refine ⟨_, rfl, rfl, _, rfl, ite2 (fun e2 => ?_) (fun e2 => ?_)⟩
      · have s0 : s = 0 := by
          have z : (s : Int) = 0 := by simpa using e2
          omega
        exact q4 u0 s0
      · have s0 : s ≠ 0 := by
          have z : ¬ (s : Int) = 0 := by simpa using e2
          omega
        refine ⟨_, rfl, _, rfl, a, S, dx, [], rfl, ha, T.cls, T.nw, by decide, ?_⟩
        refine ⟨_, rfl, _, rfl, a, S, dx, _, rfl, upd_same, T.cls, T.ns, by show 1 < 1000; decide, ?_⟩
        rw [upd_upd, putS2]
        exact q5 (fun z => s0 z.2)
    · have u0 : u ≠ 0 := by
        have z : ¬ (u : Int) = 0 := by simpa using e
        omega
      refine ⟨_, rfl, _, rfl, a, S, dx, [], rfl, ha, T.cls, T.nw, by decide, ?_⟩
      refine ⟨_, rfl, _, rfl, a, S, dx, _, rfl, upd_same, T.cls, T.ns, by show 1 < 1000; decide, ?_⟩
      rw [upd_upd, putS2]
      exact q5 (fun z => u0 z.1)
end
end K53

/-! k53: Shapes made, told, needed. -/
namespace K53
open PySem PySem.Spec PyProof.Rows L2 LamX NdefX Own
section
variable {P : Program} {w : World} {K : PySem.W.Frag} {mg : Str → Option Value} {base : Heap} {C CN S : Addr}
/-- how the class is called -/
structure SMk (P : Program) (w : World) (K : PySem.W.Frag) (mg : Str → Option Value) (base : Heap) (C CN S : Addr) : Prop where
  ex : ∃ (fI : Addr) (fd : FuncData), Mk K S fI ∧ FnOk P w K mg base (L2.CX P w) 4 fI fd ["self", "whole", "scale"] (spSI C CN S) ∧ Binds K fd ["self", "whole", "scale"] []
/-- what the call Shape(x, y) gives -/
def spShape (C CN S : Addr) : Sp := fun vs H Q E => ∃ x y : V, vs = [x, y] ∧ Thing H x ∧ Thing H y ∧ (isWh x = false → Bad C "value" x H E) ∧ (isWh x = true → isWh y = false → Bad C "value" y H E) ∧
  ∀ (u s : Nat), x = .int u → y = .int s → (u = 0 → s = 0 → ∀ H', Same H H' → E (.ref CN) none H') ∧ (¬ (u = 0 ∧ s = 0) → ∀ (a : Addr) (H' : Hp), Same H H' → H a = none → SAt S H' a u s → Q (.ref a) H')
theorem shape_make {vs : List V} {H : Hp} {Q : VK} {E : XK} (h : spShape C CN S vs H Q E) (a dx : Addr) (na : H a = none) (nd : H dx = none) (ne : dx ≠ a) : spSI C CN S (.ref a :: vs) (upd (upd H dx (.own a)) a (.ins S dx [])) (fun v H2 => v = .non ∧ Q (.ref a) H2) E := by
  obtain ⟨x, y, rfl, tx, ty, q1, q2, q3⟩ := h
  have na1 : upd H dx (.own a) a = none := (upd_ne ne.symm).trans na
  have s1 : Same H (upd (upd H dx (.own a)) a (.ins S dx [])) := (same_new nd).trans (same_new na1)
  refine ⟨a, dx, x, y, rfl, upd_same, tx.same s1, ty.same s1, fun z => (q1 z).same s1, fun z1 z2 => (q2 z1 z2).same s1, fun u s e1 e2 => ?_⟩
  obtain ⟨q4, q5⟩ := q3 u s e1 e2
  refine ⟨fun z1 z2 => q4 z1 z2 _ s1, fun z => ⟨rfl, q5 z a _ (fun b o e => ?_) na ⟨dx, upd_same⟩⟩⟩
  rw [upd_upd]
  exact ((same_new nd).trans (same_new na1)) _ _ e
/-- a Shape of whole numbers that are not both 0 -/
theorem shape_of {u s : Nat} {H : Hp} {Q : VK} {E : XK} (h : ¬ (u = 0 ∧ s = 0)) (q : ∀ (a : Addr) (H' : Hp), Same H H' → H a = none → SAt S H' a u s → Q (.ref a) H') : spShape C CN S [.int u, .int s] H Q E := by
  refine ⟨.int u, .int s, rfl, .int _, .int _, fun z => isWh_no z, fun _ z => isWh_no z, fun u' s' e1 e2 => ?_⟩
  obtain rfl : u = u' := by have := V.int.inj e1; omega
  obtain rfl : s = s' := by have := V.int.inj e2; omega
  exact ⟨fun z1 z2 => absurd ⟨z1, z2⟩ h, fun _ => q⟩
section
variable {X : Cx} {k : Nat} {E : XK} {p pos : Pos} {e e1 e2 : Expr} {t : TA} {ta : TE}
theorem pe_shape (M : SMk X.prog X.w X.K X.mg X.base C CN S) (T : ShapeC X.K X.mg S) (hr : Room k X.A) (hk : 5 ≤ k) (hg : Gl X "Shape") (hx : Passes (L2.CX X.prog X.w) X E) (ha : PA X [e1, e2] t)
    (he : starEach [e1, e2] X.env = (false, eval e1 X.env) :: starEach [e2] X.env := by rfl) (hpl : (backTo pos (starEach [e2] X.env)).any (·.1) = false := by rfl) : PE X (.Call (.Name "Shape" p) [e1, e2] [] pos) (tCall (spShape C CN S) [] E t) := by
  obtain ⟨fI, fd, mk, F, b2⟩ := M.ex
  constructor
  intro pins s σ H Q I h
  refine wpAny_Call_Name_kw (ld_glob I hg T.g ?_ (by decide))
  refine PySem.W.callWith_K (h₀ := X.base) I.ok.mod.kin mk.kp (thn (ha.run pos pins s σ H _ I h) ?_) he hpl
  rintro us s1 ⟨vs, H1, I1, r, q⟩
  refine ⟨I1.kIn, run_make mk F (hr.mono hk) b2 .nil hx I1 r fun a dx na nd ne => ?_⟩
  rw [List.append_nil] at q ⊢
  exact shape_make q a dx na nd ne
end
/-! ### width -/
theorem scWid : FnScope ["self"] ["self"] (defScope (shI 2)) := ⟨rfl, rfl, rfl, by decide +kernel, rfl, by decide +kernel, by decide +kernel⟩
def spWid (S : Addr) : Sp := fun vs H Q _ => ∃ (a : Addr) (u s : Nat), vs = [.ref a] ∧ SAt S H a u s ∧ Q (.int ((u + s : Nat) : Int)) H
theorem ok_wid {f : Addr} {fd : FuncData} (F : Fun K "width" "Shape.width" (shI 2) f fd) (T : ShapeC K mg S) : FnOk P w K mg base CX0 1 f fd ["self"] (spWid S) := by
  refine F.ok scWid (fun vs H Q E h => ?_) (fun cdv A outer s0 H vs Q E hr h => ?_)
  · obtain ⟨a, u, s, rfl, _⟩ := h
    rfl
  · obtain ⟨a, u, s, rfl, ⟨dx, ea⟩, q⟩ := h
    refine ⟨_, pss_one (ps_ret (pe_op op_add (pe_fld (pv 0) (by rfl)) (pe_fld (pv 0) (by rfl)))), ?_⟩
    exact ⟨_, rfl, a, S, dx, _, .int u, rfl, ea, T.cls, T.nw, lkW _ _, _, rfl, a, S, dx, _, .int s, rfl, ea, T.cls, T.ns, lkS _ _, _, _, rfl, rfl, q⟩
/-- the property -/
structure SWid (P : Program) (w : World) (K : PySem.W.Frag) (mg : Str → Option Value) (base : Heap) (S : Addr) : Prop where
  ex : ∃ (p g : Addr) (fd : FuncData), PropOf K S "width" p g ∧ FnOk P w K mg base CX0 1 g fd ["self"] (spWid S) ∧ Binds K fd ["self"] []
section
variable {X : Cx} {k : Nat} {pos : Pos} {e : Expr} {ta : TE}
theorem pe_width (D : SWid X.prog X.w X.K X.mg X.base S) (T : ShapeC X.K X.mg S) (hr : Room k X.A) (hk : 2 ≤ k) (he : PE X e ta) (hab : attributeBase e "width" X.env (eval e X.env) = eval e X.env) : PE X (.Attribute e "width" pos) (tProp S (spWid S) [] E0 ta) := by
  obtain ⟨p, g, fd, hp, F, b⟩ := D.ex
  exact pe_prop he T.cls hp F (hr.mono hk) b .nil pass0 hab
end
/-! ### need_shape -/
end
end K53

/-! k53: Shapes: what fits, the greatest, ==. -/
namespace K53
open PySem PySem.Spec PyProof.Rows L2 LamX NdefX Own
abbrev pBel : Stmt := topS 33
section
variable {P : Program} {w : World} {K : PySem.W.Frag} {mg : Str → Option Value} {base : Heap} {C CN W S : Addr}
theorem scBel : FnScope ["worth", "whole"] ["worth", "whole"] (defScope pBel) := ⟨rfl, rfl, rfl, by decide +kernel, rfl, by decide +kernel, by decide +kernel⟩
def spBel (W : Addr) : Sp := fun vs H Q _ => ∃ (b : Addr) (u : Int) (s n : Nat), vs = [.ref b, .int n] ∧ WAt W H b u s ∧ n + s < 2000 ∧ Q (.bl (decide (absZ u < (10 : Int) ^ (n + s)))) H
theorem ok_bel (A : At K mg "is_below_ten_to" pBel ["worth", "whole"]) (B : Blt mg) (T : WorthC K mg W) (DT : DefOk P w K mg base CX0 "ten_to" 9 ["places"] (spTenTo 8)) : DefOk P w K mg base CX0 "is_below_ten_to" 10 ["worth", "whole"] (spBel W) := by
  refine A.ok fun f fd F => F.ok scBel (fun vs H Q E h => ?_) (fun cdv A outer s0 H vs Q E hr h => ?_)
  · obtain ⟨b, u, s, n, rfl, _⟩ := h
    rfl
  · obtain ⟨b, u, s, n, rfl, ⟨dx, ea⟩, hn, q⟩ := h
    refine ⟨_, pss_one (ps_ret (pe_cmpR op_lt (pe_callB call_abs (by rfl) B.abs (by decide +kernel) (pa_cons (pe_fld (pv 0) (by rfl)) pa_nil)) (pe_def DT hr (by decide) (by rfl) pass0 (pa_cons (pe_op op_add (pv 1) (pe_fld (pv 0) (by rfl))) pa_nil)) (nomark _))), ?_⟩
    refine ⟨_, rfl, b, W, dx, _, .int u, rfl, ea, T.cls, T.nu, lk_u _ _, u, rfl, _, rfl, _, rfl, b, W, dx, _, .int s, rfl, ea, T.cls, T.ns, lk_s _ _, _, _, rfl, rfl, ?_⟩
    have e : (n : Int) + (s : Int) = ((n + s : Nat) : Int) := by omega
    dsimp only
    rw [e]
    exact ⟨n + s, rfl, by show n + s < 16 * 2 ^ 8; omega, _, _, rfl, rfl, q⟩
theorem scFits : FnScope ["self", "worth"] ["self", "worth"] (defScope (shI 3)) := ⟨rfl, rfl, rfl, by decide +kernel, rfl, by decide +kernel, by decide +kernel⟩
/-- whether u units at s, told at its own scale, fit n figures ahead of the point and c behind it -/
def fitB (u : Int) (s n c : Nat) : Bool := decide (s ≤ c) && decide (absZ u < (10 : Int) ^ (n + s))
def spFits (C W S : Addr) : Sp := fun vs H Q E => ∃ (a : Addr) (n c : Nat) (x : V), vs = [.ref a, x] ∧ SAt S H a n c ∧ ((Thing H x ∧ Bad C "value" x H E) ∨ ∃ (b : Addr) (u : Int) (s : Nat), x = .ref b ∧ WAt W H b u s ∧ n + s < 2000 ∧ Q (.bl (fitB u s n c)) H)
theorem ok_fits {g : Addr} {fd : FuncData} (F : Fun K "fits" "Shape.fits" (shI 3) g fd) (T : WorthC K mg W) (TS : ShapeC K mg S) (DNW : DefOk P w K mg base (L2.CX P w) "need_worth" 3 ["value"] (spNeedW C W)) (DB : DefOk P w K mg base CX0 "is_below_ten_to" 10 ["worth", "whole"] (spBel W)) :
    FnOk P w K mg base (L2.CX P w) 11 g fd ["self", "worth"] (spFits C W S) := by
  refine F.okX scFits (fun vs H Q E h => ?_) (fun cdv A outer s0 H vs Q E hr h => ?_)
  · obtain ⟨a, n, c, x, rfl, _⟩ := h
    rfl
  · obtain ⟨a, n, c, x, rfl, ⟨dx, ea⟩, h⟩ := h
    refine ⟨_, pss_cons (ps_expr (pe_def (E := E) DNW hr (by decide) (by rfl) (passes_call (takes_of rfl rfl rfl rfl) fun _ _ _ _ z => z) (pa_cons (pv 1) pa_nil)))
      (pss_one (ps_ret (pe_and (pe_cmpR op_le (pe_fld (pv 1) (by rfl)) (pe_fld (pv 0) (by rfl)) (nomark _)) (pe_one (pe_def DB hr (by decide) (by rfl) pass0 (pa_cons (pv 1) (pa_cons (pe_fld (pv 0) (by rfl)) pa_nil))))))), ?_⟩
    rcases h with ⟨th, bad⟩ | ⟨b, u, s, rfl, wb, hn, q⟩
    · exact ⟨_, rfl, x, rfl, .inr ⟨th, bad⟩⟩
    · obtain ⟨dy, eb⟩ := id wb
      refine ⟨_, rfl, _, rfl, .inl ⟨b, u, s, rfl, wb, ?_⟩⟩
      unfold fitB at q
      refine ⟨_, rfl, b, W, dy, _, .int s, rfl, eb, T.cls, T.ns, lk_s _ _, _, rfl, a, S, dx, _, .int c, rfl, ea, TS.cls, TS.ns, lkS _ _, _, _, rfl, rfl, _, rfl, ite2 (fun e => ?_) (fun e => ?_)⟩
      · have z : (s : Int) ≤ (c : Int) := of_decide_eq_true e
        rw [decide_eq_true (show s ≤ c by omega), Bool.true_and] at q
        exact ⟨_, rfl, _, rfl, a, S, dx, _, .int n, rfl, ea, TS.cls, TS.nw, lkW _ _, b, u, s, n, rfl, wb, hn, q⟩
      · have z : ¬ (s : Int) ≤ (c : Int) := fun y => e (decide_eq_true y)
        rw [decide_eq_false (show ¬ s ≤ c by omega), Bool.false_and] at q
        exact q
theorem scGrt : FnScope ["self"] ["self"] (defScope (shI 4)) := ⟨rfl, rfl, rfl, by decide +kernel, rfl, by decide +kernel, by decide +kernel⟩
def spGrt (W S : Addr) : Sp := fun vs H Q _ => ∃ (a : Addr) (n c : Nat), vs = [.ref a] ∧ SAt S H a n c ∧ n + c < 2000 ∧ c < 500 ∧ Gives W H ((10 : Int) ^ (n + c) - 1) c Q
theorem ok_grt {g : Addr} {fd : FuncData} (F : Fun K "greatest" "Shape.greatest" (shI 4) g fd) (T : WorthC K mg W) (M : WMk P w K mg base C W) (TS : ShapeC K mg S) (SW : SWid P w K mg base S) (DT : DefOk P w K mg base CX0 "ten_to" 9 ["places"] (spTenTo 8)) :
    FnOk P w K mg base (L2.CX P w) 13 g fd ["self"] (spGrt W S) := by
  refine F.okX scGrt (fun vs H Q E h => ?_) (fun cdv A outer s0 H vs Q E hr h => ?_)
  · obtain ⟨a, n, c, rfl, _⟩ := h
    rfl
  · obtain ⟨a, n, c, rfl, sa, hn, hc, gv⟩ := h
    refine ⟨_, pss_one (ps_ret (pe_worth (C := C) (E := E) M T hr (by decide) (by rfl) (passes_call (takes_of rfl rfl rfl rfl) fun _ _ _ _ z => z) (pa_cons (pe_op op_sub (pe_def DT hr (by decide) (by rfl) pass0 (pa_cons (pe_width SW TS hr (by decide) (pv 0) (by rfl)) pa_nil)) pe_int) (pa_cons (pe_fld (pv 0) (by rfl)) pa_nil)))), ?_⟩
    obtain ⟨dx, ea⟩ := id sa
    refine ⟨_, rfl, a, dx, _, rfl, ea, a, n, c, rfl, sa, ?_⟩
    refine ⟨n + c, rfl, by show n + c < 16 * 2 ^ 8; omega, _, _, rfl, rfl, _, rfl, a, S, dx, _, .int c, rfl, ea, TS.cls, TS.ns, lkS _ _, ?_⟩
    exact worth_of hc gv
theorem scSEq : FnScope ["self", "other"] ["self", "other"] (defScope (shI 1)) := ⟨rfl, rfl, rfl, by decide +kernel, rfl, by decide +kernel, by decide +kernel⟩
/-- == of a Shape with another, with an instance of another class, with anything else -/
def spSEq (S : Addr) : Sp := fun vs H Q _ => ∃ (a : Addr) (n c : Nat) (y : V), vs = [.ref a, y] ∧ SAt S H a n c ∧ ((∃ (b : Addr) (n2 c2 : Nat), y = .ref b ∧ SAt S H b n2 c2 ∧ Q (.bl (decide (n = n2) && decide (c = c2))) H) ∨
  (∃ (D b db : Addr) (fs : List (Str × V)), y = .ref b ∧ H b = some (.ins D db fs) ∧ Cls K D ∧ WIs K D ∧ PySem.W.kitOne K (.ref D) (.ref S) = some false ∧ Q (.bl false) H) ∨ (Thing H y ∧ Q (.bl false) H))
theorem ok_sEq {g : Addr} {fd : FuncData} (F : Fun K "__eq__" "Shape.__eq__" (shI 1) g fd) (B : Blt mg) (TS : ShapeC K mg S) (I : WIs K S) : FnOk P w K mg base (L2.CX P w) 1 g fd ["self", "other"] (spSEq (K := K) S) := by
  refine F.okX scSEq (fun vs H Q E h => ?_) (fun cdv A outer s0 H vs Q E hr h => ?_)
  · obtain ⟨a, n, c, y, rfl, _⟩ := h
    rfl
  · obtain ⟨a, n, c, y, rfl, ⟨dx, ea⟩, h⟩ := h
    refine ⟨_, pss_one (ps_ret (pe_and (pe_callB call_isi (by rfl) B.isi (by decide +kernel) (pa_cons (pv 1) (pa_cons (pe_glob (v := .ref S) (by rfl) TS.g rfl) pa_nil))) (pe_and (pe_cmpR op_eq (pe_fld (pv 0) (by rfl)) (pe_fld (pv 1) (by rfl)) (nomark _)) (pe_one (pe_cmpR op_eq (pe_fld (pv 0) (by rfl)) (pe_fld (pv 1) (by rfl)) (nomark _)))))), ?_⟩
    rcases h with ⟨b, n2, c2, rfl, ⟨dy, eb⟩, q⟩ | ⟨D, b, db, fs, rfl, eb, cD, iD, kD, q⟩ | ⟨th, q⟩
    · refine ⟨_, rfl, _, _, _, _, true, rfl, .own S, .base (.ins eb TS.cls I.ha I.hn I.ht I.hm), by unfold PySem.W.kitOne; rw [if_pos (by simp)], _, rfl, iteT ?_⟩
      refine ⟨_, rfl, a, S, dx, _, .int n, rfl, ea, TS.cls, TS.nw, lkW _ _, _, rfl, b, S, dy, _, .int n2, rfl, eb, TS.cls, TS.nw, lkW _ _, rfl, _, rfl, ite2 (fun e => ?_) (fun e => ?_)⟩
      · have h0 : n = n2 := by
          have z : (n : Int) = (n2 : Int) := by simpa using e
          omega
        refine ⟨_, rfl, a, S, dx, _, .int c, rfl, ea, TS.cls, TS.ns, lkS _ _, _, rfl, b, S, dy, _, .int c2, rfl, eb, TS.cls, TS.ns, lkS _ _, rfl, ?_⟩
        show Q (.bl (decide (V.int (c : Int) = V.int (c2 : Int)))) H
        rw [show decide (V.int (c : Int) = V.int (c2 : Int)) = (decide (n = n2) && decide (c = c2)) by
          rw [decide_eq_true h0, Bool.true_and]
          exact decide_eq_decide.mpr ⟨fun z => by have := V.int.inj z; omega, fun z => by rw [z]⟩]
        exact q
      · have h0 : n ≠ n2 := fun z => e (by rw [z]; simp)
        rw [decide_eq_false h0, Bool.false_and] at q
        exact q
    · exact ⟨_, rfl, _, _, _, _, false, rfl, .own S, .base (.ins eb cD iD.ha iD.hn iD.ht iD.hm), kD, _, rfl, iteF q⟩
    · obtain ⟨ty, hty, tx⟩ := th.tyx (K := K)
      exact ⟨_, rfl, _, _, _, _, false, rfl, .own S, tx, I.no ty hty, _, rfl, iteF q⟩
end
end K53

/-! k53: the class Column. -/
namespace K53
open PySem PySem.Spec PyProof.Rows L2 LamX NdefX Own
abbrev coI (i : Nat) : Stmt := inClass (topS 32) i
def marksL : List Str := ["signed", "unsigned", "positive"]
def isMark : V → Bool
  | .str z => decide (z ∈ marksL)
  | _ => false
theorem isMark_ok {z : Str} (h : z ∈ marksL) : isMark (.str z) = true := decide_eq_true h
theorem inV_txt (z : Str) (l : List Str) : inV (.str z) (l.map V.str) = decide (z ∈ l) := by
  unfold inV
  rw [List.any_map]
  induction l with
  | nil => rfl
  | cons a r ih =>
    rw [List.any_cons, ih]
    show (a == z || decide (z ∈ r)) = decide (z ∈ a :: r)
    by_cases h : a = z
    · subst h
      simp
    · have h' : ¬ z = a := fun e => h e.symm
      simp [h, h']
section
variable {P : Program} {w : World} {K : PySem.W.Frag} {mg : Str → Option Value} {base : Heap} {C CN W S Co aM fs : Addr} {fds : FuncData}
/-- what the class is -/
structure ColC (K : PySem.W.Frag) (mg : Str → Option Value) (Co : Addr) : Prop where
  g : mg "Column" = some (.ref Co)
  cls : Cls K Co
  ns : NoAttr K Co "shape"
  nm : NoAttr K Co "mark"
def cRow (sh : Addr) (m : Str) : List (Str × V) := [("shape", .ref sh), ("mark", .str m)]
theorem cLk_s (sh : Addr) (m : Str) : (cRow sh m).lookup ("shape" : Str) = some (.ref sh) := by simp [cRow, List.lookup]
theorem cLk_m (sh : Addr) (m : Str) : (cRow sh m).lookup ("mark" : Str) = some (.str m) := by
  have e : (("mark" : Str) == "shape") = false := by decide +kernel
  simp [cRow, List.lookup, e]
theorem cLk_no {x : Str} (sh : Addr) (m : Str) (h1 : (x == "shape") = false) (h2 : (x == "mark") = false) : (cRow sh m).lookup x = none := by simp [cRow, List.lookup, h1, h2]
theorem putC (u s : V) : putF "mark" s (putF "shape" u []) = ([("shape", u), ("mark", s)] : List (Str × V)) := by
  have e : ¬ (("shape" : Str) = "mark") := by decide +kernel
  simp [putF, e]
/-- a Column stands at a: n figures ahead of the point, c behind it, the mark m -/
def CAt (Co S : Addr) (H : Hp) (a : Addr) (n c : Nat) (m : Str) : Prop := ∃ dx sh, H a = some (.ins Co dx (cRow sh m)) ∧ SAt S H sh n c
theorem CAt.same {a : Addr} {H H' : Hp} {n c : Nat} {m : Str} (h : CAt Co S H a n c m) (z : Same H H') : CAt Co S H' a n c m := by
  obtain ⟨dx, sh, e, s⟩ := h
  exact ⟨dx, sh, z _ _ e, s.same z⟩
theorem scCI : FnScope ["self", "whole", "scale", "mark"] ["self", "whole", "scale", "mark"] (defScope (coI 0)) := ⟨rfl, rfl, rfl, by decide +kernel, rfl, by decide +kernel, by decide +kernel⟩
def spCI (C CN Co S : Addr) : Sp := fun vs H Q E => ∃ (a dx : Addr) (x y z : V), vs = [.ref a, x, y, z] ∧ H a = some (.ins Co dx []) ∧ Thing H x ∧ Thing H y ∧ Thing H z ∧ (isWh x = false → Bad C "value" x H E) ∧ (isWh x = true → isWh y = false → Bad C "value" y H E) ∧ (isWh x = true → isWh y = true → isMark z = false → Bad C "value" z H E) ∧
  ∀ (n c : Nat) (m : Str), m ∈ marksL → x = .int n → y = .int c → z = .str m → (n = 0 → c = 0 → ∀ H', Same H H' → E (.ref CN) none H') ∧ (¬ (n = 0 ∧ c = 0) → ∀ (sh : Addr) (H' : Hp), Keep a H H' → H' a = some (.ins Co dx (cRow sh m)) → SAt S H' sh n c → Q .non H')
theorem ok_cI {f : Addr} {fd : FuncData} {dvs : List V} (F : FunD K "__init__" "Column.__init__" (defArgs (coI 0)) (defBody (coI 0)) (defScope (coI 0)) dvs [] f fd) (TC : ColC K mg Co) (TS : ShapeC K mg S) (MS : SMk P w K mg base C CN S) (gM : mg "MARKS" = some (.ref aM)) (marks : ∀ H : Hp, SqT K H aM (marksL.map V.str))
    (TB : ErrC P w K mg base "BadValue" "value" 1 C (spErr C "value")) (DN : DefOk P w K mg base (L2.CX P w) "need_whole_number" 3 ["value"] (spNWh C)) : FnOk P w K mg base (L2.CX P w) 6 f fd ["self", "whole", "scale", "mark"] (spCI C CN Co S) := by
  refine F.ok scCI (fun vs H Q E h => ?_) (fun cdv A outer s0 H vs Q E hr h => ?_)
  · obtain ⟨a, dx, x, y, z, rfl, _⟩ := h
    rfl
  · obtain ⟨a, dx, x, y, z, rfl, ha, tx, ty, tz, q1, q2, q3, q4⟩ := h
    refine ⟨_, pss_cons (ps_expr (pe_def (E := E) DN hr (by decide) (by rfl) (passes_call (takes_of rfl rfl rfl rfl) fun _ _ _ _ z => z) (pa_cons (pv 1) pa_nil)))
      (pss_cons (ps_expr (pe_def (E := E) DN hr (by decide) (by rfl) (passes_call (takes_of rfl rfl rfl rfl) fun _ _ _ _ z => z) (pa_cons (pv 2) pa_nil)))
      (pss_cons (ps_if (pt_cmpR (OpR.or op_notIn_seq (op_notInW (hu_of hr))) (pv 3) (pe_glob (v := .ref aM) (by rfl) gM rfl) (by rfl)) (pss_one (ps_raise rfl (takes_of rfl rfl rfl rfl) (pmk_err TB hr (by decide) (by rfl) (pv 3)))) pss_nil)
      (pss_cons (ps_fld (pv 0) (pe_shape (C := C) (CN := CN) (E := E) MS TS hr (by decide) (by rfl) (passes_call (takes_of rfl rfl rfl rfl) fun _ _ _ _ z => z) (pa_cons (pv 1) (pa_cons (pv 2) pa_nil))) rfl)
      (pss_one (ps_fld (pv 0) (pv 3) rfl))))), ?_⟩
    refine ⟨_, rfl, x, rfl, tx, fun hx => ?_, q1⟩
    refine ⟨_, rfl, y, rfl, ty, fun hy => ?_, q2 hx⟩
    obtain ⟨n, rfl⟩ := isWh_nat hx
    obtain ⟨c, rfl⟩ := isWh_nat hy
    rcases tz.noTxt with nt | ⟨m, rfl⟩
    · have hz : isMark z = false := by cases nt <;> rfl
      exact ⟨_, rfl, .inr ⟨aM, marksL, rfl, marks H, nt, _, rfl, iteT ⟨_, rfl, bad_mk (q3 hx hy hz)⟩⟩⟩
    refine ⟨_, rfl, .inl ⟨aM, _, rfl, .inr (marks H), rfl, by decide +kernel, _, rfl, ?_⟩⟩
    show if (if true = true then !inV (.str m) (marksL.map V.str) else inV (.str m) (marksL.map V.str)) = true then _ else _
    rw [if_pos rfl, inV_txt]
    refine ite2 (fun e => ?_) (fun e => ?_)
    · exact ⟨_, rfl, bad_mk (q3 hx hy (by simpa [isMark] using e))⟩
    have hm : m ∈ marksL := by simpa using e
    obtain ⟨q5, q6⟩ := q4 n c m hm rfl rfl rfl
    refine ⟨_, rfl, _, rfl, ?_⟩
    dsimp only [tNil]
    rw [List.append_nil]
    refine ⟨.int n, .int c, rfl, .int _, .int _, fun z => isWh_no z, fun _ z => isWh_no z, fun u s e1 e2 => ?_⟩
    obtain rfl : n = u := by have := V.int.inj e1; omega
    obtain rfl : c = s := by have := V.int.inj e2; omega
    refine ⟨q5, fun nz sh H1 s1 _ hs => ?_⟩
    have ha1 := s1 _ _ ha
    refine ⟨_, rfl, a, Co, dx, [], rfl, ha1, TC.cls, TC.ns, by decide, ?_⟩
    refine ⟨_, rfl, _, rfl, a, Co, dx, _, rfl, upd_same, TC.cls, TC.nm, by show 1 < 1000; decide, ?_⟩
    rw [upd_upd, putC]
    refine q6 nz sh _ ((Keep.same s1).trans Keep.at) upd_same ?_
    obtain ⟨ds, es⟩ := hs
    exact ⟨ds, (upd_ne (fun z => by rw [z, ha1] at es; cases es)).trans es⟩
theorem scCEq : FnScope ["self", "other"] ["self", "other"] (defScope (coI 1)) := ⟨rfl, rfl, rfl, by decide +kernel, rfl, by decide +kernel, by decide +kernel⟩
/-- how two Shapes are compared -/
structure SEq (P : Program) (w : World) (K : PySem.W.Frag) (mg : Str → Option Value) (base : Heap) (S f : Addr) (fd : FuncData) : Prop where
  at_ : PySem.W.findIn K (.ref S) "__eq__" = some (some (.ref f))
  isf : PySem.W.isFn K (.ref f) = true
  fn : FnOk P w K mg base (L2.CX P w) 1 f fd ["self", "other"] (spSEq (K := K) S)
  bd : Binds K fd ["self", "other"] []
  sub : ∀ T ∈ tys, PySem.W.subIn K (.type T) (.ref S) = some false
def spCEq (Co S : Addr) : Sp := fun vs H Q _ => ∃ (a : Addr) (n c : Nat) (m : Str) (y : V), vs = [.ref a, y] ∧ CAt Co S H a n c m ∧ ((∃ (b : Addr) (n2 c2 : Nat) (m2 : Str), y = .ref b ∧ CAt Co S H b n2 c2 m2 ∧ Q (.bl ((decide (n = n2) && decide (c = c2)) && decide (m = m2))) H) ∨
  (∃ (D b db : Addr) (fs : List (Str × V)), y = .ref b ∧ H b = some (.ins D db fs) ∧ Cls K D ∧ WIs K D ∧ PySem.W.kitOne K (.ref D) (.ref Co) = some false ∧ Q (.bl false) H))
theorem ok_cEq {g : Addr} {fd : FuncData} (F : Fun K "__eq__" "Column.__eq__" (coI 1) g fd) (B : Blt mg) (TC : ColC K mg Co) (I : WIs K Co) (EQ : SEq P w K mg base S fs fds) : FnOk P w K mg base (L2.CX P w) 3 g fd ["self", "other"] (spCEq (K := K) Co S) := by
  refine F.okX scCEq (fun vs H Q E h => ?_) (fun cdv A outer s0 H vs Q E hr h => ?_)
  · obtain ⟨a, n, c, m, y, rfl, _⟩ := h
    rfl
  · obtain ⟨a, n, c, m, y, rfl, ⟨dx, sh, ea, hs⟩, h⟩ := h
    refine ⟨_, pss_one (ps_ret (pe_and (pe_callB call_isi (by rfl) B.isi (by decide +kernel) (pa_cons (pv 1) (pa_cons (pe_glob (v := .ref Co) (by rfl) TC.g rfl) pa_nil))) (pe_and (pe_cmpR (op_ownEq (E := E) EQ.fn (hr.mono (by decide)) EQ.at_ EQ.isf EQ.sub EQ.bd (passes_call (takes_of rfl rfl rfl rfl) fun _ _ _ _ z => z)) (pe_fld (pv 0) (by rfl)) (pe_fld (pv 1) (by rfl)) (nomark _)) (pe_one (pe_cmpR op_eq (pe_fld (pv 0) (by rfl)) (pe_fld (pv 1) (by rfl)) (nomark _)))))), ?_⟩
    rcases h with ⟨b, n2, c2, m2, rfl, ⟨dy, sh2, eb, hs2⟩, q⟩ | ⟨D, b, db, fs, rfl, eb, cD, iD, kD, q⟩
    · refine ⟨_, rfl, _, _, _, _, true, rfl, .own Co, .base (.ins eb TC.cls I.ha I.hn I.ht I.hm), by unfold PySem.W.kitOne; rw [if_pos (by simp)], _, rfl, iteT ?_⟩
      obtain ⟨d1, e1⟩ := id hs
      obtain ⟨d2, e2⟩ := id hs2
      refine ⟨_, rfl, a, Co, dx, _, .ref sh, rfl, ea, TC.cls, TC.ns, cLk_s _ _, _, rfl, b, Co, dy, _, .ref sh2, rfl, eb, TC.cls, TC.ns, cLk_s _ _, sh, d1, _, rfl, e1, .inl ⟨sh2, d2, _, rfl, e2⟩, sh, n, c, .ref sh2, rfl, hs, .inl ⟨sh2, n2, c2, rfl, hs2, _, rfl, ite2 (fun z => ?_) (fun z => ?_)⟩⟩
      · rw [z, Bool.true_and] at q
        refine ⟨_, rfl, a, Co, dx, _, .str m, rfl, ea, TC.cls, TC.nm, cLk_m _ _, _, rfl, b, Co, dy, _, .str m2, rfl, eb, TC.cls, TC.nm, cLk_m _ _, rfl, ?_⟩
        show Q (.bl (decide (V.str m = V.str m2))) H
        rw [Own.dec_str]
        exact q
      · have z' : (decide (n = n2) && decide (c = c2)) = false := by
          cases y : (decide (n = n2) && decide (c = c2)) with
          | false => rfl
          | true => exact absurd y z
        rw [z', Bool.false_and] at q
        exact q
    · exact ⟨_, rfl, _, _, _, _, false, rfl, .own Co, .base (.ins eb cD iD.ha iD.hn iD.ht iD.hm), kD, _, rfl, iteF q⟩
end
end K53

/-! k53: Columns made, what they hold, their ends. -/
namespace K53
open PySem PySem.Spec PyProof.Rows L2 LamX NdefX Own
section
variable {P : Program} {w : World} {K : PySem.W.Frag} {mg : Str → Option Value} {base : Heap} {C CN W S Co aM fs : Addr} {fds : FuncData}
/-- how the class is called -/
structure CMk (P : Program) (w : World) (K : PySem.W.Frag) (mg : Str → Option Value) (base : Heap) (C CN Co S : Addr) : Prop where
  ex : ∃ (fI : Addr) (fd : FuncData), Mk K Co fI ∧ FnOk P w K mg base (L2.CX P w) 6 fI fd ["self", "whole", "scale", "mark"] (spCI C CN Co S) ∧ Binds K fd ["self", "whole", "scale", "mark"] [] ∧ ∃ ds, Vals [V.str "signed"] ds ∧ Binds K fd ["self", "whole", "scale", "mark"] ds
/-- what the call Column(x, y, z) gives -/
def spCol (C CN Co S : Addr) : Sp := fun vs H Q E => ∃ x y z : V, vs = [x, y, z] ∧ Thing H x ∧ Thing H y ∧ Thing H z ∧ (isWh x = false → Bad C "value" x H E) ∧ (isWh x = true → isWh y = false → Bad C "value" y H E) ∧ (isWh x = true → isWh y = true → isMark z = false → Bad C "value" z H E) ∧
  ∀ (n c : Nat) (m : Str), m ∈ marksL → x = .int n → y = .int c → z = .str m → (n = 0 → c = 0 → ∀ H', Same H H' → E (.ref CN) none H') ∧ (¬ (n = 0 ∧ c = 0) → ∀ (a : Addr) (H' : Hp), Same H H' → H a = none → CAt Co S H' a n c m → Q (.ref a) H')
theorem col_make {vs : List V} {H : Hp} {Q : VK} {E : XK} (h : spCol C CN Co S vs H Q E) (a dx : Addr) (na : H a = none) (nd : H dx = none) (ne : dx ≠ a) : spCI C CN Co S (.ref a :: vs) (upd (upd H dx (.own a)) a (.ins Co dx [])) (fun v H2 => v = .non ∧ Q (.ref a) H2) E := by
  obtain ⟨x, y, z, rfl, tx, ty, tz, q1, q2, q3, q4⟩ := h
  have na1 : upd H dx (.own a) a = none := (upd_ne ne.symm).trans na
  have s1 : Same H (upd (upd H dx (.own a)) a (.ins Co dx [])) := (same_new nd).trans (same_new na1)
  refine ⟨a, dx, x, y, z, rfl, upd_same, tx.same s1, ty.same s1, tz.same s1, fun e => (q1 e).same s1, fun e1 e2 => (q2 e1 e2).same s1, fun e1 e2 e3 => (q3 e1 e2 e3).same s1, fun n c m hm e1 e2 e3 => ?_⟩
  obtain ⟨q5, q6⟩ := q4 n c m hm e1 e2 e3
  refine ⟨fun z1 z2 H' s2 => q5 z1 z2 H' (s1.trans s2), fun nz sh H' kp ha hs => ⟨rfl, q6 nz a H' (fun b o e => ?_) na ⟨dx, sh, ha, hs⟩⟩⟩
  exact kp _ _ (ne_of_none e na) (s1 _ _ e)
/-- a Column of whole numbers that are not both 0 -/
theorem col_of {n c : Nat} {m : Str} {H : Hp} {Q : VK} {E : XK} (hm : m ∈ marksL) (h : ¬ (n = 0 ∧ c = 0)) (q : ∀ (a : Addr) (H' : Hp), Same H H' → H a = none → CAt Co S H' a n c m → Q (.ref a) H') : spCol C CN Co S [.int n, .int c, .str m] H Q E := by
  refine ⟨.int n, .int c, .str m, rfl, .int _, .int _, .str _, fun z => isWh_no z, fun _ z => isWh_no z, fun _ _ z => absurd (z.symm.trans (isMark_ok hm)) (by decide), fun n' c' m' _ e1 e2 e3 => ?_⟩
  obtain rfl : n = n' := by have := V.int.inj e1; omega
  obtain rfl : c = c' := by have := V.int.inj e2; omega
  obtain rfl := V.str.inj e3
  exact ⟨fun z1 z2 => absurd ⟨z1, z2⟩ h, fun _ => q⟩
section
variable {X : Cx} {k : Nat} {E : XK} {p pos : Pos} {e e1 e2 e3 : Expr} {t : TA} {ta : TE}
theorem pe_col3 (M : CMk X.prog X.w X.K X.mg X.base C CN Co S) (T : ColC X.K X.mg Co) (hr : Room k X.A) (hk : 7 ≤ k) (hg : Gl X "Column") (hx : Passes (L2.CX X.prog X.w) X E) (ha : PA X [e1, e2, e3] t)
    (he : starEach [e1, e2, e3] X.env = (false, eval e1 X.env) :: starEach [e2, e3] X.env := by rfl) (hpl : (backTo pos (starEach [e2, e3] X.env)).any (·.1) = false := by rfl) : PE X (.Call (.Name "Column" p) [e1, e2, e3] [] pos) (tCall (spCol C CN Co S) [] E t) := by
  obtain ⟨fI, fd, mk, F, b2, _⟩ := M.ex
  constructor
  intro pins s σ H Q I h
  refine wpAny_Call_Name_kw (ld_glob I hg T.g ?_ (by decide))
  refine PySem.W.callWith_K (h₀ := X.base) I.ok.mod.kin mk.kp (thn (ha.run pos pins s σ H _ I h) ?_) he hpl
  rintro us s1 ⟨vs, H1, I1, r, q⟩
  refine ⟨I1.kIn, run_make mk F (hr.mono hk) b2 .nil hx I1 r fun a dx na nd ne => ?_⟩
  rw [List.append_nil] at q ⊢
  exact col_make q a dx na nd ne
theorem pe_col2 (M : CMk X.prog X.w X.K X.mg X.base C CN Co S) (T : ColC X.K X.mg Co) (hr : Room k X.A) (hk : 7 ≤ k) (hg : Gl X "Column") (hx : Passes (L2.CX X.prog X.w) X E) (ha : PA X [e1, e2] t)
    (he : starEach [e1, e2] X.env = (false, eval e1 X.env) :: starEach [e2] X.env := by rfl) (hpl : (backTo pos (starEach [e2] X.env)).any (·.1) = false := by rfl) : PE X (.Call (.Name "Column" p) [e1, e2] [] pos) (tCall (spCol C CN Co S) [.str "signed"] E t) := by
  obtain ⟨fI, fd, mk, F, _, ds, rd, b1⟩ := M.ex
  constructor
  intro pins s σ H Q I h
  refine wpAny_Call_Name_kw (ld_glob I hg T.g ?_ (by decide))
  refine PySem.W.callWith_K (h₀ := X.base) I.ok.mod.kin mk.kp (thn (ha.run pos pins s σ H _ I h) ?_) he hpl
  rintro us s1 ⟨vs, H1, I1, r, q⟩
  exact ⟨I1.kIn, run_make mk F (hr.mono hk) b1 rd hx I1 r fun a dx na nd ne => col_make q a dx na nd ne⟩
end
/-! ### what a Column holds -/
theorem scHld : FnScope ["self", "worth"] ["self", "worth"] (defScope (coI 2)) := ⟨rfl, rfl, rfl, by decide +kernel, rfl, by decide +kernel, by decide +kernel⟩
def hldB (u : Int) (s n c : Nat) (m : Str) : Bool := fitB u s n c && (if m = "positive" then decide (u > 0) else if m = "signed" then true else decide (u ≥ 0))
/-- a method of Shapes, of Columns -/
structure SMeth (P : Program) (w : World) (K : PySem.W.Frag) (mg : Str → Option Value) (base : Heap) (S : Addr) (m : Str) (k : Nat) (ps : List Str) (sp : Sp) : Prop where
  ex : ∃ (f : Addr) (fd : FuncData), Meth K S m f ∧ FnOk P w K mg base (L2.CX P w) k f fd ps sp ∧ Binds K fd ps []
theorem sLk_no {x : Str} (u s : V) (h1 : (x == "whole") = false) (h2 : (x == "scale") = false) : (([("whole", u), ("scale", s)] : List (Str × V))).lookup x = none := by simp [List.lookup, h1, h2]
def spHld (C W Co S : Addr) : Sp := fun vs H Q E => ∃ (a : Addr) (n c : Nat) (m : Str) (x : V), vs = [.ref a, x] ∧ CAt Co S H a n c m ∧ ((Thing H x ∧ Bad C "value" x H E) ∨ ∃ (b : Addr) (u : Int) (s : Nat), x = .ref b ∧ WAt W H b u s ∧ n + s < 2000 ∧ Q (.bl (hldB u s n c m)) H)
theorem ok_hld {g : Addr} {fd : FuncData} (F : Fun K "holds" "Column.holds" (coI 2) g fd) (T : WorthC K mg W) (TS : ShapeC K mg S) (TC : ColC K mg Co) (DF : SMeth P w K mg base S "fits" 11 ["self", "worth"] (spFits C W S)) : FnOk P w K mg base (L2.CX P w) 12 g fd ["self", "worth"] (spHld C W Co S) := by
  refine F.okX scHld (fun vs H Q E h => ?_) (fun cdv A outer s0 H vs Q E hr h => ?_)
  · obtain ⟨a, n, c, m, x, rfl, _⟩ := h
    rfl
  · obtain ⟨a, n, c, m, x, rfl, ⟨dx, sh, ea, hs⟩, h⟩ := h
    obtain ⟨fF, fdF, mF, FF, bF⟩ := DF.ex
    refine ⟨_, pss_cons (ps_if (pt_not (pt_val (pe_meth (E := E) (pe_fld (pv 0) (by rfl)) TS.cls mF FF (hr.mono (by decide)) bF .nil (passes_call (takes_of rfl rfl rfl rfl) fun _ _ _ _ z => z) (pa_cons (pv 1) pa_nil)))) (pss_one (ps_ret pe_bl)) pss_nil)
      (pss_cons (ps_if (pt_cmpR op_eq (pe_fld (pv 0) (by rfl)) pe_str (nomark _)) (pss_one (ps_ret (pe_cmpR op_gt (pe_fld (pv 1) (by rfl)) pe_int (nomark _)))) pss_nil)
      (pss_one (ps_ret (pe_or (pe_cmpR op_eq (pe_fld (pv 0) (by rfl)) pe_str (nomark _)) (pe_one (pe_cmpR op_ge (pe_fld (pv 1) (by rfl)) pe_int (nomark _))))))), ?_⟩
    obtain ⟨d1, e1⟩ := id hs
    rcases h with ⟨th, bad⟩ | ⟨b, u, s, rfl, wb, hn, q⟩
    · exact ⟨_, rfl, a, Co, dx, _, .ref sh, rfl, ea, TC.cls, TC.ns, cLk_s _ _, sh, d1, _, rfl, e1, sLk_no _ _ (by decide +kernel) (by decide +kernel), _, rfl, sh, n, c, x, rfl, hs, .inl ⟨th, bad⟩⟩
    · obtain ⟨db, eb⟩ := id wb
      refine ⟨_, rfl, a, Co, dx, _, .ref sh, rfl, ea, TC.cls, TC.ns, cLk_s _ _, sh, d1, _, rfl, e1, sLk_no _ _ (by decide +kernel) (by decide +kernel), _, rfl, sh, n, c, .ref b, rfl, hs, .inr ⟨b, u, s, rfl, wb, hn, _, rfl, ?_⟩⟩
      unfold hldB at q
      cases hf : fitB u s n c with
      | false =>
        rw [hf, Bool.false_and] at q
        exact iteT q
      | true =>
        rw [hf, Bool.true_and] at q
        refine iteF ⟨_, rfl, a, Co, dx, _, .str m, rfl, ea, TC.cls, TC.nm, cLk_m _ _, rfl, _, rfl, ite2 (fun e => ?_) (fun e => ?_)⟩
        · have z : m = "positive" := by simpa using e
          rw [if_pos z] at q
          exact ⟨_, rfl, b, W, db, _, .int u, rfl, eb, T.cls, T.nu, lk_u _ _, _, _, rfl, rfl, q⟩
        · have z : m ≠ "positive" := fun y => e (by rw [y]; simp)
          rw [if_neg z] at q
          refine ⟨_, rfl, a, Co, dx, _, .str m, rfl, ea, TC.cls, TC.nm, cLk_m _ _, rfl, _, rfl, ite2 (fun e => ?_) (fun e => ?_)⟩
          · have z : m = "signed" := by simpa using e
            rw [if_pos z] at q
            exact q
          · have z : m ≠ "signed" := fun y => e (by rw [y]; simp)
            rw [if_neg z] at q
            exact ⟨_, rfl, b, W, db, _, .int u, rfl, eb, T.cls, T.nu, lk_u _ _, _, _, rfl, rfl, q⟩
end
end K53

/-! own layer, of no law: OWNS: running totals that are rounded at each step. -/
namespace Own
open PySem PySem.Spec PyProof.Rows L2 LamX NdefX
/-- the running total behind one entry of x parts: U parts are a unit -/
def stp (U x : Int) (t : Str) (s : Int) : Int := near (s * U + x) U t
/-- behind so many of them -/
def run (U x : Int) (t : Str) : Nat → Int → Int
  | 0, s => s
  | n + 1, s => run U x t n (stp U x t s)
theorem run_snoc (U x : Int) (t : Str) : ∀ (n : Nat) (s : Int), run U x t (n + 1) s = stp U x t (run U x t n s)
  | 0, _ => rfl
  | n + 1, s => run_snoc U x t n (stp U x t s)
theorem run_add (U x : Int) (t : Str) : ∀ (m n : Nat) (s : Int), run U x t (m + n) s = run U x t n (run U x t m s)
  | 0, n, s => by rw [Nat.zero_add]; rfl
  | m + 1, n, s => by
    rw [show m + 1 + n = (m + n) + 1 by omega]
    exact run_add U x t m n (stp U x t s)
/-- whether what an entry adds hangs on the total -/
def looseL1 : List Str := ["cut", "away"]
def looseL2 : List Str := ["halfeven", "halfaway", "halfcut"]
def isLoose (U x : Int) (t : Str) : Bool := (decide (t ∈ looseL1) && decide (x % U ≠ 0)) || (decide (t ∈ looseL2) && decide (2 * (x % U) = U))
section
variable {U x s : Int} {t : Str}
theorem stp_div (h : 0 < U) : (s * U + x) / U = s + x / U := by
  rw [Int.add_comm (s * U) x, Int.add_mul_ediv_right _ _ (by omega)]
  omega
theorem stp_mod : (s * U + x) % U = x % U := by
  rw [Int.add_comm (s * U) x, Int.add_mul_emod_self_right]
theorem stp_eq (h : 0 < U) : stp U x t s = if x % U = 0 then s + x / U else if goesUp t (s + x / U) (2 * (x % U) - U) = true then s + x / U + 1 else s + x / U := by
  unfold stp near
  rw [stp_mod, stp_div h]
/-- one that is not loose adds its own rounded worth -/
theorem stp_tight (h : 0 < U) (ht : t ∈ waysL) (n : isLoose U x t = false) : stp U x t s = s + near x U t := by
  rw [stp_eq h]
  unfold near
  by_cases r : x % U = 0
  · rw [if_pos r, if_pos r]
  rw [if_neg r, if_neg r]
  have tie : t ∈ looseL2 → 2 * (x % U) - U ≠ 0 := fun m z => by
    unfold isLoose at n
    rw [decide_eq_true m, decide_eq_true (show 2 * (x % U) = U by omega)] at n
    simp at n
  have same : goesUp t (s + x / U) (2 * (x % U) - U) = goesUp t (x / U) (2 * (x % U) - U) := by
    have big : 2 * (x % U) = U ∨ 2 * (x % U) - U ≠ 0 := by omega
    rcases way_cases ht with rfl | rfl | rfl | rfl | rfl | rfl | rfl | rfl | rfl
    · rw [goes_none (k := 4) (by decide +kernel) (by decide +kernel), goes_none (k := 4) (by decide +kernel) (by decide +kernel)]; rfl
    · rw [goes_none (k := 3) (by decide +kernel) (by decide +kernel), goes_none (k := 3) (by decide +kernel) (by decide +kernel)]; rfl
    · exfalso
      have e : isLoose U x "cut" = true := by
        unfold isLoose
        rw [decide_eq_true (show ("cut" : Str) ∈ looseL1 by decide +kernel), decide_eq_true r]
        rfl
      rw [e] at n
      cases n
    · exfalso
      have e : isLoose U x "away" = true := by
        unfold isLoose
        rw [decide_eq_true (show ("away" : Str) ∈ looseL1 by decide +kernel), decide_eq_true r]
        rfl
      rw [e] at n
      cases n
    · rw [goes_some (k := 3) (y := "ceiling") (by decide +kernel) (by decide +kernel), goes_some (k := 3) (y := "ceiling") (by decide +kernel) (by decide +kernel)]; rfl
    · rw [goes_some (k := 4) (y := "floor") (by decide +kernel) (by decide +kernel), goes_some (k := 4) (y := "floor") (by decide +kernel) (by decide +kernel)]; rfl
    all_goals have z : 2 * (x % U) - U ≠ 0 := tie (by decide +kernel)
    · rw [goes_some (k := 0) (y := "even") (by decide +kernel) (by decide +kernel), goes_some (k := 0) (y := "even") (by decide +kernel) (by decide +kernel), if_neg z, if_neg z]
    · rw [goes_some (k := 2) (y := "away") (by decide +kernel) (by decide +kernel), goes_some (k := 2) (y := "away") (by decide +kernel) (by decide +kernel), if_neg z, if_neg z]
    · rw [goes_some (k := 1) (y := "cut") (by decide +kernel) (by decide +kernel), goes_some (k := 1) (y := "cut") (by decide +kernel) (by decide +kernel), if_neg z, if_neg z]
  rw [same]
  split <;> omega
theorem run_tight (h : 0 < U) (ht : t ∈ waysL) (n : isLoose U x t = false) : ∀ (m : Nat) (s : Int), run U x t m s = s + near x U t * m
  | 0, s => by show s = _; simp
  | m + 1, s => by
    rw [run_snoc, run_tight h ht n m s, stp_tight h ht n]
    rw [show ((m + 1 : Nat) : Int) = (m : Int) + 1 by omega, Int.mul_add, Int.mul_one]
    omega
/-! ### halfeven -/
theorem loose_even (l : isLoose U x "halfeven" = true) : 2 * (x % U) = U := by
  unfold isLoose at l
  by_cases z : 2 * (x % U) = U
  · exact z
  · rw [decide_eq_false z, decide_eq_false (show ¬ ("halfeven" : Str) ∈ looseL1 by decide +kernel)] at l
    simp at l
theorem stp_even (h : 0 < U) (l : isLoose U x "halfeven" = true) (s : Int) : stp U x "halfeven" s = s + x / U + (s + x / U) % 2 := by
  have z := loose_even l
  rw [stp_eq h, if_neg (by omega), goes_some (k := 0) (y := "even") (by decide +kernel) (by decide +kernel), if_pos (show 2 * (x % U) - U = 0 by omega)]
  show (if decide ((s + x / U) % 2 = 1) = true then _ else _) = _
  by_cases e : (s + x / U) % 2 = 1
  · rw [if_pos (decide_eq_true e)]
    omega
  · rw [if_neg (fun y => e (of_decide_eq_true y))]
    omega
theorem run_even (h : 0 < U) (l : isLoose U x "halfeven" = true) : ∀ (m : Nat) (s : Int), run U x "halfeven" (m + 1) s = s + x / U + (s + x / U) % 2 + (x / U + x / U % 2) * m ∧ run U x "halfeven" (m + 1) s % 2 = 0
  | 0, s => by
    have e : run U x "halfeven" (0 + 1) s = s + x / U + (s + x / U) % 2 := stp_even h l s
    rw [e]
    refine ⟨by simp, by omega⟩
  | m + 1, s => by
    obtain ⟨a, b⟩ := run_even h l m s
    rw [run_snoc, stp_even h l]
    have e : (x / U + x / U % 2) * ((m + 1 : Nat) : Int) = (x / U + x / U % 2) * (m : Int) + (x / U + x / U % 2) := by
      rw [show ((m + 1 : Nat) : Int) = (m : Int) + 1 by omega, Int.mul_add, Int.mul_one]
    rw [e]
    generalize run U x "halfeven" (m + 1) s = r at a b
    generalize (x / U + x / U % 2) * (m : Int) = y at a
    refine ⟨by omega, by omega⟩
/-! ### cut, away, halfaway, halfcut -/
/-- what such an entry adds, ahead of where the total would be if it were rounded down -/
def addS (F : Int) (t : Str) (ahead : Int) : Int := if decide (0 ≤ ahead) = decide (t = "cut" ∨ t = "halfcut") then F else F + 1
theorem addS_cong {F a b : Int} {t : Str} (h : 0 ≤ a ↔ 0 ≤ b) : addS F t a = addS F t b := by
  unfold addS
  rw [decide_eq_decide.mpr h]
theorem stp_side (h : 0 < U) (ht : t ∈ waysL) (l : isLoose U x t = true) (ne : t ≠ "halfeven") (s : Int) : stp U x t s = s + addS (x / U) t (s + x / U) := by
  have r : x % U ≠ 0 := by
    intro z
    unfold isLoose at l
    rw [z] at l
    simp at l
    omega
  rw [stp_eq h, if_neg r]
  generalize x / U = F
  have fin : ∀ (up : Bool), up = !decide (decide (0 ≤ s + F) = decide (t = "cut" ∨ t = "halfcut")) → (if up = true then s + F + 1 else s + F) = s + addS F t (s + F) := fun up e => by
    unfold addS
    by_cases c : decide (0 ≤ s + F) = decide (t = "cut" ∨ t = "halfcut")
    · rw [if_pos c, e, decide_eq_true c, if_neg (by decide)]
    · rw [if_neg c, e, decide_eq_false c, if_pos (by decide)]
      omega
  have bool : ∀ a b : Bool, (!decide (a = b)) = (a != b) := by decide
  have neg : decide (s + F < 0) = !decide (0 ≤ s + F) := by
    by_cases c : s + F < 0
    · rw [decide_eq_true c, decide_eq_false (by omega)]; rfl
    · rw [decide_eq_false c, decide_eq_true (by omega)]; rfl
  have half : t ∈ looseL2 → 2 * (x % U) - U = 0 := fun m => by
    have n1 : ¬ t ∈ looseL1 := by
      intro y
      simp only [looseL1, looseL2, List.mem_cons, List.not_mem_nil, or_false] at y m
      rcases y with rfl | rfl <;> revert m <;> decide +kernel
    unfold isLoose at l
    rw [decide_eq_false n1] at l
    by_cases z : 2 * (x % U) = U
    · omega
    · rw [decide_eq_false z] at l
      simp at l
  have none : ¬ t ∈ looseL1 → ¬ t ∈ looseL2 → False := fun a b => by
    unfold isLoose at l
    rw [decide_eq_false a, decide_eq_false b] at l
    simp at l
  refine fin _ ?_
  rw [bool]
  rcases way_cases ht with rfl | rfl | rfl | rfl | rfl | rfl | rfl | rfl | rfl
  · exact (none (by decide +kernel) (by decide +kernel)).elim
  · exact (none (by decide +kernel) (by decide +kernel)).elim
  · rw [goes_none (k := 1) (by decide +kernel) (by decide +kernel)]
    show decide (s + F < 0) = _
    rw [neg, decide_eq_true (show ("cut" : Str) = "cut" ∨ ("cut" : Str) = "halfcut" from .inl rfl)]
    cases decide (0 ≤ s + F) <;> rfl
  · rw [goes_none (k := 2) (by decide +kernel) (by decide +kernel)]
    show decide (0 ≤ s + F) = _
    rw [decide_eq_false (show ¬ (("away" : Str) = "cut" ∨ ("away" : Str) = "halfcut") by decide +kernel)]
    cases decide (0 ≤ s + F) <;> rfl
  · exact (none (by decide +kernel) (by decide +kernel)).elim
  · exact (none (by decide +kernel) (by decide +kernel)).elim
  · exact absurd rfl ne
  · rw [goes_some (k := 2) (y := "away") (by decide +kernel) (by decide +kernel), if_pos (half (by decide +kernel))]
    show decide (0 ≤ s + F) = _
    rw [decide_eq_false (show ¬ (("halfaway" : Str) = "cut" ∨ ("halfaway" : Str) = "halfcut") by decide +kernel)]
    cases decide (0 ≤ s + F) <;> rfl
  · rw [goes_some (k := 1) (y := "cut") (by decide +kernel) (by decide +kernel), if_pos (half (by decide +kernel))]
    show decide (s + F < 0) = _
    rw [neg, decide_eq_true (show ("halfcut" : Str) = "cut" ∨ ("halfcut" : Str) = "halfcut" from .inr rfl)]
    cases decide (0 ≤ s + F) <;> rfl
/-- how many steps stay on one side -/
def sideN (ahead added times : Int) : Int :=
  if 0 ≤ ahead then (if 0 ≤ added then times else ahead / (-added) + 1) else (if added ≤ 0 then times else (added - 1 - ahead) / added)
theorem side_pos {ahead added times : Int} (h : 0 < times) : 0 < sideN ahead added times := by
  unfold sideN
  split
  · split
    · exact h
    · have := Int.ediv_nonneg (show 0 ≤ ahead by assumption) (show 0 ≤ -added by omega)
      omega
  · split
    · exact h
    · have a0 : 0 < added := by omega
      have e : (added - 1 - ahead) = (-1 - ahead) + 1 * added := by omega
      rw [e, Int.add_mul_ediv_right _ _ (by omega)]
      have := Int.ediv_nonneg (show 0 ≤ -1 - ahead by omega) (show 0 ≤ added by omega)
      omega
/-- so many steps as sideN tells, each adds the same -/
theorem side_stays {ahead added times : Int} {j : Nat} (h : (j : Int) < sideN ahead added times) : (0 ≤ ahead + added * j ↔ 0 ≤ ahead) := by
  unfold sideN at h
  have j0 : (0 : Int) ≤ j := by omega
  split at h
  · rename_i a
    split at h
    · rename_i b
      have := Int.mul_nonneg b j0
      constructor <;> intro _ <;> omega
    · rename_i b
      have z : (j : Int) ≤ ahead / (-added) := by omega
      have y := (Int.le_ediv_iff_mul_le (show 0 < -added by omega)).mp z
      rw [Int.mul_neg, Int.mul_comm] at y
      constructor <;> intro _ <;> omega
  · rename_i a
    split at h
    · rename_i b
      have := Int.mul_nonneg (show 0 ≤ -added by omega) j0
      rw [Int.neg_mul] at this
      constructor <;> intro _ <;> omega
    · rename_i b
      have z : (j : Int) + 1 ≤ (added - 1 - ahead) / added := by omega
      have y := (Int.le_ediv_iff_mul_le (show 0 < added by omega)).mp z
      rw [Int.add_mul, Int.one_mul, Int.mul_comm] at y
      constructor <;> intro _ <;> omega
theorem run_side (h : 0 < U) (ht : t ∈ waysL) (l : isLoose U x t = true) (ne : t ≠ "halfeven") (s : Int) : ∀ m : Nat, ((m : Int) ≤ sideN (s + x / U) (addS (x / U) t (s + x / U)) m ∨ ∃ T, (m : Int) ≤ sideN (s + x / U) (addS (x / U) t (s + x / U)) T) →
    run U x t m s = s + addS (x / U) t (s + x / U) * m
  | 0, _ => by show s = _; simp
  | m + 1, hm => by
    have hT : ∃ T, ((m + 1 : Nat) : Int) ≤ sideN (s + x / U) (addS (x / U) t (s + x / U)) T := hm.elim (fun z => ⟨_, z⟩) id
    obtain ⟨T, hT⟩ := hT
    have ih := run_side h ht l ne s m (.inr ⟨T, by omega⟩)
    rw [run_snoc, ih, stp_side h ht l ne]
    have st := side_stays (j := m) (show (m : Int) < sideN (s + x / U) (addS (x / U) t (s + x / U)) T by omega)
    have e : addS (x / U) t (s + addS (x / U) t (s + x / U) * (m : Int) + x / U) = addS (x / U) t (s + x / U) := addS_cong (by
      rw [show s + addS (x / U) t (s + x / U) * (m : Int) + x / U = s + x / U + addS (x / U) t (s + x / U) * (m : Int) by omega]
      exact st)
    rw [e, show ((m + 1 : Nat) : Int) = (m : Int) + 1 by omega, Int.mul_add, Int.mul_one]
    omega
end
end Own

/-! own layer, of no law: OWNU: what rounding comes to, way by way. -/
namespace Own
open PySem PySem.Spec PyProof.Rows L2 LamX NdefX
theorem low_neg {n d : Int} (h : 0 < d) (r : n % d ≠ 0) : (n / d < 0 ↔ n < 0) ∧ (0 ≤ n / d ↔ ¬ n < 0) := by
  have e := Int.emod_add_mul_ediv n d
  have r0 := Int.emod_nonneg n (show d ≠ 0 by omega)
  have r1 := Int.emod_lt_of_pos n h
  have a : n / d < 0 → n < 0 := fun z => Int.lt_of_not_ge fun y => by
    have := Int.ediv_nonneg y (Int.le_of_lt h)
    omega
  have b : 0 ≤ n / d → ¬ n < 0 := fun z => by
    have y := Int.mul_nonneg (Int.le_of_lt h) z
    omega
  constructor
  · exact ⟨a, fun z => Int.lt_of_not_ge fun y => b y z⟩
  · exact ⟨b, fun z => Int.le_of_not_gt fun y => z (a y)⟩
theorem near_zero {n d : Int} {t : Str} (r : n % d = 0) : near n d t = n / d := by
  unfold near
  rw [if_pos r]
theorem near_up {n d : Int} {t : Str} (r : n % d ≠ 0) : near n d t = n / d + (if goesUp t (n / d) (2 * (n % d) - d) = true then 1 else 0) := by
  unfold near
  rw [if_neg r]
  split <;> omega
theorem near_down {n d : Int} : near n d "floor" = n / d := by
  by_cases r : n % d = 0
  · exact near_zero r
  · rw [near_up r, goes_none (k := 4) (by decide +kernel) (by decide +kernel)]
    show n / d + (if false = true then 1 else 0) = n / d
    rw [if_neg (by decide)]
    omega
theorem near_ceil {n d : Int} (r : n % d ≠ 0) : near n d "ceiling" = n / d + 1 := by
  rw [near_up r, goes_none (k := 3) (by decide +kernel) (by decide +kernel)]
  rfl
/-- 1 where the two are alike, as int() tells it -/
def alk (a b : Bool) : Int := if (decide (a = b)) = true then 1 else 0
theorem near_side {n d : Int} {t : Str} (h : 0 < d) (r : n % d ≠ 0) (ht : t = "cut" ∨ t = "away") : near n d t = n / d + alk (decide (n < 0)) (decide (t = "cut")) := by
  obtain ⟨a, b⟩ := low_neg h r
  rw [near_up r]
  rcases ht with rfl | rfl
  · rw [goes_none (k := 1) (by decide +kernel) (by decide +kernel), decide_eq_true (rfl : ("cut" : Str) = "cut")]
    show n / d + (if decide (n / d < 0) = true then 1 else 0) = _
    rw [decide_eq_decide.mpr a]
    unfold alk
    cases decide (n < 0) <;> rfl
  · rw [goes_none (k := 2) (by decide +kernel) (by decide +kernel), decide_eq_false (show ¬ ("away" : Str) = "cut" by decide +kernel)]
    show n / d + (if decide (0 ≤ n / d) = true then 1 else 0) = _
    rw [decide_eq_decide.mpr b]
    unfold alk
    by_cases z : n < 0
    · rw [decide_eq_true z, decide_eq_false (fun y => y z)]
      rfl
    · rw [decide_eq_false z, decide_eq_true z]
      rfl
theorem near_off {n d : Int} {t : Str} (r : n % d ≠ 0) (ht : t ∈ waysL) (h1 : t ≠ "floor") (h2 : t ≠ "ceiling") (h3 : ¬ (t = "cut" ∨ t = "away")) (p : 2 * (n % d) ≠ d) : near n d t = n / d + (if decide (2 * (n % d) > d) = true then 1 else 0) := by
  obtain ⟨y, hy⟩ : ∃ y, halvL.lookup t = some y := by
    rcases way_cases ht with rfl | rfl | rfl | rfl | rfl | rfl | rfl | rfl | rfl
    · exact absurd rfl h1
    · exact absurd rfl h2
    · exact absurd (.inl rfl) h3
    · exact absurd (.inr rfl) h3
    all_goals exact ⟨_, rfl⟩
  rw [near_up r, goes_some (k := baseK y) hy rfl, if_neg (show ¬ 2 * (n % d) - d = 0 by omega), decide_eq_decide.mpr (show 0 < 2 * (n % d) - d ↔ 2 * (n % d) > d by omega)]
theorem near_even {n d : Int} (r : n % d ≠ 0) (p : 2 * (n % d) = d) : near n d "halfeven" = n / d + n / d % 2 := by
  rw [near_up r, goes_some (k := 0) (y := "even") (by decide +kernel) (by decide +kernel), if_pos (show 2 * (n % d) - d = 0 by omega)]
  show n / d + (if decide (n / d % 2 = 1) = true then 1 else 0) = _
  by_cases y : n / d % 2 = 1
  · rw [decide_eq_true y, if_pos rfl]
    omega
  · rw [decide_eq_false y, if_neg (by decide)]
    omega
theorem near_updn {n d : Int} {t : Str} (r : n % d ≠ 0) (p : 2 * (n % d) = d) (ht : t = "halfup" ∨ t = "halfdown") : near n d t = n / d + (if decide (t = "halfup") = true then 1 else 0) := by
  have z : 2 * (n % d) - d = 0 := by omega
  rw [near_up r]
  rcases ht with rfl | rfl
  · rw [goes_some (k := 3) (y := "ceiling") (by decide +kernel) (by decide +kernel), if_pos z, decide_eq_true (rfl : ("halfup" : Str) = "halfup")]
    rfl
  · rw [goes_some (k := 4) (y := "floor") (by decide +kernel) (by decide +kernel), if_pos z, decide_eq_false (show ¬ ("halfdown" : Str) = "halfup" by decide +kernel)]
    rfl
theorem near_tied {n d : Int} {t : Str} (h : 0 < d) (r : n % d ≠ 0) (p : 2 * (n % d) = d) (ht : t = "halfcut" ∨ t = "halfaway") : near n d t = n / d + alk (decide (n < 0)) (decide (t = "halfcut")) := by
  obtain ⟨a, b⟩ := low_neg h r
  have z : 2 * (n % d) - d = 0 := by omega
  rw [near_up r]
  rcases ht with rfl | rfl
  · rw [goes_some (k := 1) (y := "cut") (by decide +kernel) (by decide +kernel), if_pos z, decide_eq_true (rfl : ("halfcut" : Str) = "halfcut")]
    show n / d + (if decide (n / d < 0) = true then 1 else 0) = _
    rw [decide_eq_decide.mpr a]
    unfold alk
    cases decide (n < 0) <;> rfl
  · rw [goes_some (k := 2) (y := "away") (by decide +kernel) (by decide +kernel), if_pos z, decide_eq_false (show ¬ ("halfaway" : Str) = "halfcut" by decide +kernel)]
    show n / d + (if decide (0 ≤ n / d) = true then 1 else 0) = _
    rw [decide_eq_decide.mpr b]
    unfold alk
    by_cases z : n < 0
    · rw [decide_eq_true z, decide_eq_false (fun y => y z)]
      rfl
    · rw [decide_eq_false z, decide_eq_true z]
      rfl
theorem last_two {t : Str} (ht : t ∈ waysL) (h1 : t ≠ "floor") (h2 : t ≠ "ceiling") (h3 : ¬ (t = "cut" ∨ t = "away")) (h4 : t ≠ "halfeven") (h5 : ¬ (t = "halfup" ∨ t = "halfdown")) : t = "halfcut" ∨ t = "halfaway" := by
  rcases way_cases ht with rfl | rfl | rfl | rfl | rfl | rfl | rfl | rfl | rfl
  · exact absurd rfl h1
  · exact absurd rfl h2
  · exact absurd (.inl rfl) h3
  · exact absurd (.inr rfl) h3
  · exact absurd (.inl rfl) h5
  · exact absurd (.inr rfl) h5
  · exact absurd rfl h4
  · exact .inr rfl
  · exact .inl rfl
/-- single entries, one behind the other -/
def runL (U : Int) (t : Str) (xs : List Int) (s : Int) : Int := xs.foldl (fun s x => stp U x t s) s
theorem runL_app (U : Int) (t : Str) (xs ys : List Int) (s : Int) : runL U t (xs ++ ys) s = runL U t ys (runL U t xs s) := by
  unfold runL
  rw [List.foldl_append]
theorem runL_rep (U x : Int) (t : Str) : ∀ (k : Nat) (s : Int), runL U t (List.replicate k x) s = run U x t k s
  | 0, _ => rfl
  | k + 1, s => runL_rep U x t k (stp U x t s)
theorem stp_zero {U s : Int} {t : Str} (h : 0 < U) : stp U 0 t s = s := by
  rw [stp_eq h, Int.zero_emod, if_pos rfl, Int.zero_ediv]
  omega
theorem run_zero {U : Int} {t : Str} (h : 0 < U) : ∀ (k : Nat) (s : Int), run U 0 t k s = s
  | 0, _ => rfl
  | k + 1, s => by
    show run U 0 t k (stp U 0 t s) = s
    rw [stp_zero h]
    exact run_zero h k s
end Own

/-! k53: the law's small defs. -/
namespace K53
open PySem PySem.Spec PyProof.Rows L2 LamX NdefX Own
abbrev sTe : Stmt := topS 44
abbrev sRd : Stmt := topS 45
section
variable {P : Program} {w : World} {K : PySem.W.Frag} {mg : Str → Option Value} {base : Heap} {C W En : Addr}
theorem scTe : FnScope ["_law_count", "_law_found", "_law_go"] ["_law_count"] (defScope sTe) := ⟨rfl, rfl, rfl, by decide +kernel, rfl, by decide +kernel, by decide +kernel⟩
def spTe : Sp := fun vs H Q _ => ∃ n : Nat, vs = [.int n] ∧ n ≤ 200 ∧ Q (.int ((10 : Int) ^ n)) H
theorem ok_te (A : At K mg "_law_tens" sTe ["_law_count"]) (B : Blt mg) : DefOk P w K mg base CX0 "_law_tens" 1 ["_law_count"] spTe := by
  refine A.ok fun f fd F => F.ok scTe (fun vs H Q E h => ?_) (fun cdv A outer s0 H vs Q E hr h => ?_)
  · obtain ⟨n, rfl, _⟩ := h
    rfl
  · obtain ⟨n, rfl, hn, q⟩ := h
    have nd := scTe.nd
    refine ⟨_, pss_cons (ps_set (i := 1) nd rfl (.inl rfl) pe_int)
      (pss_cons (ps_for PassesOwn.never rfl (pi_range1 (by rfl) B.range (pa_cons (pv 0) pa_nil)) (pg_name (i := 2) nd rfl (.inl rfl)) (pss_one (ps_set (i := 1) nd rfl (.inl rfl) (pe_op op_mul (pv 1) pe_int))))
      (pss_one (ps_ret (pv 1)))), ?_⟩
    refine ⟨_, rfl, n, rfl, by omega, by omega, for_range (lo := 0) (n := n) (fun i σ H' => (∃ y : Option V, σ = [some (.int n), some (.int ((10 : Int) ^ i)), y]) ∧ H' = H) ⟨⟨_, rfl⟩, rfl⟩ ?_ ?_⟩
    · rintro i σ H' hi ⟨⟨y, rfl⟩, rfl⟩
      dsimp only [gName, List.set]
      refine ⟨_, rfl, _, _, rfl, rfl, .inr ⟨by decide, by decide⟩, ?_⟩
      exact ⟨⟨_, by rw [Int.pow_succ]; rfl⟩, rfl⟩
    · rintro σ H' ⟨⟨y, rfl⟩, rfl⟩
      exact ⟨_, rfl, q⟩
theorem scRd : FnScope ["_law_number_here", "_law_unit", "_law_way", "_law_floor", "_law_left"] ["_law_number_here", "_law_unit", "_law_way"] (defScope sRd) := ⟨rfl, rfl, rfl, by decide +kernel, rfl, by decide +kernel, by decide +kernel⟩
def spRd : Sp := fun vs H Q _ => ∃ (n U : Int) (t : Str), vs = [.int n, .int U, .str t] ∧ 0 < U ∧ U < 1073741824 ∧ t ∈ waysL ∧ Q (.int (near n U t)) H
theorem ok_rd (A : At K mg "_law_rounded" sRd ["_law_number_here", "_law_unit", "_law_way"]) (B : Blt mg) : DefOk P w K mg base CX0 "_law_rounded" 1 ["_law_number_here", "_law_unit", "_law_way"] spRd := by
  refine A.ok fun f fd F => F.ok scRd (fun vs H Q E h => ?_) (fun cdv A outer s0 H vs Q E hr h => ?_)
  · obtain ⟨n, U, t, rfl, _⟩ := h
    rfl
  · obtain ⟨n, U, t, rfl, U0, U1, ht, q⟩ := h
    have nd := scRd.nd
    refine ⟨_, pss_cons (ps_par (i := 3) (j := 4) (by rfl) nd rfl rfl (by decide) rfl rfl (pa_cons (pe_op op_fdiv (pv 0) (pv 1)) (pa_cons (pe_op op_mod (pe_callTy call_int1 (by rfl) B.int (by decide +kernel) (pa_cons (pv 0) pa_nil)) (pv 1)) pa_nil)) (by rfl))
      (pss_cons (ps_if (PW.pt (pw_or (pt_cmpR op_eq (pv 4) pe_int (nomark _)) (pw_or1 (pt_cmpR op_eq (pv 2) pe_str (nomark _))))) (pss_one (ps_ret (pv 3))) pss_nil)
      (pss_cons (ps_if (pt_cmpR op_eq (pv 2) pe_str (nomark _)) (pss_one (ps_ret (pe_op op_add (pv 3) pe_int))) pss_nil)
      (pss_cons (ps_if (PW.pt (pw_or (pt_cmpR op_eq (pv 2) pe_str (nomark _)) (pw_or1 (pt_cmpR op_eq (pv 2) pe_str (nomark _))))) (pss_one (ps_ret (pe_op op_add (pv 3) (pe_callTy call_int1 (by rfl) B.int (by decide +kernel) (pa_cons (pe_cmpR op_eq (pe_cmpR op_lt (pv 0) pe_int (nomark _)) (pe_cmpR op_eq (pv 2) pe_str (nomark _)) (nomark _)) pa_nil))))) pss_nil)
      (pss_cons (ps_if (pt_cmpR op_ne (pe_op op_mul pe_int (pv 4)) (pv 1) (nomark _)) (pss_one (ps_ret (pe_op op_add (pv 3) (pe_callTy call_int1 (by rfl) B.int (by decide +kernel) (pa_cons (pe_cmpR op_gt (pe_op op_mul pe_int (pv 4)) (pv 1) (nomark _)) pa_nil))))) pss_nil)
      (pss_cons (ps_if (pt_cmpR op_eq (pv 2) pe_str (nomark _)) (pss_one (ps_ret (pe_op op_add (pv 3) (pe_op op_mod (pe_callTy call_int1 (by rfl) B.int (by decide +kernel) (pa_cons (pv 3) pa_nil)) pe_int)))) pss_nil)
      (pss_cons (ps_if (PW.pt (pw_or (pt_cmpR op_eq (pv 2) pe_str (nomark _)) (pw_or1 (pt_cmpR op_eq (pv 2) pe_str (nomark _))))) (pss_one (ps_ret (pe_op op_add (pv 3) (pe_callTy call_int1 (by rfl) B.int (by decide +kernel) (pa_cons (pe_cmpR op_eq (pv 2) pe_str (nomark _)) pa_nil))))) pss_nil)
      (pss_one (ps_ret (pe_op op_add (pv 3) (pe_callTy call_int1 (by rfl) B.int (by decide +kernel) (pa_cons (pe_cmpR op_eq (pe_cmpR op_lt (pv 0) pe_int (nomark _)) (pe_cmpR op_eq (pv 2) pe_str (nomark _)) (nomark _)) pa_nil))))))))))), ?_⟩
    have U2 : U ≠ 0 := by omega
    refine ⟨_, rfl, _, rfl, n, U, rfl, rfl, ⟨U0, U1⟩, _, rfl, .inl ⟨n, rfl, _, rfl, _, _, rfl, rfl, U0, _, _, rfl, ?_⟩⟩
    dsimp only [gName, List.set]
    have str : ∀ {z : Str}, decide (V.str t = V.str z) = true → t = z := fun {z} e => by simpa using e
    have nst : ∀ {z : Str}, ¬ decide (V.str t = V.str z) = true → t ≠ z := fun {z} e y => e (by rw [y]; simp)
    have dbl : ∀ a b : Bool, decide (V.bl a = V.bl b) = decide (a = b) := by decide
    have alkE : ∀ z : Str, (if decide (V.bl (decide (n < 0)) = V.bl (decide (V.str t = V.str z))) = true then (1 : Int) else 0) = alk (decide (n < 0)) (decide (t = z)) := fun z => by
      unfold alk
      rw [Own.dec_str, dbl]
    refine ⟨_, rfl, rfl, _, rfl, ite2 (fun e => ?_) (fun e => ?_)⟩
    · have r : n % U = 0 := by simpa using e
      rw [near_zero r] at q
      exact iteT ⟨_, rfl, q⟩
    have r : n % U ≠ 0 := by simpa using e
    refine ⟨_, rfl, rfl, _, rfl, ite2 (fun e => ?_) (fun e => ?_)⟩
    · have et := str e
      subst et
      rw [near_down] at q
      exact ⟨_, rfl, q⟩
    have h1 := nst e
    refine ⟨_, rfl, rfl, _, rfl, ite2 (fun e => ?_) (fun e => ?_)⟩
    · have et := str e
      subst et
      rw [near_ceil r] at q
      exact ⟨_, rfl, _, _, rfl, rfl, q⟩
    have h2 := nst e
    have side : (t = "cut" ∨ t = "away") → Q (.int (n / U + if decide (V.bl (decide (n < 0)) = V.bl (decide (V.str t = V.str "cut"))) = true then (1 : Int) else 0)) H := fun z => by
      rw [alkE, ← near_side U0 r z]
      exact q
    refine ⟨_, rfl, rfl, _, rfl, ite2 (fun e => iteT ?_) (fun e => ?_)⟩
    · exact ⟨_, rfl, _, rfl, _, _, rfl, rfl, _, rfl, rfl, rfl, .inr ⟨_, rfl, _, _, rfl, rfl, side (.inl (str e))⟩⟩
    have h3 := nst e
    refine ⟨_, rfl, rfl, _, rfl, ite2 (fun e => ?_) (fun e => ?_)⟩
    · exact ⟨_, rfl, _, rfl, _, _, rfl, rfl, _, rfl, rfl, rfl, .inr ⟨_, rfl, _, _, rfl, rfl, side (.inr (str e))⟩⟩
    have h4 := nst e
    have h34 : ¬ (t = "cut" ∨ t = "away") := fun z => z.elim h3 h4
    clear side
    refine ⟨_, rfl, _, _, rfl, rfl, .inl ⟨by decide, by decide⟩, _, rfl, rfl, _, rfl, ite2 (fun e => ?_) (fun e => ?_)⟩
    · have p : 2 * (n % U) ≠ U := by simpa using e
      rw [near_off r ht h1 h2 h34 p] at q
      exact ⟨_, rfl, _, rfl, _, _, rfl, rfl, .inl ⟨by decide, by decide⟩, _, rfl, _, _, rfl, rfl, .inr ⟨_, rfl, _, _, rfl, rfl, q⟩⟩
    have p : 2 * (n % U) = U := by simpa using e
    refine ⟨_, rfl, rfl, _, rfl, ite2 (fun e => ?_) (fun e => ?_)⟩
    · have et := str e
      subst et
      rw [near_even r p] at q
      exact ⟨_, rfl, _, rfl, .inl ⟨_, rfl, _, _, rfl, rfl, (show (0 : Int) < 2 by decide), _, _, rfl, rfl, q⟩⟩
    have h5 := nst e
    have upd : (t = "halfup" ∨ t = "halfdown") → Q (.int (n / U + if decide (V.str t = V.str "halfup") = true then (1 : Int) else 0)) H := fun z => by
      rw [Own.dec_str, ← near_updn r p z]
      exact q
    refine ⟨_, rfl, rfl, _, rfl, ite2 (fun e => iteT ?_) (fun e => ?_)⟩
    · exact ⟨_, rfl, _, rfl, rfl, .inr ⟨_, rfl, _, _, rfl, rfl, upd (.inl (str e))⟩⟩
    have h6 := nst e
    refine ⟨_, rfl, rfl, _, rfl, ite2 (fun e => ?_) (fun e => ?_)⟩
    · exact ⟨_, rfl, _, rfl, rfl, .inr ⟨_, rfl, _, _, rfl, rfl, upd (.inr (str e))⟩⟩
    have h7 := nst e
    have l2 := last_two ht h1 h2 h34 h5 (fun z => z.elim h6 h7)
    refine ⟨_, rfl, _, rfl, _, _, rfl, rfl, _, rfl, rfl, rfl, .inr ⟨_, rfl, _, _, rfl, rfl, ?_⟩⟩
    show Q (.int (n / U + if decide (V.bl (decide (n < 0)) = V.bl (decide (V.str t = V.str "halfcut"))) = true then (1 : Int) else 0)) H
    rw [alkE, ← near_tied U0 r p l2]
    exact q
end
end K53

/-! k53: the law's small defs. -/
namespace K53
open PySem PySem.Spec PyProof.Rows L2 LamX NdefX Own
abbrev sHd : Stmt := topS 46
abbrev sLc : Stmt := topS 47
abbrev sNu : Stmt := topS 48
/-- a column of the law: figures ahead, figures behind, mark -/
def Kd (H : Hp) (r : Addr) (wh c : Nat) (m : Str) : Prop := H r = some (.tup [.int (wh : Nat), .int (c : Nat), .str m])
def KdOk (wh c : Nat) (m : Str) : Prop := wh ≤ 30 ∧ c ≤ 4 ∧ ¬ (wh = 0 ∧ c = 0) ∧ m ∈ marksL
def topOf (wh c : Nat) : Int := (10 : Int) ^ (wh + c) - 1
def lowOf (wh c : Nat) (m : Str) : Int := if m = "signed" then -topOf wh c else if m = "unsigned" then 0 else 1
theorem top_pos {wh c : Nat} {m : Str} (h : KdOk wh c m) : 9 ≤ topOf wh c ∧ topOf wh c < 2 ^ 130 := by
  have a := ten_mono (show 1 ≤ wh + c by have := h.2.2.1; omega)
  have b := ten_mono (show wh + c ≤ 34 by have := h.1; have := h.2.1; omega)
  have e1 : (10 : Int) ^ 1 = 10 := by decide
  have e2 : (10 : Int) ^ 34 < 2 ^ 130 := by decide +kernel
  unfold topOf
  omega
theorem low_le {wh c : Nat} {m : Str} (h : KdOk wh c m) : lowOf wh c m ≤ topOf wh c ∧ -topOf wh c ≤ lowOf wh c m ∧ (m ≠ "signed" → 0 ≤ lowOf wh c m) := by
  have := top_pos h
  unfold lowOf
  split
  · rename_i z
    exact ⟨by omega, by omega, fun y => absurd z y⟩
  · split <;> omega
section
variable {P : Program} {w : World} {K : PySem.W.Frag} {mg : Str → Option Value} {base : Heap} {C W : Addr} {H H' : Hp}
theorem Kd.same {r : Addr} {wh c : Nat} {m : Str} (h : Kd H r wh c m) (s : Same H H') : Kd H' r wh c m := s _ _ h
theorem Kd.keep {r d : Addr} {wh c : Nat} {m : Str} {B : Int} (h : Kd H r wh c m) (hp : Pen H d B) (k : KeepP d H H') : Kd H' r wh c m := by
  obtain ⟨p, ns, mm, l, ed, _⟩ := hp.ex
  exact k _ _ (ne_of h ed (by intro z; cases z)) h
theorem scHd : FnScope ["_law_one", "_law_top"] ["_law_one"] (defScope sHd) := ⟨rfl, rfl, rfl, by decide +kernel, rfl, by decide +kernel, by decide +kernel⟩
def spHd : Sp := fun vs H Q _ => ∃ (r : Addr) (wh c : Nat) (m : Str), vs = [.ref r] ∧ Kd H r wh c m ∧ KdOk wh c m ∧ ∀ (p : Addr) (H' : Hp), Same H H' → H' p = some (.tup [.int (lowOf wh c m), .int (topOf wh c)]) → Q (.ref p) H'
theorem held_nd (a b c : V) : ((txK [("signed", a), ("unsigned", b), ("positive", c)]).map (·.1)).Nodup := by
  show [(Sum.inr "signed" : Key), Sum.inr "unsigned", Sum.inr "positive"].Nodup
  decide +kernel
theorem ok_hd (A : At K mg "_law_held" sHd ["_law_one"]) (D6 : DefOk P w K mg base CX0 "_law_tens" 1 ["_law_count"] spTe) : DefOk P w K mg base CX0 "_law_held" 2 ["_law_one"] spHd := by
  refine A.ok fun f fd F => F.ok scHd (fun vs H Q E h => ?_) (fun cdv A outer s0 H vs Q E hr h => ?_)
  · obtain ⟨r, wh, c, m, rfl, _⟩ := h
    rfl
  · obtain ⟨r, wh, c, m, rfl, er, ok, q⟩ := h
    have nd := scHd.nd
    have hu := hu_of hr
    refine ⟨_, pss_cons (ps_set (i := 1) nd rfl (.inl rfl) (pe_op op_sub (pe_def D6 hr (by decide) (by rfl) pass0 (pa_cons (pe_op op_add (pe_ix ix_tup (pv 0) pe_int (fun _ _ => rfl)) (pe_ix ix_tup (pv 0) pe_int (fun _ _ => rfl))) pa_nil)) pe_int))
      (pss_one (ps_ret (pe_dget hu (pe_disp (pps_cons pe_str (pe_tup (pa_cons (pe_un un_neg (pv 1)) (pa_cons (pv 1) pa_nil))) (pps_cons pe_str (pe_tup (pa_cons pe_int (pa_cons (pv 1) pa_nil))) (pps_cons pe_str (pe_tup (pa_cons pe_int (pa_cons (pv 1) pa_nil))) pps_nil))) (by rfl) (by rfl) (fun z => by cases z) (by decide)) (pe_ix ix_tup (pv 0) pe_int (fun _ _ => rfl)) (fun _ _ => rfl)))), ?_⟩
    obtain ⟨o1, o2, o3, o4⟩ := id ok
    have er : H r = some (.tup [.int (wh : Nat), .int (c : Nat), .str m]) := er
    refine ⟨_, rfl, r, _, 0, _, rfl, rfl, SqT.of er, rfl, _, rfl, r, _, 1, _, rfl, rfl, SqT.of er, rfl, _, _, rfl, rfl, wh + c, by show [V.int ((wh : Int) + (c : Int))] = _; rw [show (wh : Int) + (c : Int) = ((wh + c : Nat) : Int) by omega], by omega, _, _, rfl, rfl, ?_⟩
    dsimp only [gName, List.set]
    have ht : (10 : Int) ^ (wh + c) - 1 = topOf wh c := rfl
    rw [ht]
    intro p np
    have s0 := same_new (o := HO.dK []) np
    have ep : upd H p (HO.dK []) p = some (.dK []) := upd_same
    generalize upd H p (HO.dK []) = H0 at s0 ep ⊢
    refine ⟨_, rfl, topOf wh c, rfl, _, rfl, by show 2 ≤ sizeLine; decide, fun a1 n1 => ?_⟩
    have s1 := same_new (o := HO.tup [.int (-topOf wh c), .int (topOf wh c)]) n1
    have e1 : upd H0 a1 (HO.tup [.int (-topOf wh c), .int (topOf wh c)]) a1 = some (.tup [.int (-topOf wh c), .int (topOf wh c)]) := upd_same
    generalize upd H0 a1 (HO.tup [.int (-topOf wh c), .int (topOf wh c)]) = H1 at s1 e1 ⊢
    refine ⟨_, rfl, by show 2 ≤ sizeLine; decide, fun a2 n2 => ?_⟩
    have s2 := same_new (o := HO.tup [.int 0, .int (topOf wh c)]) n2
    have e2 : upd H1 a2 (HO.tup [.int 0, .int (topOf wh c)]) a2 = some (.tup [.int 0, .int (topOf wh c)]) := upd_same
    generalize upd H1 a2 (HO.tup [.int 0, .int (topOf wh c)]) = H2 at s2 e2 ⊢
    refine ⟨_, rfl, by show 2 ≤ sizeLine; decide, fun a3 n3 => ?_⟩
    have s3 := same_new (o := HO.tup [.int 1, .int (topOf wh c)]) n3
    have e3 : upd H2 a3 (HO.tup [.int 1, .int (topOf wh c)]) a3 = some (.tup [.int 1, .int (topOf wh c)]) := upd_same
    generalize upd H2 a3 (HO.tup [.int 1, .int (topOf wh c)]) = H3 at s3 e3 ⊢
    have s13 := (s1.trans s2).trans s3
    have ep3 := s13 _ _ ep
    refine ⟨ep3, txK [("signed", .ref a1), ("unsigned", .ref a2), ("positive", .ref a3)], rfl, by show 3 ≤ 15; decide, ?_⟩
    rw [merge_new (held_nd _ _ _)]
    have pd : ∀ {x : Addr} {xs : List V}, H3 x = some (.tup xs) → x ≠ p := fun e => ne_of e ep3 (by intro z; cases z)
    have f1 := s3 _ _ (s2 _ _ e1)
    have f2 := s3 _ _ e2
    have s4 : Same H (upd H3 p (.dK (txK [("signed", .ref a1), ("unsigned", .ref a2), ("positive", .ref a3)]))) := fun b o eb => by
      rw [upd_ne (ne_of_none eb np)]
      exact s13 _ _ (s0 _ _ eb)
    have g1 := (upd_ne (o := HO.dK (txK [("signed", .ref a1), ("unsigned", .ref a2), ("positive", .ref a3)])) (pd f1)).trans f1
    have g2 := (upd_ne (o := HO.dK (txK [("signed", .ref a1), ("unsigned", .ref a2), ("positive", .ref a3)])) (pd f2)).trans f2
    have g3 := (upd_ne (o := HO.dK (txK [("signed", .ref a1), ("unsigned", .ref a2), ("positive", .ref a3)])) (pd e3)).trans e3
    have gp : upd H3 p (HO.dK (txK [("signed", .ref a1), ("unsigned", .ref a2), ("positive", .ref a3)])) p = some (.dK (txK [("signed", .ref a1), ("unsigned", .ref a2), ("positive", .ref a3)])) := upd_same
    generalize upd H3 p _ = H4 at s4 g1 g2 g3 gp ⊢
    refine ⟨_, rfl, r, _, 2, _, rfl, rfl, SqT.of (s4 _ _ er), rfl, ?_⟩
    have dg := DGet.tx m gp
    simp only [marksL, List.mem_cons, List.not_mem_nil, or_false] at o4
    rcases o4 with rfl | rfl | rfl
    · exact ⟨p, .ref a1, rfl, dg, q a1 H4 s4 (by unfold lowOf; rw [if_pos rfl]; exact g1)⟩
    · exact ⟨p, .ref a2, rfl, dg, q a2 H4 s4 (by unfold lowOf; rw [if_neg (by decide +kernel), if_pos rfl]; exact g2)⟩
    · exact ⟨p, .ref a3, rfl, dg, q a3 H4 s4 (by unfold lowOf; rw [if_neg (by decide +kernel), if_neg (by decide +kernel)]; exact g3)⟩
theorem scLc : FnScope ["_law_pen_here", "_law_whole", "_law_places", "_law_mark"] ["_law_pen_here"] (defScope sLc) := ⟨rfl, rfl, rfl, by decide +kernel, rfl, by decide +kernel, by decide +kernel⟩
def spLc : Sp := fun vs H Q _ => ∃ (d : Addr) (B : Int), vs = [.ref d] ∧ Pen H d B ∧ B ≤ 900000000 ∧ ∀ (r : Addr) (wh c : Nat) (m : Str) (H' : Hp), Kd H' r wh c m → KdOk wh c m → KeepP d H H' → Pen H' d (B + 3) → Q (.ref r) H'
theorem ok_lc (A : At K mg "_law_column" sLc ["_law_pen_here"]) (B : Blt mg) (D2 : DefOk P w K mg base CX0 "_law_pick" 2 ["_law_pen_here", "_law_menu"] spPick) : DefOk P w K mg base CX0 "_law_column" 3 ["_law_pen_here"] spLc := by
  refine A.ok fun f fd F => F.ok scLc (fun vs H Q E h => ?_) (fun cdv A outer s0 H vs Q E hr h => ?_)
  · obtain ⟨d, B, rfl, _⟩ := h
    rfl
  · obtain ⟨d, B0, rfl, hp, hB, q⟩ := h
    have nd := scLc.nd
    refine ⟨_, pss_cons (ps_par (i := 1) (j := 2) (by rfl) nd rfl rfl (by decide) rfl rfl (pa_cons (pe_def D2 hr (by decide) (by rfl) pass0 (pa_cons (pv 0) (pa_cons (pe_lst (pa_cons pe_int (pa_cons pe_int (pa_cons pe_int (pa_cons pe_int (pa_cons pe_int (pa_cons pe_int pa_nil))))))) pa_nil))) (pa_cons (pe_def D2 hr (by decide) (by rfl) pass0 (pa_cons (pv 0) (pa_cons (pe_lst (pa_cons pe_int (pa_cons pe_int (pa_cons pe_int (pa_cons pe_int (pa_cons pe_int (pa_cons pe_int (pa_cons pe_int (pa_cons pe_int pa_nil))))))))) pa_nil))) pa_nil)) (by rfl))
      (pss_cons (ps_set (i := 3) nd rfl (.inl rfl) (pe_def D2 hr (by decide) (by rfl) pass0 (pa_cons (pv 0) (pa_cons (pe_lst (pa_cons pe_str (pa_cons pe_str (pa_cons pe_str pa_nil)))) pa_nil))))
      (pss_one (ps_ret (pe_tup (pa_cons (pv 1) (pa_cons (pe_callB (call_max2 rfl) (by rfl) B.max (by decide +kernel) (pa_cons (pv 2) (pa_cons (pe_callTy call_int1 (by rfl) B.int (by decide +kernel) (pa_cons (pe_cmpR op_eq (pv 1) pe_int (nomark _)) pa_nil)) pa_nil))) (pa_cons (pv 3) pa_nil))))))), ?_⟩
    refine ⟨_, rfl, by show 6 ≤ sizeLine; decide, fun g1 m1 => ?_⟩
    have s1 := same_new (o := HO.lst [.int 0, .int 0, .int 1, .int 2, .int 5, .int 30]) m1
    refine ⟨d, g1, _, _, rfl, upd_same, by simp, by show 6 ≤ 1000; decide, hp.same s1, by omega, fun x H1 hx k1 p1 => ?_⟩
    obtain ⟨wh, rfl, hw⟩ : ∃ n : Nat, x = .int n ∧ n ≤ 30 := by
      simp only [List.mem_cons, List.not_mem_nil, or_false] at hx
      rcases hx with rfl | rfl | rfl | rfl | rfl | rfl
      · exact ⟨0, rfl, by decide⟩
      · exact ⟨0, rfl, by decide⟩
      · exact ⟨1, rfl, by decide⟩
      · exact ⟨2, rfl, by decide⟩
      · exact ⟨5, rfl, by decide⟩
      · exact ⟨30, rfl, by decide⟩
    refine ⟨_, rfl, by show 8 ≤ sizeLine; decide, fun g2 m2 => ?_⟩
    have s2 := same_new (o := HO.lst [.int 0, .int 1, .int 1, .int 1, .int 2, .int 2, .int 3, .int 4]) m2
    refine ⟨d, g2, _, _, rfl, upd_same, by simp, by show 8 ≤ 1000; decide, p1.same s2, by omega, fun y H2 hy k2 p2 => ⟨_, _, rfl, ?_⟩⟩
    obtain ⟨c, rfl, hc⟩ : ∃ n : Nat, y = .int n ∧ n ≤ 4 := by
      simp only [List.mem_cons, List.not_mem_nil, or_false] at hy
      rcases hy with rfl | rfl | rfl | rfl | rfl | rfl | rfl | rfl
      · exact ⟨0, rfl, by decide⟩
      · exact ⟨1, rfl, by decide⟩
      · exact ⟨1, rfl, by decide⟩
      · exact ⟨1, rfl, by decide⟩
      · exact ⟨2, rfl, by decide⟩
      · exact ⟨2, rfl, by decide⟩
      · exact ⟨3, rfl, by decide⟩
      · exact ⟨4, rfl, by decide⟩
    dsimp only [gName, List.set]
    refine ⟨_, rfl, by show 3 ≤ sizeLine; decide, fun g3 m3 => ?_⟩
    have s3 := same_new (o := HO.lst [.str "signed", .str "unsigned", .str "positive"]) m3
    refine ⟨d, g3, _, _, rfl, upd_same, by simp, by show 3 ≤ 1000; decide, p2.same s3, by omega, fun z H3 hz k3 p3 => ?_⟩
    obtain ⟨m, hm, rfl⟩ : ∃ m : Str, m ∈ marksL ∧ z = .str m := by
      simp only [List.mem_cons, List.not_mem_nil, or_false] at hz
      rcases hz with rfl | rfl | rfl
      · exact ⟨_, by decide +kernel, rfl⟩
      · exact ⟨_, by decide +kernel, rfl⟩
      · exact ⟨_, by decide +kernel, rfl⟩
    dsimp only [gName, List.set]
    have kk := ((((KeepG.same s1).trans k1).trans ((KeepG.same s2).trans k2)).trans ((KeepG.same s3).trans k3))
    refine ⟨_, rfl, _, rfl, _, rfl, rfl, .inr ⟨_, rfl, _, _, rfl, _, rfl, by show 3 ≤ sizeLine; decide, fun r nr => ?_⟩⟩
    have s4 := same_new (o := HO.tup [.int (wh : Nat), .int (if (if decide (V.int (wh : Nat) = V.int 0) = true then (1 : Int) else 0) > (c : Int) then (if decide (V.int (wh : Nat) = V.int 0) = true then (1 : Int) else 0) else (c : Int)), .str m]) nr
    obtain ⟨c', ec, hc1, hc2⟩ : ∃ c' : Nat, (if (if decide (V.int (wh : Nat) = V.int 0) = true then (1 : Int) else 0) > (c : Int) then (if decide (V.int (wh : Nat) = V.int 0) = true then (1 : Int) else 0) else (c : Int)) = (c' : Nat) ∧ c' ≤ 4 ∧ ¬ (wh = 0 ∧ c' = 0) := by
      rw [Own.dec_int]
      by_cases z : (wh : Int) = 0
      · rw [decide_eq_true z, if_pos rfl]
        by_cases y : (1 : Int) > (c : Int)
        · exact ⟨1, by rw [if_pos y]; rfl, by decide, fun e => by omega⟩
        · exact ⟨c, by rw [if_neg y], hc, fun e => by omega⟩
      · rw [decide_eq_false z, if_neg (show ¬ false = true by decide), if_neg (show ¬ (0 : Int) > (c : Int) by omega)]
        exact ⟨c, rfl, hc, fun e => by omega⟩
    refine q r wh c' m _ ?_ ⟨hw, hc1, hc2, hm⟩ (kk.trans (KeepG.same s4)) ((p3.same s4).mono (by omega))
    show upd H3 r _ r = some (.tup [.int (wh : Nat), .int (c' : Nat), .str m])
    rw [← ec]
    exact upd_same
theorem scNu : FnScope ["_law_pen_here", "_law_limits", "_law_unit", "_law_low", "_law_high", "_law_path", "_law_sign", "_law_found"] ["_law_pen_here", "_law_limits", "_law_unit"] (defScope sNu) := ⟨rfl, rfl, rfl, by decide +kernel, rfl, by decide +kernel, by decide +kernel⟩
def spNu : Sp := fun vs H Q _ => ∃ (d p : Addr) (lo hi U B : Int), vs = [.ref d, .ref p, .int U] ∧ H p = some (.tup [.int lo, .int hi]) ∧ lo ≤ hi ∧ -(2 ^ 131) < lo ∧ hi < 2 ^ 131 ∧ 0 < U ∧ U ≤ 100000 ∧ Pen H d B ∧ B ≤ 900000000 ∧ ∀ (v : Int) (H' : Hp), lo ≤ v → v ≤ hi → KeepP d H H' → Pen H' d (B + 10) → Q (.int v) H'
theorem ok_nu (A : At K mg "_law_number" sNu ["_law_pen_here", "_law_limits", "_law_unit"]) (B : Blt mg) (DW : DefOk P w K mg base CX0 "_law_draw" 1 ["_law_pen_here", "_law_span"] spDrawW) (D1 : DefOk P w K mg base CX0 "_law_draw" 1 ["_law_pen_here", "_law_span"] spDraw) (D2 : DefOk P w K mg base CX0 "_law_pick" 2 ["_law_pen_here", "_law_menu"] spPick) : DefOk P w K mg base CX0 "_law_number" 3 ["_law_pen_here", "_law_limits", "_law_unit"] spNu := by
  refine A.ok fun f fd F => F.ok scNu (fun vs H Q E h => ?_) (fun cdv A outer s0 H vs Q E hr h => ?_)
  · obtain ⟨d, p, lo, hi, U, B, rfl, _⟩ := h
    rfl
  · obtain ⟨d, p, lo, hi, U, B0, rfl, ep, hlh, hlo, hhi, U0, U1, hp, hB, q⟩ := h
    have nd := scNu.nd
    refine ⟨_, pss_cons (ps_asg (pv 1) (pg_tup rfl (pgs_cons (pg_name (i := 3) nd rfl (.inl rfl)) (pgs_cons (pg_name (i := 4) nd rfl (.inl rfl)) pgs_nil))))
      (pss_cons (ps_par (i := 5) (j := 6) (by rfl) nd rfl rfl (by decide) rfl rfl (pa_cons (pe_def D1 hr (by decide) (by rfl) pass0 (pa_cons (pv 0) (pa_cons pe_int pa_nil))) (pa_cons (pe_op op_sub pe_int (pe_op op_mul pe_int (pe_def D1 hr (by decide) (by rfl) pass0 (pa_cons (pv 0) (pa_cons pe_int pa_nil))))) pa_nil)) (by rfl))
      (pss_cons (ps_set (i := 7) nd rfl (.inl rfl) (pe_def D2 hr (by decide) (by rfl) pass0 (pa_cons (pv 0) (pa_cons (pe_lst (pa_cons (pv 3) (pa_cons (pv 4) pa_nil))) pa_nil))))
      (C8.pss_cut (ps_if (pt_cmpR op_eq (pv 5) pe_int (nomark _)) (pss_one (ps_set (i := 7) nd rfl (.inl rfl) (pe_op op_add (pv 3) (pe_def DW hr (by decide) (by rfl) pass0 (pa_cons (pv 0) (pa_cons (pe_op op_add (pe_op op_sub (pv 4) (pv 3)) pe_int) pa_nil)))))) pss_nil)
      (C8.pss_cut (ps_if (pt_cmpR op_gt (pv 5) pe_int (nomark _)) (pss_one (ps_set (i := 7) nd rfl (.inl rfl) (pe_op op_mul (pv 6) (pe_op op_sub (pe_op op_add (pe_op op_add (pe_op op_mul (pe_def D1 hr (by decide) (by rfl) pass0 (pa_cons (pv 0) (pa_cons pe_int pa_nil))) (pv 2)) (pe_op op_mul (pe_def D1 hr (by decide) (by rfl) pass0 (pa_cons (pv 0) (pa_cons pe_int pa_nil))) (pe_op op_fdiv (pv 2) pe_int))) (pe_def D1 hr (by decide) (by rfl) pass0 (pa_cons (pv 0) (pa_cons pe_int pa_nil)))) pe_int)))) pss_nil)
      (pss_one (ps_ret (pe_callB (call_max2 rfl) (by rfl) B.max (by decide +kernel) (pa_cons (pv 3) (pa_cons (pe_callB (call_min2 rfl) (by rfl) B.min (by decide +kernel) (pa_cons (pv 4) (pa_cons (pv 7) pa_nil))) pa_nil))))))))), ?_⟩
    refine ⟨_, rfl, p, _, rfl, SqT.of ep, rfl, _, _, rfl, _, _, rfl, rfl, ?_⟩
    dsimp only [gName, List.set]
    refine ⟨_, rfl, d, 4, _, rfl, hp, by omega, by decide, by decide, fun pa H1 a1 b1 k1 p1 => ?_⟩
    refine ⟨_, rfl, d, 2, _, rfl, p1, by omega, by decide, by decide, fun sg H2 a2 b2 k2 p2 => ⟨_, _, rfl, rfl, .inl ⟨by decide, by decide⟩, _, _, rfl, rfl, _, _, rfl, ?_⟩⟩
    dsimp only [gName, List.set]
    refine ⟨_, rfl, _, rfl, _, rfl, by show 2 ≤ sizeLine; decide, fun g1 m1 => ?_⟩
    have s1 := same_new (o := HO.lst [.int lo, .int hi]) m1
    refine ⟨d, g1, _, _, rfl, upd_same, by simp, by show 2 ≤ 1000; decide, p2.same s1, by omega, fun x H3 hx k3 p3 => ?_⟩
    obtain ⟨v0, rfl⟩ : ∃ v : Int, x = .int v := by
      simp only [List.mem_cons, List.not_mem_nil, or_false] at hx
      rcases hx with rfl | rfl
      · exact ⟨_, rfl⟩
      · exact ⟨_, rfl⟩
    dsimp only [gName, List.set]
    have kk := (k1.trans k2).trans ((KeepG.same s1).trans k3)
    clear k1 k2 k3 p1 p2 s1
    refine ⟨fun σ H' => (∃ v : Int, σ = [some (.ref d), some (.ref p), some (.int U), some (.int lo), some (.int hi), some (.int pa), some (.int (1 - 2 * sg)), some (.int v)]) ∧ KeepP d H H' ∧ Pen H' d (B0 + 5), ?_, ?_⟩
    · refine ⟨_, rfl, rfl, _, rfl, ite2 (fun e => ?_) (fun e => ?_)⟩
      · refine ⟨_, rfl, _, rfl, _, rfl, _, rfl, _, _, rfl, rfl, _, _, rfl, rfl, d, _, _, rfl, p3, by omega, by omega, ?_, fun v H4 _ _ k4 p4 => ⟨_, _, rfl, rfl, ?_⟩⟩
        · have e9 : (2 : Int) ^ 131 = ((2 ^ 131 : Nat) : Int) := by decide +kernel
          have e8 : (2 : Nat) ^ 131 * 4 < 2 ^ 300 := by decide +kernel
          omega
        · exact ⟨⟨_, rfl⟩, kk.trans k4, p4.mono (by omega)⟩
      · exact ⟨⟨_, rfl⟩, kk, p3.mono (by omega)⟩
    rintro σ H4 ⟨⟨v1, rfl⟩, k4, p4⟩
    refine ⟨fun σ H' => (∃ v : Int, σ = [some (.ref d), some (.ref p), some (.int U), some (.int lo), some (.int hi), some (.int pa), some (.int (1 - 2 * sg)), some (.int v)]) ∧ KeepP d H H' ∧ Pen H' d (B0 + 10), ?_, ?_⟩
    · refine ⟨_, rfl, _, _, rfl, rfl, _, rfl, ite2 (fun e => ?_) (fun e => ?_)⟩
      · refine ⟨_, rfl, _, rfl, d, 4, _, rfl, p4, by omega, by decide, by decide, fun x1 H5 y1 z1 k5 p5 => ⟨_, rfl, _, _, rfl, rfl, .inl ⟨by omega, by omega⟩, ?_⟩⟩
        refine ⟨_, rfl, d, 2, _, rfl, p5, by omega, by decide, by decide, fun x2 H6 y2 z2 k6 p6 => ⟨_, rfl, _, _, rfl, rfl, ⟨by decide, by decide⟩, _, _, rfl, rfl, .inl ⟨by omega, by omega⟩, _, _, rfl, rfl, ?_⟩⟩
        refine ⟨_, rfl, d, 3, _, rfl, p6, by omega, by decide, by decide, fun x3 H7 y3 z3 k7 p7 => ⟨_, _, rfl, rfl, _, _, rfl, rfl, _, _, rfl, rfl, .inl ⟨by omega, by omega⟩, ?_⟩⟩
        exact ⟨⟨_, rfl⟩, ((k4.trans k5).trans k6).trans k7, p7.mono (by omega)⟩
      · exact ⟨⟨_, rfl⟩, k4, p4.mono (by omega)⟩
    rintro σ H5 ⟨⟨v2, rfl⟩, k5, p5⟩
    refine ⟨_, rfl, _, rfl, _, rfl, _, _, rfl, _, _, rfl, ?_⟩
    refine q _ H5 ?_ ?_ k5 p5
    · split <;> omega
    · split <;> split <;> omega
end
end K53

/-! own layer, of no law: OWNI: [e for x in xs for y in (a, b)]. -/
namespace Own
open PySem PySem.Spec PyProof.Rows L2 LamX NdefX
/-- the inner walk within a turn of the outer one -/
def InW (J1 : It) (H4 : Hp) (Nx : Hp → Prop) (g1 : TG) (tt1 : TT) (te : TE) (vs1 : List Nat) (σ2 : L2.St) (D : Addr) : Prop := ∃ W1 : Nat → Nat → Hp → Prop, (∃ m, W1 0 m H4) ∧ ∀ j k H, W1 j k H →
  (J1.stop j H ∧ Nx H) ∨ (J1.go j H ∧ ∃ Nx1 : Hp → Prop, (∀ H', Nx1 H' → ∃ k', k' < k ∧ W1 (j + 1) k' H') ∧ ∀ x H', J1.yld j H x H' → g1 x (wipe σ2 vs1) H' fun σ3 H5 => wipe σ3 vs1 = wipe σ2 vs1 ∧ tt1 σ3 H5 fun b H6 =>
    if b = true then te σ3 H6 fun y H7 => ∃ acc, H7 D = some (.lst acc) ∧ acc.length < sizeLine ∧ Nx1 (upd H7 D (.lst (acc ++ [y]))) else Nx1 H6)
/-- the outer walk, over a list -/
theorem lc2_list {K : PySem.W.Frag} {a : Addr} {xs : List V} {g g1 : TG} {tt tt1 : TT} {wi1 : TI} {te : TE} {vs vs1 : List Nat} {σ : L2.St} {H1 : Hp} {D : Addr} {Qd : Hp → Prop} (Pv : Nat → Hp → Prop) (h0 : Pv 0 (upd H1 D (.lst []))) (hl : ∀ i H, i ≤ xs.length → Pv i H → SqL K H a xs)
    (hs : ∀ i x H, xs[i]? = some x → Pv i H → g x (wipe σ vs) H fun σ2 H2 => wipe σ2 vs = wipe σ vs ∧ tt σ2 H2 fun b H3 =>
      if b = true then wi1 σ2 H3 fun J1 H4 => InW J1 H4 (Pv (i + 1)) g1 tt1 te vs1 σ2 D
      else Pv (i + 1) H3) (hd : ∀ H, Pv xs.length H → Qd H) :
    ∃ W : Nat → Nat → Hp → Prop, (∃ m, W 0 m (upd H1 D (.lst []))) ∧ ∀ i m H, W i m H →
      ((Itl K a).stop i H ∧ Qd H) ∨ ((Itl K a).go i H ∧ ∃ Nx : Hp → Prop, (∀ H', Nx H' → ∃ m', m' < m ∧ W (i + 1) m' H') ∧ ∀ x H', (Itl K a).yld i H x H' → g x (wipe σ vs) H' fun σ2 H2 => wipe σ2 vs = wipe σ vs ∧ tt σ2 H2 fun b H3 =>
        if b = true then wi1 σ2 H3 fun J1 H4 => ∃ W1 : Nat → Nat → Hp → Prop, (∃ m, W1 0 m H4) ∧ ∀ j k H, W1 j k H →
          (J1.stop j H ∧ Nx H) ∨ (J1.go j H ∧ ∃ Nx1 : Hp → Prop, (∀ H', Nx1 H' → ∃ k', k' < k ∧ W1 (j + 1) k' H') ∧ ∀ x H', J1.yld j H x H' → g1 x (wipe σ2 vs1) H' fun σ3 H5 => wipe σ3 vs1 = wipe σ2 vs1 ∧ tt1 σ3 H5 fun b H6 =>
            if b = true then te σ3 H6 fun y H7 => ∃ acc, H7 D = some (.lst acc) ∧ acc.length < sizeLine ∧ Nx1 (upd H7 D (.lst (acc ++ [y]))) else Nx1 H6)
        else Nx H3) := by
  refine ⟨fun i m H => m = xs.length - i ∧ i ≤ xs.length ∧ Pv i H, ⟨xs.length, by simp, Nat.zero_le _, h0⟩, ?_⟩
  rintro i m H ⟨rfl, hi, p⟩
  have q := hl i H hi p
  by_cases hlt : i < xs.length
  · refine .inr ⟨⟨xs, xs[i], q, by simp [hlt]⟩, Pv (i + 1), fun H' p' => ⟨xs.length - (i + 1), by omega, rfl, hlt, p'⟩, fun x H' y => ?_⟩
    obtain ⟨e, y⟩ := y
    subst e
    exact hs i x _ (y xs q) p
  · have e : i = xs.length := by omega
    subst e
    exact .inl ⟨⟨xs, q, Nat.le_refl _⟩, hd H p⟩
/-- the inner walk, over a tuple -/
theorem in_tup {K : PySem.W.Frag} {a : Addr} {ys : List V} {g1 : TG} {tt1 : TT} {te : TE} {vs1 : List Nat} {σ2 : L2.St} {H4 : Hp} {D : Addr} {Nx : Hp → Prop} (Pw : Nat → Hp → Prop) (h0 : Pw 0 H4) (hl : ∀ j H, j ≤ ys.length → Pw j H → SqT K H a ys)
    (hs : ∀ j x H, ys[j]? = some x → Pw j H → g1 x (wipe σ2 vs1) H fun σ3 H5 => wipe σ3 vs1 = wipe σ2 vs1 ∧ tt1 σ3 H5 fun b H6 =>
      if b = true then te σ3 H6 fun y H7 => ∃ acc, H7 D = some (.lst acc) ∧ acc.length < sizeLine ∧ Pw (j + 1) (upd H7 D (.lst (acc ++ [y]))) else Pw (j + 1) H6) (hd : ∀ H, Pw ys.length H → Nx H) :
    InW (Itt K a) H4 Nx g1 tt1 te vs1 σ2 D := by
  refine ⟨fun j k H => k = ys.length - j ∧ j ≤ ys.length ∧ Pw j H, ⟨ys.length, by simp, Nat.zero_le _, h0⟩, ?_⟩
  rintro j k H ⟨rfl, hj, p⟩
  have q := hl j H hj p
  by_cases hlt : j < ys.length
  · refine .inr ⟨⟨ys, ys[j], q, by simp [hlt]⟩, Pw (j + 1), fun H' p' => ⟨ys.length - (j + 1), by omega, rfl, hlt, p'⟩, fun x H' y => ?_⟩
    obtain ⟨e, y⟩ := y
    subst e
    exact hs j x _ (y ys q) p
  · have e : j = ys.length := by omega
    subst e
    exact .inl ⟨⟨ys, q, Nat.le_refl _⟩, hd H p⟩
/-- two rows side by side -/
inductive Ents {β : Type} (R : V → β → Prop) : List V → List β → Prop where
  | nil : Ents R [] []
  | cons {x : V} {e : β} {xs : List V} {es : List β} : R x e → Ents R xs es → Ents R (x :: xs) (e :: es)
section
variable {β : Type} {R R' : V → β → Prop} {xs : List V} {es : List β}
theorem Ents.mono (h : Ents R xs es) (f : ∀ x e, R x e → R' x e) : Ents R' xs es := by
  induction h with
  | nil => exact .nil
  | cons r _ ih => exact .cons (f _ _ r) ih
theorem Ents.len (h : Ents R xs es) : xs.length = es.length := by
  induction h with
  | nil => rfl
  | cons _ _ ih => rw [List.length_cons, List.length_cons, ih]
theorem Ents.app {ys : List V} {fs : List β} (h : Ents R xs es) (k : Ents R ys fs) : Ents R (xs ++ ys) (es ++ fs) := by
  induction h with
  | nil => exact k
  | cons r _ ih => exact .cons r ih
theorem Ents.snoc {x : V} {e : β} (h : Ents R xs es) (r : R x e) : Ents R (xs ++ [x]) (es ++ [e]) := h.app (.cons r .nil)
theorem Ents.get (h : Ents R xs es) : ∀ {i : Nat} {x : V}, xs[i]? = some x → ∃ e, es[i]? = some e ∧ R x e := by
  induction h with
  | nil => intro i x z; simp at z
  | cons r _ ih =>
    intro i x z
    cases i with
    | zero =>
      have z' := Option.some.inj z
      subst z'
      exact ⟨_, rfl, r⟩
    | succ i => exact ih z
end
end Own

/-! own layer, of no law: OWNG: how far a running total is from the total of what is rounded alone. -/
namespace Own
open PySem PySem.Spec PyProof.Rows L2 LamX NdefX
theorem dm_of {x U q r : Int} (h : 0 < U) (e : x = q * U + r) (h0 : 0 ≤ r) (h1 : r < U) : x / U = q ∧ x % U = r :=
  (Int.ediv_emod_unique h).mpr ⟨by rw [e, Int.mul_comm q U]; omega, h0, h1⟩
/-- the running total less what is added alone, from s on -/
def gapS (U : Int) (t : Str) (xs : List Int) (s : Int) : Int := runL U t xs s - s - (xs.map fun x => near x U t).sum
theorem gapS_nil (U : Int) (t : Str) (s : Int) : gapS U t [] s = 0 := by
  show s - s - 0 = 0
  omega
theorem gapS_cons (U : Int) (t : Str) (x : Int) (xs : List Int) (s : Int) : gapS U t (x :: xs) s = (stp U x t s - s - near x U t) + gapS U t xs (stp U x t s) := by
  unfold gapS
  rw [List.map_cons, List.sum_cons]
  show runL U t xs (stp U x t s) - s - _ = _
  omega
theorem runL_cons (U : Int) (t : Str) (x : Int) (xs : List Int) (s : Int) : runL U t (x :: xs) s = runL U t xs (stp U x t s) := rfl
theorem gapS_app (U : Int) (t : Str) : ∀ (xs ys : List Int) (s : Int), gapS U t (xs ++ ys) s = gapS U t xs s + gapS U t ys (runL U t xs s)
  | [], ys, s => by
    rw [gapS_nil]
    show gapS U t ys s = 0 + gapS U t ys s
    omega
  | x :: xs, ys, s => by
    rw [List.cons_append, gapS_cons, gapS_cons, gapS_app U t xs ys, runL_cons]
    omega
/-- what is kept from step to step -/
theorem gap_inv {U : Int} {t : Str} (Φ : Nat → Int → Int → Prop) : ∀ (xs : List Int) (k : Nat) (g s : Int), (∀ k g s x, x ∈ xs → Φ k g s → Φ (k + 1) (g + (stp U x t s - s - near x U t)) (stp U x t s)) → Φ k g s → Φ (k + xs.length) (g + gapS U t xs s) (runL U t xs s)
  | [], k, g, s, _, h => by
    rw [gapS_nil, Int.add_zero]
    exact h
  | x :: xs, k, g, s, st, h => by
    have z := gap_inv Φ xs (k + 1) _ _ (fun k g s y hy => st k g s y (List.mem_cons_of_mem _ hy)) (st k g s x (List.mem_cons_self ..) h)
    rw [gapS_cons, runL_cons]
    rw [show k + (x :: xs).length = k + 1 + xs.length by rw [List.length_cons]; omega]
    rw [show g + (stp U x t s - s - near x U t + gapS U t xs (stp U x t s)) = g + (stp U x t s - s - near x U t) + gapS U t xs (stp U x t s) by omega]
    exact z
def flatW : List Str := ["floor", "ceiling", "halfup", "halfdown"]
theorem near_stp (x U : Int) (t : Str) : near x U t = stp U x t 0 := by
  unfold stp
  rw [Int.zero_mul, Int.zero_add]
theorem loose_no {U x : Int} {t : Str} (h : t ∈ flatW) : isLoose U x t = false := by
  unfold isLoose
  have a : ¬ t ∈ looseL1 := by
    simp only [flatW, List.mem_cons, List.not_mem_nil, or_false] at h
    rcases h with rfl | rfl | rfl | rfl <;> decide +kernel
  have b : ¬ t ∈ looseL2 := by
    simp only [flatW, List.mem_cons, List.not_mem_nil, or_false] at h
    rcases h with rfl | rfl | rfl | rfl <;> decide +kernel
  rw [decide_eq_false a, decide_eq_false b]
  rfl
theorem loose_1 {U x : Int} {t : Str} (h : t ∈ looseL1) : isLoose U x t = decide (x % U ≠ 0) := by
  unfold isLoose
  have b : ¬ t ∈ looseL2 := by
    simp only [looseL1, List.mem_cons, List.not_mem_nil, or_false] at h
    rcases h with rfl | rfl <;> decide +kernel
  rw [decide_eq_true h, decide_eq_false b]
  simp
theorem loose_2 {U x : Int} {t : Str} (h : t ∈ looseL2) : isLoose U x t = decide (2 * (x % U) = U) := by
  unfold isLoose
  have b : ¬ t ∈ looseL1 := by
    simp only [looseL2, List.mem_cons, List.not_mem_nil, or_false] at h
    rcases h with rfl | rfl | rfl <;> decide +kernel
  rw [decide_eq_true h, decide_eq_false b]
  simp
section
variable {U x s : Int} {t : Str}
/-- what one step gains -/
theorem gain_tight (h : 0 < U) (ht : t ∈ waysL) (n : isLoose U x t = false) : stp U x t s - s - near x U t = 0 := by
  rw [stp_tight h ht n]
  omega
theorem near_evenL (h : 0 < U) (l : isLoose U x "halfeven" = true) : near x U "halfeven" = x / U + x / U % 2 := by
  rw [near_stp, stp_even h l, Int.zero_add]
theorem near_sideL (h : 0 < U) (ht : t ∈ waysL) (l : isLoose U x t = true) (ne : t ≠ "halfeven") : near x U t = addS (x / U) t (x / U) := by
  rw [near_stp, stp_side h ht l ne, Int.zero_add, Int.zero_add]
def cutW : List Str := ["cut", "halfcut"]
def awayW : List Str := ["away", "halfaway"]
theorem addS_cut {F a : Int} (h : t ∈ cutW) : addS F t a = if 0 ≤ a then F else F + 1 := by
  have e : t = "cut" ∨ t = "halfcut" := by simpa [cutW] using h
  unfold addS
  by_cases z : 0 ≤ a
  · simp [z, e]
  · simp [z, e]
theorem addS_away {F a : Int} (h : t ∈ awayW) : addS F t a = if 0 ≤ a then F + 1 else F := by
  have e : ¬ (t = "cut" ∨ t = "halfcut") := by
    simp only [awayW, List.mem_cons, List.not_mem_nil, or_false] at h
    rcases h with rfl | rfl <;> decide +kernel
  unfold addS
  by_cases z : 0 ≤ a
  · simp [z, e]
  · simp [z, e]
theorem cut_way (h : t ∈ cutW) : t ∈ waysL ∧ t ≠ "halfeven" := by
  simp only [cutW, List.mem_cons, List.not_mem_nil, or_false] at h
  rcases h with rfl | rfl <;> exact ⟨by decide +kernel, by decide +kernel⟩
theorem away_way (h : t ∈ awayW) : t ∈ waysL ∧ t ≠ "halfeven" := by
  simp only [awayW, List.mem_cons, List.not_mem_nil, or_false] at h
  rcases h with rfl | rfl <;> exact ⟨by decide +kernel, by decide +kernel⟩
theorem ways_parts (h : t ∈ waysL) : t ∈ flatW ∨ t = "halfeven" ∨ t ∈ cutW ∨ t ∈ awayW := by
  rcases way_cases h with rfl | rfl | rfl | rfl | rfl | rfl | rfl | rfl | rfl
  · exact .inl (by decide +kernel)
  · exact .inl (by decide +kernel)
  · exact .inr (.inr (.inl (by decide +kernel)))
  · exact .inr (.inr (.inr (by decide +kernel)))
  · exact .inl (by decide +kernel)
  · exact .inl (by decide +kernel)
  · exact .inr (.inl rfl)
  · exact .inr (.inr (.inr (by decide +kernel)))
  · exact .inr (.inr (.inl (by decide +kernel)))
/-- the figures that a unit of the way takes: P units at most -/
def shareOf (t : Str) (P : Int) : Int := P + if t = "halfcut" then 1 else 0
theorem near_small (hU : 1 < U) {P : Int} (hP : 0 < P) (h : t ∈ cutW) (h1 : -(P * U - 1) ≤ x) (h2 : x ≤ P * U - 1) : -(shareOf t P - 1) ≤ near x U t ∧ near x U t ≤ shareOf t P - 1 := by
  have U0 : 0 < U := by omega
  have em := Int.emod_add_mul_ediv x U
  have r0 := Int.emod_nonneg x (show U ≠ 0 by omega)
  have r1 := Int.emod_lt_of_pos x U0
  have qu : x / U ≤ P - 1 := by
    have z : x / U < P := Int.ediv_lt_of_lt_mul U0 (by omega)
    omega
  have ql : -P ≤ x / U := by
    refine (Int.le_ediv_iff_mul_le U0).mpr ?_
    rw [Int.neg_mul]
    omega
  have lo := near_lo (n := x) (d := U) t
  have hi := near_hi (n := x) (d := U) t
  have e : t = "cut" ∨ t = "halfcut" := by simpa [cutW] using h
  unfold shareOf
  rcases e with rfl | rfl
  · rw [if_neg (by decide +kernel)]
    by_cases r : x % U = 0
    · rw [near_zero r]
      refine ⟨?_, by omega⟩
      have nz : x / U ≠ -P := fun z => by
        rw [z, r, Int.mul_neg, Int.mul_comm] at em
        omega
      omega
    · have l : isLoose U x "cut" = true := by rw [loose_1 (by decide +kernel)]; exact decide_eq_true r
      rw [near_sideL U0 (by decide +kernel) l (by decide +kernel), addS_cut (by decide +kernel)]
      split <;> omega
  · rw [if_pos rfl]
    omega
end
/-! ### no gap is greater -/
section
variable {U P : Int} {t : Str}
theorem gap_flat (h : 0 < U) (ht : t ∈ flatW) (xs : List Int) (s : Int) : gapS U t xs s = 0 := by
  have hw : t ∈ waysL := by
    simp only [flatW, List.mem_cons, List.not_mem_nil, or_false] at ht
    rcases ht with rfl | rfl | rfl | rfl <;> decide +kernel
  have z := gap_inv (U := U) (t := t) (fun _ g _ => g = 0) xs 0 0 s (fun k g s x _ hg => by
    try dsimp only at hg ⊢
    rw [gain_tight h hw (loose_no ht)]
    omega) rfl
  try dsimp only at z
  omega
theorem gap_even (h : 0 < U) (xs : List Int) : 2 * gapS U "halfeven" xs 0 ≤ xs.length ∧ -(xs.length : Int) ≤ 2 * gapS U "halfeven" xs 0 := by
  have z := gap_inv (U := U) (t := "halfeven") (fun k g s => 2 * g + s % 2 ≤ k ∧ s % 2 - 2 * g ≤ k) xs 0 0 0 (fun k g s x _ hg => by
    try dsimp only at hg ⊢
    by_cases l : isLoose U x "halfeven" = true
    · rw [stp_even h l, near_evenL h l]
      omega
    · have l : isLoose U x "halfeven" = false := by simpa using l
      rw [gain_tight h (by decide +kernel) l]
      omega) (by simp)
  try dsimp only at z
  omega
/-- .. where all parts are less than a unit -/
theorem gap_even0 (h : 0 < U) (xs : List Int) (hx : ∀ x ∈ xs, 0 ≤ x ∧ x < U) : 0 ≤ gapS U "halfeven" xs 0 := by
  have z := gap_inv (U := U) (t := "halfeven") (fun k g s => 0 ≤ g) xs 0 0 0 (fun k g s x m hg => by
    try dsimp only at hg ⊢
    obtain ⟨x0, x1⟩ := hx x m
    have q : x / U = 0 := Int.ediv_eq_zero_of_lt x0 x1
    by_cases l : isLoose U x "halfeven" = true
    · rw [stp_even h l, near_evenL h l, q]
      omega
    · have l : isLoose U x "halfeven" = false := by simpa using l
      rw [gain_tight h (by decide +kernel) l]
      omega) (by simp)
  try dsimp only at z
  omega
theorem gap_side0 (h : 0 < U) (ht : t ∈ cutW ∨ t ∈ awayW) (xs : List Int) (hx : ∀ x ∈ xs, 0 ≤ x) : gapS U t xs 0 = 0 := by
  have hw : t ∈ waysL ∧ t ≠ "halfeven" := ht.elim cut_way away_way
  have z := gap_inv (U := U) (t := t) (fun k g s => g = 0 ∧ 0 ≤ s) xs 0 0 0 (fun k g s x m hg => by
    try dsimp only at hg ⊢
    have q : 0 ≤ x / U := Int.ediv_nonneg (hx x m) (by omega)
    by_cases l : isLoose U x t = true
    · rw [near_sideL h hw.1 l hw.2, stp_side h hw.1 l hw.2]
      rcases ht with ht | ht
      · rw [addS_cut ht, addS_cut ht, if_pos q, if_pos (by omega)]
        omega
      · rw [addS_away ht, addS_away ht, if_pos q, if_pos (by omega)]
        omega
    · have l : isLoose U x t = false := by simpa using l
      have e := near_lo (n := x) (d := U) t
      rw [stp_tight h hw.1 l]
      omega) ⟨rfl, by omega⟩
  try dsimp only at z
  omega
theorem gap_away (h : 0 < U) (ht : t ∈ awayW) (xs : List Int) (ne : xs ≠ []) : gapS U t xs 0 ≤ xs.length - 1 ∧ -((xs.length : Int) - 1) ≤ gapS U t xs 0 := by
  have hw := away_way ht
  have z := gap_inv (U := U) (t := t) (fun k g s => (k = 0 → g = 0 ∧ s = 0) ∧ (0 < k → g ≤ k - 1 ∧ -((k : Int) - 1) ≤ g)) xs 0 0 0 (fun k g s x m hg => by
    try dsimp only at hg ⊢
    refine ⟨fun z => by omega, fun _ => ?_⟩
    by_cases l : isLoose U x t = true
    · rw [near_sideL h hw.1 l hw.2, stp_side h hw.1 l hw.2, addS_away ht, addS_away ht]
      by_cases k0 : k = 0
      · obtain ⟨rfl, rfl⟩ := hg.1 k0
        rw [Int.zero_add]
        omega
      · have := hg.2 (by omega)
        split <;> split <;> omega
    · have l : isLoose U x t = false := by simpa using l
      rw [gain_tight h hw.1 l]
      by_cases k0 : k = 0
      · obtain ⟨rfl, rfl⟩ := hg.1 k0
        omega
      · have := hg.2 (by omega)
        omega) ⟨fun _ => ⟨rfl, rfl⟩, fun z => by omega⟩
  try dsimp only at z
  have l : 0 < xs.length := List.length_pos_iff.mpr ne
  have := z.2 (by omega)
  omega
theorem gap_cut (hU : 1 < U) (hP : 0 < P) (ht : t ∈ cutW) (xs : List Int) (hx : ∀ x ∈ xs, -(P * U - 1) ≤ x ∧ x ≤ P * U - 1) :
    gapS U t xs 0 ≤ xs.length + -(xs.length : Int) / shareOf t P ∧ -((xs.length : Int) + -(xs.length : Int) / shareOf t P) ≤ gapS U t xs 0 := by
  have hw := cut_way ht
  have h : 0 < U := by omega
  have S0 : 0 < shareOf t P := by unfold shareOf; split <;> omega
  generalize hM : shareOf t P = S at S0
  have z := gap_inv (U := U) (t := t) (fun k g s => (0 ≤ S * (k - g) - k ∧ 0 ≤ S * (k - g) - k + s) ∧ (0 ≤ S * (k + g) - k ∧ 0 ≤ S * (k + g) - k - s)) xs 0 0 0 (fun k g s x m hg => by
    try dsimp only at hg ⊢
    obtain ⟨n1, n2⟩ := near_small hU hP ht (hx x m).1 (hx x m).2
    rw [hM] at n1 n2
    have kk : ((k + 1 : Nat) : Int) = (k : Int) + 1 := by omega
    have A0 : S * ((k : Int) + 1 - (g + 0)) = S * ((k : Int) - g) + S := by rw [show (k : Int) + 1 - (g + 0) = ((k : Int) - g) + 1 by omega, Int.mul_add, Int.mul_one]
    have A1 : S * ((k : Int) + 1 - (g + 1)) = S * ((k : Int) - g) := by rw [show (k : Int) + 1 - (g + 1) = ((k : Int) - g) by omega]
    have A2 : S * ((k : Int) + 1 - (g + -1)) = S * ((k : Int) - g) + 2 * S := by rw [show (k : Int) + 1 - (g + -1) = ((k : Int) - g) + 2 by omega, Int.mul_add, Int.mul_comm S 2]
    have B0 : S * ((k : Int) + 1 + (g + 0)) = S * ((k : Int) + g) + S := by rw [show (k : Int) + 1 + (g + 0) = ((k : Int) + g) + 1 by omega, Int.mul_add, Int.mul_one]
    have B1 : S * ((k : Int) + 1 + (g + 1)) = S * ((k : Int) + g) + 2 * S := by rw [show (k : Int) + 1 + (g + 1) = ((k : Int) + g) + 2 by omega, Int.mul_add, Int.mul_comm S 2]
    have B2 : S * ((k : Int) + 1 + (g + -1)) = S * ((k : Int) + g) := by rw [show (k : Int) + 1 + (g + -1) = ((k : Int) + g) by omega]
    generalize S * ((k : Int) - g) = a at *
    generalize S * ((k : Int) + g) = b at *
    rw [kk]
    by_cases l : isLoose U x t = true
    · rw [near_sideL h hw.1 l hw.2, addS_cut ht] at n1 n2
      rw [near_sideL h hw.1 l hw.2, stp_side h hw.1 l hw.2, addS_cut ht, addS_cut ht]
      by_cases c1 : 0 ≤ x / U
      · rw [if_pos c1] at n1 n2 ⊢
        by_cases c2 : 0 ≤ s + x / U
        · rw [if_pos c2, show s + x / U - s - x / U = 0 by omega, A0, B0]
          omega
        · rw [if_neg c2, show s + (x / U + 1) - s - x / U = 1 by omega, A1, B1]
          omega
      · rw [if_neg c1] at n1 n2 ⊢
        by_cases c2 : 0 ≤ s + x / U
        · rw [if_pos c2, show s + x / U - s - (x / U + 1) = -1 by omega, A2, B2]
          omega
        · rw [if_neg c2, show s + (x / U + 1) - s - (x / U + 1) = 0 by omega, A0, B0]
          omega
    · have l : isLoose U x t = false := by simpa using l
      rw [gain_tight h hw.1 l, stp_tight h hw.1 l, A0, B0]
      omega) (by simp)
  try dsimp only at z
  obtain ⟨⟨z1, _⟩, ⟨z2, _⟩⟩ := z
  rw [Int.zero_add, Nat.zero_add] at z1 z2
  generalize gapS U t xs 0 = g at z1 z2 ⊢
  have e1 : g - (xs.length : Int) ≤ -(xs.length : Int) / S := by
    refine (Int.le_ediv_iff_mul_le S0).mpr ?_
    rw [Int.mul_comm]
    have : S * (g - (xs.length : Int)) = -(S * ((xs.length : Int) - g)) := by rw [← Int.mul_neg]; congr 1; omega
    omega
  have e2 : -g - (xs.length : Int) ≤ -(xs.length : Int) / S := by
    refine (Int.le_ediv_iff_mul_le S0).mpr ?_
    rw [Int.mul_comm]
    have : S * (-g - (xs.length : Int)) = -(S * ((xs.length : Int) + g)) := by rw [← Int.mul_neg]; congr 1; omega
    omega
  omega
end
end Own

/-! own layer, of no law: OWNH: rows that reach the greatest gap; what the limits are. -/
namespace Own
open PySem PySem.Spec PyProof.Rows L2 LamX NdefX
/-- a, b, a, .. -/
def alt (a b : Int) : Nat → List Int
  | 0 => []
  | k + 1 => a :: alt b a k
theorem alt_two (a b : Int) (k : Nat) : alt a b (k + 2) = a :: b :: alt a b k := rfl
theorem alt_len (a b : Int) : ∀ k, (alt a b k).length = k
  | 0 => rfl
  | k + 1 => by show (alt b a k).length + 1 = _; rw [alt_len b a k]
theorem alt_take (a b : Int) : ∀ (k m : Nat), k ≤ m → ((List.replicate m [a, b]).flatten).take k = alt a b k
  | 0, m, _ => by rw [List.take_zero]; rfl
  | 1, m, h => by
    obtain ⟨m, rfl⟩ : ∃ n, m = n + 1 := ⟨m - 1, by omega⟩
    rw [List.replicate_succ, List.flatten_cons]
    rfl
  | k + 2, m, h => by
    obtain ⟨m, rfl⟩ : ∃ n, m = n + 1 := ⟨m - 1, by omega⟩
    rw [List.replicate_succ, List.flatten_cons, alt_two, ← alt_take a b k m (by omega)]
    rfl
section
variable {U P : Int} {t : Str}
/-- two steps, the one odd, the other turned -/
theorem gap_alt {a b δ : Int} (h : ∀ s : Int, s % 2 = 0 → (stp U a t s - s - near a U t) + (stp U b t (stp U a t s) - stp U a t s - near b U t) = δ ∧ stp U b t (stp U a t s) % 2 = 0) (h1 : ∀ s : Int, s % 2 = 0 → stp U a t s - s - near a U t = 0) :
    ∀ (k : Nat) (s : Int), s % 2 = 0 → gapS U t (alt a b k) s = δ * ((k / 2 : Nat) : Int)
  | 0, s, _ => by
    show gapS U t [] s = _
    rw [gapS_nil]
    simp
  | 1, s, e => by
    show gapS U t [a] s = _
    rw [gapS_cons, gapS_nil, h1 s e]
    simp
  | k + 2, s, e => by
    obtain ⟨e1, e2⟩ := h s e
    rw [alt_two, gapS_cons, gapS_cons, gap_alt h h1 k _ e2]
    rw [show (k + 2) / 2 = k / 2 + 1 by omega]
    have z : δ * ((k / 2 + 1 : Nat) : Int) = δ * ((k / 2 : Nat) : Int) + δ := by
      rw [show ((k / 2 + 1 : Nat) : Int) = ((k / 2 : Nat) : Int) + 1 by omega, Int.mul_add, Int.mul_one]
    rw [z]
    omega
theorem near_tip {x q r : Int} (h : 0 < U) (e : x = q * U + r) (h0 : 0 < r) (h1 : r < U) (hb : U < 2 * r) : near x U "halfeven" = q + 1 ∧ isLoose U x "halfeven" = false := by
  obtain ⟨a, b⟩ := dm_of h e (by omega) h1
  refine ⟨?_, ?_⟩
  · rw [near_up (by omega), a, b, goes_some (k := 0) (y := "even") (by decide +kernel) (by decide +kernel), if_neg (show ¬ 2 * r - U = 0 by omega), decide_eq_true (show 0 < 2 * r - U by omega)]
    rfl
  · rw [loose_2 (by decide +kernel), b]
    exact decide_eq_false (by omega)
/-- halfeven: odd, then a half of q units -/
theorem gap_halves {f q : Int} (hf : 2 ≤ f) (hU : U = 2 * f) (hq : (q + 1) % 2 + q % 2 = 1) (k : Nat) : gapS U "halfeven" (alt (f + 1) (q * U + f) k) 0 = ((q + 1) % 2 - q % 2) * ((k / 2 : Nat) : Int) := by
  have h : 0 < U := by omega
  obtain ⟨n1, l1⟩ := near_tip (q := 0) (r := f + 1) h (show f + 1 = 0 * U + (f + 1) by omega) (by omega) (by omega) (by omega)
  obtain ⟨a, b⟩ := dm_of (x := q * U + f) (q := q) (r := f) h rfl (by omega) (by omega)
  have l2 : isLoose U (q * U + f) "halfeven" = true := by
    rw [loose_2 (by decide +kernel), b]
    exact decide_eq_true (by omega)
  have n2 := near_evenL h l2
  have s1 : ∀ s, stp U (f + 1) "halfeven" s = s + 1 := fun s => by
    rw [stp_tight h (by decide +kernel) l1, n1]
    omega
  refine gap_alt (fun s e => ?_) (fun s e => ?_) k 0 (by decide)
  · rw [s1, stp_even h l2, n1, n2, a]
    omega
  · rw [s1, n1]
    omega
/-- always the same gain -/
theorem gap_rep {x d δ : Int} (Ok : Int → Prop) (h : ∀ s, Ok s → stp U x t s = s + d ∧ stp U x t s - s - near x U t = δ) : ∀ (m : Nat) (s : Int), (∀ j : Nat, j < m → Ok (s + d * j)) → gapS U t (List.replicate m x) s = δ * m ∧ runL U t (List.replicate m x) s = s + d * m
  | 0, s, _ => by
    show gapS U t [] s = _ ∧ s = _
    rw [gapS_nil]
    simp
  | m + 1, s, ok => by
    have o := ok 0 (by omega)
    rw [show s + d * ((0 : Nat) : Int) = s by simp] at o
    obtain ⟨e1, e2⟩ := h s o
    obtain ⟨r1, r2⟩ := gap_rep Ok h m (s + d) fun j hj => by
      have z := ok (j + 1) (by omega)
      rw [show ((j + 1 : Nat) : Int) = (j : Int) + 1 by omega, Int.mul_add, Int.mul_one] at z
      rw [show s + d + d * (j : Int) = s + (d * (j : Int) + d) by omega]
      exact z
    have a : δ * ((m + 1 : Nat) : Int) = δ * (m : Int) + δ := by rw [show ((m + 1 : Nat) : Int) = (m : Int) + 1 by omega, Int.mul_add, Int.mul_one]
    have b : d * ((m + 1 : Nat) : Int) = d * (m : Int) + d := by rw [show ((m + 1 : Nat) : Int) = (m : Int) + 1 by omega, Int.mul_add, Int.mul_one]
    rw [List.replicate_succ, gapS_cons, runL_cons, e2, e1, r1, r2, a, b]
    omega
/-- what stands for a loose one -/
structure LooseAt (U : Int) (t : Str) (x q r : Int) : Prop where
  e : x = q * U + r
  h0 : 0 ≤ r
  h1 : r < U
  l : isLoose U x t = true
theorem LooseAt.div {x q r : Int} (h : LooseAt U t x q r) (h0 : 0 < U) : x / U = q := (dm_of h0 h.e h.h0 h.h1).1
/-- the first part: 1, or a half -/
def firstOf (t : Str) (U : Int) : Int := if t = "cut" ∨ t = "away" then 1 else U / 2
theorem first_loose (hU : 2 ≤ U) (hE : U % 2 = 0) (ht : t ∈ cutW ∨ t ∈ awayW) : LooseAt U t (firstOf t U) 0 (firstOf t U) ∧ LooseAt U t (-firstOf t U) (-1) (U - firstOf t U) := by
  have h : 0 < U := by omega
  have c : (t ∈ looseL1 ∧ firstOf t U = 1) ∨ (t ∈ looseL2 ∧ firstOf t U = U / 2) := by
    simp only [cutW, awayW, List.mem_cons, List.not_mem_nil, or_false] at ht
    unfold firstOf
    rcases ht with (rfl | rfl) | (rfl | rfl)
    · exact .inl ⟨by decide +kernel, if_pos (by decide +kernel)⟩
    · exact .inr ⟨by decide +kernel, if_neg (by decide +kernel)⟩
    · exact .inl ⟨by decide +kernel, if_pos (by decide +kernel)⟩
    · exact .inr ⟨by decide +kernel, if_neg (by decide +kernel)⟩
  have p1 : firstOf t U = 0 * U + firstOf t U := by omega
  have p2 : -firstOf t U = (-1) * U + (U - firstOf t U) := by omega
  rcases c with ⟨m, e⟩ | ⟨m, e⟩
  · obtain ⟨a1, b1⟩ := dm_of h p1 (by omega) (by omega)
    obtain ⟨a2, b2⟩ := dm_of h p2 (by omega) (by omega)
    exact ⟨⟨p1, by omega, by omega, by rw [loose_1 m, b1]; exact decide_eq_true (by omega)⟩, ⟨p2, by omega, by omega, by rw [loose_1 m, b2]; exact decide_eq_true (by omega)⟩⟩
  · obtain ⟨a1, b1⟩ := dm_of h p1 (by omega) (by omega)
    obtain ⟨a2, b2⟩ := dm_of h p2 (by omega) (by omega)
    exact ⟨⟨p1, by omega, by omega, by rw [loose_2 m, b1]; exact decide_eq_true (by omega)⟩, ⟨p2, by omega, by omega, by rw [loose_2 m, b2]; exact decide_eq_true (by omega)⟩⟩
theorem gap_awayR (hU : 2 ≤ U) (hE : U % 2 = 0) (ht : t ∈ awayW) (m : Nat) : gapS U t (firstOf t U :: List.replicate m (-firstOf t U)) 0 = m ∧ gapS U t (-firstOf t U :: List.replicate m (firstOf t U)) 0 = -(m : Int) := by
  have h : 0 < U := by omega
  have hw := away_way ht
  obtain ⟨F1, F2⟩ := first_loose hU hE (.inr ht)
  have d1 := F1.div h
  have d2 := F2.div h
  have n1 : near (firstOf t U) U t = 1 := by rw [near_sideL h hw.1 F1.l hw.2, addS_away ht, d1]; rfl
  have n2 : near (-firstOf t U) U t = -1 := by rw [near_sideL h hw.1 F2.l hw.2, addS_away ht, d2]; rfl
  constructor
  · have s0 : stp U (firstOf t U) t 0 = 1 := by rw [← near_stp]; exact n1
    rw [gapS_cons, s0, n1]
    have z := (gap_rep (U := U) (t := t) (x := -firstOf t U) (d := 0) (δ := 1) (fun s => s = 1) (fun s e => by
      rw [e, stp_side h hw.1 F2.l hw.2, addS_away ht, d2, n2]
      exact ⟨rfl, rfl⟩) m 1 fun j _ => by simp).1
    rw [z]
    omega
  · have s0 : stp U (-firstOf t U) t 0 = -1 := by rw [← near_stp]; exact n2
    rw [gapS_cons, s0, n2]
    have z := (gap_rep (U := U) (t := t) (x := firstOf t U) (d := 0) (δ := -1) (fun s => s = -1) (fun s e => by
      rw [e, stp_side h hw.1 F1.l hw.2, addS_away ht, d1, n1]
      exact ⟨rfl, rfl⟩) m (-1) fun j _ => by simp).1
    rw [z]
    omega
/-- the deepest one: it adds the same wherever the total stands on its side -/
theorem deep_stp (hU : 4 ≤ U) (hP : 0 < P) (ht : t ∈ cutW) : (∀ s, s ≤ 0 → stp U (-(P * U - 1)) t s = s + -(shareOf t P - 1)) ∧ (∀ s, 0 ≤ s → stp U (P * U - 1) t s = s + (shareOf t P - 1)) := by
  have h : 0 < U := by omega
  have hw := cut_way ht
  obtain ⟨a1, b1⟩ := dm_of (x := -(P * U - 1)) (q := -P) (r := 1) h (by rw [Int.neg_mul]; omega) (by omega) (by omega)
  obtain ⟨a2, b2⟩ := dm_of (x := P * U - 1) (q := P - 1) (r := U - 1) h (by rw [Int.sub_mul, Int.one_mul]; omega) (by omega) (by omega)
  have e : t = "cut" ∨ t = "halfcut" := by simpa [cutW] using ht
  unfold shareOf
  rcases e with rfl | rfl
  · rw [if_neg (by decide +kernel)]
    have l1 : isLoose U (-(P * U - 1)) "cut" = true := by rw [loose_1 (by decide +kernel), b1]; exact decide_eq_true (by omega)
    have l2 : isLoose U (P * U - 1) "cut" = true := by rw [loose_1 (by decide +kernel), b2]; exact decide_eq_true (by omega)
    constructor
    · intro s hs
      rw [stp_side h hw.1 l1 hw.2, addS_cut ht, a1, if_neg (by omega)]
      omega
    · intro s hs
      rw [stp_side h hw.1 l2 hw.2, addS_cut ht, a2, if_pos (by omega)]
      omega
  · rw [if_pos rfl]
    have l1 : isLoose U (-(P * U - 1)) "halfcut" = false := by rw [loose_2 (by decide +kernel), b1]; exact decide_eq_false (by omega)
    have l2 : isLoose U (P * U - 1) "halfcut" = false := by rw [loose_2 (by decide +kernel), b2]; exact decide_eq_false (by omega)
    have n1 : near (-(P * U - 1)) U "halfcut" = -P := by
      rw [near_up (by omega), a1, b1, goes_some (k := 1) (y := "cut") (by decide +kernel) (by decide +kernel), if_neg (show ¬ 2 * 1 - U = 0 by omega), decide_eq_false (show ¬ 0 < 2 * 1 - U by omega)]
      simp
    have n2 : near (P * U - 1) U "halfcut" = P := by
      rw [near_up (by omega), a2, b2, goes_some (k := 1) (y := "cut") (by decide +kernel) (by decide +kernel), if_neg (show ¬ 2 * (U - 1) - U = 0 by omega), decide_eq_true (show 0 < 2 * (U - 1) - U by omega)]
      show P - 1 + 1 = P
      omega
    constructor
    · intro s hs
      rw [stp_tight h hw.1 l1, n1]
      omega
    · intro s hs
      rw [stp_tight h hw.1 l2, n2]
      omega
theorem gap_cutR (hU : 4 ≤ U) (hE : U % 2 = 0) (hP : 0 < P) (ht : t ∈ cutW) {D m : Nat} (hm : (m : Int) ≤ (shareOf t P - 1) * D) :
    gapS U t (List.replicate D (-(P * U - 1)) ++ List.replicate m (firstOf t U)) 0 = m ∧ gapS U t (List.replicate D (P * U - 1) ++ List.replicate m (-firstOf t U)) 0 = -(m : Int) := by
  have h : 0 < U := by omega
  have hw := cut_way ht
  obtain ⟨F1, F2⟩ := first_loose (by omega) hE (.inl ht)
  have d1 := F1.div h
  have d2 := F2.div h
  have n1 : near (firstOf t U) U t = 0 := by rw [near_sideL h hw.1 F1.l hw.2, addS_cut ht, d1]; rfl
  have n2 : near (-firstOf t U) U t = 0 := by rw [near_sideL h hw.1 F2.l hw.2, addS_cut ht, d2]; rfl
  obtain ⟨p1, p2⟩ := deep_stp hU hP ht
  have S1 : 0 ≤ shareOf t P - 1 := by unfold shareOf; split <;> omega
  generalize shareOf t P - 1 = M at hm p1 p2 S1
  have c1 : near (-(P * U - 1)) U t = -M := by rw [near_stp, p1 0 (by omega)]; omega
  have c2 : near (P * U - 1) U t = M := by rw [near_stp, p2 0 (by omega)]; omega
  have nn : ∀ j : Nat, 0 ≤ M * (j : Int) := fun j => Int.mul_nonneg S1 (by omega)
  constructor
  · rw [gapS_app]
    obtain ⟨z1, z2⟩ := gap_rep (U := U) (t := t) (x := -(P * U - 1)) (d := -M) (δ := 0) (fun s => s ≤ 0) (fun s hs => by
      rw [p1 s hs, c1]
      omega) D 0 fun j _ => by have := nn j; rw [Int.neg_mul]; omega
    rw [z1, z2]
    have z := (gap_rep (U := U) (t := t) (x := firstOf t U) (d := 1) (δ := 1) (fun s => s ≤ -1) (fun s hs => by
      rw [stp_side h hw.1 F1.l hw.2, addS_cut ht, d1, n1, if_neg (by omega)]
      omega) m (0 + -M * (D : Int)) fun j hj => by rw [Int.neg_mul]; omega).1
    rw [z]
    omega
  · rw [gapS_app]
    obtain ⟨z1, z2⟩ := gap_rep (U := U) (t := t) (x := P * U - 1) (d := M) (δ := 0) (fun s => 0 ≤ s) (fun s hs => by
      rw [p2 s hs, c2]
      omega) D 0 fun j _ => by have := nn j; omega
    rw [z1, z2]
    have z := (gap_rep (U := U) (t := t) (x := -firstOf t U) (d := -1) (δ := -1) (fun s => 1 ≤ s) (fun s hs => by
      rw [stp_side h hw.1 F2.l hw.2, addS_cut ht, d2, n2, if_pos (by omega)]
      omega) m (0 + M * (D : Int)) fun j hj => by omega).1
    rw [z]
    omega
/-- so many deep ones are enough -/
theorem deep_many {S : Int} (h : 0 < S) (k : Nat) : ∃ D : Nat, -(-(k : Int) / S) = (D : Int) ∧ D ≤ k ∧ ((k - D : Nat) : Int) ≤ (S - 1) * D ∧ ((k - D : Nat) : Int) = k + -(k : Int) / S := by
  have em := Int.emod_add_mul_ediv (-(k : Int)) S
  have r0 := Int.emod_nonneg (-(k : Int)) (show S ≠ 0 by omega)
  have r1 := Int.emod_lt_of_pos (-(k : Int)) h
  have q0 : -(k : Int) / S ≤ 0 := Int.ediv_nonpos_of_nonpos_of_neg (by omega) (by omega)
  have qk : -(k : Int) ≤ -(k : Int) / S := by
    refine (Int.le_ediv_iff_mul_le h).mpr ?_
    have : 0 ≤ (k : Int) * (S - 1) := Int.mul_nonneg (by omega) (by omega)
    rw [Int.mul_sub, Int.mul_one] at this
    rw [Int.neg_mul]
    omega
  generalize hq : -(k : Int) / S = q at em q0 qk
  refine ⟨(-q).toNat, by omega, by omega, ?_, by omega⟩
  have e : (((-q).toNat : Nat) : Int) = -q := by omega
  rw [e, Int.sub_mul, Int.one_mul, Int.mul_neg]
  omega
end
end Own

/-! own layer, of no law: OWND: how far rounding all and rounding each can be apart. -/
namespace Own
open PySem PySem.Spec PyProof.Rows L2 LamX NdefX
def err (U : Int) (t : Str) (x : Int) : Int := near x U t * U - x
def cntK (ks : List (Int × Int)) : Int := (ks.map fun p => p.2).sum
def sumK (ks : List (Int × Int)) : Int := (ks.map fun p => p.1 * p.2).sum
def eachK (U : Int) (t : Str) (ks : List (Int × Int)) : Int := (ks.map fun p => p.2 * near p.1 U t).sum
def errK (U : Int) (t : Str) (ks : List (Int × Int)) : Int := (ks.map fun p => p.2 * err U t p.1).sum
def gapK (U : Int) (t : Str) (ks : List (Int × Int)) : Int := near (sumK ks) U t - eachK U t ks
def gapN (U : Int) (t : Str) (N u : Int) : Int := near (u * N) U t - near u U t * N
theorem gapK_one (U : Int) (t : Str) (u N : Int) : gapK U t [(u, N)] = gapN U t N u := by
  simp [gapK, gapN, sumK, eachK, Int.mul_comm]
section
variable {U : Int} {t : Str}
theorem errK_eq (ks : List (Int × Int)) : errK U t ks = eachK U t ks * U - sumK ks := by
  induction ks with
  | nil => simp [errK, eachK, sumK]
  | cons p r ih =>
    have a : errK U t (p :: r) = p.2 * err U t p.1 + errK U t r := by simp [errK]
    have b : eachK U t (p :: r) = p.2 * near p.1 U t + eachK U t r := by simp [eachK]
    have c : sumK (p :: r) = p.1 * p.2 + sumK r := by simp [sumK]
    rw [a, b, c, ih, Int.add_mul]
    unfold err
    rw [Int.mul_sub, Int.mul_assoc, Int.mul_comm p.1 p.2]
    omega
theorem gapK_mul (ks : List (Int × Int)) : gapK U t ks * U = err U t (sumK ks) - errK U t ks := by
  rw [errK_eq]
  unfold gapK err
  rw [Int.sub_mul]
  omega
theorem gapN_mul (N u : Int) : gapN U t N u * U = err U t (u * N) - err U t u * N := by
  unfold gapN err
  rw [Int.sub_mul, Int.sub_mul, Int.mul_right_comm]
  omega
theorem errK_ge {a D : Int} (hD : 0 ≤ D) : ∀ ks : List (Int × Int), (∀ p ∈ ks, 0 ≤ p.2 ∧ a ≤ err U t p.1) → a * cntK ks ≤ errK U t ks ∧ ((∃ p ∈ ks, 1 ≤ p.2 ∧ a + D ≤ err U t p.1) → a * cntK ks + D ≤ errK U t ks)
  | [], _ => ⟨by simp [cntK, errK], fun ⟨p, m, _⟩ => by cases m⟩
  | p :: r, h => by
    obtain ⟨ih1, ih2⟩ := errK_ge hD r fun q m => h q (List.mem_cons_of_mem _ m)
    obtain ⟨p0, pa⟩ := h p (List.mem_cons_self ..)
    have a1 : errK U t (p :: r) = p.2 * err U t p.1 + errK U t r := by simp [errK]
    have a2 : cntK (p :: r) = p.2 + cntK r := by simp [cntK]
    have m1 : p.2 * a ≤ p.2 * err U t p.1 := Int.mul_le_mul_of_nonneg_left pa p0
    have m2 : a * (p.2 + cntK r) = p.2 * a + a * cntK r := by rw [Int.mul_add, Int.mul_comm a p.2]
    rw [a1, a2, m2]
    refine ⟨by omega, fun ⟨q, m, q1, qa⟩ => ?_⟩
    rcases List.mem_cons.mp m with rfl | m
    · have m3 : q.2 * (a + D) ≤ q.2 * err U t q.1 := Int.mul_le_mul_of_nonneg_left qa p0
      have m4 : 1 * D ≤ q.2 * D := Int.mul_le_mul_of_nonneg_right q1 hD
      rw [Int.mul_add] at m3
      omega
    · have := ih2 ⟨q, m, q1, qa⟩
      omega
theorem errK_le {a D : Int} (hD : 0 ≤ D) : ∀ ks : List (Int × Int), (∀ p ∈ ks, 0 ≤ p.2 ∧ err U t p.1 ≤ a) → errK U t ks ≤ a * cntK ks ∧ ((∃ p ∈ ks, 1 ≤ p.2 ∧ err U t p.1 + D ≤ a) → errK U t ks + D ≤ a * cntK ks)
  | [], _ => ⟨by simp [cntK, errK], fun ⟨p, m, _⟩ => by cases m⟩
  | p :: r, h => by
    obtain ⟨ih1, ih2⟩ := errK_le hD r fun q m => h q (List.mem_cons_of_mem _ m)
    obtain ⟨p0, pa⟩ := h p (List.mem_cons_self ..)
    have a1 : errK U t (p :: r) = p.2 * err U t p.1 + errK U t r := by simp [errK]
    have a2 : cntK (p :: r) = p.2 + cntK r := by simp [cntK]
    have m1 : p.2 * err U t p.1 ≤ p.2 * a := Int.mul_le_mul_of_nonneg_left pa p0
    have m2 : a * (p.2 + cntK r) = p.2 * a + a * cntK r := by rw [Int.mul_add, Int.mul_comm a p.2]
    rw [a1, a2, m2]
    refine ⟨by omega, fun ⟨q, m, q1, qa⟩ => ?_⟩
    rcases List.mem_cons.mp m with rfl | m
    · have m3 : q.2 * (err U t q.1 + D) ≤ q.2 * a := Int.mul_le_mul_of_nonneg_left qa p0
      have m4 : 1 * D ≤ q.2 * D := Int.mul_le_mul_of_nonneg_right q1 hD
      rw [Int.mul_add] at m3
      omega
    · have := ih2 ⟨q, m, q1, qa⟩
      omega
theorem gap_le {u D : Int} {ks : List (Int × Int)} (hU : 0 < U) (hk : ∀ p ∈ ks, 0 ≤ p.2) (ha : ∀ p ∈ ks, err U t u ≤ err U t p.1) (hD : 0 ≤ D) (hx : D = 0 ∨ ∃ p ∈ ks, 1 ≤ p.2 ∧ err U t u + D ≤ err U t p.1) (hS : err U t (sumK ks) - D < err U t (u * cntK ks) + U) : gapK U t ks ≤ gapN U t (cntK ks) u := by
  have z := errK_ge (U := U) (t := t) (a := err U t u) hD ks fun p m => ⟨hk p m, ha p m⟩
  have y : err U t u * cntK ks + D ≤ errK U t ks := by
    rcases hx with rfl | hx
    · have := z.1
      omega
    · exact z.2 hx
  have e1 := gapK_mul (U := U) (t := t) ks
  have e2 := gapN_mul (U := U) (t := t) (cntK ks) u
  have e3 : gapK U t ks * U < (gapN U t (cntK ks) u + 1) * U := by rw [Int.add_mul]; omega
  have := Int.lt_of_mul_lt_mul_right e3 (by omega)
  omega
theorem gap_ge {u D : Int} {ks : List (Int × Int)} (hU : 0 < U) (hk : ∀ p ∈ ks, 0 ≤ p.2) (ha : ∀ p ∈ ks, err U t p.1 ≤ err U t u) (hD : 0 ≤ D) (hx : D = 0 ∨ ∃ p ∈ ks, 1 ≤ p.2 ∧ err U t p.1 + D ≤ err U t u) (hS : err U t (u * cntK ks) - U < err U t (sumK ks) + D) : gapN U t (cntK ks) u ≤ gapK U t ks := by
  have z := errK_le (U := U) (t := t) (a := err U t u) hD ks fun p m => ⟨hk p m, ha p m⟩
  have y : errK U t ks + D ≤ err U t u * cntK ks := by
    rcases hx with rfl | hx
    · have := z.1
      omega
    · exact z.2 hx
  have e1 := gapK_mul (U := U) (t := t) ks
  have e2 := gapN_mul (U := U) (t := t) (cntK ks) u
  have e3 : gapN U t (cntK ks) u * U < (gapK U t ks + 1) * U := by rw [Int.add_mul]; omega
  have := Int.lt_of_mul_lt_mul_right e3 (by omega)
  omega
/-- if the sum is below 0, one that counts is -/
theorem sum_neg : ∀ ks : List (Int × Int), (∀ p ∈ ks, 0 ≤ p.2) → sumK ks < 0 → ∃ p ∈ ks, 1 ≤ p.2 ∧ p.1 < 0
  | [], _, h => absurd h (by simp [sumK])
  | p :: r, hk, h => by
    have c : sumK (p :: r) = p.1 * p.2 + sumK r := by simp [sumK]
    have k0 := hk p (List.mem_cons_self ..)
    by_cases z : sumK r < 0
    · obtain ⟨q, m, y⟩ := sum_neg r (fun q m => hk q (List.mem_cons_of_mem _ m)) z
      exact ⟨q, List.mem_cons_of_mem _ m, y⟩
    · refine ⟨p, List.mem_cons_self .., ?_⟩
      by_cases a : 0 ≤ p.1
      · have := Int.mul_nonneg a k0
        omega
      · refine ⟨?_, by omega⟩
        by_cases b : p.2 = 0
        · rw [b, Int.mul_zero] at c
          omega
        · omega
theorem sum_pos : ∀ ks : List (Int × Int), (∀ p ∈ ks, 0 ≤ p.2) → 0 < sumK ks → ∃ p ∈ ks, 1 ≤ p.2 ∧ 0 < p.1
  | [], _, h => absurd h (by simp [sumK])
  | p :: r, hk, h => by
    have c : sumK (p :: r) = p.1 * p.2 + sumK r := by simp [sumK]
    have k0 := hk p (List.mem_cons_self ..)
    by_cases z : 0 < sumK r
    · obtain ⟨q, m, y⟩ := sum_pos r (fun q m => hk q (List.mem_cons_of_mem _ m)) z
      exact ⟨q, List.mem_cons_of_mem _ m, y⟩
    · refine ⟨p, List.mem_cons_self .., ?_⟩
      by_cases a : p.1 ≤ 0
      · have := Int.mul_nonneg (show 0 ≤ -p.1 by omega) k0
        rw [Int.neg_mul] at this
        omega
      · refine ⟨?_, by omega⟩
        by_cases b : p.2 = 0
        · rw [b, Int.mul_zero] at c
          omega
        · omega
theorem sum_nonneg : ∀ ks : List (Int × Int), (∀ p ∈ ks, 0 ≤ p.2 ∧ 0 ≤ p.1) → 0 ≤ sumK ks := fun ks h => by
  by_cases z : sumK ks < 0
  · obtain ⟨p, m, a, b⟩ := sum_neg ks (fun p m => (h p m).1) z
    have := (h p m).2
    omega
  · omega
/-- all that count lie at c but for whole steps of M -/
theorem sum_mod {M c : Int} : ∀ ks : List (Int × Int), (∀ p ∈ ks, 0 ≤ p.2 ∧ (1 ≤ p.2 → M ∣ p.1 - c)) → M ∣ sumK ks - c * cntK ks
  | [], _ => by simp [sumK, cntK]
  | p :: r, h => by
    have ih := sum_mod r fun q m => h q (List.mem_cons_of_mem _ m)
    have a1 : sumK (p :: r) = p.1 * p.2 + sumK r := by simp [sumK]
    have a2 : cntK (p :: r) = p.2 + cntK r := by simp [cntK]
    obtain ⟨k0, k1⟩ := h p (List.mem_cons_self ..)
    have e : sumK (p :: r) - c * cntK (p :: r) = (p.1 - c) * p.2 + (sumK r - c * cntK r) := by
      rw [a1, a2, Int.mul_add, Int.sub_mul]
      omega
    rw [e]
    by_cases b : p.2 = 0
    · rw [b, Int.mul_zero, Int.zero_add]
      exact ih
    · exact Int.dvd_add (Int.dvd_trans (k1 (by omega)) (Int.dvd_mul_right _ _)) ih
theorem err_of {x b : Int} (h : near x U t = x / U + b) : err U t x = b * U - x % U := by
  have m := Int.emod_add_mul_ediv x U
  unfold err
  rw [h, Int.add_mul, Int.mul_comm (x / U) U]
  omega
theorem err_0 {x : Int} (h : x % U = 0) : err U t x = 0 := by
  rw [err_of (b := 0) (by rw [near_zero h]; omega), h]
  omega
theorem er_floor (x : Int) : err U "floor" x = -(x % U) := by
  rw [err_of (b := 0) (by rw [near_down]; omega)]
  omega
theorem er_ceil (x : Int) : (x % U = 0 ∧ err U "ceiling" x = 0) ∨ (x % U ≠ 0 ∧ err U "ceiling" x = U - x % U) := by
  by_cases h : x % U = 0
  · exact .inl ⟨h, err_0 h⟩
  · refine .inr ⟨h, ?_⟩
    rw [err_of (b := 1) (near_ceil h)]
    omega
theorem alk1 {a b : Bool} (h : a = b) : alk a b = 1 := by unfold alk; rw [if_pos (decide_eq_true h)]
theorem alk0 {a b : Bool} (h : a ≠ b) : alk a b = 0 := by unfold alk; rw [if_neg (by rw [decide_eq_false h]; decide)]
theorem er_cut (hU : 0 < U) (x : Int) : (x % U = 0 ∧ err U "cut" x = 0) ∨ (x % U ≠ 0 ∧ 0 ≤ x ∧ err U "cut" x = -(x % U)) ∨ (x % U ≠ 0 ∧ x < 0 ∧ err U "cut" x = U - x % U) := by
  by_cases h : x % U = 0
  · exact .inl ⟨h, err_0 h⟩
  · have z := near_side (t := "cut") hU h (.inl rfl)
    rw [decide_eq_true (show ("cut" : Str) = "cut" from rfl)] at z
    by_cases s : x < 0
    · rw [decide_eq_true s, alk1 rfl] at z
      exact .inr (.inr ⟨h, s, by rw [err_of z]; omega⟩)
    · rw [decide_eq_false s, alk0 (by decide)] at z
      exact .inr (.inl ⟨h, by omega, by rw [err_of z]; omega⟩)
theorem er_away (hU : 0 < U) (x : Int) : (x % U = 0 ∧ err U "away" x = 0) ∨ (x % U ≠ 0 ∧ 0 ≤ x ∧ err U "away" x = U - x % U) ∨ (x % U ≠ 0 ∧ x < 0 ∧ err U "away" x = -(x % U)) := by
  by_cases h : x % U = 0
  · exact .inl ⟨h, err_0 h⟩
  · have z := near_side (t := "away") hU h (.inr rfl)
    rw [decide_eq_false (show ("away" : Str) ≠ "cut" by decide +kernel)] at z
    by_cases s : x < 0
    · rw [decide_eq_true s, alk0 (by decide)] at z
      exact .inr (.inr ⟨h, s, by rw [err_of z]; omega⟩)
    · rw [decide_eq_false s, alk1 rfl] at z
      exact .inr (.inl ⟨h, by omega, by rw [err_of z]; omega⟩)
def halfW : List Str := ["halfup", "halfdown", "halfeven", "halfaway", "halfcut"]
theorem er_half (hU : 0 < U) (ht : t ∈ halfW) (x : Int) : (2 * (x % U) < U ∧ err U t x = -(x % U)) ∨ (2 * (x % U) > U ∧ err U t x = U - x % U) ∨ 2 * (x % U) = U := by
  by_cases h : x % U = 0
  · refine .inl ⟨by omega, ?_⟩
    rw [err_0 h, h]
    rfl
  · by_cases p : 2 * (x % U) = U
    · exact .inr (.inr p)
    · have k : t ∈ waysL ∧ t ≠ "floor" ∧ t ≠ "ceiling" ∧ ¬ (t = "cut" ∨ t = "away") := by
        simp only [halfW, List.mem_cons, List.not_mem_nil, or_false] at ht
        rcases ht with rfl | rfl | rfl | rfl | rfl <;> exact ⟨by decide +kernel, by decide +kernel, by decide +kernel, by decide +kernel⟩
      have z := near_off h k.1 k.2.1 k.2.2.1 k.2.2.2 p
      by_cases s : 2 * (x % U) > U
      · rw [decide_eq_true s, if_pos rfl] at z
        exact .inr (.inl ⟨s, by rw [err_of z]; omega⟩)
      · rw [decide_eq_false s, if_neg (by decide)] at z
        exact .inl ⟨by omega, by rw [err_of z]; omega⟩
theorem ti_up (hU : 0 < U) {x : Int} (p : 2 * (x % U) = U) : err U "halfup" x = U - x % U := by
  have z := near_updn (t := "halfup") (show x % U ≠ 0 by omega) p (.inl rfl)
  rw [decide_eq_true (show ("halfup" : Str) = "halfup" from rfl), if_pos rfl] at z
  rw [err_of z]; omega
theorem ti_dn (hU : 0 < U) {x : Int} (p : 2 * (x % U) = U) : err U "halfdown" x = -(x % U) := by
  have z := near_updn (t := "halfdown") (show x % U ≠ 0 by omega) p (.inr rfl)
  rw [decide_eq_false (show ("halfdown" : Str) ≠ "halfup" by decide +kernel), if_neg (by decide)] at z
  rw [err_of z]; omega
theorem ti_ev (hU : 0 < U) {x : Int} (p : 2 * (x % U) = U) : (x / U % 2 = 0 ∧ err U "halfeven" x = -(x % U)) ∨ (x / U % 2 = 1 ∧ err U "halfeven" x = U - x % U) := by
  have z := near_even (show x % U ≠ 0 by omega) p
  rcases (show x / U % 2 = 0 ∨ x / U % 2 = 1 by omega) with h | h
  · rw [h] at z
    exact .inl ⟨h, by rw [err_of z]; omega⟩
  · rw [h] at z
    exact .inr ⟨h, by rw [err_of z]; omega⟩
theorem ti_aw (hU : 0 < U) {x : Int} (p : 2 * (x % U) = U) : (0 ≤ x ∧ err U "halfaway" x = U - x % U) ∨ (x < 0 ∧ err U "halfaway" x = -(x % U)) := by
  have z := near_tied (t := "halfaway") hU (show x % U ≠ 0 by omega) p (.inr rfl)
  rw [decide_eq_false (show ("halfaway" : Str) ≠ "halfcut" by decide +kernel)] at z
  by_cases s : x < 0
  · rw [decide_eq_true s, alk0 (by decide)] at z
    exact .inr ⟨s, by rw [err_of z]; omega⟩
  · rw [decide_eq_false s, alk1 rfl] at z
    exact .inl ⟨by omega, by rw [err_of z]; omega⟩
theorem ti_cu (hU : 0 < U) {x : Int} (p : 2 * (x % U) = U) : (0 ≤ x ∧ err U "halfcut" x = -(x % U)) ∨ (x < 0 ∧ err U "halfcut" x = U - x % U) := by
  have z := near_tied (t := "halfcut") hU (show x % U ≠ 0 by omega) p (.inl rfl)
  rw [decide_eq_true (show ("halfcut" : Str) = "halfcut" from rfl)] at z
  by_cases s : x < 0
  · rw [decide_eq_true s, alk1 rfl] at z
    exact .inr ⟨s, by rw [err_of z]; omega⟩
  · rw [decide_eq_false s, alk0 (by decide)] at z
    exact .inl ⟨by omega, by rw [err_of z]; omega⟩
end
end Own

/-! own layer, of no law: OWNF: which numbers show the farthest that rounding all and rounding each can be apart. -/
namespace Own
open PySem PySem.Spec PyProof.Rows L2 LamX NdefX
def Held (lo hi : Int) (ks : List (Int × Int)) : Prop := ∀ p ∈ ks, 0 ≤ p.2 ∧ lo ≤ p.1 ∧ p.1 ≤ hi
def HiAt (U : Int) (t : Str) (lo hi u : Int) : Prop := lo ≤ u ∧ u ≤ hi ∧ ∀ ks, Held lo hi ks → gapK U t ks ≤ gapN U t (cntK ks) u
def LoAt (U : Int) (t : Str) (lo hi u : Int) : Prop := lo ≤ u ∧ u ≤ hi ∧ ∀ ks, Held lo hi ks → gapN U t (cntK ks) u ≤ gapK U t ks
def tellL (f : Int) : List Int := [0, -0, 1, -1, f - 1, -(f - 1), f, -f, f + 1, -(f + 1), 2 * f - 1, -(2 * f - 1), 2 * f, -(2 * f), 3 * f, -(3 * f)]
section
variable {U f lo hi : Int} {t : Str}
theorem rb (hU : 0 < U) (x : Int) : 0 ≤ x % U ∧ x % U < U := ⟨Int.emod_nonneg x (by omega), Int.emod_lt_of_pos x hU⟩
theorem hi_mk (hU : 0 < U) {u : Int} (h1 : lo ≤ u) (h2 : u ≤ hi) (ha : ∀ x, lo ≤ x → x ≤ hi → err U t u ≤ err U t x)
    (hS : ∀ ks, Held lo hi ks → ∃ D : Int, 0 ≤ D ∧ (D = 0 ∨ ∃ p ∈ ks, 1 ≤ p.2 ∧ err U t u + D ≤ err U t p.1) ∧ err U t (sumK ks) - D < err U t (u * cntK ks) + U) : HiAt U t lo hi u := by
  refine ⟨h1, h2, fun ks hk => ?_⟩
  obtain ⟨D, d0, d1, d2⟩ := hS ks hk
  exact gap_le hU (fun p m => (hk p m).1) (fun p m => ha p.1 (hk p m).2.1 (hk p m).2.2) d0 d1 d2
theorem lo_mk (hU : 0 < U) {u : Int} (h1 : lo ≤ u) (h2 : u ≤ hi) (ha : ∀ x, lo ≤ x → x ≤ hi → err U t x ≤ err U t u)
    (hS : ∀ ks, Held lo hi ks → ∃ D : Int, 0 ≤ D ∧ (D = 0 ∨ ∃ p ∈ ks, 1 ≤ p.2 ∧ err U t p.1 + D ≤ err U t u) ∧ err U t (u * cntK ks) - U < err U t (sumK ks) + D) : LoAt U t lo hi u := by
  refine ⟨h1, h2, fun ks hk => ?_⟩
  obtain ⟨D, d0, d1, d2⟩ := hS ks hk
  exact gap_ge hU (fun p m => (hk p m).1) (fun p m => ha p.1 (hk p m).2.1 (hk p m).2.2) d0 d1 d2
theorem Held.pos {ks : List (Int × Int)} (h : Held lo hi ks) : ∀ p ∈ ks, 0 ≤ p.2 := fun p m => (h p m).1
/-- floor -/
theorem floor_hi (hU : 1 < U) (h1 : U - 1 ≤ hi) (h2 : lo ≤ 1) : HiAt U "floor" lo hi (U - 1) := by
  have e : (U - 1) % U = U - 1 := Int.emod_eq_of_lt (by omega) (by omega)
  refine hi_mk (by omega) (by omega) h1 (fun x _ _ => ?_) fun ks _ => ⟨0, Int.le_refl 0, .inl rfl, ?_⟩
  · rw [er_floor, er_floor, e]
    have := rb (show 0 < U by omega) x
    omega
  · rw [er_floor, er_floor]
    have := rb (show 0 < U by omega) (sumK ks)
    have := rb (show 0 < U by omega) ((U - 1) * cntK ks)
    omega
theorem floor_lo (hU : 1 < U) {u : Int} (h1 : lo ≤ u) (h2 : u ≤ hi) (ha : ∀ x, lo ≤ x → x ≤ hi → u % U ≤ x % U) : LoAt U "floor" lo hi u := by
  refine lo_mk (by omega) h1 h2 (fun x a b => ?_) fun ks _ => ⟨0, Int.le_refl 0, .inl rfl, ?_⟩
  · rw [er_floor, er_floor]
    have := ha x a b
    omega
  · rw [er_floor, er_floor]
    have := rb (show 0 < U by omega) (sumK ks)
    have := rb (show 0 < U by omega) (u * cntK ks)
    omega
theorem ceil_lo (hU : 1 < U) (h1 : 1 ≤ hi) (h2 : lo ≤ 1) : LoAt U "ceiling" lo hi 1 := by
  have e : (1 : Int) % U = 1 := Int.emod_eq_of_lt (by omega) (by omega)
  have z := er_ceil (U := U) 1
  rw [e] at z
  refine lo_mk (by omega) h2 h1 (fun x _ _ => ?_) fun ks _ => ⟨0, Int.le_refl 0, .inl rfl, ?_⟩
  · have := er_ceil (U := U) x
    have := rb (show 0 < U by omega) x
    omega
  · have := er_ceil (U := U) (sumK ks)
    have := er_ceil (U := U) (1 * cntK ks)
    have := rb (show 0 < U by omega) (sumK ks)
    have := rb (show 0 < U by omega) (1 * cntK ks)
    omega
theorem ceil_hi (hU : 1 < U) {u : Int} (h1 : lo ≤ u) (h2 : u ≤ hi) (ha : ∀ x, lo ≤ x → x ≤ hi → err U "ceiling" u ≤ err U "ceiling" x) : HiAt U "ceiling" lo hi u := by
  refine hi_mk (by omega) h1 h2 ha fun ks _ => ⟨0, Int.le_refl 0, .inl rfl, ?_⟩
  have := er_ceil (U := U) (sumK ks)
  have := er_ceil (U := U) (u * cntK ks)
  have := rb (show 0 < U by omega) (sumK ks)
  have := rb (show 0 < U by omega) (u * cntK ks)
  omega
/-- to 0 -/
theorem cut_hi (hU : 1 < U) (h1 : U - 1 ≤ hi) (h2 : lo ≤ 1) : HiAt U "cut" lo hi (U - 1) := by
  have hU0 : 0 < U := by omega
  have e : (U - 1) % U = U - 1 := Int.emod_eq_of_lt (by omega) (by omega)
  have z := er_cut hU0 (U - 1)
  rw [e] at z
  refine hi_mk hU0 (by omega) h1 (fun x _ _ => ?_) fun ks hk => ?_
  · have := er_cut hU0 x
    have := rb hU0 x
    omega
  · have a := er_cut hU0 (sumK ks)
    have b := er_cut hU0 ((U - 1) * cntK ks)
    have := rb hU0 (sumK ks)
    have := rb hU0 ((U - 1) * cntK ks)
    by_cases s : sumK ks < 0
    · obtain ⟨p, m, k1, n⟩ := sum_neg ks hk.pos s
      refine ⟨U - 1, by omega, .inr ⟨p, m, k1, ?_⟩, by omega⟩
      have := er_cut hU0 p.1
      have := rb hU0 p.1
      omega
    · exact ⟨0, Int.le_refl 0, .inl rfl, by omega⟩
theorem cut_lo (hU : 1 < U) (h1 : U - 1 ≤ hi) (h2 : lo = -hi) : LoAt U "cut" lo hi (-(U - 1)) := by
  have hU0 : 0 < U := by omega
  have e : (-(U - 1)) % U = 1 := (dm_of (x := -(U - 1)) (q := -1) (r := 1) hU0 (by omega) (by omega) (by omega)).2
  have z := er_cut hU0 (-(U - 1))
  rw [e] at z
  refine lo_mk hU0 (by omega) (by omega) (fun x _ _ => ?_) fun ks hk => ?_
  · have := er_cut hU0 x
    have := rb hU0 x
    omega
  · have a := er_cut hU0 (sumK ks)
    have b := er_cut hU0 (-(U - 1) * cntK ks)
    have := rb hU0 (sumK ks)
    have := rb hU0 (-(U - 1) * cntK ks)
    by_cases s : 0 < sumK ks
    · obtain ⟨p, m, k1, n⟩ := sum_pos ks hk.pos s
      refine ⟨U - 1, by omega, .inr ⟨p, m, k1, ?_⟩, by omega⟩
      have := er_cut hU0 p.1
      have := rb hU0 p.1
      omega
    · exact ⟨0, Int.le_refl 0, .inl rfl, by
        by_cases y : sumK ks = 0
        · rw [y] at a ⊢
          rw [Int.zero_emod] at a
          omega
        · omega⟩
theorem away_hi (hU : 1 < U) (h1 : 1 ≤ hi) (h2 : lo = -hi) : HiAt U "away" lo hi (-1) := by
  have hU0 : 0 < U := by omega
  have e : (-1 : Int) % U = U - 1 := (dm_of (x := -1) (q := -1) (r := U - 1) hU0 (by omega) (by omega) (by omega)).2
  have z := er_away hU0 (-1)
  rw [e] at z
  refine hi_mk hU0 (by omega) (by omega) (fun x _ _ => ?_) fun ks hk => ?_
  · have := er_away hU0 x
    have := rb hU0 x
    omega
  · have a := er_away hU0 (sumK ks)
    have b := er_away hU0 (-1 * cntK ks)
    have := rb hU0 (sumK ks)
    have := rb hU0 (-1 * cntK ks)
    by_cases s : 0 < sumK ks
    · obtain ⟨p, m, k1, n⟩ := sum_pos ks hk.pos s
      refine ⟨U - 1, by omega, .inr ⟨p, m, k1, ?_⟩, by omega⟩
      have := er_away hU0 p.1
      have := rb hU0 p.1
      omega
    · exact ⟨0, Int.le_refl 0, .inl rfl, by
        by_cases y : sumK ks = 0
        · rw [y] at a ⊢
          rw [Int.zero_emod] at a
          omega
        · omega⟩
theorem away_lo (hU : 1 < U) (h1 : 1 ≤ hi) (h2 : lo ≤ 1) : LoAt U "away" lo hi 1 := by
  have hU0 : 0 < U := by omega
  have e : (1 : Int) % U = 1 := Int.emod_eq_of_lt (by omega) (by omega)
  have z := er_away hU0 1
  rw [e] at z
  refine lo_mk hU0 h2 h1 (fun x _ _ => ?_) fun ks hk => ?_
  · have := er_away hU0 x
    have := rb hU0 x
    omega
  · have a := er_away hU0 (sumK ks)
    have b := er_away hU0 (1 * cntK ks)
    have := rb hU0 (sumK ks)
    have := rb hU0 (1 * cntK ks)
    by_cases s : sumK ks < 0
    · obtain ⟨p, m, k1, n⟩ := sum_neg ks hk.pos s
      refine ⟨U - 1, by omega, .inr ⟨p, m, k1, ?_⟩, by omega⟩
      have := er_away hU0 p.1
      have := rb hU0 p.1
      omega
    · exact ⟨0, Int.le_refl 0, .inl rfl, by omega⟩
/-- halves -/
theorem rg_up (hU : 0 < U) (e : U = 2 * f) (x : Int) : -(f - 1) ≤ err U "halfup" x ∧ err U "halfup" x ≤ f := by
  have := rb hU x
  rcases er_half hU (t := "halfup") (by decide +kernel) x with a | a | p
  · omega
  · omega
  · have := ti_up hU p
    omega
theorem rg_dn (hU : 0 < U) (e : U = 2 * f) (x : Int) : -f ≤ err U "halfdown" x ∧ err U "halfdown" x ≤ f - 1 := by
  have := rb hU x
  rcases er_half hU (t := "halfdown") (by decide +kernel) x with a | a | p
  · omega
  · omega
  · have := ti_dn hU p
    omega
/-- a half way's error where there is no tie -/
theorem off_half (hU : 0 < U) (ht : t ∈ halfW) {x r : Int} (e : x % U = r) : (2 * r < U → err U t x = -r) ∧ (2 * r > U → err U t x = U - r) := by
  have := er_half hU ht x
  rw [e] at this
  omega
theorem up_hi (hf : 5 ≤ f) (e : U = 2 * f) (h1 : U - 1 ≤ hi) (h2 : lo ≤ 1) : HiAt U "halfup" lo hi (f - 1) := by
  have hU : 0 < U := by omega
  have z := (off_half hU (t := "halfup") (by decide +kernel) (show (f - 1) % U = f - 1 from Int.emod_eq_of_lt (by omega) (by omega))).1 (by omega)
  refine hi_mk hU (by omega) (by omega) (fun x _ _ => ?_) fun ks hk => ⟨0, Int.le_refl 0, .inl rfl, ?_⟩
  · have := rg_up hU e x
    omega
  · have := rg_up hU e (sumK ks)
    have := rg_up hU e ((f - 1) * cntK ks)
    omega
theorem up_lo (hf : 5 ≤ f) (e : U = 2 * f) (h1 : U - 1 ≤ hi) (h2 : lo ≤ 1) : LoAt U "halfup" lo hi f := by
  have hU : 0 < U := by omega
  have em : f % U = f := Int.emod_eq_of_lt (by omega) (by omega)
  have z := ti_up hU (x := f) (by omega)
  refine lo_mk hU (by omega) (by omega) (fun x _ _ => ?_) fun ks hk => ⟨0, Int.le_refl 0, .inl rfl, ?_⟩
  · have := rg_up hU e x
    omega
  · have := rg_up hU e (sumK ks)
    have := rg_up hU e (f * cntK ks)
    omega
theorem dn_hi (hf : 5 ≤ f) (e : U = 2 * f) (h1 : U - 1 ≤ hi) (h2 : lo ≤ 1) : HiAt U "halfdown" lo hi f := by
  have hU : 0 < U := by omega
  have em : f % U = f := Int.emod_eq_of_lt (by omega) (by omega)
  have z := ti_dn hU (x := f) (by omega)
  refine hi_mk hU (by omega) (by omega) (fun x _ _ => ?_) fun ks hk => ⟨0, Int.le_refl 0, .inl rfl, ?_⟩
  · have := rg_dn hU e x
    omega
  · have := rg_dn hU e (sumK ks)
    have := rg_dn hU e (f * cntK ks)
    omega
theorem dn_lo (hf : 5 ≤ f) (e : U = 2 * f) (h1 : U - 1 ≤ hi) (h2 : lo ≤ 1) : LoAt U "halfdown" lo hi (f + 1) := by
  have hU : 0 < U := by omega
  have z := (off_half hU (t := "halfdown") (by decide +kernel) (show (f + 1) % U = f + 1 from Int.emod_eq_of_lt (by omega) (by omega))).2 (by omega)
  refine lo_mk hU (by omega) (by omega) (fun x _ _ => ?_) fun ks hk => ⟨0, Int.le_refl 0, .inl rfl, ?_⟩
  · have := rg_dn hU e x
    omega
  · have := rg_dn hU e (sumK ks)
    have := rg_dn hU e ((f + 1) * cntK ks)
    omega
/-- to the even one -/
theorem rg_ev (hU : 0 < U) (e : U = 2 * f) (x : Int) : -f ≤ err U "halfeven" x ∧ err U "halfeven" x ≤ f ∧ (err U "halfeven" x = -f → 2 * (x % U) = U ∧ x / U % 2 = 0) ∧ (err U "halfeven" x = f → 2 * (x % U) = U ∧ x / U % 2 = 1) := by
  have := rb hU x
  rcases er_half hU (t := "halfeven") (by decide +kernel) x with a | a | p
  · omega
  · omega
  · have := ti_ev hU p
    omega
theorem ev_dvd (hU : 0 < U) (e : U = 2 * f) {x k : Int} (a : 2 * (x % U) = U) (b : x / U % 2 = k) : 2 * U ∣ x - (f + U * k) := by
  have m := Int.emod_add_mul_ediv x U
  refine ⟨x / U / 2, ?_⟩
  have c : x / U = 2 * (x / U / 2) + k := by omega
  have d : U * (x / U) = 2 * U * (x / U / 2) + U * k := by
    conv => lhs; rw [c]
    rw [Int.mul_add, ← Int.mul_assoc, Int.mul_comm U 2]
  omega
theorem ev_per (hU : 0 < U) {x y : Int} (h : 2 * U ∣ x - y) : err U "halfeven" x = err U "halfeven" y := by
  obtain ⟨j, hj⟩ := h
  have e : x = y + U * (2 * j) := by
    have : 2 * U * j = U * (2 * j) := by rw [Int.mul_comm 2 U, Int.mul_assoc]
    omega
  have e1 : x % U = y % U := by rw [e, Int.add_mul_emod_self_left]
  have e2 : x / U = y / U + 2 * j := by rw [e, Int.add_mul_ediv_left _ _ (by omega)]
  have := rb hU y
  by_cases p : 2 * (y % U) = U
  · have a := ti_ev hU (x := x) (by omega)
    have b := ti_ev hU p
    omega
  · have a := er_half hU (t := "halfeven") (by decide +kernel) x
    have b := er_half hU (t := "halfeven") (by decide +kernel) y
    omega
theorem ev_hi (hf : 5 ≤ f) (e : U = 2 * f) (h1 : U - 1 ≤ hi) (h2 : lo ≤ 1) : HiAt U "halfeven" lo hi f := by
  have hU : 0 < U := by omega
  obtain ⟨ed, em⟩ := dm_of (x := f) (q := 0) (r := f) hU (by omega) (by omega) (by omega)
  have z : err U "halfeven" f = -f := by
    have := ti_ev hU (x := f) (by omega)
    omega
  refine hi_mk hU (by omega) (by omega) (fun x _ _ => ?_) fun ks hk => ?_
  · have := rg_ev hU e x
    omega
  · have a := rg_ev hU e (sumK ks)
    have b := rg_ev hU e (f * cntK ks)
    by_cases hc : ∃ p ∈ ks, 1 ≤ p.2 ∧ -f + 1 ≤ err U "halfeven" p.1
    · obtain ⟨p, m, k1, n⟩ := hc
      exact ⟨1, by decide, .inr ⟨p, m, k1, by omega⟩, by omega⟩
    · refine ⟨0, by decide, .inl rfl, ?_⟩
      have d := sum_mod (M := 2 * U) (c := f) ks fun p m => ⟨hk.pos p m, fun k1 => ?_⟩
      · rw [ev_per hU d]
        omega
      · have y := rg_ev hU e p.1
        have n : ¬ -f + 1 ≤ err U "halfeven" p.1 := fun w => hc ⟨p, m, k1, w⟩
        obtain ⟨v1, v2⟩ := y.2.2.1 (by omega)
        have := ev_dvd hU e v1 v2
        rw [Int.mul_zero, Int.add_zero] at this
        exact this
theorem ev_lo (hf : 5 ≤ f) (e : U = 2 * f) {u : Int} (h1 : lo ≤ u) (h2 : u ≤ hi) (hu : u = -f ∨ u = 3 * f) : LoAt U "halfeven" lo hi u := by
  have hU : 0 < U := by omega
  have z : err U "halfeven" u = f := by
    rcases hu with hu | hu
    · obtain ⟨ed, em⟩ := dm_of (x := u) (q := -1) (r := f) hU (by omega) (by omega) (by omega)
      have := ti_ev hU (x := u) (by omega)
      omega
    · obtain ⟨ed, em⟩ := dm_of (x := u) (q := 1) (r := f) hU (by omega) (by omega) (by omega)
      have := ti_ev hU (x := u) (by omega)
      omega
  refine lo_mk hU h1 h2 (fun x _ _ => ?_) fun ks hk => ?_
  · have := rg_ev hU e x
    omega
  · have a := rg_ev hU e (sumK ks)
    have b := rg_ev hU e (u * cntK ks)
    by_cases hc : ∃ p ∈ ks, 1 ≤ p.2 ∧ err U "halfeven" p.1 ≤ f - 1
    · obtain ⟨p, m, k1, n⟩ := hc
      exact ⟨1, by decide, .inr ⟨p, m, k1, by omega⟩, by omega⟩
    · refine ⟨0, by decide, .inl rfl, ?_⟩
      have d := sum_mod (M := 2 * U) (c := u) ks fun p m => ⟨hk.pos p m, fun k1 => ?_⟩
      · rw [ev_per hU d]
        omega
      · have y := rg_ev hU e p.1
        have n : ¬ err U "halfeven" p.1 ≤ f - 1 := fun w => hc ⟨p, m, k1, w⟩
        obtain ⟨v1, v2⟩ := y.2.2.2 (by omega)
        obtain ⟨j, hj⟩ := ev_dvd hU e v1 v2
        rcases hu with hu | hu
        · refine ⟨j + 1, ?_⟩
          rw [Int.mul_add]
          omega
        · exact ⟨j, by omega⟩
theorem ev_lo0 (hf : 5 ≤ f) (e : U = 2 * f) (h1 : hi = U - 1) (h2 : 0 ≤ lo) (h3 : lo ≤ 1) : LoAt U "halfeven" lo hi (f + 1) := by
  have hU : 0 < U := by omega
  have z := (off_half hU (t := "halfeven") (by decide +kernel) (show (f + 1) % U = f + 1 from Int.emod_eq_of_lt (by omega) (by omega))).2 (by omega)
  have rg : ∀ x, lo ≤ x → x ≤ hi → err U "halfeven" x ≤ f - 1 ∧ (err U "halfeven" x = f - 1 → x = f + 1) := fun x a b => by
    obtain ⟨ed, em⟩ := dm_of (x := x) (q := 0) (r := x) hU (by omega) (by omega) (by omega)
    rcases er_half hU (t := "halfeven") (by decide +kernel) x with c | c | p
    · omega
    · omega
    · have := ti_ev hU p
      omega
  refine lo_mk hU (by omega) (by omega) (fun x a b => ?_) fun ks hk => ?_
  · have := rg x a b
    omega
  · have a := rg_ev hU e (sumK ks)
    have b := rg_ev hU e ((f + 1) * cntK ks)
    by_cases hc : ∃ p ∈ ks, 1 ≤ p.2 ∧ err U "halfeven" p.1 ≤ f - 2
    · obtain ⟨p, m, k1, n⟩ := hc
      exact ⟨1, by decide, .inr ⟨p, m, k1, by omega⟩, by omega⟩
    · refine ⟨0, by decide, .inl rfl, ?_⟩
      have d := sum_mod (M := 0) (c := f + 1) ks fun p m => ⟨hk.pos p m, fun k1 => ?_⟩
      · have d := Int.zero_dvd.mp d
        rw [show sumK ks = (f + 1) * cntK ks by omega]
        omega
      · have y := rg p.1 (hk p m).2.1 (hk p m).2.2
        have n : ¬ err U "halfeven" p.1 ≤ f - 2 := fun w => hc ⟨p, m, k1, w⟩
        exact Int.zero_dvd.mpr (by have := y.2 (by omega); omega)
/-- half away from 0 -/
theorem rg_aw (hU : 0 < U) (e : U = 2 * f) (x : Int) : -f ≤ err U "halfaway" x ∧ err U "halfaway" x ≤ f ∧ (err U "halfaway" x = -f → x < 0) ∧ (err U "halfaway" x = f → 0 < x) := by
  have := rb hU x
  rcases er_half hU (t := "halfaway") (by decide +kernel) x with a | a | p
  · omega
  · omega
  · have := ti_aw hU p
    have : x ≠ 0 := fun y => by rw [y, Int.zero_emod] at p; omega
    omega
theorem rg_cu (hU : 0 < U) (e : U = 2 * f) (x : Int) : -f ≤ err U "halfcut" x ∧ err U "halfcut" x ≤ f ∧ (err U "halfcut" x = -f → 0 < x) ∧ (err U "halfcut" x = f → x < 0) := by
  have := rb hU x
  rcases er_half hU (t := "halfcut") (by decide +kernel) x with a | a | p
  · omega
  · omega
  · have := ti_cu hU p
    have : x ≠ 0 := fun y => by rw [y, Int.zero_emod] at p; omega
    omega
theorem at_half (hU : 0 < U) (hf : 5 ≤ f) (e : U = 2 * f) : 2 * (f % U) = U ∧ 2 * (-f % U) = U := by
  obtain ⟨ed, em⟩ := dm_of (x := f) (q := 0) (r := f) hU (by omega) (by omega) (by omega)
  obtain ⟨ed2, em2⟩ := dm_of (x := -f) (q := -1) (r := f) hU (by omega) (by omega) (by omega)
  omega
theorem aw_hi (hf : 5 ≤ f) (e : U = 2 * f) (h1 : U - 1 ≤ hi) (h2 : lo = -hi) : HiAt U "halfaway" lo hi (-f) := by
  have hU : 0 < U := by omega
  have z := ti_aw hU (at_half hU hf e).2
  have zz := (at_half hU hf e).2
  refine hi_mk hU (by omega) (by omega) (fun x _ _ => ?_) fun ks hk => ?_
  · have := rg_aw hU e x
    omega
  · have a := rg_aw hU e (sumK ks)
    have b := rg_aw hU e (-f * cntK ks)
    by_cases s : 0 < sumK ks
    · obtain ⟨p, m, k1, n⟩ := sum_pos ks hk.pos s
      refine ⟨1, by omega, .inr ⟨p, m, k1, ?_⟩, by omega⟩
      have := rg_aw hU e p.1
      omega
    · exact ⟨0, Int.le_refl 0, .inl rfl, by omega⟩
theorem aw_lo (hf : 5 ≤ f) (e : U = 2 * f) (h1 : U - 1 ≤ hi) (h2 : lo ≤ 1) : LoAt U "halfaway" lo hi f := by
  have hU : 0 < U := by omega
  have z := ti_aw hU (at_half hU hf e).1
  have zz := (at_half hU hf e).1
  refine lo_mk hU (by omega) (by omega) (fun x _ _ => ?_) fun ks hk => ?_
  · have := rg_aw hU e x
    omega
  · have a := rg_aw hU e (sumK ks)
    have b := rg_aw hU e (f * cntK ks)
    by_cases s : sumK ks < 0
    · obtain ⟨p, m, k1, n⟩ := sum_neg ks hk.pos s
      refine ⟨1, by omega, .inr ⟨p, m, k1, ?_⟩, by omega⟩
      have := rg_aw hU e p.1
      omega
    · exact ⟨0, Int.le_refl 0, .inl rfl, by omega⟩
theorem cu_hi (hf : 5 ≤ f) (e : U = 2 * f) (h1 : U - 1 ≤ hi) (h2 : lo ≤ 1) : HiAt U "halfcut" lo hi f := by
  have hU : 0 < U := by omega
  have z := ti_cu hU (at_half hU hf e).1
  have zz := (at_half hU hf e).1
  refine hi_mk hU (by omega) (by omega) (fun x _ _ => ?_) fun ks hk => ?_
  · have := rg_cu hU e x
    omega
  · have a := rg_cu hU e (sumK ks)
    have b := rg_cu hU e (f * cntK ks)
    by_cases s : sumK ks < 0
    · obtain ⟨p, m, k1, n⟩ := sum_neg ks hk.pos s
      refine ⟨1, by omega, .inr ⟨p, m, k1, ?_⟩, by omega⟩
      have := rg_cu hU e p.1
      omega
    · exact ⟨0, Int.le_refl 0, .inl rfl, by omega⟩
theorem cu_lo (hf : 5 ≤ f) (e : U = 2 * f) (h1 : U - 1 ≤ hi) (h2 : lo = -hi) : LoAt U "halfcut" lo hi (-f) := by
  have hU : 0 < U := by omega
  have z := ti_cu hU (at_half hU hf e).2
  have zz := (at_half hU hf e).2
  refine lo_mk hU (by omega) (by omega) (fun x _ _ => ?_) fun ks hk => ?_
  · have := rg_cu hU e x
    omega
  · have a := rg_cu hU e (sumK ks)
    have b := rg_cu hU e (-f * cntK ks)
    by_cases s : 0 < sumK ks
    · obtain ⟨p, m, k1, n⟩ := sum_pos ks hk.pos s
      refine ⟨1, by omega, .inr ⟨p, m, k1, ?_⟩, by omega⟩
      have := rg_cu hU e p.1
      omega
    · exact ⟨0, Int.le_refl 0, .inl rfl, by omega⟩
/-- ways that are one way at numbers from 0 on -/
theorem near_same {t t' : Str} (hU : 0 < U) {x : Int} (h : err U t x = err U t' x) : near x U t = near x U t' := by
  unfold err at h
  exact Int.eq_of_mul_eq_mul_right (show U ≠ 0 by omega) (by omega)
theorem gap_same {t t' : Str} (hU : 0 < U) (h : ∀ x, 0 ≤ x → err U t x = err U t' x) (hl : 0 ≤ lo) {ks : List (Int × Int)} (hk : Held lo hi ks) : gapK U t ks = gapK U t' ks := by
  have s := sum_nonneg ks fun p m => ⟨(hk p m).1, by have := (hk p m).2.1; omega⟩
  have e : eachK U t ks = eachK U t' ks := by
    unfold eachK
    refine congrArg List.sum (List.map_congr_left fun p m => ?_)
    rw [near_same hU (h p.1 (by have := (hk p m).2.1; omega))]
  unfold gapK
  rw [e, near_same hU (h _ s)]
theorem cnt_nonneg : ∀ ks : List (Int × Int), (∀ p ∈ ks, 0 ≤ p.2) → 0 ≤ cntK ks
  | [], _ => by simp [cntK]
  | p :: r, h => by
    have a2 : cntK (p :: r) = p.2 + cntK r := by simp [cntK]
    have := cnt_nonneg r fun q m => h q (List.mem_cons_of_mem _ m)
    have := h p (List.mem_cons_self ..)
    omega
theorem gapN_same {t t' : Str} (hU : 0 < U) (h : ∀ x, 0 ≤ x → err U t x = err U t' x) {u N : Int} (hu : 0 ≤ u) (hN : 0 ≤ N) : gapN U t N u = gapN U t' N u := by
  unfold gapN
  rw [near_same hU (h u hu), near_same hU (h _ (Int.mul_nonneg hu hN))]
theorem HiAt.as {t t' : Str} {u : Int} (a : HiAt U t' lo hi u) (hU : 0 < U) (h : ∀ x, 0 ≤ x → err U t x = err U t' x) (hl : 0 ≤ lo) : HiAt U t lo hi u := by
  refine ⟨a.1, a.2.1, fun ks hk => ?_⟩
  rw [gap_same hU h hl hk, gapN_same hU h (by have := a.1; omega) (cnt_nonneg ks hk.pos)]
  exact a.2.2 ks hk
theorem LoAt.as {t t' : Str} {u : Int} (a : LoAt U t' lo hi u) (hU : 0 < U) (h : ∀ x, 0 ≤ x → err U t x = err U t' x) (hl : 0 ≤ lo) : LoAt U t lo hi u := by
  refine ⟨a.1, a.2.1, fun ks hk => ?_⟩
  rw [gap_same hU h hl hk, gapN_same hU h (by have := a.1; omega) (cnt_nonneg ks hk.pos)]
  exact a.2.2 ks hk
theorem cut_as (hU : 0 < U) (x : Int) (h : 0 ≤ x) : err U "cut" x = err U "floor" x := by
  rw [er_floor]
  have := er_cut hU x
  omega
theorem away_as (hU : 0 < U) (x : Int) (h : 0 ≤ x) : err U "away" x = err U "ceiling" x := by
  have := er_ceil (U := U) x
  have := er_away hU x
  omega
theorem halfaway_as (hU : 0 < U) (x : Int) (h : 0 ≤ x) : err U "halfaway" x = err U "halfup" x := by
  have a := er_half hU (t := "halfaway") (by decide +kernel) x
  have b := er_half hU (t := "halfup") (by decide +kernel) x
  by_cases p : 2 * (x % U) = U
  · have := ti_up hU p
    have := ti_aw hU p
    omega
  · omega
theorem halfcut_as (hU : 0 < U) (x : Int) (h : 0 ≤ x) : err U "halfcut" x = err U "halfdown" x := by
  have a := er_half hU (t := "halfcut") (by decide +kernel) x
  have b := er_half hU (t := "halfdown") (by decide +kernel) x
  by_cases p : 2 * (x % U) = U
  · have := ti_dn hU p
    have := ti_cu hU p
    omega
  · omega
theorem floor_lo_ex (hf : 5 ≤ f) (e : U = 2 * f) (h1 : hi = U - 1 ∨ 10 * U - 1 ≤ hi) (h2 : lo = -hi ∨ lo = 0 ∨ lo = 1) : ∃ u ∈ tellL f, LoAt U "floor" lo hi u := by
  by_cases a : lo ≤ 0
  · refine ⟨0, by simp [tellL], floor_lo (by omega) a (by omega) fun x _ _ => ?_⟩
    rw [Int.zero_emod]
    exact (rb (by omega) x).1
  · by_cases b : U ≤ hi
    · refine ⟨2 * f, by simp [tellL], floor_lo (by omega) (by omega) (by omega) fun x _ _ => ?_⟩
      rw [← e, Int.emod_self]
      exact (rb (by omega) x).1
    · refine ⟨1, by simp [tellL], floor_lo (by omega) (by omega) (by omega) fun x c d => ?_⟩
      rw [Int.emod_eq_of_lt (show 0 ≤ x by omega) (show x < U by omega), Int.emod_eq_of_lt (show (0 : Int) ≤ 1 by omega) (show 1 < U by omega)]
      omega
theorem ceil_hi_ex (hf : 5 ≤ f) (e : U = 2 * f) (h1 : hi = U - 1 ∨ 10 * U - 1 ≤ hi) (h2 : lo = -hi ∨ lo = 0 ∨ lo = 1) : ∃ u ∈ tellL f, HiAt U "ceiling" lo hi u := by
  have rc : ∀ x, 0 ≤ err U "ceiling" x := fun x => by
    have := er_ceil (U := U) x
    have := rb (show 0 < U by omega) x
    omega
  by_cases a : lo ≤ 0
  · refine ⟨0, by simp [tellL], ceil_hi (by omega) a (by omega) fun x _ _ => ?_⟩
    rw [err_0 (Int.zero_emod _)]
    exact rc x
  · by_cases b : U ≤ hi
    · refine ⟨2 * f, by simp [tellL], ceil_hi (by omega) (by omega) (by omega) fun x _ _ => ?_⟩
      rw [← e, err_0 (Int.emod_self)]
      exact rc x
    · refine ⟨2 * f - 1, by simp [tellL], ceil_hi (by omega) (by omega) (by omega) fun x c d => ?_⟩
      have m1 : x % U = x := Int.emod_eq_of_lt (by omega) (by omega)
      have m2 : (2 * f - 1) % U = 2 * f - 1 := Int.emod_eq_of_lt (by omega) (by omega)
      have := er_ceil (U := U) x
      have := er_ceil (U := U) (2 * f - 1)
      omega
/-- some telling number has the greatest gap -/
theorem tell_hi (ht : t ∈ waysL) (hf : 5 ≤ f) (e : U = 2 * f) (h1 : hi = U - 1 ∨ 10 * U - 1 ≤ hi) (h2 : lo = -hi ∨ lo = 0 ∨ lo = 1) : ∃ u ∈ tellL f, HiAt U t lo hi u := by
  have hU : 0 < U := by omega
  have em : 2 * f - 1 = U - 1 := by omega
  rcases way_cases ht with rfl | rfl | rfl | rfl | rfl | rfl | rfl | rfl | rfl
  · exact ⟨2 * f - 1, by simp [tellL], by rw [em]; exact floor_hi (by omega) (by omega) (by omega)⟩
  · exact ceil_hi_ex hf e h1 h2
  · exact ⟨2 * f - 1, by simp [tellL], by rw [em]; exact cut_hi (by omega) (by omega) (by omega)⟩
  · by_cases s : lo = -hi
    · exact ⟨-1, by simp [tellL], away_hi (by omega) (by omega) s⟩
    · obtain ⟨u, m, h⟩ := ceil_hi_ex hf e h1 h2
      exact ⟨u, m, h.as hU (away_as hU) (by omega)⟩
  · exact ⟨f - 1, by simp [tellL], up_hi hf e (by omega) (by omega)⟩
  · exact ⟨f, by simp [tellL], dn_hi hf e (by omega) (by omega)⟩
  · exact ⟨f, by simp [tellL], ev_hi hf e (by omega) (by omega)⟩
  · by_cases s : lo = -hi
    · exact ⟨-f, by simp [tellL], aw_hi hf e (by omega) s⟩
    · exact ⟨f - 1, by simp [tellL], (up_hi hf e (by omega) (by omega)).as hU (halfaway_as hU) (by omega)⟩
  · exact ⟨f, by simp [tellL], cu_hi hf e (by omega) (by omega)⟩
/-- some telling number has the least gap -/
theorem tell_lo (ht : t ∈ waysL) (hf : 5 ≤ f) (e : U = 2 * f) (h1 : hi = U - 1 ∨ 10 * U - 1 ≤ hi) (h2 : lo = -hi ∨ lo = 0 ∨ lo = 1) : ∃ u ∈ tellL f, LoAt U t lo hi u := by
  have hU : 0 < U := by omega
  have em : -(2 * f - 1) = -(U - 1) := by omega
  rcases way_cases ht with rfl | rfl | rfl | rfl | rfl | rfl | rfl | rfl | rfl
  · exact floor_lo_ex hf e h1 h2
  · exact ⟨1, by simp [tellL], ceil_lo (by omega) (by omega) (by omega)⟩
  · by_cases s : lo = -hi
    · exact ⟨-(2 * f - 1), by simp [tellL], by rw [em]; exact cut_lo (by omega) (by omega) s⟩
    · obtain ⟨u, m, h⟩ := floor_lo_ex hf e h1 h2
      exact ⟨u, m, h.as hU (cut_as hU) (by omega)⟩
  · exact ⟨1, by simp [tellL], away_lo (by omega) (by omega) (by omega)⟩
  · exact ⟨f, by simp [tellL], up_lo hf e (by omega) (by omega)⟩
  · exact ⟨f + 1, by simp [tellL], dn_lo hf e (by omega) (by omega)⟩
  · by_cases s : lo = -hi
    · exact ⟨-f, by simp [tellL], ev_lo hf e (by omega) (by omega) (.inl rfl)⟩
    · rcases h1 with h1 | h1
      · exact ⟨f + 1, by simp [tellL], ev_lo0 hf e h1 (by omega) (by omega)⟩
      · exact ⟨3 * f, by simp [tellL], ev_lo hf e (by omega) (by omega) (.inr rfl)⟩
  · exact ⟨f, by simp [tellL], aw_lo hf e (by omega) (by omega)⟩
  · by_cases s : lo = -hi
    · exact ⟨-f, by simp [tellL], cu_lo hf e (by omega) s⟩
    · exact ⟨f + 1, by simp [tellL], (dn_lo hf e (by omega) (by omega)).as hU (halfcut_as hU) (by omega)⟩
end
end Own

/-! own layer, of no law: OWNK: a try with any number of except clauses that have a name. -/
namespace Own
open PySem PySem.Spec PyProof.Rows L2
/-- a clause: the class that it names, the slot of its name, what its suite asks -/
structure Cl where
  c : Value
  i : Nat
  ts : Addr → Value → Option Addr → TS
/-- the wish of the clauses, one behind the other -/
def wEach (K : PySem.W.Frag) (Wout : WX) (D : Ends) : List Cl → WX
  | [] => Wout
  | q :: r => wAs K q.c q.i q.ts (wEach K Wout D r) D
/-- the clauses as they are written, beside what they ask -/
inductive ClsOk (X : Cx) : List ExceptHandler → List Cl → Prop
  | none : ClsOk X [] []
  | more {x n : Str} {q : Cl} {b : Stmt} {bs : List Stmt} {p p' : Pos} {hds : List ExceptHandler} {l : List Cl} (named : Names X x q.c) (slot : X.N[q.i]? = some n) (loc : X.env.kindOf n = some .local)
      (su : ∀ (a : Addr) (o : Obj) (cls : Value) (d : Option Addr) (pn : List (Addr × Obj)), Zc cls d o → (∃ vs, o.data = .fields vs) → PSs (X.suite a ((a, o) :: pn)) (b :: bs) (q.ts a cls d)) (rest : ClsOk X hds l) :
      ClsOk X (.ExceptHandler (some (.Name x p)) (some n) (b :: bs) p' :: hds) (q :: l)
/-- the exception at a is caught: sI is the state without it, s the one with it -/
structure Caught (X : Cx) (pins : List (Addr × Obj)) (σ : L2.St) (H : Hp) (sI s : Shared) (B : Heap) (a : Addr) (cls : Value) (d : Option Addr) : Prop where
  I : Inv X pins σ H sI
  nb : ∀ b o, sI.heap.get? b = some o → b ∉ frs X.stack → B.get? b = some o
  up : sI.heap.UpToSlots s.heap
  fl : HandSPX.FlyingZ B (X.env :: X.outer) a (Zc cls d) s.heap
  na : H a = none
  os : s.os = sI.os
  ag : AllBare s.gens
section
variable {X : Cx} {pins : List (Addr × Obj)} {σ : L2.St} {H : Hp} {sI s : Shared} {B : Heap} {a : Addr} {cls : Value} {d : Option Addr}
theorem Caught.inv (c : Caught X pins σ H sI s B a cls d) : Inv X pins σ H s := c.I.landed c.nb c.fl.1 c.up c.os c.ag
theorem Caught.on (c : Caught X pins σ H sI s B a cls d) {h' : Heap} (f : HandSPX.FlyingZ B (X.env :: X.outer) a (Zc cls d) h') (u : s.heap.UpToSlots h') : Caught X pins σ H sI { s with heap := h' } B a cls d :=
  ⟨c.I, c.nb, c.up.trans u, f, c.na, c.os, c.ag⟩
/-- the record of the exception, and the state of a suite -/
theorem Caught.record (c : Caught X pins σ H sI s B a cls d) (hf : X.env.frame = some X.env.locals) : ∃ o : Obj, s.heap.get? a = some o ∧ Zc cls d o ∧ (∃ vs, o.data = .fields vs) ∧ Inv (X.suite a ((a, o) :: (X.pn ++ pins))) [] σ H s := by
  obtain ⟨o, vs, eo, z, dt⟩ := c.fl.there
  have off : a ∉ frs (X.env :: X.outer) := fun hm => by
    obtain ⟨_, o2, e2, hn⟩ := c.fl.2.2.1.mem hm
    rw [eo] at e2
    obtain rfl := Option.some.inj e2
    exact hn _ dt
  have n1 : a ≠ X.env.locals := by
    intro z
    refine off (List.mem_filterMap.mpr ⟨X.env, List.mem_cons_self, ?_⟩)
    rw [hf, z]
  have n2 : a ∉ X.fs := by
    intro hm
    obtain ⟨e, he, q⟩ := List.mem_filterMap.mp hm
    exact off (List.mem_filterMap.mpr ⟨e, List.mem_cons_of_mem _ he, q⟩)
  exact ⟨o, eo, z, ⟨vs, dt⟩, c.inv.suite eo dt c.na n1 n2⟩
/-- no clause is left: it goes on -/
theorem caught_out {D : Ends} {W : WX} (hs : X.stack = X.env :: X.outer) (hf : X.env.frame = some X.env.locals) (tk : Takes X W) (c : Caught X pins σ H sI s B a cls d) (w : W cls d σ H) :
    wpAny (model X.prog X.w) X.A (handleBy (.ref a) X.env []) (SP X pins D) X.xe s := by
  refine wpAny_handleBy_nil ?_
  have air := c.fl
  obtain ⟨_, _, _, o, vs, T, _, _, eo, _, dt, tb, _⟩ := c.fl
  unfold PySem.passOn
  refine wpAny_bind (wpAny_field eo dt tb ?_)
  rw [if_neg (show ¬ ((Value.ref T == Value.none) = true) by simp)]
  have z : wpAny (model X.prog X.w) X.A (setFlight (.ref a) X.env.frame) (fun _ t => wpAny (model X.prog X.w) X.A (throw (.ref a) : Sem Flow) (SP X pins D) X.xe t) X.xe s := by
    rw [hf]
    refine HandSPX.setFlight_upZ air fun h' held u => wpAny_throw (tk _ _ ⟨a, B, sI, pins, σ, H, cls, d, rfl, c.I, c.nb, c.up.trans u, ?_, c.na, c.os, c.ag, w⟩)
    rw [hs]
    exact .inr (.inr held)
  first
    | exact wpAny_bind z
    | exact wpAny_bind (wpAny_pure (wpAny_bind z))
/-- the suite of a clause with a name, its name gone behind it -/
theorem caught_suite {D : Ends} {n : Str} {q : Cl} {b : Stmt} {bs : List Stmt} {p' : Pos} (hf : X.env.frame = some X.env.locals) (hN : X.N.Nodup) (slot : X.N[q.i]? = some n) (loc : X.env.kindOf n = some .local)
    (su : ∀ (a : Addr) (o : Obj) (cls : Value) (d : Option Addr) (pn : List (Addr × Obj)), Zc cls d o → (∃ vs, o.data = .fields vs) → PSs (X.suite a ((a, o) :: pn)) (b :: bs) (q.ts a cls d)) (c : Caught X pins σ H sI s B a cls d)
    (h : q.ts a cls d { nx := fun σ' H' => D.nx (σ'.set q.i none) H', rt := D.rt, bk := fun σ' H' => D.bk (σ'.set q.i none) H', ct := fun σ' H' => D.ct (σ'.set q.i none) H' } (σ.set q.i (some (.ref a))) H) :
    codeAny (model X.prog X.w) (X.A.mark (some (.ref a))) (.handlers (.ref a) [.ExceptHandler none (some n) (b :: bs) p'] X.env) (fun r s2 => match r with
      | .ok f => wpAny (model X.prog X.w) X.A (do bindName X.env n .none; unbindBehindTheSuite X.env n p') (fun _ s3 => SP X pins D f s3) X.xe s2
      | .error x => cameBackBy (model X.prog X.w) X.A X.env X.xe x s2) s := by
  have ok := c.I.ok
  refine codeAny_handlers_suite_as (HandSPX.lands_againZ c.fl fun h4 f4 u4 => ?_)
  obtain ⟨o, _, z, dt, S⟩ := (c.on f4 u4).record hf
  refine store_ok (X := X.suite a ((a, o) :: (X.pn ++ pins))) (v := .ref a) S hN slot (.inl loc) rfl (fun s5 S5 => ?_) (.inr loc)
  refine wpAny_mono ((su a o cls d _ z dt).run [] s5 _ H _ S5 h) (fun f s6 g => ?_) fun _ _ y => y.elim
  cases f with
  | ret u =>
    obtain ⟨v, σ6, H6, S6, r, g⟩ := g
    exact gone_ok (S6.unsuite ok) hN slot loc fun s7 J => ⟨v, _, _, J, r, g⟩
  | next =>
    obtain ⟨σ6, H6, S6, g⟩ := g
    exact gone_ok (S6.unsuite ok) hN slot loc fun s7 J => ⟨_, _, J, g⟩
  | cont =>
    obtain ⟨σ6, H6, S6, g⟩ := g
    exact gone_ok (S6.unsuite ok) hN slot loc fun s7 J => ⟨_, _, J, g⟩
  | brk =>
    obtain ⟨σ6, H6, S6, g⟩ := g
    exact gone_ok (S6.unsuite ok) hN slot loc fun s7 J => ⟨_, _, J, g⟩
/-- the clauses, one behind the other -/
theorem caught_each {D : Ends} {W : WX} (hs : X.stack = X.env :: X.outer) (hf : X.env.frame = some X.env.locals) (hN : X.N.Nodup) (tk : Takes X W) {hds : List ExceptHandler} {l : List Cl} (k : ClsOk X hds l)
    (c : Caught X pins σ H sI s B a cls d) (w : wEach X.K W D l cls d σ H) : wpAny (model X.prog X.w) X.A (handleBy (.ref a) X.env hds) (SP X pins D) X.xe s := by
  induction k with
  | none => exact caught_out hs hf tk c w
  | @more x n q b bs p p' hds l named slot loc su rest ih =>
    obtain ⟨yes, hyes, w1, w0⟩ := w
    obtain ⟨o, eo, z, _, S⟩ := c.record hf
    refine wpAny_handleBy_cons (codeAny_handlers_test ?_) (fun q => nomatch q)
    have look : PySem.W.Looks (model X.prog X.w) s.heap (typeOf (.ref a)) cls := fun A Q E t k y => wpAny_typeOf_ref (k _ _ eo) (by rw [z.1]; exact y)
    have meets := PySem.W.exm_one (M := model X.prog X.w) (c.inv.kIn) look hyes
    have asked : ∀ {Q E : Value → Shared → Prop}, Q q.c s → wpAny (model X.prog X.w) (X.A.mark (some (.ref a))) (eval (.Name x p) X.env) Q E s := fun {Q E} y => by
      obtain ⟨hg, nd, hm | ⟨hm, hv, nn⟩⟩ := named
      · exact ld_glob (X := X.suite a ((a, o) :: (X.pn ++ pins))) S hg hm y nd
      · exact ld_blt (X := X.suite a ((a, o) :: (X.pn ++ pins))) S hg hm hv y nn nd
    refine asked (meets.here ?_)
    cases yes with
    | false => exact ih (w0 rfl)
    | true => exact caught_suite hf hN slot loc su c (w1 rfl a c.na)
end
/-- try: body, except x as n: suite, except y as m: suite, .. -/
theorem ps_try_each {X : Cx} {body : List Stmt} {h0 : ExceptHandler} {hds : List ExceptHandler} {l : List Cl} {pos : Pos} {tb : WX → TS} {Wout : WX} (hs : X.stack = X.env :: X.outer) (hf : X.env.frame = some X.env.locals) (hN : X.N.Nodup) (tk : Takes X Wout)
    (hb : ∀ (W : WX) (pn : List (Addr × Obj)) (xe : Value → Shared → Prop), Takes (X.tr pn xe) W → PassesOwn (model X.prog X.w) X.A X.env xe → PSs (X.tr pn xe) body (tb W)) (k : ClsOk X (h0 :: hds) l) :
    PS X (.Try body (h0 :: hds) [] [] pos) (fun D σ H => tb (wEach X.K Wout D l) D σ H) := by
  constructor
  intro pins s σ H D I h
  have ok := I.ok
  refine wpAny_Try_except (wpAny_mono ((hb (wEach X.K Wout D l) (X.pn ++ pins) _ ?_ PassesOwn.looking).run [] s σ H D (I.toTry _) h) ?_ fun e t z => z)
  · rintro u t ⟨a, B, sI, pins', σ', H', cls, d, rfl, J, nb, up, sky, na, os, ag, w⟩
    rw [show (X.tr (X.pn ++ pins) _).stack = X.env :: X.outer from hs] at sky
    refine Sky.land Zc.steady (by rw [ok.frames, hs]) hf sky fun h3 f3 u3 => ?_
    exact caught_each hs hf hN tk k ⟨J.ofTry ok, nb, up.trans u3, f3, na, os, ag⟩ w
  · intro f t g
    cases f with
    | ret u =>
      obtain ⟨v, σ', H', J, r, g⟩ := g
      exact ⟨v, σ', H', J.ofTry ok, r, g⟩
    | next =>
      obtain ⟨σ', H', J, g⟩ := g
      exact wpAny_execs_nil ⟨σ', H', J.ofTry ok, g⟩
    | cont =>
      obtain ⟨σ', H', J, g⟩ := g
      exact ⟨σ', H', J.ofTry ok, g⟩
    | brk =>
      obtain ⟨σ', H', J, g⟩ := g
      exact ⟨σ', H', J.ofTry ok, g⟩
end Own

namespace Own
open PySem PySem.Spec PyProof.Rows L2
/-- two tuples of the same values, whatever these are -/
def rTwo (K : PySem.W.Frag) (b : Bool) : R2 := fun x y H Q => ∃ (l m : Addr) (zs : List V), x = .ref l ∧ y = .ref m ∧ SqT K H l zs ∧ SqT K H m zs ∧ (∀ z ∈ zs, Selfy z) ∧ Q (.bl b) H
section
variable {X : Cx}
theorem vals_alike {A : Around} {s : Shared} {zs : List V} {us ws : List Value} (h : ∀ z ∈ zs, Selfy z) (ru : Vals zs us) (rw' : Vals zs ws) : ∀ (j : Nat) (h1 : j < us.toArray.size) (h2 : j < ws.toArray.size), SeqAt.EqAt A s us.toArray[j] ws.toArray[j] true := by
  intro j h1 h2
  have l1 := ru.length
  have l2 := rw'.length
  simp only [List.size_toArray] at h1 h2
  simp only [List.getElem_toArray]
  have hz : j < zs.length := by omega
  obtain ⟨a, ea, ra⟩ := ru.get (List.getElem?_eq_getElem hz)
  obtain ⟨b, eb, rb⟩ := rw'.get (List.getElem?_eq_getElem hz)
  rw [(List.getElem?_eq_some_iff.mp ea).2, (List.getElem?_eq_some_iff.mp eb).2]
  exact selfy_at (h _ (List.getElem_mem hz)) ra rb
theorem op_eqTwo (hu : X.A.units + 64 < cLine) : OpR X (compareOp .Eq) (rTwo X.K true) := by
  intro pins s σ H x y v u Q I rx ry h
  obtain ⟨l, m, zs, rfl, rfl, h1, h2, hz, q⟩ := h
  cases (show v = Value.ref l from rx)
  cases (show u = Value.ref m from ry)
  obtain ⟨us, r1, t1, _⟩ := I.tuple h1
  obtain ⟨ws, r2, t2, _⟩ := I.tuple h2
  have := SeqAt.RcAt.tuples (A := X.A) (e := fun _ => true) t1 t2 (by omega) (vals_alike hz r1 r2)
  have e : ((List.range (min us.toArray.size ws.toArray.size)).all (fun _ => true) && us.toArray.size == ws.toArray.size) = true := by
    have l1 := r1.length
    have l2 := r2.length
    simp
    omega
  rw [e] at this
  exact this X.prog X.w _ _ ⟨.bl true, H, I, rfl, q⟩
theorem op_neTwo (hu : X.A.units + 64 < cLine) : OpR X (compareOp .NotEq) (rTwo X.K false) := by
  intro pins s σ H x y v u Q I rx ry h
  obtain ⟨l, m, zs, rfl, rfl, h1, h2, hz, q⟩ := h
  cases (show v = Value.ref l from rx)
  cases (show u = Value.ref m from ry)
  obtain ⟨us, r1, t1, _⟩ := I.tuple h1
  obtain ⟨ws, r2, t2, _⟩ := I.tuple h2
  have := SeqAt.RcNeAt.tuples (A := X.A) (e := fun _ => true) t1 t2 (by omega) (vals_alike hz r1 r2)
  have e : (!((List.range (min us.toArray.size ws.toArray.size)).all (fun _ => true) && us.toArray.size == ws.toArray.size)) = false := by
    have l1 := r1.length
    have l2 := r2.length
    simp
    omega
  rw [e] at this
  exact this X.prog X.w _ _ ⟨.bl false, H, I, rfl, q⟩
end
/-! ### called with what may be refused: two kinds of error -/
/-- told back: nothing, or the value of the one error or of the other behind its word -/
def spTold2 (C1 C2 : Addr) (f1 f2 t1 t2 : Str) : (Hp → VK → XK → Prop) → List V → Hp → VK → Prop := fun tl rest H Q => rest = [] ∧ ∀ (p : Addr) (H0 : Hp), Same H H0 → H0 p = some (.tup []) →
  (((∀ (Q' : VK) (E' : XK), (∀ (v : V) (H1 : Hp), Same H0 H1 → Q' v H1) → tl H0 Q' E') ∧ ∀ H1, Same H0 H1 → Q (.ref p) H1) ∨
  (∃ v : V, (∀ (Q' : VK) (E' : XK), Bad C1 f1 v H0 E' → tl H0 Q' E') ∧ ∀ (r : Addr) (H1 : Hp), Same H0 H1 → H1 r = some (.tup [.str t1, v]) → Q (.ref r) H1) ∨
  (∃ v : V, (∀ (Q' : VK) (E' : XK), Bad C2 f2 v H0 E' → tl H0 Q' E') ∧ ∀ (r : Addr) (H1 : Hp), Same H0 H1 → H1 r = some (.tup [.str t2, v]) → Q (.ref r) H1))
end Own

/-! own layer, of no law: OWNJ: min(xs, key=lambda x: x[0]), max likewise. -/
namespace Own
open PySem PySem.Spec PyProof.Rows L2 LamX NdefX
/-- a lambda of one name that gives the name's first part -/
structure FstL (F : NF) (b : Expr) (x : Str) : Prop where
  S : NScope [x] [x] [] F.scope
  eb : ∃ (p1 p2 p3 : Pos) (j : Nat), b = .Subscript (.Name x p1) (.Constant (.int 0) j p2) p3
  nd : (x == ("__debug__" : Str)) = false
  df : dInts F.params.defaults = []
  bind : ∀ (doc pm ctv : Value) (s : Shared) (u : Value), BindsTo s (lamFd F b .none doc pm ctv) ⟨[u], []⟩ [(x, u)]
theorem first_run {P : Program} {w : World} {A : Around} {s : Shared} {F : NF} {b : Expr} {doc pm ctv : Value} {f t : Addr} {x : Str} {items : Array Value} {it : Value} {Q E : Value → Shared → Prop} (hd : A.depth < recursionLimit)
    (ho : s.heap.get? f = some ({ cls := .type "function", data := .func (lamFd F b .none doc pm ctv) } : Obj)) (hc : s.heap.CodeRec (.ref F.c) F.qual) (lim : s.heap.NoLimit) (L : FstL F b x)
    (ht : IsTup s.heap t items) (h0 : items[0]? = some it) (hQ : ∀ h' tk, s.toks ≤ tk → (∀ b o, s.heap.get? b = some o → h'.get? b = some o) → Q it { s with heap := h', toks := tk }) : wpAny (model P w) A (call (.ref f) [.ref t]) Q E s := by
  refine wpAny_call (PySem.W.kla_callFunE hd ho rfl L.S.co L.S.gen rfl hc ?_)
  refine L.bind doc pm ctv s (.ref t) _ _ _ _ ?_
  refine wpAny_newFunctionEnv L.S.nocell (fun ⟨n, v⟩ hy => ?_) (fun h1 hns hsb => ⟨lim.fresh _ hsb, ?_⟩) L.S.kind
  · have e := List.mem_singleton.mp hy
    have e1 : n = x := congrArg Prod.fst e
    subst e1
    exact L.S.par _ (List.mem_singleton.mpr rfl)
  show codeAny _ _ (.expr b (envF F f s.heap.objs.size)) _ _
  have old : ∀ b o, s.heap.get? b = some o → h1.get? b = some o := fun b o e => hsb.extBut b o (Nat.ne_of_lt (Heap.lt_size e)) (Heap.get?_push_of_some _ e)
  obtain ⟨p1, p2, p3, j, eb⟩ := L.eb
  rw [eb]
  have t1 : IsTup h1 t items := by
    obtain ⟨o, z1, z2⟩ := ht
    exact ⟨o, old _ _ z1, z2⟩
  have kx : (envF F f s.heap.objs.size).kindOf x = some .local := L.S.par _ (List.mem_singleton.mpr rfl)
  refine PySem.W.kla_codeExpr (Subscript_ (wpAny_Name (wpAny_loadName_local L.S.kind kx hns (v := .ref t) ?_ ?_) L.nd))
  · simp
  refine wpAny_Constant_int ?_
  have sz : 0 < items.size := (Array.getElem?_eq_some_iff.mp h0).1
  refine subscriptTail_builtinR (x := it) t1.typeIs PySem.F.slot_tuple_getitem.lookup (getItem_tuple (j := 0) t1 (by decide) (by decide) ?_ h0 ⟨rfl, ?_⟩)
  · unfold seqIndex?
    simp [sz]
  · exact hQ _ _ (by show s.toks ≤ s.toks + 1 + 1; omega) old
/-- the key of a row -/
def KeyAt (H : Hp) (y : V) (k : Int) : Prop := ∃ (t : Addr) (r : List V), y = .ref t ∧ H t = some (.tup (.int k :: r))
/-- min or max by the first part: what is least, or greatest -/
def rBestKey (up : Bool) (F : NF) (b : Expr) (x : Str) : List V → List V → Hp → VK → Prop := fun vs zs H Q => ∃ (a f : Addr) (xs : List V) (ks : List Int), vs = [.ref a] ∧ zs = [.ref f] ∧ H a = some (.lst xs) ∧ LamAt H f F b ∧ H F.c = some (CodeO F.c F.qual) ∧ FstL F b x ∧ xs.length = ks.length ∧ 0 < xs.length ∧
  (∀ (i : Nat) (y : V) (k : Int), xs[i]? = some y → ks[i]? = some k → KeyAt H y k) ∧ ∀ (i : Nat) (y : V) (k : Int), xs[i]? = some y → ks[i]? = some k → (∀ k' ∈ ks, if up = true then k' ≤ k else k ≤ k') → Q y H
section
variable {X : Cx} {F : NF} {b : Expr} {x : Str}
theorem key_list {pins : List (Addr × Obj)} {σ : L2.St} {H : Hp} {s : Shared} {xs : List V} {ks : List Int} {its : List Value} (I : Inv X pins σ H s) (rv : Vals xs its) (hk : ∀ (i : Nat) (y : V) (k : Int), xs[i]? = some y → ks[i]? = some k → KeyAt H y k) {i : Nat} {v : Value} (hl : xs.length = ks.length) (hi : its[i]? = some v) :
    ∃ (k : Int) (t : Addr) (items : Array Value) (tok : Tok), ks[i]? = some k ∧ v = .ref t ∧ IsTup s.heap t items ∧ items[0]? = some (.int k tok) := by
  have li : i < its.length := (List.getElem?_eq_some_iff.mp hi).1
  have lx : i < xs.length := by rw [rv.length]; exact li
  have lk : i < ks.length := by omega
  obtain ⟨u, eu, ru⟩ := rv.get (List.getElem?_eq_getElem lx)
  obtain ⟨t, r, e1, e2⟩ := hk i _ _ (List.getElem?_eq_getElem lx) (List.getElem?_eq_getElem lk)
  rw [e1] at ru
  obtain rfl : u = Value.ref t := ru
  obtain ⟨ws, r2, t2, _⟩ := I.tuple (SqT.of e2)
  cases r2 with
  | cons h0 _ =>
    obtain ⟨tok, rfl⟩ := h0
    exact ⟨_, t, _, tok, List.getElem?_eq_getElem lk, (Option.some.inj (hi.symm.trans eu)), t2, rfl⟩
theorem best_run (up : Bool) {op : CmpOp} (hop : op = if up = true then .Gt else .Lt) (hc : X.calm = true) (hr : Room 1 X.A) {pins : List (Addr × Obj)} {s : Shared} {σ : L2.St} {H : Hp} {a f : Addr} {xs : List V} {ks : List Int} {its : List Value} (I : Inv X pins σ H s) (ha : H a = some (.lst xs)) (hf : LamAt H f F b) (hcd : H F.c = some (CodeO F.c F.qual)) (L : FstL F b x) (hl : xs.length = ks.length)
    (hk : ∀ (i : Nat) (y : V) (k : Int), xs[i]? = some y → ks[i]? = some k → KeyAt H y k) (rv : Vals xs its) (hli : s.heap.IsList a its.toArray) {Sx : Addr} (hS : Sx = s.heap.objs.size + 1) (key : Nat → Int) (hkey : ∀ i, i < ks.length → ks[i]? = some (key i)) :
    ∃ J : Shared → Prop, KeyRun X.prog X.w X.A.in1 (.ref f) op Sx [s.heap.objs.size] (fun a b => b = a) its.toArray.size (fun i v => its.toArray[i]? = some v) (fun i s' => s'.heap.IsListIter s.heap.objs.size a i ∧ s'.heap.IsList a its.toArray) J (fun i v _ => ∃ tok, v = .int (key i) tok) (if up = true then fun i j => decide (key i > key j) else fun i j => decide (key i < key j)) ∧
      J s ∧ (∀ s', J s' → ∀ h' tk, s'.toks ≤ tk → (∀ b o, b < s.heap.objs.size → s'.heap.get? b = some o → h'.get? b = some o) → J { s' with heap := h', toks := tk }) ∧ ∀ s', J s' → ∃ h' tk, s' = { s with heap := h', toks := tk } ∧ s.toks ≤ tk ∧ ∀ b o, s.heap.get? b = some o → h'.get? b = some o := by
  refine ⟨fun s' => ∃ h' tk, s' = { s with heap := h', toks := tk } ∧ s.toks ≤ tk ∧ ∀ b o, s.heap.get? b = some o → h'.get? b = some o, ?_, ⟨_, _, rfl, Nat.le_refl _, fun _ _ e => e⟩, ?_, fun _ h => h⟩
  · obtain ⟨dV, doc, pm, ctv, ho, us0, ru0, df0⟩ := lamO_at I.hok hf
    rw [L.df] at ru0
    cases ru0
    obtain rfl : dV = .none := by
      rcases df0 with ⟨_, z⟩ | ⟨n, _⟩
      · exact z
      · exact (n rfl).elim
    have lim0 := I.ok.mod.nolimit
    have cr := codeO_at I.hok hcd
    refine ⟨?_, ?_, ?_, ?_⟩
    · rintro s1 s2 ⟨h1, tk1, rfl, l1, k1⟩ m
      refine ⟨s2.heap, s2.toks, ?_, Nat.le_trans l1 m.toks, fun b o e => m.heap b o (fun hb => ?_) (k1 b o e)⟩
      · have e1 := m.gens
        have e2 := m.drawn
        have e3 := m.os
        cases s2
        simp only at e1 e2 e3
        subst e1 e2 e3
        rfl
      · have lt := Heap.lt_size e
        simp only [List.mem_cons, List.not_mem_nil, or_false] at hb
        rcases hb with z | z
        · exact Nat.lt_irrefl _ (Nat.lt_of_le_of_lt (Nat.le_succ _) (by rw [z, hS] at lt; exact lt))
        · exact Nat.lt_irrefl _ (by rw [z] at lt; exact lt)
    · exact fun i k s1 s2 h _ => h
    · rintro i v s1 o Q E hi hP ⟨h1, tk1, rfl, l1, k1⟩ hst hSo hQ
      have hi' : its[i]? = some v := by simpa using hP
      obtain ⟨k, t, items, tok, ek, rfl, tt, e0⟩ := key_list I rv hk hl hi'
      have ek2 : key i = k := by
        have lt : i < ks.length := (List.getElem?_eq_some_iff.mp ek).1
        exact Option.some.inj ((hkey i lt).symm.trans ek)
      subst ek2
      refine first_run (s := { s with heap := h1, toks := tk1 }) (hr.depth) (k1 _ _ ho) ?_ ?_ L (items := items) ?_ e0 fun h2 tk2 l2 k2 => ?_
      · obtain ⟨c0, oc, vs, tq, z1, z2, z3⟩ := cr
        exact ⟨c0, oc, vs, tq, z1, k1 _ _ z2, z3⟩
      · exact lim0.keeps fun b o e => k1 _ _ (I.env0.bs b o e).1
      · obtain ⟨o2, z1, z2⟩ := tt
        exact ⟨o2, k1 _ _ z1, z2⟩
      · refine hQ _ _ ⟨h2, tk2, rfl, Nat.le_trans l1 l2, fun b o e => k2 b o (k1 b o e)⟩ ⟨hst.1.at fun o e => k2 _ o e, hst.2.at fun o e => k2 _ o e⟩ (k2 _ _ hSo) ⟨tok, rfl⟩ fun j k' h => h
    · rintro i j ki kj s1 Q E _ ⟨t1, rfl⟩ ⟨t2, rfl⟩ q
      rw [hop]
      cases up with
      | true => exact gt_int q
      | false => exact lt_int q
  · rintro s1 ⟨h1, tk1, rfl, l1, k1⟩ h' tk l2 k2
    exact ⟨h', tk, rfl, Nat.le_trans l1 l2, fun b o e => k2 b o (Heap.lt_size e) (k1 b o e)⟩
theorem cr_bestKey (up : Bool) {id : String} (hid : id = if up = true then "max" else "min") (hc : X.calm = true) (hr : Room 1 X.A) : CallRK X (.builtin id) [Str.ofString "key"] (rBestKey up F b x) := by
  intro pins s σ H vs zs us ws Q I r rz h
  obtain ⟨a, f, xs, ks, rfl, rfl, ha, hf, hcd, L, hl, h0, hk, q⟩ := h
  obtain rfl := Vals.ref1 r
  obtain ⟨w1, rfl, e1⟩ := vals1 rz
  obtain rfl : w1 = Value.ref f := e1
  obtain ⟨its, rv, hli0, _⟩ := I.list (SqL.of ha)
  have hli := hli0.isList
  have hn : its.toArray.size = ks.length := by rw [List.size_toArray, ← rv.length, hl]
  have hkey : ∀ i, i < ks.length → ks[i]? = some ((fun i => ks.getD i 0) i) := fun i hi => by
    show ks[i]? = some (ks.getD i 0)
    rw [List.getD_eq_getElem?_getD, List.getElem?_eq_getElem hi]
    rfl
  generalize hkf : (fun i => ks.getD i 0) = key at hkey
  have lt_a : a < s.heap.objs.size := by
    obtain ⟨o, z, _⟩ := hli
    exact Heap.lt_size z
  have hsz : (s.heap.push ({ cls := .type "list_iterator", data := .fields #[.ref a, .int 0 0] } : Obj)).objs.size = s.heap.objs.size + 1 := by simp [Heap.push]
  have done : ∀ (bi : Nat) (v : Value) (s' : Shared) (J : Shared → Prop), (∀ s', J s' → ∃ h' tk, s' = { s with heap := h', toks := tk } ∧ s.toks ≤ tk ∧ ∀ b o, s.heap.get? b = some o → h'.get? b = some o) → bi < ks.length → (∀ j, j < ks.length → if up = true then key j ≤ key bi else key bi ≤ key j) → its.toArray[bi]? = some v → J s' → EP X pins σ Q v s' := by
    intro bi v s' J hJ hb best hv hj
    obtain ⟨h', tk, rfl, l, kp⟩ := hJ s' hj
    have lx : bi < xs.length := by omega
    obtain ⟨u, eu, ru⟩ := rv.get (List.getElem?_eq_getElem lx)
    have hv' : its[bi]? = some v := by simpa using hv
    obtain rfl : v = u := Option.some.inj (hv'.symm.trans eu)
    refine ⟨xs[bi], H, I.kept (t' := tk) kp, ru, q bi _ (key bi) (List.getElem?_eq_getElem lx) (hkey bi hb) fun k' hk' => ?_⟩
    obtain ⟨j, hj2⟩ := List.getElem?_of_mem hk'
    have lj : j < ks.length := (List.getElem?_eq_some_iff.mp hj2).1
    have ej : key j = k' := Option.some.inj ((hkey j lj).symm.trans hj2)
    rw [← ej]
    exact best j lj
  have hh := I.ok.hd hc
  obtain ⟨J, KR, Js, Jm, Je⟩ := best_run up (op := if up = true then .Gt else .Lt) rfl hc hr I ha hf hcd L hl hk rv hli (Sx := s.heap.objs.size + 1) rfl key hkey
  have p0 : (0 : Nat) < its.toArray.size := by rw [hn]; omega
  have Js2 : J { s with heap := s.heap.push ({ cls := .type "list_iterator", data := .fields #[.ref a, .int 0 0] } : Obj) } := Jm s Js _ s.toks (Nat.le_refl _) fun b o _ e => Heap.get?_push_of_some _ e
  show wpAny _ _ (call (.builtin id) [.ref a] [(Str.ofString "key", .ref f)]) _ _ _
  cases up with
  | false =>
    obtain rfl : id = "min" := hid
    refine call_min_walkK (wpAny_pyIter_list hli ⟨s.heap.objs.size, [s.heap.objs.size, a], [s.heap.objs.size], _, its.toArray.size, _, _, J, _, _, rfl, (Walks.list (A := X.A.in1) hh s.heap.objs.size a (Nat.ne_of_lt lt_a) its.toArray).toS, ⟨⟨_, Heap.get?_push_size _ rfl, rfl, rfl⟩, hli.push _⟩, fun b hb => ?_, p0, by rw [hsz]; exact KR, Js2, fun v s' hv hj => ?_⟩)
    · rw [hsz]
      simp only [List.mem_cons, List.not_mem_nil, or_false] at hb
      rcases hb with rfl | rfl
      · exact Nat.lt_succ_self _
      · exact Nat.lt_succ_of_lt lt_a
    · have ab := PySem.argBest_lt key (its.toArray.size - 1)
      exact done _ v s' J Je (by have := ab.1; omega) (fun j hj => ab.2 j (by omega)) hv hj
  | true =>
    obtain rfl : id = "max" := hid
    refine call_max_walkK (wpAny_pyIter_list hli ⟨s.heap.objs.size, [s.heap.objs.size, a], [s.heap.objs.size], _, its.toArray.size, _, _, J, _, _, rfl, (Walks.list (A := X.A.in1) hh s.heap.objs.size a (Nat.ne_of_lt lt_a) its.toArray).toS, ⟨⟨_, Heap.get?_push_size _ rfl, rfl, rfl⟩, hli.push _⟩, fun b hb => ?_, p0, by rw [hsz]; exact KR, Js2, fun v s' hv hj => ?_⟩)
    · rw [hsz]
      simp only [List.mem_cons, List.not_mem_nil, or_false] at hb
      rcases hb with rfl | rfl
      · exact Nat.lt_succ_self _
      · exact Nat.lt_succ_of_lt lt_a
    · have ab := PySem.argBest_gt key (its.toArray.size - 1)
      exact done _ v s' J Je (by have := ab.1; omega) (fun j hj => ab.2 j (by omega)) hv hj
end
end Own

/-! k53: the program: a crowd, the telling worths. -/
namespace K53
open PySem PySem.Spec PyProof.Rows L2 LamX NdefX Own
abbrev pCr : Stmt := topS 36
abbrev pTw : Stmt := topS 37
abbrev pRg : Stmt := topS 35
def junkE : Expr := .Constant .none 0 ⟨0, 0, 0, 0⟩
def retE : Stmt → Expr
  | .Return (some e) _ => e
  | _ => junkE
def asgV : Stmt → Expr
  | .Assign _ e _ => e
  | _ => junkE
abbrev inD (s : Stmt) (i : Nat) : Stmt := (defBody s).getD i (.Pass ⟨0, 0, 0, 0⟩)
def lcSc : Expr → Scope
  | .ListComp _ _ s _ => s
  | _ => ⟨.function, [], false, false, []⟩
abbrev nTw : List Str := ["places", "scale", "units", "one", "half", "number", "sign"]
theorem blkTw : BlkOk nTw (defScope pTw) (lcSc (retE (inD pTw 1))) [("number", 5), ("sign", 6)] := blkOk_by (by decide +kernel)
section
theorem low_uniq {u : Int} {s : Nat} {u1 u2 : Int} {s1 s2 : Nat} (a : IsLow u s u1 s1) (b : IsLow u s u2 s2) (h : s1 ≤ s2) : u1 = u2 ∧ s1 = s2 := by
  have p := ten_pos (s - s2)
  have e : u1 * (10 : Int) ^ (s2 - s1) = u2 := by
    have z := a.eq.symm.trans b.eq
    have le := b.le
    have e2 : s - s1 = (s2 - s1) + (s - s2) := by omega
    rw [e2, Int.pow_add, ← Int.mul_assoc] at z
    exact Int.eq_of_mul_eq_mul_right (by omega) z
  by_cases hs : s1 = s2
  · subst hs
    simp at e
    exact ⟨e, rfl⟩
  · exfalso
    rcases b.own with z | z
    · omega
    · refine z ?_
      rw [← e]
      have e3 : s2 - s1 = (s2 - s1 - 1) + 1 := by omega
      rw [e3, Int.pow_succ, ← Int.mul_assoc]
      exact Int.mul_emod_left _ _
theorem low_eq {u : Int} {s : Nat} {u1 u2 : Int} {s1 s2 : Nat} (a : IsLow u s u1 s1) (b : IsLow u s u2 s2) : u1 = u2 ∧ s1 = s2 := by
  rcases Nat.le_total s1 s2 with h | h
  · exact low_uniq a b h
  · obtain ⟨x, y⟩ := low_uniq b a h
    exact ⟨x.symm, y.symm⟩
theorem low_up {v u : Int} {k s m : Nat} (h : IsLow v k u s) (l : k ≤ m) : IsLow (v * (10 : Int) ^ (m - k)) m u s := by
  have le := h.le
  refine ⟨by omega, ?_, h.own⟩
  rw [h.eq, Int.mul_assoc, ← Int.pow_add]
  congr 2
  omega
theorem low_at {v u : Int} {k s m : Nat} (h : IsLow v k u s) (l : k ≤ m) {y : Int} (e : v * (10 : Int) ^ (m - k) = y) : IsLow y m u s := by
  rw [← e]
  exact low_up h l
/-- equal just if told the same -/
theorem low_same {v1 v2 u1 u2 : Int} {m s1 s2 : Nat} (a : IsLow v1 m u1 s1) (b : IsLow v2 m u2 s2) : (decide (u1 = u2) && decide (s1 = s2)) = decide (v1 = v2) := by
  by_cases h : v1 = v2
  · subst h
    obtain ⟨e1, e2⟩ := low_eq a b
    rw [decide_eq_true e1, decide_eq_true e2, decide_eq_true rfl]
    rfl
  · rw [decide_eq_false h, ← Bool.decide_and]
    refine decide_eq_false fun z => h ?_
    rw [a.eq, b.eq, z.1, z.2]
theorem low_zero_iff {v u : Int} {m s : Nat} (h : IsLow v m u s) : (u = 0 ↔ v = 0) := by
  have p := ten_pos (m - s)
  rw [h.eq]
  constructor
  · intro z
    rw [z, Int.zero_mul]
  · intro z
    rcases Int.mul_eq_zero.mp z with y | y
    · exact y
    · omega
theorem low_nat {v u : Int} {m s : Nat} (h : IsLow v m u s) : u.natAbs ≤ v.natAbs := by
  have p := ten_pos (m - s)
  rw [h.eq, Int.natAbs_mul]
  exact Nat.le_mul_of_pos_right _ (by omega)
theorem low_sgn {v u : Int} {m s : Nat} (h : IsLow v m u s) : sgn u = sgn v := by
  rw [h.eq]
  exact sgn_mul.symm
/-- rounded to n: what so many parts come to -/
theorem rnd_low {x u : Int} {m n s : Nat} (h : IsLow x m u s) (l : n ≤ m) (t : Str) : rnd u s n t = near x ((10 : Int) ^ (m - n)) t := by
  have le := h.le
  unfold rnd
  by_cases c : s ≤ n
  · rw [if_pos c, h.eq, show m - s = (n - s) + (m - n) by omega, Int.pow_add, ← Int.mul_assoc, near_mul (ten_pos _)]
  · rw [if_neg c]
    refine near_ratio (ten_pos _) (ten_pos _) ?_ t
    rw [h.eq, Int.mul_assoc, ← Int.pow_add]
    congr 2
    omega
/-- rounded to n, of what is u parts of 10 to the c -/
theorem rnd_at {u z : Int} {c n s : Nat} (h : IsLow u c z s) (t : Str) : rnd z s n t = near u ((10 : Int) ^ (c - n)) t * (10 : Int) ^ (n - c) := by
  rcases Nat.le_total n c with l | l
  · rw [rnd_low h l, show n - c = 0 by omega, Int.pow_zero, Int.mul_one]
  · have le := h.le
    rw [show c - n = 0 by omega, Int.pow_zero]
    have e1 : near u 1 t = u := by
      have := near_mul (k := u) (d := 1) (by decide) t
      rw [Int.mul_one] at this
      exact this
    unfold rnd
    rw [e1, if_pos (by omega), h.eq, Int.mul_assoc, ← Int.pow_add, show c - s + (n - c) = n - s by omega]
/-- held by its limits -/
theorem held_low {u z : Int} {wh c s : Nat} {m : Str} (h : IsLow u c z s) (hm : m ∈ marksL) : hldB z s wh c m = decide (lowOf wh c m ≤ u ∧ u ≤ topOf wh c) := by
  have le := h.le
  have p := ten_pos (c - s)
  have q := ten_pos (wh + s)
  have e1 : (10 : Int) ^ (wh + c) = (10 : Int) ^ (wh + s) * (10 : Int) ^ (c - s) := by
    rw [← Int.pow_add]
    congr 1
    omega
  have eu := h.eq
  have a1 : z < (10 : Int) ^ (wh + s) ↔ u < (10 : Int) ^ (wh + c) := by
    rw [e1, eu]
    exact ⟨fun y => Int.mul_lt_mul_of_pos_right y p, fun y => Int.lt_of_mul_lt_mul_right y (Int.le_of_lt p)⟩
  have a2 : -z < (10 : Int) ^ (wh + s) ↔ -u < (10 : Int) ^ (wh + c) := by
    rw [e1, eu, ← Int.neg_mul]
    exact ⟨fun y => Int.mul_lt_mul_of_pos_right y p, fun y => Int.lt_of_mul_lt_mul_right y (Int.le_of_lt p)⟩
  have a3 : z > 0 ↔ u > 0 := by
    rw [eu]
    refine ⟨fun y => Int.mul_pos y p, fun y => ?_⟩
    rcases Int.lt_or_le 0 z with w | w
    · exact w
    · have := Int.mul_nonneg (show 0 ≤ -z by omega) (Int.le_of_lt p)
      rw [Int.neg_mul] at this
      omega
  have a4 : z ≥ 0 ↔ u ≥ 0 := by
    rw [eu]
    refine ⟨fun y => Int.mul_nonneg y (Int.le_of_lt p), fun y => ?_⟩
    rcases Int.lt_or_le z 0 with w | w
    · have := Int.mul_pos (show 0 < -z by omega) p
      rw [Int.neg_mul] at this
      omega
    · exact w
  unfold hldB fitB absZ lowOf topOf
  rw [decide_eq_true le, Bool.true_and]
  generalize (10 : Int) ^ (wh + s) = T1 at a1 a2 q ⊢
  generalize (10 : Int) ^ (wh + c) = T2 at a1 a2 ⊢
  simp only [marksL, List.mem_cons, List.not_mem_nil, or_false] at hm
  have n1 : ¬ (("signed" : Str) = "positive") := by decide +kernel
  have n2 : ¬ (("unsigned" : Str) = "positive") := by decide +kernel
  have n3 : ¬ (("unsigned" : Str) = "signed") := by decide +kernel
  have n4 : ¬ (("positive" : Str) = "signed") := by decide +kernel
  have n5 : ¬ (("positive" : Str) = "unsigned") := by decide +kernel
  rcases hm with rfl | rfl | rfl
  · rw [if_neg n1, if_pos rfl, if_pos rfl, Bool.and_true]
    refine decide_eq_decide.mpr ?_
    split <;> omega
  · rw [if_neg n2, if_neg n3, if_neg n3, if_pos rfl, ← Bool.decide_and]
    refine decide_eq_decide.mpr ?_
    split <;> omega
  · rw [if_pos rfl, if_neg n4, if_neg n5, ← Bool.decide_and]
    refine decide_eq_decide.mpr ?_
    split <;> omega
end
section
variable {P : Program} {w : World} {K : PySem.W.Frag} {mg : Str → Option Value} {base : Heap} {C CB CN W S Co : Addr}
theorem scCr : FnScope ["column", "scale", "way", "many"] ["column", "scale", "way", "many"] (defScope pCr) := ⟨rfl, rfl, rfl, by decide +kernel, rfl, by decide +kernel, by decide +kernel⟩
/-- what is asked of a crowd: refused in order, or all right -/
def spCr (C CB Co S : Addr) (X : Nat → Nat → Str → Nat → Str → Int → Hp → (Hp → Prop)) : Sp := fun vs H Q E => True
def CrowdIs (C CB Co S : Addr) (vs : List V) (H : Hp) (E : XK) (ok : Addr → Nat → Nat → Str → Nat → Str → Int → Prop) : Prop := ∃ x y z v : V, vs = [x, y, z, v] ∧ Thing H y ∧ Thing H z ∧ Thing H v ∧
  ((Thing H x ∧ Bad CB "column" x H E) ∨ ∃ (a : Addr) (wh c : Nat) (m : Str), x = .ref a ∧ CAt Co S H a wh c m ∧ m ∈ marksL ∧ (isWh y = false → Bad C "value" y H E) ∧ (isWh y = true → isWay z = false → Bad C "value" z H E) ∧ (isWh y = true → isWay z = true → isOne v = false → Bad C "value" v H E) ∧
    ∀ (n : Nat) (t : Str) (k : Int), y = .int n → z = .str t → v = .int k → t ∈ waysL → 1 ≤ k → ok a wh c m n t k)
def spCrowd (C CB Co S : Addr) : Sp := fun vs H Q E => CrowdIs C CB Co S vs H E fun _ _ _ _ _ _ _ => ∀ H', Same H H' → Q .non H'
theorem ok_crowd (A : At K mg "_need_crowd" pCr ["column", "scale", "way", "many"]) (B : Blt mg) (TC : ColC K mg Co) (I : WIs K Co) (TB : ErrC P w K mg base "BadColumn" "column" 1 CB (spErr CB "column")) (TE : ErrC P w K mg base "BadValue" "value" 1 C (spErr C "value")) (D2 : DefOk P w K mg base CX0 "is_integer_from_1" 2 ["value"] spOne)
    (DN : DefOk P w K mg base (L2.CX P w) "need_whole_number" 3 ["value"] (spNWh C)) (DY : DefOk P w K mg base (L2.CX P w) "need_way" 3 ["value"] (spNWay C)) : DefOk P w K mg base (L2.CX P w) "_need_crowd" 4 ["column", "scale", "way", "many"] (spCrowd C CB Co S) := by
  refine A.ok fun f fd F => F.okX scCr (fun vs H Q E h => ?_) (fun cdv A outer s0 H vs Q E hr h => ?_)
  · obtain ⟨x, y, z, v, rfl, _⟩ := h
    rfl
  · obtain ⟨x, y, z, v, rfl, ty, tz, tv, h⟩ := h
    refine ⟨_, pss_cons (ps_if (pt_not (pt_val (pe_callB call_isi (by rfl) B.isi (by decide +kernel) (pa_cons (pv 0) (pa_cons (pe_glob (v := .ref Co) (by rfl) TC.g rfl) pa_nil))))) (pss_one (ps_raise rfl (takes_of rfl rfl rfl rfl) (pmk_err TB hr (by decide) (by rfl) (pv 0)))) pss_nil)
      (pss_cons (ps_expr (pe_def (E := E) DN hr (by decide) (by rfl) (passes_call (takes_of rfl rfl rfl rfl) fun _ _ _ _ z => z) (pa_cons (pv 1) pa_nil)))
      (pss_cons (ps_expr (pe_def (E := E) DY hr (by decide) (by rfl) (passes_call (takes_of rfl rfl rfl rfl) fun _ _ _ _ z => z) (pa_cons (pv 2) pa_nil)))
      (pss_one (ps_if (pt_not (pt_val (pe_def D2 hr (by decide) (by rfl) pass0 (pa_cons (pv 3) pa_nil)))) (pss_one (ps_raise rfl (takes_of rfl rfl rfl rfl) (pmk_err TE hr (by decide) (by rfl) (pv 3)))) pss_nil)))), ?_⟩
    rcases h with ⟨tx, bad⟩ | ⟨a, wh, c, m, rfl, hc, hm, q1, q2, q3, q4⟩
    · obtain ⟨ty', hty, tx'⟩ := tx.tyx (K := K)
      exact ⟨_, rfl, _, _, _, _, false, rfl, .own Co, tx', I.no ty' hty, _, rfl, iteT ⟨_, rfl, bad_mk bad⟩⟩
    · obtain ⟨dx, sh, ea, hs⟩ := id hc
      refine ⟨_, rfl, _, _, _, _, true, rfl, .own Co, .base (.ins ea TC.cls I.ha I.hn I.ht I.hm), by unfold PySem.W.kitOne; rw [if_pos (by simp)], _, rfl, iteF ?_⟩
      refine ⟨_, rfl, y, rfl, ty, fun hy => ?_, q1⟩
      refine ⟨_, rfl, z, rfl, tz, fun hz => ?_, q2 hy⟩
      refine ⟨_, rfl, v, rfl, tv, _, rfl, ?_⟩
      cases hv : isOne v with
      | true =>
        obtain ⟨n, rfl⟩ := isWh_nat hy
        obtain ⟨t, ht, rfl⟩ := isWay_str hz
        obtain ⟨k, hk, rfl⟩ : ∃ k : Int, 1 ≤ k ∧ v = .int k := by
          cases v <;> first | (rename_i k; exact ⟨k, of_decide_eq_true hv, rfl⟩) | (cases hv)
        exact iteF (q4 n t k rfl rfl rfl ht hk H (fun _ _ e => e))
      | false => exact iteT ⟨_, rfl, bad_mk (q3 hy hz hv)⟩
theorem scTw : FnScope ["places", "scale", "units", "one", "half", "number", "sign"] ["places", "scale"] (defScope pTw) := ⟨rfl, rfl, rfl, by decide +kernel, rfl, by decide +kernel, by decide +kernel⟩
def tellU (c n : Nat) : List Int := if c ≤ n then [0, 1] else [0, 1, (10 : Int) ^ (c - n) / 2 - 1, (10 : Int) ^ (c - n) / 2, (10 : Int) ^ (c - n) / 2 + 1, (10 : Int) ^ (c - n) - 1, (10 : Int) ^ (c - n), 3 * ((10 : Int) ^ (c - n) / 2)]
def tellW (c n : Nat) : List Int := (tellU c n).flatMap fun z => [z * 1, z * -1]
theorem ten_even {k : Nat} (h : 0 < k) : (10 : Int) ^ k = 2 * ((10 : Int) ^ k / 2) := by
  obtain ⟨j, rfl⟩ : ∃ j, k = j + 1 := ⟨k - 1, by omega⟩
  rw [Int.pow_succ]
  omega
theorem tellW_eq {c n : Nat} (h : n < c) : ∀ u, u ∈ tellL ((10 : Int) ^ (c - n) / 2) → u ∈ tellW c n := fun u hu => by
  have e := ten_even (k := c - n) (by omega)
  unfold tellW tellU
  rw [if_neg (by omega)]
  generalize (10 : Int) ^ (c - n) / 2 = f at e hu ⊢
  rw [e]
  simp only [tellL, List.mem_cons, List.not_mem_nil, or_false] at hu
  simp only [List.flatMap_cons, List.flatMap_nil, List.mem_append, List.mem_cons, List.not_mem_nil, or_false]
  omega
/-- a Worth of u parts of 10 to the c -/
def WIn (W : Addr) (c : Nat) (H : Hp) (r : V) (u : Int) : Prop := ∃ (p : Addr) (z : Int) (s : Nat), r = .ref p ∧ WAt W H p z s ∧ IsLow u c z s
theorem WIn.same {c : Nat} {H H' : Hp} {r : V} {u : Int} (h : WIn W c H r u) (x : Same H H') : WIn W c H' r u := by
  obtain ⟨p, z, s, e, a, l⟩ := h
  exact ⟨p, z, s, e, a.same x, l⟩
theorem WIn.put {c : Nat} {H : Hp} {r : V} {u : Int} {D : Addr} {l : List V} {o : HO} (h : WIn W c H r u) (hD : H D = some (.lst l)) : WIn W c (upd H D o) r u := by
  obtain ⟨p, z, s, e, ⟨dx, a⟩, b⟩ := h
  exact ⟨p, z, s, e, ⟨dx, (upd_ne (ne_of a hD (by intro z; cases z))).trans a⟩, b⟩
def spTw (W : Addr) : Sp := fun vs H Q _ => ∃ c n : Nat, vs = [.int c, .int n] ∧ c ≤ 4 ∧ ∀ (l : Addr) (xs : List V) (H' : Hp), Same H H' → H' l = some (.lst xs) → Ents (WIn W c H') xs (tellW c n) → Q (.ref l) H'
theorem ok_tw (A : At K mg "_telling_worths" pTw ["places", "scale"]) (T : WorthC K mg W) (M : WMk P w K mg base C W) (DT : DefOk P w K mg base CX0 "ten_to" 9 ["places"] (spTenTo 8)) : DefOk P w K mg base CX0 "_telling_worths" 13 ["places", "scale"] (spTw W) := by
  refine A.ok fun f fd F => F.ok scTw (fun vs H Q E h => ?_) (fun cdv A outer s0 H vs Q E hr h => ?_)
  · obtain ⟨c, n, rfl, _⟩ := h
    rfl
  · obtain ⟨c, n, rfl, hc, q⟩ := h
    have nd := scTw.nd
    refine ⟨_, C8.pss_cut (ps_if (pt_cmpR op_le (pv 0) (pv 1) (nomark _)) (pss_one (ps_set (i := 2) nd rfl (.inl rfl) (pe_lst (pa_cons pe_int (pa_cons pe_int pa_nil))))) (pss_cons (ps_set (i := 3) nd rfl (.inl rfl) (pe_def DT hr (by decide) (by rfl) pass0 (pa_cons (pe_op op_sub (pv 0) (pv 1)) pa_nil))) (pss_cons (ps_set (i := 4) nd rfl (.inl rfl) (pe_op op_fdiv (pv 3) pe_int)) (pss_one (ps_set (i := 2) nd rfl (.inl rfl) (pe_lst (pa_cons pe_int (pa_cons pe_int (pa_cons (pe_op op_sub (pv 4) pe_int) (pa_cons (pv 4) (pa_cons (pe_op op_add (pv 4) pe_int) (pa_cons (pe_op op_sub (pv 3) pe_int) (pa_cons (pv 3) (pa_cons (pe_op op_mul pe_int (pv 4)) pa_nil))))))))))))))
      (pss_one (ps_ret (pe_lc2 (own := [("number", 5), ("sign", 6)]) (vs1 := [6]) (wi1 := iTup K (tTup (tCons (tC (.int 1)) (tCons (tUn (rU fun i => .int (-i)) (tC (.int 1))) tNil)))) (te := tCall (spWorth C W) [] E0 (tCons (tOp (rI CMul fun i j => .int (i * j)) (tVar 5) (tVar 6)) (tCons (tVar 0) tNil))) rfl nd (pi_list (pv 2)) blkTw (by decide) (fun _ _ _ _ _ => (pg_name (i := 5) nd rfl (.inl rfl))) (fun _ _ _ _ _ => pts_nil) (fun _ _ _ _ _ => pi_tup (pe_tup (pa_cons pe_int (pa_cons (pe_un un_neg pe_int) pa_nil)))) (fun _ _ _ _ _ => (pg_name (i := 6) nd rfl (.inl rfl))) (fun _ _ _ _ _ => pts_nil) (fun _ _ _ _ _ => (pe_worth (C := C) (E := E0) M T hr (by decide) (by rfl) passL (pa_cons (pe_op op_mul (pv 5) (pv 6)) (pa_cons (pv 0) pa_nil))))))), ?_⟩
    refine ⟨fun σ H' => (∃ (l : Addr) (y3 y4 : Option V), σ = [some (.int (c : Nat)), some (.int (n : Nat)), some (.ref l), y3, y4, none, none] ∧ H' l = some (.lst ((tellU c n).map V.int))) ∧ Same H H', ?_, ?_⟩
    · refine ⟨_, rfl, _, rfl, _, _, rfl, rfl, _, rfl, ite2 (fun e => ?_) (fun e => ?_)⟩
      · have z : (c : Int) ≤ (n : Int) := of_decide_eq_true e
        refine ⟨by show 2 ≤ sizeLine; decide, fun l nl => ⟨⟨l, _, _, rfl, ?_⟩, same_new nl⟩⟩
        unfold tellU
        rw [if_pos (by omega)]
        exact upd_same
      · have z : ¬ (c : Int) ≤ (n : Int) := fun y => e (decide_eq_true y)
        refine ⟨_, rfl, _, rfl, _, _, rfl, rfl, c - n, by show [V.int ((c : Int) - (n : Int))] = _; rw [show (c : Int) - (n : Int) = ((c - n : Nat) : Int) by omega], by omega, ?_⟩
        dsimp only [gName, List.set]
        have e4 : (10 : Int) ^ (c - n) ≤ 10000 := by
          have := ten_mono (show c - n ≤ 4 by omega)
          have e9 : (10 : Int) ^ 4 = 10000 := by decide
          omega
        have e0 := ten_pos (c - n)
        refine ⟨_, rfl, _, _, rfl, rfl, ⟨by decide, by decide⟩, ?_⟩
        dsimp only [gName, List.set]
        refine ⟨_, rfl, _, _, rfl, rfl, _, rfl, _, rfl, _, _, rfl, rfl, _, rfl, _, _, rfl, rfl, _, rfl, _, rfl, _, _, rfl, rfl, .inl ⟨by omega, by omega⟩, by show 8 ≤ sizeLine; decide, fun l nl => ⟨⟨l, _, _, rfl, ?_⟩, same_new nl⟩⟩
        unfold tellU
        rw [if_neg (by omega)]
        exact upd_same
    rintro σ H1 ⟨⟨l, y3, y4, rfl, hl⟩, s1⟩
    have bU : ∀ z ∈ tellU c n, z.natAbs ≤ 20000 := fun z hz => by
      have e0 := ten_pos (c - n)
      have e4 : (10 : Int) ^ (c - n) ≤ 10000 := by
        have := ten_mono (show c - n ≤ 4 by omega)
        have e9 : (10 : Int) ^ 4 = 10000 := by decide
        omega
      unfold tellU at hz
      split at hz
      · simp only [List.mem_cons, List.not_mem_nil, or_false] at hz
        omega
      · simp only [List.mem_cons, List.not_mem_nil, or_false] at hz
        omega
    have uE : tellW c n = (tellU c n).flatMap fun z => [z * 1, z * -1] := rfl
    have lU : (tellU c n).length ≤ 8 := by
      unfold tellU
      split <;> simp
    generalize tellU c n = us at hl bU uE lU
    refine ⟨_, rfl, l, rfl, ⟨_, SqL.of hl⟩, fun D nD => lc2_list (K := K) (xs := us.map V.int) (fun i H' => Same H1 H' ∧ H1 D = none ∧ ∃ acc, H' D = some (.lst acc) ∧ Ents (WIn W c H') acc ((us.take i).flatMap fun z => [z * 1, z * -1])) ⟨same_new nD, nD, [], upd_same, by rw [List.take_zero]; exact .nil⟩ (fun i H' _ z => SqL.of (z.1 _ _ hl)) ?_ ?_⟩
    · rintro i x H2 hx ⟨s2, nD, acc, hD, hA⟩
      rw [List.getElem?_map] at hx
      obtain ⟨z, hz, rfl⟩ := Option.map_eq_some_iff.mp hx
      have bz := bU z (List.mem_of_getElem? hz)
      have hi : i < us.length := (List.getElem?_eq_some_iff.mp hz).1
      dsimp only [gName, List.set, wipe]
      refine ⟨rfl, ?_⟩
      unfold tYes
      dsimp only
      rw [if_pos rfl]
      refine ⟨1, rfl, by show 2 ≤ sizeLine; decide, fun p np => ⟨p, rfl, ⟨_, SqT.of upd_same⟩, ?_⟩⟩
      have s3 := same_new (o := HO.tup [.int 1, .int (-1)]) np
      have e3 : upd H2 p (HO.tup [.int 1, .int (-1)]) p = some (.tup [.int 1, .int (-1)]) := upd_same
      have hD3 := s3 _ _ hD
      have hA3 := hA.mono fun x' e' r' => r'.same s3
      generalize upd H2 p (HO.tup [.int 1, .int (-1)]) = H3 at s3 e3 hD3 hA3 ⊢
      have s13 := s2.trans s3
      clear hA hD s2 s3 np
      refine in_tup (K := K) (ys := [.int 1, .int (-1)]) (fun j H' => Same H1 H' ∧ H' p = some (.tup [.int 1, .int (-1)]) ∧ ∃ acc, H' D = some (.lst acc) ∧ Ents (WIn W c H') acc (((us.take i).flatMap fun z => [z * 1, z * -1]) ++ [z * 1, z * -1].take j)) ⟨s13, e3, acc, hD3, by rw [List.take_zero, List.append_nil]; exact hA3⟩ (fun j H' _ z => SqT.of z.2.1) ?_ ?_
      · rintro j y H4 hy ⟨s4, e4, acc4, hD4, hA4⟩
        obtain ⟨g, rfl, hg, hn⟩ : ∃ g : Int, y = .int g ∧ g.natAbs ≤ 1 ∧ [z * 1, z * -1].take (j + 1) = [z * 1, z * -1].take j ++ [z * g] := by
          match j, hy with
          | 0, hy => exact ⟨1, (Option.some.inj hy).symm, by decide, rfl⟩
          | 1, hy => exact ⟨-1, (Option.some.inj hy).symm, by decide, rfl⟩
        refine ⟨rfl, ?_⟩
        dsimp only
        rw [if_pos rfl]
        refine ⟨_, rfl, _, rfl, _, _, rfl, rfl, .inl ⟨by omega, by omega⟩, _, rfl, ?_⟩
        dsimp only [tNil]
        try rw [List.append_nil]
        refine worth_of (C := C) (n := c) (by omega) fun u' s' q' H5 l5 s5 nq w5 => ?_
        have hD5 := s5 _ _ hD4
        have ne : p ≠ D := ne_of e4 hD4 (by intro z; cases z)
        refine ⟨acc4, hD5, ?_, ?_, ?_, acc4 ++ [.ref q'], upd_same, ?_⟩
        · have hlen := hA4.len
          have hsz := sizeLine_eq
          have gen : ∀ l : List Int, (l.flatMap fun z => [z * 1, z * -1]).length = 2 * l.length := fun l => by
            induction l with
            | nil => rfl
            | cons a r ih =>
              rw [List.flatMap_cons, List.length_append, ih, show (a :: r).length = r.length + 1 from rfl, show [a * 1, a * -1].length = 2 from rfl]
              omega
          rw [List.length_append, gen, List.length_take, List.length_take] at hlen
          have h2 : [z * 1, z * -1].length = 2 := rfl
          rw [h2] at hlen
          omega
        · intro b o eb
          rw [upd_ne (ne_of_none eb nD)]
          exact s5 _ _ (s4 _ _ eb)
        · rw [upd_ne ne]
          exact s5 _ _ e4
        · rw [hn, ← List.append_assoc]
          exact Ents.snoc (hA4.mono fun x' e' r' => (r'.same s5).put hD5) (WIn.put ⟨q', u', s', rfl, w5, l5⟩ hD5)
      · rintro H4 ⟨s4, e4, acc4, hD4, hA4⟩
        refine ⟨s4, nD, acc4, hD4, ?_⟩
        rw [List.take_succ, hz, List.flatMap_append]
        exact hA4
    · rintro H2 ⟨s2, nD, acc, hD, hA⟩
      rw [show us.take (us.map V.int).length = us by rw [List.length_map]; exact List.take_length, ← uE] at hA
      exact q D acc H2 (s1.trans s2) hD hA
end
end K53

/-! k53: the program: the gaps of many entries. -/
namespace K53
open PySem PySem.Spec PyProof.Rows L2 LamX NdefX Own
def kwE : Expr → Expr
  | .Call _ _ (k :: _) _ => k.value
  | _ => junkE
def lamArgs : Expr → Arguments
  | .Lambda a _ _ _ => a
  | _ => ⟨[], [], none, [], [], none, []⟩
def lamBody : Expr → Expr
  | .Lambda _ b _ _ => b
  | _ => junkE
def lamScope : Expr → Scope
  | .Lambda _ _ s _ => s
  | _ => ⟨.function, [], false, false, []⟩
abbrev lxm1 : Expr := kwE (asgV (inD pRg 4))
abbrev lxm2 : Expr := kwE (asgV (inD pRg 5))
theorem nsm1 : NScope ["told"] ["told"] [] (lamScope lxm1) := nscope_by (by decide +kernel)
theorem nsm2 : NScope ["told"] ["told"] [] (lamScope lxm2) := nscope_by (by decide +kernel)
theorem frm1 : ∀ y ∈ (lamScope lxm1).names, y.2 = .free → (defScope pRg).names.lookup y.1 = some .cell ∨ (defScope pRg).names.lookup y.1 = some .free := by decide +kernel
theorem frm2 : ∀ y ∈ (lamScope lxm2).names, y.2 = .free → (defScope pRg).names.lookup y.1 = some .cell ∨ (defScope pRg).names.lookup y.1 = some .free := by decide +kernel
def qR : Str := (envOfC "rounding_gap" (defScope pRg) 0 0 .none).qual ++ "<lambda>"
abbrev nRg : List Str := ["column", "scale", "way", "many", "worths", "gaps", "worth", "gap", "low", "high"]
theorem blkRg : BlkOk nRg (defScope pRg) (lcSc (asgV (inD pRg 1))) [("worth", 6)] := blkOk_by (by decide +kernel)
/-- worth * int -/
structure WMulI (P : Program) (w : World) (K : PySem.W.Frag) (mg : Str → Option Value) (base : Heap) (C W : Addr) : Prop where
  ex : ∃ (f : Addr) (fd : FuncData) (g : Addr), PySem.W.selfFirst K W = true ∧ PySem.W.findIn K (.ref W) (PySem.dunder Operator.Mult.info.2) = some (some (.ref f)) ∧ PySem.W.isFn K (.ref f) = true ∧ PySem.W.findIn K (.ref W) (dunderR Operator.Mult.info.2) = some (some (.ref g)) ∧ (∀ T ∈ tys, PySem.W.subIn K (.type T) (.ref W) = some false) ∧
    FnOk P w K mg base (L2.CX P w) 14 f fd ["self", "other"] (spMulW C W) ∧ Binds K fd ["self", "other"] []
section
variable {X : Cx}
theorem cr_bestE (up : Bool) {id : String} (hid : id = if up = true then "max" else "min") (hc : X.calm = true) (hr : Room 1 X.A) : CallRK X (.builtin id) [Str.ofString "key"] (fun vs zs H Q => ∃ (F : NF) (b : Expr) (x : Str), rBestKey up F b x vs zs H Q) := by
  intro pins s σ H vs zs us ws Q I r rz h
  obtain ⟨F, b, x, h⟩ := h
  exact cr_bestKey up hid hc hr pins s σ H vs zs us ws Q I r rz h
theorem fst1 {c' : Addr} : FstL (lamF X (lamArgs lxm1) (lamScope lxm1) c') (lamBody lxm1) "told" := ⟨nsm1, ⟨_, _, _, _, rfl⟩, by decide +kernel, rfl, fun doc pm ctv s u => .of_eq rfl⟩
theorem fst2 {c' : Addr} : FstL (lamF X (lamArgs lxm2) (lamScope lxm2) c') (lamBody lxm2) "told" := ⟨nsm2, ⟨_, _, _, _, rfl⟩, by decide +kernel, rfl, fun doc pm ctv s u => .of_eq rfl⟩
end
theorem near_one {u : Int} (t : Str) : near u 1 t = u := by
  have := near_mul (k := u) (d := 1) (by decide) t
  rw [Int.mul_one] at this
  exact this
theorem gap_unit {c n : Nat} {t : Str} {k u : Int} : near (u * k) ((10 : Int) ^ (c - n)) t * (10 : Int) ^ (n - c) - near u ((10 : Int) ^ (c - n)) t * (10 : Int) ^ (n - c) * k = gapN ((10 : Int) ^ (c - n)) t k u := by
  unfold gapN
  rcases Nat.le_total n c with l | l
  · rw [show n - c = 0 by omega, Int.pow_zero, Int.mul_one, Int.mul_one]
  · rw [show c - n = 0 by omega, Int.pow_zero, near_one, near_one, Int.mul_right_comm u]
    omega
def heldL (wh c n : Nat) (m : Str) : List Int := (tellW c n).filter fun u => decide (lowOf wh c m ≤ u ∧ u ≤ topOf wh c)
/-- a gap and the worth that shows it -/
def GapRow (W : Addr) (c : Nat) (U : Int) (t : Str) (k : Int) (H : Hp) (r : V) (u : Int) : Prop := ∃ (g p : Addr) (z : Int) (s : Nat), r = .ref g ∧ H g = some (.tup [.int (gapN U t k u), .ref p]) ∧ WAt W H p z s ∧ IsLow u c z s
section
variable {P : Program} {w : World} {K : PySem.W.Frag} {mg : Str → Option Value} {base : Heap} {C CB CN W S Co : Addr} {H H' : Hp}
theorem WAt.extN {a : Addr} {u : Int} {s : Nat} (h : WAt W H a u s) (x : ExtN H H') : WAt W H' a u s := by
  obtain ⟨dx, e⟩ := h
  exact ⟨dx, x _ _ e (fun ps z => by cases z)⟩
theorem GapRow.extN {c : Nat} {U k u : Int} {t : Str} {r : V} (h : GapRow W c U t k H r u) (x : ExtN H H') : GapRow W c U t k H' r u := by
  obtain ⟨g, p, z, s, e, a, b, l⟩ := h
  exact ⟨g, p, z, s, e, x _ _ a (fun ps z => by cases z), WAt.extN b x, l⟩
theorem GapRow.put {c : Nat} {U k u : Int} {t : Str} {r : V} {D : Addr} {l : List V} {o : HO} (h : GapRow W c U t k H r u) (hD : H D = some (.lst l)) : GapRow W c U t k (upd H D o) r u := by
  obtain ⟨g, p, z, s, e, a, ⟨dx, b⟩, lw⟩ := h
  exact ⟨g, p, z, s, e, (upd_ne (ne_of a hD (by intro z; cases z))).trans a, ⟨dx, (upd_ne (ne_of b hD (by intro z; cases z))).trans b⟩, lw⟩
theorem scRg : FnScope ["column", "scale", "way", "many", "worths", "gaps", "worth", "gap", "low", "high"] ["column", "scale", "way", "many"] (defScope pRg) := ⟨rfl, rfl, rfl, by decide +kernel, rfl, by decide +kernel, by decide +kernel⟩
/-- what rounding_gap tells -/
def RgTells (W : Addr) (wh c n : Nat) (m t : Str) (k : Int) (H : Hp) (r : Addr) : Prop := ∃ (ra rb pa qa pb qb : Addr) (ul uh ga gb za zb : Int) (s1 s2 s3 s4 : Nat), H r = some (.tup [.ref ra, .ref rb]) ∧ H ra = some (.tup [.ref pa, .ref qa]) ∧ H rb = some (.tup [.ref pb, .ref qb]) ∧
  WAt W H pa ga s1 ∧ IsLow (gapN ((10 : Int) ^ (c - n)) t k ul) n ga s1 ∧ WAt W H qa za s2 ∧ IsLow ul c za s2 ∧ WAt W H pb gb s3 ∧ IsLow (gapN ((10 : Int) ^ (c - n)) t k uh) n gb s3 ∧ WAt W H qb zb s4 ∧ IsLow uh c zb s4 ∧
  ul ∈ heldL wh c n m ∧ uh ∈ heldL wh c n m ∧ ∀ u ∈ heldL wh c n m, gapN ((10 : Int) ^ (c - n)) t k ul ≤ gapN ((10 : Int) ^ (c - n)) t k u ∧ gapN ((10 : Int) ^ (c - n)) t k u ≤ gapN ((10 : Int) ^ (c - n)) t k uh
def spRg (C CB W Co S Pr Pe : Addr) (qE : Str) : Sp := fun vs H Q E => CrowdIs C CB Co S vs H E fun _ wh c m n t k => KdOk wh c m ∧ n ≤ 10 ∧ k < 2 ^ 200 ∧ Tabs [(Pr, qR), (Pe, qE)] H ∧ ∀ (r : Addr) (H' : Hp), ExtN H H' → Tabs [(Pr, qR), (Pe, qE)] H' → RgTells W wh c n m t k H' r → Q (.ref r) H'
theorem ok_rg {c0 Pr Pe : Addr} {qE : Str} (A : AtC K mg "rounding_gap" pRg ["column", "scale", "way", "many"] c0) (TB : TabB base mg c0 Pr) (nP : Pr ≠ Pe) (B : Blt mg) (T : WorthC K mg W) (TC : ColC K mg Co) (TS : ShapeC K mg S) (M : WMk P w K mg base C W) (OS : WOp P w K mg base W .Sub 14 (spBin C W (· - ·))) (OX : WMulI P w K mg base C W)
    (DU : WMeth P w K mg base W "units_at" 10 ["self", "scale"] (spUat W)) (MH : SMeth P w K mg base Co "holds" 12 ["self", "worth"] (spHld C W Co S)) (DC : DefOk P w K mg base (L2.CX P w) "_need_crowd" 4 ["column", "scale", "way", "many"] (spCrowd C CB Co S)) (DR : DefOk P w K mg base (L2.CX P w) "rounded" 13 ["worth", "scale", "way"] (spRnd C W)) (DT : DefOk P w K mg base CX0 "_telling_worths" 13 ["places", "scale"] (spTw W)) :
    DefOk P w K mg base (L2.CX P w) "rounding_gap" 16 ["column", "scale", "way", "many"] (spRg C CB W Co S Pr Pe qE) := by
  obtain ⟨g, oc, od0, kV, doc, pm, an, ct, osl, lk, hcd, gm, kp, bd⟩ := A.ex
  refine ⟨g, _, fn_of lk hcd scRg (fun vs H Q E h => ?_) (fun A outer s H vs Q E hr h => ?_), gm, kp, bd⟩
  · obtain ⟨x, y, z, v, rfl, _⟩ := h
    rfl
  · obtain ⟨x, y, z, v, rfl, ty, tz, tv, h⟩ := h
    have nd := scRg.nd
    obtain ⟨fA, fdA, A1, A2, A3, FA, bA⟩ := OS.ex
    obtain ⟨fX, fdX, gX, X1, X2, X3, X4, X5, FX, bX⟩ := OX.ex
    obtain ⟨fH, fdH, mH, FH, bH⟩ := MH.ex
    obtain ⟨fU, fdU, mU, FU, bU⟩ := DU.ex
    have hm : (Pr, qR) ∈ [(Pr, qR), (Pe, qE)] := List.mem_cons_self ..
    have hu : ∀ p ∈ [(Pr, qR), (Pe, qE)], p.1 = Pr → p.2 = qR := fun p hp e => by
      simp only [List.mem_cons, List.not_mem_nil, or_false] at hp
      rcases hp with rfl | rfl
      · rfl
      · exact absurd e.symm nP
    refine ⟨_, pss_cons (ps_expr (pe_def (E := E) DC hr (by decide) (by rfl) (passes_call (takes_of rfl rfl rfl rfl) fun _ _ _ _ z => z) (pa_cons (pv 0) (pa_cons (pv 1) (pa_cons (pv 2) (pa_cons (pv 3) pa_nil))))))
      (pss_cons (ps_setLc (i := 4) (own := [("worth", 6)]) (te := tVar 6) rfl nd rfl rfl rfl (pi_list (pe_def DT hr (by decide) (by rfl) pass0 (pa_cons (pe_fld (pe_fld (pv 0) (by rfl)) (by rfl)) (pa_cons (pv 1) pa_nil)))) blkRg (fun _ _ _ _ _ => (pg_name (i := 6) nd rfl (.inl rfl))) (fun _ _ _ _ _ => (pts_one (pt_val (pe_meth (E := E0) (pv 0) TC.cls mH FH (hr.mono (by decide)) bH .nil passL (pa_cons (pv 6) pa_nil))))) (fun _ _ _ _ _ => (pv 6)))
      (pss_cons (ps_set (i := 5) nd rfl (.inl rfl) (pe_lst pa_nil))
      (pss_cons (ps_for (passes_of rfl) rfl (pi_list (pv 4)) (pg_name (i := 6) nd rfl (.inl rfl)) (pss_cons (ps_set (i := 7) nd rfl (.inl rfl) (pe_op (op_own (op := .Sub) (E := E) FA (hr.mono (by decide)) A1 A2 A3 bA (passes_call (takes_of rfl rfl rfl rfl) fun _ _ _ _ z => z)) (pe_def (E := E) DR hr (by decide) (by rfl) (passes_call (takes_of rfl rfl rfl rfl) fun _ _ _ _ z => z) (pa_cons (pe_op (op_ownL opb_mul (E := E) FX (hr.mono (by decide)) X1 X2 X3 X4 X5 bX (passes_call (takes_of rfl rfl rfl rfl) fun _ _ _ _ z => z)) (pv 6) (pv 3)) (pa_cons (pv 1) (pa_cons (pv 2) pa_nil)))) (pe_op (op_ownL opb_mul (E := E) FX (hr.mono (by decide)) X1 X2 X3 X4 X5 bX (passes_call (takes_of rfl rfl rfl rfl) fun _ _ _ _ z => z)) (pe_def (E := E) DR hr (by decide) (by rfl) (passes_call (takes_of rfl rfl rfl rfl) fun _ _ _ _ z => z) (pa_cons (pv 6) (pa_cons (pv 1) (pa_cons (pv 2) pa_nil)))) (pv 3)))) (pss_one (ps_expr (pe_bm PySem.F.plainAttrs_list PySem.F.slot_list_append PySem.F.type_list_append mt_append (pv 5) (pa_cons (pe_tup (pa_cons (pe_meth (E := E) (pv 7) T.cls mU FU (hr.mono (by decide)) bU .nil (passes_call (takes_of rfl rfl rfl rfl) fun _ _ _ _ z => z) (pa_cons (pv 1) pa_nil)) (pa_cons (pv 6) pa_nil))) pa_nil))))))
      (pss_cons (ps_set (i := 8) nd rfl (.inl rfl) (pe_callBK (cr_bestE false rfl rfl (hr.mono (by decide))) (by rfl) B.min (by decide +kernel) (pa_cons (pv 5) pa_nil) (pk_cons (pe_lamV TB rfl hm hu rfl rfl frm1) pk_nil)))
      (pss_cons (ps_set (i := 9) nd rfl (.inl rfl) (pe_callBK (cr_bestE true rfl rfl (hr.mono (by decide))) (by rfl) B.max (by decide +kernel) (pa_cons (pv 5) pa_nil) (pk_cons (pe_lamV TB rfl hm hu rfl rfl frm2) pk_nil)))
      (pss_one (ps_ret (pe_tup (pa_cons (pe_tup (pa_cons (pe_worth (C := C) (E := E) M T hr (by decide) (by rfl) (passes_call (takes_of rfl rfl rfl rfl) fun _ _ _ _ z => z) (pa_cons (pe_ix ix_tup (pv 8) pe_int (fun _ _ => rfl)) (pa_cons (pv 1) pa_nil))) (pa_cons (pe_ix ix_tup (pv 8) pe_int (fun _ _ => rfl)) pa_nil))) (pa_cons (pe_tup (pa_cons (pe_worth (C := C) (E := E) M T hr (by decide) (by rfl) (passes_call (takes_of rfl rfl rfl rfl) fun _ _ _ _ z => z) (pa_cons (pe_ix ix_tup (pv 9) pe_int (fun _ _ => rfl)) (pa_cons (pv 1) pa_nil))) (pa_cons (pe_ix ix_tup (pv 9) pe_int (fun _ _ => rfl)) pa_nil))) pa_nil)))))))))), ?_⟩
    refine ⟨_, rfl, _, rfl, _, rfl, _, rfl, x, y, z, v, rfl, ty, tz, tv, ?_⟩
    rcases h with h | ⟨a, wh, c, m, rfl, hc, hmk, q1, q2, q3, q4⟩
    · exact .inl h
    refine .inr ⟨a, wh, c, m, rfl, hc, hmk, q1, q2, q3, fun n t k ey ez ev ht hk H1 s1 => ?_⟩
    subst ey ez ev
    obtain ⟨ok, hn, hk2, hT, q⟩ := q4 n t k rfl rfl rfl ht hk
    clear q1 q2 q3 q4 ty tz tv
    have c4 := ok.2.1
    have w30 := ok.1
    obtain ⟨dx, sh, ea, ds, es⟩ := hc.same s1
    refine ⟨_, rfl, a, Co, dx, _, .ref sh, rfl, ea, TC.cls, TC.ns, cLk_s _ _, sh, S, ds, _, .int c, rfl, es, TS.cls, TS.ns, lkS _ _, _, rfl, c, n, rfl, c4, fun l xs H2 s2 hl hE => ?_⟩
    have hc2 : CAt Co S H2 a wh c m := (hc.same s1).same s2
    obtain ⟨dx, sh, ea, ds, es⟩ := id hc2
    have tlen : (tellW c n).length ≤ 16 := by
      unfold tellW tellU
      split <;> simp
    have hlen := hE.len
    refine ⟨l, rfl, ⟨_, SqL.of hl⟩, fun D nD => lc_list (K := K) (xs := xs) (fun i H' => Same H2 H' ∧ H2 D = none ∧ ∃ acc, H' D = some (.lst acc) ∧ Ents (WIn W c H') acc (((tellW c n).take i).filter fun u => decide (lowOf wh c m ≤ u ∧ u ≤ topOf wh c))) ⟨same_new nD, nD, [], upd_same, by rw [List.take_zero]; exact .nil⟩ (fun i H' _ z => SqL.of (z.1 _ _ hl)) ?_ ?_⟩
    · rintro i r H3 hx ⟨s3, nD, acc, hD, hA⟩
      obtain ⟨u, hu2, hr2⟩ := hE.get hx
      obtain ⟨p, z, sc, rfl, wp, lw⟩ := hr2.same s3
      have hi : i < (tellW c n).length := (List.getElem?_eq_some_iff.mp hu2).1
      have le := lw.le
      dsimp only [gName, List.set, wipe]
      refine ⟨rfl, ?_⟩
      refine ⟨_, rfl, a, dx, _, rfl, s3 _ _ ea, cLk_no _ _ (by decide +kernel) (by decide +kernel), _, rfl, a, wh, c, m, .ref p, rfl, hc2.same s3, .inr ⟨p, z, sc, rfl, wp, by omega, _, rfl, ?_⟩⟩
      rw [held_low lw hmk]
      have tk : (tellW c n).take (i + 1) = (tellW c n).take i ++ [u] := by rw [List.take_succ, hu2]; rfl
      refine ite2 (fun e => ?_) (fun e => ?_)
      · refine ⟨_, rfl, acc, hD, ?_, ?_, nD, acc ++ [.ref p], upd_same, ?_⟩
        · have h1 := hA.len
          have h2 := List.length_filter_le (fun u => decide (lowOf wh c m ≤ u ∧ u ≤ topOf wh c)) ((tellW c n).take i)
          rw [List.length_take] at h2
          have hsz := sizeLine_eq
          omega
        · intro b o eb
          rw [upd_ne (ne_of_none eb nD)]
          exact s3 _ _ eb
        · rw [tk, List.filter_append, List.filter_cons, e, if_pos rfl]
          exact Ents.snoc (hA.mono fun x' e' r' => r'.put hD) (WIn.put ⟨p, z, sc, rfl, wp, lw⟩ hD)
      · refine ⟨s3, nD, acc, hD, ?_⟩
        rw [tk, List.filter_append, List.filter_cons, if_neg e, List.filter_nil, List.append_nil]
        exact hA
    rintro H3 ⟨s3, nD, acc, hD, hA⟩
    rw [show (tellW c n).take xs.length = tellW c n by rw [hlen]; exact List.take_length] at hA
    have T3 := hT.ext ((s1.trans s2).trans s3)
    have x3 := ExtN.same ((s1.trans s2).trans s3)
    have hA : Ents (WIn W c H3) acc (heldL wh c n m) := hA
    have hbd : ∀ u ∈ heldL wh c n m, u.natAbs < 2 ^ 130 := fun u mu => by
      obtain ⟨_, z⟩ := List.mem_filter.mp mu
      have z := of_decide_eq_true z
      have a1 := top_pos ok
      have a2 := low_le ok
      have e9 : ((2 : Int) ^ 130) = ((2 ^ 130 : Nat) : Int) := by decide +kernel
      omega
    have hle16 : (heldL wh c n m).length ≤ 16 := Nat.le_trans (List.length_filter_le _ _) tlen
    have hpos : (1 : Int) ∈ heldL wh c n m := by
      refine List.mem_filter.mpr ⟨?_, decide_eq_true ?_⟩
      · unfold tellW tellU
        split <;> simp
      · have a1 := top_pos ok
        unfold lowOf
        split
        · omega
        · split <;> omega
    generalize hhs : heldL wh c n m = hs at hA hbd hle16 hpos
    clear hE hl hlen tlen ea es hc2 hc s1 s2 s3
    have nD3 : ∀ {b : Addr}, H3 b = none → b ≠ D := fun e z => by rw [z, hD] at e; cases e
    dsimp only [gName, List.set]
    refine ⟨by show 0 ≤ sizeLine; decide, fun lg nlg => ?_⟩
    have s4 := same_new (o := HO.lst []) nlg
    have e4 : upd H3 lg (HO.lst []) lg = some (.lst []) := upd_same
    generalize upd H3 lg (HO.lst []) = H4 at s4 e4 ⊢
    dsimp only [gName, List.set]
    have alen := hA.len
    refine ⟨_, rfl, D, rfl, ⟨_, SqL.of (s4 _ _ hD)⟩, for_list (K := K) (xs := acc) (fun i σ H' => (∃ y6 y7 : Option V, σ = [some (.ref a), some (.int (n : Nat)), some (.str t), some (.int k), some (.ref D), some (.ref lg), y6, y7, none, none]) ∧ Same H3 H' ∧ ∃ gs, H' lg = some (.lst gs) ∧ Ents (GapRow W c ((10 : Int) ^ (c - n)) t k H') gs (hs.take i)) ⟨⟨none, none, rfl⟩, s4, [], e4, by rw [List.take_zero]; exact .nil⟩ (fun i σ H' _ z => SqL.of (z.2.1 _ _ hD)) ?_ ?_⟩
    · rintro i x σ H5 hx ⟨⟨y6, y7, rfl⟩, s5, gs, hg, hG⟩
      obtain ⟨u, hu2, hr2⟩ := hA.get hx
      obtain ⟨p0, z, sc, rfl, wp, lw⟩ := hr2.same s5
      have hi : i < hs.length := (List.getElem?_eq_some_iff.mp hu2).1
      have le := lw.le
      have bu := hbd u (List.mem_of_getElem? hu2)
      have bz := Nat.lt_of_le_of_lt (low_nat lw) bu
      have bk : k.natAbs < 2 ^ 200 := by
        have e9 : ((2 : Int) ^ 200) = ((2 ^ 200 : Nat) : Int) := by decide +kernel
        omega
      have bV : ((10 : Int) ^ (n - c)).natAbs < 2 ^ 40 := by
        have := ten_mono (show n - c ≤ 10 by omega)
        have := ten_pos (n - c)
        have e9 : (10 : Int) ^ 10 < 2 ^ 40 := by decide +kernel
        have e8 : ((2 : Int) ^ 40) = ((2 ^ 40 : Nat) : Int) := by decide +kernel
        omega
      have buk : (u * k).natAbs < 2 ^ (130 + 200) := wide_lt bu bk
      have nb : ∀ (v : Int) (b : Nat), v.natAbs < 2 ^ b → 1 ≤ b → (near v ((10 : Int) ^ (c - n)) t * (10 : Int) ^ (n - c)).natAbs < 2 ^ (b + 1 + 40) := fun v b hv hb => by
        refine wide_lt ?_ bV
        have := near_nat (n := v) (ten_pos (c - n)) t
        rw [Nat.pow_succ]
        omega
      have sm : ∀ {v : Int} {s b : Nat}, s ≤ 20 → v.natAbs < 2 ^ b → b ≤ 40000 → Small v s := fun h1 h2 h3 => ⟨by omega, up_two h2 h3⟩
      have b1 := nb (u * k) _ buk (by decide)
      have b2 := nb u _ bu (by decide)
      have b3 : (near u ((10 : Int) ^ (c - n)) t * (10 : Int) ^ (n - c) * k).natAbs < 2 ^ (130 + 1 + 40 + 200) := wide_lt b2 bk
      dsimp only [gName, List.set]
      obtain ⟨dw, ew⟩ := id wp
      refine ⟨_, rfl, _, rfl, p0, dw, _, rfl, ew, .int _, p0, z, sc, .int k, rfl, wp, sm (by omega) bz (by decide), .inr ⟨.int _, (fun z => (by cases z)), fun k' ek => ?_⟩⟩
      obtain rfl : k = k' := V.int.inj ek
      refine ⟨sm (b := 200) (by omega) bk (by decide), fun u1 v1 p1 H6 l1 s6 _ w1 => ?_⟩
      have l1' : IsLow (z * k * (10 : Int) ^ (c - sc)) c u1 v1 := low_up l1 le
      have ev : z * k * (10 : Int) ^ (c - sc) = u * k := by rw [lw.eq, Int.mul_right_comm]
      rw [ev] at l1'
      refine ⟨_, rfl, _, rfl, .ref p1, .int n, .str t, rfl, .inr ⟨p1, u1, v1, rfl, w1, by have := l1'.le; omega, l1'.own, .inr ⟨n, rfl, by omega, .inr ⟨t, ht, rfl, fun p2 u2 v2 H7 s7 w2 l2 => ?_⟩⟩⟩⟩
      rw [rnd_at l1'] at l2
      have wp7 := (wp.same s6).same s7
      refine ⟨_, rfl, _, rfl, _, rfl, .ref p0, .int n, .str t, rfl, .inr ⟨p0, z, sc, rfl, wp7, by omega, lw.own, .inr ⟨n, rfl, by omega, .inr ⟨t, ht, rfl, fun p3 u3 v3 H8 s8 w3 l3 => ?_⟩⟩⟩⟩
      rw [rnd_at lw] at l3
      have bu3 := Nat.lt_of_le_of_lt (low_nat l3) b2
      obtain ⟨d3, e3⟩ := id w3
      have le3 := l3.le
      refine ⟨_, rfl, p3, d3, _, rfl, e3, .int _, p3, u3, v3, .int k, rfl, w3, sm (by omega) bu3 (by decide), .inr ⟨.int _, (fun z => (by cases z)), fun k' ek => ?_⟩⟩
      obtain rfl : k = k' := V.int.inj ek
      refine ⟨sm (b := 200) (by omega) bk (by decide), fun u4 v4 p4 H9 l4 s9 _ w4 => ?_⟩
      have l4' : IsLow (u3 * k * (10 : Int) ^ (n - v3)) n u4 v4 := low_up l4 le3
      have ev4 : u3 * k * (10 : Int) ^ (n - v3) = near u ((10 : Int) ^ (c - n)) t * (10 : Int) ^ (n - c) * k := by rw [l3.eq, Int.mul_right_comm]
      rw [ev4] at l4'
      have w2' := (w2.same s8).same s9
      obtain ⟨d2, e2⟩ := id w2'
      obtain ⟨d4, e4'⟩ := id w4
      have le2 := l2.le
      have le4 := l4'.le
      refine ⟨p2, p4, d2, d4, _, _, rfl, rfl, e2, e4', p2, u2, v2, .ref p4, rfl, w2', sm (by omega) (Nat.lt_of_le_of_lt (low_nat l2) b1) (by decide), .inl ⟨p4, u4, v4, rfl, w4, sm (by omega) (Nat.lt_of_le_of_lt (low_nat l4') b3) (by decide), fun u5 v5 p5 HA l5 sA _ w5 => ?_⟩⟩
      have mx : max v2 v4 ≤ n := by omega
      have l6 := low_up l5 mx
      have ez : (at_ u2 v2 (max v2 v4) - at_ u4 v4 (max v2 v4)) * (10 : Int) ^ (n - max v2 v4) = gapN ((10 : Int) ^ (c - n)) t k u := by
        unfold at_
        rw [Int.sub_mul, Int.mul_assoc, Int.mul_assoc, ← Int.pow_add, ← Int.pow_add, show max v2 v4 - v2 + (n - max v2 v4) = n - v2 by omega, show max v2 v4 - v4 + (n - max v2 v4) = n - v4 by omega, ← l2.eq, ← l4'.eq]
        exact gap_unit
      have l6 : IsLow (gapN ((10 : Int) ^ (c - n)) t k u) n u5 v5 := by rw [← ez]; exact l6
      have bg : (gapN ((10 : Int) ^ (c - n)) t k u).natAbs < 2 ^ 90000 := by
        rw [← gap_unit]
        have e9 : 2 ^ (130 + 200 + 1 + 40) + 2 ^ (130 + 1 + 40 + 200) < 2 ^ 90000 := by
          have : 2 ^ (130 + 200 + 1 + 40) + 2 ^ (130 + 1 + 40 + 200) < 2 ^ 372 * 2 := by decide +kernel
          exact up_two (a := 373) (by rw [Nat.pow_succ]; exact this) (by decide)
        omega
      have sAll := (((s6.trans s7).trans s8).trans s9).trans sA
      have hgA := sAll _ _ hg
      have wpA := wp.same sAll
      have hGA := hG.mono fun x' e' r' => GapRow.extN r' (ExtN.same sAll)
      have s5A := s5.trans sAll
      clear l1 l2 l3 l4 l5 l1' l4' w1 w2 w3 w4 w2' e2 e4' d2 d4 e3 d3 wp7 s6 s7 s8 s9 sA sAll hg hG s5 ez ev ev4 b1 b2 b3 bu3
      dsimp only [gName, List.set]
      obtain ⟨d5, e5⟩ := id w5
      refine ⟨_, rfl, .inl ⟨rfl, _, SqL.of hgA⟩, _, rfl, p5, d5, _, rfl, e5, lk_m _ _ (by decide +kernel) (by decide +kernel), _, rfl, p5, u5, v5, n, rfl, w5, l6.le, by omega, Nat.lt_of_le_of_lt (low_nat l6) bg, ?_⟩
      rw [← l6.eq]
      refine ⟨_, rfl, by show 2 ≤ sizeLine; decide, fun gr ngr => ⟨lg, gs, _, rfl, rfl, same_new ngr _ _ hgA, ?_, ?_⟩⟩
      · have := hGA.len
        have hsz := sizeLine_eq
        rw [List.length_take] at this
        omega
      have sB := same_new (o := HO.tup [.int (gapN ((10 : Int) ^ (c - n)) t k u), .ref p0]) ngr
      have eB : upd HA gr (HO.tup [.int (gapN ((10 : Int) ^ (c - n)) t k u), .ref p0]) gr = some (.tup [.int (gapN ((10 : Int) ^ (c - n)) t k u), .ref p0]) := upd_same
      generalize upd HA gr (HO.tup [.int (gapN ((10 : Int) ^ (c - n)) t k u), .ref p0]) = HB at sB eB ⊢
      have hgB := sB _ _ hgA
      refine ⟨⟨_, _, rfl⟩, fun b o eb => ?_, gs ++ [.ref gr], upd_same, ?_⟩
      · rw [upd_ne (ne_of_none eb nlg)]
        exact sB _ _ (s5A _ _ eb)
      · rw [show hs.take (i + 1) = hs.take i ++ [u] by rw [List.take_succ, hu2]; rfl]
        exact Ents.snoc (hGA.mono fun x' e' r' => GapRow.put (GapRow.extN r' (ExtN.same sB)) hgB) (GapRow.put ⟨gr, p0, z, sc, rfl, eB, wpA.same sB, lw⟩ hgB)
    rintro σ H5 ⟨⟨y6, y7, rfl⟩, s5, gs, hg, hG⟩
    rw [show hs.take acc.length = hs by rw [alen]; exact List.take_length] at hG
    have T5 := T3.ext s5
    have x5 := x3.trans (ExtN.same s5)
    clear T3 x3 s5 s4 e4 hA hD nD nD3
    have glen := hG.len
    have h0 : 0 < gs.length := by
      rw [glen]
      exact List.length_pos_of_mem hpos
    have keys : ∀ (H' : Hp), Ents (GapRow W c ((10 : Int) ^ (c - n)) t k H') gs hs → ∀ (i : Nat) (y : V) (v : Int), gs[i]? = some y → (hs.map fun u => gapN ((10 : Int) ^ (c - n)) t k u)[i]? = some v → KeyAt H' y v := fun H' hG' i y v hy hv => by
      obtain ⟨u, hu2, g1, p1, z1, sc1, rfl, e1, _⟩ := hG'.get hy
      rw [List.getElem?_map, hu2] at hv
      obtain rfl := Option.some.inj hv
      exact ⟨g1, _, rfl, e1⟩
    -- the least
    refine ⟨_, rfl, T5, fun f1 c1 H6 x6 T6 _ l6 d6 => ⟨_, _, _, lg, f1, gs, hs.map fun u => gapN ((10 : Int) ^ (c - n)) t k u, rfl, rfl, x6 _ _ hg (fun ps z => by cases z), l6, d6, fst1, by rw [List.length_map]; exact glen, h0, keys H6 (hG.mono fun x' e' r' => GapRow.extN r' x6), fun i1 y1 g1 hy1 hg1 hb1 => ?_⟩⟩
    obtain ⟨ul, hul, rl⟩ := (hG.mono fun x' e' r' => GapRow.extN r' x6).get hy1
    rw [List.getElem?_map, hul] at hg1
    obtain rfl := Option.some.inj hg1
    have hg6 := x6 _ _ hg (fun ps z => by cases z)
    have hG6 := hG.mono fun x' e' r' => GapRow.extN r' x6
    dsimp only [gName, List.set]
    -- the greatest
    refine ⟨_, rfl, T6, fun f2 c2 H7 x7 T7 _ l7 d7 => ⟨_, _, _, lg, f2, gs, hs.map fun u => gapN ((10 : Int) ^ (c - n)) t k u, rfl, rfl, x7 _ _ hg6 (fun ps z => by cases z), l7, d7, fst2, by rw [List.length_map]; exact glen, h0, keys H7 (hG6.mono fun x' e' r' => GapRow.extN r' x7), fun i2 y2 g2 hy2 hg2 hb2 => ?_⟩⟩
    obtain ⟨uh, huh, rh⟩ := (hG6.mono fun x' e' r' => GapRow.extN r' x7).get hy2
    rw [List.getElem?_map, huh] at hg2
    obtain rfl := Option.some.inj hg2
    have rl7 := GapRow.extN rl x7
    have x7' := (x5.trans x6).trans x7
    clear rl hG hG6 hg hg6 x5 x6 x7 T5 T6 l6 l7 d6 d7 keys
    dsimp only [gName, List.set]
    obtain ⟨ga, pa, za, sa, rfl, ea, wa, la⟩ := rl7
    obtain ⟨gb, pb, zb, sb, rfl, eb, wb, lb⟩ := rh
    refine ⟨_, rfl, ga, _, 0, _, rfl, rfl, SqT.of ea, rfl, _, rfl, ?_⟩
    dsimp only [tNil]
    try rw [List.append_nil]
    refine worth_of (C := C) (n := n) (by omega) fun u1 v1 p1 J1 l1 r1 _ w1 => ?_
    refine ⟨_, rfl, ga, _, 1, _, rfl, rfl, SqT.of (r1 _ _ ea), rfl, by show 2 ≤ sizeLine; decide, fun ra nra => ?_⟩
    have r2 := same_new (o := HO.tup [.ref p1, .ref pa]) nra
    have f2 : upd J1 ra (HO.tup [.ref p1, .ref pa]) ra = some (.tup [.ref p1, .ref pa]) := upd_same
    generalize upd J1 ra (HO.tup [.ref p1, .ref pa]) = J2 at r2 f2 ⊢
    refine ⟨_, rfl, gb, _, 0, _, rfl, rfl, SqT.of (r2 _ _ (r1 _ _ eb)), rfl, _, rfl, ?_⟩
    dsimp only [tNil]
    try rw [List.append_nil]
    refine worth_of (C := C) (n := n) (by omega) fun u3 v3 p3 J3 l3 r3 _ w3 => ?_
    refine ⟨_, rfl, gb, _, 1, _, rfl, rfl, SqT.of (r3 _ _ (r2 _ _ (r1 _ _ eb))), rfl, by show 2 ≤ sizeLine; decide, fun rb nrb => ?_⟩
    have r4 := same_new (o := HO.tup [.ref p3, .ref pb]) nrb
    have f4 : upd J3 rb (HO.tup [.ref p3, .ref pb]) rb = some (.tup [.ref p3, .ref pb]) := upd_same
    generalize upd J3 rb (HO.tup [.ref p3, .ref pb]) = J4 at r4 f4 ⊢
    refine ⟨by show 2 ≤ sizeLine; decide, fun r nr => ?_⟩
    have r5 := same_new (o := HO.tup [.ref ra, .ref rb]) nr
    have f5 : upd J4 r (HO.tup [.ref ra, .ref rb]) r = some (.tup [.ref ra, .ref rb]) := upd_same
    generalize upd J4 r (HO.tup [.ref ra, .ref rb]) = J5 at r5 f5 ⊢
    have rr := ((r1.trans r2).trans (r3.trans r4)).trans r5
    refine q r J5 (x7'.trans (ExtN.same rr)) (T7.ext rr) ⟨ra, rb, p1, pa, p3, pb, ul, uh, u1, u3, za, zb, v1, sa, v3, sb, f5, r5 _ _ (r4 _ _ (r3 _ _ f2)), r5 _ _ f4, w1.same (((r2.trans r3).trans r4).trans r5), l1, wa.same rr, la, w3.same (r4.trans r5), l3, wb.same rr, lb, by rw [hhs]; exact List.mem_of_getElem? hul, by rw [hhs]; exact List.mem_of_getElem? huh, fun u mu => ⟨?_, ?_⟩⟩
    · rw [hhs] at mu
      exact hb1 _ (List.mem_map.mpr ⟨u, mu, rfl⟩)
    · rw [hhs] at mu
      exact hb2 _ (List.mem_map.mpr ⟨u, mu, rfl⟩)
end
end K53

/-! k53: the law: a worth told, a gap, kinds of entries. -/
namespace K53
open PySem PySem.Spec PyProof.Rows L2 LamX NdefX Own
abbrev sAt : Stmt := topS 50
abbrev sGp : Stmt := topS 51
abbrev sKs : Stmt := topS 52
section
variable {P : Program} {w : World} {K : PySem.W.Frag} {mg : Str → Option Value} {base : Heap} {C CB CN W S Co : Addr} {H H' : Hp}
theorem scAt : FnScope ["_law_worth", "_law_scale"] ["_law_worth", "_law_scale"] (defScope sAt) := ⟨rfl, rfl, rfl, by decide +kernel, rfl, by decide +kernel, by decide +kernel⟩
def spAt (W : Addr) : Sp := fun vs H Q _ => ∃ (p : Addr) (u v : Int) (s n : Nat), vs = [.ref p, .int n] ∧ WAt W H p u s ∧ IsLow v n u s ∧ n ≤ 200 ∧ v.natAbs < 2 ^ 2000 ∧ Q (.int v) H
theorem ok_at (A : At K mg "_law_at" sAt ["_law_worth", "_law_scale"]) (B : Blt mg) (T : WorthC K mg W) (I : WIs K W) (D6 : DefOk P w K mg base CX0 "_law_tens" 1 ["_law_count"] spTe) : DefOk P w K mg base CX0 "_law_at" 2 ["_law_worth", "_law_scale"] (spAt W) := by
  refine A.ok fun f fd F => F.ok scAt (fun vs H Q E h => ?_) (fun cdv A outer s0 H vs Q E hr h => ?_)
  · obtain ⟨p, u, v, s, n, rfl, _⟩ := h
    rfl
  · obtain ⟨p, u, v, s, n, rfl, wp, lw, hn, hv, q⟩ := h
    refine ⟨_, pss_cons (ps_if (PW.pt (pw_or (pt_not (pt_val (pe_callB call_isi (by rfl) B.isi (by decide +kernel) (pa_cons (pv 0) (pa_cons (pe_glob (v := .ref W) (by rfl) T.g rfl) pa_nil))))) (pw_or1 (pt_cmpR op_gt (pe_fld (pv 0) (by rfl)) (pv 1) (nomark _))))) (pss_one (ps_ret pe_non)) pss_nil)
      (pss_one (ps_ret (pe_op op_mulW (pe_fld (pv 0) (by rfl)) (pe_def D6 hr (by decide) (by rfl) pass0 (pa_cons (pe_op op_sub (pv 1) (pe_fld (pv 0) (by rfl))) pa_nil))))), ?_⟩
    obtain ⟨dx, ea⟩ := id wp
    have le := lw.le
    have bu : u.natAbs < 2 ^ 2000 := Nat.lt_of_le_of_lt (low_nat lw) hv
    refine ⟨_, rfl, _, _, _, _, true, rfl, .own W, .base (.ins ea T.cls I.ha I.hn I.ht I.hm), by unfold PySem.W.kitOne; rw [if_pos (by simp)], _, rfl, iteF ?_⟩
    refine ⟨_, rfl, p, W, dx, _, .int s, rfl, ea, T.cls, T.ns, lk_s _ _, _, rfl, _, _, rfl, rfl, _, rfl, ite2 (fun e => ?_) (fun _ => ?_)⟩
    · have z : (s : Int) > (n : Int) := of_decide_eq_true e
      omega
    · refine ⟨_, rfl, p, W, dx, _, .int u, rfl, ea, T.cls, T.nu, lk_u _ _, _, rfl, _, rfl, p, W, dx, _, .int s, rfl, ea, T.cls, T.ns, lk_s _ _, _, _, rfl, rfl, ?_⟩
      have e2 : (n : Int) - (s : Int) = ((n - s : Nat) : Int) := by omega
      dsimp only
      rw [e2]
      refine ⟨n - s, rfl, by omega, _, _, rfl, rfl, wide_mul bu (ten_lt (n - s)) (by decide) (by omega) (by omega), ?_⟩
      have e3 := lw.eq
      dsimp only
      rw [← e3]
      exact q
/-- so many entries of one number -/
def KindRow (H : Hp) (r : V) (p : Int × Int) : Prop := ∃ a, r = .ref a ∧ H a = some (.tup [.int p.1, .int p.2])
theorem KindRow.same {r : V} {p : Int × Int} (h : KindRow H r p) (z : Same H H') : KindRow H' r p := by
  obtain ⟨a, e1, e2⟩ := h
  exact ⟨a, e1, z _ _ e2⟩
theorem KindRow.keep {d : Addr} {B : Int} {r : V} {p : Int × Int} (h : KindRow H r p) (hp : Pen H d B) (k : KeepP d H H') : KindRow H' r p := by
  obtain ⟨a, e1, e2⟩ := h
  obtain ⟨pp, ns, c, l, ed, _⟩ := hp.ex
  exact ⟨a, e1, k _ _ (ne_of e2 ed (by intro z; cases z)) e2⟩
theorem KindRow.put {r : V} {p : Int × Int} {D : Addr} {l : List V} {o : HO} (h : KindRow H r p) (hD : H D = some (.lst l)) : KindRow (upd H D o) r p := by
  obtain ⟨a, e1, e2⟩ := h
  exact ⟨a, e1, (upd_ne (ne_of e2 hD (by intro z; cases z))).trans e2⟩
theorem sumK_snoc (ks : List (Int × Int)) (p : Int × Int) : sumK (ks ++ [p]) = sumK ks + p.1 * p.2 := by simp [sumK]
theorem eachK_snoc (U : Int) (t : Str) (ks : List (Int × Int)) (p : Int × Int) : eachK U t (ks ++ [p]) = eachK U t ks + p.2 * near p.1 U t := by simp [eachK]
theorem cntK_snoc (ks : List (Int × Int)) (p : Int × Int) : cntK (ks ++ [p]) = cntK ks + p.2 := by simp [cntK]
theorem scGp : FnScope ["_law_kinds_here", "_law_unit", "_law_way", "_law_total", "_law_each", "_law_one", "_law_times"] ["_law_kinds_here", "_law_unit", "_law_way"] (defScope sGp) := ⟨rfl, rfl, rfl, by decide +kernel, rfl, by decide +kernel, by decide +kernel⟩
def spGp : Sp := fun vs H Q _ => ∃ (l : Addr) (xs : List V) (ks : List (Int × Int)) (U : Int) (t : Str), vs = [.ref l, .int U, .str t] ∧ H l = some (.lst xs) ∧ Ents (KindRow H) xs ks ∧ 0 < U ∧ U < 1073741824 ∧ t ∈ waysL ∧ (∀ p ∈ ks, p.1.natAbs < 2 ^ 140 ∧ p.2.natAbs < 2 ^ 210) ∧ ∀ H', Same H H' → Q (.int (gapK U t ks)) H'
theorem ok_gp (A : At K mg "_law_gap" sGp ["_law_kinds_here", "_law_unit", "_law_way"]) (D7 : DefOk P w K mg base CX0 "_law_rounded" 1 ["_law_number_here", "_law_unit", "_law_way"] spRd) : DefOk P w K mg base CX0 "_law_gap" 2 ["_law_kinds_here", "_law_unit", "_law_way"] spGp := by
  refine A.ok fun f fd F => F.ok scGp (fun vs H Q E h => ?_) (fun cdv A outer s0 H vs Q E hr h => ?_)
  · obtain ⟨l, xs, ks, U, t, rfl, _⟩ := h
    rfl
  · obtain ⟨l, xs, ks, U, t, rfl, hl, hE, U0, U1, ht, hb, q⟩ := h
    have nd := scGp.nd
    refine ⟨_, pss_cons (ps_asg (pe_tup (pa_cons pe_int (pa_cons pe_int pa_nil))) (pg_tup rfl (pgs_cons (pg_name (i := 3) nd rfl (.inl rfl)) (pgs_cons (pg_name (i := 4) nd rfl (.inl rfl)) pgs_nil))))
      (pss_cons (ps_for PassesOwn.never rfl (pi_list (pv 0)) (pg_tup rfl (pgs_cons (pg_name (i := 5) nd rfl (.inl rfl)) (pgs_cons (pg_name (i := 6) nd rfl (.inl rfl)) pgs_nil))) (pss_one (ps_par (i := 3) (j := 4) (by rfl) nd rfl rfl (by decide) rfl rfl (pa_cons (pe_op op_add (pv 3) (pe_op op_mulW (pv 5) (pv 6))) (pa_cons (pe_op op_add (pv 4) (pe_op op_mulW (pv 6) (pe_def D7 hr (by decide) (by rfl) pass0 (pa_cons (pv 5) (pa_cons (pv 1) (pa_cons (pv 2) pa_nil)))))) pa_nil)) (by rfl))))
      (pss_one (ps_ret (pe_op op_sub (pe_def D7 hr (by decide) (by rfl) pass0 (pa_cons (pv 3) (pa_cons (pv 1) (pa_cons (pv 2) pa_nil)))) (pv 4))))), ?_⟩
    refine ⟨by show 2 ≤ sizeLine; decide, fun p0 np => ⟨p0, _, rfl, SqT.of upd_same, rfl, _, _, rfl, _, _, rfl, rfl, ?_⟩⟩
    have s0' := same_new (o := HO.tup [.int 0, .int 0]) np
    have q := q _ s0'
    have hl := s0' _ _ hl
    have hE := hE.mono fun _ _ z => z.same s0'
    clear np
    generalize upd H p0 (HO.tup [.int 0, .int 0]) = H0 at q hl hE ⊢
    dsimp only [gName, List.set]
    have len := hE.len
    refine ⟨_, rfl, l, rfl, ⟨_, SqL.of hl⟩, for_list (K := K) (xs := xs) (fun i σ H' => (∃ y5 y6 : Option V, σ = [some (.ref l), some (.int U), some (.str t), some (.int (sumK (ks.take i))), some (.int (eachK U t (ks.take i))), y5, y6]) ∧ H' = H0) ⟨⟨none, none, by rw [List.take_zero]; rfl⟩, rfl⟩ (fun i σ H' _ z => by rw [z.2]; exact SqL.of hl) ?_ ?_⟩
    · rintro i x σ H' hx ⟨⟨y5, y6, rfl⟩, rfl⟩
      obtain ⟨p, hp, a, rfl, ea⟩ := hE.get hx
      obtain ⟨b1, b2⟩ := hb p (List.mem_of_getElem? hp)
      have b3 : (near p.1 U t).natAbs < 2 ^ 141 := by
        have := near_nat (n := p.1) U0 t
        have e9 : (2 : Nat) ^ 141 = 2 ^ 140 * 2 := Nat.pow_succ ..
        have e8 : 0 < (2 : Nat) ^ 140 := by decide +kernel
        omega
      refine ⟨a, _, rfl, SqT.of ea, rfl, _, _, rfl, _, _, rfl, rfl, ?_⟩
      dsimp only [gName, List.set]
      refine ⟨_, rfl, _, rfl, _, rfl, _, _, rfl, rfl, wide_mul b1 b2 (by decide) (by decide) (by decide), _, _, rfl, rfl, _, rfl, _, rfl, _, rfl, _, rfl, _, rfl, p.1, U, t, rfl, U0, U1, ht, _, _, rfl, rfl, wide_mul b2 b3 (by decide) (by decide) (by decide), _, _, rfl, rfl, _, _, rfl, ?_⟩
      dsimp only [gName, List.set]
      have tk : ks.take (i + 1) = ks.take i ++ [p] := by rw [List.take_succ, hp]; rfl
      have z1 : sumK (ks.take (i + 1)) = sumK (ks.take i) + p.1 * p.2 := by rw [tk, sumK_snoc]
      have z2 : eachK U t (ks.take (i + 1)) = eachK U t (ks.take i) + p.2 * near p.1 U t := by rw [tk, eachK_snoc]
      exact ⟨⟨some (.int p.1), some (.int p.2), by rw [z1, z2]⟩, rfl⟩
    · rintro σ H' ⟨⟨y5, y6, rfl⟩, rfl⟩
      rw [show ks.take xs.length = ks by rw [len]; exact List.take_length]
      exact ⟨_, rfl, _, rfl, _, rfl, _, U, t, rfl, U0, U1, ht, _, rfl, _, _, rfl, rfl, q⟩
theorem scKs : FnScope ["_law_pen_here", "_law_limits", "_law_unit", "_law_many", "_law_kinds_here", "_law_left", "_law_go", "_law_times"] ["_law_pen_here", "_law_limits", "_law_unit", "_law_many"] (defScope sKs) := ⟨rfl, rfl, rfl, by decide +kernel, rfl, by decide +kernel, by decide +kernel⟩
def spKs : Sp := fun vs H Q _ => ∃ (d p : Addr) (lo hi U B k : Int), vs = [.ref d, .ref p, .int U, .int k] ∧ H p = some (.tup [.int lo, .int hi]) ∧ lo ≤ hi ∧ -(2 ^ 131) < lo ∧ hi < 2 ^ 131 ∧ 0 < U ∧ U ≤ 100000 ∧ 0 ≤ k ∧ Pen H d B ∧ B ≤ 800000000 ∧
  ∀ (l : Addr) (xs : List V) (ks : List (Int × Int)) (H' : Hp), KeepP d H H' → Pen H' d (B + 860) → H' l = some (.lst xs) → Ents (KindRow H') xs ks → Held lo hi ks → cntK ks = k → Q (.ref l) H'
theorem ok_ks (A : At K mg "_law_kinds" sKs ["_law_pen_here", "_law_limits", "_law_unit", "_law_many"]) (B : Blt mg) (D1 : DefOk P w K mg base CX0 "_law_draw" 1 ["_law_pen_here", "_law_span"] spDraw) (D3 : DefOk P w K mg base CX0 "_law_great" 2 ["_law_pen_here", "_law_figures"] spGreat) (DN : DefOk P w K mg base CX0 "_law_number" 3 ["_law_pen_here", "_law_limits", "_law_unit"] spNu) : DefOk P w K mg base CX0 "_law_kinds" 4 ["_law_pen_here", "_law_limits", "_law_unit", "_law_many"] spKs := by
  refine A.ok fun f fd F => F.ok scKs (fun vs H Q E h => ?_) (fun cdv A outer s0 H vs Q E hr h => ?_)
  · obtain ⟨d, p, lo, hi, U, B, k, rfl, _⟩ := h
    rfl
  · obtain ⟨d, p, lo, hi, U, B0, k, rfl, ep, hlh, hlo, hhi, U0, U1, hk, hp, hB, q⟩ := h
    have nd := scKs.nd
    refine ⟨_, pss_cons (ps_par (i := 4) (j := 5) (by rfl) nd rfl rfl (by decide) rfl rfl (pa_cons (pe_lst pa_nil) (pa_cons (pv 3) pa_nil)) (by rfl))
      (pss_cons (ps_for PassesOwn.never rfl (pi_range1 (by rfl) B.range (pa_cons (pe_def D1 hr (by decide) (by rfl) pass0 (pa_cons (pv 0) (pa_cons pe_int pa_nil))) pa_nil)) (pg_name (i := 6) nd rfl (.inl rfl)) (C8.pss_cut (ps_set (i := 7) nd rfl (.inl rfl) (pe_callB (call_min2 rfl) (by rfl) B.min (by decide +kernel) (pa_cons (pv 5) (pa_cons (pe_ifExp (pt_cmpR op_eq (pe_def D1 hr (by decide) (by rfl) pass0 (pa_cons (pv 0) (pa_cons pe_int pa_nil))) pe_int (nomark _)) (pe_def D3 hr (by decide) (by rfl) pass0 (pa_cons (pv 0) (pa_cons pe_int pa_nil))) (pe_def D1 hr (by decide) (by rfl) pass0 (pa_cons (pv 0) (pa_cons pe_int pa_nil)))) pa_nil)))) (pss_cons (ps_expr (pe_bm PySem.F.plainAttrs_list PySem.F.slot_list_append PySem.F.type_list_append mt_append (pv 4) (pa_cons (pe_tup (pa_cons (pe_def DN hr (by decide) (by rfl) pass0 (pa_cons (pv 0) (pa_cons (pv 1) (pa_cons (pv 2) pa_nil)))) (pa_cons (pv 7) pa_nil))) pa_nil))) (pss_one (ps_set (i := 5) nd rfl (.inl rfl) (pe_op op_sub (pv 5) (pv 7)))))))
      (pss_one (ps_ret (pe_op op_cat (pv 4) (pe_lst (pa_cons (pe_tup (pa_cons (pe_def DN hr (by decide) (by rfl) pass0 (pa_cons (pv 0) (pa_cons (pv 1) (pa_cons (pv 2) pa_nil)))) (pa_cons (pv 5) pa_nil))) pa_nil)))))), ?_⟩
    refine ⟨by show 0 ≤ sizeLine; decide, fun l nl => ⟨_, rfl, _, _, rfl, ?_⟩⟩
    dsimp only [gName, List.set]
    have s1 := same_new (o := HO.lst []) nl
    have e1 : upd H l (HO.lst []) l = some (.lst []) := upd_same
    have off1 : OffG "cells" "at" "left" (upd H l (HO.lst [])) d l := (OffG.of hp nl).keep hp (KeepG.same s1)
    have p1 := hp.same s1
    have ep1 := s1 _ _ ep
    generalize upd H l (HO.lst []) = H1 at s1 e1 off1 p1 ep1 ⊢
    refine ⟨_, rfl, d, 5, _, rfl, p1, by omega, by decide, by decide, fun cz H2 c0 c1 k2 p2 => ?_⟩
    have e2 := k2.lst p1 e1
    have off2 := off1.keep p1 k2
    refine ⟨cz, rfl, by omega, by omega, for_range (lo := 0) (n := cz.toNat) (fun i σ H' => (∃ (xs : List V) (ks : List (Int × Int)) (lf : Int) (y6 y7 : Option V), σ = [some (.ref d), some (.ref p), some (.int U), some (.int k), some (.ref l), some (.int lf), y6, y7] ∧
      H' l = some (.lst xs) ∧ Ents (KindRow H') xs ks ∧ Held lo hi ks ∧ 0 ≤ lf ∧ cntK ks + lf = k ∧ ks.length = i ∧ OffG "cells" "at" "left" H' d l) ∧ KeepP d H H' ∧ Pen H' d (B0 + 1 + 211 * i)) ⟨⟨[], [], k, none, none, rfl, e2, .nil, (fun p hp => by cases hp), hk, by simp [cntK], rfl, off2⟩, (KeepG.same s1).trans k2, p2.mono (by omega)⟩ ?_ ?_⟩
    · rintro i σ H3 hi' ⟨⟨xs, ks, lf, y6, y7, rfl, e3, hE, hH, hlf, hc, hlen, off3⟩, kk, pp⟩
      dsimp only [gName, List.set]
      refine ⟨fun σ H' => ∃ tm : Int, 0 ≤ tm ∧ tm ≤ lf ∧ σ = [some (.ref d), some (.ref p), some (.int U), some (.int k), some (.ref l), some (.int lf), some (.int ((0 : Int) + (i : Int))), some (.int tm)] ∧ KeepP d H3 H' ∧ Pen H' d (B0 + 1 + 211 * i + 201), ?_, ?_⟩
      · refine ⟨_, rfl, _, rfl, d, 3, _, rfl, pp, by omega, by decide, by decide, fun z H4 z0 z1 k4 p4 => ⟨rfl, _, rfl, ite2 (fun _ => ?_) (fun _ => ?_)⟩⟩
        · refine ⟨_, rfl, d, 56, _, rfl, by decide, by decide, p4, by omega, fun x H5 x0 x1 k5 p5 => ⟨_, _, rfl, ?_⟩⟩
          exact ⟨_, by split <;> omega, by split <;> omega, rfl, k4.trans k5, p5.mono (by omega)⟩
        · refine ⟨_, rfl, d, 5, _, rfl, p4, by omega, by decide, by decide, fun x H5 x0 x1 k5 p5 => ⟨_, _, rfl, ?_⟩⟩
          exact ⟨_, by split <;> omega, by split <;> omega, rfl, k4.trans k5, p5.mono (by omega)⟩
      rintro σ H4 ⟨tm, t0, t1, rfl, k4, p4⟩
      have e4 := k4.lst pp e3
      have hE4 := hE.mono fun _ _ z => z.keep pp k4
      have off4 := off3.keep pp k4
      have ep4 : H4 p = some (.tup [.int lo, .int hi]) := (kk.trans k4) _ _ (by obtain ⟨a1, a2, a3, a4, ed, _⟩ := hp.ex; exact ne_of ep ed (by intro z; cases z)) ep
      refine ⟨_, rfl, .inl ⟨rfl, _, SqL.of e4⟩, _, rfl, _, rfl, _, rfl, d, p, lo, hi, U, _, rfl, ep4, hlh, hlo, hhi, U0, U1, p4, by omega, fun v H5 v0 v1 k5 p5 => ⟨_, rfl, by show 2 ≤ sizeLine; decide, fun r nr => ?_⟩⟩
      have e5 := k5.lst p4 e4
      have hE5 := hE4.mono fun _ _ z => z.keep p4 k5
      have off5 := off4.keep p4 k5
      have s6 := same_new (o := HO.tup [.int v, .int tm]) nr
      have e6 : upd H5 r (HO.tup [.int v, .int tm]) r = some (.tup [.int v, .int tm]) := upd_same
      have el6 := s6 _ _ e5
      have off6 := off5.keep p5 (KeepG.same s6)
      have p6 := p5.same s6
      have hE6 := hE5.mono fun _ _ z => z.same s6
      have kAll := (k4.trans k5).trans (KeepG.same s6)
      generalize upd H5 r (HO.tup [.int v, .int tm]) = H6 at s6 e6 el6 off6 p6 hE6 kAll ⊢
      have lx := hE.len
      refine ⟨l, xs, _, rfl, rfl, el6, by have := sizeLine_eq; omega, ?_⟩
      refine ⟨_, rfl, _, rfl, _, _, rfl, rfl, ?_⟩
      dsimp only [gName, List.set]
      refine ⟨⟨xs ++ [.ref r], ks ++ [(v, tm)], lf - tm, _, _, rfl, upd_same, ?_, ?_, by omega, by rw [cntK_snoc]; show cntK ks + tm + (lf - tm) = k; omega, by rw [List.length_append, hlen]; rfl, OffG.at_ off6 (p6.ne_lst el6)⟩, (kk.trans kAll).over nl, ?_⟩
      · exact Ents.snoc (hE6.mono fun _ _ z => z.put el6) (KindRow.put ⟨r, rfl, e6⟩ el6)
      · intro x hx
        rcases List.mem_append.mp hx with z | z
        · exact hH x z
        · rw [List.mem_singleton.mp z]
          exact ⟨t0, v0, v1⟩
      · exact (PenG.put p6 el6 off6).mono (by omega)
    · rintro σ H3 ⟨⟨xs, ks, lf, y6, y7, rfl, e3, hE, hH, hlf, hc, hlen, off3⟩, kk, pp⟩
      have ep3 : H3 p = some (.tup [.int lo, .int hi]) := kk _ _ (by obtain ⟨a1, a2, a3, a4, ed, _⟩ := hp.ex; exact ne_of ep ed (by intro z; cases z)) ep
      have lx := hE.len
      refine ⟨_, rfl, _, rfl, _, rfl, _, rfl, d, p, lo, hi, U, _, rfl, ep3, hlh, hlo, hhi, U0, U1, pp, by omega, fun v H5 v0 v1 k5 p5 => ⟨_, rfl, by show 2 ≤ sizeLine; decide, fun r nr => ⟨by show 1 ≤ sizeLine; decide, fun g ng => ?_⟩⟩⟩
      have s6 := same_new (o := HO.tup [.int v, .int lf]) nr
      have e6 : upd H5 r (HO.tup [.int v, .int lf]) r = some (.tup [.int v, .int lf]) := upd_same
      have s7 := same_new (o := HO.lst [.ref r]) ng
      have e7 := s7 _ _ e6
      have s67 := s6.trans s7
      have el7 := s67 _ _ (k5.lst pp e3)
      have eg : upd (upd H5 r (HO.tup [.int v, .int lf])) g (HO.lst [.ref r]) g = some (.lst [.ref r]) := upd_same
      have hE7 := hE.mono fun _ _ z => (z.keep pp k5).same s67
      have p7 := p5.same s67
      have k7 := (kk.trans k5).trans (KeepG.same s67)
      generalize upd (upd H5 r (HO.tup [.int v, .int lf])) g (HO.lst [.ref r]) = H7 at s7 e7 s67 el7 eg hE7 p7 k7 ⊢
      refine ⟨l, g, _, _, rfl, rfl, el7, eg, by have := sizeLine_eq; show xs.length + 1 ≤ sizeLine; omega, fun m nm => ?_⟩
      have s8 := same_new (o := HO.lst (xs ++ [.ref r])) nm
      refine q m (xs ++ [.ref r]) (ks ++ [(v, lf)]) _ (k7.trans (KeepG.same s8)) ((p7.same s8).mono (by omega)) upd_same ?_ ?_ (by rw [cntK_snoc]; exact hc)
      · exact Ents.snoc (hE7.mono fun _ _ z => z.same s8) (KindRow.same ⟨r, rfl, e7⟩ s8)
      · intro x hx
        rcases List.mem_append.mp hx with z | z
        · exact hH x z
        · rw [List.mem_singleton.mp z]
          exact ⟨hlf, v0, v1⟩
end
end K53

/-! k53: the law: both ends. -/
namespace K53
open PySem PySem.Spec PyProof.Rows L2 LamX NdefX Own
abbrev sEn : Stmt := topS 53
/-- the least and the greatest gap of the held telling worths bound every gap -/
theorem tells_all {wh c n : Nat} {m t : Str} {k gl gh : Int} (ok : KdOk wh c m) (ht : t ∈ waysL) (h : ∀ u ∈ heldL wh c n m, gl ≤ gapN ((10 : Int) ^ (c - n)) t k u ∧ gapN ((10 : Int) ^ (c - n)) t k u ≤ gh) (h1 : ∃ u ∈ heldL wh c n m, gl = gapN ((10 : Int) ^ (c - n)) t k u) (h2 : ∃ u ∈ heldL wh c n m, gh = gapN ((10 : Int) ^ (c - n)) t k u) (ks : List (Int × Int)) (hk : Held (lowOf wh c m) (topOf wh c) ks) (hc : cntK ks = k) :
    gl ≤ gapK ((10 : Int) ^ (c - n)) t ks ∧ gapK ((10 : Int) ^ (c - n)) t ks ≤ gh := by
  rcases Nat.le_total c n with l | l
  · have e : c - n = 0 := by omega
    rw [e, Int.pow_zero] at h h1 h2 ⊢
    have z : ∀ u, gapN 1 t k u = 0 := fun u => by
      unfold gapN
      rw [near_one, near_one]
      omega
    have y : gapK 1 t ks = 0 := by
      have a : ∀ l : List (Int × Int), eachK 1 t l = sumK l := fun l => by
        unfold eachK sumK
        refine congrArg List.sum (List.map_congr_left fun p _ => ?_)
        rw [near_one, Int.mul_comm]
      unfold gapK
      rw [near_one, a]
      omega
    obtain ⟨u1, _, e1⟩ := h1
    obtain ⟨u2, _, e2⟩ := h2
    rw [y, e1, e2, z, z]
    exact ⟨Int.le_refl _, Int.le_refl _⟩
  · by_cases cn : c = n
    · subst cn
      have e : c - c = 0 := by omega
      rw [e, Int.pow_zero] at h h1 h2 ⊢
      have z : ∀ u, gapN 1 t k u = 0 := fun u => by
        unfold gapN
        rw [near_one, near_one]
        omega
      have y : gapK 1 t ks = 0 := by
        have a : ∀ l : List (Int × Int), eachK 1 t l = sumK l := fun l => by
          unfold eachK sumK
          refine congrArg List.sum (List.map_congr_left fun p _ => ?_)
          rw [near_one, Int.mul_comm]
        unfold gapK
        rw [near_one, a]
        omega
      obtain ⟨u1, _, e1⟩ := h1
      obtain ⟨u2, _, e2⟩ := h2
      rw [y, e1, e2, z, z]
      exact ⟨Int.le_refl _, Int.le_refl _⟩
    · have lt : n < c := by omega
      have eU := ten_even (k := c - n) (by omega)
      have U10 : (10 : Int) ≤ (10 : Int) ^ (c - n) := by
        have := ten_mono (show 1 ≤ c - n by omega)
        have e1 : (10 : Int) ^ 1 = 10 := by decide
        omega
      have tw := tellW_eq lt
      have tp : topOf wh c = (10 : Int) ^ (c - n) - 1 ∨ 10 * (10 : Int) ^ (c - n) - 1 ≤ topOf wh c := by
        unfold topOf
        by_cases z : wh + n = 0
        · left
          rw [show wh + c = c - n by omega]
        · right
          have := ten_mono (show c - n + 1 ≤ wh + c by omega)
          rw [Int.pow_succ] at this
          omega
      have lw : lowOf wh c m = -topOf wh c ∨ lowOf wh c m = 0 ∨ lowOf wh c m = 1 := by
        unfold lowOf
        split
        · exact .inl rfl
        · split
          · exact .inr (.inl rfl)
          · exact .inr (.inr rfl)
      generalize (10 : Int) ^ (c - n) = U at h h1 h2 eU U10 tw tp ⊢
      have f5 : 5 ≤ U / 2 := by omega
      obtain ⟨ua, ma, a1, a2, a3⟩ := tell_lo (t := t) ht f5 eU tp lw
      obtain ⟨ub, mb, b1, b2, b3⟩ := tell_hi (t := t) ht f5 eU tp lw
      have ha := (h ua (List.mem_filter.mpr ⟨tw ua ma, decide_eq_true ⟨a1, a2⟩⟩)).1
      have hb := (h ub (List.mem_filter.mpr ⟨tw ub mb, decide_eq_true ⟨b1, b2⟩⟩)).2
      have a4 := a3 ks hk
      have b4 := b3 ks hk
      rw [hc] at a4 b4
      omega
theorem gapN_nat {U : Int} {t : Str} {k u : Int} (hU : 0 < U) (hu : u.natAbs < 2 ^ 130) (hk : k.natAbs < 2 ^ 200) : (gapN U t k u).natAbs < 2 ^ 400 := by
  have b1 := near_nat (n := u * k) hU t
  have b2 : (u * k).natAbs < 2 ^ (130 + 200) := wide_lt hu hk
  have b3 : (near u U t).natAbs < 2 ^ 131 := by
    have := near_nat (n := u) hU t
    have e9 : (2 : Nat) ^ 131 = 2 ^ 130 * 2 := Nat.pow_succ ..
    have e8 : 0 < (2 : Nat) ^ 130 := by decide +kernel
    omega
  have b4 : (near u U t * k).natAbs < 2 ^ (131 + 200) := wide_lt b3 hk
  have e : 2 ^ (130 + 200) + 1 + 2 ^ (131 + 200) < (2 : Nat) ^ 400 := by decide +kernel
  unfold gapN
  omega
section
variable {P : Program} {w : World} {K : PySem.W.Frag} {mg : Str → Option Value} {base : Heap} {C CB CN W S Co : Addr} {H H' : Hp}
/-- one end: a gap and the worth that shows it -/
def EndIs (W : Addr) (wh c n : Nat) (m t : Str) (k : Int) (H : Hp) (x : V) (u : Int) : Prop := ∃ (r pg pu : Addr) (zg zu : Int) (sg su : Nat), x = .ref r ∧ H r = some (.tup [.ref pg, .ref pu]) ∧ WAt W H pg zg sg ∧ IsLow (gapN ((10 : Int) ^ (c - n)) t k u) n zg sg ∧ WAt W H pu zu su ∧ IsLow u c zu su ∧ u ∈ heldL wh c n m
theorem EndIs.same {wh c n : Nat} {m t : Str} {k : Int} {x : V} {u : Int} (h : EndIs W wh c n m t k H x u) (z : Same H H') : EndIs W wh c n m t k H' x u := by
  obtain ⟨r, pg, pu, zg, zu, sg, su, e, a, b, l, d, l2, mu⟩ := h
  exact ⟨r, pg, pu, zg, zu, sg, su, e, z _ _ a, b.same z, l, d.same z, l2, mu⟩
theorem scEn : FnScope ["_law_told_here", "_law_kind", "_law_scale", "_law_way", "_law_many", "_law_found", "_law_unit", "_law_end", "_law_gap_here", "_law_one"] ["_law_told_here", "_law_kind", "_law_scale", "_law_way", "_law_many"] (defScope sEn) := ⟨rfl, rfl, rfl, by decide +kernel, rfl, by decide +kernel, by decide +kernel⟩
def spEn (W : Addr) : Sp := fun vs H Q _ => ∃ (r kd : Addr) (wh c n : Nat) (m t : Str) (k : Int), vs = [.ref r, .ref kd, .int n, .str t, .int k] ∧ RgTells W wh c n m t k H r ∧ Kd H kd wh c m ∧ KdOk wh c m ∧ n ≤ 10 ∧ t ∈ waysL ∧ 1 ≤ k ∧ k < 2 ^ 200 ∧
  ∀ (l : Addr) (gl gh : Int) (H' : Hp), Same H H' → H' l = some (.lst [.int gl, .int gh]) → gl ≤ gh → (∀ ks, Held (lowOf wh c m) (topOf wh c) ks → cntK ks = k → gl ≤ gapK ((10 : Int) ^ (c - n)) t ks ∧ gapK ((10 : Int) ^ (c - n)) t ks ≤ gh) → Q (.ref l) H'
theorem ok_en (A : At K mg "_law_ends_right" sEn ["_law_told_here", "_law_kind", "_law_scale", "_law_way", "_law_many"]) (B : Blt mg) (D6 : DefOk P w K mg base CX0 "_law_tens" 1 ["_law_count"] spTe) (DA : DefOk P w K mg base CX0 "_law_at" 2 ["_law_worth", "_law_scale"] (spAt W)) (DH : DefOk P w K mg base CX0 "_law_held" 2 ["_law_one"] spHd) (DG : DefOk P w K mg base CX0 "_law_gap" 2 ["_law_kinds_here", "_law_unit", "_law_way"] spGp) :
    DefOk P w K mg base CX0 "_law_ends_right" 3 ["_law_told_here", "_law_kind", "_law_scale", "_law_way", "_law_many"] (spEn W) := by
  refine A.ok fun f fd F => F.ok scEn (fun vs H Q E h => ?_) (fun cdv A outer s0 H vs Q E hr h => ?_)
  · obtain ⟨r, kd, wh, c, n, m, t, k, rfl, _⟩ := h
    rfl
  · obtain ⟨r, kd, wh, c, n, m, t, k, rfl, hr0, ek, ok, hn, ht, hk, hk2, q⟩ := h
    have nd := scEn.nd
    refine ⟨_, pss_cons (ps_if (PW.pt (pw_or (pt_not (pt_val (pe_callB call_isi (by rfl) B.isi (by decide +kernel) (pa_cons (pv 0) (pa_cons (pe_bltn (v := .ty "tuple") (by rfl) B.tuple (by decide +kernel) rfl) pa_nil))))) (pw_or1 (pt_cmpR op_ne (pe_callB call_len_seq (by rfl) B.len PySem.boot_len (pa_cons (pv 0) pa_nil)) pe_int (nomark _))))) (pss_one (ps_ret pe_non)) pss_nil)
      (pss_cons (ps_par (i := 5) (j := 6) (by rfl) nd rfl rfl (by decide) rfl rfl (pa_cons (pe_lst pa_nil) (pa_cons (pe_def D6 hr (by decide) (by rfl) pass0 (pa_cons (pe_callB (call_max2 rfl) (by rfl) B.max (by decide +kernel) (pa_cons (pe_op op_sub (pe_ix ix_tup (pv 1) pe_int (fun _ _ => rfl)) (pv 2)) (pa_cons pe_int pa_nil))) pa_nil)) pa_nil)) (by rfl))
      (pss_cons (ps_for PassesOwn.never rfl (pi_tup (pv 0)) (pg_name (i := 7) nd rfl (.inl rfl)) (pss_cons (ps_if (PW.pt (pw_or (pt_not (pt_val (pe_callB call_isi (by rfl) B.isi (by decide +kernel) (pa_cons (pv 7) (pa_cons (pe_bltn (v := .ty "tuple") (by rfl) B.tuple (by decide +kernel) rfl) pa_nil))))) (pw_or1 (pt_cmpR op_ne (pe_callB call_len_seq (by rfl) B.len PySem.boot_len (pa_cons (pv 7) pa_nil)) pe_int (nomark _))))) (pss_one (ps_ret pe_non)) pss_nil) (pss_cons (ps_par (i := 8) (j := 9) (by rfl) nd rfl rfl (by decide) rfl rfl (pa_cons (pe_def DA hr (by decide) (by rfl) pass0 (pa_cons (pe_ix ix_tup (pv 7) pe_int (fun _ _ => rfl)) (pa_cons (pv 2) pa_nil))) (pa_cons (pe_def DA hr (by decide) (by rfl) pass0 (pa_cons (pe_ix ix_tup (pv 7) pe_int (fun _ _ => rfl)) (pa_cons (pe_ix ix_tup (pv 1) pe_int (fun _ _ => rfl)) pa_nil))) pa_nil)) (by rfl)) (pss_cons (ps_if (PW.pt (pw_or (pt_cmpR op_isN (pv 8) pe_non (nomark _)) (pw_or (pt_cmpR op_isN (pv 9) pe_non (nomark _)) (pw_or1 (pt_not (pt_chain op_le op_le (pe_ix ix_tup (pe_def DH hr (by decide) (by rfl) pass0 (pa_cons (pv 1) pa_nil)) pe_int (fun _ _ => rfl)) (pv 9) (pe_ix ix_tup (pe_def DH hr (by decide) (by rfl) pass0 (pa_cons (pv 1) pa_nil)) pe_int (fun _ _ => rfl)))))))) (pss_one (ps_ret pe_non)) pss_nil) (pss_cons (ps_if (pt_cmpR op_ne (pe_def DG hr (by decide) (by rfl) pass0 (pa_cons (pe_lst (pa_cons (pe_tup (pa_cons (pv 9) (pa_cons (pv 4) pa_nil))) pa_nil)) (pa_cons (pv 6) (pa_cons (pv 3) pa_nil)))) (pv 8) (nomark _)) (pss_one (ps_ret pe_non)) pss_nil) (pss_one (ps_expr (pe_bm PySem.F.plainAttrs_list PySem.F.slot_list_append PySem.F.type_list_append mt_append (pv 5) (pa_cons (pv 8) pa_nil)))))))))
      (pss_one (ps_ret (pv 5))))), ?_⟩
    obtain ⟨ra, rb, pa, qa, pb, qb, ul, uh, ga, gb, za, zb, s1, s2, s3, s4, er, ea, eb, wa, la, wa2, la2, wb, lb, wb2, lb2, mul, muh, all⟩ := hr0
    have ek : H kd = some (.tup [.int (wh : Nat), .int (c : Nat), .str m]) := ek
    have E1 : EndIs W wh c n m t k H (.ref ra) ul := ⟨ra, pa, qa, ga, za, s1, s2, rfl, ea, wa, la, wa2, la2, mul⟩
    have E2 : EndIs W wh c n m t k H (.ref rb) uh := ⟨rb, pb, qb, gb, zb, s3, s4, rfl, eb, wb, lb, wb2, lb2, muh⟩
    clear ea eb wa la wa2 la2 wb lb wb2 lb2
    have c4 := ok.2.1
    have w30 := ok.1
    have U0 := ten_pos (c - n)
    have U1 : (10 : Int) ^ (c - n) ≤ 10000 := by
      have := ten_mono (show c - n ≤ 4 by omega)
      have e9 : (10 : Int) ^ 4 = 10000 := by decide
      omega
    have kn : k.natAbs < 2 ^ 200 := by
      have e9 : ((2 : Int) ^ 200) = ((2 ^ 200 : Nat) : Int) := by decide +kernel
      omega
    have bnd : ∀ u ∈ heldL wh c n m, (lowOf wh c m ≤ u ∧ u ≤ topOf wh c) ∧ u.natAbs < 2 ^ 130 := fun u mu => by
      obtain ⟨_, z⟩ := List.mem_filter.mp mu
      have z := of_decide_eq_true z
      have a1 := top_pos ok
      have a2 := low_le ok
      have e9 : ((2 : Int) ^ 130) = ((2 ^ 130 : Nat) : Int) := by decide +kernel
      exact ⟨z, by omega⟩
    refine ⟨_, rfl, _, _, _, _, true, rfl, .ty _, .base (.tup er), kit_ty (show kitB "tuple" "tuple" = some true by decide +kernel), _, rfl, iteF ?_⟩
    refine ⟨_, rfl, r, _, rfl, .inr (SqT.of er), rfl, _, rfl, iteF ?_⟩
    refine ⟨by show 0 ≤ sizeLine; decide, fun l nl => ?_⟩
    have sl := same_new (o := HO.lst []) nl
    have el : upd H l (HO.lst []) l = some (.lst []) := upd_same
    generalize upd H l (HO.lst []) = H1 at sl el ⊢
    have g1 : (if (0 : Int) > (c : Int) - (n : Int) then (0 : Int) else (c : Int) - (n : Int)) = ((c - n : Nat) : Int) := by split <;> omega
    refine ⟨_, rfl, kd, _, 1, _, rfl, rfl, SqT.of (sl _ _ ek), rfl, _, rfl, _, _, rfl, rfl, _, _, rfl, c - n, by rw [← g1]; rfl, by omega, _, _, rfl, ?_⟩
    dsimp only [gName, List.set]
    refine ⟨_, rfl, r, rfl, ⟨_, SqT.of (sl _ _ er)⟩, for_tup (K := K) (xs := [.ref ra, .ref rb]) (fun i σ H' => (∃ y7 y8 y9 : Option V, σ = [some (.ref r), some (.ref kd), some (.int (n : Nat)), some (.str t), some (.int k), some (.ref l), some (.int ((10 : Int) ^ (c - n))), y7, y8, y9]) ∧ Same H H' ∧ H' l = some (.lst ((([ul, uh].take i).map fun u => gapN ((10 : Int) ^ (c - n)) t k u).map V.int))) ⟨⟨none, none, none, rfl⟩, sl, el⟩ (fun i σ H' _ z => SqT.of (z.2.1 _ _ er)) ?_ ?_⟩
    · rintro i x σ H2 hx ⟨⟨y7, y8, y9, rfl⟩, s2, e2⟩
      have hv : ∃ u, [ul, uh][i]? = some u ∧ EndIs W wh c n m t k H x u := by
        match i, hx with
        | 0, hx => exact ⟨ul, rfl, by cases hx; exact E1⟩
        | 1, hx => exact ⟨uh, rfl, by cases hx; exact E2⟩
        | n + 2, hx => cases hx
      obtain ⟨u, hu, hE⟩ := hv
      obtain ⟨ri, pg, pu, zg, zu, sg, su, rfl, ei, wg, lg, wu, lu, mu⟩ := hE.same s2
      obtain ⟨⟨h1, h2⟩, bu⟩ := bnd u mu
      have bg := gapN_nat (t := t) U0 bu kn
      have tk : [ul, uh].take (i + 1) = [ul, uh].take i ++ [u] := by rw [List.take_succ, hu]; rfl
      have ti : ([ul, uh].take i).length ≤ 2 := by rw [List.length_take]; exact Nat.min_le_right _ _
      dsimp only [gName, List.set]
      refine ⟨_, rfl, _, _, _, _, true, rfl, .ty _, .base (.tup ei), kit_ty (show kitB "tuple" "tuple" = some true by decide +kernel), _, rfl, iteF ?_⟩
      refine ⟨_, rfl, ri, _, rfl, .inr (SqT.of ei), rfl, _, rfl, iteF ?_⟩
      have ek2 := s2 _ _ ek
      refine ⟨_, rfl, ri, _, 0, _, rfl, rfl, SqT.of ei, rfl, _, rfl, pg, zg, gapN ((10 : Int) ^ (c - n)) t k u, sg, n, rfl, wg, lg, by omega, up_two bg (by decide), ?_⟩
      refine ⟨_, rfl, ri, _, 1, _, rfl, rfl, SqT.of ei, rfl, _, rfl, kd, _, 1, _, rfl, rfl, SqT.of ek2, rfl, pu, zu, u, su, c, rfl, wu, lu, by omega, up_two bu (by decide), _, _, rfl, ?_⟩
      dsimp only [gName, List.set]
      refine ⟨_, rfl, rfl, _, rfl, iteF ?_⟩
      refine ⟨_, rfl, rfl, _, rfl, iteF ?_⟩
      refine ⟨_, rfl, kd, wh, c, m, rfl, ek2, ok, fun p3 H3 s3 e3 => ?_⟩
      refine ⟨p3, _, 0, _, rfl, rfl, SqT.of e3, rfl, _, rfl, _, _, rfl, rfl, _, rfl, ite2 (fun _ => ?_) (fun e => absurd (decide_eq_true h1) e)⟩
      refine ⟨_, rfl, kd, wh, c, m, rfl, s3 _ _ ek2, ok, fun p4 H4 s4 e4 => ?_⟩
      refine ⟨p4, _, 1, _, rfl, rfl, SqT.of e4, rfl, _, _, rfl, rfl, _, rfl, ?_⟩
      rw [decide_eq_true h2]
      refine iteF ?_
      have s24 := s3.trans s4
      refine ⟨_, rfl, _, rfl, by show 2 ≤ sizeLine; decide, fun q5 n5 => ⟨by show 1 ≤ sizeLine; decide, fun l5 nl5 => ?_⟩⟩
      have s5 := same_new (o := HO.tup [.int u, .int k]) n5
      have s6 := same_new (o := HO.lst [.ref q5]) nl5
      have e5' : upd H4 q5 (HO.tup [.int u, .int k]) q5 = some (.tup [.int u, .int k]) := upd_same
      have e5 := s6 _ _ e5'
      have e6 : upd (upd H4 q5 (HO.tup [.int u, .int k])) l5 (HO.lst [.ref q5]) l5 = some (.lst [.ref q5]) := upd_same
      have s26 := (s24.trans s5).trans s6
      generalize upd (upd H4 q5 (HO.tup [.int u, .int k])) l5 (HO.lst [.ref q5]) = H6 at s6 e5 e6 s26 ⊢
      refine ⟨_, rfl, _, rfl, l5, [.ref q5], [(u, k)], (10 : Int) ^ (c - n), t, rfl, e6, .cons ⟨q5, rfl, e5⟩ .nil, U0, by omega, ht, (fun p hp => by rw [List.mem_singleton.mp hp]; exact ⟨up_two bu (by decide), up_two kn (by decide)⟩), fun H7 s7 => ?_⟩
      rw [gapK_one]
      refine ⟨_, rfl, rfl, _, rfl, ?_⟩
      refine ite2 (fun e => ?_) (fun _ => ?_)
      · simp at e
      have s27 := s26.trans s7
      have e7 := s27 _ _ e2
      refine ⟨_, rfl, .inl ⟨rfl, _, SqL.of e7⟩, _, rfl, l, _, _, rfl, rfl, e7, ?_, ?_⟩
      · have hsz := sizeLine_eq
        rw [List.length_map, List.length_map]
        omega
      refine ⟨⟨_, _, _, rfl⟩, fun b o eb => ?_, ?_⟩
      · rw [upd_ne (ne_of_none eb nl)]
        exact s27 _ _ (s2 _ _ eb)
      · rw [tk, List.map_append, List.map_append]
        exact upd_same
    · rintro σ H2 ⟨⟨y7, y8, y9, rfl⟩, s2, e2⟩
      refine ⟨_, rfl, q l _ _ H2 s2 e2 ?_ fun ks hks hc => ?_⟩
      · exact (all uh muh).1
      · exact tells_all ok ht all ⟨ul, mul, rfl⟩ ⟨uh, muh, rfl⟩ ks hks hc
end
end K53

/-! k53: told; what is refused. -/
namespace K53
open PySem PySem.Spec PyProof.Rows L2 LamX NdefX Own
abbrev sTold : Stmt := topS 49
abbrev sErr : Stmt := topS 54
abbrev sRefs : Stmt := sErr
def argN (i : Nat) : Expr → Expr
  | .Call _ l _ _ => l.getD i junkE
  | .List l _ => l.getD i junkE
  | .Compare a _ _ _ => a
  | _ => junkE
def ifE : Stmt → Expr
  | .If e _ _ _ => e
  | .Return (some e) _ => e
  | _ => junkE
abbrev bErr (i : Nat) : Stmt := (defBody sErr).getD i (.Pass ⟨0, 0, 0, 0⟩)
abbrev lx1 : Expr := argN 0 (argN 0 (ifE (bErr 1)))
abbrev lx2 : Expr := argN 0 (argN 0 (ifE (bErr 2)))
abbrev lx3 : Expr := argN 0 (argN 0 (ifE (bErr 3)))
abbrev lx4 : Expr := argN 0 (argN 0 (ifE (bErr 4)))
abbrev lx5 : Expr := argN 0 (argN 0 (ifE (bErr 5)))
def qE : Str := (envOfC "_law_errors_right" (defScope sErr) 0 0 .none).qual ++ "<lambda>"
section
variable {P : Program} {w : World} {K : PySem.W.Frag} {mg : Str → Option Value} {base : Heap} {C CB W Co S Pr Pe : Addr} {X : Cx} {f c' : Addr} {T : List (Addr × Str)}
theorem scTold : FnScope ["_law_call", "_law_told_here", "e"] ["_law_call"] (defScope sTold) := ⟨rfl, rfl, rfl, by decide +kernel, rfl, by decide +kernel, by decide +kernel⟩
/-- told back: nothing, the value of an error behind its word, or a pair of ones behind it -/
def spTold (C CB : Addr) (T : List (Addr × Str)) : (Hp → VK → XK → Prop) → List V → Hp → VK → Prop := fun tl rest H Q => rest = [] ∧ ∀ (p : Addr) (H0 : Hp), Same H H0 → H0 p = some (.tup []) →
  (((∀ (Q' : VK) (E' : XK), (∀ (v : V) (H1 : Hp), ExtN H0 H1 → Tabs T H1 → Q' v H1) → tl H0 Q' E') ∧ ∀ H1, ExtN H0 H1 → Tabs T H1 → Q (.ref p) H1) ∨
  ((∀ (Q' : VK) (E' : XK), (∀ g : Addr, H0 g = none → Bad CB "column" (.ref g) (upd H0 g (.tup [.int 1, .int 1])) E') → tl H0 Q' E') ∧ ∀ (r g : Addr) (H1 : Hp), Same H0 H1 → H1 g = some (.tup [.int 1, .int 1]) → H1 r = some (.tup [.str "column", .ref g]) → Q (.ref r) H1) ∨
  (∃ v : V, (∀ (Q' : VK) (E' : XK), Bad C "value" v H0 E' → tl H0 Q' E') ∧ ∀ (r : Addr) (H1 : Hp), Same H0 H1 → H1 r = some (.tup [.str "value", v]) → Q (.ref r) H1))
theorem ld_told (A : At K mg "_law_told" sTold ["_law_call"]) (T1 : ErrC P w K mg base "BadColumn" "column" 1 CB (spErr CB "column")) (T2 : ErrC P w K mg base "BadValue" "value" 1 C (spErr C "value")) (nE : PySem.W.exmOne K (.ref C) (.ref CB) = some false) : LamDefAt P w K mg base "_law_told" 18 (spTold C CB T) := by
  obtain ⟨g, fd, F, gm, b⟩ := A.ex
  refine ⟨g, ⟨fun A outer s H us f vs FF bb fr ws spl kl Q hr hkl e0 r G hf hc CC q => ?_⟩, gm, F.kp⟩
  have KX : K.In s.heap := e0.mod.kin.keeps fun b o e => (e0.bs b o e).1
  obtain ⟨rfl, q⟩ := q
  have hb := b s us KX (by rw [List.append_nil, ← r.length]; rfl)
  rw [List.append_nil] at hb
  obtain ⟨oc, od', kV, doc, pm, an, cdv, ct, osl, rfl, lk, hcd⟩ := F.ex
  refine LamX.run_ofS (N := ["_law_call", "_law_told_here", "e"]) lk hcd scTold hr e0 hb r rfl fun hr' => ?_
  have nd := scTold.nd
  refine ⟨_, pss_cons (ps_set (i := 1) nd rfl (.inl rfl) (pe_tup pa_nil))
    (pss_cons (ps_try_each (l := [⟨.ref CB, 2, fun a cls d => _⟩, ⟨.ref C, 2, fun a cls d => _⟩]) rfl rfl nd L2.takes0
        (fun W pn xe tk _ => pss_one (ps_expr (pe_deedS (i := 0) (E := WE W) CC rfl G (hr'.mono (by omega)) (fun σ => passAt tk σ) rfl (.inl rfl))))
        (.more ⟨rfl, by decide, .inl T1.g⟩ rfl rfl (fun a oe cls d pn hz hf => pss_one (ps_set (i := 1) nd rfl (.inl rfl) (pe_tup (pa_cons pe_str (pa_cons (pe_xf T1.xf T1.noV hz hf (pv 2)) pa_nil)))))
        (.more ⟨rfl, by decide, .inl T2.g⟩ rfl rfl (fun a oe cls d pn hz hf => pss_one (ps_set (i := 1) nd rfl (.inl rfl) (pe_tup (pa_cons pe_str (pa_cons (pe_xf T2.xf T2.noV hz hf (pv 2)) pa_nil))))) .none)))
    (pss_one (ps_ret (pv 1)))), ?_⟩
  refine ⟨by show 0 ≤ sizeLine; decide, fun p np => ?_⟩
  have s0 := same_new (o := HO.tup []) np
  have ep : upd H p (HO.tup []) p = some (.tup []) := upd_same
  have hf0 : LamAt (upd H p (HO.tup [])) f FF bb := hf.ext (ExtN.same s0)
  have hc0 := s0 _ _ hc
  generalize upd H p (HO.tup []) = H0 at s0 ep hf0 hc0 ⊢
  dsimp only [gName, List.set]
  refine ⟨rfl, hf0, hc0, ?_⟩
  rcases q p H0 s0 ep with ⟨q1, q2⟩ | ⟨q1, q2⟩ | ⟨v, q1, q2⟩
  · exact q1 _ _ fun v H1 x1 t1 => ⟨_, rfl, q2 H1 x1 t1⟩
  · refine q1 _ _ fun g ng d H1 s1 nd1 e1 => ⟨true, T1.te, fun _ a na => ?_, fun z => nomatch z⟩
    have s2 := (same_new (o := HO.tup [.int 1, .int 1]) ng).trans s1
    have eg := s1 _ _ (show upd H0 g (HO.tup [.int 1, .int 1]) g = some (.tup [.int 1, .int 1]) from upd_same)
    refine ⟨_, rfl, rfl, rfl, d, _, .ref g, rfl, e1, by simp [List.lookup], by show 2 ≤ sizeLine; decide, fun r nr => ?_⟩
    exact ⟨_, rfl, q2 r g _ (s2.trans (same_new nr)) (same_new nr _ _ eg) upd_same⟩
  · refine q1 _ _ fun d H1 s1 nd1 e1 => ⟨false, nE, (fun z => nomatch z), fun _ => ⟨true, T2.te, fun _ a na => ?_, fun z => nomatch z⟩⟩
    refine ⟨_, rfl, rfl, rfl, d, _, v, rfl, e1, by simp [List.lookup], by show 2 ≤ sizeLine; decide, fun r nr => ?_⟩
    exact ⟨_, rfl, q2 r _ (s1.trans (same_new nr)) upd_same⟩
def sq1 (C CB W Co S Pr Pe : Addr) : List (Option V) → Hp → VK → XK → Prop := fun ws H Q E => ∃ (x v : V), ws = [some x, some v] ∧ spRg C CB W Co S Pr Pe qE [x, .int (-1), .str "half", v] H Q E
theorem nsL1 : NScope ["_law_kind", "_law_odd"] [] ["_law_kind", "_law_odd"] (lamScope lx1) := nscope_by (by decide +kernel)
theorem fr1 : ∀ y ∈ (lamScope lx1).names, y.2 = .free → (defScope sErr).names.lookup y.1 = some .cell ∨ (defScope sErr).names.lookup y.1 = some .free := by decide +kernel
theorem in1 : ∀ y ∈ (["_law_kind", "_law_odd"] : List Str), (y, NameKind.free) ∈ (lamScope lx1).names := by decide +kernel
theorem lok1 (DA : DefOk P w K mg base (L2.CX P w) "rounding_gap" 16 ["column", "scale", "way", "many"] (spRg C CB W Co S Pr Pe qE)) : LOk P w K mg base (L2.CX P w) 17 f (lamF X (lamArgs lx1) (lamScope lx1) c') (lamBody lx1) ["_law_kind", "_law_odd"] (sq1 C CB W Co S Pr Pe) := by
  refine lok_of (N := ["_law_kind", "_law_odd"]) (ps := []) nsL1 rfl (fun dV doc pm ctv s us hl hd => ?_) (fun A outer s H ws Q E hr hl h => ?_)
  · obtain rfl := List.length_eq_zero_iff.mp hl
    rcases hd with ⟨_, rfl⟩ | ⟨n, _⟩
    · exact .of_eq rfl
    · exact (n rfl).elim
  · obtain ⟨x, v, rfl, h⟩ := h
    exact ⟨_, (pe_def (E := E) DA hr (by decide) (by rfl) (passes_call (takes_of rfl rfl rfl rfl) fun _ _ _ _ z => z) (pa_cons (pv 0) (pa_cons (pe_un un_neg pe_int) (pa_cons pe_str (pa_cons (pv 1) pa_nil))))), _, rfl, 1, rfl, _, rfl, h⟩
def sq2 (C CB W Co S Pr Pe : Addr) : List (Option V) → Hp → VK → XK → Prop := fun ws H Q E => ∃ (v : V), ws = [some v] ∧ ∀ g : Addr, H g = none → spRg C CB W Co S Pr Pe qE [.ref g, .int (-1), .str "half", v] (upd H g (.tup [.int 1, .int 1])) Q E
theorem nsL2 : NScope ["_law_odd"] [] ["_law_odd"] (lamScope lx2) := nscope_by (by decide +kernel)
theorem fr2 : ∀ y ∈ (lamScope lx2).names, y.2 = .free → (defScope sErr).names.lookup y.1 = some .cell ∨ (defScope sErr).names.lookup y.1 = some .free := by decide +kernel
theorem in2 : ∀ y ∈ (["_law_odd"] : List Str), (y, NameKind.free) ∈ (lamScope lx2).names := by decide +kernel
theorem lok2 (DA : DefOk P w K mg base (L2.CX P w) "rounding_gap" 16 ["column", "scale", "way", "many"] (spRg C CB W Co S Pr Pe qE)) : LOk P w K mg base (L2.CX P w) 17 f (lamF X (lamArgs lx2) (lamScope lx2) c') (lamBody lx2) ["_law_odd"] (sq2 C CB W Co S Pr Pe) := by
  refine lok_of (N := ["_law_odd"]) (ps := []) nsL2 rfl (fun dV doc pm ctv s us hl hd => ?_) (fun A outer s H ws Q E hr hl h => ?_)
  · obtain rfl := List.length_eq_zero_iff.mp hl
    rcases hd with ⟨_, rfl⟩ | ⟨n, _⟩
    · exact .of_eq rfl
    · exact (n rfl).elim
  · obtain ⟨v, rfl, h⟩ := h
    exact ⟨_, (pe_def (E := E) DA hr (by decide) (by rfl) (passes_call (takes_of rfl rfl rfl rfl) fun _ _ _ _ z => z) (pa_cons (pe_tup (pa_cons pe_int (pa_cons pe_int pa_nil))) (pa_cons (pe_un un_neg pe_int) (pa_cons pe_str (pa_cons (pv 0) pa_nil))))), (by show 2 ≤ sizeLine; decide), fun p np => ⟨1, rfl, _, rfl, h p np⟩⟩
def sq3 (C CB W Co S Pr Pe : Addr) : List (Option V) → Hp → VK → XK → Prop := fun ws H Q E => ∃ (x y v : V), ws = [some x, some y, some v] ∧ spRg C CB W Co S Pr Pe qE [x, y, .str "half", v] H Q E
theorem nsL3 : NScope ["_law_kind", "_law_scale", "_law_odd"] [] ["_law_kind", "_law_scale", "_law_odd"] (lamScope lx3) := nscope_by (by decide +kernel)
theorem fr3 : ∀ y ∈ (lamScope lx3).names, y.2 = .free → (defScope sErr).names.lookup y.1 = some .cell ∨ (defScope sErr).names.lookup y.1 = some .free := by decide +kernel
theorem in3 : ∀ y ∈ (["_law_kind", "_law_scale", "_law_odd"] : List Str), (y, NameKind.free) ∈ (lamScope lx3).names := by decide +kernel
theorem lok3 (DA : DefOk P w K mg base (L2.CX P w) "rounding_gap" 16 ["column", "scale", "way", "many"] (spRg C CB W Co S Pr Pe qE)) : LOk P w K mg base (L2.CX P w) 17 f (lamF X (lamArgs lx3) (lamScope lx3) c') (lamBody lx3) ["_law_kind", "_law_scale", "_law_odd"] (sq3 C CB W Co S Pr Pe) := by
  refine lok_of (N := ["_law_kind", "_law_scale", "_law_odd"]) (ps := []) nsL3 rfl (fun dV doc pm ctv s us hl hd => ?_) (fun A outer s H ws Q E hr hl h => ?_)
  · obtain rfl := List.length_eq_zero_iff.mp hl
    rcases hd with ⟨_, rfl⟩ | ⟨n, _⟩
    · exact .of_eq rfl
    · exact (n rfl).elim
  · obtain ⟨x, y, v, rfl, h⟩ := h
    exact ⟨_, (pe_def (E := E) DA hr (by decide) (by rfl) (passes_call (takes_of rfl rfl rfl rfl) fun _ _ _ _ z => z) (pa_cons (pv 0) (pa_cons (pv 1) (pa_cons pe_str (pa_cons (pv 2) pa_nil))))), _, rfl, _, rfl, _, rfl, h⟩
def sq4 (C CB W Co S Pr Pe : Addr) : List (Option V) → Hp → VK → XK → Prop := fun ws H Q E => ∃ (x y z v : V), ws = [some x, some y, some z, some v] ∧ spRg C CB W Co S Pr Pe qE [x, y, z, v] H Q E
theorem nsL4 : NScope ["_law_kind", "_law_scale", "_law_way", "_law_odd"] [] ["_law_kind", "_law_scale", "_law_way", "_law_odd"] (lamScope lx4) := nscope_by (by decide +kernel)
theorem fr4 : ∀ y ∈ (lamScope lx4).names, y.2 = .free → (defScope sErr).names.lookup y.1 = some .cell ∨ (defScope sErr).names.lookup y.1 = some .free := by decide +kernel
theorem in4 : ∀ y ∈ (["_law_kind", "_law_scale", "_law_way", "_law_odd"] : List Str), (y, NameKind.free) ∈ (lamScope lx4).names := by decide +kernel
theorem lok4 (DA : DefOk P w K mg base (L2.CX P w) "rounding_gap" 16 ["column", "scale", "way", "many"] (spRg C CB W Co S Pr Pe qE)) : LOk P w K mg base (L2.CX P w) 17 f (lamF X (lamArgs lx4) (lamScope lx4) c') (lamBody lx4) ["_law_kind", "_law_scale", "_law_way", "_law_odd"] (sq4 C CB W Co S Pr Pe) := by
  refine lok_of (N := ["_law_kind", "_law_scale", "_law_way", "_law_odd"]) (ps := []) nsL4 rfl (fun dV doc pm ctv s us hl hd => ?_) (fun A outer s H ws Q E hr hl h => ?_)
  · obtain rfl := List.length_eq_zero_iff.mp hl
    rcases hd with ⟨_, rfl⟩ | ⟨n, _⟩
    · exact .of_eq rfl
    · exact (n rfl).elim
  · obtain ⟨x, y, z, v, rfl, h⟩ := h
    exact ⟨_, (pe_def (E := E) DA hr (by decide) (by rfl) (passes_call (takes_of rfl rfl rfl rfl) fun _ _ _ _ z => z) (pa_cons (pv 0) (pa_cons (pv 1) (pa_cons (pv 2) (pa_cons (pv 3) pa_nil))))), _, rfl, _, rfl, _, rfl, _, rfl, h⟩
def sq5 (C CB W Co S Pr Pe : Addr) : List (Option V) → Hp → VK → XK → Prop := fun ws H Q E => ∃ (x y z v : V), ws = [some x, some y, some z, some v] ∧ spRg C CB W Co S Pr Pe qE [x, y, z, v] H Q E
theorem nsL5 : NScope ["_law_kind", "_law_scale", "_law_way", "_law_many"] [] ["_law_kind", "_law_scale", "_law_way", "_law_many"] (lamScope lx5) := nscope_by (by decide +kernel)
theorem fr5 : ∀ y ∈ (lamScope lx5).names, y.2 = .free → (defScope sErr).names.lookup y.1 = some .cell ∨ (defScope sErr).names.lookup y.1 = some .free := by decide +kernel
theorem in5 : ∀ y ∈ (["_law_kind", "_law_scale", "_law_way", "_law_many"] : List Str), (y, NameKind.free) ∈ (lamScope lx5).names := by decide +kernel
theorem lok5 (DA : DefOk P w K mg base (L2.CX P w) "rounding_gap" 16 ["column", "scale", "way", "many"] (spRg C CB W Co S Pr Pe qE)) : LOk P w K mg base (L2.CX P w) 17 f (lamF X (lamArgs lx5) (lamScope lx5) c') (lamBody lx5) ["_law_kind", "_law_scale", "_law_way", "_law_many"] (sq5 C CB W Co S Pr Pe) := by
  refine lok_of (N := ["_law_kind", "_law_scale", "_law_way", "_law_many"]) (ps := []) nsL5 rfl (fun dV doc pm ctv s us hl hd => ?_) (fun A outer s H ws Q E hr hl h => ?_)
  · obtain rfl := List.length_eq_zero_iff.mp hl
    rcases hd with ⟨_, rfl⟩ | ⟨n, _⟩
    · exact .of_eq rfl
    · exact (n rfl).elim
  · obtain ⟨x, y, z, v, rfl, h⟩ := h
    exact ⟨_, (pe_def (E := E) DA hr (by decide) (by rfl) (passes_call (takes_of rfl rfl rfl rfl) fun _ _ _ _ z => z) (pa_cons (pv 0) (pa_cons (pv 1) (pa_cons (pv 2) (pa_cons (pv 3) pa_nil))))), _, rfl, _, rfl, _, rfl, _, rfl, h⟩
theorem scErr : FnScope ["_law_pen_here", "_law_kind", "_law_scale", "_law_way", "_law_many", "_law_odd"] ["_law_pen_here", "_law_kind", "_law_scale", "_law_way", "_law_many"] (defScope sErr) := ⟨rfl, rfl, rfl, by decide +kernel, rfl, by decide +kernel, by decide +kernel⟩
theorem PenG.extN {a b c : Str} {H H' : Hp} {d : Addr} {B : Int} (h : PenG a b c H d B) (e : ExtN H H') : PenG a b c H' d B := by
  obtain ⟨p, ns, m, l, e1, e2, r⟩ := h.ex
  exact ⟨p, ns, m, l, e _ _ e1 (fun ps z => by cases z), e _ _ e2 (fun ps z => by cases z), r⟩
theorem CAt.extN {a : Addr} {H H' : Hp} {n c : Nat} {m : Str} (h : CAt Co S H a n c m) (z : ExtN H H') : CAt Co S H' a n c m := by
  obtain ⟨dx, sh, e, ds, es⟩ := h
  exact ⟨dx, sh, z _ _ e (fun ps z => by cases z), ds, z _ _ es (fun ps z => by cases z)⟩
theorem CAt.keep {a d : Addr} {H H' : Hp} {n c : Nat} {m : Str} {B : Int} (h : CAt Co S H a n c m) (hp : Pen H d B) (k : KeepP d H H') : CAt Co S H' a n c m := by
  obtain ⟨p, ns, mm, l, ed, _⟩ := hp.ex
  obtain ⟨dx, sh, e, ds, es⟩ := h
  exact ⟨dx, sh, k _ _ (ne_of e ed (by intro z; cases z)) e, ds, k _ _ (ne_of es ed (by intro z; cases z)) es⟩
/-- all but the pen's dict and the tables is as it was -/
def KeepX (d : Addr) (H H' : Hp) : Prop := ∀ x o, x ≠ d → H x = some o → (∀ ps, o ≠ .tbl ps) → H' x = some o
theorem KeepX.extN {d : Addr} {H H1 H2 : Hp} (k : KeepX d H H1) (e : ExtN H1 H2) : KeepX d H H2 := fun x o n h t => e _ _ (k x o n h t) t
theorem KeepX.of {d : Addr} {H H1 : Hp} (k : KeepP d H H1) : KeepX d H H1 := fun x o n h t => k.k x o n h
theorem tabs_keepX {T : List (Addr × Str)} {H H' : Hp} {d : Addr} {B : Int} (h : Tabs T H) (hp : Pen H d B) (k : KeepP d H H') : Tabs T H' := fun p hq => by
  obtain ⟨pp, ns, cc, ll, ed, _⟩ := hp.ex
  obtain ⟨ps, h1, h2, h3⟩ := h p hq
  refine ⟨ps, k _ _ (ne_of h1 ed (by intro z; cases z)) h1, h2, fun pos cv hc => ?_⟩
  obtain ⟨c, e1, e2⟩ := h3 pos cv hc
  exact ⟨c, e1, k _ _ (ne_of e2 ed (by intro z; cases z)) e2⟩
/-- what is refused of a crowd, and a crowd that is right -/
theorem crowd_scale {vs : List V} {H : Hp} {Q : VK} {E : XK} {a : Addr} {wh c : Nat} {mk : Str} {y z v : V} (hc : CAt Co S H a wh c mk) (hm : mk ∈ marksL) (ty : Thing H y) (tz : Thing H z) (tv : Thing H v) (hy : isWh y = false) (h : Bad C "value" y H E) : spRg C CB W Co S Pr Pe qE [.ref a, y, z, v] H Q E :=
  ⟨.ref a, y, z, v, rfl, ty, tz, tv, .inr ⟨a, wh, c, mk, rfl, hc, hm, fun _ => h, fun e => absurd (hy.symm.trans e) (by decide), fun e => absurd (hy.symm.trans e) (by decide), fun n t k e => by rw [e, isWh_cast] at hy; cases hy⟩⟩
theorem crowd_way {H : Hp} {Q : VK} {E : XK} {a : Addr} {wh c n : Nat} {mk : Str} {z v : V} (hc : CAt Co S H a wh c mk) (hm : mk ∈ marksL) (tz : Thing H z) (tv : Thing H v) (hz : isWay z = false) (h : Bad C "value" z H E) : spRg C CB W Co S Pr Pe qE [.ref a, .int (n : Nat), z, v] H Q E :=
  ⟨.ref a, .int (n : Nat), z, v, rfl, .int _, tz, tv, .inr ⟨a, wh, c, mk, rfl, hc, hm, (fun e => by rw [isWh_cast] at e; cases e), fun _ _ => h, fun _ e => absurd (hz.symm.trans e) (by decide), fun n t k _ e _ ht => by rw [e, isWay_ok ht] at hz; cases hz⟩⟩
theorem crowd_many {H : Hp} {Q : VK} {E : XK} {a : Addr} {wh c n : Nat} {mk t : Str} {v : V} (hc : CAt Co S H a wh c mk) (hm : mk ∈ marksL) (ht : t ∈ waysL) (tv : Thing H v) (hv : isOne v = false) (h : Bad C "value" v H E) : spRg C CB W Co S Pr Pe qE [.ref a, .int (n : Nat), .str t, v] H Q E :=
  ⟨.ref a, .int (n : Nat), .str t, v, rfl, .int _, .str _, tv, .inr ⟨a, wh, c, mk, rfl, hc, hm, (fun e => by rw [isWh_cast] at e; cases e), (fun _ e => by rw [isWay_ok ht] at e; cases e), fun _ _ _ => h, fun n t k _ _ e _ hk => by
    rw [e] at hv
    exact absurd hv (by rw [show isOne (.int k) = decide (1 ≤ k) from rfl, decide_eq_true hk]; decide)⟩⟩
theorem crowd_fine {H : Hp} {Q : VK} {E : XK} {a : Addr} {wh c n : Nat} {mk t : Str} {k : Int} (hc : CAt Co S H a wh c mk) (hm : mk ∈ marksL) (ht : t ∈ waysL) (hk : 1 ≤ k) (ok : KdOk wh c mk) (hn : n ≤ 10) (hk2 : k < 2 ^ 200) (hT : Tabs [(Pr, qR), (Pe, qE)] H)
    (h : ∀ (r : Addr) (H' : Hp), ExtN H H' → Tabs [(Pr, qR), (Pe, qE)] H' → RgTells W wh c n mk t k H' r → Q (.ref r) H') : spRg C CB W Co S Pr Pe qE [.ref a, .int (n : Nat), .str t, .int k] H Q E :=
  ⟨.ref a, .int (n : Nat), .str t, .int k, rfl, .int _, .str _, .int _, .inr ⟨a, wh, c, mk, rfl, hc, hm, (fun e => by rw [isWh_cast] at e; cases e), (fun _ e => by rw [isWay_ok ht] at e; cases e), (fun _ _ e => by rw [show isOne (.int k) = decide (1 ≤ k) from rfl, decide_eq_true hk] at e; cases e), fun n' t' k' e1 e2 e3 _ _ => by
    obtain rfl : n = n' := by have := V.int.inj e1; omega
    obtain rfl := V.str.inj e2
    obtain rfl := V.int.inj e3
    exact ⟨ok, hn, hk2, hT, h⟩⟩⟩
def spErrs (Pr Pe Co S : Addr) : Sp := fun vs H Q _ => ∃ (d a : Addr) (wh c n : Nat) (mk t : Str) (k B : Int), vs = [.ref d, .ref a, .int n, .str t, .int k] ∧ CAt Co S H a wh c mk ∧ KdOk wh c mk ∧ t ∈ waysL ∧ n ≤ 10 ∧ 1 ≤ k ∧ k < 2 ^ 200 ∧ Pen H d B ∧ B ≤ 900000000 ∧ Tabs [(Pr, qR), (Pe, qE)] H ∧ ∀ H', KeepX d H H' → Pen H' d (B + 10) → Tabs [(Pr, qR), (Pe, qE)] H' → Q (.bl true) H'
theorem ok_errs {c0 : Addr} (A : AtC K mg "_law_errors_right" sErr ["_law_pen_here", "_law_kind", "_law_scale", "_law_way", "_law_many"] c0) (TB : TabB base mg c0 Pe) (nP : Pr ≠ Pe) (D2 : DefOk P w K mg base CX0 "_law_pick" 2 ["_law_pen_here", "_law_menu"] spPick)
    (DA : DefOk P w K mg base (L2.CX P w) "rounding_gap" 16 ["column", "scale", "way", "many"] (spRg C CB W Co S Pr Pe qE)) (D10 : LamDefAt P w K mg base "_law_told" 18 (spTold C CB [(Pr, qR), (Pe, qE)])) :
    DefOk P w K mg base CX0 "_law_errors_right" 19 ["_law_pen_here", "_law_kind", "_law_scale", "_law_way", "_law_many"] (spErrs Pr Pe Co S) := by
  obtain ⟨g, oc, od0, kV, doc, pm, an, ct, osl, lk, hcd, gm, kp, bd⟩ := A.ex
  refine ⟨g, _, fn_of lk hcd scErr (fun vs H Q E h => ?_) (fun A outer s H vs Q E hr h => ?_), gm, kp, bd⟩
  · obtain ⟨d, a, wh, c, n, mk, t, k, B, rfl, _⟩ := h
    rfl
  · obtain ⟨d, a, wh, c, n, mk, t, k, B0, rfl, hc, ok, ht, hn, hk, hk2, hp, hB, hT, q⟩ := h
    have nd := scErr.nd
    have hu64 := hr.units
    have hmk := ok.2.2.2
    have hm : (Pe, qE) ∈ [(Pr, qR), (Pe, qE)] := by simp
    have hu : ∀ p ∈ [(Pr, qR), (Pe, qE)], p.1 = Pe → p.2 = qE := fun p hp e => by
      simp only [List.mem_cons, List.not_mem_nil, or_false] at hp
      rcases hp with rfl | rfl
      · exact absurd e nP
      · rfl
    refine ⟨_, pss_cons (ps_set (i := 5) nd rfl (.inr rfl) (pe_def D2 hr (by decide) (by rfl) pass0 (pa_cons (pv 0) (pa_cons (pe_lst (pa_cons pe_int (pa_cons (pe_un un_neg pe_int) (pa_cons pe_bl (pa_cons pe_non (pa_cons pe_str pa_nil)))))) pa_nil))))
      (pss_cons (ps_if (pt_cmpR (op_neTwo hu64) (pe_lamdir D10 (show 17 < 18 by decide) hr (by decide) (fun f c' => lok1 DA) (pe_lamV TB rfl hm hu rfl rfl fr1) (js := [1, 5]) fr1 in1 rfl (by rfl)) (pe_tup (pa_cons pe_str (pa_cons (pe_un un_neg pe_int) pa_nil))) (nomark _)) (pss_one (ps_ret pe_bl)) pss_nil)
      (pss_cons (ps_if (pt_cmpR (op_neD hu64) (pe_lamdir D10 (show 17 < 18 by decide) hr (by decide) (fun f c' => lok2 DA) (pe_lamV TB rfl hm hu rfl rfl fr2) (js := [5]) fr2 in2 rfl (by rfl)) (pe_tup (pa_cons pe_str (pa_cons (pe_tup (pa_cons pe_int (pa_cons pe_int pa_nil))) pa_nil))) (nomark _)) (pss_one (ps_ret pe_bl)) pss_nil)
      (pss_cons (ps_if (pt_cmpR (op_neTwo hu64) (pe_lamdir D10 (show 17 < 18 by decide) hr (by decide) (fun f c' => lok3 DA) (pe_lamV TB rfl hm hu rfl rfl fr3) (js := [1, 2, 5]) fr3 in3 rfl (by rfl)) (pe_tup (pa_cons pe_str (pa_cons pe_str pa_nil))) (nomark _)) (pss_one (ps_ret pe_bl)) pss_nil)
      (pss_cons (ps_if (pt_cmpR (op_neTwo hu64) (pe_lamdir D10 (show 17 < 18 by decide) hr (by decide) (fun f c' => lok4 DA) (pe_lamV TB rfl hm hu rfl rfl fr4) (js := [1, 2, 3, 5]) fr4 in4 rfl (by rfl)) (pe_tup (pa_cons pe_str (pa_cons (pv 5) pa_nil))) (nomark _)) (pss_one (ps_ret pe_bl)) pss_nil)
      (pss_one (ps_ret (pe_cmpR (op_eqTwo hu64) (pe_lamdir D10 (show 17 < 18 by decide) hr (by decide) (fun f c' => lok5 DA) (pe_lamV TB rfl hm hu rfl rfl fr5) (js := [1, 2, 3, 4]) fr5 in5 rfl (by rfl)) (pe_tup pa_nil) (nomark _)))))))), ?_⟩
    refine ⟨_, rfl, 1, rfl, by show 5 ≤ sizeLine; decide, fun g1 m1 => ?_⟩
    have s1 := same_new (o := HO.lst [.int 0, .int (-1), .bl true, .non, .str "3"]) m1
    refine ⟨d, g1, _, _, rfl, upd_same, by simp, by show 5 ≤ 1000; decide, hp.same s1, by omega, fun ov H1 hov k1 p1 => ?_⟩
    have hov' : isOne ov = false ∧ okF ov = true := by
      simp only [List.mem_cons, List.not_mem_nil, or_false] at hov
      rcases hov with rfl | rfl | rfl | rfl | rfl
      · exact ⟨by decide +kernel, by decide +kernel⟩
      · exact ⟨by decide +kernel, by decide +kernel⟩
      · exact ⟨by decide +kernel, by decide +kernel⟩
      · exact ⟨by decide +kernel, by decide +kernel⟩
      · exact ⟨by decide +kernel, by decide +kernel⟩
    obtain ⟨o1, fo⟩ := hov'
    have tov : ∀ H, Thing H ov := fun H => (Odd.flat (H := H) fo).thing
    have sov : Selfy ov := (Odd.flat (H := H) fo).selfy
    have kk := (KeepG.same s1).trans k1
    have c1 : CAt Co S H1 a wh c mk := CAt.keep hc hp kk
    have T1 := tabs_keepX hT hp kk
    have kx := KeepX.of kk
    have px := p1.mono (show _ ≤ B0 + 10 by omega)
    clear k1 kk p1 s1 m1 hov hT hc hp
    dsimp only [gName, List.set]
    have two : ∀ {v : V} {z : Str}, Selfy v → ∀ u ∈ [V.str z, v], Selfy u := fun h u hu => by
      simp only [List.mem_cons, List.not_mem_nil, or_false] at hu
      rcases hu with rfl | rfl
      · exact .inl rfl
      · exact h
    have hHalf : isWay (.str "half") = false := by decide +kernel
    have hNeg : isWh (.int (-1)) = false := by decide +kernel
    -- the scale
    refine ⟨T1, fun f1 c1' A1 x1 T2 _ l1 d1 => ⟨f1, c1', rfl, l1, d1, rfl, fun p H0 s0 ep => .inr (.inr ⟨.int (-1), fun Q' E' h => ⟨.ref a, ov, rfl, crowd_scale (vs := []) ((CAt.extN c1 x1).same s0) hmk (.int _) (.str _) (tov _) hNeg h⟩, fun r H11 s1 er => ?_⟩)⟩⟩
    refine ⟨1, rfl, by show 2 ≤ sizeLine; decide, fun r2 nr => ⟨r, r2, _, rfl, rfl, SqT.of (same_new nr _ _ er), SqT.of upd_same, two (.inl rfl), _, rfl, iteF ?_⟩⟩
    have z1 : ExtN H1 (upd H11 r2 (HO.tup [.str "value", .int (-1)])) := x1.trans (ExtN.same ((s0.trans s1).trans (same_new nr)))
    have U1 := T2.ext ((s0.trans s1).trans (same_new (o := HO.tup [.str "value", .int (-1)]) nr))
    generalize upd H11 r2 (HO.tup [.str "value", .int (-1)]) = B1 at z1 U1 ⊢
    have G1 := CAt.extN c1 z1
    clear x1 T2 l1 d1 s0 ep s1 er nr
    -- no column
    refine ⟨U1, fun f1 c1' A1 x1 T2 _ l1 d1 => ⟨f1, c1', rfl, l1, d1, rfl, fun p H0 s0 ep => .inr (.inl ⟨fun Q' E' h => ⟨ov, rfl, fun g ng => ⟨.ref g, .int (-1), .str "half", ov, rfl, .int _, .str _, tov _, .inl ⟨.tup upd_same, h g ng⟩⟩⟩, fun r g H11 s1 eg er => ?_⟩)⟩⟩
    refine ⟨by show 2 ≤ sizeLine; decide, fun g2 ng2 => ⟨by show 2 ≤ sizeLine; decide, fun r2 nr => ?_⟩⟩
    have t1 := same_new (o := HO.tup [.int 1, .int 1]) ng2
    have t2 := same_new (o := HO.tup [.str "column", .ref g2]) nr
    have eg2 := t2 _ _ (show upd H11 g2 (HO.tup [.int 1, .int 1]) g2 = some (.tup [.int 1, .int 1]) from upd_same)
    have er2 : upd (upd H11 g2 (HO.tup [.int 1, .int 1])) r2 (HO.tup [.str "column", .ref g2]) r2 = some (.tup [.str "column", .ref g2]) := upd_same
    have t12 := t1.trans t2
    have z2 : ExtN H1 (upd (upd H11 g2 (HO.tup [.int 1, .int 1])) r2 (HO.tup [.str "column", .ref g2])) := z1.trans (x1.trans (ExtN.same ((s0.trans s1).trans t12)))
    have U2 := T2.ext ((s0.trans s1).trans t12)
    have er' := t12 _ _ er
    have eg' := t12 _ _ eg
    generalize upd (upd H11 g2 (HO.tup [.int 1, .int 1])) r2 (HO.tup [.str "column", .ref g2]) = B2 at z2 U2 er' eg' eg2 er2 ⊢
    have dp : ∀ {r g : Addr}, B2 g = some (.tup [.int 1, .int 1]) → B2 r = some (.tup [.str "column", .ref g]) → Dp K B2 (.ref r) (.tuple [.str "column", .tuple [.int 1, .int 1]]) := fun h1 h2 => .tup (SqT.of h2) (.cons (.str _) (.cons (.tup (SqT.of h1) (.cons (.int 1) (.cons (.int 1) .nil))) .nil))
    have shp : SeqAt.shaped (.tuple [.str "column", .tuple [.int 1, .int 1]]) = true := by decide +kernel
    refine ⟨_, _, dp eg' er', dp eg2 er2, shp, shp, ?_⟩
    rw [SeqAt.eqv_refl _ (SeqAt.canLay_of_shaped shp)]
    refine ⟨_, rfl, iteF ?_⟩
    have G2 := CAt.extN c1 z2
    clear x1 T2 l1 d1 s0 ep s1 er nr z1 G1 U1 dp eg' er' eg2 er2 t1 t2 t12 eg ng2
    -- the way
    refine ⟨U2, fun f1 c1' A1 x1 T2 _ l1 d1 => ⟨f1, c1', rfl, l1, d1, rfl, fun p H0 s0 ep => .inr (.inr ⟨.str "half", fun Q' E' h => ⟨.ref a, .int n, ov, rfl, crowd_way ((CAt.extN G2 x1).same s0) hmk (.str _) (tov _) hHalf h⟩, fun r H11 s1 er => ?_⟩)⟩⟩
    refine ⟨by show 2 ≤ sizeLine; decide, fun r2 nr => ⟨r, r2, _, rfl, rfl, SqT.of (same_new nr _ _ er), SqT.of upd_same, two (.inl rfl), _, rfl, iteF ?_⟩⟩
    have z3 : ExtN H1 (upd H11 r2 (HO.tup [.str "value", .str "half"])) := z2.trans (x1.trans (ExtN.same ((s0.trans s1).trans (same_new nr))))
    have U3 := T2.ext ((s0.trans s1).trans (same_new (o := HO.tup [.str "value", .str "half"]) nr))
    generalize upd H11 r2 (HO.tup [.str "value", .str "half"]) = B3 at z3 U3 ⊢
    have G3 := CAt.extN c1 z3
    clear x1 T2 l1 d1 s0 ep s1 er nr z2 G2 U2
    -- how many
    refine ⟨U3, fun f1 c1' A1 x1 T2 _ l1 d1 => ⟨f1, c1', rfl, l1, d1, rfl, fun p H0 s0 ep => .inr (.inr ⟨ov, fun Q' E' h => ⟨.ref a, .int n, .str t, ov, rfl, crowd_many ((CAt.extN G3 x1).same s0) hmk ht (tov _) o1 h⟩, fun r H11 s1 er => ?_⟩)⟩⟩
    refine ⟨_, rfl, by show 2 ≤ sizeLine; decide, fun r2 nr => ⟨r, r2, _, rfl, rfl, SqT.of (same_new nr _ _ er), SqT.of upd_same, two sov, _, rfl, iteF ?_⟩⟩
    have z4 : ExtN H1 (upd H11 r2 (HO.tup [.str "value", ov])) := z3.trans (x1.trans (ExtN.same ((s0.trans s1).trans (same_new nr))))
    have U4 := T2.ext ((s0.trans s1).trans (same_new (o := HO.tup [.str "value", ov]) nr))
    generalize upd H11 r2 (HO.tup [.str "value", ov]) = B4 at z4 U4 ⊢
    have G4 := CAt.extN c1 z4
    clear x1 T2 l1 d1 s0 ep s1 er nr z3 G3 U3
    -- nothing wrong
    refine ⟨U4, fun f1 c1' A1 x1 T2 _ l1 d1 => ⟨f1, c1', rfl, l1, d1, rfl, fun p H0 s0 ep => .inl ⟨fun Q' E' h => ⟨.ref a, .int n, .str t, .int k, rfl, crowd_fine ((CAt.extN G4 x1).same s0) hmk ht hk ok hn hk2 (T2.ext s0) fun r H' x' t' _ => h _ H' x' t'⟩, fun H11 x2 T3 => ?_⟩⟩⟩
    refine ⟨by show 0 ≤ sizeLine; decide, fun r2 nr => ⟨p, r2, _, rfl, rfl, SqT.of (same_new nr _ _ (x2 _ _ ep (fun ps z => by cases z))), SqT.of upd_same, (fun u hu => by cases hu), ?_⟩⟩
    have z5 := z4.trans ((x1.trans (ExtN.same s0)).trans (x2.trans (ExtN.same (same_new (o := HO.tup []) nr))))
    have U5 := T3.ext (same_new (o := HO.tup []) nr)
    exact q _ (kx.extN z5) (PenG.extN px z5) U5
end
end K53

/-! k53: the law. -/
namespace K53
open PySem PySem.Spec PyProof.Rows L2 LamX NdefX Own
abbrev sLaw : Stmt := topS 55
section
variable {P : Program} {w : World} {K : PySem.W.Frag} {mg : Str → Option Value} {base : Heap} {C CB CN W Co S Pr Pe : Addr} {H H' : Hp}
theorem scLaw : FnScope ["_law_script", "_law_pen_here", "_law_lap", "_law_kind", "_law_way", "_law_scale", "_law_many", "_law_told_here", "_law_found", "_law_unit", "_law_go", "_law_gap_here"] ["_law_script"] (defScope sLaw) := ⟨rfl, rfl, rfl, by decide +kernel, rfl, by decide +kernel, by decide +kernel⟩
def spLaw (K : PySem.W.Frag) (Pr Pe : Addr) : Sp := fun vs H Q _ => ∃ (a : Addr) (ns : List Int), vs = [.ref a] ∧ SqL K H a (ns.map V.int) ∧ ns.length ≤ 63 ∧ Tabs [(Pr, qR), (Pe, qE)] H ∧ ∀ H', Q (.bl true) H'
theorem Kd.extN {r : Addr} {wh c : Nat} {m : Str} (h : Kd H r wh c m) (x : ExtN H H') : Kd H' r wh c m := x _ _ h (fun ps z => by cases z)
theorem ok_law {f : Addr} {fd : FuncData} (F : Fun K "law" "law" sLaw f fd) (B : Blt mg) (TC : ColC K mg Co) (MC : CMk P w K mg base C CN Co S) (D0 : DefOk P w K mg base CX0 "_law_pen" 1 ["_law_script"] (spBegin K)) (D1 : DefOk P w K mg base CX0 "_law_draw" 1 ["_law_pen_here", "_law_span"] spDraw) (D2 : DefOk P w K mg base CX0 "_law_pick" 2 ["_law_pen_here", "_law_menu"] spPick)
    (D3 : DefOk P w K mg base CX0 "_law_great" 2 ["_law_pen_here", "_law_figures"] spGreat) (D5 : DefOk P w K mg base CX0 "_law_ways" 1 [] spWays) (D6 : DefOk P w K mg base CX0 "_law_tens" 1 ["_law_count"] spTe) (DCo : DefOk P w K mg base CX0 "_law_column" 3 ["_law_pen_here"] spLc) (DH : DefOk P w K mg base CX0 "_law_held" 2 ["_law_one"] spHd)
    (DG : DefOk P w K mg base CX0 "_law_gap" 2 ["_law_kinds_here", "_law_unit", "_law_way"] spGp) (DK : DefOk P w K mg base CX0 "_law_kinds" 4 ["_law_pen_here", "_law_limits", "_law_unit", "_law_many"] spKs) (DE : DefOk P w K mg base CX0 "_law_ends_right" 3 ["_law_told_here", "_law_kind", "_law_scale", "_law_way", "_law_many"] (spEn W))
    (DA : DefOk P w K mg base (L2.CX P w) "rounding_gap" 16 ["column", "scale", "way", "many"] (spRg C CB W Co S Pr Pe qE)) (DEr : DefOk P w K mg base CX0 "_law_errors_right" 19 ["_law_pen_here", "_law_kind", "_law_scale", "_law_way", "_law_many"] (spErrs Pr Pe Co S)) :
    FnOk P w K mg base CX0 20 f fd ["_law_script"] (spLaw K Pr Pe) := by
  refine F.ok scLaw (fun vs H Q E h => ?_) (fun cdv A outer s0 H vs Q E hr h => ?_)
  · obtain ⟨a, ns, rfl, _⟩ := h
    rfl
  · obtain ⟨a, ns, rfl, hs, hl, hT, q⟩ := h
    have nd := scLaw.nd
    refine ⟨_, pss_cons (ps_set (i := 1) nd rfl (.inl rfl) (pe_def D0 hr (by decide) (by rfl) pass0 (pa_cons (pv 0) pa_nil)))
      (pss_cons (ps_for PassesOwn.never rfl (pi_range1 (by rfl) B.range (pa_cons (pe_op op_add pe_int (pe_callB (call_min2 rfl) (by rfl) B.min (by decide +kernel) (pa_cons pe_int (pa_cons (pe_callB call_len_seq (by rfl) B.len PySem.boot_len (pa_cons (pv 0) pa_nil)) pa_nil)))) pa_nil)) (pg_name (i := 2) nd rfl (.inl rfl)) (pss_cons (ps_par (i := 3) (j := 4) (by rfl) nd rfl rfl (by decide) rfl rfl (pa_cons (pe_def DCo hr (by decide) (by rfl) pass0 (pa_cons (pv 1) pa_nil)) (pa_cons (pe_def D2 hr (by decide) (by rfl) pass0 (pa_cons (pv 1) (pa_cons (pe_def0 D5 hr (by decide) (by rfl) pass0) pa_nil))) pa_nil)) (by rfl)) (pss_cons (ps_set (i := 5) nd rfl (.inl rfl) (pe_callB (call_min2 rfl) (by rfl) B.min (by decide +kernel) (pa_cons (pe_def D1 hr (by decide) (by rfl) pass0 (pa_cons (pv 1) (pa_cons (pe_op op_add (pe_ix ix_tup (pv 3) pe_int (fun _ _ => rfl)) pe_int) pa_nil))) (pa_cons (pe_def D1 hr (by decide) (by rfl) pass0 (pa_cons (pv 1) (pa_cons (pe_op op_add (pe_ix ix_tup (pv 3) pe_int (fun _ _ => rfl)) pe_int) pa_nil))) pa_nil)))) (C8.pss_cut (ps_set (i := 6) nd rfl (.inl rfl) (pe_op op_add pe_int (pe_ifExp (pt_cmpR op_gt (pe_def D1 hr (by decide) (by rfl) pass0 (pa_cons (pv 1) (pa_cons pe_int pa_nil))) pe_int (nomark _)) (pe_def D1 hr (by decide) (by rfl) pass0 (pa_cons (pv 1) (pa_cons pe_int pa_nil))) (pe_def D3 hr (by decide) (by rfl) pass0 (pa_cons (pv 1) (pa_cons pe_int pa_nil)))))) (pss_cons (ps_set (i := 7) nd rfl (.inl rfl) (pe_def (E := E0) DA hr (by decide) (by rfl) passL (pa_cons (pe_col3 (C := C) (CN := CN) (E := E0) MC TC hr (by decide) (by rfl) passL (pa_cons (pe_ix ix_tup (pv 3) pe_int (fun _ _ => rfl)) (pa_cons (pe_ix ix_tup (pv 3) pe_int (fun _ _ => rfl)) (pa_cons (pe_ix ix_tup (pv 3) pe_int (fun _ _ => rfl)) pa_nil)))) (pa_cons (pv 5) (pa_cons (pv 4) (pa_cons (pv 6) pa_nil)))))) (pss_cons (ps_set (i := 8) nd rfl (.inl rfl) (pe_def DE hr (by decide) (by rfl) pass0 (pa_cons (pv 7) (pa_cons (pv 3) (pa_cons (pv 5) (pa_cons (pv 4) (pa_cons (pv 6) pa_nil))))))) (pss_cons (ps_if (PW.pt (pw_or (pt_cmpR op_isN (pv 8) pe_non (nomark _)) (pw_or1 (pt_cmpR op_gt (pe_ix ix_list (pv 8) pe_int (fun _ _ => rfl)) (pe_ix ix_list (pv 8) pe_int (fun _ _ => rfl)) (nomark _))))) (pss_one (ps_ret pe_bl)) pss_nil) (pss_cons (ps_set (i := 9) nd rfl (.inl rfl) (pe_def D6 hr (by decide) (by rfl) pass0 (pa_cons (pe_callB (call_max2 rfl) (by rfl) B.max (by decide +kernel) (pa_cons (pe_op op_sub (pe_ix ix_tup (pv 3) pe_int (fun _ _ => rfl)) (pv 5)) (pa_cons pe_int pa_nil))) pa_nil))) (pss_cons (ps_for PassesOwn.never rfl (pi_range1 (by rfl) B.range (pa_cons pe_int pa_nil)) (pg_name (i := 10) nd rfl (.inl rfl)) (pss_cons (ps_set (i := 11) nd rfl (.inl rfl) (pe_def DG hr (by decide) (by rfl) pass0 (pa_cons (pe_def DK hr (by decide) (by rfl) pass0 (pa_cons (pv 1) (pa_cons (pe_def DH hr (by decide) (by rfl) pass0 (pa_cons (pv 3) pa_nil)) (pa_cons (pv 9) (pa_cons (pv 6) pa_nil))))) (pa_cons (pv 9) (pa_cons (pv 4) pa_nil))))) (pss_one (ps_if (PW.pt (pw_or (pt_cmpR op_lt (pv 11) (pe_ix ix_list (pv 8) pe_int (fun _ _ => rfl)) (nomark _)) (pw_or1 (pt_cmpR op_gt (pv 11) (pe_ix ix_list (pv 8) pe_int (fun _ _ => rfl)) (nomark _))))) (pss_one (ps_ret pe_bl)) pss_nil)))) (pss_one (ps_if (pt_not (pt_val (pe_def DEr hr (by decide) (by rfl) pass0 (pa_cons (pv 1) (pa_cons (pe_col3 (C := C) (CN := CN) (E := E0) MC TC hr (by decide) (by rfl) passL (pa_cons (pe_ix ix_tup (pv 3) pe_int (fun _ _ => rfl)) (pa_cons (pe_ix ix_tup (pv 3) pe_int (fun _ _ => rfl)) (pa_cons (pe_ix ix_tup (pv 3) pe_int (fun _ _ => rfl)) pa_nil)))) (pa_cons (pv 5) (pa_cons (pv 4) (pa_cons (pv 6) pa_nil)))))))) (pss_one (ps_ret pe_bl)) pss_nil)))))))))))
      (pss_one (ps_ret pe_bl))), ?_⟩
    refine ⟨_, rfl, a, ns, rfl, hs, hl, fun d H1 nd1 s1 p1 => ?_⟩
    have T1 := hT.ext s1
    dsimp only [gName, List.set]
    refine ⟨_, rfl, a, _, rfl, .inl (s1.seq hs), _, _, rfl, _, _, rfl, rfl, ?_⟩
    obtain ⟨N, hN, N9⟩ : ∃ N : Nat, (4 + if (((ns.map V.int).length : Nat) : Int) < 5 then (((ns.map V.int).length : Nat) : Int) else 5) = (N : Int) ∧ N ≤ 9 := ⟨(4 + if (((ns.map V.int).length : Nat) : Int) < 5 then (((ns.map V.int).length : Nat) : Int) else 5).toNat, by split <;> omega, by split <;> omega⟩
    refine ⟨_, rfl, by rw [hN]; omega, by rw [hN]; omega, for_range (lo := 0) (n := (4 + if (((ns.map V.int).length : Nat) : Int) < 5 then (((ns.map V.int).length : Nat) : Int) else 5).toNat) (fun i σ H' => (∃ y2 y3 y4 y5 y6 y7 y8 y9 y10 y11 : Option V, σ = [some (.ref a), some (.ref d), y2, y3, y4, y5, y6, y7, y8, y9, y10, y11]) ∧ Pen H' d (6000 * i) ∧ Tabs [(Pr, qR), (Pe, qE)] H') ⟨⟨none, none, none, none, none, none, none, none, none, none, rfl⟩, p1.mono (by omega), T1⟩ ?_ ?_⟩
    rotate_left
    · rintro σ H2 ⟨⟨y2, y3, y4, y5, y6, y7, y8, y9, y10, y11, rfl⟩, pp⟩
      exact q H2
    rintro i σ H2 hi ⟨⟨y2, y3, y4, y5, y6, y7, y8, y9, y10, y11, rfl⟩, pp, TT⟩
    rw [hN] at hi
    clear T1 p1 hT hs s1 nd1
    dsimp only [gName, List.set]
    -- the column, the way
    refine ⟨_, rfl, d, _, rfl, pp, by omega, fun r wh c m H3 er ok k3 p3 => ?_⟩
    refine ⟨_, rfl, rfl, fun g ng => ?_⟩
    have s4 := same_new (o := HO.lst (waysL.map V.str)) ng
    refine ⟨d, g, _, _, rfl, upd_same, by simp [waysL], by show 9 ≤ 1000; decide, p3.same s4, by omega, fun v H4 hv k4 p4 => ⟨_, _, rfl, ?_⟩⟩
    obtain ⟨t, ht, rfl⟩ := List.mem_map.mp hv
    have er4 := Kd.keep (er.same s4) (p3.same s4) k4
    have T4 := tabs_keepX ((tabs_keepX TT pp k3).ext s4) (p3.same s4) k4
    clear er p3 k3 k4 s4 ng hv pp TT
    dsimp only [gName, List.set]
    have w30 := ok.1
    have c4 := ok.2.1
    -- the scale
    have er4' : H4 r = some (.tup [.int (wh : Nat), .int (c : Nat), .str m]) := er4
    refine ⟨_, rfl, _, rfl, r, _, 1, _, rfl, rfl, SqT.of er4', rfl, _, _, rfl, rfl, d, (c : Int) + 2, _, rfl, p4, by omega, by omega, by omega, fun v1 H5 a1 b1 k5 p5 => ?_⟩
    have er5 := Kd.keep er4 p4 k5
    have er5' : H5 r = some (.tup [.int (wh : Nat), .int (c : Nat), .str m]) := er5
    refine ⟨_, rfl, _, rfl, r, _, 1, _, rfl, rfl, SqT.of er5', rfl, _, _, rfl, rfl, d, (c : Int) + 2, _, rfl, p5, by omega, by omega, by omega, fun v2 H6 a2 b2 k6 p6 => ⟨_, _, rfl, ?_⟩⟩
    obtain ⟨n, en, hn5⟩ : ∃ n : Nat, (if v2 < v1 then v2 else v1) = (n : Int) ∧ n ≤ 5 := ⟨(if v2 < v1 then v2 else v1).toNat, by split <;> omega, by split <;> omega⟩
    rw [en]
    dsimp only [gName, List.set]
    have er6 := Kd.keep er5 p5 k6
    have T6 := tabs_keepX (tabs_keepX T4 p4 k5) p5 k6
    clear k5 k6 p4 p5 T4 er4 er5 er4' er5' en a1 b1 a2 b2
    -- how many
    refine ⟨fun σ H' => ∃ (k : Nat), σ = [some (.ref a), some (.ref d), some (.int ((0 : Int) + (i : Int))), some (.ref r), some (.str t), some (.int (n : Nat)), some (.int (k : Nat)), y7, y8, y9, y10, y11] ∧ 1 ≤ k ∧ k < 2 ^ 190 ∧ Kd H' r wh c m ∧ Pen H' d (6000 * i + 300) ∧ Tabs [(Pr, qR), (Pe, qE)] H', ?_, ?_⟩
    · refine ⟨_, rfl, d, 3, _, rfl, p6, by omega, by decide, by decide, fun x H7 a1 b1 k7 p7 => ⟨_, _, rfl, rfl, _, rfl, ite2 (fun e => ?_) (fun e => ?_)⟩⟩
      · refine ⟨_, rfl, d, 12, _, rfl, p7, by omega, by decide, by decide, fun v H8 v0 v1 k8 p8 => ⟨_, _, rfl, rfl, ?_⟩⟩
        have e9 : (25 : Nat) < 2 ^ 190 := by decide +kernel
        refine ⟨(1 + v).toNat, ?_, by omega, by omega, Kd.keep (Kd.keep er6 p6 k7) p7 k8, p8.mono (by omega), tabs_keepX (tabs_keepX T6 p6 k7) p7 k8⟩
        rw [Int.toNat_of_nonneg (by omega)]
        rfl
      · refine ⟨_, rfl, d, 56, _, rfl, by decide, by decide, p7, by omega, fun v H8 v0 v1 k8 p8 => ⟨_, _, rfl, rfl, ?_⟩⟩
        have e9 : (10 : Int) ^ 56 + 1 < 2 ^ 190 := by decide +kernel
        have e8 : ((2 : Int) ^ 190) = ((2 ^ 190 : Nat) : Int) := by decide +kernel
        refine ⟨(1 + v).toNat, ?_, by omega, by omega, Kd.keep (Kd.keep er6 p6 k7) p7 k8, p8.mono (by omega), tabs_keepX (tabs_keepX T6 p6 k7) p7 k8⟩
        rw [Int.toNat_of_nonneg (by omega)]
        rfl
    rintro σ H7 ⟨k, rfl, hk, hk2, er7, p7, T7⟩
    clear er6 p6 T6
    have er7' : H7 r = some (.tup [.int (wh : Nat), .int (c : Nat), .str m]) := er7
    have e200 : (2 : Nat) ^ 190 ≤ 2 ^ 200 := Nat.pow_le_pow_right (by decide) (by decide)
    have e2z : ((2 : Int) ^ 200) = ((2 ^ 200 : Nat) : Int) := by decide +kernel
    have kz : ((k : Nat) : Int) < 2 ^ 200 := by omega
    -- the gaps
    refine ⟨_, rfl, r, _, 0, _, rfl, rfl, SqT.of er7', rfl, _, rfl, r, _, 1, _, rfl, rfl, SqT.of er7', rfl, _, rfl, r, _, 2, _, rfl, rfl, SqT.of er7', rfl, ?_⟩
    dsimp only [tNil]
    try rw [List.append_nil]
    refine col_of ok.2.2.2 ok.2.2.1 fun co H9 s9 _ hco => ?_
    refine ⟨_, rfl, _, rfl, _, rfl, ?_⟩
    dsimp only [tNil]
    try rw [List.append_nil]
    refine crowd_fine hco ok.2.2.2 ht (by omega) ok (by omega) kz (T7.ext s9) fun tr HA xA TA tells => ?_
    dsimp only [gName, List.set]
    have xA' := (ExtN.same s9).trans xA
    have erA := Kd.extN er7 xA'
    have pA := PenG.extN p7 xA'
    clear er7 er7' p7 T7 s9 xA xA' hco
    refine ⟨_, rfl, _, rfl, _, rfl, _, rfl, _, rfl, tr, r, wh, c, n, m, t, k, rfl, tells, erA, ok, by omega, ht, by omega, kz, fun l gl gh HB sB el hle all => ?_⟩
    have erB := erA.same sB
    have pB := pA.same sB
    have TB := TA.ext sB
    clear erA pA TA sB tells
    dsimp only [gName, List.set]
    refine ⟨_, rfl, rfl, _, rfl, iteF ?_⟩
    refine ⟨_, rfl, l, _, 0, _, rfl, rfl, SqL.of el, rfl, _, rfl, l, _, 1, _, rfl, rfl, SqL.of el, rfl, _, _, rfl, rfl, _, rfl, ite2 (fun e => ?_) (fun _ => ?_)⟩
    · have z : gl > gh := of_decide_eq_true e
      omega
    have erB' : HB r = some (.tup [.int (wh : Nat), .int (c : Nat), .str m]) := erB
    have g1 : (if (0 : Int) > (c : Int) - (n : Int) then (0 : Int) else (c : Int) - (n : Int)) = ((c - n : Nat) : Int) := by split <;> omega
    refine ⟨_, rfl, r, _, 1, _, rfl, rfl, SqT.of erB', rfl, _, rfl, _, _, rfl, rfl, _, _, rfl, c - n, by rw [← g1]; rfl, by omega, ?_⟩
    dsimp only [gName, List.set]
    have U0 := ten_pos (c - n)
    have U1 : (10 : Int) ^ (c - n) ≤ 10000 := by
      have := ten_mono (show c - n ≤ 4 by omega)
      have e9 : (10 : Int) ^ 4 = 10000 := by decide
      omega
    have tl := low_le ok
    have tp := top_pos ok
    have e131 : (2 : Int) ^ 131 = 2 * 2 ^ 130 := by decide +kernel
    -- the rows
    refine ⟨_, rfl, by decide, by decide, for_range (lo := 0) (n := (6 : Int).toNat) (fun j σ H' => (∃ y10 y11 : Option V, σ = [some (.ref a), some (.ref d), some (.int ((0 : Int) + (i : Int))), some (.ref r), some (.str t), some (.int (n : Nat)), some (.int (k : Nat)), some (.ref tr), some (.ref l), some (.int ((10 : Int) ^ (c - n))), y10, y11]) ∧ Kd H' r wh c m ∧ H' l = some (.lst [.int gl, .int gh]) ∧ Pen H' d (6000 * i + 300 + 860 * j) ∧ Tabs [(Pr, qR), (Pe, qE)] H') ⟨⟨_, _, rfl⟩, erB, el, pB.mono (by omega), TB⟩ ?_ ?_⟩
    · rintro j σ HC hj ⟨⟨y10', y11', rfl⟩, erC, elC, pC, TC'⟩
      dsimp only [gName, List.set]
      have j6 : j < 6 := hj
      refine ⟨_, rfl, _, rfl, r, wh, c, m, rfl, erC, ok, fun lp HD sD eD => ?_⟩
      have pD := pC.same sD
      refine ⟨_, rfl, _, rfl, d, lp, lowOf wh c m, topOf wh c, (10 : Int) ^ (c - n), _, k, rfl, eD, tl.1, by omega, by omega, U0, by omega, by omega, pD, by omega, fun lk xs ks HE kE pE elk hE hH hc => ?_⟩
      refine ⟨_, rfl, _, rfl, lk, xs, ks, (10 : Int) ^ (c - n), t, rfl, elk, hE, U0, by omega, ht, fun p hp => ?_, fun HF sF => ?_⟩
      · obtain ⟨z0, z1, z2⟩ := hH p hp
        have e140 : (2 : Nat) ^ 130 < 2 ^ 140 := by decide +kernel
        have e130 : ((2 : Int) ^ 130) = ((2 ^ 130 : Nat) : Int) := by decide +kernel
        have e210 : (2 : Nat) ^ 200 < 2 ^ 210 := by decide +kernel
        have z3 : p.2 ≤ cntK ks := by
          have gen : ∀ l : List (Int × Int), (∀ q ∈ l, 0 ≤ q.2) → p ∈ l → p.2 ≤ cntK l := fun l => by
            induction l with
            | nil => intro _ h; cases h
            | cons x xs ih =>
              intro h hm
              have a2 : cntK (x :: xs) = x.2 + cntK xs := by simp [cntK]
              have c0 := cnt_nonneg xs fun q mq => h q (List.mem_cons_of_mem _ mq)
              have x0 := h x (List.mem_cons_self ..)
              rcases List.mem_cons.mp hm with rfl | hm
              · omega
              · have := ih (fun q mq => h q (List.mem_cons_of_mem _ mq)) hm
                omega
          exact gen ks hH.pos hp
        constructor
        · omega
        · omega
      have elD := sD _ _ elC
      have elE := kE.lst pD elD
      have elF := sF _ _ elE
      obtain ⟨h1, h2⟩ := all ks hH hc
      dsimp only [gName, List.set]
      refine ⟨_, rfl, _, rfl, l, _, 0, _, rfl, rfl, SqL.of elF, rfl, _, _, rfl, rfl, _, rfl, ite2 (fun e => ?_) (fun _ => ?_)⟩
      · have z := of_decide_eq_true e
        omega
      refine ⟨_, rfl, _, rfl, l, _, 1, _, rfl, rfl, SqL.of elF, rfl, _, _, rfl, rfl, _, rfl, ite2 (fun e => ?_) (fun _ => ?_)⟩
      · have z := of_decide_eq_true e
        omega
      exact ⟨⟨_, _, rfl⟩, (Kd.keep (erC.same sD) pD kE).same sF, elF, (pE.same sF).mono (by omega), (tabs_keepX (TC'.ext sD) pD kE).ext sF⟩
    rintro σ HC ⟨⟨y10', y11', rfl⟩, erC, elC, pC, TC'⟩
    have h6 : (6 : Int).toNat = 6 := rfl
    rw [h6] at pC
    -- what is refused
    have erC' : HC r = some (.tup [.int (wh : Nat), .int (c : Nat), .str m]) := erC
    refine ⟨_, rfl, _, rfl, r, _, 0, _, rfl, rfl, SqT.of erC', rfl, _, rfl, r, _, 1, _, rfl, rfl, SqT.of erC', rfl, _, rfl, r, _, 2, _, rfl, rfl, SqT.of erC', rfl, ?_⟩
    dsimp only [tNil]
    try rw [List.append_nil]
    refine col_of ok.2.2.2 ok.2.2.1 fun co2 HG sG _ hco2 => ?_
    refine ⟨_, rfl, _, rfl, _, rfl, d, co2, wh, c, n, m, t, k, _, rfl, hco2, ok, ht, by omega, by omega, kz, pC.same sG, by omega, TC'.ext sG, fun HI kx px tx => ⟨_, rfl, iteF ?_⟩⟩
    exact ⟨⟨_, _, _, _, _, _, _, _, _, _, rfl⟩, px.mono (by omega), tx⟩
end
end K53

set_option maxHeartbeats 0
/-! k53: what the top leaves; the end. -/
namespace K53
open PySem PySem.Spec PyProof.Rows L2 LamX NdefX Own
def nmF : Str × Option Str := ("rounding_gap", none)
def nmG : Str × Option Str := ("_law_errors_right", none)
def dfn (x : Str) (i : Nat) : He.DefD := ⟨(x, none), x, x, defArgs (topS i), defBody (topS i), defScope (topS i), [], []⟩
def dMk (x m : Str) (i j : Nat) (pd : List He.Dv) (kd : List (Str × He.Dv)) : He.DefD := ⟨(x, some m), m, x ++ "." ++ m, defArgs (inClass (topS i) j), defBody (inClass (topS i) j), defScope (inClass (topS i) j), pd, kd⟩
def fnL : List He.DefD := [dMk "BadValue" "__init__" 3 0 [] [], dMk "TooFine" "__init__" 4 0 [] [], dMk "NoFigures" "__init__" 5 0 [] [], dMk "BadColumn" "__init__" 6 0 [] [], dMk "Worth" "__init__" 17 0 [.int 0] [], dMk "Worth" "__sub__" 17 6 [] [], dMk "Worth" "__mul__" 17 8 [] [], dMk "Worth" "__rmul__" 17 9 [] [], dMk "Worth" "units_at" 17 14 [] [], dMk "Shape" "__init__" 31 0 [] [], dMk "Shape" "fits" 31 3 [] [], dMk "Column" "__init__" 32 0 [.str "signed"] [], dMk "Column" "holds" 32 2 [] [], dfn "is_an_integer" 9, dfn "is_whole_number" 10, dfn "is_integer_from_1" 11, dfn "need_integer" 12, dfn "need_whole_number" 13, dfn "ten_to" 14, dfn "digits_of" 15, dfn "without_zeros" 18, dfn "parted" 19, dfn "as_worth" 20, dfn "need_worth" 21, dfn "need_way" 25, dfn "nearest_units" 26, dfn "_goes_up" 27, dfn "rounded" 28, dfn "is_below_ten_to" 33, dfn "_need_crowd" 36, dfn "_telling_worths" 37, dfn "_law_pen" 39, dfn "_law_draw" 40, dfn "_law_pick" 41, dfn "_law_great" 42, dfn "_law_ways" 43, dfn "_law_tens" 44, dfn "_law_rounded" 45, dfn "_law_held" 46, dfn "_law_column" 47, dfn "_law_number" 48, dfn "_law_told" 49, dfn "_law_at" 50, dfn "_law_gap" 51, dfn "_law_kinds" 52, dfn "_law_ends_right" 53, dfn "rounding_gap" 35, dfn "_law_errors_right" 54, dfn "law" 55]
def psL : List He.DefD := []
def gloL : List Str := (["BadValue", "TooFine", "NoFigures", "BadColumn", "Worth", "Shape", "Column", "WAYS", "TENS", "MARKS", "HALVES", "is_an_integer", "is_whole_number", "is_integer_from_1", "need_integer", "need_whole_number", "ten_to", "digits_of", "without_zeros", "parted", "as_worth", "need_worth", "need_way", "nearest_units", "_goes_up"] : List Str) ++ (["rounded", "is_below_ten_to", "_need_crowd", "_telling_worths", "_law_pen", "_law_draw", "_law_pick", "_law_great", "_law_ways", "_law_tens", "_law_rounded", "_law_held", "_law_column", "_law_number", "_law_told", "_law_at", "_law_gap", "_law_kinds", "_law_ends_right", "rounding_gap", "_law_errors_right", "law"] : List Str)
def freeL : List Str := ["isinstance", "int", "bool", "len", "list", "range", "tuple", "all", "divmod", "min", "max", "str", "abs", "dict", "any"]
def moreL : List He.Fa := [He.Fa.exm "BadValue" "BadValue" true, .meth "BadValue" "__init__", .noat "BadValue" "value", .keep "BadValue", .exm "TooFine" "TooFine" true, .meth "TooFine" "__init__", .noat "TooFine" "scale", .keep "TooFine", .exm "NoFigures" "NoFigures" true, .meth "NoFigures" "__init__", .keep "NoFigures", .exm "BadColumn" "BadColumn" true, .meth "BadColumn" "__init__", .noat "BadColumn" "column", .keep "BadColumn", .cls "Worth", .mkr "Worth", .noat "Worth" "units", .noat "Worth" "scale", .noat "Worth" "floor", .noat "Worth" "more", .meth "Worth" "__sub__", .meth "Worth" "__mul__", .meth "Worth" "__rmul__", .meth "Worth" "units_at", .cls "Shape", .mkr "Shape", .noat "Shape" "whole", .noat "Shape" "scale", .meth "Shape" "fits", .cls "Column", .mkr "Column", .noat "Column" "shape", .noat "Column" "mark", .meth "Column" "holds"]
def faL : List He.Fa := gloL.map He.Fa.glo ++ freeL.map He.Fa.free ++ moreL
def tsL : List He.Tab := [(fun K => He.ga K "HALVES", ["halfup", "halfdown", "halfeven", "halfaway", "halfcut"])]
/-- what a dict of the top says at the ways -/
def getB (K : PySem.W.Frag) (a : Addr) (l : List (Str × Str)) : Bool := waysL.all fun z => match PySem.W.nsIn K a z with
  | some none => (l.lookup z).isNone
  | some (some u) => (match l.lookup z with
    | some y => He.relB (.str y) u
    | none => false)
  | none => false
theorem getB_ok {K : PySem.W.Frag} {a : Addr} {l : List (Str × Str)} (h : getB K a l = true) {z : Str} (hz : z ∈ waysL) : KGet K a z ((l.lookup z).map V.str) := by
  have h1 := List.all_eq_true.mp h z hz
  cases q : PySem.W.nsIn K a z with
  | none => rw [q] at h1; cases h1
  | some ro =>
    rw [q] at h1
    refine ⟨ro, q, ?_⟩
    cases ro with
    | none =>
      cases e : l.lookup z with
      | none => exact trivial
      | some y => rw [e] at h1; cases h1
    | some u =>
      cases e : l.lookup z with
      | none => rw [e] at h1; cases h1
      | some y =>
        rw [e] at h1
        exact He.relB_ok h1
/-- isinstance by the class -/
def wisB (K : PySem.W.Frag) (W : Addr) : Bool := (decide (PySem.W.findIn K (.ref W) "__class__" = some (some (.builtin "object.__class__"))) && (decide (PySem.W.specialIn K (.builtin "object.__class__") "__get__" = some (some (.builtin "getset_descriptor.__get__"))) &&
  (decide (PySem.W.takesIn K (.builtin "object.__class__") = some true) && (decide (PySem.W.mroIn K W (.type "object") = some true) && ((tys.all fun T => decide (PySem.W.kitOne K (.type T) (.ref W) = some false)))))))
def exL (K : PySem.W.Frag) : Bool := oexB K (He.ga K "BadValue") && (L2.xfB K (He.ga K "BadValue") && (oexB K (He.ga K "TooFine") && (L2.xfB K (He.ga K "TooFine") && (oexB K (He.ga K "NoFigures") && (oexB K (He.ga K "BadColumn") && (L2.xfB K (He.ga K "BadColumn") && (He.tupB K "WAYS" (waysL.map He.Dv.str) && (He.tupB K "TENS" (tensL.map He.Dv.int) && (He.tupB K "MARKS" (marksL.map He.Dv.str) && (getB K (He.ga K "HALVES") halvL && (wisB K (He.ga K "Worth") && ((tys.all fun T => decide (PySem.W.subIn K (.type T) (.ref (He.ga K "Worth")) = some false)) && (wisB K (He.ga K "Column") && (PySem.W.selfFirst K (He.ga K "Worth") && (decide ((He.cT K nmF).2 ≠ (He.cT K nmG).2) && (decide (PySem.W.exmOne K (.ref (He.ga K "BadValue")) (.ref (He.ga K "BadColumn")) = some false)))))))))))))))))
abbrev rowK : PySem.W.OpenRow := PySem.W.OpenLaw.row PySem.Challenge.rw_figurestay_k53_whole_gaps
abbrev hkL : PySem.W.Hook := hookP 6 faL fnL tsL [nmF, nmG] exL psL
def obL (s : PySem.W.SharedT) : AlP := obsP 6 faL fnL tsL [nmF, nmG] exL psL (HandSHeadRun.getT s)
theorem obL_eq (s : PySem.W.SharedT) : obL s = hkL.obs s.abs := obsP_eq (HandSHeadRun.getT_eq s)
def looseL : List Str := (["FigureError", "BadValue", "TooFine", "NoFigures", "BadColumn", "Worth", "Shape", "Column", "WAYS", "TENS", "MARKS", "HALVES", "is_an_integer", "is_whole_number", "is_integer_from_1", "need_integer", "need_whole_number", "ten_to", "digits_of", "without_zeros", "parted", "as_worth", "need_worth", "need_way", "nearest_units"] : List Str) ++ (["_goes_up", "rounded", "is_below_ten_to", "_need_crowd", "_telling_worths", "_law_pen", "_law_draw", "_law_pick", "_law_great", "_law_ways", "_law_tens", "_law_rounded", "_law_held", "_law_column", "_law_number", "_law_told", "_law_at", "_law_gap", "_law_kinds", "_law_ends_right", "rounding_gap", "_law_errors_right", "_wall"] : List Str)
end K53

/-! k53: what the top leaves; the end. -/
namespace K53
open PySem PySem.Spec PyProof.Rows L2 LamX NdefX Own
theorem runF (w : World) : HandSHeadRun.RunEq rowK (PySem.W.view rowK.prog [55]) hkL obL 12000 looseL (w.withFollow "special-get-raises" false) := by
  intro os
  kernel_rfl
theorem runT (w : World) : HandSHeadRun.RunEq rowK (PySem.W.view rowK.prog [55]) hkL obL 12000 looseL (w.withFollow "special-get-raises" true) := by
  intro os
  kernel_rfl
theorem runL (w : World) : HandSHeadRun.RunEq rowK (PySem.W.view rowK.prog [55]) hkL obL 12000 looseL w := PySem.W.byRow2 "special-get-raises" (P := fun w => HandSHeadRun.RunEq rowK (PySem.W.view rowK.prog [55]) hkL obL 12000 looseL w) runF runT w
end K53

/-! k53: what the top leaves; the end. -/
namespace K53
open PySem PySem.Spec PyProof.Rows L2 LamX NdefX Own
section
variable {P : Program} {w : World} {K : PySem.W.Frag} {mg : Str → Option Value} {h : Heap}
theorem gloF (X : K.In h) (G : h.Ns mainGlobals mg) (d : He.SaysD faL fnL K) {x : Str} (hx : x ∈ gloL) : mg x = some (.ref (He.ga K x)) :=
  He.glo_ok X G (d.facts (List.mem_append_left _ (List.mem_append_left _ (List.mem_map.mpr ⟨x, hx, rfl⟩))))
theorem freeF (X : K.In h) (G : h.Ns mainGlobals mg) (d : He.SaysD faL fnL K) {x : Str} (hx : x ∈ freeL) : mg x = none :=
  He.free_ok X G (d.facts (List.mem_append_left _ (List.mem_append_right _ (List.mem_map.mpr ⟨x, hx, rfl⟩))))
theorem moreF (d : He.SaysD faL fnL K) {f : He.Fa} (hf : f ∈ moreL) : f.ok K = true := d.facts (List.mem_append_right _ hf)
theorem wis_ok {W : Addr} (h : wisB K W = true) : WIs K W := by
  obtain ⟨z2, y⟩ := He.ba h
  obtain ⟨z3, y⟩ := He.ba y
  obtain ⟨z4, y⟩ := He.ba y
  obtain ⟨z5, z6⟩ := He.ba y
  exact ⟨of_decide_eq_true z2, of_decide_eq_true z3, of_decide_eq_true z4, of_decide_eq_true z5, fun T hT => of_decide_eq_true (List.all_eq_true.mp z6 T hT)⟩
theorem scE_BadValue : FnScope ["self", "value"] ["self", "value"] (defScope (inClass (topS 3) 0)) := ⟨rfl, rfl, rfl, by decide +kernel, rfl, by decide +kernel, by decide +kernel⟩
theorem ok_err_BadValue {base : Heap} {C : Addr} {f : Addr} {fd : FuncData} (F : Fun K "__init__" "BadValue.__init__" (inClass (topS 3) 0) f fd) (T : OexC K C) (no : PySem.W.findIn K (.ref C) "value" = some none) : FnOk P w K mg base CX0 1 f fd ["self", "value"] (spErr C "value") := by
  refine F.ok scE_BadValue (fun vs H Q E h => ?_) (fun cdv A outer s H vs Q E hr h => ?_)
  · obtain ⟨a, y, rfl, _⟩ := h
    rfl
  · obtain ⟨a, y, rfl, ha, q⟩ := h
    refine ⟨_, pss_one (ps_ost (pv 0) (pv 1)), ?_⟩
    exact ⟨_, rfl, _, rfl, a, C, rfl, T, no, .inl ⟨ha, fun dx n1 n2 => q dx n1 n2⟩⟩
theorem scE_TooFine : FnScope ["self", "scale"] ["self", "scale"] (defScope (inClass (topS 4) 0)) := ⟨rfl, rfl, rfl, by decide +kernel, rfl, by decide +kernel, by decide +kernel⟩
theorem ok_err_TooFine {base : Heap} {C : Addr} {f : Addr} {fd : FuncData} (F : Fun K "__init__" "TooFine.__init__" (inClass (topS 4) 0) f fd) (T : OexC K C) (no : PySem.W.findIn K (.ref C) "scale" = some none) : FnOk P w K mg base CX0 1 f fd ["self", "scale"] (spErr C "scale") := by
  refine F.ok scE_TooFine (fun vs H Q E h => ?_) (fun cdv A outer s H vs Q E hr h => ?_)
  · obtain ⟨a, y, rfl, _⟩ := h
    rfl
  · obtain ⟨a, y, rfl, ha, q⟩ := h
    refine ⟨_, pss_one (ps_ost (pv 0) (pv 1)), ?_⟩
    exact ⟨_, rfl, _, rfl, a, C, rfl, T, no, .inl ⟨ha, fun dx n1 n2 => q dx n1 n2⟩⟩
theorem scE_NoFigures : FnScope ["self"] ["self"] (defScope (inClass (topS 5) 0)) := ⟨rfl, rfl, rfl, by decide +kernel, rfl, by decide +kernel, by decide +kernel⟩
theorem ok_err_NoFigures {base : Heap} {f : Addr} {fd : FuncData} (F : Fun K "__init__" "NoFigures.__init__" (inClass (topS 5) 0) f fd) : FnOk P w K mg base CX0 1 f fd ["self"] (fun vs H Q _ => ∃ a : Addr, vs = [.ref a] ∧ Q .non H) := by
  refine F.ok scE_NoFigures (fun vs H Q E h => ?_) (fun cdv A outer s H vs Q E hr h => ?_)
  · obtain ⟨a, rfl, _⟩ := h
    rfl
  · obtain ⟨a, rfl, q⟩ := h
    exact ⟨_, pss_one ps_pass, q⟩
theorem scE_BadColumn : FnScope ["self", "column"] ["self", "column"] (defScope (inClass (topS 6) 0)) := ⟨rfl, rfl, rfl, by decide +kernel, rfl, by decide +kernel, by decide +kernel⟩
theorem ok_err_BadColumn {base : Heap} {C : Addr} {f : Addr} {fd : FuncData} (F : Fun K "__init__" "BadColumn.__init__" (inClass (topS 6) 0) f fd) (T : OexC K C) (no : PySem.W.findIn K (.ref C) "column" = some none) : FnOk P w K mg base CX0 1 f fd ["self", "column"] (spErr C "column") := by
  refine F.ok scE_BadColumn (fun vs H Q E h => ?_) (fun cdv A outer s H vs Q E hr h => ?_)
  · obtain ⟨a, y, rfl, _⟩ := h
    rfl
  · obtain ⟨a, y, rfl, ha, q⟩ := h
    refine ⟨_, pss_one (ps_ost (pv 0) (pv 1)), ?_⟩
    exact ⟨_, rfl, _, rfl, a, C, rfl, T, no, .inl ⟨ha, fun dx n1 n2 => q dx n1 n2⟩⟩
theorem law_at {fa : Addr} (X : K.In h) (G : h.Ns mainGlobals mg) (hfa : mg "law" = some (.ref fa)) (c : He.SaysX faL fnL tsL [nmF, nmG] exL w h K) (cp : SaysP psL K) : LawAtS PySem.Challenge.rw_figurestay_k53_whole_gaps w K CX0 20 63 "_law_script" mg fa h := by
  have d := c.t.d
  obtain ⟨oex_BadValue, y⟩ := He.ba c.more
  obtain ⟨xf_BadValue, y⟩ := He.ba y
  obtain ⟨oex_TooFine, y⟩ := He.ba y
  obtain ⟨xf_TooFine, y⟩ := He.ba y
  obtain ⟨oex_NoFigures, y⟩ := He.ba y
  obtain ⟨oex_BadColumn, y⟩ := He.ba y
  obtain ⟨xf_BadColumn, y⟩ := He.ba y
  obtain ⟨tup_WAYS, y⟩ := He.ba y
  obtain ⟨tup_TENS, y⟩ := He.ba y
  obtain ⟨tup_MARKS, y⟩ := He.ba y
  obtain ⟨get_HALVES, y⟩ := He.ba y
  obtain ⟨wis_Worth, y⟩ := He.ba y
  obtain ⟨sub_Worth, y⟩ := He.ba y
  obtain ⟨wis_Column, y⟩ := He.ba y
  obtain ⟨self_W, y⟩ := He.ba y
  obtain ⟨neT, exm_CE⟩ := He.ba y
  obtain ⟨es_HALVES, n_HALVES, d_HALVES⟩ := c.t.tab 0
  have te_BadValue := He.exm_ok (moreF d (f := .exm "BadValue" "BadValue" true) (List.mem_of_getElem? (i := 0) rfl))
  have mt_BadValue := He.meth_ok (moreF d (f := .meth "BadValue" "__init__") (List.mem_of_getElem? (i := 1) rfl))
  have no_BadValue := He.noat_ok (moreF d (f := .noat "BadValue" "value") (List.mem_of_getElem? (i := 2) rfl))
  obtain ⟨fd_BadValue, F0_BadValue⟩ := d.def_ 0 (d := dMk "BadValue" "__init__" 3 0 [] []) rfl
  have F_BadValue : Fun K "__init__" "BadValue.__init__" (inClass (topS 3) 0) _ fd_BadValue := fun_of F0_BadValue
  have b_BadValue := F_BadValue.binds (ps := ["self", "value"]) fun _ _ _ _ _ _ us hl => match us, hl with | [_, _], _ => rfl
  have te_TooFine := He.exm_ok (moreF d (f := .exm "TooFine" "TooFine" true) (List.mem_of_getElem? (i := 4) rfl))
  have mt_TooFine := He.meth_ok (moreF d (f := .meth "TooFine" "__init__") (List.mem_of_getElem? (i := 5) rfl))
  have no_TooFine := He.noat_ok (moreF d (f := .noat "TooFine" "scale") (List.mem_of_getElem? (i := 6) rfl))
  obtain ⟨fd_TooFine, F0_TooFine⟩ := d.def_ 1 (d := dMk "TooFine" "__init__" 4 0 [] []) rfl
  have F_TooFine : Fun K "__init__" "TooFine.__init__" (inClass (topS 4) 0) _ fd_TooFine := fun_of F0_TooFine
  have b_TooFine := F_TooFine.binds (ps := ["self", "scale"]) fun _ _ _ _ _ _ us hl => match us, hl with | [_, _], _ => rfl
  have te_NoFigures := He.exm_ok (moreF d (f := .exm "NoFigures" "NoFigures" true) (List.mem_of_getElem? (i := 8) rfl))
  have mt_NoFigures := He.meth_ok (moreF d (f := .meth "NoFigures" "__init__") (List.mem_of_getElem? (i := 9) rfl))
  obtain ⟨fd_NoFigures, F0_NoFigures⟩ := d.def_ 2 (d := dMk "NoFigures" "__init__" 5 0 [] []) rfl
  have F_NoFigures : Fun K "__init__" "NoFigures.__init__" (inClass (topS 5) 0) _ fd_NoFigures := fun_of F0_NoFigures
  have b_NoFigures := F_NoFigures.binds (ps := ["self"]) fun _ _ _ _ _ _ us hl => match us, hl with | [_], _ => rfl
  have te_BadColumn := He.exm_ok (moreF d (f := .exm "BadColumn" "BadColumn" true) (List.mem_of_getElem? (i := 11) rfl))
  have mt_BadColumn := He.meth_ok (moreF d (f := .meth "BadColumn" "__init__") (List.mem_of_getElem? (i := 12) rfl))
  have no_BadColumn := He.noat_ok (moreF d (f := .noat "BadColumn" "column") (List.mem_of_getElem? (i := 13) rfl))
  obtain ⟨fd_BadColumn, F0_BadColumn⟩ := d.def_ 3 (d := dMk "BadColumn" "__init__" 6 0 [] []) rfl
  have F_BadColumn : Fun K "__init__" "BadColumn.__init__" (inClass (topS 6) 0) _ fd_BadColumn := fun_of F0_BadColumn
  have b_BadColumn := F_BadColumn.binds (ps := ["self", "column"]) fun _ _ _ _ _ _ us hl => match us, hl with | [_, _], _ => rfl
  have cls_Worth := He.cls_ok (moreF d (f := .cls "Worth") (List.mem_of_getElem? (i := 15) rfl))
  have mk_Worth := He.mkr_ok (moreF d (f := .mkr "Worth") (List.mem_of_getElem? (i := 16) rfl))
  have no_Worth_units := He.noat_ok (moreF d (f := .noat "Worth" "units") (List.mem_of_getElem? (i := 17) rfl))
  have no_Worth_scale := He.noat_ok (moreF d (f := .noat "Worth" "scale") (List.mem_of_getElem? (i := 18) rfl))
  have no_Worth_floor := He.noat_ok (moreF d (f := .noat "Worth" "floor") (List.mem_of_getElem? (i := 19) rfl))
  have no_Worth_more := He.noat_ok (moreF d (f := .noat "Worth" "more") (List.mem_of_getElem? (i := 20) rfl))
  obtain ⟨fd_Worth, FI_Worth⟩ := d.def_ 4 (d := dMk "Worth" "__init__" 17 0 [.int 0] []) rfl
  have m_Worth_sub := He.meth_ok (moreF d (f := .meth "Worth" "__sub__") (List.mem_of_getElem? (i := 21) rfl))
  obtain ⟨fd_Worth_sub, F_Worth_sub⟩ := d.def_ 5 (d := dMk "Worth" "__sub__" 17 6 [] []) rfl
  have G_Worth_sub : Fun K "__sub__" "Worth.__sub__" (inClass (topS 17) 6) _ fd_Worth_sub := fun_of F_Worth_sub
  have b_Worth_sub := G_Worth_sub.binds (ps := ["self", "other"]) fun _ _ _ _ _ _ us hl => match us, hl with | [_, _], _ => rfl
  have m_Worth_mul := He.meth_ok (moreF d (f := .meth "Worth" "__mul__") (List.mem_of_getElem? (i := 22) rfl))
  obtain ⟨fd_Worth_mul, F_Worth_mul⟩ := d.def_ 6 (d := dMk "Worth" "__mul__" 17 8 [] []) rfl
  have G_Worth_mul : Fun K "__mul__" "Worth.__mul__" (inClass (topS 17) 8) _ fd_Worth_mul := fun_of F_Worth_mul
  have b_Worth_mul := G_Worth_mul.binds (ps := ["self", "other"]) fun _ _ _ _ _ _ us hl => match us, hl with | [_, _], _ => rfl
  have m_Worth_rmul := He.meth_ok (moreF d (f := .meth "Worth" "__rmul__") (List.mem_of_getElem? (i := 23) rfl))
  obtain ⟨fd_Worth_rmul, F_Worth_rmul⟩ := d.def_ 7 (d := dMk "Worth" "__rmul__" 17 9 [] []) rfl
  have G_Worth_rmul : Fun K "__rmul__" "Worth.__rmul__" (inClass (topS 17) 9) _ fd_Worth_rmul := fun_of F_Worth_rmul
  have b_Worth_rmul := G_Worth_rmul.binds (ps := ["self", "other"]) fun _ _ _ _ _ _ us hl => match us, hl with | [_, _], _ => rfl
  have m_Worth_units_at := He.meth_ok (moreF d (f := .meth "Worth" "units_at") (List.mem_of_getElem? (i := 24) rfl))
  obtain ⟨fd_Worth_units_at, F_Worth_units_at⟩ := d.def_ 8 (d := dMk "Worth" "units_at" 17 14 [] []) rfl
  have G_Worth_units_at : Fun K "units_at" "Worth.units_at" (inClass (topS 17) 14) _ fd_Worth_units_at := fun_of F_Worth_units_at
  have b_Worth_units_at := G_Worth_units_at.binds (ps := ["self", "scale"]) fun _ _ _ _ _ _ us hl => match us, hl with | [_, _], _ => rfl
  have cls_Shape := He.cls_ok (moreF d (f := .cls "Shape") (List.mem_of_getElem? (i := 25) rfl))
  have mk_Shape := He.mkr_ok (moreF d (f := .mkr "Shape") (List.mem_of_getElem? (i := 26) rfl))
  have no_Shape_whole := He.noat_ok (moreF d (f := .noat "Shape" "whole") (List.mem_of_getElem? (i := 27) rfl))
  have no_Shape_scale := He.noat_ok (moreF d (f := .noat "Shape" "scale") (List.mem_of_getElem? (i := 28) rfl))
  obtain ⟨fd_Shape, FI_Shape⟩ := d.def_ 9 (d := dMk "Shape" "__init__" 31 0 [] []) rfl
  have GI_Shape : Fun K "__init__" "Shape.__init__" (inClass (topS 31) 0) _ fd_Shape := fun_of FI_Shape
  have bI_Shape := GI_Shape.binds (ps := ["self", "whole", "scale"]) fun _ _ _ _ _ _ us hl => match us, hl with | [_, _, _], _ => rfl
  have m_Shape_fits := He.meth_ok (moreF d (f := .meth "Shape" "fits") (List.mem_of_getElem? (i := 29) rfl))
  obtain ⟨fd_Shape_fits, F_Shape_fits⟩ := d.def_ 10 (d := dMk "Shape" "fits" 31 3 [] []) rfl
  have G_Shape_fits : Fun K "fits" "Shape.fits" (inClass (topS 31) 3) _ fd_Shape_fits := fun_of F_Shape_fits
  have b_Shape_fits := G_Shape_fits.binds (ps := ["self", "worth"]) fun _ _ _ _ _ _ us hl => match us, hl with | [_, _], _ => rfl
  have cls_Column := He.cls_ok (moreF d (f := .cls "Column") (List.mem_of_getElem? (i := 30) rfl))
  have mk_Column := He.mkr_ok (moreF d (f := .mkr "Column") (List.mem_of_getElem? (i := 31) rfl))
  have no_Column_shape := He.noat_ok (moreF d (f := .noat "Column" "shape") (List.mem_of_getElem? (i := 32) rfl))
  have no_Column_mark := He.noat_ok (moreF d (f := .noat "Column" "mark") (List.mem_of_getElem? (i := 33) rfl))
  obtain ⟨fd_Column, FI_Column⟩ := d.def_ 11 (d := dMk "Column" "__init__" 32 0 [.str "signed"] []) rfl
  have m_Column_holds := He.meth_ok (moreF d (f := .meth "Column" "holds") (List.mem_of_getElem? (i := 34) rfl))
  obtain ⟨fd_Column_holds, F_Column_holds⟩ := d.def_ 12 (d := dMk "Column" "holds" 32 2 [] []) rfl
  have G_Column_holds : Fun K "holds" "Column.holds" (inClass (topS 32) 2) _ fd_Column_holds := fun_of F_Column_holds
  have b_Column_holds := G_Column_holds.binds (ps := ["self", "worth"]) fun _ _ _ _ _ _ us hl => match us, hl with | [_, _], _ => rfl
  obtain ⟨fd_is_an_integer, F_is_an_integer⟩ := d.def_ 13 (d := dfn "is_an_integer" 9) rfl
  have A_is_an_integer : At K mg "is_an_integer" (topS 9) ["value"] := at_of F_is_an_integer (gloF X G d (by decide +kernel)) fun _ _ _ _ _ _ us hl => match us, hl with | [_], _ => rfl
  obtain ⟨fd_is_whole_number, F_is_whole_number⟩ := d.def_ 14 (d := dfn "is_whole_number" 10) rfl
  have A_is_whole_number : At K mg "is_whole_number" (topS 10) ["value"] := at_of F_is_whole_number (gloF X G d (by decide +kernel)) fun _ _ _ _ _ _ us hl => match us, hl with | [_], _ => rfl
  obtain ⟨fd_is_integer_from_1, F_is_integer_from_1⟩ := d.def_ 15 (d := dfn "is_integer_from_1" 11) rfl
  have A_is_integer_from_1 : At K mg "is_integer_from_1" (topS 11) ["value"] := at_of F_is_integer_from_1 (gloF X G d (by decide +kernel)) fun _ _ _ _ _ _ us hl => match us, hl with | [_], _ => rfl
  obtain ⟨fd_need_integer, F_need_integer⟩ := d.def_ 16 (d := dfn "need_integer" 12) rfl
  have A_need_integer : At K mg "need_integer" (topS 12) ["value"] := at_of F_need_integer (gloF X G d (by decide +kernel)) fun _ _ _ _ _ _ us hl => match us, hl with | [_], _ => rfl
  obtain ⟨fd_need_whole_number, F_need_whole_number⟩ := d.def_ 17 (d := dfn "need_whole_number" 13) rfl
  have A_need_whole_number : At K mg "need_whole_number" (topS 13) ["value"] := at_of F_need_whole_number (gloF X G d (by decide +kernel)) fun _ _ _ _ _ _ us hl => match us, hl with | [_], _ => rfl
  obtain ⟨fd_ten_to, F_ten_to⟩ := d.def_ 18 (d := dfn "ten_to" 14) rfl
  have A_ten_to : At K mg "ten_to" (topS 14) ["places"] := at_of F_ten_to (gloF X G d (by decide +kernel)) fun _ _ _ _ _ _ us hl => match us, hl with | [_], _ => rfl
  obtain ⟨fd_digits_of, F_digits_of⟩ := d.def_ 19 (d := dfn "digits_of" 15) rfl
  have A_digits_of : At K mg "digits_of" (topS 15) ["number"] := at_of F_digits_of (gloF X G d (by decide +kernel)) fun _ _ _ _ _ _ us hl => match us, hl with | [_], _ => rfl
  obtain ⟨fd_without_zeros, F_without_zeros⟩ := d.def_ 20 (d := dfn "without_zeros" 18) rfl
  have A_without_zeros : At K mg "without_zeros" (topS 18) ["units", "scale"] := at_of F_without_zeros (gloF X G d (by decide +kernel)) fun _ _ _ _ _ _ us hl => match us, hl with | [_, _], _ => rfl
  obtain ⟨fd_parted, F_parted⟩ := d.def_ 21 (d := dfn "parted" 19) rfl
  have A_parted : At K mg "parted" (topS 19) ["units", "scale"] := at_of F_parted (gloF X G d (by decide +kernel)) fun _ _ _ _ _ _ us hl => match us, hl with | [_, _], _ => rfl
  obtain ⟨fd_as_worth, F_as_worth⟩ := d.def_ 22 (d := dfn "as_worth" 20) rfl
  have A_as_worth : At K mg "as_worth" (topS 20) ["value"] := at_of F_as_worth (gloF X G d (by decide +kernel)) fun _ _ _ _ _ _ us hl => match us, hl with | [_], _ => rfl
  obtain ⟨fd_need_worth, F_need_worth⟩ := d.def_ 23 (d := dfn "need_worth" 21) rfl
  have A_need_worth : At K mg "need_worth" (topS 21) ["value"] := at_of F_need_worth (gloF X G d (by decide +kernel)) fun _ _ _ _ _ _ us hl => match us, hl with | [_], _ => rfl
  obtain ⟨fd_need_way, F_need_way⟩ := d.def_ 24 (d := dfn "need_way" 25) rfl
  have A_need_way : At K mg "need_way" (topS 25) ["value"] := at_of F_need_way (gloF X G d (by decide +kernel)) fun _ _ _ _ _ _ us hl => match us, hl with | [_], _ => rfl
  obtain ⟨fd_nearest_units, F_nearest_units⟩ := d.def_ 25 (d := dfn "nearest_units" 26) rfl
  have A_nearest_units : At K mg "nearest_units" (topS 26) ["number", "divisor", "way"] := at_of F_nearest_units (gloF X G d (by decide +kernel)) fun _ _ _ _ _ _ us hl => match us, hl with | [_, _, _], _ => rfl
  obtain ⟨fd__goes_up, F__goes_up⟩ := d.def_ 26 (d := dfn "_goes_up" 27) rfl
  have A__goes_up : At K mg "_goes_up" (topS 27) ["way", "below", "past_half"] := at_of F__goes_up (gloF X G d (by decide +kernel)) fun _ _ _ _ _ _ us hl => match us, hl with | [_, _, _], _ => rfl
  obtain ⟨fd_rounded, F_rounded⟩ := d.def_ 27 (d := dfn "rounded" 28) rfl
  have A_rounded : At K mg "rounded" (topS 28) ["worth", "scale", "way"] := at_of F_rounded (gloF X G d (by decide +kernel)) fun _ _ _ _ _ _ us hl => match us, hl with | [_, _, _], _ => rfl
  obtain ⟨fd_is_below_ten_to, F_is_below_ten_to⟩ := d.def_ 28 (d := dfn "is_below_ten_to" 33) rfl
  have A_is_below_ten_to : At K mg "is_below_ten_to" (topS 33) ["worth", "whole"] := at_of F_is_below_ten_to (gloF X G d (by decide +kernel)) fun _ _ _ _ _ _ us hl => match us, hl with | [_, _], _ => rfl
  obtain ⟨fd__need_crowd, F__need_crowd⟩ := d.def_ 29 (d := dfn "_need_crowd" 36) rfl
  have A__need_crowd : At K mg "_need_crowd" (topS 36) ["column", "scale", "way", "many"] := at_of F__need_crowd (gloF X G d (by decide +kernel)) fun _ _ _ _ _ _ us hl => match us, hl with | [_, _, _, _], _ => rfl
  obtain ⟨fd__telling_worths, F__telling_worths⟩ := d.def_ 30 (d := dfn "_telling_worths" 37) rfl
  have A__telling_worths : At K mg "_telling_worths" (topS 37) ["places", "scale"] := at_of F__telling_worths (gloF X G d (by decide +kernel)) fun _ _ _ _ _ _ us hl => match us, hl with | [_, _], _ => rfl
  obtain ⟨fd__law_pen, F__law_pen⟩ := d.def_ 31 (d := dfn "_law_pen" 39) rfl
  have A__law_pen : At K mg "_law_pen" (topS 39) ["_law_script"] := at_of F__law_pen (gloF X G d (by decide +kernel)) fun _ _ _ _ _ _ us hl => match us, hl with | [_], _ => rfl
  obtain ⟨fd__law_draw, F__law_draw⟩ := d.def_ 32 (d := dfn "_law_draw" 40) rfl
  have A__law_draw : At K mg "_law_draw" (topS 40) ["_law_pen_here", "_law_span"] := at_of F__law_draw (gloF X G d (by decide +kernel)) fun _ _ _ _ _ _ us hl => match us, hl with | [_, _], _ => rfl
  obtain ⟨fd__law_pick, F__law_pick⟩ := d.def_ 33 (d := dfn "_law_pick" 41) rfl
  have A__law_pick : At K mg "_law_pick" (topS 41) ["_law_pen_here", "_law_menu"] := at_of F__law_pick (gloF X G d (by decide +kernel)) fun _ _ _ _ _ _ us hl => match us, hl with | [_, _], _ => rfl
  obtain ⟨fd__law_great, F__law_great⟩ := d.def_ 34 (d := dfn "_law_great" 42) rfl
  have A__law_great : At K mg "_law_great" (topS 42) ["_law_pen_here", "_law_figures"] := at_of F__law_great (gloF X G d (by decide +kernel)) fun _ _ _ _ _ _ us hl => match us, hl with | [_, _], _ => rfl
  obtain ⟨fd__law_ways, F__law_ways⟩ := d.def_ 35 (d := dfn "_law_ways" 43) rfl
  have A__law_ways : At K mg "_law_ways" (topS 43) [] := at_of F__law_ways (gloF X G d (by decide +kernel)) fun _ _ _ _ _ _ us hl => match us, hl with | [], _ => rfl
  obtain ⟨fd__law_tens, F__law_tens⟩ := d.def_ 36 (d := dfn "_law_tens" 44) rfl
  have A__law_tens : At K mg "_law_tens" (topS 44) ["_law_count"] := at_of F__law_tens (gloF X G d (by decide +kernel)) fun _ _ _ _ _ _ us hl => match us, hl with | [_], _ => rfl
  obtain ⟨fd__law_rounded, F__law_rounded⟩ := d.def_ 37 (d := dfn "_law_rounded" 45) rfl
  have A__law_rounded : At K mg "_law_rounded" (topS 45) ["_law_number_here", "_law_unit", "_law_way"] := at_of F__law_rounded (gloF X G d (by decide +kernel)) fun _ _ _ _ _ _ us hl => match us, hl with | [_, _, _], _ => rfl
  obtain ⟨fd__law_held, F__law_held⟩ := d.def_ 38 (d := dfn "_law_held" 46) rfl
  have A__law_held : At K mg "_law_held" (topS 46) ["_law_one"] := at_of F__law_held (gloF X G d (by decide +kernel)) fun _ _ _ _ _ _ us hl => match us, hl with | [_], _ => rfl
  obtain ⟨fd__law_column, F__law_column⟩ := d.def_ 39 (d := dfn "_law_column" 47) rfl
  have A__law_column : At K mg "_law_column" (topS 47) ["_law_pen_here"] := at_of F__law_column (gloF X G d (by decide +kernel)) fun _ _ _ _ _ _ us hl => match us, hl with | [_], _ => rfl
  obtain ⟨fd__law_number, F__law_number⟩ := d.def_ 40 (d := dfn "_law_number" 48) rfl
  have A__law_number : At K mg "_law_number" (topS 48) ["_law_pen_here", "_law_limits", "_law_unit"] := at_of F__law_number (gloF X G d (by decide +kernel)) fun _ _ _ _ _ _ us hl => match us, hl with | [_, _, _], _ => rfl
  obtain ⟨fd__law_told, F__law_told⟩ := d.def_ 41 (d := dfn "_law_told" 49) rfl
  have A__law_told : At K mg "_law_told" (topS 49) ["_law_call"] := at_of F__law_told (gloF X G d (by decide +kernel)) fun _ _ _ _ _ _ us hl => match us, hl with | [_], _ => rfl
  obtain ⟨fd__law_at, F__law_at⟩ := d.def_ 42 (d := dfn "_law_at" 50) rfl
  have A__law_at : At K mg "_law_at" (topS 50) ["_law_worth", "_law_scale"] := at_of F__law_at (gloF X G d (by decide +kernel)) fun _ _ _ _ _ _ us hl => match us, hl with | [_, _], _ => rfl
  obtain ⟨fd__law_gap, F__law_gap⟩ := d.def_ 43 (d := dfn "_law_gap" 51) rfl
  have A__law_gap : At K mg "_law_gap" (topS 51) ["_law_kinds_here", "_law_unit", "_law_way"] := at_of F__law_gap (gloF X G d (by decide +kernel)) fun _ _ _ _ _ _ us hl => match us, hl with | [_, _, _], _ => rfl
  obtain ⟨fd__law_kinds, F__law_kinds⟩ := d.def_ 44 (d := dfn "_law_kinds" 52) rfl
  have A__law_kinds : At K mg "_law_kinds" (topS 52) ["_law_pen_here", "_law_limits", "_law_unit", "_law_many"] := at_of F__law_kinds (gloF X G d (by decide +kernel)) fun _ _ _ _ _ _ us hl => match us, hl with | [_, _, _, _], _ => rfl
  obtain ⟨fd__law_ends_right, F__law_ends_right⟩ := d.def_ 45 (d := dfn "_law_ends_right" 53) rfl
  have A__law_ends_right : At K mg "_law_ends_right" (topS 53) ["_law_told_here", "_law_kind", "_law_scale", "_law_way", "_law_many"] := at_of F__law_ends_right (gloF X G d (by decide +kernel)) fun _ _ _ _ _ _ us hl => match us, hl with | [_, _, _, _, _], _ => rfl
  obtain ⟨fdR, FR⟩ := d.def_ 46 (d := dfn "rounding_gap" 35) rfl
  obtain ⟨fdE, FE⟩ := d.def_ 47 (d := dfn "_law_errors_right" 54) rfl
  obtain ⟨fdL, FL⟩ := d.def_ 48 (d := dfn "law" 55) rfl
  have e := hfa.symm.trans (gloF X G d (x := "law") (by decide +kernel))
  cases e
  have FL' : Fun K "law" "law" sLaw _ fdL := fun_of FL
  have FR' : Fun K "rounding_gap" "rounding_gap" pRg _ fdR := fun_of FR
  have AR : AtC K mg "rounding_gap" pRg ["column", "scale", "way", "many"] (He.cT K nmF).1 := by
    have bR := FR'.binds (ps := ["column", "scale", "way", "many"]) fun _ _ _ _ _ _ us hl => match us, hl with | [_, _, _, _], _ => rfl
    have gR := gloF X G d (x := "rounding_gap") (by decide +kernel)
    have kR := FR'.kp
    obtain ⟨oc, od, kV, doc, pm, an, cdv, ct, osl, rfl, lk, hcd⟩ := FR'.ex
    obtain ⟨cc, rfl⟩ := He.codeIn_ref hcd
    have ec : He.codeOf K nmF = cc := He.codeOf_eq lk rfl
    refine ⟨_, oc, od, kV, doc, pm, an, ct, osl, ?_, ?_, gR, kR, ?_⟩
    · show K.lookup _ = some ⟨oc, od, .func (PySem.W.fnOf _ _ _ _ _ .none kV doc pm an (.ref (He.codeOf K nmF)) ct), osl⟩
      rw [ec]
      exact lk
    · show PySem.W.codeIn K (.ref (He.codeOf K nmF)) _ = true
      rw [ec]
      exact hcd
    · show Binds K (PySem.W.fnOf _ _ _ _ _ .none kV doc pm an (.ref (He.codeOf K nmF)) ct) _ []
      rw [ec]
      exact bR
  have FE' : Fun K "_law_errors_right" "_law_errors_right" sErr _ fdE := fun_of FE
  have AE : AtC K mg "_law_errors_right" sErr ["_law_pen_here", "_law_kind", "_law_scale", "_law_way", "_law_many"] (He.cT K nmG).1 := by
    have bE := FE'.binds (ps := ["_law_pen_here", "_law_kind", "_law_scale", "_law_way", "_law_many"]) fun _ _ _ _ _ _ us hl => match us, hl with | [_, _, _, _, _], _ => rfl
    have gE := gloF X G d (x := "_law_errors_right") (by decide +kernel)
    have kE := FE'.kp
    obtain ⟨oc, od, kV, doc, pm, an, cdv, ct, osl, rfl, lk, hcd⟩ := FE'.ex
    obtain ⟨cc, rfl⟩ := He.codeIn_ref hcd
    have ec : He.codeOf K nmG = cc := He.codeOf_eq lk rfl
    refine ⟨_, oc, od, kV, doc, pm, an, ct, osl, ?_, ?_, gE, kE, ?_⟩
    · show K.lookup _ = some ⟨oc, od, .func (PySem.W.fnOf _ _ _ _ _ .none kV doc pm an (.ref (He.codeOf K nmG)) ct), osl⟩
      rw [ec]
      exact lk
    · show PySem.W.codeIn K (.ref (He.codeOf K nmG)) _ = true
      rw [ec]
      exact hcd
    · show Binds K (PySem.W.fnOf _ _ _ _ _ .none kV doc pm an (.ref (He.codeOf K nmG)) ct) _ []
      rw [ec]
      exact bE
  have hL : ∀ (s : Shared) (u : Value), BindsTo s fdL ⟨[u], []⟩ [("_law_script", u)] := by
    obtain ⟨oc, od, kV, doc, pm, an, cdv, ct, osl, rfl, lk, hcd⟩ := FL'.ex
    exact fun s u => .of_eq rfl
  have i1 : nmF ∈ [nmF, nmG] := List.mem_cons_self ..
  have i2 : nmG ∈ [nmF, nmG] := List.mem_cons_of_mem _ (List.mem_singleton.mpr rfl)
  have j1 : He.cT K nmF ∈ [He.cT K nmF, He.cT K nmG] := List.mem_cons_self ..
  have j2 : He.cT K nmG ∈ [He.cT K nmF, He.cT K nmG] := List.mem_cons_of_mem _ (List.mem_singleton.mpr rfl)
  have two : ∀ {p : Addr × Addr}, p ∈ [He.cT K nmF, He.cT K nmG] → p = He.cT K nmF ∨ p = He.cT K nmG := fun hp => (List.mem_cons.mp hp).imp id List.mem_singleton.mp
  refine ⟨fdL, [He.cT K nmF, He.cT K nmG], spLaw K (He.cT K nmF).2 (He.cT K nmG).2, fun p hp => ?_, fun p hp => ?_, fun p hp => ?_, hL, fun H a ns hl _ hT hs => ⟨a, ns, rfl, hs, hl, fun p hp => ?_, fun _ => rfl⟩, fun base XB GB TBs => ?_⟩
  · rcases two hp with rfl | rfl
    · exact c.empty nmF i1
    · exact c.empty nmG i2
  · rcases two hp with rfl | rfl
    · exact c.out nmF i1
    · exact c.out nmG i2
  · rcases two hp with rfl | rfl
    · exact PySem.W.codeHd_of_K X (c.hd nmF i1)
    · exact PySem.W.codeHd_of_K X (c.hd nmG i2)
  · rcases (List.mem_cons.mp hp).imp id List.mem_singleton.mp with rfl | rfl
    · exact TabS.nil (hT (He.cT K nmF) j1)
    · exact TabS.nil (hT (He.cT K nmG) j2)
  · have TB := TBs (He.cT K nmF) j1
    have TBe := TBs (He.cT K nmG) j2
    have B : Blt mg := { isi := freeF X G d (by decide +kernel), int := freeF X G d (by decide +kernel), bool := freeF X G d (by decide +kernel), len := freeF X G d (by decide +kernel), list := freeF X G d (by decide +kernel), range := freeF X G d (by decide +kernel), tuple := freeF X G d (by decide +kernel), all := freeF X G d (by decide +kernel), dm := freeF X G d (by decide +kernel), min := freeF X G d (by decide +kernel), max := freeF X G d (by decide +kernel), str := freeF X G d (by decide +kernel), abs := freeF X G d (by decide +kernel), dict := freeF X G d (by decide +kernel), any := freeF X G d (by decide +kernel) }
    have TE_BadValue : ErrC PySem.Challenge.rw_figurestay_k53_whole_gaps.prog w K mg base "BadValue" "value" 1 (He.ga K "BadValue") (spErr (He.ga K "BadValue") "value") := ⟨gloF X G d (by decide +kernel), oexB_ok oex_BadValue, ⟨_, fd_BadValue, mt_BadValue.1, beq_iff_eq.mp mt_BadValue.fn, ok_err_BadValue F_BadValue (oexB_ok oex_BadValue) no_BadValue, b_BadValue⟩, L2.xfB_ok xf_BadValue, te_BadValue, no_BadValue⟩
    have TE_TooFine : ErrC PySem.Challenge.rw_figurestay_k53_whole_gaps.prog w K mg base "TooFine" "scale" 1 (He.ga K "TooFine") (spErr (He.ga K "TooFine") "scale") := ⟨gloF X G d (by decide +kernel), oexB_ok oex_TooFine, ⟨_, fd_TooFine, mt_TooFine.1, beq_iff_eq.mp mt_TooFine.fn, ok_err_TooFine F_TooFine (oexB_ok oex_TooFine) no_TooFine, b_TooFine⟩, L2.xfB_ok xf_TooFine, te_TooFine, no_TooFine⟩
    have TE_NoFigures : ErrN PySem.Challenge.rw_figurestay_k53_whole_gaps.prog w K mg base "NoFigures" (He.ga K "NoFigures") := ⟨gloF X G d (by decide +kernel), oexB_ok oex_NoFigures, ⟨_, fd_NoFigures, mt_NoFigures.1, beq_iff_eq.mp mt_NoFigures.fn, ok_err_NoFigures F_NoFigures, b_NoFigures⟩⟩
    have TE_BadColumn : ErrC PySem.Challenge.rw_figurestay_k53_whole_gaps.prog w K mg base "BadColumn" "column" 1 (He.ga K "BadColumn") (spErr (He.ga K "BadColumn") "column") := ⟨gloF X G d (by decide +kernel), oexB_ok oex_BadColumn, ⟨_, fd_BadColumn, mt_BadColumn.1, beq_iff_eq.mp mt_BadColumn.fn, ok_err_BadColumn F_BadColumn (oexB_ok oex_BadColumn) no_BadColumn, b_BadColumn⟩, L2.xfB_ok xf_BadColumn, te_BadColumn, no_BadColumn⟩
    have I_Worth : WIs K (He.ga K "Worth") := wis_ok wis_Worth
    have sL_Worth : ∀ T ∈ tys, PySem.W.subIn K (.type T) (.ref (He.ga K "Worth")) = some false := fun T hT => of_decide_eq_true (List.all_eq_true.mp sub_Worth T hT)
    have I_Column : WIs K (He.ga K "Column") := wis_ok wis_Column
    have T : WorthC K mg (He.ga K "Worth") := ⟨(gloF X G d (by decide +kernel)), cls_Worth, no_Worth_units, no_Worth_scale, no_Worth_floor, no_Worth_more⟩
    have FW' : FunD K "__init__" "Worth.__init__" (defArgs (wI 0)) (defBody (wI 0)) (defScope (wI 0)) [V.int 0] [] _ fd_Worth := FI_Worth
    have bW1 : ∃ ds, Vals [V.int 0] ds ∧ Binds K fd_Worth ["self", "units", "scale"] ds := FW'.binds1 2 0 (by simp) rfl fun T kV doc pm an cdv ct us its hu hi => match us, its, hu, hi with | [_, _], [_], _, _ => ⟨_, rfl, rfl⟩
    have bW0 : Binds K fd_Worth ["self", "units", "scale"] [] := by
      obtain ⟨ds, rd, b⟩ := FW'.binds1 (ps := ["self", "units", "scale"]) 3 1 (by simp) rfl fun T kV doc pm an cdv ct us its hu hi => match us, its, hu, hi with | [_, _, _], [_], _, _ => ⟨_, rfl, rfl⟩
      have e : ds = [] := by cases rd; rfl
      rw [e] at b
      exact b
    have TX : Tx8 PySem.Challenge.rw_figurestay_k53_whole_gaps.prog w K mg base (He.ga K "BadValue") (He.ga K "WAYS") (He.ga K "HALVES") es_HALVES n_HALVES :=
      { isi := B.isi, int := B.int, bool := B.bool, len := B.len, list := B.list, range := B.range, tuple := B.tuple, all := B.all, dm := B.dm, err := TE_BadValue, gW := (gloF X G d (by decide +kernel)), ways := fun H => (He.tupB_ok tup_WAYS H), gH := (gloF X G d (by decide +kernel)), dH := d_HALVES, halv := fun z hz => getB_ok get_HALVES hz }
    have tens : ∀ H : Hp, SqT K H (He.ga K "TENS") (tensL.map V.int) := fun H => by
      have z := He.tupB_ok tup_TENS H
      rw [List.map_map] at z
      exact z
    have D1 := ok_isInt (P := PySem.Challenge.rw_figurestay_k53_whole_gaps.prog) (w := w) (base := base) A_is_an_integer B
    have D2 := ok_isWh A_is_whole_number D1
    have D3 := ok_nInt A_need_integer TE_BadValue D1
    have D4 := ok_nWh A_need_whole_number TE_BadValue D2
    have D5 := ok_tenTo (P := PySem.Challenge.rw_figurestay_k53_whole_gaps.prog) (w := w) (base := base) A_ten_to B (gloF X G d (by decide +kernel)) tens 8 (by decide)
    have D6 := ok_wz A_without_zeros D5
    have Ddg := ok_dig (P := PySem.Challenge.rw_figurestay_k53_whole_gaps.prog) (w := w) (base := base) A_digits_of B
    have Dpt := ok_part A_parted B D5 Ddg
    have M : WMk PySem.Challenge.rw_figurestay_k53_whole_gaps.prog w K mg base (He.ga K "BadValue") (He.ga K "Worth") := ⟨_, fd_Worth, mk_Worth, ok_wI FW' T D3 D4 D6 Dpt, bW0, bW1⟩
    have D7 := ok_asW A_as_worth B T I_Worth M
    have U : WMeth PySem.Challenge.rw_figurestay_k53_whole_gaps.prog w K mg base (He.ga K "Worth") "units_at" 10 ["self", "scale"] (spUat (He.ga K "Worth")) := ⟨_, fd_Worth_units_at, m_Worth_units_at, ok_uat G_Worth_units_at T TE_TooFine D4 D5, b_Worth_units_at⟩
    have oS : WOp PySem.Challenge.rw_figurestay_k53_whole_gaps.prog w K mg base (He.ga K "Worth") .Sub 14 (spBin (He.ga K "BadValue") (He.ga K "Worth") (· - ·)) := ⟨_, fd_Worth_sub, self_W, m_Worth_sub.1, m_Worth_sub.fn, ok_sub G_Worth_sub B T M D7 U, b_Worth_sub⟩
    have D8 := ok_needW A_need_worth B T I_Worth TE_BadValue
    have E1 := ok_nWay A_need_way TX
    have E3 := ok_goes A__goes_up TX
    have E4 := ok_near A_nearest_units TX E3
    have E5 := ok_rnd A_rounded T M D8 D4 E1 D5 E4
    have marks : ∀ H : Hp, SqT K H (He.ga K "MARKS") (marksL.map V.str) := fun H => by
      have z := He.tupB_ok tup_MARKS H
      rw [List.map_map] at z
      exact z
    have E2 := ok_one A_is_integer_from_1 D1
    have TS : ShapeC K mg (He.ga K "Shape") := ⟨(gloF X G d (by decide +kernel)), cls_Shape, no_Shape_whole, no_Shape_scale⟩
    have MS : SMk PySem.Challenge.rw_figurestay_k53_whole_gaps.prog w K mg base (He.ga K "BadValue") (He.ga K "NoFigures") (He.ga K "Shape") := ⟨_, fd_Shape, mk_Shape, ok_sI GI_Shape TS TE_NoFigures D4, bI_Shape⟩
    have TC : ColC K mg (He.ga K "Column") := ⟨(gloF X G d (by decide +kernel)), cls_Column, no_Column_shape, no_Column_mark⟩
    have FC' : FunD K "__init__" "Column.__init__" (defArgs (coI 0)) (defBody (coI 0)) (defScope (coI 0)) [V.str "signed"] [] _ fd_Column := FI_Column
    have bC1 : ∃ ds, Vals [V.str "signed"] ds ∧ Binds K fd_Column ["self", "whole", "scale", "mark"] ds := FC'.binds1 3 0 (by simp) rfl fun T kV doc pm an cdv ct us its hu hi => match us, its, hu, hi with | [_, _, _], [_], _, _ => ⟨_, rfl, rfl⟩
    have bC0 : Binds K fd_Column ["self", "whole", "scale", "mark"] [] := by
      obtain ⟨ds, rd, b⟩ := FC'.binds1 (ps := ["self", "whole", "scale", "mark"]) 4 1 (by simp) rfl fun T kV doc pm an cdv ct us its hu hi => match us, its, hu, hi with | [_, _, _, _], [_], _, _ => ⟨_, rfl, rfl⟩
      have e : ds = [] := by cases rd; rfl
      rw [e] at b
      exact b
    have MC : CMk PySem.Challenge.rw_figurestay_k53_whole_gaps.prog w K mg base (He.ga K "BadValue") (He.ga K "NoFigures") (He.ga K "Column") (He.ga K "Shape") := ⟨_, fd_Column, mk_Column, ok_cI FC' TC TS MS (gloF X G d (by decide +kernel)) marks TE_BadValue D4, bC0, bC1⟩
    have oX : WMulI PySem.Challenge.rw_figurestay_k53_whole_gaps.prog w K mg base (He.ga K "BadValue") (He.ga K "Worth") := ⟨_, fd_Worth_mul, _, self_W, m_Worth_mul.1, m_Worth_mul.fn, m_Worth_rmul.1, sL_Worth, ok_mul G_Worth_mul T M D7, b_Worth_mul⟩
    have Db := ok_bel A_is_below_ten_to B T D5
    have MF : SMeth PySem.Challenge.rw_figurestay_k53_whole_gaps.prog w K mg base (He.ga K "Shape") "fits" 11 ["self", "worth"] (spFits (He.ga K "BadValue") (He.ga K "Worth") (He.ga K "Shape")) := ⟨_, fd_Shape_fits, m_Shape_fits, ok_fits G_Shape_fits T TS D8 Db, b_Shape_fits⟩
    have MH : SMeth PySem.Challenge.rw_figurestay_k53_whole_gaps.prog w K mg base (He.ga K "Column") "holds" 12 ["self", "worth"] (spHld (He.ga K "BadValue") (He.ga K "Worth") (He.ga K "Column") (He.ga K "Shape")) := ⟨_, fd_Column_holds, m_Column_holds, ok_hld G_Column_holds T TS TC MF, b_Column_holds⟩
    have nP : (He.cT K nmF).2 ≠ (He.cT K nmG).2 := of_decide_eq_true neT
    have F1 := ok_crowd (S := He.ga K "Shape") A__need_crowd B TC I_Column TE_BadColumn TE_BadValue E2 D4 E1
    have F2 := ok_tw A__telling_worths T M D5
    have F3 := ok_rg (qE := qE) AR TB nP B T TC TS M oS oX U MH F1 E5 F2
    have L0 := ok_begin (P := PySem.Challenge.rw_figurestay_k53_whole_gaps.prog) (w := w) (base := base) A__law_pen B
    have LW := ok_drawW (P := PySem.Challenge.rw_figurestay_k53_whole_gaps.prog) (w := w) (base := base) A__law_draw B
    have L1 := drawn_of LW
    have L2 := ok_pick A__law_pick B L1
    have L3 := ok_great A__law_great B L1
    have L5 := ok_ways (P := PySem.Challenge.rw_figurestay_k53_whole_gaps.prog) (w := w) (base := base) A__law_ways
    have L6 := ok_te (P := PySem.Challenge.rw_figurestay_k53_whole_gaps.prog) (w := w) (base := base) A__law_tens B
    have L7 := ok_rd (P := PySem.Challenge.rw_figurestay_k53_whole_gaps.prog) (w := w) (base := base) A__law_rounded B
    have LH := ok_hd A__law_held L6
    have LC := ok_lc A__law_column B L2
    have LN := ok_nu A__law_number B LW L1 L2
    have LA := ok_at A__law_at B T I_Worth L6
    have LG := ok_gp A__law_gap L7
    have LK := ok_ks A__law_kinds B L1 L3 LN
    have LE := ok_en A__law_ends_right B L6 LA LH LG
    have Ltd := ld_told (T := [((He.cT K nmF).2, qR), ((He.cT K nmG).2, qE)]) A__law_told TE_BadColumn TE_BadValue (of_decide_eq_true exm_CE)
    have Ler := ok_errs AE TBe nP L2 F3 Ltd
    exact ok_law FL' B TC MC L0 L1 L2 L3 L5 L6 LC LH LG LK LE F3 Ler
end
end K53
open PySem PySem.W PySem.Calls PyProof.Rows
theorem PySem.Challenge.cw_figurestay_k53_whole_gaps_holds : PySem.Challenge.rw_figurestay_k53_whole_gaps.Holds := by
  w_on; o_law
  refine HandSHeadRun.head_any (r := OpenLaw.row PySem.Challenge.rw_figurestay_k53_whole_gaps) (q := view (OpenLaw.row PySem.Challenge.rw_figurestay_k53_whole_gaps).prog [55]) (H := K53.hkL) (ob := K53.obL) (M := 12000) (loose := K53.looseL)
    (d := HandSHeadRun.topDef (OpenLaw.row PySem.Challenge.rw_figurestay_k53_whole_gaps).prog 55) (kwd := []) K53.obL_eq
    (by kernel_rfl) (fun s => by kernel_rfl) K53.runL (by kernel_rfl) (by kernel_rfl) (by kernel_rfl) (by rfl) (by first | assumption | decide +kernel) (by decide +kernel) ⟨rfl, rfl, rfl, rfl, rfl, by decide +kernel⟩ ?hw ?hc
  case hw => w_witness2
  case hc =>
    refine LamX.walk_ofTsE (l := PySem.Challenge.rw_figurestay_k53_whole_gaps) (n := 63) (k := 20) (x := "_law_script") (CX := fun _ => L2.CX0) rfl (by decide) (by kernel_rfl) ⟨rfl, by decide, by decide⟩ ?F (fun _ _ _ _ _ z => z)
    intro w mg fa h Y G hmg0
    obtain ⟨K, KX, c, cp⟩ := Y
    have hmg : mg ("law" : PySem.Str) = some (.ref fa) := by
      have e : (HandSHeadRun.topDef (OpenLaw.row PySem.Challenge.rw_figurestay_k53_whole_gaps).prog 55).name = ("law" : PySem.Str) := by kernel_rfl
      rw [← e]
      exact hmg0
    exact ⟨K, KX, K53.law_at KX G hmg c cp⟩
