import PyProof.Rows.All
import Wide.All
import OpenK.AllK
import Wide.FinOn
import HandS.ForMost
import HandS.ForExc
import HandS.Wide
import HandS.WideBits
import HandS.IsInst
import HandS.ExcInit
import HandS.ExcField
import HandS.Nested
import HandS.Deep
import HandS.More
import HandS.Codes
import HandS.Lambda
import KE.KDflt
import KE.IntTextLaws
import HandS.ExcOwn
import HandS.WordsExc
import KE.KStateDown
import HandS.Head0
import HandS.Head1
import HandS.Head2
import HandS.HeadEnd
import HandS.HeadHook1
import HandS.HeadHook2
import HandS.HeadHook3
import HandS.HeadHook4
import HandS.HeadWalk
import KE.KOpsOwn
import HandS.OwnEq
import PyProof.Rows.RuleN_abs
import PyProof.InstNe
import HandS.Property
import HandS.ExcIs
import KE.KExcIs
import PyProof.NeKinds
import HandS.StrMore
import HandS.Text
import PySem.Challenge.RW_figurestay_k45_whole_ways_compared
import HandS.Style
import Wide.Once
set_option Elab.async false
set_option linter.all false
set_option maxRecDepth 100000
set_option maxHeartbeats 4000000
/-! own layer, of no law: OWN -/
namespace Own
open PySem PySem.Spec PyProof.Rows L2
/-! ### heaps -/
/-- all but what stands at d is as it was -/
def Keep (d : Addr) (H H' : Hp) : Prop := ∀ b o, b ≠ d → H b = some o → H' b = some o
theorem Keep.refl {d : Addr} {H : Hp} : Keep d H H := fun _ _ _ e => e
theorem Keep.trans {d : Addr} {H H1 H2 : Hp} (a : Keep d H H1) (b : Keep d H1 H2) : Keep d H H2 := fun c o n e => b c o n (a c o n e)
theorem Keep.new {d p : Addr} {o : HO} {H : Hp} (h : H p = none) : Keep d H (upd H p o) := fun b u _ e => by
  rw [upd_ne (ne_of_none e h)]
  exact e
theorem Keep.at {d : Addr} {o : HO} {H : Hp} : Keep d H (upd H d o) := fun b u n e => by
  rw [upd_ne n]
  exact e
theorem Keep.same {d : Addr} {H H' : Hp} (s : Same H H') : Keep d H H' := fun b u _ e => s b u e
theorem same_new {H : Hp} {p : Addr} {o : HO} (h : H p = none) : Same H (upd H p o) := fun b u e => by
  rw [upd_ne (ne_of_none e h)]
  exact e
theorem ne_txt : ¬ (("cells" : Str) = "count") ∧ ¬ (("cells" : Str) = "left") ∧ ¬ (("count" : Str) = "left") ∧ ¬ (("count" : Str) = "cells") ∧ ¬ (("left" : Str) = "cells") ∧ ¬ (("left" : Str) = "count") := by decide +kernel
/-- what the pen's dict holds -/
def penK (p : Addr) (c l : Int) : List (Key × V) := [(Sum.inr "cells", V.ref p), (Sum.inr "count", V.int c), (Sum.inr "left", V.int l)]
theorem pen_cells (p : Addr) (c l : Int) : valV (penK p c l) (Sum.inr "cells" : Key) = some (.ref p) := valV_pos rfl
theorem pen_count (p : Addr) (c l : Int) : valV (penK p c l) (Sum.inr "count" : Key) = some (.int c) := by
  unfold penK
  rw [valV_neg (fun e => ne_txt.1 (Sum.inr.inj e)), valV_pos rfl]
theorem pen_left (p : Addr) (c l : Int) : valV (penK p c l) (Sum.inr "left" : Key) = some (.int l) := by
  unfold penK
  rw [valV_neg (fun e => ne_txt.2.1 (Sum.inr.inj e)), valV_neg (fun e => ne_txt.2.2.1 (Sum.inr.inj e)), valV_pos rfl]
theorem key_dec {a b : Str} (h : ¬ a = b) : decide ((Sum.inr a : Key) = Sum.inr b) = false := decide_eq_false fun e => h (Sum.inr.inj e)
theorem put_count (p : Addr) (c l c' : Int) : putK (penK p c l) (Sum.inr "count" : Key) (.int c') = penK p c' l := by
  unfold penK putK
  simp [key_dec ne_txt.1, key_dec ne_txt.2.2.1, key_dec ne_txt.2.2.2.2.2, ne_txt]
theorem put_left (p : Addr) (c l l' : Int) : putK (penK p c l) (Sum.inr "left" : Key) (.int l') = penK p c l' := by
  unfold penK putK
  simp [key_dec ne_txt.2.1, key_dec ne_txt.2.2.1, ne_txt]
/-- the pen stands at d: at most B draws were begun -/
structure Pen (H : Hp) (d : Addr) (B : Int) : Prop where
  ex : ∃ (p : Addr) (ns : List Int) (c l : Int), H d = some (.dK (penK p c l)) ∧ H p = some (.lst (ns.map V.int)) ∧ ns.length ≤ 63 ∧ 0 ≤ c ∧ c ≤ B
theorem Pen.mono {H : Hp} {d : Addr} {B B' : Int} (h : Pen H d B) (z : B ≤ B') : Pen H d B' := by
  obtain ⟨p, ns, c, l, a, b, e, f, g⟩ := h.ex
  exact ⟨p, ns, c, l, a, b, e, f, by omega⟩
theorem Pen.same {H H' : Hp} {d : Addr} {B : Int} (h : Pen H d B) (s : Same H H') : Pen H' d B := by
  obtain ⟨p, ns, c, l, a, b, e, f, g⟩ := h.ex
  exact ⟨p, ns, c, l, s _ _ a, s _ _ b, e, f, g⟩
end Own

/-! from L06 -/
namespace Own
open PySem PySem.Spec PyProof.Rows L2 LamX NdefX
/-- the integers that stand as defaults -/
def dInts : List Expr → List Int
  | .Constant (.int i) _ _ :: r => i :: dInts r
  | _ => []
/-- the tuple of defaults -/
def DfV (H : Hp) (dV : Value) (ds : List Int) : Prop := (ds = [] ∧ dV = .none) ∨ (ds ≠ [] ∧ ∃ T : Addr, dV = .ref T ∧ H T = some (.tup (ds.map V.int)))
def DfIn (h : Heap) (dV : Value) (us : List Value) : Prop := (us = [] ∧ dV = .none) ∨ (us ≠ [] ∧ ∃ T : Addr, dV = .ref T ∧ IsTup h T us.toArray)
/-- a lambda's words in F (its body apart), its defaults dV -/
abbrev lamFd (F : NF) (b : Expr) (dV doc pm ctv : Value) : FuncData := PySem.W.kdv_fn F.name F.qual F.params (.expr b) F.scope F.cl dV doc pm (.ref F.c) ctv
def LamO (f : Addr) (F : NF) (b : Expr) (dV : Value) : HO := .ext fun h => ∃ doc pm ctv : Value, h.get? f = some ({ cls := .type "function", data := .func (lamFd F b dV doc pm ctv) } : Obj)
/-- at f stands the lambda F, whose body is b -/
def LamAt (H : Hp) (f : Addr) (F : NF) (b : Expr) : Prop := ∃ dV : Value, H f = some (LamO f F b dV) ∧ DfV H dV (dInts F.params.defaults)
theorem lamO_ne {f : Addr} {F : NF} {b : Expr} {dV : Value} (ps : Array Value) : LamO f F b dV ≠ .tbl ps := fun z => by
  unfold LamO at z
  cases z
theorem LamAt.ext {H H' : Hp} {f : Addr} {F : NF} {b : Expr} (h : LamAt H f F b) (e : ExtN H H') : LamAt H' f F b := by
  obtain ⟨dV, h1, h2⟩ := h
  refine ⟨dV, e _ _ h1 lamO_ne, ?_⟩
  rcases h2 with z | ⟨n, T, z, q⟩
  · exact .inl z
  · exact .inr ⟨n, T, z, e _ _ q fun ps z => by cases z⟩
theorem lamO_at {P : Program} {w : World} {H : Hp} {h : Heap} {f : Addr} {F : NF} {b : Expr} (hok : HOk P w H h) (e : LamAt H f F b) :
    ∃ dV doc pm ctv : Value, h.get? f = some ({ cls := .type "function", data := .func (lamFd F b dV doc pm ctv) } : Obj) ∧ ∃ us : List Value, Vals ((dInts F.params.defaults).map V.int) us ∧ DfIn h dV us := by
  obtain ⟨dV, h1, h2⟩ := e
  obtain ⟨doc, pm, ctv, z⟩ := (hok f _ h1).1
  refine ⟨dV, doc, pm, ctv, z, ?_⟩
  rcases h2 with ⟨n, z⟩ | ⟨n, T, z, q⟩
  · rw [n]
    exact ⟨[], .nil, .inl ⟨rfl, z⟩⟩
  · obtain ⟨_, its, r, p⟩ := hok T _ q
    refine ⟨its, r, .inr ⟨fun z => ?_, T, z, p⟩⟩
    rw [z] at r
    cases hd : dInts F.params.defaults with
    | nil => exact n hd
    | cons a l =>
      rw [hd] at r
      cases r
section
variable {X : Cx} {pins : List (Addr × Obj)} {σ : L2.St} {H : Hp} {s : Shared}
theorem lam_laid {F : NF} {b : Expr} {dV doc pm ctv : Value} {t' : Nat} (I : Inv X pins σ H s) :
    Inv X pins σ (upd H s.heap.objs.size (LamO s.heap.objs.size F b dV)) { s with heap := s.heap.push ({ cls := .type "function", data := .func (lamFd F b dV doc pm ctv) } : Obj), toks := t' } := by
  have e : (s.heap.push ({ cls := .type "function", data := .func (lamFd F b dV doc pm ctv) } : Obj)).get? s.heap.objs.size = some ({ cls := .type "function", data := .func (lamFd F b dV doc pm ctv) } : Obj) := Heap.get?_push_size _ rfl
  exact I.laid (fun _ _ z => Heap.get?_push_of_some _ z) (Nat.le_refl _) ⟨⟨doc, pm, ctv, e⟩, ⟨_, e⟩, fun _ _ ⟨d, p, c, z⟩ k => ⟨d, p, c, k _ z⟩⟩
/-- the words of the lambda that X makes: c' its code object -/
abbrev lamF (X : Cx) (params : Arguments) (scope : Scope) (c' : Addr) : NF := ⟨"<lambda>", X.env.qual ++ "<lambda>", params, [], scope, cloFrom X.env.cells scope.names [], c'⟩
/-- a lambda made, its defaults laid, and known from now on -/
theorem lam_tail {T : List (Addr × Str)} {c P : Addr} {params : Arguments} {body : Expr} {scope : Scope} {pos : Pos} {fl : Nat} {dV : Value} {E Q : Value → Shared → Prop} (I : Inv X pins σ H s) (TB : TabB X.base X.mg c P) (hcode : X.env.code = .ref c)
    (hm : (P, X.env.qual ++ "<lambda>") ∈ T) (hu : ∀ p ∈ T, p.1 = P → p.2 = X.env.qual ++ "<lambda>") (hT : Tabs T H) (hfree : ∀ y ∈ scope.names, y.2 = .free → ∃ c, X.env.cells.lookup y.1 = some c)
    (k : ∀ (f c' : Addr) (H1 : Hp) (s' : Shared), Inv X pins σ H1 s' → ExtN H H1 → Tabs T H1 → H f = none → H1 f = some (LamO f (lamF X params scope c') body dV) → H1 c' = some (CodeO c' (X.env.qual ++ "<lambda>")) → Q (.ref f) s') :
    wpAny (model X.prog X.w) X.A (makeTail "<lambda>" (X.env.qual ++ "<lambda>") params (.expr body) scope X.env dV .none none pos fl) Q E s := by
  have hTP := hT (P, X.env.qual ++ "<lambda>") hm
  obtain ⟨ps, hP, trip, among⟩ := hTP
  have oP : s.heap.get? P = some { cls := .none, data := .fields ps } := I.hok P _ hP
  have bl := TB.bm.keeps I.bk
  have gl := I.mod.glob.keeps I.bk
  have cd := TB.code.keeps I.bk
  rcases hc : codeAmong pos ps.toList with _ | cv
  · refine PySem.W.kdv_makeTail (closure_ok hfree) I.ok.glob gl hcode cd oP trip hc TB.gP bl ?_
    intro c' ctv doc h' tk hx hge hlt hrec htb
    obtain ⟨c0, oc, vs, t, hc0, hoc, hdc, hvc⟩ := hrec
    obtain rfl : c0 = c' := (Value.ref.inj hc0).symm
    have fresh : H c0 = none := I.hok.fresh hge
    have I1 := inv_table (t' := tk) (q := X.env.qual ++ "<lambda>") (h' := h') I hP (fun b o n e => hx b o n e) htb hge ⟨oc, vs, t, hoc, hdc, hvc⟩
    generalize eH1 : upd (upd H P (.tbl (ps ++ #[rawInt pos.line, rawInt pos.col, .ref c0]))) c0 (CodeO c0 (X.env.qual ++ "<lambda>")) = H1 at I1
    have at1 : H1 c0 = some (CodeO c0 (X.env.qual ++ "<lambda>")) := by rw [← eH1]; exact upd_same
    have ext1 : ExtN H H1 := fun b o e n => by
      have b1 : b ≠ c0 := ne_of_none e fresh
      have b2 : b ≠ P := fun z => n ps (Option.some.inj (e.symm.trans (z ▸ hP)))
      rw [← eH1, upd_ne b1, upd_ne b2]
      exact e
    have tabs1 : Tabs T H1 := fun p hp => by
      by_cases hb : p.1 = P
      · have hq := hu p hp hb
        rw [hq, hb]
        refine ⟨ps ++ #[rawInt pos.line, rawInt pos.col, .ref c0], ?_, ?_, fun p' cv hcv => ?_⟩
        · rw [← eH1, upd_ne (ne_of_none hP fresh), upd_same]
        · rw [Array.toList_append]
          exact PySem.TriplesOk_snoc _ _ _ _ trip
        · rw [Array.toList_append] at hcv
          rcases among_app _ trip hcv with z | z
          · obtain ⟨c1, a1, a2⟩ := among p' cv z
            exact ⟨c1, a1, ext1 _ _ a2 codeO_ne⟩
          · exact ⟨c0, z, at1⟩
      · obtain ⟨qs, a1, a2, a3⟩ := hT p hp
        refine ⟨qs, ?_, a2, fun p' cv hcv => ?_⟩
        · rw [← eH1, upd_ne (ne_of_none a1 fresh), upd_ne hb]
          exact a1
        · obtain ⟨c1, b1, b2⟩ := a3 p' cv hcv
          exact ⟨c1, b1, ext1 _ _ b2 codeO_ne⟩
    have nf1 : H1 h'.objs.size = none := I1.hok.fresh (Nat.le_refl _)
    have I2 := lam_laid (F := lamF X params scope c0) (b := body) (dV := dV) (doc := doc) (pm := (X.mg "__name__").getD .none) (ctv := ctv) (t' := tk) I1
    have up : ∀ b o, H1 b = some o → upd H1 h'.objs.size (LamO h'.objs.size (lamF X params scope c0) body dV) b = some o := fun b o e => (upd_ne (ne_of_none e nf1)).trans e
    exact k _ c0 _ _ I2 (ext1.trans (ExtN.of up)) (tabs1.ext up) (I.hok.fresh (Nat.le_trans hge (Nat.le_of_lt hlt))) upd_same (up _ _ at1)
  · obtain ⟨c', rfl, at0⟩ := among pos cv hc
    refine PySem.W.kdv_makeTailHit (closure_ok hfree) I.ok.glob gl hcode cd oP trip hc bl ?_
    intro ctv doc h' tk hx hsz
    have I1 : Inv X pins σ H { s with heap := h', toks := tk } := I.kept hx
    have nf1 : H h'.objs.size = none := I1.hok.fresh (Nat.le_refl _)
    have I2 := lam_laid (F := lamF X params scope c') (b := body) (dV := dV) (doc := doc) (pm := (X.mg "__name__").getD .none) (ctv := ctv) (t' := tk) I1
    have up : ∀ b o, H b = some o → upd H h'.objs.size (LamO h'.objs.size (lamF X params scope c') body dV) b = some o := fun b o e => (upd_ne (ne_of_none e nf1)).trans e
    exact k _ c' _ _ I2 (ExtN.of up) (hT.ext up) nf1 upd_same (up _ _ at0)
/-- the reading of a lambda as a value -/
def tLamV (X : Cx) (T : List (Addr × Str)) (params : Arguments) (body : Expr) (scope : Scope) : TE := fun _ H Q => Tabs T H ∧ ∀ (f c' : Addr) (H1 : Hp), ExtN H H1 → Tabs T H1 → H f = none →
  LamAt H1 f (lamF X params scope c') body → H1 c' = some (CodeO c' (X.env.qual ++ "<lambda>")) → Q (.ref f) H1
theorem pe_lamV {T : List (Addr × Str)} {c P : Addr} {params : Arguments} {body : Expr} {scope : Scope} {pos : Pos} (TB : TabB X.base X.mg c P) (hcode : X.env.code = .ref c) (hm : (P, X.env.qual ++ "<lambda>") ∈ T)
    (hu : ∀ p ∈ T, p.1 = P → p.2 = X.env.qual ++ "<lambda>") (hdef : params.defaults = []) (hkd : params.kw_defaults = []) (hfr : ∀ y ∈ scope.names, y.2 = .free → X.env.scope.names.lookup y.1 = some .cell ∨ X.env.scope.names.lookup y.1 = some .free) :
    PE X (.Lambda params body scope pos) (tLamV X T params body scope) := by
  refine ⟨fun pins s σ H Q I h => PySem.W.kla_eval ?_ ?_⟩
  · rw [defaultsOf_eq, hdef, hkd]
    rfl
  rw [makeFunction_eq]
  simp only [List.zip_nil_right, List.filterMap_nil, List.isEmpty_nil, if_true, pure_bind]
  refine lam_tail I TB hcode hm hu h.1 (fun y hy e => ?_) fun f c' H1 s' I1 e1 t1 n1 a1 b1 => ⟨.ref f, H1, I1, rfl, h.2 f c' H1 e1 t1 n1 ⟨.none, a1, .inl ⟨by show dInts params.defaults = []; rw [hdef] <;> rfl, rfl⟩⟩ b1⟩
  rcases hfr y hy e with z | z
  · exact I.ok.has _ (.inl z)
  · exact I.ok.has _ (.inr z)
/-- .. with one integer as default -/
theorem pe_lamV1 {T : List (Addr × Str)} {c P : Addr} {params : Arguments} {body : Expr} {scope : Scope} {pos p1 : Pos} {i : Int} {j : Nat} (TB : TabB X.base X.mg c P) (hcode : X.env.code = .ref c) (hm : (P, X.env.qual ++ "<lambda>") ∈ T)
    (hu : ∀ p ∈ T, p.1 = P → p.2 = X.env.qual ++ "<lambda>") (hdef : params.defaults = [.Constant (.int i) j p1]) (hkd : params.kw_defaults = []) (hfr : ∀ y ∈ scope.names, y.2 = .free → X.env.scope.names.lookup y.1 = some .cell ∨ X.env.scope.names.lookup y.1 = some .free) :
    PE X (.Lambda params body scope pos) (tLamV X T params body scope) := by
  refine ⟨fun pins s σ H Q I h => PySem.W.kdv_lam (by rw [hdef]; rfl) hkd ?_⟩
  rw [hdef]
  refine PySem.W.kdv_all1 (thn ((pe_int (X := X) (i := i) (j := j) (pos := p1)).run pins s σ H (fun v H1 => v = .int i ∧ H1 = H) I ⟨rfl, rfl⟩) ?_)
  rintro u s1 ⟨v, H1, I1, r1, rfl, rfl⟩
  refine PySem.W.kdv_all0 ?_
  rw [makeFunction_eq]
  simp only [List.zip_nil_right, List.filterMap_nil, List.isEmpty_nil, List.isEmpty_cons, if_true, pure_bind, Bool.false_eq_true, if_false]
  refine wpAny_bind (wpAny_newTextTuple ?_)
  have nT : H1 s1.heap.objs.size = none := I1.hok.fresh (Nat.le_refl _)
  have I2 : Inv X pins σ (upd H1 s1.heap.objs.size (.tup [.int i])) { s1 with heap := s1.heap.push { cls := .type "tuple", data := .seq [u].toArray } } :=
    I1.laid (t' := s1.toks) (fun _ _ z => Heap.get?_push_of_some _ z) (Nat.le_refl _) ⟨by show 1 ≤ sizeLine; decide, [u], .cons r1 .nil, IsTup.new s1.heap _⟩
  have up : ∀ b o, H1 b = some o → upd H1 s1.heap.objs.size (HO.tup [V.int i]) b = some o := fun b o e => (upd_ne (ne_of_none e nT)).trans e
  refine lam_tail I2 TB hcode hm hu (h.1.ext up) (fun y hy e => ?_) fun f c' H2 s' I3 e1 t1 n1 a1 b1 => ⟨.ref f, H2, I3, rfl, h.2 f c' H2 ((ExtN.of up).trans e1) t1 ?_ ⟨_, a1, .inr ⟨?_, _, rfl, ?_⟩⟩ b1⟩
  · rcases hfr y hy e with z | z
    · exact I.ok.has _ (.inl z)
    · exact I.ok.has _ (.inr z)
  · cases q : H1 f with
    | none => rfl
    | some o => exact (Option.some_ne_none _ ((up _ _ q).symm.trans n1)).elim
  · show dInts params.defaults ≠ []
    rw [hdef]
    simp [dInts]
  · show H2 s1.heap.objs.size = some (.tup ((dInts params.defaults).map V.int))
    rw [hdef]
    exact e1 _ _ upd_same fun ps z => by cases z
end
/-! ### what a lambda promises -/
structure LOk (P : Program) (w : World) (K : PySem.W.Frag) (mg : Str → Option Value) (base : Heap) (CX : CXT) (k : Nat) (f : Addr) (F : NF) (b : Expr) (fr : List Str) (sp : List (Option V) → Hp → VK → XK → Prop) : Prop where
  run : ∀ (A : Around) (outer : List Env) (s : Shared) (H : Hp) (ws : List (Option V)) (Q : VK) (E : XK), Room k A → Env0 P w K mg base A outer s H → LamAt H f F b → H F.c = some (CodeO F.c F.qual) →
    CellsAt F.cl fr ws s.heap H → sp ws H Q E → codeAny (model P w) A (.call (.ref f) ⟨[], []⟩) (CR CX outer P w H s Q E) s
section
variable {CX : CXT} {P : Program} {w : World} {K : PySem.W.Frag} {mg : Str → Option Value} {base : Heap} {N ps fr : List Str} {F : NF} {b : Expr} {f : Addr} {k : Nat} {sp : List (Option V) → Hp → VK → XK → Prop}
theorem lok_of (S : NScope N ps fr F.scope) (hl : (dInts F.params.defaults).length = ps.length)
    (hb : ∀ (dV doc pm ctv : Value) (s : Shared) (us : List Value), us.length = ps.length → DfIn s.heap dV us → BindsTo s (lamFd F b dV doc pm ctv) ⟨[], []⟩ (ps.zip us))
    (hbody : ∀ (A : Around) (outer : List Env) (s : Shared) (H : Hp) (ws : List (Option V)) (Q : VK) (E : XK), Room k (A.deeper (envF F f s.heap.objs.size)) → ws.length = fr.length → sp ws H Q E →
      ∃ t, PE (ncx CX P w K mg base N F f A outer s H E) b t ∧ t (startF N ((dInts F.params.defaults).map V.int) ws) H Q) : LOk P w K mg base CX (k + 1) f F b fr sp := by
  refine ⟨fun A outer s H ws Q E hr e0 hf hc C hsp => ?_⟩
  have lim : s.heap.NoLimit := e0.mod.nolimit.keeps fun b o e => (e0.bs b o e).1
  obtain ⟨dV, doc, pm, ctv, ho, us, rus, hd⟩ := lamO_at e0.hok hf
  have hlu : us.length = ps.length := by rw [← rus.length, List.length_map, hl]
  refine PySem.W.kla_callFunE hr.depth ho rfl S.co S.gen rfl (codeO_at e0.hok hc) ?_
  refine hb dV doc pm ctv s us hlu hd _ _ _ _ ?_
  refine wpAny_newFunctionEnv S.nocell (fun ⟨n, v⟩ hy => S.par n (List.of_mem_zip hy).1) (fun h₁ hns hsb => ⟨lim.fresh _ hsb, ?_⟩) S.kind
  show codeAny _ _ (.expr b (envF F f s.heap.objs.size)) _ _
  obtain ⟨t, ht, hq⟩ := hbody A outer s H ws Q E (hr.deeper _) C.len hsp
  have old : ∀ b o, s.heap.get? b = some o → h₁.get? b = some o := fun b o e => hsb.extBut b o (Nat.ne_of_lt (Heap.lt_size e)) (Heap.get?_push_of_some _ e)
  have I := inv_startN (CX := CX) (N := N) (F := F) (f := f) (E := E) (us := us) (vs := (dInts F.params.defaults).map V.int) (tk := s.toks + (ps.zip us).length) S hr.hd e0 (by rw [List.length_map, hl]) rus C hns old
  refine PySem.W.kla_codeExpr (wpAny_mono (ht.run [] _ _ H Q I hq) (fun v s' q => ?_) fun e s' q => q)
  obtain ⟨x, H', J, rx, q⟩ := q
  exact ⟨x, H', J.os, J.bare, J.base, J.hok, rx, q⟩
end
end Own

/-! from M06 -/
namespace Own
open PySem PySem.Spec PyProof.Rows L2 LamX NdefX
section
variable {X : Cx} {pins : List (Addr × Obj)} {σ : L2.St} {H : Hp} {s : Shared} {cl : List (Str × Addr)} {fr : List Str} {ws : List (Option V)}
/-- what captured cells held at the entry they hold still -/
theorem cells_still (C : CellsAt cl fr ws X.s_0.heap X.H_0) (hx : ∀ b, b ∉ X.ex ∨ ∀ y, cl.lookup y ≠ some b) (I : Inv X pins σ H s) : CellsAt cl fr ws s.heap H := by
  have nx : ∀ {y c}, cl.lookup y = some c → c ∉ X.ex := fun {y c} e => (hx c).elim id fun z => absurd e (z y)
  have still : ∀ {y c v}, cl.lookup y = some c → X.s_0.heap.IsCell c v → s.heap.IsCell c v := fun {y c v} e ⟨o, ho, hd⟩ => by
    obtain ⟨sl, z⟩ := I.base.any ho (C.all y c e).1 (nx e)
    exact ⟨_, z, hd⟩
  constructor
  · exact C.len
  · intro y c e
    obtain ⟨n, v, z⟩ := C.all y c e
    obtain ⟨o, ho, _⟩ := id z
    exact ⟨I.base.free c o ho n (nx e), v, still e z⟩
  · exact C.inj
  · intro i y e
    obtain ⟨c, hc, hv⟩ := C.has i y e
    refine ⟨c, hc, fun v ev => ?_⟩
    obtain ⟨u, r, z⟩ := hv v ev
    exact ⟨u, r, still hc z⟩
/-- the call of a made lambda -/
theorem run_lam {CX : CXT} {k : Nat} {f : Addr} {F : NF} {b : Expr} {sp : List (Option V) → Hp → VK → XK → Prop} {Q : VK} {E : XK} (G : LOk X.prog X.w X.K X.mg X.base CX k f F b fr sp) (hr : Room k X.A) (hx : Passes CX X E) (I : Inv X pins σ H s)
    (hf : LamAt H f F b) (hc : H F.c = some (CodeO F.c F.qual)) (C : CellsAt F.cl fr ws s.heap H) (q : sp ws H Q E) : wpAny (model X.prog X.w) X.A (call (.ref f) []) (EP X pins σ Q) X.xe s := by
  refine wpAny_call (codeAny_mono (G.run _ _ _ _ _ _ _ hr I.env0 hf hc C q) fun r s' z => ?_)
  rcases r with e | fl
  · exact hx pins σ H s e s' I z
  · cases fl
    case ret u => exact I.after z
    all_goals exact False.elim z
/-- deed(), deed a name whose slot holds a lambda; what it captured is known at the entry of this very def -/
theorem pe_deed {CX : CXT} {k i : Nat} {f : Addr} {F : NF} {b : Expr} {sp : List (Option V) → Hp → VK → XK → Prop} {E : XK} {a : Str} {p1 p2 : Pos} (C : CellsAt F.cl fr ws X.s_0.heap X.H_0) (hex : X.ex = []) (G : LOk X.prog X.w X.K X.mg X.base CX k f F b fr sp) (hr : Room k X.A)
    (hx : Passes CX X E) (hN : X.N[i]? = some a) (hv : Vis X.env.scope a) (hd : (a == ("__debug__" : Str)) = false := by decide) (hcd : (a == ("__classdict__" : Str)) = false := by decide) :
    PE X (.Call (.Name a p1) [] [] p2) (fun σ H Q => σ[i]? = some (some (.ref f)) ∧ LamAt H f F b ∧ H F.c = some (CodeO F.c F.qual) ∧ sp ws H Q E) := by
  constructor
  intro pins s σ H Q I h
  obtain ⟨hs, hf, hc, q⟩ := h
  refine wpAny_Call_Name_kw (thn ((pe_var (pos := p1) hN hv hd hcd).run pins s σ H (fun v H1 => v = .ref f ∧ H1 = H) I ⟨.ref f, hs, rfl, rfl⟩) ?_)
  rintro u s1 ⟨v, H1, I1, r1, rfl, rfl⟩
  obtain rfl : u = Value.ref f := r1
  obtain ⟨dV, doc, pm, ctv, ho, _⟩ := lamO_at I1.hok hf
  refine PySem.W.callWith_F0 ⟨_, _, _, _, ho⟩ ?_
  exact run_lam G hr hx I1 hf hc (cells_still C (fun _ => .inl (by rw [hex]; simp)) I1) q
end
section
variable {X : Cx}
/-- a list comprehension's reading, the element's depending on the def's slots as the block begins -/
def tLcD (wi : TI) (g : TG) (te : L2.St → TE) (vs : List Nat) : TE := fun σ H Q => tLc wi g tYes (te σ) vs σ H Q
theorem pe_lcD {elt tg iter : Expr} {scope : Scope} {own : List (Str × Nat)} {pos : Pos} {wi : TI} {g : TG} {te : L2.St → TE} (hc : X.calm = true) (hN : X.N.Nodup) (hi : PI X tg iter wi) (ok : BlkOk X.N X.env.scope scope own)
    (hg : ∀ (s : Shared) (H : Hp) (C : Addr) (cl : List (Str × Addr)) (fp : List Addr), PG (X.blk s H scope (compEnvC scope cl C X.env) fp) tg g)
    (he : ∀ (pins : List (Addr × Obj)) (σ : L2.St) (s : Shared) (H : Hp) (C : Addr) (cl : List (Str × Addr)) (fp : List Addr), Inv X pins σ H s → (∀ b ∈ fp, FpOk X pins H b) → PE (X.blk s H scope (compEnvC scope cl C X.env) fp) elt (te σ))
    (hs : ∀ x, foldedSetIterable iter X.env x = pure x := by intro _; rfl) : PE X (.ListComp elt [⟨tg, iter, [], 0⟩] scope pos) (tLcD wi g te (own.map (·.2))) := by
  constructor
  intro pins s σ H Q I h
  have cap : ∀ y ∈ scope.names, y.2 = .free → ∃ c, X.env.cells.lookup y.1 = some c := fun y hy e => (ok.free y hy e).elim (fun z => I.ok.has _ (.inl z)) (fun z => I.ok.has _ (.inr z))
  rw [eval_ListComp]
  refine wpAny_comprehension_free (use := none) rfl hs (closure_ok cap) ok.kind (fun y hy e => (ok.uniq y hy).trans (congrArg some e)) ?_
  refine thn (hi.run pins s σ H _ I h) fun itr sA hA => thn hA fun _ sB hB => ?_
  obtain ⟨it, fp, tn, J, HB, rfl, IB, T, tB, fB, q⟩ := hB
  have nD : HB sB.heap.objs.size = none := IB.hok.fresh (Nat.le_refl _)
  obtain ⟨W, ⟨m0, w0⟩, turn⟩ := q _ nD
  refine wpAny_newObj_type (newEnv_comp ?_) (by show 0 ≤ sizeLine; decide)
  have inSz : ∀ b ∈ fp, b < sB.heap.objs.size := fun b hb => (T.obj _ _ tB b hb).elim fun _ z => Heap.lt_size z.1
  -- the new list stands
  generalize hsC : ({ sB with heap := sB.heap.push { cls := .type "list", data := .seq ([] : List Value).toArray } } : Shared) = sC
  have heapC : sC.heap = sB.heap.push { cls := .type "list", data := .seq ([] : List Value).toArray } := by subst hsC; rfl
  have toC : ∀ b o, sB.heap.get? b = some o → sC.heap.get? b = some o := fun b o z => by rw [heapC]; exact Heap.get?_push_of_some _ z
  generalize hD : sB.heap.objs.size = D at nD w0 turn inSz
  have IC : Inv X pins σ (upd HB D (.lst [])) sC := by
    have z := IB.laid (a := D) (o := .lst []) (t' := sB.toks) (h' := sC.heap) toC (Nat.le_of_eq hD) ⟨Nat.zero_le _, [], 0, .nil, by rw [heapC, ← hD]; exact Heap.get?_push_size _ rfl⟩
    subst hsC
    exact z
  generalize hHC : upd HB D (.lst []) = HC at IC w0
  have fC : ∀ b ∈ fp, FpOk X pins HC b ∧ b < sC.heap.objs.size := fun b hb => by
    have lt := inSz b hb
    refine ⟨⟨?_, (fB b hb).2⟩, ?_⟩
    · rw [← hHC, upd_ne (Nat.ne_of_lt lt)]
      exact (fB b hb).1
    · rw [heapC, Heap.size_push, hD]
      exact Nat.lt_succ_of_lt lt
  have tC : tn 0 sC.heap := T.keep _ _ _ tB fun b _ o z => toC b o z
  have blk := block_start IC ok hN fC
  generalize hcl : cellsFrom (sC.heap.objs.size + 1) scope.names (cloFrom X.env.cells scope.names []) = cells at blk ⊢
  have hgB := hg sC HC sC.heap.objs.size cells fp
  have heB := he pins σ sC HC sC.heap.objs.size cells fp IC (fun b hb => (fC b hb).1)
  have htB : PTs (X.blk sC HC scope (compEnvC scope cells sC.heap.objs.size X.env) fp) [] tYes := pts_nil
  show codeAny _ _ (.compStart (.ListComp elt [⟨tg, iter, [], 0⟩] scope pos) 0 (.ref it) (.ref D) (compEnvC scope cells sC.heap.objs.size X.env)) (compPost (model X.prog X.w) X.A X.xe none (EP X pins σ Q) (.ref D) sC.heap.objs.size) { sC with heap := pushCells (sC.heap.push { cls := .type "dict", data := .dict #[] }) scope.names }
  generalize hce : compEnvC scope cells sC.heap.objs.size X.env = ce at blk hgB heB htB ⊢
  have ceL : ce.locals = sC.heap.objs.size := by rw [← hce]; rfl
  generalize hsE : ({ sC with heap := pushCells (sC.heap.push { cls := .type "dict", data := .dict #[] }) scope.names } : Shared) = sE at blk ⊢
  have tE : tn 0 sE.heap := T.keep _ _ _ tC fun b _ o z => by rw [← hsE]; exact pushCells_keeps _ _ _ _ (Heap.get?_push_of_some _ z)
  -- the iterator's objects as the block sees them
  have seen : ∀ {σ' : L2.St} {H' : Hp} {s' : Shared}, Inv (X.blk sC HC scope ce fp) [] σ' H' s' → (∀ b ∈ fp, H' b = none) → ∀ b ∈ fp, FpOk (X.blk sC HC scope ce fp) [] H' b := fun {σ' H' s'} J' n b hb => by
    have z1 := J'.ok.exf b hb
    exact ⟨n b hb, z1.1, J'.ok.exfs b hb, .inl hb, z1.2, fun p hp => absurd (show p ∈ ([] : List (Addr × Obj)) ++ [] from hp) (by simp)⟩
  have whole : codeAny (model X.prog X.w) X.A (.compLoop (.ListComp elt [⟨tg, iter, [], 0⟩] scope pos) 0 (.ref it) (.ref D) ce) (compPost (model X.prog X.w) X.A X.xe none (EP X pins σ Q) (.ref D) sC.heap.objs.size) sE := by
    refine compLoop_any (fun n s' => ∃ (i : Nat) (H' : Hp), W i n H' ∧ (∀ b ∈ fp, H' b = none) ∧ tn i s'.heap ∧ Inv (X.blk sC HC scope ce fp) [] (wipe σ (own.map (·.2))) H' s') ?_ m0 ⟨0, HC, w0, fun b hb => (fC b hb).1.1, tE, blk⟩
    rintro n sF ⟨i, HF, wF, nF, tF, IF⟩
    rcases turn i n HF wF with ⟨hstop, hq⟩ | ⟨hgo, Nx, hNx, step⟩
    · have fin := T.done (X.blk sC HC scope ce fp) rfl rfl rfl hc i [] sF _ HF (fun _ _ => False) IF (seen IF nF) tF hstop
      refine thnF fin ?_
      rintro _ sG ⟨rfl, IG⟩
      have IX : Inv X pins σ HF sG := IC.call' (ch := fp) IG.os IG.base IG.hok IG.bare fun b hb => by
        obtain ⟨⟨_, a1, a2, a3, a4, a5⟩, _⟩ := fC b hb
        exact ⟨a3, a1, a4, a5⟩
      have free : HF sC.heap.objs.size = none := by
        have z : HF ce.locals = none := IG.free
        rw [← ceL]
        exact z
      obtain ⟨m, hn, _⟩ := IG.loc
      have hn : sG.heap.Ns ce.locals m := hn
      rw [ceL] at hn
      obtain ⟨f0, f1, f2, f3, f4, f5⟩ := IC.fpOk (H' := HF) (Nat.le_refl _) free
      exact ⟨m, hn, fun h2 sb => ⟨.ref D, HF, IX.turned (t' := sG.toks) (fun b o hb e => (sb.2 b hb).trans e) f0 f1 f3 f4 f5, rfl, hq⟩⟩
    · have nxt := T.item (X.blk sC HC scope ce fp) rfl rfl rfl hc i [] sF _ HF (fun _ _ => False) IF (seen IF nF) tF hgo
      refine thnF nxt ?_
      rintro _ sG ⟨u, rfl, hG⟩
      refine thnF hG ?_
      rintro _ sI ⟨x, HI, II, rI, yI, tI, nI⟩
      have pinned := II.pinned (seen II nI) (T.obj _ _ tI)
      refine thnF (hgB.run _ sI _ HI x u _ pinned rI (step x HI yI)) ?_
      rintro _ sJ ⟨σJ, HJ, IJ, hwJ, qJ⟩
      refine thnF (htB.run _ sJ σJ HJ _ IJ qJ) ?_
      rintro b sK ⟨HK, IK, qK⟩
      have again : ∀ {s' : Shared} {H' : Hp}, Inv (X.blk sC HC scope ce fp) ([] ++ pinsAt fp sI.heap) σJ H' s' → Nx H' → ∃ m, m < n ∧ ∃ (i : Nat) (H' : Hp), W i m H' ∧ (∀ b ∈ fp, H' b = none) ∧ tn i s'.heap ∧ Inv (X.blk sC HC scope ce fp) [] (wipe σ (own.map (·.2))) H' s' := fun {s' H'} J' hx => by
        obtain ⟨m', lt, w'⟩ := hNx H' hx
        have pn : ∀ b ∈ fp, ∀ o, sI.heap.get? b = some o → s'.heap.get? b = some o ∧ H' b = none := fun b hb o z => by
          have y := J'.pin (b, o) (List.mem_append_right _ (List.mem_append_right _ (mem_pinsAt hb z)))
          exact ⟨y.1, y.2.1⟩
        refine ⟨m', lt, i + 1, H', w', fun b hb => ?_, T.keep _ _ _ tI fun b hb o z => (pn b hb o z).1, ?_⟩
        · obtain ⟨o, z, _⟩ := T.obj _ _ tI b hb
          exact (pn b hb o z).2
        · refine (J'.unpinned (pins := [])).weak (by rw [← hwJ, wipe_length]) fun j v z => ?_
          rw [← hwJ] at z
          exact (wipe_some z).1
      cases b
      case false =>
        simp only [Bool.false_eq_true, if_false] at qK ⊢
        exact again IK qK
      case true =>
        simp only [if_true] at qK ⊢
        refine thnF (heB.run _ sK σJ HK _ IK qK) ?_
        rintro z sL ⟨y, HL, IL, rL, acc, hacc, hlen, hnx⟩
        exact app_ok (X := X.blk sC HC scope ce fp) IL hacc hlen rL fun sM IM => again IM hnx
  exact codeAny_compStart_list whole (T.self X.A 0 _ _ _ tE whole)
end
end Own

/-! from N06 -/
namespace Own
open PySem PySem.Spec PyProof.Rows L2 LamX NdefX
/-- a def of the text as its callers know it -/
structure DefOk (P : Program) (w : World) (K : PySem.W.Frag) (mg : Str → Option Value) (base : Heap) (CX : CXT) (x : Str) (k : Nat) (ps : List Str) (sp : Sp) : Prop where
  ex : ∃ (f : Addr) (fd : FuncData), FnOk P w K mg base CX k f fd ps sp ∧ mg x = some (.ref f) ∧ PySem.W.keepIn K (.ref f) = true ∧ Binds K fd ps []
/-- .. as the top has left it -/
structure At (K : PySem.W.Frag) (mg : Str → Option Value) (x : Str) (st : Stmt) (ps : List Str) : Prop where
  ex : ∃ (f : Addr) (fd : FuncData), Fun K x x st f fd ∧ mg x = some (.ref f) ∧ Binds K fd ps []
theorem At.ok {P : Program} {w : World} {K : PySem.W.Frag} {mg : Str → Option Value} {base : Heap} {CX : CXT} {x : Str} {st : Stmt} {k : Nat} {ps : List Str} {sp : Sp} (a : At K mg x st ps) (h : ∀ (f : Addr) (fd : FuncData), Fun K x x st f fd → FnOk P w K mg base CX k f fd ps sp) :
    DefOk P w K mg base CX x k ps sp := by
  obtain ⟨f, fd, F, g, b⟩ := a.ex
  exact ⟨f, fd, h f fd F, g, F.kp, b⟩
section
variable {X : Cx} {CX : CXT} {k j : Nat} {ps : List Str} {sp : Sp} {E : XK} {x : Str} {p pos : Pos} {e : Expr} {es : List Expr} {t : TA}
theorem pe_def (D : DefOk X.prog X.w X.K X.mg X.base CX x k ps sp) (hr : Room j X.A) (hj : k ≤ j) (hg : Gl X x) (hx : Passes CX X E) (ha : PA X (e :: es) t) (hdb : (x == ("__debug__" : Str)) = false := by decide)
    (he : starEach (e :: es) X.env = (false, eval e X.env) :: starEach es X.env := by rfl) (hpl : (backTo pos (starEach es X.env)).any (·.1) = false := by rfl) : PE X (.Call (.Name x p) (e :: es) [] pos) (tCall sp [] E t) := by
  obtain ⟨f, fd, F, g, kp, b⟩ := D.ex
  exact pe_call F (hr.mono hj) hg g kp b .nil hx ha hdb he hpl
theorem pe_def0 (D : DefOk X.prog X.w X.K X.mg X.base CX x k ps sp) (hr : Room j X.A) (hj : k ≤ j) (hg : Gl X x) (hx : Passes CX X E) (hdb : (x == ("__debug__" : Str)) = false := by decide) : PE X (.Call (.Name x p) [] [] pos) (tCall sp [] E tNil) := by
  obtain ⟨f, fd, F, g, kp, b⟩ := D.ex
  exact pe_call0 F (hr.mono hj) hg g kp b .nil hx hdb
end
/-- a def whose first argument is a lambda; sp: what it makes of the lambda's promise and of the other arguments -/
structure LamDef (P : Program) (w : World) (K : PySem.W.Frag) (mg : Str → Option Value) (base : Heap) (g : Addr) (k : Nat) (sp : (Hp → VK → XK → Prop) → List V → Hp → VK → Prop) : Prop where
  run : ∀ (A : Around) (outer : List Env) (s : Shared) (H : Hp) (us : List Value) (f : Addr) (vs : List V) (F : NF) (b : Expr) (fr : List Str) (ws : List (Option V)) (spl : List (Option V) → Hp → VK → XK → Prop) (kl : Nat) (Q : VK), Room k A → kl < k → Env0 P w K mg base A outer s H →
    Vals (.ref f :: vs) us → LOk P w K mg base (L2.CX P w) kl f F b fr spl → LamAt H f F b → H F.c = some (CodeO F.c F.qual) → CellsAt F.cl fr ws s.heap H → sp (spl ws) vs H Q →
    codeAny (model P w) A (.call (.ref g) ⟨us, []⟩) (CR CX0 outer P w H s Q E0) s
structure LamDefAt (P : Program) (w : World) (K : PySem.W.Frag) (mg : Str → Option Value) (base : Heap) (x : Str) (k : Nat) (sp : (Hp → VK → XK → Prop) → List V → Hp → VK → Prop) : Prop where
  ex : ∃ g : Addr, LamDef P w K mg base g k sp ∧ mg x = some (.ref g) ∧ PySem.W.keepIn K (.ref g) = true
/-- one of several lambdas: its words by its code object's address, its body, the captured names and their values, its promise -/
structure Lam where
  nf : Addr → NF
  b : Expr
  fr : List Str
  ws : List (Option V)
  sp : List (Option V) → Hp → VK → XK → Prop
def tLamCall {ι : Type} (L : ι → Lam) (sp : (Hp → VK → XK → Prop) → List V → Hp → VK → Prop) (t : TA) : TE := fun σ H Q => t σ H fun vs H1 => ∃ (i : ι) (f c' : Addr) (rest : List V), vs = .ref f :: rest ∧ LamAt H1 f ((L i).nf c') (L i).b ∧
  H1 ((L i).nf c').c = some (CodeO ((L i).nf c').c ((L i).nf c').qual) ∧ sp ((L i).sp (L i).ws) rest H1 Q
theorem pe_lamcall {ι : Type} {X : Cx} {L : ι → Lam} {k kl j : Nat} {sp : (Hp → VK → XK → Prop) → List V → Hp → VK → Prop} {x : Str} {p pos : Pos} {e : Expr} {es : List Expr} {t : TA} (D : LamDefAt X.prog X.w X.K X.mg X.base x k sp) (hkl : kl < k) (hr : Room j X.A) (hj : k ≤ j)
    (G : ∀ (i : ι) (f c' : Addr), LOk X.prog X.w X.K X.mg X.base (L2.CX X.prog X.w) kl f ((L i).nf c') (L i).b (L i).fr (L i).sp) (C : ∀ (i : ι) (c' : Addr), CellsAt ((L i).nf c').cl (L i).fr (L i).ws X.s_0.heap X.H_0) (hxc : ∀ (i : ι) (c' b : Addr), b ∉ X.ex ∨ ∀ y, ((L i).nf c').cl.lookup y ≠ some b)
    (hg : Gl X x) (ha : PA X (e :: es) t) (hdb : (x == ("__debug__" : Str)) = false := by decide) (he : starEach (e :: es) X.env = (false, eval e X.env) :: starEach es X.env := by rfl) (hpl : (backTo pos (starEach es X.env)).any (·.1) = false := by rfl) :
    PE X (.Call (.Name x p) (e :: es) [] pos) (tLamCall L sp t) := by
  obtain ⟨g, R, gm, kp⟩ := D.ex
  constructor
  intro pins s σ H Q I h
  refine wpAny_Call_Name_kw (ld_glob I hg gm ?_ hdb)
  refine PySem.W.callWith_K (h₀ := X.base) I.ok.mod.kin kp (thn (ha.run pos pins s σ H _ I h) ?_) he hpl
  rintro us s1 ⟨vs, H1, I1, r, i, f, c', rest, rfl, hf, hc, q⟩
  refine ⟨I1.kIn, wpAny_call (codeAny_mono (R.run X.A X.stack s1 H1 us f rest _ _ _ _ _ kl Q (hr.mono hj) hkl I1.env0 r (G i f c') hf hc (cells_still (C i c') (hxc i c') I1) q) fun z s' hz => ?_)⟩
  rcases z with er | fl
  · exact (show False from hz).elim
  · cases fl
    case ret u => exact I1.after hz
    all_goals exact False.elim hz
/-- what the def's own cells hold, told to a block that begins -/
theorem cells_blk {X : Cx} {pins : List (Addr × Obj)} {σ : L2.St} {H : Hp} {s : Shared} {scope : Scope} {fr : List Str} {js : List Nat} (I : Inv X pins σ H s) (hfree : ∀ y ∈ scope.names, y.2 = .free → X.env.scope.names.lookup y.1 = some .cell ∨ X.env.scope.names.lookup y.1 = some .free)
    (hfr : ∀ y ∈ fr, (y, NameKind.free) ∈ scope.names) (hjs : js.map (fun j => X.N[j]?) = fr.map some) : CellsAt (cloFrom X.env.cells scope.names []) fr (js.map (slotAt σ)) s.heap H := cells_of I (Caps.made I.ok hfree hfr hjs)
theorem cells_fp {X : Cx} {pins : List (Addr × Obj)} {σ : L2.St} {H : Hp} {s : Shared} {scope : Scope} {fp : List Addr} (I : Inv X pins σ H s) (hfree : ∀ y ∈ scope.names, y.2 = .free → X.env.scope.names.lookup y.1 = some .cell ∨ X.env.scope.names.lookup y.1 = some .free)
    (hfp : ∀ b ∈ fp, FpOk X pins H b) (b : Addr) : b ∉ fp ∨ ∀ y, (cloFrom X.env.cells scope.names []).lookup y ≠ some b := by
  by_cases hb : b ∈ fp
  · refine .inr fun y z => ?_
    have hf : ∀ y ∈ scope.names, y.2 = .free → ∃ c, X.env.cells.lookup y.1 = some c := fun y hy e => (hfree y hy e).elim (fun z => I.ok.has _ (.inl z)) fun z => I.ok.has _ (.inr z)
    exact (hfp b hb).2.2.2.2.1 y b (clo_cm hf z) rfl
  · exact .inl hb
end Own

/-! from S06 -/
namespace PySem.SeqAt
open AutoSeq1 (wpAny_loadPart')
open MeetsSeq
theorem own_str_dict0 (b : Str) (u : Tok) (l : Addr) (es : Array DictEntry) (ep : Nat) :
    Meets (Builtin.«str.__eq__» ⟨[.str b u, .ref l], []⟩) (fun _ R s => s.heap.get? l = some ({ cls := .type "dict", dict := none, data := .dict es ep, slots := #[] } : Obj) ∧ R (.ok (.ret .notImplemented)) s) :=
  .of_wp fun prog w A R s h => by
    obtain ⟨hp, g, d, tk, os⟩ := s
    obtain ⟨hl, h⟩ := h
    wp_walk using wpAny_loadPart' hl, wpAny_load hl
    exact ⟨_, rfl, h⟩
theorem own_dict_str0 (b : Str) (u : Tok) (l : Addr) (es : Array DictEntry) (ep : Nat) :
    Meets (Builtin.«dict.__eq__» ⟨[.ref l, .str b u], []⟩) (fun _ R s => s.heap.get? l = some ({ cls := .type "dict", dict := none, data := .dict es ep, slots := #[] } : Obj) ∧ R (.ok (.ret .notImplemented)) s) :=
  .of_wp fun prog w A R s h => by
    obtain ⟨hp, g, d, tk, os⟩ := s
    obtain ⟨hl, h⟩ := h
    have f1 := F.sub_str_dict
    wp_walk using wpAny_loadPart' hl, wpAny_load hl
    exact ⟨_, rfl, h⟩
theorem own_rc_str_dict {A : Around} {s : Shared} {l : Addr} {es : Array DictEntry} {ep : Nat} (b : Str) (u : Tok) (ho : s.heap.get? l = some ({ cls := .type "dict", dict := none, data := .dict es ep, slots := #[] } : Obj)) (hu : A.units < cLine) : RcAt A s (.str b u) (.ref l) false :=
  fun prog w E Q h => by
    refine rc_eq_decline_or (k := false) (typeIs_str s b u) ⟨_, ho, rfl⟩ (by decide) F.sub_dict_str F.slot_str_eq F.slot_dict_eq_refl ?_ ?_ ?_ (.inr hu) h
    · exact fun _ hq => call_meets F.slot_str_eq (typeIs_str s b u) F.entry_str_eq (F.args_str_eq_2 _ _) (own_str_dict0 b u l es ep) ⟨ho, hq⟩
    · exact fun _ hq => call_meets F.slot_dict_eq_refl ⟨_, ho, rfl⟩ F.entry_dict_eq (F.args_dict_eq_2 _ _) (own_dict_str0 b u l es ep) ⟨ho, hq⟩
    · exact fun _ hq => wpAny_of_eq (rfl : isSame (.str b u) (.ref l) = pure false) hq
theorem own_eq_str_dict {A : Around} {s : Shared} {l : Addr} {es : Array DictEntry} {ep : Nat} (b : Str) (u : Tok) (ho : s.heap.get? l = some ({ cls := .type "dict", dict := none, data := .dict es ep, slots := #[] } : Obj)) (hu : A.units < cLine) : EqAt A s (.str b u) (.ref l) false :=
  fun prog w E Q h => by
    unfold eqBool
    refine wpAny_holding (wpAny_ite_split (fun z => absurd (eq_of_beq z) nofun) fun _ => ?_)
    exact wpAny_bind (own_rc_str_dict b u ho hu prog w E _ (wpAny_truthy_bool h))
end PySem.SeqAt
namespace Own
open PySem PySem.Spec PyProof.Rows L2
/-- a value that is no text, and no number with a text's place -/
inductive NoTxt (H : Hp) : V → Prop where
  | non : NoTxt H .non
  | bl (b : Bool) : NoTxt H (.bl b)
  | int (i : Int) : NoTxt H (.int i)
  | lst {a : Addr} {xs : List V} (e : H a = some (.lst xs)) : NoTxt H (.ref a)
  | tup {a : Addr} {xs : List V} (e : H a = some (.tup xs)) : NoTxt H (.ref a)
  | dct {a : Addr} {kvs : List (Key × V)} (e : H a = some (.dK kvs)) : NoTxt H (.ref a)
theorem NoTxt.ne {X : Cx} {pins : List (Addr × Obj)} {σ : L2.St} {H : Hp} {s : Shared} {x : V} {v : Value} (I : Inv X pins σ H s) (h : NoTxt H x) (r : RelV x v) {A : Around} (hu : A.units < cLine) (z : Str) (t : Tok) : SeqAt.EqAt A s (.str z t) v false := by
  cases h with
  | non => cases r; exact SeqAt.EqAt.str_none z t
  | bl b => cases r; exact SeqAt.EqAt.str_bool z t b
  | int i =>
    obtain ⟨u, rfl⟩ := r
    exact SeqAt.EqAt.str_int z t i u
  | lst e =>
    cases r
    obtain ⟨its, _, pl, _⟩ := I.list (SqL.of e)
    exact SeqAt.EqAt.str_list z t pl.isList hu
  | tup e =>
    cases r
    obtain ⟨its, _, pl, _⟩ := I.tuple (SqT.of e)
    exact SeqAt.EqAt.str_tuple z t pl hu
  | dct e =>
    cases r
    obtain ⟨_, _, vs, _, ⟨⟨c, dd, da, sl⟩, es, ep, ho, hx, hd, _⟩⟩ := (show ObjOk X.prog X.w H s.heap _ (.dK _) from I.hok _ _ e)
    obtain ⟨rfl, rfl, rfl⟩ := hx
    obtain rfl : da = .dict es ep := hd
    exact SeqAt.own_eq_str_dict z t ho hu
def rNotInW (K : PySem.W.Frag) : R2 := fun x y H Q => ∃ (p : Addr) (zs : List Str), y = .ref p ∧ SqT K H p (zs.map V.str) ∧ NoTxt H x ∧ Q (.bl true) H
theorem op_notInW {X : Cx} (hu : X.A.units + 1 < cLine) : OpR X (compareOp .NotIn) (rNotInW X.K) := by
  intro pins s σ H x y v u Q I rx ry h
  obtain ⟨p, zs, rfl, hq, nt, q⟩ := h
  cases ry
  obtain ⟨its, r, pl, hz⟩ := I.tuple hq
  have txts : ∀ w ∈ its, ∃ (z : Str) (t : Tok), w = .str z t := fun w hw => by
    obtain ⟨i, hi⟩ := List.mem_iff_getElem?.mp hw
    have hlt : i < (zs.map V.str).length := by
      rw [Paired.length r]
      exact (List.getElem?_eq_some_iff.mp hi).1
    obtain ⟨u', h1, h2⟩ := r.get (List.getElem?_eq_getElem hlt)
    rw [hi] at h1
    cases h1
    rw [List.getElem_map] at h2
    obtain ⟨t, z⟩ := h2
    exact ⟨_, t, z⟩
  have hu0 : X.A.units < cLine := Nat.lt_of_le_of_lt (Nat.le_succ _) hu
  have hu' : X.A.in1.units < cLine := by first | exact hu0 | exact hu
  refine SeqAt.notIn_tupleAt (fun _ => false) pl (fun w hw => ?_) ⟨.bl _, H, I, rfl, ?_⟩
  · obtain ⟨z, t, rfl⟩ := txts w (by simpa using hw)
    exact nt.ne I rx hu' z t
  · have e : its.toArray.any (fun _ => false) = false := by simp
    rw [e]
    exact q
end Own


/-! from P06 -/
namespace Own
open PySem PySem.Spec PyProof.Rows L2
inductive Thing (H : Hp) : V → Prop where
  | non : Thing H .non
  | bl (b : Bool) : Thing H (.bl b)
  | int (i : Int) : Thing H (.int i)
  | str (z : Str) : Thing H (.str z)
  | lst {a : Addr} {xs : List V} (e : H a = some (.lst xs)) : Thing H (.ref a)
  | tup {a : Addr} {xs : List V} (e : H a = some (.tup xs)) : Thing H (.ref a)
  | dct {a : Addr} {kvs : List (Key × V)} (e : H a = some (.dK kvs)) : Thing H (.ref a)
theorem Thing.same {H H' : Hp} {x : V} (h : Thing H x) (s : Same H H') : Thing H' x := by
  cases h with
  | non => exact .non
  | bl b => exact .bl b
  | int i => exact .int i
  | str z => exact .str z
  | lst e => exact .lst (s _ _ e)
  | tup e => exact .tup (s _ _ e)
  | dct e => exact .dct (s _ _ e)
def isInt : V → Bool
  | .int _ => true
  | _ => false
def isBl : V → Bool
  | .bl _ => true
  | _ => false
/-- isinstance(x, int), isinstance(x, bool) -/
theorem Thing.isi {K : PySem.W.Frag} {H : Hp} {x : V} (h : Thing H x) : ∃ t : Value, TyX K H x t ∧ PySem.W.kitOne K t (.type "int") = some (isInt x || isBl x) ∧ PySem.W.kitOne K t (.type "bool") = some (isBl x) := by
  cases h with
  | non => exact ⟨_, .base .non, kit_ty (show kitB "NoneType" "int" = some false by decide +kernel), kit_ty (show kitB "NoneType" "bool" = some false by decide +kernel)⟩
  | bl b => exact ⟨_, .base (.bl b), kit_ty (show kitB "bool" "int" = some true by decide +kernel), kit_ty (show kitB "bool" "bool" = some true by decide +kernel)⟩
  | int i => exact ⟨_, .base (.int i), kit_ty (show kitB "int" "int" = some true by decide +kernel), kit_ty (show kitB "int" "bool" = some false by decide +kernel)⟩
  | str z => exact ⟨_, .base (.str z), kit_ty (show kitB "str" "int" = some false by decide +kernel), kit_ty (show kitB "str" "bool" = some false by decide +kernel)⟩
  | lst e => exact ⟨_, .base (.lst e), kit_ty (show kitB "list" "int" = some false by decide +kernel), kit_ty (show kitB "list" "bool" = some false by decide +kernel)⟩
  | tup e => exact ⟨_, .base (.tup e), kit_ty (show kitB "tuple" "int" = some false by decide +kernel), kit_ty (show kitB "tuple" "bool" = some false by decide +kernel)⟩
  | dct e => exact ⟨_, .base (.dK e), kit_ty (show kitB "dict" "int" = some false by decide +kernel), kit_ty (show kitB "dict" "bool" = some false by decide +kernel)⟩
theorem Thing.noTxt {H : Hp} {x : V} (h : Thing H x) : NoTxt H x ∨ ∃ z, x = .str z := by
  cases h with
  | non => exact .inl .non
  | bl b => exact .inl (.bl b)
  | int i => exact .inl (.int i)
  | str z => exact .inr ⟨z, rfl⟩
  | lst e => exact .inl (.lst e)
  | tup e => exact .inl (.tup e)
  | dct e => exact .inl (.dct e)
/-- what a written dict says at a text -/
def KGet (K : PySem.W.Frag) (d : Addr) (z : Str) (r : Option V) : Prop := ∃ ro : Option Value, PySem.W.nsIn K d z = some ro ∧ RelO r ro
section
variable {X : Cx} {d : Addr} {es : Array DictEntry} {n : Nat} {o e f : Expr} {apos cpos : Pos} {td ty tx : TE}
theorem pe_kget2 (D : KDict X.K X.w d es n) (ho : PE X o td) (he : PE X e ty) (hf : PE X f tx) (m : M2 X o "get" apos e f cpos) :
    PE X (.Call (.Attribute o "get" apos) [e, f] [] cpos) (fun σ H Q => td σ H fun x H1 => x = .ref d ∧ ty σ H1 fun y H2 => tx σ H2 fun z H3 => ∃ (t : Str) (r : Option V), y = .str t ∧ KGet X.K d t r ∧ Q (r.getD z) H3) := by
  constructor
  intro pins s σ H Q I h
  refine wpAny_Call_method m.base m.few m.line PySem.F.plainAttrs_dict PySem.F.slot_dict_get PySem.F.type_dict_get (thn (ho.run pins s σ H _ I h) ?_)
  rintro u s1 ⟨x, H1, I1, rx, rfl, q1⟩
  obtain rfl : u = Value.ref d := rx
  refine ⟨kd_type D I1, fun b q => ?_, ?_⟩
  · cases q
    exact ⟨_, I1.kIn _ _ D.at_, rfl⟩
  rw [m.trees]
  refine Calls.callWith_builtin rfl (Calls.evalArgs_plain (Calls.spliced_cons (thn (he.run pins s1 σ H1 _ I1 q1) ?_)))
  rintro iv s2 ⟨y, H2, I2, ry, q2⟩
  refine Calls.spliced_cons (thn (hf.run pins s2 σ H2 _ I2 q2) ?_)
  rintro fv s3 ⟨z, H3, I3, rz, t, r, rfl, ⟨ro, hk, rr⟩, q3⟩
  refine Calls.spliced_nil ?_
  obtain ⟨tk, rfl⟩ := ry
  show wpAny _ _ (call (.builtin "dict.get") [.ref d, .str t tk, fv]) _ _ _
  refine call_meetsIn PySem.F.slot_dict_get (kd_type D I3) PySem.F.entry_dict_get (PySem.F.args_dict_get_3 _ _ _) (meets_dict_get_default (strKind X.prog X.w) d (strKind_is X.prog X.w t tk) D.low fv) ⟨_, PySem.W.mapOf_K (prog := X.prog) I3.kIn D.at_ D.lit, ?_⟩
  rw [PySem.W.find_K D.at_ hk]
  refine ⟨r.getD z, H3, I3.tok _, ?_, q3⟩
  cases r with
  | none =>
    cases ro with
    | none => exact rz
    | some u => exact rr.elim
  | some v =>
    cases ro with
    | none => exact rr.elim
    | some u => exact rr
end
/-! ### an error class whose __init__ keeps one field -/
structure ErrC (P : Program) (w : World) (K : PySem.W.Frag) (mg : Str → Option Value) (base : Heap) (x fld : Str) (k : Nat) (C : Addr) (sp : Sp) : Prop where
  g : mg x = some (.ref C)
  oex : OexC K C
  ini : ∃ (fI : Addr) (fd : FuncData), PySem.W.findIn K (.ref C) "__init__" = some (some (.ref fI)) ∧ PySem.W.typeIn K (.ref fI) = some (.type "function") ∧ FnOk P w K mg base CX0 k fI fd ["self", fld] sp ∧ Binds K fd ["self", fld] []
  xf : XfC K C
  te : PySem.W.exmOne K (.ref C) (.ref C) = some true
  noV : PySem.W.findIn K (.ref C) fld = some none
def spErr (C : Addr) (fld : Str) : Sp := fun vs H Q _ => ∃ (a : Addr) (y : V), vs = [.ref a, y] ∧ H a = some (exo a C none) ∧ ∀ dx, H dx = none → dx ≠ a → Q .non (upd (upd H dx (exd dx [(fld, y)])) a (exo a C (some dx)))
/-- such an error leaves: its value x -/
def Bad (C : Addr) (fld : Str) (x : V) (H : Hp) (E : XK) : Prop := ∀ (d : Addr) (H' : Hp), Same H H' → H d = none → H' d = some (.xd [(fld, x)]) → E (.ref C) (some d) H'
theorem Bad.same {C : Addr} {fld : Str} {x : V} {H H1 : Hp} {E : XK} (h : Bad C fld x H E) (s : Same H H1) : Bad C fld x H1 E := fun d H' s' n e => h d H' (s.trans s') (s.free n) e
section
variable {X : Cx} {x fld : Str} {k j : Nat} {C : Addr} {e : Expr} {te : TE} {p pos : Pos}
theorem pmk_err (D : ErrC X.prog X.w X.K X.mg X.base x fld k C (spErr C fld)) (hr : Room j X.A) (hj : k + 1 ≤ j) (hg : Gl X x) (he : PE X e te) (hdb : (x == ("__debug__" : Str)) = false := by decide)
    (hst : starEach (e :: []) X.env = (false, eval e X.env) :: starEach [] X.env := by rfl) (hpl : (backTo pos (starEach [] X.env)).any (·.1) = false := by rfl) :
    PMk X (.Call (.Name x p) [e] [] pos) (tMkO C (spErr C fld) [] (tCons te tNil)) := by
  obtain ⟨fI, fd, iC, tI, F1, b⟩ := D.ini
  exact pmk_oex D.oex iC tI F1 (hr.mono hj) b .nil (fun _ _ _ _ _ _ _ z => z.elim) hg D.g (pa_cons he pa_nil hst) hdb hst hpl
end
/-- the end of such a making -/
theorem bad_mk {C : Addr} {fld : Str} {y : V} {H : Hp} {Q : XK} (h : Bad C fld y H Q) : [y].length ≤ 1000 ∧ ∀ a, H a = none → spErr C fld (.ref a :: ([y] ++ [])) (upd H a (exo a C none))
    (fun v H2 => v = .non ∧ ∃ (d : Addr) (fs : List (Str × V)), H2 a = some (exo a C (some d)) ∧ H2 d = some (exd d fs) ∧ H d = none ∧ Q (.ref C) (some d) (upd (del H2 a) d (.xd fs))) (fun _ _ _ => False) := by
  refine ⟨by show 1 ≤ 1000; decide, fun a na => ⟨a, y, rfl, upd_same, fun dx ndx ne => ⟨rfl, dx, [(fld, y)], upd_same, ?_, ?_, ?_⟩⟩⟩
  · rw [upd_ne ne, upd_same]
  · rw [upd_ne ne] at ndx
    exact ndx
  · have nd : H dx = none := by
      rw [upd_ne ne] at ndx
      exact ndx
    refine h dx _ (fun b o e => ?_) nd upd_same
    have b1 : b ≠ a := ne_of_none e na
    have b2 : b ≠ dx := ne_of_none e nd
    rw [upd_ne b2, del_ne b1, upd_ne b1, upd_ne b2, upd_ne b1]
    exact e
end Own

/-! from U06 -/
namespace Own
open PySem PySem.Spec PyProof.Rows L2
theorem op_mulS {X : Cx} : OpR X (binaryOp .Mult) (fun x y H Q => ∃ (z : Str) (n : Int), x = .str z ∧ y = .int n ∧ MulOk z n ∧ Q (.str (Txt.mul z n)) H) := by
  intro pins s σ H x y v u Q I rx ry h
  obtain ⟨z, n, rfl, rfl, ok, q⟩ := h
  obtain ⟨t, rfl⟩ := rx
  obtain ⟨t', rfl⟩ := ry
  exact SB.mul ok fun t2 k => ⟨.str _, H, I.tok _, ⟨_, rfl⟩, q⟩
theorem zeros_fold : ∀ (n : Nat) (acc : Array Nat), ((List.replicate n #[48]).foldl (· ++ ·) acc).toList = acc.toList ++ List.replicate n 48
  | 0, acc => by simp
  | n + 1, acc => by
    rw [List.replicate_succ, List.foldl_cons, zeros_fold n, Array.toList_append, List.replicate_succ, List.append_assoc]
    rfl
theorem zero_cps : ("0" : Str).cps = #[48] := by decide +kernel
theorem one_cps : ("1" : Str).cps = #[49] := by decide +kernel
theorem zeros (n : Nat) : (Txt.mul "0" (n : Int)).cps.toList = List.replicate n 48 := by
  unfold Txt.mul
  by_cases h0 : n = 0
  · subst h0
    rw [if_pos (by omega)]
    rfl
  · rw [if_neg (by omega)]
    by_cases h1 : n = 1
    · subst h1
      rw [if_pos (by simp), zero_cps]
      rfl
    · have e : ¬ (((n : Int) == 1 || ("0" : Str).length == 0) = true) := by
        have l : ("0" : Str).length = 1 := by decide +kernel
        rw [l]
        simp
        omega
      rw [if_neg e]
      show ((List.replicate (n : Int).toNat ("0" : Str).cps).foldl (· ++ ·) #[]).toList = _
      rw [zero_cps, Int.toNat_natCast, zeros_fold]
      rfl
/-- '1' + '0' * n -/
def tenS (n : Nat) : Str := ("1" : Str) ++ Txt.mul "0" (n : Int)
theorem tenS_list (n : Nat) : (tenS n).cps.toList = 49 :: List.replicate n 48 := by
  have e : (tenS n).cps = ("1" : Str).cps ++ (Txt.mul "0" (n : Int)).cps := rfl
  rw [e, Array.toList_append, zeros, one_cps]
  rfl
theorem tens_val : ∀ (n a : Nat), (List.replicate n 48).foldl (fun acc c => acc * 10 + (c - 48)) a = a * 10 ^ n
  | 0, a => by simp
  | n + 1, a => by
    rw [List.replicate_succ, List.foldl_cons, tens_val n]
    show (a * 10 + 0) * 10 ^ n = a * 10 ^ (n + 1)
    rw [Nat.add_zero, Nat.pow_succ, Nat.mul_assoc, Nat.mul_comm 10]
theorem str_len (x : Str) : x.length = x.cps.toList.length := by
  cases x
  rfl
theorem tenS_len (n : Nat) : (tenS n).length = n + 1 := by
  rw [str_len, tenS_list, List.length_cons, List.length_replicate]
theorem ten_text {n : Nat} (h : n ≤ 600) : PySem.intText? (tenS n) = some ((10 : Int) ^ n) := by
  have e := PySem.intText_digits (x := tenS n) (fun c hc => by
      rw [tenS_list] at hc
      rcases List.mem_cons.mp hc with rfl | hc
      · exact ⟨by decide, by decide⟩
      · have := (List.mem_replicate.mp hc).2
        omega) (by rw [tenS_list]; simp) (by rw [tenS_len]; omega)
  rw [e]
  have z : NumText.digitsVal (tenS n).cps.toList = 10 ^ n := by
    rw [tenS_list]
    unfold NumText.digitsVal
    rw [List.foldl_cons, tens_val]
    simp
  rw [z]
  simp
theorem mulOk0 {n : Nat} (h : n ≤ 600) : MulOk "0" (n : Int) := by
  have l : ("0" : Str).length = 1 := by decide +kernel
  refine ⟨?_, fun h1 h2 => ?_, fun h1 h2 => ?_⟩
  · rw [Bool.or_eq_false_iff]
    exact ⟨decide_eq_false (by omega), decide_eq_false (by omega)⟩
  · rw [l]
    have z := Int.le_ediv_of_mul_le (c := (n : Int)) (a := 1) (b := 2 ^ 63 - 1) (by omega) (by omega)
    omega
  · rw [l, Nat.one_mul, Int.toNat_natCast]
    exact decide_eq_false (by have := sizeLine_eq; omega)
end Own

/-! from V06 -/
namespace Own
theorem ten_pos (n : Nat) : (0 : Int) < (10 : Int) ^ n := Int.pow_pos (by decide)
theorem ten_mono {m n : Nat} (h : m ≤ n) : (10 : Int) ^ m ≤ (10 : Int) ^ n := by
  obtain ⟨k, rfl⟩ := Nat.le.dest h
  rw [Int.pow_add]
  have a := ten_pos m
  have b : (1 : Int) ≤ (10 : Int) ^ k := ten_pos k
  have := Int.mul_le_mul_of_nonneg_left b (Int.le_of_lt a)
  omega
theorem ten_nat (n : Nat) : ((10 : Int) ^ n).natAbs = 10 ^ n := by
  rw [Int.natAbs_pow]
  rfl
theorem ten_lt (n : Nat) : ((10 : Int) ^ n).natAbs < 2 ^ (4 * n + 1) := by
  rw [ten_nat, Nat.pow_succ, Nat.pow_mul]
  have a : 10 ^ n ≤ (2 ^ 4) ^ n := Nat.pow_le_pow_left (by decide) n
  have b : 0 < (2 ^ 4) ^ n := Nat.pow_pos (by decide)
  omega
theorem lt_two {i j : Int} {k : Nat} (h0 : 0 ≤ i) (h1 : i ≤ j) (h : j.natAbs < 2 ^ k) : i.natAbs < 2 ^ k := Nat.lt_of_le_of_lt (by omega) h
end Own

/-! from W06 -/
namespace Own
open PySem PySem.Spec PyProof.Rows L2
theorem merge_app : ∀ (kvs acc : List (Key × V)), ((acc ++ kvs).map (·.1)).Nodup → mergeK acc kvs = acc ++ kvs
  | [], acc, _ => by simp [mergeK]
  | p :: r, acc, h => by
    have hn : valV acc p.1 = none := by
      cases e : valV acc p.1 with
      | none => rfl
      | some v =>
        have m := valV_in e
        rw [List.map_append, List.nodup_append] at h
        exact absurd rfl (h.2.2 p.1 m p.1 (by simp))
    have z := merge_app r (acc ++ [p]) (by
      rw [List.append_assoc]
      exact h)
    show mergeK (putK acc p.1 p.2) r = acc ++ p :: r
    rw [putK_new _ hn, z, List.append_assoc]
    rfl
theorem merge_new {kvs : List (Key × V)} (h : (kvs.map (·.1)).Nodup) : mergeK [] kvs = kvs := merge_app kvs [] h
/-- a dict of texts -/
def txK (l : List (Str × V)) : List (Key × V) := l.map fun p => (Sum.inr p.1, p.2)
theorem txK_val : ∀ (l : List (Str × V)) (z : Str), valV (txK l) (Sum.inr z : Key) = l.lookup z
  | [], z => rfl
  | p :: r, z => by
    obtain ⟨a, v⟩ := p
    by_cases h : a = z
    · subst h
      rw [show txK ((a, v) :: r) = (Sum.inr a, v) :: txK r from rfl, valV_pos rfl]
      simp [List.lookup]
    · rw [show txK ((a, v) :: r) = (Sum.inr a, v) :: txK r from rfl, valV_neg (fun e => h (Sum.inr.inj e)), txK_val r z]
      have hb : (z == a) = false := by simpa using fun e : z = a => h e.symm
      simp [List.lookup, hb]
theorem DGet.tx {H : Hp} {a : Addr} {l : List (Str × V)} (z : Str) (e : H a = some (.dK (txK l))) : DGet H a (.str z) (l.lookup z) := by
  have q := DGet.k (k := (Sum.inr z : Key)) e
  rw [txK_val] at q
  exact q
end Own

/-! from Y06 -/
namespace Own
open PySem PySem.Spec PyProof.Rows L2
/-- a flat value's datum -/
def datV : V → PyData
  | .bl b => .bool b
  | .int i => .int i
  | .str z => .str z
  | _ => .none
def okF : V → Bool
  | .non => true
  | .bl _ => true
  | .int _ => true
  | .str z => PyData.strOk z
  | _ => false
/-- a value handed in that is equal to itself -/
inductive Odd (H : Hp) : V → Prop where
  | flat {x : V} (h : okF x = true) : Odd H x
  | lst {a : Addr} {xs : List V} (e : H a = some (.lst xs)) (f : xs.all okF = true) : Odd H (.ref a)
  | tup {a : Addr} {xs : List V} (e : H a = some (.tup xs)) (f : xs.all okF = true) : Odd H (.ref a)
  | dct {a : Addr} {kvs : List (Key × V)} (e : H a = some (.dK kvs)) (n : (kvs.map (·.1)).Nodup) (f : ∀ p ∈ kvs, flatB p.2 = true) : Odd H (.ref a)
theorem Odd.same {H H' : Hp} {x : V} (h : Odd H x) (s : Same H H') : Odd H' x := by
  cases h with
  | flat h => exact .flat h
  | lst e f => exact .lst (s _ _ e) f
  | tup e f => exact .tup (s _ _ e) f
  | dct e n f => exact .dct (s _ _ e) n f
theorem Odd.thing {H : Hp} {x : V} (h : Odd H x) : Thing H x := by
  cases h with
  | flat h =>
    cases x <;> first | exact .non | exact .bl _ | exact .int _ | exact .str _ | (simp [okF] at h)
  | lst e f => exact .lst e
  | tup e f => exact .tup e
  | dct e n f => exact .dct e
theorem dp_flat {K : PySem.W.Frag} {H : Hp} {x : V} (h : okF x = true) : Dp K H x (datV x) ∧ (datV x).canLay0 = true ∧ (datV x).depth = 0 := by
  cases x <;> first
    | exact ⟨.non, by simp [datV, PyData.canLay0], by simp [datV, PyData.depth]⟩
    | exact ⟨.bl _, by simp [datV, PyData.canLay0], by simp [datV, PyData.depth]⟩
    | exact ⟨.int _, by simp [datV, PyData.canLay0], by simp [datV, PyData.depth]⟩
    | exact ⟨.str _, by simpa [datV, PyData.canLay0, okF] using h, by simp [datV, PyData.depth]⟩
    | (simp [okF] at h)
theorem dp_flats {K : PySem.W.Frag} {H : Hp} : ∀ {xs : List V}, xs.all okF = true → DpAll K H xs (xs.map datV) ∧ PyData.canLayAll0 (xs.map datV) = true ∧ PyData.depthAll (xs.map datV) = 0
  | [], _ => ⟨.nil, by simp [PyData.canLayAll0], by simp [PyData.depthAll]⟩
  | x :: r, h => by
    rw [List.all_cons, Bool.and_eq_true] at h
    obtain ⟨a1, a2, a3⟩ := dp_flat (K := K) (H := H) h.1
    obtain ⟨b1, b2, b3⟩ := dp_flats (K := K) (H := H) h.2
    exact ⟨.cons a1 b1, by simp [PyData.canLayAll0, a2, b2], by simp [PyData.depthAll, a3, b3]⟩
/-- x == x of such a value: the three rules -/
theorem op_eqOdd {X : Cx} (hu : X.A.units + 64 < cLine) : OpR X (compareOp .Eq) (fun x y H Q => (∃ a b : Int, x = .int a ∧ y = .int b ∧ Q (.bl (decide (a = b))) H) ∨ (Odd H x ∧ y = x ∧ Q (.bl true) H)) := by
  intro pins s σ H x y v u Q I rx ry h
  rcases h with ⟨a, b, rfl, rfl, q⟩ | ⟨od, rfl, q⟩
  · refine op_eq pins s σ H _ _ v u Q I rx ry ⟨rfl, ?_⟩
    have e : decide (V.int a = V.int b) = decide (a = b) := by simp
    rw [e]
    exact q
  · cases od with
    | flat h =>
      obtain ⟨a1, a2, a3⟩ := dp_flat (K := X.K) (H := H) h
      have sh : SeqAt.shaped (datV y) = true := by
        unfold SeqAt.shaped
        rw [a2, a3]
        rfl
      refine op_eqD hu pins s σ H _ _ v u Q I rx ry ⟨_, _, a1, a1, sh, sh, ?_⟩
      rw [SeqAt.eqv_refl _ (SeqAt.canLay_of_shaped sh)]
      exact q
    | @lst a xs e f =>
      obtain ⟨a1, a2, a3⟩ := dp_flats (K := X.K) (H := H) f
      have sh : SeqAt.shaped (.list (xs.map datV)) = true := by
        unfold SeqAt.shaped
        simp [PyData.canLay0, PyData.depth, a2, a3]
      have d : Dp X.K H (.ref a) (.list (xs.map datV)) := .lst (SqL.of e) a1
      refine op_eqD hu pins s σ H _ _ v u Q I rx ry ⟨_, _, d, d, sh, sh, ?_⟩
      rw [SeqAt.eqv_refl _ (SeqAt.canLay_of_shaped sh)]
      exact q
    | @tup a xs e f =>
      obtain ⟨a1, a2, a3⟩ := dp_flats (K := X.K) (H := H) f
      have sh : SeqAt.shaped (.tuple (xs.map datV)) = true := by
        unfold SeqAt.shaped
        simp [PyData.canLay0, PyData.depth, a2, a3]
      have d : Dp X.K H (.ref a) (.tuple (xs.map datV)) := .tup (SqT.of e) a1
      refine op_eqD hu pins s σ H _ _ v u Q I rx ry ⟨_, _, d, d, sh, sh, ?_⟩
      rw [SeqAt.eqv_refl _ (SeqAt.canLay_of_shaped sh)]
      exact q
    | @dct a kvs e n f => exact op_eq_dict (by omega) pins s σ H _ _ v u Q I rx ry ⟨a, a, kvs, rfl, rfl, e, e, n, f, q⟩
end Own

/-! from AA06 -/
namespace Own
open PySem PySem.Spec PyProof.Rows L2 LamX NdefX
section
variable {X : Cx} {cl : List (Str × Addr)} {fr : List Str} {ws : List (Option V)}
/-- as pe_deed, what it may let out told by the slots -/
theorem pe_deedS {CX : CXT} {k i : Nat} {f : Addr} {F : NF} {b : Expr} {sp : List (Option V) → Hp → VK → XK → Prop} {E : L2.St → XK} {a : Str} {p1 p2 : Pos} (C : CellsAt F.cl fr ws X.s_0.heap X.H_0) (hex : X.ex = []) (G : LOk X.prog X.w X.K X.mg X.base CX k f F b fr sp) (hr : Room k X.A)
    (hx : ∀ σ, PassesAt CX X σ (E σ)) (hN : X.N[i]? = some a) (hv : Vis X.env.scope a) (hd : (a == ("__debug__" : Str)) = false := by decide) (hcd : (a == ("__classdict__" : Str)) = false := by decide) :
    PE X (.Call (.Name a p1) [] [] p2) (fun σ H Q => σ[i]? = some (some (.ref f)) ∧ LamAt H f F b ∧ H F.c = some (CodeO F.c F.qual) ∧ sp ws H Q (E σ)) := by
  constructor
  intro pins s σ H Q I h
  obtain ⟨hs, hf, hc, q⟩ := h
  refine wpAny_Call_Name_kw (thn ((pe_var (pos := p1) hN hv hd hcd).run pins s σ H (fun v H1 => v = .ref f ∧ H1 = H) I ⟨.ref f, hs, rfl, rfl⟩) ?_)
  rintro u s1 ⟨v, H1, I1, r1, rfl, rfl⟩
  obtain rfl : u = Value.ref f := r1
  obtain ⟨dV, doc, pm, ctv, ho, _⟩ := lamO_at I1.hok hf
  refine PySem.W.callWith_F0 ⟨_, _, _, _, ho⟩ ?_
  have C' := cells_still C (fun _ => .inl (by rw [hex]; simp)) I1
  refine wpAny_call (codeAny_mono (G.run _ _ _ _ _ _ _ hr I1.env0 hf hc C' q) fun r s' z => ?_)
  rcases r with e | fl
  · exact hx σ pins _ _ e s' I1 z
  · cases fl
    case ret u => exact I1.after z
    all_goals exact False.elim z
end
end Own

/-! from CC06 -/
namespace Own
open PySem PySem.Spec PyProof.Rows L2 LamX NdefX
/-- at q stands the pair of a lambda and v -/
def RowAt (H : Hp) (nf : Addr → NF) (b : Expr) (v : V) (q : Addr) : Prop := ∃ f c' : Addr, H q = some (.tup [.ref f, v]) ∧ LamAt H f (nf c') b ∧ H (nf c').c = some (CodeO (nf c').c (nf c').qual)
section
variable {H H' : Hp} {nf : Addr → NF} {b : Expr} {v x : V} {q r : Addr} {l : List V} {o : HO}
theorem RowAt.ext (h : RowAt H nf b v q) (e : ExtN H H') : RowAt H' nf b v q := by
  obtain ⟨f, c', h1, h2, h3⟩ := h
  exact ⟨f, c', e _ _ h1 (fun ps z => by cases z), h2.ext e, e _ _ h3 codeO_ne⟩
theorem LamAt.put {f : Addr} {F : NF} (h : LamAt H f F b) (hr : H r = some (.lst l)) : LamAt (upd H r o) f F b := by
  obtain ⟨dV, h1, h2⟩ := h
  have a : f ≠ r := ne_of h1 hr (by unfold LamO; intro z; cases z)
  refine ⟨dV, (upd_ne a).trans h1, ?_⟩
  rcases h2 with z | ⟨n, T, z, q⟩
  · exact .inl z
  · have a : T ≠ r := ne_of q hr (by intro z; cases z)
    exact .inr ⟨n, T, z, (upd_ne a).trans q⟩
theorem RowAt.put (h : RowAt H nf b v q) (hr : H r = some (.lst l)) : RowAt (upd H r o) nf b v q := by
  obtain ⟨f, c', h1, h2, h3⟩ := h
  have a : q ≠ r := ne_of h1 hr (by intro z; cases z)
  have c : (nf c').c ≠ r := ne_of h3 hr (by unfold CodeO; intro z; cases z)
  exact ⟨f, c', (upd_ne a).trans h1, h2.put hr, (upd_ne c).trans h3⟩
theorem Odd.ext (h : Odd H x) (e : ExtN H H') : Odd H' x := by
  cases h with
  | flat h => exact .flat h
  | lst e' f => exact .lst (e _ _ e' (fun ps z => by cases z)) f
  | tup e' f => exact .tup (e _ _ e' (fun ps z => by cases z)) f
  | dct e' n f => exact .dct (e _ _ e' (fun ps z => by cases z)) n f
theorem Odd.off (h : Odd H x) (n : H r = none) : x ≠ .ref r := by
  cases h with
  | flat h => intro z; rw [z] at h; cases h
  | lst e f => intro z; rw [V.ref.inj z, n] at e; cases e
  | tup e f => intro z; rw [V.ref.inj z, n] at e; cases e
  | dct e n' f => intro z; rw [V.ref.inj z, n] at e; cases e
theorem Odd.put (h : Odd H x) (n : x ≠ .ref r) : Odd (upd H r o) x := by
  cases h with
  | flat h => exact .flat h
  | lst e f => exact .lst ((upd_ne (fun z => n (by rw [z]))).trans e) f
  | tup e f => exact .tup ((upd_ne (fun z => n (by rw [z]))).trans e) f
  | dct e n' f => exact .dct ((upd_ne (fun z => n (by rw [z]))).trans e) n' f
theorem tabs_put {T : List (Addr × Str)} (h : Tabs T H) (hr : H r = some (.lst l)) : Tabs T (upd H r o) := fun p hp => by
  obtain ⟨ps, h1, h2, h3⟩ := h p hp
  have a : p.1 ≠ r := ne_of h1 hr (by intro z; cases z)
  refine ⟨ps, (upd_ne a).trans h1, h2, fun pos cv hc => ?_⟩
  obtain ⟨c, e1, e2⟩ := h3 pos cv hc
  have b : c ≠ r := ne_of e2 hr (by unfold CodeO; intro z; cases z)
  exact ⟨c, e1, (upd_ne b).trans e2⟩
theorem extN_new (h : H r = none) : ExtN H (upd H r o) := ExtN.of fun b u e => (upd_ne (ne_of_none e h)).trans e
theorem ExtN.same (s : Same H H') : ExtN H H' := ExtN.of s
end
theorem Pen_odd {d : Addr} {B : Int} (h : Pen H d B) (o : Odd H x) : x ≠ .ref d := by
  obtain ⟨p, ns, c, l, e, _⟩ := h.ex
  intro z
  rw [z] at o
  cases o with
  | flat h => cases h
  | lst e' f => rw [e] at e'; cases e'
  | tup e' f => rw [e] at e'; cases e'
  | dct e' n f =>
    rw [e] at e'
    cases e'
    have := f _ (List.mem_cons_self ..)
    cases this
theorem Odd.keep {d : Addr} (h : Odd H x) (n : x ≠ .ref d) (k : Keep d H H') : Odd H' x := by
  cases h with
  | flat h => exact .flat h
  | lst e f => exact .lst (k _ _ (fun z => n (by rw [z])) e) f
  | tup e f => exact .tup (k _ _ (fun z => n (by rw [z])) e) f
  | dct e n' f => exact .dct (k _ _ (fun z => n (by rw [z])) e) n' f
theorem tabs_keep {T : List (Addr × Str)} {d : Addr} {B : Int} (h : Tabs T H) (hp : Pen H d B) (k : Keep d H H') : Tabs T H' := fun p hq => by
  obtain ⟨pp, ns, cc, ll, ed, _⟩ := hp.ex
  obtain ⟨ps, h1, h2, h3⟩ := h p hq
  have a : p.1 ≠ d := ne_of h1 ed (by intro z; cases z)
  refine ⟨ps, k _ _ a h1, h2, fun pos cv hc => ?_⟩
  obtain ⟨c, e1, e2⟩ := h3 pos cv hc
  have b : c ≠ d := ne_of e2 ed (by unfold CodeO; intro z; cases z)
  exact ⟨c, e1, k _ _ b e2⟩
/-- a list at r of pairs of a lambda and a value; x, y: two odd values -/
structure Bag {ι : Type} (nf : ι → Addr → NF) (bf : ι → Expr) (H : Hp) (r : Addr) (R : List (ι × V × Addr)) (x y : V) : Prop where
  l : H r = some (.lst (R.map fun p => .ref p.2.2))
  rows : ∀ p ∈ R, RowAt H (nf p.1) (bf p.1) p.2.1 p.2.2
  ox : Odd H x
  oy : Odd H y
  xr : x ≠ .ref r
  yr : y ≠ .ref r
theorem Bag.ext {ι : Type} {nf : ι → Addr → NF} {bf : ι → Expr} {R : List (ι × V × Addr)} {y : V} (h : Bag nf bf H r R x y) (e : ExtN H H') : Bag nf bf H' r R x y :=
  ⟨e _ _ h.l (fun ps z => by cases z), fun p hp => (h.rows p hp).ext e, h.ox.ext e, h.oy.ext e, h.xr, h.yr⟩
theorem Bag.set {ι : Type} {nf : ι → Addr → NF} {bf : ι → Expr} {R : List (ι × V × Addr)} {y : V} {D : Addr} {zs : List V} (h : Bag nf bf H r R x y) (hD : H D = some (.lst zs)) (n : D ≠ r) (nx : x ≠ .ref D) (ny : y ≠ .ref D) : Bag nf bf (upd H D o) r R x y :=
  ⟨(upd_ne n.symm).trans h.l, fun p hp => (h.rows p hp).put hD, h.ox.put nx, h.oy.put ny, h.xr, h.yr⟩
theorem Bag.add {ι : Type} {nf : ι → Addr → NF} {bf : ι → Expr} {R : List (ι × V × Addr)} {y v : V} {H1 : Hp} {i : ι} {f c' q : Addr} (h : Bag nf bf H r R x y) (e : ExtN H H1) (a : LamAt H1 f (nf i c') (bf i)) (c : H1 (nf i c').c = some (CodeO (nf i c').c (nf i c').qual)) (nq : H1 q = none) :
    upd H1 q (.tup [.ref f, v]) r = some (.lst (R.map fun p => .ref p.2.2)) ∧ Bag nf bf (upd (upd H1 q (.tup [.ref f, v])) r (.lst (R.map (fun p => .ref p.2.2) ++ [.ref q]))) r (R ++ [(i, v, q)]) x y := by
  have g := (h.ext e).ext (extN_new (o := .tup [.ref f, v]) nq)
  have e2 := extN_new (o := HO.tup [.ref f, v]) nq
  refine ⟨g.l, by rw [upd_same, List.map_append]; rfl, fun p hp => ?_, g.ox.put g.xr, g.oy.put g.yr, g.xr, g.yr⟩
  rcases List.mem_append.mp hp with hp | hp
  · exact (g.rows p hp).put g.l
  · rw [List.mem_singleton.mp hp]
    exact RowAt.put ⟨f, c', upd_same, a.ext e2, e2 _ _ c codeO_ne⟩ g.l
/-- a def of the text and its code object -/
structure AtC (K : PySem.W.Frag) (mg : Str → Option Value) (x : Str) (st : Stmt) (ps : List Str) (c : Addr) : Prop where
  ex : ∃ (f : Addr) (oc : Value) (od : Option Addr) (kV doc pm : Value) (an : Option Addr) (ct : Value) (osl : Array (Option Value)), K.lookup f = some ⟨oc, od, .func (PySem.W.fnOf x x (defArgs st) (defBody st) (defScope st) .none kV doc pm an (.ref c) ct), osl⟩ ∧ PySem.W.codeIn K (.ref c) x = true ∧
    mg x = some (.ref f) ∧ PySem.W.keepIn K (.ref f) = true ∧ Binds K (PySem.W.fnOf x x (defArgs st) (defBody st) (defScope st) .none kV doc pm an (.ref c) ct) ps []
end Own

namespace Own
open PySem PySem.Spec PyProof.Rows L2 LamX NdefX
theorem log2_lt {n k : Nat} (h : n < 2 ^ k) (hk : 0 < k) : n.log2 < k := by
  by_cases h0 : n = 0
  · subst h0
    simpa using hk
  · exact (Nat.log2_lt h0).mpr h
theorem dm_ok {n d : Int} (h0 : 0 < d) (h : d.natAbs < 2 ^ 1000) : CDivP n d := by
  refine ⟨h0, ?_⟩
  have a := log2_lt h (by decide)
  unfold Builtin.divisionGoesByPylong
  have e : ¬ (d == 0) = true := by simp; omega
  have z : ¬ (d.natAbs.log2 / 30 + 1 > 300) := by omega
  simp only [e, Bool.false_eq_true, if_false]
  rw [decide_eq_false z]
  rfl
theorem up_two {n a b : Nat} (h : n < 2 ^ a) (l : a ≤ b) : n < 2 ^ b := Nat.lt_of_lt_of_le h (Nat.pow_le_pow_right (by decide) l)
theorem add_lt {i j : Int} {a : Nat} (hi : i.natAbs < 2 ^ a) (hj : j.natAbs < 2 ^ a) : (i + j).natAbs < 2 ^ (a + 1) := by
  rw [Nat.pow_succ]
  omega
end Own

namespace Own
open PySem PySem.Spec PyProof.Rows L2 LamX NdefX
/-- what the law leans on of an error's class -/
def oexB (K : PySem.W.Frag) (C : Addr) : Bool := (match K.lookup C with
  | some ⟨.type t, _, .cls cd, sl⟩ => decide (t = "type") && (cd.hasDict && (!cd.hasDel && ((match cd.mro with
    | .ref D :: bm => decide (D = C) && PySem.HandSPX.refsVE bm
    | _ => false) && (match sl.toList with
    | [_, _, _, _, some (.builtin n), _] => decide (n = "ValueError.__new__")
    | _ => false))))
  | _ => false) && (decide (PySem.W.findIn K (.ref C) "__setattr__" = some (some (.builtin "object.__setattr__"))) && (decide (PySem.W.subIn K (.ref C) (.type "BaseException") = some true) && (decide (PySem.W.typeIn K (.ref C) = some (.type "type")) && PySem.W.keepIn K (.ref C))))
theorem oexB_ok {K : PySem.W.Frag} {C : Addr} (h : oexB K C = true) : OexC K C := by
  obtain ⟨h0, h⟩ := He.ba h
  obtain ⟨h1, h⟩ := He.ba h
  obtain ⟨h2, h⟩ := He.ba h
  obtain ⟨h3, h4⟩ := He.ba h
  refine ⟨?_, of_decide_eq_true h1, of_decide_eq_true h2, of_decide_eq_true h3, h4⟩
  cases q : K.lookup C with
  | none => rw [q] at h0; cases h0
  | some o =>
    rw [q] at h0
    obtain ⟨oc, od, dt, ⟨sl⟩⟩ := o
    cases oc with
    | type t =>
      cases dt with
      | cls cd =>
        obtain ⟨nm, bs, mro, ns, qn, hd, sn, sub, ab, col, del⟩ := cd
        obtain ⟨a1, a⟩ := He.ba h0
        obtain ⟨a2, a⟩ := He.ba a
        obtain ⟨a3, a⟩ := He.ba a
        obtain ⟨a4, a5⟩ := He.ba a
        have e1 : t = "type" := of_decide_eq_true a1
        have e2 : hd = true := a2
        have e3 : del = false := by
          have z : (!del) = true := a3
          simpa using z
        subst e1 e2 e3
        cases mro with
        | nil => cases a4
        | cons m bm =>
          cases m with
          | ref D =>
            obtain ⟨b1, b2⟩ := He.ba (show (decide (D = C) && PySem.HandSPX.refsVE bm) = true from a4)
            have e4 : D = C := of_decide_eq_true b1
            subst e4
            match sl, a5 with
            | [k0, k1, k2, k3, some (.builtin n), k5], z =>
              have e5 : n = "ValueError.__new__" := of_decide_eq_true z
              subst e5
              exact ⟨_, _, _, _, _, _, _, _, _, _, _, _, _, _, _, rfl, b2⟩
          | _ => cases a4
      | _ => cases h0
    | _ => cases dt <;> cases h0
def isTup (K : PySem.W.Frag) (a : Addr) : Bool := match K.lookup a with
  | some ⟨.type c, _, _, _⟩ => decide (c = "tuple")
  | _ => false
theorem isTup_ok {K : PySem.W.Frag} {a : Addr} (h : isTup K a = true) : ∃ o : Obj, K.lookup a = some o ∧ o.cls = .type "tuple" := by
  unfold isTup at h
  cases q : K.lookup a with
  | none => rw [q] at h; cases h
  | some o =>
    rw [q] at h
    obtain ⟨oc, od, dt, sl⟩ := o
    cases oc with
    | type c => exact ⟨_, rfl, congrArg Value.type (of_decide_eq_true h)⟩
    | _ => cases h
section
variable {P : Program} {w : World} {K : PySem.W.Frag} {mg : Str → Option Value} {h : Heap}
theorem fun_of {x qual : Str} {st : Stmt} {f : Addr} {fd : FuncData} (F : FunD K x qual (defArgs st) (defBody st) (defScope st) [] [] f fd) : Fun K x qual st f fd := by
  obtain ⟨oc, od, dV, kV, doc, pm, an, cdv, ct, osl, rfl, lk, hcd, hD, _⟩ := F.ex
  rcases hD with ⟨_, rfl⟩ | ⟨n, _⟩
  · exact ⟨⟨oc, od, kV, doc, pm, an, cdv, ct, osl, rfl, lk, hcd⟩, F.kp⟩
  · exact absurd rfl n
theorem at_of {x : Str} {st : Stmt} {ps : List Str} {f : Addr} {fd : FuncData} (F : FunD K x x (defArgs st) (defBody st) (defScope st) [] [] f fd) (g : mg x = some (.ref f))
    (b : ∀ (kV doc pm : Value) (an : Option Addr) (cdv ct : Value) (us : List Value), us.length = ps.length → bindArgs (PySem.W.fnOf x x (defArgs st) (defBody st) (defScope st) .none kV doc pm an cdv ct) ⟨us, []⟩ = pure (ps.zip us)) : At K mg x st ps :=
  ⟨f, fd, fun_of F, g, (fun_of F).binds b⟩
end
end Own
namespace Own
/-- built-in names that no module takes -/
structure Blt (mg : PySem.Str → Option PySem.Value) : Prop where
  isi : mg "isinstance" = none
  int : mg "int" = none
  bool : mg "bool" = none
  len : mg "len" = none
  list : mg "list" = none
  range : mg "range" = none
  tuple : mg "tuple" = none
  all : mg "all" = none
  dm : mg "divmod" = none
  min : mg "min" = none
  max : mg "max" = none
  str : mg "str" = none
  abs : mg "abs" = none
  dict : mg "dict" = none
  any : mg "any" = none
end Own

/-! own layer, of no law: OWN2: operators by an own class. -/
namespace Own
open PySem PySem.Spec PyProof.Rows L2 LamX NdefX
section
variable {X : Cx} {pins : List (Addr × Obj)} {σ : L2.St} {H : Hp} {s : Shared}
theorem back_of {Q : VK} {A : Around} {c : Sem Value} (h : wpAny (model X.prog X.w) A c (EP X pins σ Q) X.xe s) : wpAny (model X.prog X.w) A c (PySem.W.CmpBack (EP X pins σ Q)) X.xe s := by
  refine wpAny_mono h (fun v s' q => ?_) fun _ _ e => e
  obtain ⟨y, H', I', r, q'⟩ := q
  cases v with
  | notImplemented => cases y <;> first | exact (nomatch r) | (obtain ⟨_, z⟩ := r; cases z)
  | _ => exact ⟨y, H', I', r, q'⟩
variable {CX : CXT} {n : Nat} {C f : Addr} {fd : FuncData} {ps : List Str} {sp : Sp} {E : XK} {op : Operator}
/-- x op y, both of the class at C, whose own method takes them -/
theorem op_own (F : FnOk X.prog X.w X.K X.mg X.base CX n f fd ps sp) (hr : Room n X.A) (hc : PySem.W.selfFirst X.K C = true) (hs : PySem.W.findIn X.K (.ref C) (PySem.dunder op.info.2) = some (some (.ref f))) (hf : PySem.W.isFn X.K (.ref f) = true) (hb : Binds X.K fd ps []) (hx : Passes CX X E) :
    OpR X (binaryOp op) (fun x y H Q => ∃ a b dx dy fs gs, x = V.ref a ∧ y = V.ref b ∧ H a = some (.ins C dx fs) ∧ H b = some (.ins C dy gs) ∧ sp [.ref a, .ref b] H Q E) := by
  intro pins s σ H x y v u Q I rx ry h
  obtain ⟨a, b, dx, dy, fs, gs, rfl, rfl, ha, hb', q⟩ := h
  cases rx
  cases ry
  obtain ⟨mA, J, _⟩ := ins_get I.hok ha
  obtain ⟨mB, J', _⟩ := ins_get I.hok hb'
  obtain ⟨od, J, _⟩ := J.look
  obtain ⟨od', J', _⟩ := J'.look
  obtain ⟨m, hF⟩ := I.fr
  exact PySem.W.binop_K hF I.ok.mod.kin J J'.type hc hs hf (back_of (run_fn F hr hb .nil hx I (.cons (show L2.RelV (V.ref a) (Value.ref a) from rfl) (.cons (show L2.RelV (V.ref b) (Value.ref b) from rfl) .nil)) q))
/-- -x of the class at C -/
theorem un_own (F : FnOk X.prog X.w X.K X.mg X.base CX n f fd ps sp) (hr : Room n X.A) (hs : PySem.W.findIn X.K (.ref C) "__neg__" = some (some (.ref f))) (hf : PySem.W.isFn X.K (.ref f) = true) (hb : Binds X.K fd ps []) (hx : Passes CX X E) :
    UnR X (unaryOp .USub) (fun x H Q => ∃ a dx fs, x = V.ref a ∧ H a = some (.ins C dx fs) ∧ sp [.ref a] H Q E) := by
  intro pins s σ H x v Q I rx h
  obtain ⟨a, dx, fs, rfl, ha, q⟩ := h
  cases rx
  obtain ⟨mA, J, _⟩ := ins_get I.hok ha
  obtain ⟨od, J, _⟩ := J.look
  obtain ⟨m, hF⟩ := I.fr
  exact PySem.W.ksp_neg hF I.ok.mod.kin J hs hf (run_fn F hr hb .nil hx I (.cons (show L2.RelV (V.ref a) (Value.ref a) from rfl) .nil) q)
end
end Own

/-! own layer, of no law: OWN3: an own class and a built-in value, on either side. -/
namespace Own
open PySem PySem.Spec PySem.Calls PyProof.Rows
section
variable {prog : Program} {w : World} {A : Around} {E : Value → Shared → Prop} {s : Shared} {K : PySem.W.Frag} {x C f : Addr} {ox : Obj} {od : Option Obj} {T : String}
open PySem.W in
/-- own op built-in -/
theorem own_left {op : Operator} {b : Value} {r : Bool} {back ours : Option Value} {Q : Value → Shared → Prop} (KX : K.In s.heap) (J : InstAt s.heap x ox C od) (tb : Looks (model prog w) s.heap (typeOf b) (.type T)) (one : selfFirst K C = true)
    (me : findIn K (.ref C) (PySem.dunder op.info.2) = some (some (.ref f))) (fn : isFn K (.ref f) = true) (mr : findIn K (.ref C) (dunderR op.info.2) = some ours) (mp : ours = none ∨ ∃ g : Addr, ours = some (.ref g))
    (slot : fillsNumberSlot (.type T) op.info.2 = pure r) (their : typeLookup (.type T) (dunderR op.info.2) = pure back) (nosub : subIn K (.type T) (.ref C) = some false)
    (go : wpAny (model prog w) A (call (.ref f) [.ref x, b]) (PySem.W.CmpBack Q) E s) : wpAny (model prog w) A (binaryOp op (.ref x) b) Q E s := by
  obtain ⟨cd, tl, c1, c2⟩ := ksp_first one
  obtain ⟨sy, nm, e⟩ : ∃ sy nm, op.info = (sy, nm) := ⟨_, _, rfl⟩
  rw [e] at me mr slot their
  have did := ksp_try KX J me fn go
  obtain ⟨hp, gs, dr, tk, os⟩ := s
  have q1 : Looks (model prog w) hp (typeOf (.ref x)) (.ref C) := J.type
  have q3 : Looks (model prog w) hp (fillsNumberSlot (.ref C) nm) true := fills_K KX c1 c2 me
  have q4 : Looks (model prog w) hp (fillsNumberSlot (.type T) nm) r := Looks.of_pure slot
  have q5 : Looks (model prog w) hp (isSubtype (.type T) (.ref C)) false := looks_subIn KX nosub
  have q6 : Looks (model prog w) hp (numberSlotInPython (.ref C) nm) true := ksp_inPy KX me mr mp
  have q7 : Looks (model prog w) hp (numberSlotInPython (.type T) nm) false := Looks.of_pure rfl
  have q8 : Looks (model prog w) hp (typeLookup (.type T) (dunderR nm)) back := Looks.of_pure their
  have ne : (Value.ref C == Value.type T) = false := by rw [beq_eq_false_iff_ne]; intro z; cases z
  unfold binaryOp
  rw [e]
  dsimp only
  refine wpAny_holding (wpAny_bind ?_)
  unfold binaryOp1
  refine wpAny_bind (q1.at (wpAny_bind (tb.at (wpAny_bind (q3.at ?_)))))
  rw [ne]
  simp only [Bool.false_eq_true, if_false]
  cases r
  · ksp_lk
    refine wpAny_mono did (fun u s' z => ?_) fun _ _ z => z
    obtain ⟨v, rfl, hv⟩ := z
    ksp_lk
    exact hv
  · ksp_lk
    refine wpAny_mono did (fun u s' z => ?_) fun _ _ z => z
    obtain ⟨v, rfl, hv⟩ := z
    ksp_lk
    exact hv
open PySem.W in
/-- built-in op own: the built-in's own slot stands off, the class's reflected method takes them -/
theorem own_right {op : Operator} {a : Value} {l : Bool} {Q : Value → Shared → Prop} (KX : K.In s.heap) (J : InstAt s.heap x ox C od) (ta : ∀ s' : Shared, (∀ b o, s.heap.get? b = some o → s'.heap.get? b = some o) → Looks (model prog w) s'.heap (typeOf a) (.type T)) (one : selfFirst K C = true)
    (mr : findIn K (.ref C) (dunderR op.info.2) = some (some (.ref f))) (fn : isFn K (.ref f) = true) (fills : ∀ h : Heap, K.In h → Looks (model prog w) h (fillsNumberSlot (.ref C) op.info.2) true)
    (slot : fillsNumberSlot (.type T) op.info.2 = pure l) (nosub : subIn K (.ref C) (.type T) = some false)
    (off : l = true → ∀ {R : Option Value → Shared → Prop} {s' : Shared}, (∀ b o, s.heap.get? b = some o → s'.heap.get? b = some o) → (∀ t : Tok, R none { s' with toks := t }) → wpAny (model prog w) A (tryMethod a (PySem.dunder op.info.2) (.ref x)) R E s')
    (go : ∀ t : Tok, wpAny (model prog w) A (call (.ref f) [.ref x, a]) (PySem.W.CmpBack Q) E { s with toks := t }) : wpAny (model prog w) A (binaryOp op a (.ref x)) Q E s := by
  obtain ⟨sy, nm, e⟩ : ∃ sy nm, op.info = (sy, nm) := ⟨_, _, rfl⟩
  rw [e] at mr slot fills off
  have did : ∀ t : Tok, wpAny (model prog w) A (tryMethod (.ref x) (dunderR nm) a) (fun u s' => ∃ v, u = some v ∧ Q v s') E { s with toks := t } := fun t => ksp_try (s := { s with toks := t }) KX J mr fn (go t)
  have here := ta s fun _ _ z => z
  have q3 := fills s.heap KX
  obtain ⟨hp, gs, dr, tk, os⟩ := s
  have q1 : Looks (model prog w) hp (typeOf (.ref x)) (.ref C) := J.type
  have q2 : Looks (model prog w) hp (typeOf a) (.type T) := here
  have q4 : Looks (model prog w) hp (fillsNumberSlot (.type T) nm) l := Looks.of_pure slot
  have q5 : Looks (model prog w) hp (isSubtype (.ref C) (.type T)) false := looks_subIn KX nosub
  have q6 : Looks (model prog w) hp (fillsNumberSlot (.ref C) nm) true := q3
  have q7 : Looks (model prog w) hp (numberSlotInPython (.type T) nm) false := Looks.of_pure rfl
  have ne : (Value.type T == Value.ref C) = false := by rw [beq_eq_false_iff_ne]; intro z; cases z
  unfold binaryOp
  rw [e]
  dsimp only
  refine wpAny_holding (wpAny_bind ?_)
  unfold binaryOp1
  refine wpAny_bind (q2.at (wpAny_bind (q1.at (wpAny_bind (q4.at ?_)))))
  rw [ne]
  simp only [Bool.false_eq_true, if_false]
  refine wpAny_bind (q6.at ?_)
  cases l
  · ksp_lk
    refine wpAny_mono (did tk) (fun u s' z => ?_) fun _ _ z => z
    obtain ⟨v, rfl, hv⟩ := z
    ksp_lk
    exact hv
  · ksp_lk
    refine off rfl (fun _ _ z => z) fun t => ?_
    ksp_lk
    refine wpAny_mono (did t) (fun u s' z => ?_) fun _ _ z => z
    obtain ⟨v, rfl, hv⟩ := z
    ksp_lk
    exact hv
end
end Own

/-! own layer, of no law: OWN4. -/
namespace Own
open PySem PySem.Spec PySem.Calls PyProof.Rows AutoSeq1
def tys : List String := ["NoneType", "bool", "int", "str", "list", "tuple", "dict"]
theorem fill_add : ∀ T ∈ tys, fillsNumberSlot (.type T) "add" = pure (T == "int" || T == "bool") := by
  intro T hT
  simp only [tys, List.mem_cons, List.not_mem_nil, or_false] at hT
  rcases hT with rfl | rfl | rfl | rfl | rfl | rfl | rfl <;> kernel_rfl
theorem fill_sub : ∀ T ∈ tys, fillsNumberSlot (.type T) "sub" = pure (T == "int" || T == "bool") := by
  intro T hT
  simp only [tys, List.mem_cons, List.not_mem_nil, or_false] at hT
  rcases hT with rfl | rfl | rfl | rfl | rfl | rfl | rfl <;> kernel_rfl
theorem fill_mul : ∀ T ∈ tys, fillsNumberSlot (.type T) "mul" = pure (T == "int" || T == "bool") := by
  intro T hT
  simp only [tys, List.mem_cons, List.not_mem_nil, or_false] at hT
  rcases hT with rfl | rfl | rfl | rfl | rfl | rfl | rfl <;> kernel_rfl
theorem refl_add : ∀ T ∈ tys, typeLookup (.type T) (dunderR "add") = pure (if (T == "int" || T == "bool") = true then some (.builtin "int.__radd__") else none) := by
  intro T hT
  simp only [tys, List.mem_cons, List.not_mem_nil, or_false] at hT
  rcases hT with rfl | rfl | rfl | rfl | rfl | rfl | rfl <;> (rw [typeLookup_type, builtinLookup_eq_fast]; kernel_rfl)
theorem refl_sub : ∀ T ∈ tys, typeLookup (.type T) (dunderR "sub") = pure (if (T == "int" || T == "bool") = true then some (.builtin "int.__rsub__") else none) := by
  intro T hT
  simp only [tys, List.mem_cons, List.not_mem_nil, or_false] at hT
  rcases hT with rfl | rfl | rfl | rfl | rfl | rfl | rfl <;> (rw [typeLookup_type, builtinLookup_eq_fast]; kernel_rfl)
theorem refl_mul : ∀ T ∈ tys, typeLookup (.type T) (dunderR "mul") = pure (if (T == "int" || T == "bool") = true then some (.builtin "int.__rmul__") else if T == "str" then some (.builtin "str.__rmul__") else if T == "list" then some (.builtin "list.__rmul__") else if T == "tuple" then some (.builtin "tuple.__rmul__") else none) := by
  intro T hT
  simp only [tys, List.mem_cons, List.not_mem_nil, or_false] at hT
  rcases hT with rfl | rfl | rfl | rfl | rfl | rfl | rfl <;> (rw [typeLookup_type, builtinLookup_eq_fast]; kernel_rfl)
/-- an int's own slot stands off an object that is no int -/
theorem off_meets {nm : String} {x : Addr} {v : Value} {i : Int} {g : Int → Int → Sem Fin} (hv : (∃ t, v = .int i t) ∨ ∃ b, v = .bool b) : Meets (Builtin.Int.intBinary nm g false ⟨[v, .ref x], []⟩) (fun _ R s => ∃ o, s.heap.get? x = some o ∧ o.data = .plain ∧ R (.ok (.ret .notImplemented)) s) := by
  intro prog w A R s h
  obtain ⟨o, e, d, q⟩ := h
  obtain ⟨hp, gs, dr, tk, os⟩ := s
  rcases hv with ⟨t, rfl⟩ | ⟨b, rfl⟩
  · unfold Builtin.Int.intBinary
    wp_walk using wpAny_loadPart' e
    rw [d]
    exact wpAny_pure (wpAny_bind (wpAny_rule (wpAny_pure q)))
  · unfold Builtin.Int.intBinary
    wp_walk using wpAny_loadPart' e
    rw [d]
    exact wpAny_pure (wpAny_bind (wpAny_rule (wpAny_pure q)))
section
variable {prog : Program} {w : World} {A : Around} {E : Value → Shared → Prop} {s : Shared} {x : Addr} {o : Obj} {v : Value} {i : Int}
/-- .. so its method gives none -/
theorem off_try {T id : String} {nm : String} {nb : String} {g : Int → Int → Sem PySem.Fin} {R : Option Value → Shared → Prop} (hv : (∃ t, v = .int i t) ∨ ∃ b, v = .bool b) (ho : s.heap.get? x = some o) (hd : o.data = .plain) (hT : s.TypeIs v T) (slot : Slot T (dunder nm) id)
    (entry : entryFor table id = some (Builtin.Int.intBinary nb g false)) (args : argsOk id ⟨[v, .ref x], []⟩) (h : R none s) : wpAny (model prog w) A (tryMethod v (dunder nm) (.ref x)) R E s := by
  unfold tryMethod
  exact wpAny_bind (wpAny_callSpecial?_slot hT slot (call_meets slot hT entry args (off_meets hv) ⟨o, ho, hd, wpAny_pure h⟩))
theorem off_add {R : Option Value → Shared → Prop} (ho : s.heap.get? x = some o) (hd : o.data = .plain) (h : R none s) : (∀ t, v = .int i t → wpAny (model prog w) A (tryMethod v (dunder "add") (.ref x)) R E s) ∧ (∀ b, v = .bool b → wpAny (model prog w) A (tryMethod v (dunder "add") (.ref x)) R E s) := by
  refine ⟨fun t e => ?_, fun b e => ?_⟩
  · exact off_try (T := "int") (i := i) (.inl ⟨t, e⟩) ho hd (by rw [e]; exact rfl) F.slot_int_add F.entry_int_add (F.args_int_add_2 _ _) h
  · exact off_try (T := "bool") (i := i) (.inr ⟨b, e⟩) ho hd (by rw [e]; exact rfl) F.slot_bool_add F.entry_int_add (F.args_int_add_2 _ _) h
end
end Own

/-! own layer, of no law: OWN5: rules for an own class's operators with what is handed in. -/
namespace Own
open PySem PySem.Spec PyProof.Rows L2 LamX NdefX
/-- what an operator's built-in slots say -/
structure OpB (op : Operator) : Prop where
  fill : ∀ T ∈ tys, fillsNumberSlot (.type T) op.info.2 = pure (T == "int" || T == "bool")
  back : ∀ T ∈ tys, ∃ r, typeLookup (.type T) (dunderR op.info.2) = pure r
  off : ∀ {prog : Program} {w : World} {A : Around} {E : Value → Shared → Prop} {s : Shared} {x : Addr} {o : Obj} {v : Value} {i : Int} {R : Option Value → Shared → Prop}, s.heap.get? x = some o → o.data = .plain → ((∃ t, v = .int i t) ∨ ∃ b, v = .bool b) → R none s →
    wpAny (model prog w) A (tryMethod v (PySem.dunder op.info.2) (.ref x)) R E s
theorem opb_add : OpB .Add := ⟨fill_add, fun T h => ⟨_, refl_add T h⟩, fun {prog w A E s x o v i R} ho hd hv h => by
  rcases hv with ⟨t, e⟩ | ⟨b, e⟩
  · exact off_try (T := "int") (i := i) (.inl ⟨t, e⟩) ho hd (by rw [e]; exact rfl) F.slot_int_add F.entry_int_add (F.args_int_add_2 _ _) h
  · exact off_try (T := "bool") (i := i) (.inr ⟨b, e⟩) ho hd (by rw [e]; exact rfl) F.slot_bool_add F.entry_int_add (F.args_int_add_2 _ _) h⟩
theorem opb_sub : OpB .Sub := ⟨fill_sub, fun T h => ⟨_, refl_sub T h⟩, fun {prog w A E s x o v i R} ho hd hv h => by
  rcases hv with ⟨t, e⟩ | ⟨b, e⟩
  · exact off_try (T := "int") (i := i) (.inl ⟨t, e⟩) ho hd (by rw [e]; exact rfl) F.slot_int_sub F.entry_int_sub (F.args_int_sub_2 _ _) h
  · exact off_try (T := "bool") (i := i) (.inr ⟨b, e⟩) ho hd (by rw [e]; exact rfl) F.slot_bool_sub F.entry_int_sub (F.args_int_sub_2 _ _) h⟩
theorem opb_mul : OpB .Mult := ⟨fill_mul, fun T h => ⟨_, refl_mul T h⟩, fun {prog w A E s x o v i R} ho hd hv h => by
  rcases hv with ⟨t, e⟩ | ⟨b, e⟩
  · exact off_try (T := "int") (i := i) (.inl ⟨t, e⟩) ho hd (by rw [e]; exact rfl) F.slot_int_mul F.entry_int_mul (F.args_int_mul_2 _ _) h
  · exact off_try (T := "bool") (i := i) (.inr ⟨b, e⟩) ho hd (by rw [e]; exact rfl) F.slot_bool_mul F.entry_int_mul (F.args_int_mul_2 _ _) h⟩
section
variable {X : Cx} {pins : List (Addr × Obj)} {σ : L2.St} {H : Hp} {s : Shared}
/-- of which built-in type a thing is -/
theorem thing_ty {x : V} {v : Value} (I : Inv X pins σ H s) (t : Thing H x) (r : RelV x v) : ∃ T ∈ tys, PySem.W.Looks (model X.prog X.w) s.heap (typeOf v) (.type T) ∧ ((T == "int" || T == "bool") = true → ∃ i : Int, (∃ t, v = .int i t) ∨ ∃ b, v = .bool b) := by
  cases t with
  | non =>
    obtain rfl : v = .none := r
    exact ⟨"NoneType", by simp [tys], .of_pure rfl, fun z => absurd z (by decide)⟩
  | bl b =>
    obtain rfl : v = .bool b := r
    exact ⟨"bool", by simp [tys], .of_pure rfl, fun _ => ⟨0, .inr ⟨b, rfl⟩⟩⟩
  | int i =>
    obtain ⟨t, rfl⟩ := r
    exact ⟨"int", by simp [tys], .of_pure rfl, fun _ => ⟨i, .inl ⟨t, rfl⟩⟩⟩
  | str z =>
    obtain ⟨t, rfl⟩ := r
    exact ⟨"str", by simp [tys], .of_pure rfl, fun z => absurd z (by decide)⟩
  | @lst a xs e =>
    obtain rfl : v = .ref a := r
    obtain ⟨_, its, n, _, ho⟩ := I.hok a _ e
    exact ⟨"list", by simp [tys], fun A Q E s' k q => wpAny_typeOf_ref (k _ _ ho) q, fun z => absurd z (by decide)⟩
  | @tup a xs e =>
    obtain rfl : v = .ref a := r
    obtain ⟨_, its, _, o, ho, hc, _⟩ := I.hok a _ e
    exact ⟨"tuple", by simp [tys], fun A Q E s' k q => wpAny_typeOf_ref (k _ _ ho) (by rw [hc]; exact q), fun z => absurd z (by decide)⟩
  | @dct a kvs e =>
    obtain rfl : v = .ref a := r
    obtain ⟨_, _, vs, _, o, es, ep, ho, hc, _⟩ := I.hok a _ e
    exact ⟨"dict", by simp [tys], fun A Q E s' k q => wpAny_typeOf_ref (k _ _ ho) (by rw [hc.1]; exact q), fun z => absurd z (by decide)⟩
variable {CX : CXT} {n : Nat} {C f g : Addr} {fd : FuncData} {ps : List Str} {sp : Sp} {E : XK} {op : Operator}
/-- own op thing -/
theorem op_ownL (B : OpB op) (F : FnOk X.prog X.w X.K X.mg X.base CX n f fd ps sp) (hr : Room n X.A) (hc : PySem.W.selfFirst X.K C = true) (hs : PySem.W.findIn X.K (.ref C) (PySem.dunder op.info.2) = some (some (.ref f))) (hf : PySem.W.isFn X.K (.ref f) = true)
    (hm : PySem.W.findIn X.K (.ref C) (dunderR op.info.2) = some (some (.ref g))) (hsub : ∀ T ∈ tys, PySem.W.subIn X.K (.type T) (.ref C) = some false) (hb : Binds X.K fd ps []) (hx : Passes CX X E) :
    OpR X (binaryOp op) (fun x y H Q => ∃ a dx fs, x = V.ref a ∧ H a = some (.ins C dx fs) ∧ Thing H y ∧ sp [.ref a, y] H Q E) := by
  intro pins s σ H x y v u Q I rx ry h
  obtain ⟨a, dx, fs, rfl, ha, ty, q⟩ := h
  cases rx
  obtain ⟨mA, J, _⟩ := ins_get I.hok ha
  obtain ⟨od, J, _⟩ := J.look
  obtain ⟨T, hT, lk, _⟩ := thing_ty I ty ry
  obtain ⟨r, hbk⟩ := B.back T hT
  exact own_left I.kIn J lk hc hs hf hm (.inr ⟨g, rfl⟩) (B.fill T hT) hbk (hsub T hT) (back_of (run_fn F hr hb .nil hx I (.cons (show L2.RelV (V.ref a) (Value.ref a) from rfl) (.cons ry .nil)) q))
/-- thing op own -/
theorem op_ownR (B : OpB op) (F : FnOk X.prog X.w X.K X.mg X.base CX n f fd ps sp) (hr : Room n X.A) (hc : PySem.W.selfFirst X.K C = true) (hs : PySem.W.findIn X.K (.ref C) (PySem.dunder op.info.2) = some (some (.ref g))) (hf : PySem.W.isFn X.K (.ref f) = true)
    (hm : PySem.W.findIn X.K (.ref C) (dunderR op.info.2) = some (some (.ref f))) (hsub : ∀ T ∈ tys, PySem.W.subIn X.K (.ref C) (.type T) = some false) (hb : Binds X.K fd ps []) (hx : Passes CX X E) :
    OpR X (binaryOp op) (fun x y H Q => ∃ b dy fs, y = V.ref b ∧ H b = some (.ins C dy fs) ∧ Thing H x ∧ sp [.ref b, x] H Q E) := by
  intro pins s σ H x y v u Q I rx ry h
  obtain ⟨b, dy, fs, rfl, hb', tx, q⟩ := h
  cases ry
  obtain ⟨mB, J, _⟩ := ins_get I.hok hb'
  obtain ⟨od, J, _⟩ := J.look
  obtain ⟨T, hT, lk, num⟩ := thing_ty I tx rx
  obtain ⟨cd, tl, c1, c2⟩ := PySem.W.ksp_first hc
  refine own_right I.kIn J (fun s' k => lk.keeps k) hc hm hf (fun h K' => PySem.W.fills_K K' c1 c2 hs) (B.fill T hT) (hsub T hT) (fun z R s' k hR => ?_) fun t => ?_
  · obtain ⟨i, hi⟩ := num z
    obtain ⟨_, _, _, ho, _⟩ := I.hok b _ hb'
    exact B.off (k _ _ ho) rfl hi (hR s'.toks)
  · exact back_of (run_fn F hr hb .nil hx (I.tok t) (.cons (show L2.RelV (V.ref b) (Value.ref b) from rfl) (.cons rx .nil)) q)
end
end Own

/-! own layer, of no law: OWN6: == and abs of an own class. -/
namespace Own
open PySem PySem.Spec PyProof.Rows L2 LamX NdefX
section
variable {X : Cx} {pins : List (Addr × Obj)} {σ : L2.St} {H : Hp} {s : Shared}
variable {CX : CXT} {n : Nat} {C f : Addr} {fd : FuncData} {ps : List Str} {sp : Sp} {E : XK}
/-- own == anything -/
theorem op_ownEq (F : FnOk X.prog X.w X.K X.mg X.base CX n f fd ps sp) (hr : Room n X.A) (hs : PySem.W.findIn X.K (.ref C) "__eq__" = some (some (.ref f))) (hf : PySem.W.isFn X.K (.ref f) = true) (hsub : ∀ T ∈ tys, PySem.W.subIn X.K (.type T) (.ref C) = some false) (hb : Binds X.K fd ps []) (hx : Passes CX X E) :
    OpR X (compareOp .Eq) (fun x y H Q => ∃ a dx fs, x = V.ref a ∧ H a = some (.ins C dx fs) ∧ ((∃ b dy gs, y = V.ref b ∧ H b = some (.ins C dy gs)) ∨ Thing H y) ∧ sp [.ref a, y] H Q E) := by
  intro pins s σ H x y v u Q I rx ry h
  obtain ⟨a, dx, fs, rfl, ha, ty, q⟩ := h
  cases rx
  obtain ⟨mA, J, _⟩ := ins_get I.hok ha
  obtain ⟨od, J, _⟩ := J.look
  obtain ⟨m, hF⟩ := I.fr
  have un : X.A.units < cLine := by
    have := hr.units
    omega
  show wpAny (model X.prog X.w) X.A (richCompare .Eq (.ref a) u) (EP X pins σ Q) X.xe s
  have call := back_of (run_fn F hr hb .nil hx I (.cons (show L2.RelV (V.ref a) (Value.ref a) from rfl) (.cons ry .nil)) q)
  rcases ty with ⟨b, dy, gs, rfl, hb'⟩ | ty
  · cases ry
    obtain ⟨mB, J', _⟩ := ins_get I.hok hb'
    obtain ⟨od', J', _⟩ := J'.look
    exact PySem.W.cmp_K (op := .Eq) (tb := .ref C) un hF I.ok.mod.kin J J'.type (by simp [PySem.W.notFirst]) hs hf call
  · obtain ⟨T, hT, lk, _⟩ := thing_ty I ty ry
    exact PySem.W.cmp_K (op := .Eq) (tb := .type T) un hF I.ok.mod.kin J lk (by unfold PySem.W.notFirst; rw [hsub T hT]; simp) hs hf call
/-- abs(own) -/
theorem call_absOwn (F : FnOk X.prog X.w X.K X.mg X.base CX n f fd ps sp) (hr : Room (n + 1) X.A) (hs : PySem.W.findIn X.K (.ref C) "__abs__" = some (some (.ref f))) (hf : PySem.W.isFn X.K (.ref f) = true) (hb : Binds X.K fd ps []) (hx : Passes CX X E) :
    CallR X (.builtin "abs") (fun xs H Q => ∃ a dx fs, xs = [V.ref a] ∧ H a = some (.ins C dx fs) ∧ sp [.ref a] H Q E) := by
  intro pins s σ H xs us Q I rs h
  obtain ⟨a, dx, fs, rfl, ha, q⟩ := h
  obtain ⟨u, rfl, rx⟩ := vals1 rs
  cases rx
  obtain ⟨mA, J, _⟩ := ins_get I.hok ha
  obtain ⟨od, J, _⟩ := J.look
  have A1 : Room n X.A.in1 := hr.in1
  refine PySem.Calls.call_function_entry kind_abs plain_abs entry_abs (args_abs _) ?_
  unfold Builtin.«abs»
  refine wpAny_bind (m := oneArg "abs" _) (wpAny_pure ?_)
  refine wpAny_bind (m := callSpecial? (.ref a) (Str.ofString "__abs__")) (PySem.W.special_fn I.kIn J hs (beq_iff_eq.mp hf) ?_)
  have e0 : Env0 X.prog X.w X.K X.mg X.base X.A.in1 X.stack s H := by
    have e := I.env0
    exact ⟨e.frames, e.mod, e.bs, e.bsz, e.funs, e.frf, e.hok, e.bare⟩
  have r1 : Vals [V.ref a] [Value.ref a] := .cons (show L2.RelV (V.ref a) (Value.ref a) from rfl) .nil
  have hl := F.len _ _ _ _ q
  refine wpAny_call (codeAny_mono (F.run X.A.in1 X.stack s H ⟨[.ref a], []⟩ [.ref a] [.ref a] Q E A1 e0 (by
    have z := hb s [.ref a] I.kIn (by simpa using hl)
    simpa using z) r1 q) fun r s' hq => ?_)
  cases r with
  | error e => exact hx pins σ H s e s' I hq
  | ok fl =>
    cases fl with
    | ret w => exact wpAny_pure ⟨_, rfl, I.after hq⟩
    | next => exact False.elim hq
    | brk => exact False.elim hq
    | cont => exact False.elim hq
end
end Own

/-! own layer, of no law: OWN7: != of an own class that has == alone. -/
namespace Own
open PySem PySem.Spec PySem.Calls PyProof.Rows
section
variable {prog : Program} {w : World} {A : Around} {E : Value → Shared → Prop} {s : Shared} {K : PySem.W.Frag} {x C f : Addr} {ox : Obj} {od : Option Obj}
open PySem.W in
theorem ne_body {b : Value} {Q : Fin → Shared → Prop} (un : A.units < cLine) (KX : K.In s.heap) (J : InstAt s.heap x ox C od) (eq : findIn K (.ref C) "__eq__" = some (some (.ref f))) (fn : isFn K (.ref f) = true)
    (go : wpAny (model prog w) A (call (.ref f) [.ref x, b]) (fun v s' => ∃ c, v = .bool c ∧ Q (.done (.ret (.bool (!c)))) s') E s) : wpAny (model prog w) A (Builtin.«object.__ne__» ⟨[.ref x, b], []⟩) Q E s := by
  unfold Builtin.«object.__ne__»
  refine wpAny_bind (m := slotArgs "__ne__" 1 _) (wpAny_pure ?_)
  dsimp only
  refine wpAny_bind (wpAny_cRoomFor un ?_)
  refine wpAny_bind (m := callSpecialIfBound? (.ref x) (Str.ofString "__eq__") [b]) (ifBound_K KX J eq fn (wpAny_mono go (fun v s' z => ?_) fun _ _ e => e))
  obtain ⟨c, rfl, q⟩ := z
  exact wpAny_bind (wpAny_truthy_bool (wpAny_pure q))
theorem ne_args (a b : Value) : argsOk "object.__ne__" ⟨[a, b], []⟩ := F.cmpArgs_ne a b
theorem ne_bind (self : Value) : bindSpecial (.builtin "object.__ne__") self = pure (.builtin "object.__ne__", [self]) :=
  (Slot.of (T := "object") (name := "__ne__") (owner := "object") (n := "__ne__") (by rw [typeLookup_type, builtinLookup_eq_fast]; kernel_rfl) (by decide +kernel) (by decide +kernel) (by decide +kernel) (.inl (by decide +kernel)) (by rw [isSubtype_type]; kernel_rfl)).bind self
open PySem.W in
theorem ne_try {b : Value} {Q : Option Value → Shared → Prop} (un : A.units + 1 < cLine) (KX : K.In s.heap) (J : InstAt s.heap x ox C od) (ne : findIn K (.ref C) "__ne__" = some (some (.builtin "object.__ne__"))) (obj : subIn K (.ref C) (.type "object") = some true) (eq : findIn K (.ref C) "__eq__" = some (some (.ref f))) (fn : isFn K (.ref f) = true)
    (go : wpAny (model prog w) A.in1 (call (.ref f) [.ref x, b]) (fun v s' => ∃ c, v = .bool c ∧ Q (some (.bool (!c))) s') E s) : wpAny (model prog w) A (tryCompare (.ref x) "__ne__" b) Q E s := by
  have isO : Looks (model prog w) s.heap (isInstance (.ref x) (.type "object")) true := J.type.andThen (looks_subIn KX obj)
  have run : wpAny (model prog w) A (call (.builtin "object.__ne__") [.ref x, b]) (fun v s' => ∃ c : Bool, v = .bool c ∧ Q (some (.bool c)) s') E s := by
    refine wpAny_call (codeAny_call_builtin (by decide +kernel) F.cmpEntry_ne (check_slot F.cmpKind_ne F.cmpSplit_ne isO (ne_args _ _) (ne_body (A := A.in1) (by exact un) KX J eq fn (wpAny_mono go (fun v s' z => ?_) fun _ _ e => e))))
    obtain ⟨c, rfl, q⟩ := z
    exact ⟨c, rfl, ⟨!c, rfl, q⟩⟩
  have fin : wpAny (model prog w) A (call (.builtin "object.__ne__") ([.ref x] ++ [b]) >>= fun v => pure (some v)) (fun r s' => ∃ c : Bool, r = some (.bool c) ∧ Q (some (.bool c)) s') E s := wpAny_bind (wpAny_mono run (fun v s' z => by
    obtain ⟨c, rfl, q⟩ := z
    exact wpAny_pure ⟨c, rfl, q⟩) fun _ _ e => e)
  have whole : wpAny (model prog w) A (callSpecialIfBound? (.ref x) "__ne__" [b]) (fun r s' => ∃ c : Bool, r = some (.bool c) ∧ Q (some (.bool c)) s') E s := by
    simp only [callSpecialIfBound?, bindSpecialIfBound?]
    refine wpAny_holding (wpAny_bind (wpAny_bind (wpAny_bind (J.type.here ((looks_findIn KX ne).here ?_)))))
    refine wpAny_bind (wpAny_askSetting (wpAny_ite ?_))
    split
    · rw [ne_bind]
      exact wpAny_bind (wpAny_pure (wpAny_pure fin))
    · rw [ne_bind]
      exact wpAny_tryCatch (wpAny_bind (wpAny_pure (wpAny_pure fin)))
  unfold tryCompare
  refine wpAny_bind (wpAny_mono whole (fun r s' z => ?_) fun _ _ e => e)
  obtain ⟨c, rfl, q⟩ := z
  exact wpAny_pure q
open PySem.W in
/-- own != b -/
theorem own_ne {b tb : Value} {Q : Value → Shared → Prop} (un : A.units + 1 < cLine) (KX : K.In s.heap) (J : InstAt s.heap x ox C od) (lk : Looks (model prog w) s.heap (typeOf b) tb) (nf : notFirst K C tb = true) (ne : findIn K (.ref C) "__ne__" = some (some (.builtin "object.__ne__"))) (obj : subIn K (.ref C) (.type "object") = some true)
    (eq : findIn K (.ref C) "__eq__" = some (some (.ref f))) (fn : isFn K (.ref f) = true) (go : wpAny (model prog w) A.in1 (call (.ref f) [.ref x, b]) (fun v s' => ∃ c, v = .bool c ∧ Q (.bool (!c)) s') E s) : wpAny (model prog w) A (richCompare .NotEq (.ref x) b) Q E s := by
  have one : wpAny (model prog w) A (tryCompare (.ref x) "__ne__" b) (fun r s' => ∃ v, r = some v ∧ Q v s') E s := ne_try un KX J ne obj eq fn (wpAny_mono go (fun v s' z => by
    obtain ⟨c, rfl, q⟩ := z
    exact ⟨c, rfl, _, rfl, q⟩) fun _ _ e => e)
  unfold richCompare
  simp only [oneThing_ref]
  refine wpAny_holding (wpAny_bind (wpAny_cRoomFor (Nat.lt_of_succ_lt un) ?_))
  refine wpAny_bind (J.type.here (wpAny_bind (lk.here ?_)))
  split
  · rename_i hd
    have sb : subIn K tb (.ref C) = some false := by
      unfold notFirst at nf
      rcases Bool.or_eq_true_iff.mp nf with z | z
      · rw [beq_iff_eq.mp z] at hd
        simp at hd
      · exact beq_iff_eq.mp z
    refine wpAny_bind ((looks_subIn KX sb).here ?_)
    rw [if_neg Bool.false_ne_true]
    refine wpAny_bind (wpAny_mono one (fun r s' z => ?_) fun _ _ z => z)
    obtain ⟨v, rfl, hv⟩ := z
    exact wpAny_pure hv
  · refine wpAny_bind (wpAny_pure ?_)
    rw [if_neg Bool.false_ne_true]
    refine wpAny_bind (wpAny_mono one (fun r s' z => ?_) fun _ _ z => z)
    obtain ⟨v, rfl, hv⟩ := z
    exact wpAny_pure hv
end
end Own

/-! own layer, of no law: OWN8: the rule of !=. -/
namespace Own
open PySem PySem.Spec PyProof.Rows L2 LamX NdefX
section
variable {X : Cx} {pins : List (Addr × Obj)} {σ : L2.St} {H : Hp} {s : Shared}
variable {CX : CXT} {n : Nat} {C f : Addr} {fd : FuncData} {ps : List Str} {sp : Sp} {E : XK}
/-- a def's run one call deeper -/
theorem run_in1 {us : List Value} {vs : List V} {Q : VK} {R : Value → Shared → Prop} (F : FnOk X.prog X.w X.K X.mg X.base CX n f fd ps sp) (hr : Room (n + 1) X.A) (hb : Binds X.K fd ps []) (hx : Passes CX X E) (I : Inv X pins σ H s) (r : Vals vs us) (q : sp vs H Q E)
    (k : ∀ v s', EP X pins σ Q v s' → R v s') : wpAny (model X.prog X.w) X.A.in1 (call (.ref f) us) R X.xe s := by
  have e0 : Env0 X.prog X.w X.K X.mg X.base X.A.in1 X.stack s H := by
    have e := I.env0
    exact ⟨e.frames, e.mod, e.bs, e.bsz, e.funs, e.frf, e.hok, e.bare⟩
  have hl := F.len _ _ _ _ q
  have bt : BindsTo s fd ⟨us, []⟩ (ps.zip us) := by
    have z := hb s us I.kIn (by rw [List.append_nil, ← r.length]; exact hl)
    rw [List.append_nil] at z
    exact z
  refine wpAny_call (codeAny_mono (F.run X.A.in1 X.stack s H ⟨us, []⟩ us vs Q E hr.in1 e0 bt r q) fun r s' hq => ?_)
  cases r with
  | error e => exact hx pins σ H s e s' I hq
  | ok fl =>
    cases fl with
    | ret w => exact k _ _ (I.after hq)
    | next => exact False.elim hq
    | brk => exact False.elim hq
    | cont => exact False.elim hq
/-- own != anything -/
theorem op_ownNe (F : FnOk X.prog X.w X.K X.mg X.base CX n f fd ps sp) (hr : Room (n + 1) X.A) (ne : PySem.W.findIn X.K (.ref C) "__ne__" = some (some (.builtin "object.__ne__"))) (obj : PySem.W.subIn X.K (.ref C) (.type "object") = some true) (hs : PySem.W.findIn X.K (.ref C) "__eq__" = some (some (.ref f))) (hf : PySem.W.isFn X.K (.ref f) = true)
    (hsub : ∀ T ∈ tys, PySem.W.subIn X.K (.type T) (.ref C) = some false) (hb : Binds X.K fd ps []) (hx : Passes CX X E) :
    OpR X (compareOp .NotEq) (fun x y H Q => ∃ a dx fs, x = V.ref a ∧ H a = some (.ins C dx fs) ∧ ((∃ b dy gs, y = V.ref b ∧ H b = some (.ins C dy gs)) ∨ Thing H y) ∧ sp [.ref a, y] H (fun v H' => ∃ c, v = .bl c ∧ Q (.bl (!c)) H') E) := by
  intro pins s σ H x y v u Q I rx ry h
  obtain ⟨a, dx, fs, rfl, ha, ty, q⟩ := h
  cases rx
  obtain ⟨mA, J, _⟩ := ins_get I.hok ha
  obtain ⟨od, J, _⟩ := J.look
  have un : X.A.units + 1 < cLine := by
    have := hr.un
    omega
  show wpAny (model X.prog X.w) X.A (richCompare .NotEq (.ref a) u) (EP X pins σ Q) X.xe s
  have go : wpAny (model X.prog X.w) X.A.in1 (call (.ref f) [.ref a, u]) (fun v s' => ∃ c, v = .bool c ∧ EP X pins σ Q (.bool (!c)) s') X.xe s := run_in1 F hr hb hx I (.cons (show L2.RelV (V.ref a) (Value.ref a) from rfl) (.cons ry .nil)) q fun v s' z => by
    obtain ⟨z, H', I', rz, c, rfl, q'⟩ := z
    obtain rfl : v = .bool c := rz
    exact ⟨c, rfl, .bl (!c), H', I', rfl, q'⟩
  rcases ty with ⟨b, dy, gs, rfl, hb'⟩ | ty
  · cases ry
    obtain ⟨mB, J', _⟩ := ins_get I.hok hb'
    obtain ⟨od', J', _⟩ := J'.look
    exact own_ne un I.kIn J J'.type (by simp [PySem.W.notFirst]) ne obj hs hf go
  · obtain ⟨T, hT, lk, _⟩ := thing_ty I ty ry
    exact own_ne un I.kIn J lk (by unfold PySem.W.notFirst; rw [hsub T hT]; simp) ne obj hs hf go
end
end Own

/-! own layer, of no law: OWN9: an attribute as one of several targets. -/
namespace Own
open PySem PySem.Spec PyProof.Rows L2 LamX NdefX
section
variable {X : Cx} {o : Expr} {ta : TE} {f : Str} {pos : Pos}
def gFld (K : PySem.W.Frag) (ta : TE) (f : Str) : TG := fun y σ H Q => ta σ H fun x H2 => ∃ a C dx fs, x = V.ref a ∧ H2 a = some (.ins C dx fs) ∧ Cls K C ∧ NoAttr K C f ∧ fs.length < 1000 ∧ Q σ (upd H2 a (.ins C dx (putF f y fs)))
theorem pg_fld (ha : PE X o ta) : PG X (.Attribute o f pos) (gFld X.K ta f) := by
  refine ⟨fun pins s σ H v u Q I r h => ?_⟩
  have e : assign (.Attribute o f pos) X.env u = (do
      let ov ← holding [u] (eval o X.env)
      standAt pos.atName
      holding [u, ov] (setAttr ov f u)
      PySem.release [u, ov] []) := rfl
  rw [e]
  refine wpAny_bind (wpAny_holding (thn (ha.run pins s σ H _ I h) fun ov s1 z => ?_))
  obtain ⟨x, H1, I1, rx, a, C, dx, fs, rfl, ea, c, n, l, q⟩ := z
  obtain rfl : ov = Value.ref a := rx
  refine wpAny_bind (wpAny_standAt (wpAny_bind (wpAny_holding (setattr_ok I1 ea c n l r fun s3 I3 => ?_))))
  exact wpAny_release ⟨σ, _, I3, q⟩
end
end Own

/-! own layer, of no law: OWNW: the nine ways, their mathematics. -/
namespace Own
open PySem PySem.Spec PyProof.Rows L2 LamX NdefX
def waysL : List Str := ["floor", "ceiling", "cut", "away", "halfup", "halfdown", "halfeven", "halfaway", "halfcut"]
def mirrL : List (Str × Str) := [("floor", "ceiling"), ("ceiling", "floor"), ("halfup", "halfdown"), ("halfdown", "halfup")]
def halvL : List (Str × Str) := [("halfup", "ceiling"), ("halfdown", "floor"), ("halfeven", "even"), ("halfaway", "away"), ("halfcut", "cut")]
def baseUp (w : Str) (b : Int) : Bool := if w = "even" then decide (b % 2 = 1) else if w = "cut" then decide (b < 0) else if w = "away" then decide (0 ≤ b) else decide (w = "ceiling")
def goesUp (w : Str) (b p : Int) : Bool := match halvL.lookup w with
  | some h => if p = 0 then baseUp h b else decide (0 < p)
  | none => baseUp w b
def near (n d : Int) (w : Str) : Int := if n % d = 0 then n / d else if goesUp w (n / d) (2 * (n % d) - d) = true then n / d + 1 else n / d
def mirr (w : Str) : Str := (mirrL.lookup w).getD w
theorem dec_int (a b : Int) : decide (V.int a = V.int b) = decide (a = b) := by simp
theorem dec_str (a b : Str) : decide (V.str a = V.str b) = decide (a = b) := by simp
/-- what the walk asks of the top: the names of built-ins are free; the tables -/
structure Txt (P : Program) (w : World) (K : PySem.W.Frag) (mg : Str → Option Value) (base : Heap) (C aW aM aH : Addr) (eM : Array DictEntry) (nM : Nat) (eH : Array DictEntry) (nH : Nat) : Prop where
  isi : mg "isinstance" = none
  int : mg "int" = none
  bool : mg "bool" = none
  len : mg "len" = none
  list : mg "list" = none
  range : mg "range" = none
  tuple : mg "tuple" = none
  all : mg "all" = none
  dm : mg "divmod" = none
  err : ErrC P w K mg base "BadValue" "value" 1 C (spErr C "value")
  gW : mg "WAYS" = some (.ref aW)
  ways : ∀ H : Hp, SqT K H aW (waysL.map V.str)
  gM : mg "MIRRORS" = some (.ref aM)
  dM : KDict K w aM eM nM
  mirr : ∀ z ∈ waysL, KGet K aM z ((mirrL.lookup z).map V.str)
  gH : mg "HALVES" = some (.ref aH)
  dH : KDict K w aH eH nH
  halv : ∀ z ∈ waysL, KGet K aH z ((halvL.lookup z).map V.str)
def isWay : V → Bool
  | .str z => decide (z ∈ waysL)
  | _ => false
theorem isWay_str {x : V} (h : isWay x = true) : ∃ z ∈ waysL, x = .str z := by
  cases x with
  | str z => exact ⟨z, by simpa [isWay] using h, rfl⟩
  | _ => simp [isWay] at h
theorem way_cases {z : Str} (h : z ∈ waysL) : z = "floor" ∨ z = "ceiling" ∨ z = "cut" ∨ z = "away" ∨ z = "halfup" ∨ z = "halfdown" ∨ z = "halfeven" ∨ z = "halfaway" ∨ z = "halfcut" := by
  simpa [waysL] using h
def baseK (z : Str) : Nat := if z = "even" then 0 else if z = "cut" then 1 else if z = "away" then 2 else if z = "ceiling" then 3 else 4
def kUp : Nat → Int → Bool
  | 0, b => decide (b % 2 = 1)
  | 1, b => decide (b < 0)
  | 2, b => decide (0 ≤ b)
  | 3, _ => true
  | _, _ => false
theorem base_k (z : Str) (b : Int) : baseUp z b = kUp (baseK z) b := by
  unfold baseUp baseK
  by_cases h1 : z = "even"
  · rw [if_pos h1, if_pos h1]
    rfl
  rw [if_neg h1, if_neg h1]
  by_cases h2 : z = "cut"
  · rw [if_pos h2, if_pos h2]
    rfl
  rw [if_neg h2, if_neg h2]
  by_cases h3 : z = "away"
  · rw [if_pos h3, if_pos h3]
    rfl
  rw [if_neg h3, if_neg h3]
  by_cases h4 : z = "ceiling"
  · rw [if_pos h4, decide_eq_true h4]
    rfl
  · rw [if_neg h4, decide_eq_false h4]
    rfl
theorem goes_none {z : Str} {k : Nat} (h : halvL.lookup z = none) (hk : baseK z = k) (b p : Int) : goesUp z b p = kUp k b := by
  unfold goesUp
  rw [h, ← hk]
  exact base_k z b
theorem goes_some {z y : Str} {k : Nat} (h : halvL.lookup z = some y) (hk : baseK y = k) (b p : Int) : goesUp z b p = if p = 0 then kUp k b else decide (0 < p) := by
  unfold goesUp
  rw [h, ← hk, ← base_k]
theorem mirr_of {z y : Str} (h : (mirrL.lookup z).getD z = y) : mirr z = y := h
theorem goes_mirr {z : Str} (hz : z ∈ waysL) (b p : Int) : goesUp (mirr z) (-b - 1) (-p) = !goesUp z b p := by
  rcases way_cases hz with rfl | rfl | rfl | rfl | rfl | rfl | rfl | rfl | rfl
  · rw [mirr_of (y := "ceiling") (by decide +kernel), goes_none (k := 3) (by decide +kernel) (by decide +kernel), goes_none (k := 4) (by decide +kernel) (by decide +kernel)]
    rfl
  · rw [mirr_of (y := "floor") (by decide +kernel), goes_none (k := 4) (by decide +kernel) (by decide +kernel), goes_none (k := 3) (by decide +kernel) (by decide +kernel)]
    rfl
  · rw [mirr_of (y := "cut") (by decide +kernel), goes_none (k := 1) (by decide +kernel) (by decide +kernel), goes_none (k := 1) (by decide +kernel) (by decide +kernel)]
    show decide (-b - 1 < 0) = !decide (b < 0)
    by_cases h : b < 0
    · rw [decide_eq_true h, decide_eq_false (by omega)]; rfl
    · rw [decide_eq_false h, decide_eq_true (by omega)]; rfl
  · rw [mirr_of (y := "away") (by decide +kernel), goes_none (k := 2) (by decide +kernel) (by decide +kernel), goes_none (k := 2) (by decide +kernel) (by decide +kernel)]
    show decide (0 ≤ -b - 1) = !decide (0 ≤ b)
    by_cases h : 0 ≤ b
    · rw [decide_eq_true h, decide_eq_false (by omega)]; rfl
    · rw [decide_eq_false h, decide_eq_true (by omega)]; rfl
  · rw [mirr_of (y := "halfdown") (by decide +kernel), goes_some (k := 4) (y := "floor") (by decide +kernel) (by decide +kernel), goes_some (k := 3) (y := "ceiling") (by decide +kernel) (by decide +kernel)]
    by_cases h : p = 0
    · rw [if_pos h, if_pos (by omega)]; rfl
    · rw [if_neg h, if_neg (by omega)]
      by_cases h : 0 < p
      · rw [decide_eq_true h, decide_eq_false (by omega)]; rfl
      · rw [decide_eq_false h, decide_eq_true (by omega)]; rfl
  · rw [mirr_of (y := "halfup") (by decide +kernel), goes_some (k := 3) (y := "ceiling") (by decide +kernel) (by decide +kernel), goes_some (k := 4) (y := "floor") (by decide +kernel) (by decide +kernel)]
    by_cases h : p = 0
    · rw [if_pos h, if_pos (by omega)]; rfl
    · rw [if_neg h, if_neg (by omega)]
      by_cases h : 0 < p
      · rw [decide_eq_true h, decide_eq_false (by omega)]; rfl
      · rw [decide_eq_false h, decide_eq_true (by omega)]; rfl
  · rw [mirr_of (y := "halfeven") (by decide +kernel), goes_some (k := 0) (y := "even") (by decide +kernel) (by decide +kernel), goes_some (k := 0) (y := "even") (by decide +kernel) (by decide +kernel)]
    by_cases h : p = 0
    · rw [if_pos h, if_pos (by omega)]
      show decide ((-b - 1) % 2 = 1) = !decide (b % 2 = 1)
      by_cases h : b % 2 = 1
      · rw [decide_eq_true h, decide_eq_false (by omega)]; rfl
      · rw [decide_eq_false h, decide_eq_true (by omega)]; rfl
    · rw [if_neg h, if_neg (by omega)]
      by_cases h : 0 < p
      · rw [decide_eq_true h, decide_eq_false (by omega)]; rfl
      · rw [decide_eq_false h, decide_eq_true (by omega)]; rfl
  · rw [mirr_of (y := "halfaway") (by decide +kernel), goes_some (k := 2) (y := "away") (by decide +kernel) (by decide +kernel), goes_some (k := 2) (y := "away") (by decide +kernel) (by decide +kernel)]
    by_cases h : p = 0
    · rw [if_pos h, if_pos (by omega)]
      show decide (0 ≤ -b - 1) = !decide (0 ≤ b)
      by_cases h : 0 ≤ b
      · rw [decide_eq_true h, decide_eq_false (by omega)]; rfl
      · rw [decide_eq_false h, decide_eq_true (by omega)]; rfl
    · rw [if_neg h, if_neg (by omega)]
      by_cases h : 0 < p
      · rw [decide_eq_true h, decide_eq_false (by omega)]; rfl
      · rw [decide_eq_false h, decide_eq_true (by omega)]; rfl
  · rw [mirr_of (y := "halfcut") (by decide +kernel), goes_some (k := 1) (y := "cut") (by decide +kernel) (by decide +kernel), goes_some (k := 1) (y := "cut") (by decide +kernel) (by decide +kernel)]
    by_cases h : p = 0
    · rw [if_pos h, if_pos (by omega)]
      show decide (-b - 1 < 0) = !decide (b < 0)
      by_cases h : b < 0
      · rw [decide_eq_true h, decide_eq_false (by omega)]; rfl
      · rw [decide_eq_false h, decide_eq_true (by omega)]; rfl
    · rw [if_neg h, if_neg (by omega)]
      by_cases h : 0 < p
      · rw [decide_eq_true h, decide_eq_false (by omega)]; rfl
      · rw [decide_eq_false h, decide_eq_true (by omega)]; rfl
theorem mirr_mem {z : Str} (hz : z ∈ waysL) : mirr z ∈ waysL := by
  rcases way_cases hz with rfl | rfl | rfl | rfl | rfl | rfl | rfl | rfl | rfl <;> decide +kernel
theorem near_mirr {n d : Int} {z : Str} (h0 : 0 < d) (hz : z ∈ waysL) : near (-n) d (mirr z) = -near n d z := by
  have r0 := Int.emod_nonneg n (show d ≠ 0 by omega)
  have r1 := Int.emod_lt_of_pos n h0
  have em := Int.emod_add_mul_ediv n d
  unfold near
  by_cases h : n % d = 0
  · have e1 : (-n) % d = 0 := Int.emod_eq_zero_of_dvd ((Int.dvd_neg).mpr (Int.dvd_of_emod_eq_zero h))
    rw [if_pos h, if_pos e1, Int.neg_ediv_of_dvd (Int.dvd_of_emod_eq_zero h)]
  · have e3 : -n = (d - n % d) + d * (-(n / d) - 1) := by
      rw [Int.mul_sub, Int.mul_neg]
      omega
    have e1 : (-n) % d = d - n % d := by
      rw [e3, Int.add_mul_emod_self_left, Int.emod_eq_of_lt (by omega) (by omega)]
    have e2 : (-n) / d = -(n / d) - 1 := by
      rw [e3, Int.add_mul_ediv_left _ _ (by omega), Int.ediv_eq_zero_of_lt (by omega) (by omega)]
      omega
    rw [if_neg h, e1, e2, if_neg (by omega)]
    have e4 : 2 * (d - n % d) - d = -(2 * (n % d) - d) := by omega
    rw [e4, goes_mirr hz]
    cases goesUp z (n / d) (2 * (n % d) - d)
    · show (if true = true then -(n / d) - 1 + 1 else _) = -(if false = true then _ else n / d)
      rw [if_pos rfl, if_neg (by decide)]
      omega
    · show (if false = true then _ else -(n / d) - 1) = -(if true = true then n / d + 1 else _)
      rw [if_pos rfl, if_neg (by decide)]
      omega
end Own

/-! own layer, of no law: OWNE: an error class whose __init__ keeps nothing. -/
namespace Own
open PySem PySem.Spec PyProof.Rows L2 LamX NdefX
section
variable {X : Cx}
theorem del_new {H : Hp} {a : Addr} {o : HO} (h : H a = none) : del (upd H a o) a = H := by
  funext b
  by_cases e : b = a
  · rw [e, del_same, h]
  · rw [del_ne e, upd_ne e]
theorem mk_endN {pins : List (Addr × Obj)} {σ : L2.St} {H1 H2 : Hp} {Q : XK} {hp hp2 h2 : Heap} {g1 g2 : Array GenState} {d1 d2 : Drawn} {t1 t2 : Nat} {os1 os2 : OsState} {a C : Addr} (T : Raises X (.ref C)) (I1 : Inv X pins σ H1 ⟨hp, g1, d1, t1, os1⟩)
    (ha : hp.objs.size ≤ a) (k : ∀ b o, hp.get? b = some o → hp2.get? b = some o) (un : Un (frs X.stack) [] (upd H1 a (exo a C none)) H2 hp2 h2) (hok : HOk X.prog X.w H2 h2) (ho : os2 = os1) (hb : AllBare g2)
    (ea : H2 a = some (exo a C none)) (q : Q (.ref C) none (del H2 a)) : MkP X pins σ Q (.ref a) ⟨h2, g2, d2, t2, os2⟩ := by
  obtain ⟨t0, hoe⟩ := exo_at hok ea
  have hn : H1 a = none := I1.hok.fresh ha
  obtain ⟨G, g1', g2'⟩ := restrict h2 fun b => decide (b ≠ a)
  have gk : ∀ b, b ≠ a → G.get? b = h2.get? b := fun b hb => g1' b (decide_eq_true hb)
  have ge : G.get? a = none := g2' a (by simp)
  have nha : ∀ {b : Addr} {o : Obj}, hp.get? b = some o → b ≠ a := fun {b o} z => Nat.ne_of_lt (Nat.lt_of_lt_of_le (Heap.lt_size z) ha)
  have up : ∀ {b : Addr}, b ≠ a → H1 b = none → upd H1 a (exo a C none) b = none := fun {b} hb n => by rw [upd_ne hb]; exact n
  have U : Un (frs X.stack) [] H1 (del H2 a) hp G := {
    keep := fun b o z n hf hx => by
      rw [gk b (nha z)]
      exact un.keep b o (k b o z) (up (nha z) n) hf hx
    slot := fun b o z n hf hx => by
      rw [gk b (nha z)]
      exact un.slot b o (k b o z) (up (nha z) n) hf hx
    free := fun b o z n hx => by
      rw [del_ne (nha z)]
      exact un.free b o (k b o z) (up (nha z) n) hx
    there := fun b o z hx => by
      rw [gk b (nha z)]
      exact un.there b o (k b o z) hx
    tups := fun b xs z => by
      rw [del_ne (ne_of_none z hn)]
      exact un.tups b xs (by rw [upd_ne (ne_of_none z hn)]; exact z)
    frzs := fun b o v z => by
      rw [del_ne (ne_of_none z hn)]
      exact un.frzs b o v (by rw [upd_ne (ne_of_none z hn)]; exact z)
    tbls := fun b ps z => by
      rw [del_ne (ne_of_none z hn)]
      exact un.tbls b ps (by rw [upd_ne (ne_of_none z hn)]; exact z) }
  have hok3 : HOk X.prog X.w (del H2 a) G := fun b o z => by
    have hba : b ≠ a := fun e => by
      rw [e, del_same] at z
      cases z
    rw [del_ne hba] at z
    have noa : ∀ {c : Addr}, H2 c = some (.own b) → c ≠ a := fun {c} hc => at_ne ea hc exo_own
    exact (hok b o z).stay (fun c v hc y => by
        have hca : c ≠ a := by
          rcases hc with hc | hc
          · rw [hc]
            exact hba
          · exact noa hc
        rw [gk c hca]
        exact y)
      (fun c hc => by rw [del_ne (noa hc)]; exact hc) (fun c xs hc => by rw [del_ne (at_ne ea hc exo_tup)]; exact hc)
  have J : Inv X pins σ (del H2 a) ⟨G, g2, d2, t2, os2⟩ := I1.call' (ch := []) ho U hok3 hb (fun b z => absurd z (by simp))
  refine ⟨a, _, _, ⟨G, g2, d2, t2, os2⟩, _, .ref C, none, rfl, J, fun b o z => ?_, ge, hoe, ⟨rfl, rfl⟩, rfl, rfl, del_same, rfl, hb, T, q⟩
  by_cases hba : b = a
  · rw [hba, ge] at z
    cases z
  · exact (gk b hba).symm.trans z
/-- C(), an own error class whose __init__ takes self alone and does nothing -/
theorem pmk_oex0 {x : Str} {C fI : Addr} {k : Nat} {fd : FuncData} {sp : Sp} {p pos : Pos} (T : OexC X.K C) (iC : PySem.W.findIn X.K (.ref C) "__init__" = some (some (.ref fI))) (tI : PySem.W.typeIn X.K (.ref fI) = some (.type "function"))
    (F1 : FnOk X.prog X.w X.K X.mg X.base CX0 k fI fd ["self"] sp) (hr : Room (k + 1) X.A) (hb : Binds X.K fd ["self"] []) (hg : Gl X x) (hm : X.mg x = some (.ref C)) (hdb : (x == ("__debug__" : Str)) = false := by decide) :
    PMk X (.Call (.Name x p) [] [] pos) (fun _ H Q => ∀ a, H a = none → sp [.ref a] (upd H a (exo a C none)) (fun v H2 => v = .non ∧ H2 a = some (exo a C none) ∧ Q (.ref C) none (del H2 a)) (fun _ _ _ => False)) := by
  intro pins s σ H Q I h
  obtain ⟨nm, q, N, bs, bm, sn, sub, ab, col, dd, k0, k1, k2, k3, k5, hC, hbm⟩ := T.cls
  refine wpAny_Call_Name_kw (ld_glob I hg hm ?_ hdb)
  refine PySem.W.callWith_K0 I.kIn T.kC ?_
  show wpAny _ _ (call (.ref C) []) _ _ _
  obtain ⟨hp, g, dr, tk, os⟩ := s
  have hsz : hp.objs.size ≤ hp.objs.size + 1 := Nat.le_succ _
  have hq := h (hp.objs.size + 1) (I.hok.fresh hsz)
  have kk : ∀ b o, hp.get? b = some o → ((hp.push (PySem.W.kdv_tup [])).push (PySem.HandSPX.excO C hp.objs.size)).get? b = some o := fun b o e => Heap.get?_push_of_some _ (Heap.get?_push_of_some _ e)
  have hget : ((hp.push (PySem.W.kdv_tup [])).push (PySem.HandSPX.excO C hp.objs.size)).get? (hp.objs.size + 1) = some (PySem.HandSPX.excO C hp.objs.size) := by heap_get
  have I2 : Inv X pins σ (upd H (hp.objs.size + 1) (exo (hp.objs.size + 1) C none)) ⟨(hp.push (PySem.W.kdv_tup [])).push (PySem.HandSPX.excO C hp.objs.size), g, dr, tk, os⟩ :=
    I.laid (t' := tk) (a := hp.objs.size + 1) (o := exo (hp.objs.size + 1) C none) (h' := (hp.push (PySem.W.kdv_tup [])).push (PySem.HandSPX.excO C hp.objs.size)) kk hsz (exo_ok hget)
  have r2 : Vals [V.ref (hp.objs.size + 1)] [Value.ref (hp.objs.size + 1)] := .cons rfl .nil
  refine wpAny_call (PySem.HandSPX.call_own F.excBase_ValueError (fun Y => PySem.HandSPX.refsVE_contains Y bm hbm) (I.kIn _ _ hC) (PySem.W.looks_findIn I.kIn iC) (fun self => PySem.W.bind_fn I.kIn self tI) (by show 0 ≤ sizeLine; exact Nat.zero_le _)
    (codeAny_mono (F1.run _ X.stack _ _ ⟨[Value.ref (hp.objs.size + 1)], []⟩ [Value.ref (hp.objs.size + 1)] _ _ (fun _ _ _ => False) (hr.make C [] []) (I2.env0.make C [] []) (hb _ [Value.ref (hp.objs.size + 1)] I2.kIn rfl) r2 hq) fun r s' hq' => ?_))
  cases r with
  | error er => exact False.elim hq'
  | ok fl =>
    cases fl with
    | ret u =>
      obtain ⟨v, H2, os2, bare2, un2, hok2, rv, ev, ea, q2⟩ := hq'
      subst ev
      obtain ⟨h2, g2, d2, t2, os'⟩ := s'
      exact ⟨rv, mk_endN (raises_own T.exC T.tyC) I hsz kk un2 hok2 os2 bare2 ea q2⟩
    | next => exact False.elim hq'
    | brk => exact False.elim hq'
    | cont => exact False.elim hq'
end
/-- an error class without fields -/
structure ErrN (P : Program) (w : World) (K : PySem.W.Frag) (mg : Str → Option Value) (base : Heap) (x : Str) (C : Addr) : Prop where
  g : mg x = some (.ref C)
  oex : OexC K C
  ini : ∃ (fI : Addr) (fd : FuncData), PySem.W.findIn K (.ref C) "__init__" = some (some (.ref fI)) ∧ PySem.W.typeIn K (.ref fI) = some (.type "function") ∧ FnOk P w K mg base CX0 1 fI fd ["self"] (fun vs H Q _ => ∃ a : Addr, vs = [.ref a] ∧ Q .non H) ∧ Binds K fd ["self"] []
section
variable {X : Cx} {x : Str} {j : Nat} {C : Addr} {p pos : Pos}
theorem pmk_errN (D : ErrN X.prog X.w X.K X.mg X.base x C) (hr : Room j X.A) (hj : 2 ≤ j) (hg : Gl X x) (hdb : (x == ("__debug__" : Str)) = false := by decide) : PMk X (.Call (.Name x p) [] [] pos) (fun _ H Q => Q (.ref C) none H) := by
  obtain ⟨fI, fd, iC, tI, F1, b⟩ := D.ini
  intro pins s σ H Q I h
  exact pmk_oex0 D.oex iC tI F1 (hr.mono hj) b hg D.g hdb pins s σ H Q I fun a na => ⟨a, rfl, rfl, upd_same, by rw [del_new na]; exact h⟩
end
end Own

/-! own layer, of no law: OWNN: rounding as a fraction's. -/
namespace Own
open PySem PySem.Spec PyProof.Rows L2 LamX NdefX
theorem near_lo {n d : Int} (t : Str) : n / d ≤ near n d t := by
  unfold near
  split
  · exact Int.le_refl _
  · split <;> omega
theorem near_hi {n d : Int} (t : Str) : near n d t ≤ n / d + 1 := by
  unfold near
  split
  · omega
  · split <;> omega
theorem near_mul {k d : Int} (h : 0 < d) (t : Str) : near (k * d) d t = k := by
  unfold near
  rw [if_pos (Int.mul_emod_left k d), Int.mul_ediv_cancel _ (by omega)]
theorem goes_up_mono {z : Str} {b p p' : Int} (h : p ≤ p') (g : goesUp z b p = true) : goesUp z b p' = true := by
  unfold goesUp at g ⊢
  cases e : halvL.lookup z with
  | none =>
    rw [e] at g
    exact g
  | some y =>
    rw [e] at g
    dsimp only at g ⊢
    by_cases h1 : p = 0
    · rw [if_pos h1] at g
      by_cases h2 : p' = 0
      · rw [if_pos h2]
        exact g
      · rw [if_neg h2]
        exact decide_eq_true (by omega)
    · rw [if_neg h1] at g
      have h3 : 0 < p := of_decide_eq_true g
      rw [if_neg (by omega)]
      exact decide_eq_true (by omega)
/-- what goesUp asks of p is its sign alone -/
theorem goes_scale {z : Str} {b p c : Int} (hc : 0 < c) : goesUp z b (p * c) = goesUp z b p := by
  unfold goesUp
  cases e : halvL.lookup z with
  | none => rfl
  | some y =>
    dsimp only
    by_cases h : p = 0
    · subst h
      simp
    · have h1 : p * c ≠ 0 := Int.mul_ne_zero h (by omega)
      rw [if_neg h, if_neg h1]
      by_cases h2 : 0 < p
      · rw [decide_eq_true h2, decide_eq_true (Int.mul_pos h2 hc)]
      · have h3 : p * c < 0 := Int.mul_neg_of_neg_of_pos (by omega) hc
        rw [decide_eq_false h2, decide_eq_false (by omega)]
theorem near_scale {n d c : Int} (hd : 0 < d) (hc : 0 < c) (t : Str) : near (n * c) (d * c) t = near n d t := by
  have e1 : n * c / (d * c) = n / d := Int.mul_ediv_mul_of_pos_left n d hc
  have e2 : n * c % (d * c) = n % d * c := by
    rw [Int.emod_def, e1, Int.emod_def, Int.sub_mul]
    congr 1
    simp only [Int.mul_assoc, Int.mul_comm, Int.mul_left_comm]
  unfold near
  rw [e1, e2]
  by_cases h : n % d = 0
  · rw [if_pos h, if_pos (by rw [h, Int.zero_mul])]
  · rw [if_neg h, if_neg (Int.mul_ne_zero h (by omega))]
    have e3 : 2 * (n % d * c) - d * c = (2 * (n % d) - d) * c := by rw [Int.sub_mul, Int.mul_assoc]
    rw [e3, goes_scale hc]
/-- it hangs on the fraction alone -/
theorem near_ratio {n d n' d' : Int} (hd : 0 < d) (hd' : 0 < d') (h : n * d' = n' * d) (t : Str) : near n d t = near n' d' t := by
  rw [← near_scale (n := n) (d := d) hd hd' t, h, Int.mul_comm d d', near_scale hd' hd t]
theorem near_mono0 {n n' d : Int} (hd : 0 < d) (h : n ≤ n') (t : Str) : near n d t ≤ near n' d t := by
  have a : n / d ≤ n' / d := Int.ediv_le_ediv hd h
  by_cases e : n / d = n' / d
  · have r0 := Int.emod_nonneg n (show d ≠ 0 by omega)
    have r1 := Int.emod_lt_of_pos n hd
    have m := Int.emod_add_mul_ediv n d
    have m' := Int.emod_add_mul_ediv n' d
    rw [← e] at m'
    have hr : n % d ≤ n' % d := by omega
    by_cases h0 : n % d = 0
    · have z : near n d t = n / d := by
        unfold near
        rw [if_pos h0]
      rw [z, e]
      exact near_lo t
    · have hx : ¬ n' % d = 0 := by omega
      unfold near
      rw [if_neg h0, if_neg hx, ← e]
      by_cases g : goesUp t (n / d) (2 * (n % d) - d) = true
      · rw [if_pos g, if_pos (goes_up_mono (by omega) g)]
        exact Int.le_refl _
      · rw [if_neg g]
        split <;> omega
  · have z1 := near_hi (n := n) (d := d) t
    have z2 := near_lo (n := n') (d := d) t
    omega
theorem near_mono {n d n' d' : Int} (hd : 0 < d) (hd' : 0 < d') (h : n * d' ≤ n' * d) (t : Str) : near n d t ≤ near n' d' t := by
  rw [← near_scale (n := n) (d := d) hd hd' t, ← near_scale (n := n') (d := d') hd' hd t, Int.mul_comm d' d]
  exact near_mono0 (Int.mul_pos hd hd') h t
theorem near_nat {n d : Int} (hd : 0 < d) (t : Str) : (near n d t).natAbs ≤ n.natAbs + 1 := by
  have a := near_lo (n := n) (d := d) t
  have b := near_hi (n := n) (d := d) t
  have c := Int.natAbs_ediv_le_natAbs n d
  omega
/-- what a rounded number keeps to -/
def absZ (u : Int) : Int := if u < 0 then -u else u
def keepP (off : Int) (nr fr : Bool) : List (Str × V) := [("floor", .bl (decide (off < 0))), ("ceiling", .bl (decide (off > 0))), ("cut", .bl nr), ("away", .bl fr)]
def keepH (off : Int) (nr fr ev : Bool) : List (Str × V) := [("halfup", .bl (decide (off > 0))), ("halfdown", .bl (decide (off < 0))), ("halfeven", .bl ev), ("halfaway", .bl fr), ("halfcut", .bl nr)]
theorem keep_ok {n d : Int} (h0 : 0 < d) (hr : n % d ≠ 0) {z : Str} (hz : z ∈ waysL) : absZ (near n d z * d - n) < d ∧
    (∀ v, (keepP (near n d z * d - n) (decide (absZ (near n d z) * d < absZ n)) (decide (absZ (near n d z) * d > absZ n))).lookup z = some v → v = .bl true) ∧
    ((keepP (near n d z * d - n) (decide (absZ (near n d z) * d < absZ n)) (decide (absZ (near n d z) * d > absZ n))).lookup z = none → (2 * absZ (near n d z * d - n) ≠ d → 2 * absZ (near n d z * d - n) < d) ∧
      (2 * absZ (near n d z * d - n) = d → (keepH (near n d z * d - n) (decide (absZ (near n d z) * d < absZ n)) (decide (absZ (near n d z) * d > absZ n)) (decide (near n d z % 2 = 0))).lookup z = some (.bl true))) := by
  have r0 := Int.emod_nonneg n (show d ≠ 0 by omega)
  have r1 := Int.emod_lt_of_pos n h0
  have em := Int.emod_add_mul_ediv n d
  have eu : near n d z = if goesUp z (n / d) (2 * (n % d) - d) = true then n / d + 1 else n / d := by
    unfold near
    rw [if_neg hr]
  rw [eu]
  generalize n / d = q at em ⊢
  generalize n % d = r at hr r0 r1 em ⊢
  have em2 : q * d = n - r := by rw [Int.mul_comm]; omega
  have e1 : (q + 1) * d = n - r + d := by rw [Int.add_mul, em2, Int.one_mul]
  have e2 : -q * d = r - n := by rw [Int.neg_mul, em2]; omega
  have e3 : -(q + 1) * d = r - n - d := by rw [Int.neg_mul, e1]; omega
  have sg : (0 ≤ q ∧ 0 < n) ∨ (q < 0 ∧ n < 0) := by
    by_cases h : 0 ≤ q
    · have := Int.mul_nonneg h (Int.le_of_lt h0)
      exact .inl ⟨h, by omega⟩
    · have h2 : (q + 1) * d ≤ 0 := by
        have := Int.mul_nonneg (show 0 ≤ -(q + 1) by omega) (Int.le_of_lt h0)
        rw [Int.neg_mul] at this
        omega
      exact .inr ⟨by omega, by omega⟩
  -- the four numbers, up or not
  have up1 : ∀ b : Bool, (if b = true then q + 1 else q) * d - n = if b = true then d - r else -r := fun b => by cases b <;> simp <;> omega
  have up2 : ∀ b : Bool, absZ (if b = true then d - r else -r) = if b = true then d - r else r := fun b => by
    unfold absZ
    cases b <;> simp <;> omega
  have up3 : ∀ b : Bool, decide (absZ (if b = true then q + 1 else q) * d < absZ n) = (if b = true then decide (q < 0) else decide (0 ≤ q)) ∧ decide (absZ (if b = true then q + 1 else q) * d > absZ n) = (if b = true then decide (0 ≤ q) else decide (q < 0)) := fun b => by
    unfold absZ
    rcases sg with ⟨a, c⟩ | ⟨a, c⟩
    · cases b
      · simp only [Bool.false_eq_true, if_false]
        rw [if_neg (by omega), if_neg (by omega), em2, decide_eq_true (show n - r < n by omega), decide_eq_false (show ¬ n - r > n by omega), decide_eq_true a, decide_eq_false (by omega)]
        exact ⟨rfl, rfl⟩
      · simp only [if_true]
        rw [if_neg (by omega), if_neg (by omega), e1, decide_eq_false (show ¬ n - r + d < n by omega), decide_eq_true (show n - r + d > n by omega), decide_eq_true a, decide_eq_false (by omega)]
        exact ⟨rfl, rfl⟩
    · cases b
      · simp only [Bool.false_eq_true, if_false]
        rw [if_pos a, if_pos c, e2, decide_eq_false (show ¬ r - n < -n by omega), decide_eq_true (show r - n > -n by omega), decide_eq_true a, decide_eq_false (by omega)]
        exact ⟨rfl, rfl⟩
      · simp only [if_true]
        have e4 : (if q + 1 < 0 then -(q + 1) else q + 1) * d = r - n - d := by
          split
          · exact e3
          · have : q + 1 = 0 := by omega
            rw [this] at e1 ⊢
            omega
        rw [if_pos c, e4, decide_eq_true (show r - n - d < -n by omega), decide_eq_false (show ¬ r - n - d > -n by omega), decide_eq_true a, decide_eq_false (by omega)]
        exact ⟨rfl, rfl⟩
  generalize hb : goesUp z q (2 * r - d) = b
  rw [up1, (up3 b).1, (up3 b).2, up2]
  clear up1 up2 up3 eu e1 e2 e3 em em2
  refine ⟨by cases b <;> simp <;> omega, ?_⟩
  rcases way_cases hz with rfl | rfl | rfl | rfl | rfl | rfl | rfl | rfl | rfl
  · rw [goes_none (k := 4) (by decide +kernel) (by decide +kernel)] at hb
    subst hb
    refine ⟨fun v e => ?_, fun e => by cases (show some _ = none from e)⟩
    have e' := Option.some.inj e
    rw [← e']
    simp [kUp]
    omega
  · rw [goes_none (k := 3) (by decide +kernel) (by decide +kernel)] at hb
    subst hb
    refine ⟨fun v e => ?_, fun e => by cases (show some _ = none from e)⟩
    have e' := Option.some.inj e
    rw [← e']
    simp [kUp]
    omega
  · rw [goes_none (k := 1) (by decide +kernel) (by decide +kernel)] at hb
    subst hb
    refine ⟨fun v e => ?_, fun e => by cases (show some _ = none from e)⟩
    have e' := Option.some.inj e
    rw [← e']
    rcases sg with ⟨a, c⟩ | ⟨a, c⟩
    all_goals (simp [kUp] <;> omega)
  · rw [goes_none (k := 2) (by decide +kernel) (by decide +kernel)] at hb
    subst hb
    refine ⟨fun v e => ?_, fun e => by cases (show some _ = none from e)⟩
    have e' := Option.some.inj e
    rw [← e']
    rcases sg with ⟨a, c⟩ | ⟨a, c⟩
    all_goals (simp [kUp] <;> omega)
  · rw [goes_some (y := "ceiling") (k := 3) (by decide +kernel) (by decide +kernel)] at hb
    refine ⟨fun v e => (by cases (show none = some v from e)), fun _ => ⟨fun hn => ?_, fun he => ?_⟩⟩
    · by_cases g : 2 * r - d = 0
      · exact absurd (show 2 * (if b = true then d - r else r) = d by cases b <;> simp <;> omega) hn
      · rw [if_neg g] at hb
        subst hb
        by_cases g2 : 0 < 2 * r - d
        · rw [decide_eq_true g2, if_pos rfl]
          omega
        · rw [decide_eq_false g2, if_neg (by decide)]
          omega
    · have g : 2 * r - d = 0 := by cases b <;> simp at he <;> omega
      rw [if_pos g] at hb
      subst hb
      refine congrArg some (congrArg V.bl ?_)
      simp only [kUp]
      rcases sg with ⟨a, c⟩ | ⟨a, c⟩
      all_goals (simp <;> (repeat split) <;> omega)
  · rw [goes_some (y := "floor") (k := 4) (by decide +kernel) (by decide +kernel)] at hb
    refine ⟨fun v e => (by cases (show none = some v from e)), fun _ => ⟨fun hn => ?_, fun he => ?_⟩⟩
    · by_cases g : 2 * r - d = 0
      · exact absurd (show 2 * (if b = true then d - r else r) = d by cases b <;> simp <;> omega) hn
      · rw [if_neg g] at hb
        subst hb
        by_cases g2 : 0 < 2 * r - d
        · rw [decide_eq_true g2, if_pos rfl]
          omega
        · rw [decide_eq_false g2, if_neg (by decide)]
          omega
    · have g : 2 * r - d = 0 := by cases b <;> simp at he <;> omega
      rw [if_pos g] at hb
      subst hb
      refine congrArg some (congrArg V.bl ?_)
      simp only [kUp]
      rcases sg with ⟨a, c⟩ | ⟨a, c⟩
      all_goals (simp <;> (repeat split) <;> omega)
  · rw [goes_some (y := "even") (k := 0) (by decide +kernel) (by decide +kernel)] at hb
    refine ⟨fun v e => (by cases (show none = some v from e)), fun _ => ⟨fun hn => ?_, fun he => ?_⟩⟩
    · by_cases g : 2 * r - d = 0
      · exact absurd (show 2 * (if b = true then d - r else r) = d by cases b <;> simp <;> omega) hn
      · rw [if_neg g] at hb
        subst hb
        by_cases g2 : 0 < 2 * r - d
        · rw [decide_eq_true g2, if_pos rfl]
          omega
        · rw [decide_eq_false g2, if_neg (by decide)]
          omega
    · have g : 2 * r - d = 0 := by cases b <;> simp at he <;> omega
      rw [if_pos g] at hb
      subst hb
      refine congrArg some (congrArg V.bl ?_)
      simp only [kUp]
      rcases sg with ⟨a, c⟩ | ⟨a, c⟩
      all_goals (simp <;> (repeat split) <;> omega)
  · rw [goes_some (y := "away") (k := 2) (by decide +kernel) (by decide +kernel)] at hb
    refine ⟨fun v e => (by cases (show none = some v from e)), fun _ => ⟨fun hn => ?_, fun he => ?_⟩⟩
    · by_cases g : 2 * r - d = 0
      · exact absurd (show 2 * (if b = true then d - r else r) = d by cases b <;> simp <;> omega) hn
      · rw [if_neg g] at hb
        subst hb
        by_cases g2 : 0 < 2 * r - d
        · rw [decide_eq_true g2, if_pos rfl]
          omega
        · rw [decide_eq_false g2, if_neg (by decide)]
          omega
    · have g : 2 * r - d = 0 := by cases b <;> simp at he <;> omega
      rw [if_pos g] at hb
      subst hb
      refine congrArg some (congrArg V.bl ?_)
      simp only [kUp]
      rcases sg with ⟨a, c⟩ | ⟨a, c⟩
      all_goals (simp <;> (repeat split) <;> omega)
  · rw [goes_some (y := "cut") (k := 1) (by decide +kernel) (by decide +kernel)] at hb
    refine ⟨fun v e => (by cases (show none = some v from e)), fun _ => ⟨fun hn => ?_, fun he => ?_⟩⟩
    · by_cases g : 2 * r - d = 0
      · exact absurd (show 2 * (if b = true then d - r else r) = d by cases b <;> simp <;> omega) hn
      · rw [if_neg g] at hb
        subst hb
        by_cases g2 : 0 < 2 * r - d
        · rw [decide_eq_true g2, if_pos rfl]
          omega
        · rw [decide_eq_false g2, if_neg (by decide)]
          omega
    · have g : 2 * r - d = 0 := by cases b <;> simp at he <;> omega
      rw [if_pos g] at hb
      subst hb
      refine congrArg some (congrArg V.bl ?_)
      simp only [kUp]
      rcases sg with ⟨a, c⟩ | ⟨a, c⟩
      all_goals (simp <;> (repeat split) <;> omega)
end Own

/-! own layer, of no law: OWNR: rows of a lambda and the value that it is refused with. -/
namespace Own
open PySem PySem.Spec PyProof.Rows L2 LamX NdefX
/-- what stands stands still, the tables of code and the pen at d apart -/
def KeepT (d : Addr) (H H' : Hp) : Prop := ∀ b o, b ≠ d → H b = some o → (∀ ps, o ≠ .tbl ps) → H' b = some o
/-- objects that neither lists nor tables of code are -/
def Firm (H : Hp) (is : List (Addr × HO)) : Prop := ∀ p ∈ is, H p.1 = some p.2 ∧ (∀ l, p.2 ≠ .lst l) ∧ ∀ ps, p.2 ≠ .tbl ps
theorem Firm.ext {H H' : Hp} {is : List (Addr × HO)} (h : Firm H is) (e : ExtN H H') : Firm H' is := fun p hp => ⟨e _ _ (h p hp).1 (h p hp).2.2, (h p hp).2⟩
theorem Firm.put {H : Hp} {is : List (Addr × HO)} {r : Addr} {l : List V} {o : HO} (h : Firm H is) (hr : H r = some (.lst l)) : Firm (upd H r o) is := fun p hp => ⟨(upd_ne (ne_of (h p hp).1 hr ((h p hp).2.1 l))).trans (h p hp).1, (h p hp).2⟩
def Odds (H : Hp) (vs : List V) : Prop := ∀ x ∈ vs, Odd H x
theorem Odds.ext {H H' : Hp} {vs : List V} (h : Odds H vs) (e : ExtN H H') : Odds H' vs := fun x hx => (h x hx).ext e
theorem Odds.same {H H' : Hp} {vs : List V} (h : Odds H vs) (e : Same H H') : Odds H' vs := fun x hx => (h x hx).same e
theorem Odds.keep {H H' : Hp} {vs : List V} {d : Addr} {B : Int} (h : Odds H vs) (p : Pen H d B) (k : Keep d H H') : Odds H' vs := fun x hx => (h x hx).keep (Pen_odd p (h x hx)) k
theorem Odds.put {H : Hp} {vs : List V} {r : Addr} {o : HO} (h : Odds H vs) (n : ∀ x ∈ vs, x ≠ .ref r) : Odds (upd H r o) vs := fun x hx => (h x hx).put (n x hx)
theorem Odds.cons {H : Hp} {x : V} {vs : List V} (a : Odd H x) (b : Odds H vs) : Odds H (x :: vs) := fun y hy => by
  rcases List.mem_cons.mp hy with rfl | hy
  · exact a
  · exact b y hy
theorem Odds.nil {H : Hp} : Odds H [] := fun y hy => by cases hy
/-- the list of the rows so far, and what else stands: odd values, firm objects -/
structure Rb {ι : Type} (nf : ι → Addr → NF) (bf : ι → Expr) (due : ι → V) (H0 H : Hp) (r : Addr) (k : Nat) (vs : List V) (is : List (Addr × HO)) : Prop where
  ex : ∃ R : List (ι × V × Addr), H r = some (.lst (R.map fun p => .ref p.2.2)) ∧ R.length = k ∧ ∀ p ∈ R, RowAt H (nf p.1) (bf p.1) p.2.1 p.2.2 ∧ p.2.1 = due p.1
  od : Odds H vs
  nr : ∀ x ∈ vs, x ≠ .ref r
  st : Firm H is
  kp : ∀ b o, b ≠ r → H0 b = some o → (∀ ps, o ≠ .tbl ps) → H b = some o
section
variable {ι : Type} {nf : ι → Addr → NF} {bf : ι → Expr} {due : ι → V} {H0 H H1 H' : Hp} {r q : Addr} {k : Nat} {vs : List V} {is : List (Addr × HO)} {v : V} {o : HO}
theorem Rb.ext (h : Rb nf bf due H0 H r k vs is) (e : ExtN H H') : Rb nf bf due H0 H' r k vs is := by
  obtain ⟨R, h1, h2, h3⟩ := h.ex
  exact ⟨⟨R, e _ _ h1 (fun ps z => by cases z), h2, fun p hp => ⟨(h3 p hp).1.ext e, (h3 p hp).2⟩⟩, h.od.ext e, h.nr, h.st.ext e, fun b o n z y => e _ _ (h.kp b o n z y) y⟩
theorem Rb.set {D : Addr} {zs : List V} (h : Rb nf bf due H0 H r k vs is) (hD : H D = some (.lst zs)) (n : D ≠ r) (nx : ∀ x ∈ vs, x ≠ .ref D) (n0 : H0 D = none) : Rb nf bf due H0 (upd H D o) r k vs is := by
  obtain ⟨R, h1, h2, h3⟩ := h.ex
  exact ⟨⟨R, (upd_ne n.symm).trans h1, h2, fun p hp => ⟨(h3 p hp).1.put hD, (h3 p hp).2⟩⟩, h.od.put nx, h.nr, h.st.put hD, fun b o m z y => (upd_ne (ne_of_none z n0)).trans (h.kp b o m z y)⟩
theorem Rb.now (h : Rb nf bf due H0 H r k vs is) : Rb nf bf due H H r k vs is := ⟨h.ex, h.od, h.nr, h.st, fun b o _ e _ => e⟩
theorem Rb.lst (h : Rb nf bf due H0 H r k vs is) : ∃ ys, H r = some (.lst ys) ∧ ys.length = k := by
  obtain ⟨R, h1, h2, h3⟩ := h.ex
  exact ⟨_, h1, by rw [List.length_map]; exact h2⟩
theorem Rb.add {i : ι} {f c' : Addr} (h : Rb nf bf due H0 H r k vs is) (hv : v = due i) (e : ExtN H H1) (a : LamAt H1 f (nf i c') (bf i)) (c : H1 (nf i c').c = some (CodeO (nf i c').c (nf i c').qual)) (nq : H1 q = none) :
    ∃ xs, upd H1 q (.tup [.ref f, v]) r = some (.lst xs) ∧ xs.length = k ∧ Rb nf bf due H0 (upd (upd H1 q (.tup [.ref f, v])) r (.lst (xs ++ [.ref q]))) r (k + 1) vs is := by
  have g := (h.ext e).ext (extN_new (o := .tup [.ref f, v]) nq)
  have e2 := extN_new (o := HO.tup [.ref f, v]) nq
  obtain ⟨R, h1, h2, h3⟩ := g.ex
  refine ⟨_, h1, by rw [List.length_map]; exact h2, ⟨R ++ [(i, v, q)], by rw [upd_same, List.map_append]; rfl, by rw [List.length_append, h2]; rfl, fun p hp => ?_⟩, g.od.put g.nr, g.nr, g.st.put h1, fun b o m z y => (upd_ne m).trans (g.kp b o m z y)⟩
  rcases List.mem_append.mp hp with hp | hp
  · exact ⟨(h3 p hp).1.put h1, (h3 p hp).2⟩
  · rw [List.mem_singleton.mp hp]
    exact ⟨RowAt.put ⟨f, c', upd_same, a.ext e2, e2 _ _ c codeO_ne⟩ h1, hv⟩
/-- the list begins with one row -/
theorem Rb.one {i : ι} {f c' : Addr} (od : Odds H vs) (st : Firm H is) (hv : v = due i) (e : ExtN H H1) (a : LamAt H1 f (nf i c') (bf i)) (c : H1 (nf i c').c = some (CodeO (nf i c').c (nf i c').qual)) (nq : H1 q = none) (nr : upd H1 q (.tup [.ref f, v]) r = none) :
    Rb nf bf due (upd (upd H1 q (.tup [.ref f, v])) r (.lst [.ref q])) (upd (upd H1 q (.tup [.ref f, v])) r (.lst [.ref q])) r 1 vs is ∧ ∀ b o, H b = some o → (∀ ps, o ≠ .tbl ps) → b ≠ r ∧ upd (upd H1 q (.tup [.ref f, v])) r (.lst [.ref q]) b = some o := by
  have y6 := extN_new (o := HO.tup [.ref f, v]) nq
  have eA : ExtN H (upd H1 q (.tup [.ref f, v])) := e.trans y6
  have y8 := extN_new (o := HO.lst [.ref q]) nr
  refine ⟨⟨⟨[(i, v, q)], upd_same, rfl, fun p hp => ?_⟩, (od.ext eA).ext y8, fun x hx => (od.ext eA x hx).off nr, (st.ext eA).ext y8, fun b o _ e _ => e⟩, fun b o z nt => ⟨ne_of_none (eA _ _ z nt) nr, y8 _ _ (eA _ _ z nt) nt⟩⟩
  rw [List.mem_singleton.mp hp]
  exact ⟨RowAt.ext ⟨f, c', upd_same, a.ext y6, y6 _ _ c codeO_ne⟩ y8, hv⟩
end
/-- all([refused(row[0], row[1]) for row in rows]): D the new list -/
theorem rb_all {ι : Type} {K : PySem.W.Frag} {L : ι → Lam} {due : ι → V} {sp : (Hp → VK → XK → Prop) → List V → Hp → VK → Prop} {C : Addr} {fld : Str} {j : Nat} {σ : L2.St} {r D : Addr} {ys : List V} {H0 HA : Hp} {vs : List V} {is : List (Addr × HO)} {k : Nat} {Qd : Hp → Prop}
    (hsp : ∀ (x : V) (H : Hp) (tl : Hp → VK → XK → Prop) (Q : VK), Odd H x → (∀ (Q' : VK) (E' : XK), Bad C fld x H E' → tl H Q' E') → (∀ H', Same H H' → Q (.bl true) H') → sp tl [x] H Q)
    (told : ∀ (H : Hp) (i : ι), Odds H vs → Firm H is → Odd H (due i) ∧ ∀ (Q' : VK) (E' : XK), Bad C fld (due i) H E' → (L i).sp (L i).ws H Q' E')
    (hw : ∀ x : V, wipe ((wipe σ [j]).set j (some x)) [j] = wipe σ [j]) (hv : ∀ x : V, ((wipe σ [j]).set j (some x))[j]? = some (some x))
    (G : Rb (fun i => (L i).nf) (fun i => (L i).b) due H0 HA r k vs is) (hy : HA r = some (.lst ys)) (hk : k ≤ 1000) (nD : HA D = none)
    (q : ∀ H', (∀ b o, b ≠ r → HA b = some o → (∀ ps, o ≠ .tbl ps) → H' b = some o) → (∃ bs : List Bool, H' D = some (.lst (bs.map V.bl)) ∧ bs.all id = true) → Qd H') :
    ∃ Wv : Nat → Nat → Hp → Prop, (∃ m, Wv 0 m (upd HA D (.lst []))) ∧ ∀ i m H, Wv i m H → ((Itl K r).stop i H ∧ Qd H) ∨ ((Itl K r).go i H ∧ ∃ Nx : Hp → Prop, (∀ H', Nx H' → ∃ m', m' < m ∧ Wv (i + 1) m' H') ∧ ∀ x H', (Itl K r).yld i H x H' →
      (gName j) x (wipe σ [j]) H' fun σ2 H2 => wipe σ2 [j] = wipe σ [j] ∧ tYes σ2 H2 fun b H3 => if b = true then (tLamCall L sp (tCons (tOp (rIxT K) (tVar j) (tC (.int 0))) (tCons (tOp (rIxT K) (tVar j) (tC (.int 1))) tNil))) σ2 H3 fun y H4 => ∃ acc, H4 D = some (.lst acc) ∧ acc.length < sizeLine ∧ Nx (upd H4 D (.lst (acc ++ [y]))) else Nx H3) := by
  have hDr : D ≠ r := (ne_of_none hy nD).symm
  have nDx : ∀ x ∈ vs, x ≠ .ref D := fun x hx => (G.od x hx).off nD
  have G0 := G.now
  obtain ⟨R0, hR0, hR1, hR2⟩ := G0.ex
  have hys : ys = R0.map fun p => .ref p.2.2 := by
    have z := hy.symm.trans hR0
    cases z
    rfl
  refine lc_list (K := K) (xs := ys) (fun i H' => Rb (fun i => (L i).nf) (fun i => (L i).b) due HA H' r k vs is ∧ H' r = some (.lst ys) ∧ (∀ p ∈ R0, RowAt H' ((L p.1).nf) ((L p.1).b) p.2.1 p.2.2) ∧ H' D = some (.lst (List.replicate i (.bl true)))) ⟨G0.ext (extN_new nD), (extN_new nD) _ _ hy (fun ps z => by cases z), fun p hp => (hR2 p hp).1.ext (extN_new nD), upd_same⟩ (fun i H' _ hb => SqL.of hb.2.1) ?_ ?_
  · rintro i a H' ha ⟨G1, hr1, hrows, hD⟩
    obtain ⟨hi, _⟩ := List.getElem?_eq_some_iff.mp ha
    rw [hys, List.getElem?_map] at ha
    obtain ⟨pr, hpr, rfl⟩ := Option.map_eq_some_iff.mp ha
    have hmem := List.mem_of_getElem? hpr
    have hve := (hR2 pr hmem).2
    obtain ⟨f, c', h1, h2, h3⟩ := hrows pr hmem
    obtain ⟨o1, o2⟩ := told H' pr.1 G1.od G1.st
    rw [← hve] at o1 o2
    refine ⟨hw _, ?_⟩
    unfold tYes
    dsimp only
    rw [if_pos rfl]
    refine ⟨_, hv _, pr.2.2, _, 0, _, rfl, rfl, SqT.of h1, rfl, _, hv _, pr.2.2, _, 1, _, rfl, rfl, SqT.of h1, rfl, pr.1, f, c', [pr.2.1], rfl, h2, h3, hsp _ _ _ _ o1 o2 fun H2 s2 => ⟨_, s2 _ _ hD, ?_, ?_, ?_, ?_, ?_⟩⟩
    · rw [List.length_replicate]
      have hl : ys.length = k := by rw [hys, List.length_map]; exact hR1
      have := sizeLine_eq
      omega
    · exact (G1.ext (ExtN.of s2)).set (s2 _ _ hD) hDr nDx nD
    · exact (upd_ne hDr.symm).trans (s2 _ _ hr1)
    · exact fun p hp => ((hrows p hp).ext (ExtN.of s2)).put (s2 _ _ hD)
    · rw [upd_same, List.replicate_succ']
  · rintro H' ⟨G1, hr1, hrows, hD⟩
    refine q H' (fun b o n e nt => G1.kp b o n e nt) ⟨List.replicate ys.length true, by rw [List.map_replicate]; exact hD, ?_⟩
    rw [List.all_eq_true]
    intro b hb
    rw [List.eq_of_mem_replicate hb]
    rfl
end Own

/-! own layer, of no law: OWNP: properties of the program's classes, told by the top. -/
namespace Own
open PySem PySem.Spec PyProof.Rows L2 LamX NdefX
/-- the getter of a property: (class, its name) -/
def pgA (K : PySem.W.Frag) (p : Str × Option Str) : Addr := match PySem.W.findIn K (.ref (He.ga K p.1)) (p.2.getD "") with
  | some (some (.ref q)) => (match PySem.W.recIn K q "property" with
    | some (.ref g :: _) => g
    | _ => 0)
  | _ => 0
def fnWA (K : PySem.W.Frag) (a : Addr) : He.FnW := match K.lookup a with
  | some ⟨_, _, .func fd, _⟩ => some (fd.name, fd.qualname, fd.params, fd.body, fd.scope, fd.globals, fd.closure, fd.builtins)
  | _ => none
def okA (K : PySem.W.Frag) (a : Addr) (q : Str) : Bool := PySem.W.keepIn K (.ref a) && (match K.lookup a with
  | some ⟨_, _, .func fd, _⟩ => PySem.W.codeIn K fd.code q && (He.dflB K fd.defaults [] && He.kwdB K fd.kwdefaults [])
  | _ => false)
def propB (K : PySem.W.Frag) (p : Str × Option Str) (q : Str) : Bool := (match PySem.W.findIn K (.ref (He.ga K p.1)) (p.2.getD "") with
  | some (some (.ref r)) => decide (PySem.W.specialIn K (.ref r) "__get__" = some (some (.builtin "property.__get__"))) && (decide (PySem.W.takesIn K (.ref r) = some true) && (match PySem.W.recIn K r "property" with
    | some (.ref _ :: _) => true
    | _ => false))
  | _ => false) && okA K (pgA K p) q
theorem funD_at {K : PySem.W.Frag} {a : Addr} {d : He.DefD} (e : fnWA K a = d.val) (c : okA K a d.qual = true) : ∃ fd, FunD K d.name d.qual d.params d.body d.scope [] [] a fd := by
  obtain ⟨kp, c2⟩ := He.ba c
  unfold fnWA at e
  cases q : K.lookup a with
  | none =>
    rw [q] at c2
    cases c2
  | some o =>
    obtain ⟨oc, od, dt, osl⟩ := o
    rw [q] at c2 e
    cases dt with
    | func fd =>
      obtain ⟨n1, n2, n3, n4, n5, n6, n7, n8, n9, n10, n11, n12, n13, n14, n15⟩ := fd
      have e2 : (some (n1, n2, n3, n4, n5, n6, n7, n15) : He.FnW) = some (d.name, d.qual, d.params, .stmts d.body, d.scope, mainGlobals, [], builtinsNs) := e
      simp only [Option.some.injEq, Prod.mk.injEq] at e2
      obtain ⟨h1, h2, h3, h4, h5, h6, h7, h8⟩ := e2
      subst h1 h2 h3 h4 h5 h6 h7 h8
      have c3 : (PySem.W.codeIn K n13 d.qual && (He.dflB K n8 [] && He.kwdB K n9 [])) = true := c2
      obtain ⟨k1, k2⟩ := He.ba c3
      obtain ⟨k3, k4⟩ := He.ba k2
      exact ⟨_, ⟨oc, od, n8, n9, n10, n11, n12, n13, n14, osl, rfl, q, k1, He.dflB_ok k3, He.kwdB_ok k4⟩, kp⟩
    | _ => cases c2
theorem prop_ok {K : PySem.W.Frag} {C f : Str} {q : Str} (h : propB K (C, some f) q = true) : (∃ p, PropOf K (He.ga K C) f p (pgA K (C, some f))) ∧ okA K (pgA K (C, some f)) q = true := by
  obtain ⟨h1, h2⟩ := He.ba h
  refine ⟨?_, h2⟩
  have h1 : (match PySem.W.findIn K (.ref (He.ga K C)) f with
    | some (some (.ref r)) => decide (PySem.W.specialIn K (.ref r) "__get__" = some (some (.builtin "property.__get__"))) && (decide (PySem.W.takesIn K (.ref r) = some true) && (match PySem.W.recIn K r "property" with
      | some (.ref _ :: _) => true
      | _ => false))
    | _ => false) = true := h1
  have e : pgA K (C, some f) = (match PySem.W.findIn K (.ref (He.ga K C)) f with
    | some (some (.ref q)) => (match PySem.W.recIn K q "property" with
      | some (.ref g :: _) => g
      | _ => 0)
    | _ => 0) := rfl
  cases a : PySem.W.findIn K (.ref (He.ga K C)) f with
  | none => rw [a] at h1; cases h1
  | some a1 =>
    cases a1 with
    | none => rw [a] at h1; cases h1
    | some v =>
      cases v with
      | ref r =>
        rw [a] at h1 e
        obtain ⟨b1, b2⟩ := He.ba h1
        obtain ⟨b2, b3⟩ := He.ba b2
        have b3 : (match PySem.W.recIn K r "property" with
          | some (.ref _ :: _) => true
          | _ => false) = true := b3
        have e : pgA K (C, some f) = (match PySem.W.recIn K r "property" with
          | some (.ref g :: _) => g
          | _ => 0) := e
        refine ⟨r, a, of_decide_eq_true b1, of_decide_eq_true b2, ?_⟩
        cases c : PySem.W.recIn K r "property" with
        | none => rw [c] at b3; cases b3
        | some l =>
          cases l with
          | nil => rw [c] at b3; cases b3
          | cons x rest =>
            cases x with
            | ref g =>
              rw [c] at e
              have e : pgA K (C, some f) = g := e
              rw [e]
              exact ⟨rest, rfl⟩
            | _ => rw [c] at b3; cases b3
      | _ => rw [a] at h1; cases h1
/-- what is told: the getters' texts besides -/
structure SaysP (ps : List He.DefD) (K : PySem.W.Frag) : Prop where
  g : ps.map (fun d => fnWA K (pgA K d.at_)) = ps.map He.DefD.val
theorem SaysP.at_ {ps : List He.DefD} {K : PySem.W.Frag} (c : SaysP ps K) (i : Nat) {d : He.DefD} (h : ps[i]? = some d) : fnWA K (pgA K d.at_) = d.val := by
  have e : (ps.map fun d => fnWA K (pgA K d.at_))[i]? = (ps.map He.DefD.val)[i]? := by rw [c.g]
  rw [List.getElem?_map, List.getElem?_map, h] at e
  exact Option.some.inj e
abbrev AlP : Type := He.AlX × List He.FnW
def obsP (n : Nat) (fa : List He.Fa) (fn : List He.DefD) (ts : List He.Tab) (tf : List He.Defn) (ex : PySem.W.Frag → Bool) (ps : List He.DefD) (g : Addr → Option Obj) : AlP :=
  (He.obsX n fa fn ts tf ex g, ps.map fun d => fnWA (He.frT g (He.asD g n)) (pgA (He.frT g (He.asD g n)) d.at_))
def valP (fn : List He.DefD) (ts : List He.Tab) (ps : List He.DefD) (w : World) : AlP := (He.valX fn ts w, ps.map He.DefD.val)
def hookP (n : Nat) (fa : List He.Fa) (fn : List He.DefD) (ts : List He.Tab) (tf : List He.Defn) (ex : PySem.W.Frag → Bool) (ps : List He.DefD) : PySem.W.Hook where
  α := AlP
  obs := fun s => obsP n fa fn ts tf ex ps s.heap.get?
  val := fun w => valP fn ts ps w
  says := fun w h => ∃ K : PySem.W.Frag, K.In h ∧ He.SaysX fa fn ts tf ex w h K ∧ SaysP ps K
  of := fun _ _ e => ⟨_, He.frT_in, He.saysX_of (congrArg (fun z : AlP => z.1) e), ⟨congrArg (fun z : AlP => z.2) e⟩⟩
  keeps := fun _ _ _ ⟨K, hK, c, d⟩ k => ⟨K, PySem.W.Frag.In.keeps hK k, ⟨c.t, c.more, c.hd, c.out, fun p hp => k _ _ (c.empty p hp)⟩, d⟩
theorem obsP_eq {n : Nat} {fa : List He.Fa} {fn : List He.DefD} {ts : List He.Tab} {tf : List He.Defn} {ex : PySem.W.Frag → Bool} {ps : List He.DefD} {g : Addr → Option Obj} {s : Shared} (h : ∀ a, g a = s.heap.get? a) : obsP n fa fn ts tf ex ps g = (hookP n fa fn ts tf ex ps).obs s := by
  have e : g = s.heap.get? := funext h
  rw [e] <;> rfl
end Own

/-! own layer, of no law: OWNQ: a pen with any names for its cells, its count and what is left. -/
namespace Own
open PySem PySem.Spec PyProof.Rows L2 LamX NdefX
def penG (a b c : Str) (p : Addr) (m l : Int) : List (Key × V) := [(Sum.inr a, V.ref p), (Sum.inr b, V.int m), (Sum.inr c, V.int l)]
/-- the three names are unlike -/
def Un3 (a b c : Str) : Prop := ¬ a = b ∧ ¬ a = c ∧ ¬ b = c
section
variable {a b c : Str} {p d : Addr} {m l m' l' : Int} {H H' : Hp} {B B' : Int}
theorem gpen_a (u : Un3 a b c) (h : H d = some (.dK (penG a b c p m l))) : DGet H d (V.str a) (some (.ref p)) := by
  have z := DGet.k (k := (Sum.inr a : Key)) h
  have e : valV (penG a b c p m l) (Sum.inr a : Key) = some (.ref p) := valV_pos rfl
  rw [e] at z
  exact z
theorem gpen_b (u : Un3 a b c) (h : H d = some (.dK (penG a b c p m l))) : DGet H d (V.str b) (some (.int m)) := by
  have z := DGet.k (k := (Sum.inr b : Key)) h
  have e : valV (penG a b c p m l) (Sum.inr b : Key) = some (.int m) := by
    unfold penG
    rw [valV_neg (fun e => u.1 (Sum.inr.inj e)), valV_pos rfl]
  rw [e] at z
  exact z
theorem gpen_c (u : Un3 a b c) (h : H d = some (.dK (penG a b c p m l))) : DGet H d (V.str c) (some (.int l)) := by
  have z := DGet.k (k := (Sum.inr c : Key)) h
  have e : valV (penG a b c p m l) (Sum.inr c : Key) = some (.int l) := by
    unfold penG
    rw [valV_neg (fun e => u.2.1 (Sum.inr.inj e)), valV_neg (fun e => u.2.2 (Sum.inr.inj e)), valV_pos rfl]
  rw [e] at z
  exact z
theorem ppen_b (u : Un3 a b c) (h : H d = some (.dK (penG a b c p m l))) : DPut H d (V.str b) (.int m') (upd H d (.dK (penG a b c p m' l))) := by
  have z := DPut.k (k := (Sum.inr b : Key)) (v := .int m') h (by show 3 < sizeLine; decide)
  have e : putK (penG a b c p m l) (Sum.inr b : Key) (.int m') = penG a b c p m' l := by
    unfold penG putK
    simp [key_dec u.1, key_dec (show ¬ c = b from fun e => u.2.2 e.symm), u.1, u.2.2, show ¬ c = b from fun e => u.2.2 e.symm]
  rw [e] at z
  exact z
theorem ppen_c (u : Un3 a b c) (h : H d = some (.dK (penG a b c p m l))) : DPut H d (V.str c) (.int l') (upd H d (.dK (penG a b c p m l'))) := by
  have z := DPut.k (k := (Sum.inr c : Key)) (v := .int l') h (by show 3 < sizeLine; decide)
  have e : putK (penG a b c p m l) (Sum.inr c : Key) (.int l') = penG a b c p m l' := by
    unfold penG putK
    simp [key_dec u.2.1, key_dec u.2.2, u.2.1, u.2.2]
  rw [e] at z
  exact z
/-- the pen stands at d: at most B draws were begun -/
structure PenG (a b c : Str) (H : Hp) (d : Addr) (B : Int) : Prop where
  ex : ∃ (p : Addr) (ns : List Int) (m l : Int), H d = some (.dK (penG a b c p m l)) ∧ H p = some (.lst (ns.map V.int)) ∧ ns.length ≤ 63 ∧ 0 ≤ m ∧ m ≤ B
theorem PenG.mono (h : PenG a b c H d B) (z : B ≤ B') : PenG a b c H d B' := by
  obtain ⟨p, ns, m, l, e1, e2, e3, f, g⟩ := h.ex
  exact ⟨p, ns, m, l, e1, e2, e3, f, by omega⟩
theorem PenG.same (h : PenG a b c H d B) (s : Same H H') : PenG a b c H' d B := by
  obtain ⟨p, ns, m, l, e1, e2, e3, f, g⟩ := h.ex
  exact ⟨p, ns, m, l, s _ _ e1, s _ _ e2, e3, f, g⟩
theorem PenG.at_ (h : PenG a b c H d B) : ∃ kvs, H d = some (.dK kvs) ∧ ∃ q ∈ kvs, flatB q.2 = false := by
  obtain ⟨p, ns, m, l, e, _⟩ := h.ex
  exact ⟨_, e, _, List.mem_cons_self, rfl⟩
theorem PenG.odd {x : V} (h : PenG a b c H d B) (o : Odd H x) : x ≠ .ref d := by
  obtain ⟨kvs, e, q, hq, f⟩ := h.at_
  intro z
  rw [z] at o
  cases o with
  | flat h => cases h
  | lst e' f => rw [e] at e'; cases e'
  | tup e' f => rw [e] at e'; cases e'
  | dct e' n g =>
    rw [e] at e'
    cases e'
    rw [g _ hq] at f
    cases f
theorem tabs_keepG {T : List (Addr × Str)} (h : Tabs T H) (hp : PenG a b c H d B) (k : Keep d H H') : Tabs T H' := fun p hq => by
  obtain ⟨kvs, ed, _⟩ := hp.at_
  obtain ⟨ps, h1, h2, h3⟩ := h p hq
  have a : p.1 ≠ d := ne_of h1 ed (by intro z; cases z)
  refine ⟨ps, k _ _ a h1, h2, fun pos cv hc => ?_⟩
  obtain ⟨c, e1, e2⟩ := h3 pos cv hc
  have b : c ≠ d := ne_of e2 ed (by unfold CodeO; intro z; cases z)
  exact ⟨c, e1, k _ _ b e2⟩
end
/-- the dict that begins a pen, written out -/
theorem merge_pen {a b c : Str} (u : Un3 a b c) (p : Addr) (m l : Int) : mergeK [] [(Sum.inr a, V.ref p), (Sum.inr b, V.int m), (Sum.inr c, V.int l)] = penG a b c p m l := by
  unfold mergeK
  rw [List.foldl_cons, putK_new _ valV_nil, List.foldl_cons, putK_new _ (by
    rw [List.nil_append, valV_neg (fun e => u.1 (Sum.inr.inj e)), valV_nil]), List.foldl_cons, putK_new _ (by
    show valV [_, _] _ = none
    rw [valV_neg (fun e => u.2.1 (Sum.inr.inj e)), valV_neg (fun e => u.2.2 (Sum.inr.inj e)), valV_nil])]
  rfl
theorem cut63 (xs : List V) (h : xs.length ≤ 63) : cutV xs none (some 63) = xs := by
  unfold cutV
  rw [HT.sIx_none, show HT.sIx xs.length xs.length (some 63) = min 63 xs.length from HT.sIx_nat xs.length xs.length 63, List.drop_zero, Nat.min_eq_right h, Nat.sub_zero, List.take_length]
theorem neG_nil {xs : List Int} : PyData.eqv (.list (xs.map PyData.int)) (.list []) = decide (xs = []) := by
  cases xs with
  | nil => rfl
  | cons a r => rfl
theorem dpG_ints {K : PySem.W.Frag} {H : Hp} : ∀ ns : List Int, DpAll K H (ns.map V.int) (ns.map PyData.int)
  | [] => .nil
  | a :: r => .cons (.int a) (dpG_ints r)
theorem layG_ints : ∀ ns : List Int, PyData.canLayAll0 (ns.map PyData.int) = true
  | [] => by simp only [List.map_nil, PyData.canLayAll0]
  | a :: r => by simp only [List.map_cons, PyData.canLayAll0, PyData.canLay0, layG_ints r, Bool.and_self]
theorem depG_ints : ∀ ns : List Int, PyData.depthAll (ns.map PyData.int) ≤ 1
  | [] => by simp [PyData.depthAll]
  | a :: r => by
    have z := depG_ints r
    simp only [List.map_cons, PyData.depthAll, PyData.depth]
    omega
theorem shG_ints (ns : List Int) : SeqAt.shaped (.list (ns.map PyData.int)) = true := by
  have a := layG_ints ns
  have b := depG_ints ns
  have z : (PyData.list (ns.map PyData.int)).depth ≤ 64 := by
    simp only [PyData.depth]
    omega
  unfold SeqAt.shaped
  rw [Bool.and_eq_true]
  exact ⟨by simpa [PyData.canLay0] using a, decide_eq_true z⟩
end Own

/-! own layer, of no law: OWNX: isinstance of a caught error with a field; a def called with a lambda written there. -/
namespace Own
open PySem PySem.Spec PyProof.Rows L2 LamX NdefX
/-- isinstance(e, c), e the exception with a dict that the suite holds -/
theorem call_isED {X : Cx} {a D : Addr} {oe : Obj} {cls : Value} {d : Option Addr} {pn : List (Addr × Obj)} (C : ExcC X.K D) (hz : Zc cls d oe) (hf : ∃ vs, oe.data = .fields vs) : CallR (X.suite a ((a, oe) :: pn)) (.builtin "isinstance")
    (fun xs H Q => ∃ (c : V) (cv : Value) (b : Bool) (dd : Addr) (fs : List (Str × V)), xs = [.ref a, c] ∧ cls = .ref D ∧ d = some dd ∧ H dd = some (.xd fs) ∧ ClsV c cv ∧ PySem.W.kitOne X.K (.ref D) cv = some b ∧ Q (.bl b) H) := by
  intro pins s σ H xs us Q I r h
  obtain ⟨c, cv, b, dd, fs, rfl, rfl, rfl, ea, hcv, e, q⟩ := h
  obtain ⟨u1, u2, rfl, r1, r2⟩ := vals2 r
  have ec := hcv.eq r2
  subst ec
  cases (show u1 = Value.ref a from r1)
  obtain ⟨hget, _⟩ := I.pin (a, oe) (List.mem_append.mpr (.inl List.mem_cons_self))
  obtain ⟨vs, hv⟩ := hf
  have hx : ObjOk X.prog X.w H s.heap dd (.xd fs) := I.hok dd _ ea
  obtain ⟨mA, hns, hr⟩ := hx
  obtain ⟨od, ho, hl⟩ := lookIn_ns hns
  have J : PySem.W.InstAt s.heap a oe D (some od) := ⟨hget, hz.1, by unfold PySem.W.notCls; rw [hv] <;> rfl, by rw [hz.2]; exact ho⟩
  obtain ⟨cd, hc, _⟩ := PySem.W.any_some C.hd
  exact PySem.W.kia_one (PySem.W.kitx_exc (by rw [hc]; rfl) C.hg C.hk C.hs C.ha C.hn C.ht C.hm) I.kIn J e (fun z => nomatch z) fun tk => ⟨.bl b, H, I.kept (t' := tk) fun _ _ z => z, rfl, q⟩
/-- x(lambda: ..), the lambda without parameters -/
def tLamDir (X : Cx) (T : List (Addr × Str)) (params : Arguments) (body : Expr) (scope : Scope) (js : List Nat) (sp : (Hp → VK → XK → Prop) → List V → Hp → VK → Prop) (spl : List (Option V) → Hp → VK → XK → Prop) : TE :=
  fun σ H Q => tCons (tLamV X T params body scope) tNil σ H fun vs H1 => ∃ f c' : Addr, vs = [.ref f] ∧ LamAt H1 f (lamF X params scope c') body ∧ H1 c' = some (CodeO c' (X.env.qual ++ "<lambda>")) ∧ sp (spl (js.map (slotAt σ))) [] H1 Q
theorem pe_lamdir {X : Cx} {T : List (Addr × Str)} {params : Arguments} {body : Expr} {scope : Scope} {js : List Nat} {fr : List Str} {k kl j : Nat} {sp : (Hp → VK → XK → Prop) → List V → Hp → VK → Prop} {spl : List (Option V) → Hp → VK → XK → Prop} {x : Str} {p pos lpos : Pos}
    (D : LamDefAt X.prog X.w X.K X.mg X.base x k sp) (hkl : kl < k) (hr : Room j X.A) (hj : k ≤ j) (G : ∀ (f c' : Addr), LOk X.prog X.w X.K X.mg X.base (L2.CX X.prog X.w) kl f (lamF X params scope c') body fr spl)
    (hl : PE X (.Lambda params body scope lpos) (tLamV X T params body scope))
    (hfree : ∀ y ∈ scope.names, y.2 = .free → X.env.scope.names.lookup y.1 = some .cell ∨ X.env.scope.names.lookup y.1 = some .free) (hfr : ∀ y ∈ fr, (y, NameKind.free) ∈ scope.names) (hjs : js.map (fun j => X.N[j]?) = fr.map some)
    (hg : Gl X x) (hdb : (x == ("__debug__" : Str)) = false := by decide) (he : starEach [.Lambda params body scope lpos] X.env = (false, eval (.Lambda params body scope lpos) X.env) :: starEach [] X.env := by rfl) (hpl : (backTo pos (starEach [] X.env)).any (·.1) = false := by rfl) :
    PE X (.Call (.Name x p) [.Lambda params body scope lpos] [] pos) (tLamDir X T params body scope js sp spl) := by
  obtain ⟨g, R, gm, kp⟩ := D.ex
  have ha := pa_cons hl pa_nil
  constructor
  intro pins s σ H Q I h
  refine wpAny_Call_Name_kw (ld_glob I hg gm ?_ hdb)
  refine PySem.W.callWith_K (h₀ := X.base) I.ok.mod.kin kp (thn (ha.run pos pins s σ H _ I h) ?_) he hpl
  rintro us s1 ⟨vs, H1, I1, r, f, c', rfl, hf, hc, q⟩
  refine ⟨I1.kIn, wpAny_call (codeAny_mono (R.run X.A X.stack s1 H1 us f [] _ _ _ _ _ kl Q (hr.mono hj) hkl I1.env0 r (G f c') hf hc (cells_blk I1 hfree hfr hjs) q) fun z s' hz => ?_)⟩
  rcases z with er | fl
  · exact (show False from hz).elim
  · cases fl
    case ret u => exact I1.after hz
    all_goals exact False.elim hz
/-- x is flat, or an object -/
def Selfy (x : V) : Prop := flatV x = true ∨ ∃ a, x = .ref a
theorem Odd.selfy {H : Hp} {x : V} (h : Odd H x) : Selfy x := by
  cases h with
  | flat h => exact .inl (by cases x <;> first | rfl | (simp [okF] at h))
  | lst e f => exact .inr ⟨_, rfl⟩
  | tup e f => exact .inr ⟨_, rfl⟩
  | dct e n f => exact .inr ⟨_, rfl⟩
theorem eqV_self {x : V} (h : flatV x = true) : eqV x x = true := by
  cases x <;> first | (cases h; done) | rfl | (simp [eqV]; done)
theorem selfy_at {A : Around} {s : Shared} {x : V} {u v : Value} (h : Selfy x) (ru : RelV x u) (rv : RelV x v) : SeqAt.EqAt A s u v true := by
  rcases h with h | ⟨a, rfl⟩
  · have z := eqAt_V (A := A) (s := s) ru rv h h
    rw [eqV_self h] at z
    exact z
  · cases (show u = Value.ref a from ru)
    cases (show v = Value.ref a from rv)
    exact SeqAt.EqAt.same _
/-- [x] == [x], [x] != [x] -/
def rOne (K : PySem.W.Frag) (b : Bool) : R2 := fun x y H Q => ∃ (l m : Addr) (z : V), x = .ref l ∧ y = .ref m ∧ SqL K H l [z] ∧ SqL K H m [z] ∧ Selfy z ∧ Q (.bl b) H
section
variable {X : Cx}
theorem one_at {pins : List (Addr × Obj)} {σ : L2.St} {H : Hp} {s : Shared} {l m : Addr} {z : V} (I : Inv X pins σ H s) (h1 : SqL X.K H l [z]) (h2 : SqL X.K H m [z]) (hz : Selfy z) : ∃ i1 i2 : Value, s.heap.IsList l #[i1] ∧ s.heap.IsList m #[i2] ∧ ∀ A : Around, SeqAt.EqAt A s i1 i2 true := by
  obtain ⟨its1, r1, l1, _⟩ := I.list h1
  obtain ⟨its2, r2, l2, _⟩ := I.list h2
  obtain ⟨v1, rfl, q1⟩ := r1.one
  obtain ⟨v2, rfl, q2⟩ := r2.one
  exact ⟨v1, v2, l1.isList, l2.isList, fun A => selfy_at hz q1 q2⟩
theorem op_eqOne (hu : X.A.units + 64 < cLine) : OpR X (compareOp .Eq) (rOne X.K true) := by
  intro pins s σ H x y v u Q I rx ry h
  obtain ⟨l, m, z, rfl, rfl, h1, h2, hz, q⟩ := h
  cases (show v = Value.ref l from rx)
  cases (show u = Value.ref m from ry)
  obtain ⟨i1, i2, e1, e2, at_⟩ := one_at I h1 h2 hz
  have := SeqAt.RcAt.lists (A := X.A) (e := fun _ => true) e1 e2 rfl (by omega) (fun j j1 j2 => by
    have a : j = 0 := by have : j < 1 := j1; omega
    subst a
    exact at_ _)
  exact this X.prog X.w _ _ ⟨.bl true, H, I, rfl, q⟩
theorem op_neOne (hu : X.A.units + 64 < cLine) : OpR X (compareOp .NotEq) (rOne X.K false) := by
  intro pins s σ H x y v u Q I rx ry h
  obtain ⟨l, m, z, rfl, rfl, h1, h2, hz, q⟩ := h
  cases (show v = Value.ref l from rx)
  cases (show u = Value.ref m from ry)
  obtain ⟨i1, i2, e1, e2, at_⟩ := one_at I h1 h2 hz
  have := SeqAt.RcNeAt.lists (A := X.A) (e := fun _ => true) e1 e2 rfl (by omega) (fun j j1 j2 => by
    have a : j = 0 := by have : j < 1 := j1; omega
    subst a
    exact at_ _)
  exact this X.prog X.w _ _ ⟨.bl false, H, I, rfl, q⟩
end
end Own

/-! own layer, of no law: a number told as what is ahead of the point and the digits behind it -/
namespace Own
open PySem PySem.Spec PyProof.Rows L2 LamX NdefX
/-- ahead of the point -/
def wFl (u : Int) (s : Nat) : Int := if s = 0 then u else u / (10 : Int) ^ s
/-- the digits behind it -/
def wMo (u : Int) (s : Nat) : Str := if s = 0 then "" else Txt.zfill (Str.ofString (toString (u % (10 : Int) ^ s))) (s : Int)
def wRow (u : Int) (s : Nat) : List (Str × V) := [("units", .int u), ("scale", .int s), ("floor", .int (wFl u s)), ("more", .str (wMo u s))]
theorem wNe : (("scale" : Str) == "units") = false ∧ (("floor" : Str) == "units") = false ∧ (("floor" : Str) == "scale") = false ∧ (("more" : Str) == "units") = false ∧ (("more" : Str) == "scale") = false ∧ (("more" : Str) == "floor") = false := by decide +kernel
theorem wLk_u (u : Int) (s : Nat) : (wRow u s).lookup ("units" : Str) = some (.int u) := by simp [wRow, List.lookup]
theorem wLk_s (u : Int) (s : Nat) : (wRow u s).lookup ("scale" : Str) = some (.int s) := by simp [wRow, List.lookup, wNe]
theorem wLk_f (u : Int) (s : Nat) : (wRow u s).lookup ("floor" : Str) = some (.int (wFl u s)) := by simp [wRow, List.lookup, wNe]
theorem wLk_m (u : Int) (s : Nat) : (wRow u s).lookup ("more" : Str) = some (.str (wMo u s)) := by simp [wRow, List.lookup, wNe]
theorem wLk_no {m : Str} (u : Int) (s : Nat) (h1 : (m == "units") = false) (h2 : (m == "scale") = false) (h3 : (m == "floor") = false := by decide +kernel) (h4 : (m == "more") = false := by decide +kernel) : (wRow u s).lookup m = none := by simp [wRow, List.lookup, h1, h2, h3, h4]
theorem put4 (a b c d : V) : putF "more" d (putF "floor" c (putF "scale" b (putF "units" a []))) = ([("units", a), ("scale", b), ("floor", c), ("more", d)] : List (Str × V)) := by
  have e1 : ¬ (("units" : Str) = "scale") := by decide +kernel
  have e2 : ¬ (("units" : Str) = "floor") := by decide +kernel
  have e3 : ¬ (("units" : Str) = "more") := by decide +kernel
  have e4 : ¬ (("scale" : Str) = "floor") := by decide +kernel
  have e5 : ¬ (("scale" : Str) = "more") := by decide +kernel
  have e6 : ¬ (("floor" : Str) = "more") := by decide +kernel
  simp [putF, e1, e2, e3, e4, e5, e6]
/-! ### the digits -/
theorem numL_cons (n : Nat) : ∃ c l, TL.numL n = c :: l ∧ 48 ≤ c ∧ c ≤ 57 := by
  cases h : TL.numL n with
  | nil => exact absurd h (TL.numL_ne n)
  | cons c l =>
    have z := TL.numL_digits n c (by rw [h]; exact List.mem_cons_self ..)
    exact ⟨c, l, rfl, z.1, z.2⟩
theorem zf_list (n s : Nat) : (Txt.zfill (Str.ofString (toString (n : Int))) (s : Int)).cps.toList = List.replicate (s - (TL.numL n).length) 48 ++ TL.numL n := by
  have e : (Str.ofString (toString (n : Int))).cps.toList = TL.numL n := TL.tl_num n
  have l : (Str.ofString (toString (n : Int))).length = (TL.numL n).length := by rw [TL.len_tl]; exact congrArg List.length e
  generalize Str.ofString (toString (n : Int)) = x at e l
  unfold Txt.zfill
  by_cases h : (s : Int) ≤ (x.length : Int)
  · rw [if_pos h, e, show s - (TL.numL n).length = 0 by omega]
    rfl
  · rw [if_neg h]
    obtain ⟨c, r, ec, h1, h2⟩ := numL_cons n
    have hd : x.cps[0]? = some c := by
      rw [← Array.getElem?_toList, e, ec]
      rfl
    unfold zfilled
    rw [hd]
    split
    · rename_i z
      have := Option.some.inj z
      omega
    · rename_i z
      have := Option.some.inj z
      omega
    · rw [PyProof.Rows.padded_list, e, l]
      simp
theorem val_zeros : ∀ (k : Nat) (l : List Nat), NumText.digitsVal (List.replicate k 48 ++ l) = NumText.digitsVal l
  | 0, l => rfl
  | k + 1, l => by
    show NumText.digitsVal (48 :: (List.replicate k 48 ++ l)) = _
    exact val_zeros k l
theorem ten_nc (s : Nat) : ((10 : Int) ^ s) = ((10 ^ s : Nat) : Int) := by simp
theorem wMod (u : Int) (s : Nat) : ∃ n : Nat, u % (10 : Int) ^ s = (n : Int) ∧ n < 10 ^ s := by
  have p : 0 < 10 ^ s := Nat.pow_pos (by decide)
  rw [ten_nc]
  have a := Int.emod_nonneg u (show ((10 ^ s : Nat) : Int) ≠ 0 by omega)
  have b := Int.emod_lt_of_pos u (show (0 : Int) < ((10 ^ s : Nat) : Int) by omega)
  exact ⟨(u % ((10 ^ s : Nat) : Int)).toNat, by omega, by omega⟩
theorem wMo_list {u : Int} {s n : Nat} (h : s ≠ 0) (e : u % (10 : Int) ^ s = (n : Int)) : (wMo u s).cps.toList = List.replicate (s - (TL.numL n).length) 48 ++ TL.numL n := by
  unfold wMo
  rw [if_neg h, e]
  exact zf_list n s
theorem wMo_zero (u : Int) : (wMo u 0).cps.toList = [] := by
  have e : wMo u 0 = "" := by
    unfold wMo
    rw [if_pos rfl]
  rw [e]
  rfl
theorem wMo_len (u : Int) (s : Nat) : (wMo u s).cps.toList.length = s := by
  by_cases h : s = 0
  · subst h
    rw [wMo_zero]
    rfl
  · obtain ⟨n, e, l⟩ := wMod u s
    rw [wMo_list h e, List.length_append, List.length_replicate]
    have := TL.numL_len (Nat.pos_of_ne_zero h) l
    omega
theorem w_inj {u u2 : Int} {s s2 : Nat} (h1 : wFl u s = wFl u2 s2) (h2 : wMo u s = wMo u2 s2) : u = u2 ∧ s = s2 := by
  have e : s = s2 := by
    have a := wMo_len u s
    have b := wMo_len u2 s2
    rw [h2] at a
    omega
  subst e
  refine ⟨?_, rfl⟩
  by_cases h : s = 0
  · subst h
    exact h1
  · obtain ⟨n, e, l⟩ := wMod u s
    obtain ⟨n2, e2, l2⟩ := wMod u2 s
    have a := wMo_list h e
    have b := wMo_list h e2
    rw [h2, b] at a
    have v := congrArg NumText.digitsVal a
    rw [val_zeros, val_zeros, TL.numL_val, TL.numL_val] at v
    unfold wFl at h1
    rw [if_neg h, if_neg h] at h1
    have d1 := Int.mul_ediv_add_emod u ((10 : Int) ^ s)
    have d2 := Int.mul_ediv_add_emod u2 ((10 : Int) ^ s)
    rw [← d1, ← d2, h1, e, e2, v]
theorem w_ok (u : Int) (s : Nat) : PyData.strOk (wMo u s) = true := by
  have all : ∀ c ∈ (wMo u s).cps.toList, c < 0x110000 := fun c hc => by
    by_cases h : s = 0
    · subst h
      rw [wMo_zero] at hc
      cases hc
    · obtain ⟨n, e, l⟩ := wMod u s
      rw [wMo_list h e] at hc
      rcases List.mem_append.mp hc with z | z
      · rw [(List.mem_replicate.mp z).2]
        decide
      · have := TL.numL_digits n c z
        omega
  unfold PyData.strOk
  rw [Array.all_eq_true_iff_forall_mem]
  intro c hc
  exact decide_eq_true (all c (Array.mem_toList_iff.mpr hc))
/-- the two halves as data -/
theorem w_dp {K : PySem.W.Frag} {H : Hp} {a : Addr} {i : Int} {t : Str} (e : H a = some (.tup [.int i, .str t])) : Dp K H (.ref a) (.tuple [.int i, .str t]) := .tup (SqT.of e) (.cons (.int i) (.cons (.str t) .nil))
theorem w_sh (u : Int) (s : Nat) : SeqAt.shaped (.tuple [.int (wFl u s), .str (wMo u s)]) = true := by
  unfold SeqAt.shaped
  simp [PyData.canLay0, PyData.canLayAll0, PyData.depth, PyData.depthAll, w_ok]
theorem w_eqv (u u2 : Int) (s s2 : Nat) : PyData.eqv (.tuple [.int (wFl u s), .str (wMo u s)]) (.tuple [.int (wFl u2 s2), .str (wMo u2 s2)]) = (decide (u = u2) && decide (s = s2)) := by
  simp only [PyData.eqv, PyData.eqvAll, Bool.and_true]
  by_cases h : u = u2 ∧ s = s2
  · obtain ⟨rfl, rfl⟩ := h
    simp
  · have r : (decide (u = u2) && decide (s = s2)) = false := by
      rw [← Bool.decide_and]
      exact decide_eq_false h
    rw [r]
    have n : ¬ (wFl u s = wFl u2 s2 ∧ wMo u s = wMo u2 s2) := fun z => h (w_inj z.1 z.2)
    by_cases h1 : wFl u s = wFl u2 s2
    · have h2 : wMo u s ≠ wMo u2 s2 := fun z => n ⟨h1, z⟩
      rw [beq_false_of_ne h2, Bool.and_false]
    · rw [beq_false_of_ne h1, Bool.false_and]
/-- a list of statements that is never come to -/
theorem pss_dead {X : Cx} {ss : List Stmt} : PSs X ss (fun _ _ _ => False) := ⟨fun _ _ _ _ _ _ h => h.elim⟩
theorem dm_wide {n d : Int} (h0 : 0 < d) (h : d.natAbs < 2 ^ 9000) : CDivP n d := by
  refine ⟨h0, ?_⟩
  have a := log2_lt h (by decide)
  unfold Builtin.divisionGoesByPylong
  have e : ¬ (d == 0) = true := by simp; omega
  have z : ¬ (d.natAbs.log2 / 30 + 1 > 300) := by omega
  simp only [e, Bool.false_eq_true, if_false]
  rw [decide_eq_false z]
  rfl
end Own

/-! k45: the pen's defs. -/
namespace K45
open PySem PySem.Spec PyProof.Rows L2 LamX NdefX Own
def topS (i : Nat) : Stmt := PySem.Challenge.pw_figurestay_k45_whole_ways_compared.main.body.getD i (.Pass ⟨0, 0, 0, 0⟩)
abbrev sBegin : Stmt := topS 28
abbrev sDraw : Stmt := topS 29
abbrev sPick : Stmt := topS 30
abbrev sFigs : Stmt := topS 31
theorem un3 : Un3 "cells" "mark" "left" := by unfold Un3; decide +kernel
abbrev Pen (H : Hp) (d : Addr) (B : Int) : Prop := PenG "cells" "mark" "left" H d B
abbrev penK (p : Addr) (c l : Int) : List (Key × V) := penG "cells" "mark" "left" p c l
section
variable {P : Program} {w : World} {K : PySem.W.Frag} {mg : Str → Option Value} {base : Heap} {C : Addr}
theorem scBegin : FnScope ["_law_script"] ["_law_script"] (defScope sBegin) := ⟨rfl, rfl, rfl, by decide +kernel, rfl, by decide +kernel, by decide +kernel⟩
theorem scDraw : FnScope ["_law_pen", "_law_span", "_law_digit", "_law_at", "_law_cell", "_law_n"] ["_law_pen", "_law_span"] (defScope sDraw) := ⟨rfl, rfl, rfl, by decide +kernel, rfl, by decide +kernel, by decide +kernel⟩
/-- draw(pen, n): an int from 0 to n - 1; the pen has begun one draw more -/
def spDraw : Sp := fun vs H Q _ => ∃ (d : Addr) (n B : Int), vs = [.ref d, .int n] ∧ Pen H d B ∧ B ≤ 1000000000 ∧ 0 < n ∧ n ≤ 1000000 ∧
  ∀ (v : Int) (H' : Hp), 0 ≤ v → v < n → Keep d H H' → Pen H' d (B + 1) → Q (.int v) H'
theorem ok_draw (A : At K mg "_law_draw" sDraw ["_law_pen", "_law_span"]) (T : Blt mg) : DefOk P w K mg base CX0 "_law_draw" 1 ["_law_pen", "_law_span"] spDraw := by
  refine A.ok fun f fd F => F.ok scDraw (fun vs H Q E h => ?_) (fun cdv A outer s H vs Q E hr h => ?_)
  · obtain ⟨d, n, B, rfl, _⟩ := h
    rfl
  · obtain ⟨d, n, B, rfl, hp, hB, h0, h1, q⟩ := h
    have hu := hu_of hr
    have nd := scDraw.nd
    refine ⟨_, pss_cons (ps_if (pt_cmpR op_gt (pe_dget hu (pv 0) pe_str (fun _ _ => rfl)) pe_int (nomark _)) (pss_cons (ps_set (i := 2) nd rfl (.inl rfl) (pe_op op_mod (pe_callTy call_int1 (by rfl) T.int (by decide +kernel) (pa_cons (pe_dget hu (pv 0) pe_str (fun _ _ => rfl)) pa_nil)) (pv 1))) (pss_cons (ps_dput hu (pv 0) pe_str (pe_op op_fdiv (pe_dget hu (pv 0) pe_str (fun _ _ => rfl)) (pv 1)) rfl) (pss_one (ps_ret (pv 2))))) pss_nil)
      (pss_cons (ps_set (i := 3) nd rfl (.inl rfl) (pe_dget hu (pv 0) pe_str (fun _ _ => rfl)))
      (pss_cons (ps_dput hu (pv 0) pe_str (pe_op op_add (pv 3) pe_int) rfl)
      (pss_cons (ps_set (i := 4) nd rfl (.inl rfl) (pe_op op_add (pe_op op_mul pe_int (pv 3)) pe_int))
      (C8.pss_cut (ps_if (pt_cmpR (op_neD hr.units) (pe_dget hu (pv 0) pe_str (fun _ _ => rfl)) (pe_lst pa_nil) (nomark _)) (pss_one (ps_set (i := 4) nd rfl (.inl rfl) (pe_ix ix_list (pe_dget hu (pv 0) pe_str (fun _ _ => rfl)) (pe_op op_mod (pe_callTy call_int1 (by rfl) T.int (by decide +kernel) (pa_cons (pv 3) pa_nil)) (pe_callB call_len_seq (by rfl) T.len PySem.boot_len (pa_cons (pe_dget hu (pv 0) pe_str (fun _ _ => rfl)) pa_nil))) (fun _ _ => rfl)))) pss_nil)
      (C8.pss_cut (ps_if (PW.pt (pw_and (pt_cmpR op_lt (pv 3) (pe_callB call_len_seq (by rfl) T.len PySem.boot_len (pa_cons (pe_dget hu (pv 0) pe_str (fun _ _ => rfl)) pa_nil)) (nomark _)) (pw_and1 (pt_cmpR op_ge (pe_callB call_abs (by rfl) T.abs (by decide +kernel) (pa_cons (pv 4) pa_nil)) (pe_op op_pow pe_int pe_int) (nomark _))))) (pss_cons (ps_dput hu (pv 0) pe_str (pe_op op_fdiv (pe_op op_sub (pe_callB call_abs (by rfl) T.abs (by decide +kernel) (pa_cons (pv 4) pa_nil)) (pe_op op_pow pe_int pe_int)) (pv 1)) rfl) (pss_one (ps_ret (pe_op op_mod (pe_callTy call_int1 (by rfl) T.int (by decide +kernel) (pa_cons (pe_op op_sub (pe_callB call_abs (by rfl) T.abs (by decide +kernel) (pa_cons (pv 4) pa_nil)) (pe_op op_pow pe_int pe_int)) pa_nil)) (pv 1))))) pss_nil)
      (pss_cons (ps_set (i := 5) nd rfl (.inl rfl) (pe_op op_add (pe_op op_mul (pe_op op_mod (pe_callTy call_int1 (by rfl) T.int (by decide +kernel) (pa_cons (pv 4) pa_nil)) pe_int) pe_int) (pe_op op_mul (pe_op op_mul pe_int (pv 3)) (pv 3))))
      (pss_cons (ps_set (i := 5) nd rfl (.inl rfl) (pe_op op_mod (pe_callTy call_int1 (by rfl) T.int (by decide +kernel) (pa_cons (pe_op op_add (pe_op op_add (pv 5) (pe_op op_mul pe_int (pv 3))) pe_int) pa_nil)) pe_int))
      (pss_cons (ps_set (i := 5) nd rfl (.inl rfl) (pe_op op_mod (pe_callTy call_int1 (by rfl) T.int (by decide +kernel) (pa_cons (pe_op op_add (pe_op op_add (pe_op op_add (pe_op op_mul (pv 5) (pv 5)) (pe_op op_mul pe_int (pv 5))) (pe_op op_mul pe_int (pv 3))) pe_int) pa_nil)) pe_int))
      (pss_cons (ps_set (i := 5) nd rfl (.inl rfl) (pe_op op_mod (pe_callTy call_int1 (by rfl) T.int (by decide +kernel) (pa_cons (pe_op op_add (pe_op op_add (pe_op op_mul (pv 5) (pv 5)) (pe_op op_mul pe_int (pv 5))) (pv 3)) pa_nil)) pe_int))
      (pss_one (ps_ret (pe_op op_mod (pe_callTy call_int1 (by rfl) T.int (by decide +kernel) (pa_cons (pe_op op_fdiv (pe_op op_mod (pe_callTy call_int1 (by rfl) T.int (by decide +kernel) (pa_cons (pe_op op_mul (pv 5) (pe_op op_add (pv 5) pe_int)) pa_nil)) pe_int) pe_int) pa_nil)) (pv 1))))))))))))), ?_⟩
    obtain ⟨p, ns, c, l, hd, hps, hns, hc0, hcB⟩ := hp.ex
    have npd : p ≠ d := ne_of hps hd (by intro z; cases z)
    have n0 : n ≠ 0 := by omega
    have nB : n < 1073741824 := by omega
    have pn : ∀ {H' : Hp} {c' l' : Int}, H' p = some (.lst (ns.map V.int)) → H' d = some (.dK (penK p c' l')) → 0 ≤ c' → c' ≤ B + 1 → Pen H' d (B + 1) := fun {H' c' l'} a b e g => ⟨p, ns, c', l', b, a, hns, e, g⟩
    refine ⟨_, rfl, d, .int l, rfl, gpen_c un3 hd, l, _, rfl, rfl, _, rfl, ite2 (fun hln => ?_) (fun hln => ?_)⟩
    · refine ⟨_, rfl, d, .int l, rfl, gpen_c un3 hd, .inl ⟨l, rfl, _, rfl, l, n, rfl, rfl, h0, ?_⟩⟩
      refine ⟨_, rfl, d, .int l, rfl, gpen_c un3 hd, _, rfl, l, n, rfl, rfl, ⟨h0, nB⟩, _, rfl, d, _, rfl, ppen_c un3 hd, ?_⟩
      refine ⟨_, rfl, ?_⟩
      exact q _ _ (Int.emod_nonneg _ n0) (Int.emod_lt_of_pos _ h0) Keep.at (pn (by rw [upd_ne npd]; exact hps) upd_same hc0 (by omega))
    · refine ⟨_, rfl, d, .int c, rfl, gpen_b un3 hd, ?_⟩
      refine ⟨_, rfl, _, _, rfl, rfl, _, rfl, d, _, rfl, ppen_b un3 hd, ?_⟩
      refine ⟨_, rfl, _, c, rfl, rfl, .inl ⟨by decide, by decide⟩, _, _, rfl, rfl, ?_⟩
      generalize eH1 : upd H d (.dK (penK p (c + 1) l)) = H1
      have hd1 : H1 d = some (.dK (penK p (c + 1) l)) := by rw [← eH1]; exact upd_same
      have hp1 : H1 p = some (.lst (ns.map V.int)) := by rw [← eH1, upd_ne npd]; exact hps
      have k1 : Keep d H H1 := by rw [← eH1]; exact Keep.at
      refine ⟨fun σ H2 => (∃ x : Int, σ = [some (.ref d), some (.int n), none, some (.int c), some (.int x), none]) ∧ H2 d = some (.dK (penK p (c + 1) l)) ∧ H2 p = some (.lst (ns.map V.int)) ∧ Keep d H H2, ?_, ?_⟩
      · refine ⟨_, rfl, d, .ref p, rfl, gpen_a un3 hd1, Nat.zero_le _, fun e ne => ?_⟩
        have he1 : ∀ {b o}, H1 b = some o → (upd H1 e (.lst [])) b = some o := fun {b o} z => by rw [upd_ne (ne_of_none z ne)]; exact z
        refine ⟨.list (ns.map PyData.int), .list [], .lst (SqL.of (he1 hp1)) (dpG_ints _), .lst (SqL.of upd_same) .nil, shG_ints _, shG_ints [], _, rfl, ?_⟩
        rw [neG_nil]
        generalize eH2 : upd H1 e (.lst []) = H2
        have hd2 : H2 d = some (.dK (penK p (c + 1) l)) := by rw [← eH2]; exact he1 hd1
        have hp2 : H2 p = some (.lst (ns.map V.int)) := by rw [← eH2]; exact he1 hp1
        have k2 : Keep d H H2 := by rw [← eH2]; exact k1.trans (Keep.new ne)
        refine ite2 (fun hne => ?_) (fun hne => ?_)
        · have hn0 : 0 < ns.length := by
            cases ns with
            | nil => simp at hne
            | cons a r => exact Nat.zero_lt_succ _
          have hpos : (0 : Int) < ((ns.map V.int).length : Int) := by rw [List.length_map]; omega
          obtain ⟨j, hj⟩ : ∃ j : Nat, c % ((ns.map V.int).length : Int) = (j : Int) := ⟨(c % ((ns.map V.int).length : Int)).toNat, (Int.toNat_of_nonneg (Int.emod_nonneg _ (by omega))).symm⟩
          have hjl : j < ns.length := by
            have z := Int.emod_lt_of_pos c hpos
            rw [hj, List.length_map] at z
            omega
          refine ⟨_, rfl, d, .ref p, rfl, gpen_a un3 hd2, _, rfl, .inl ⟨c, rfl, _, rfl, d, .ref p, rfl, gpen_a un3 hd2, p, _, rfl, .inl (SqL.of hp2), _, _, rfl, rfl, hpos, p, _, _, .int (ns[j]'hjl), rfl, rfl, SqL.of hp2, L2.at_of hj (by rw [List.getElem?_map, List.getElem?_eq_getElem hjl]; rfl), ?_⟩⟩
          exact ⟨⟨_, rfl⟩, hd2, hp2, k2⟩
        · exact ⟨⟨_, rfl⟩, hd2, hp2, k2⟩
      · rintro σ2 H2 ⟨⟨x, rfl⟩, hd2, hp2, k2⟩
        refine ⟨fun σ H3 => σ = [some (.ref d), some (.int n), none, some (.int c), some (.int x), none] ∧ H3 = H2, ?_, ?_⟩
        · refine ⟨_, rfl, _, rfl, d, .ref p, rfl, gpen_a un3 hd2, p, _, rfl, .inl (SqL.of hp2), _, _, rfl, rfl, _, rfl, ite2 (fun _ => ?_) (fun _ => ⟨rfl, rfl⟩)⟩
          refine ⟨_, rfl, _, rfl, _, _, rfl, rfl, ⟨by decide, by decide, by decide⟩, _, _, rfl, rfl, _, rfl, ite2 (fun _ => ?_) (fun _ => ⟨rfl, rfl⟩)⟩
          refine ⟨_, rfl, _, rfl, _, _, rfl, rfl, ⟨by decide, by decide, by decide⟩, _, _, rfl, rfl, _, rfl, _, _, rfl, rfl, ⟨h0, nB⟩, _, rfl, d, _, rfl, ppen_c un3 hd2, ?_⟩
          refine ⟨_, rfl, _, rfl, _, _, rfl, rfl, ⟨by decide, by decide, by decide⟩, _, _, rfl, rfl, .inl ⟨_, rfl, _, rfl, _, _, rfl, rfl, h0, ?_⟩⟩
          exact q _ _ (Int.emod_nonneg _ n0) (Int.emod_lt_of_pos _ h0) (k2.trans Keep.at) (pn (by rw [upd_ne npd]; exact hp2) upd_same (by omega) (by omega))
        · rintro σ3 H3 ⟨rfl, rfl⟩
          have hc64 : -(2 ^ 64) < c ∧ c < 2 ^ 64 := ⟨by omega, by omega⟩
          have sm : ∀ {y : Int}, 0 ≤ y → y < 2147483648 → -(2 ^ 64) < y ∧ y < 2 ^ 64 := fun a b => ⟨by omega, by omega⟩
          refine ⟨_, rfl, .inl ⟨x, rfl, _, _, rfl, rfl, (show (0 : Int) < 2147483629 by decide), _, _, rfl, rfl, .inr ⟨by decide, by decide⟩, ?_⟩⟩
          refine ⟨_, rfl, _, c, rfl, rfl, .inl ⟨by decide, by decide⟩, _, rfl, _, c, rfl, rfl, .inr hc64, _, _, rfl, rfl, ?_⟩
          refine ⟨_, rfl, _, rfl, _, c, rfl, rfl, .inl ⟨by decide, by decide⟩, _, _, rfl, rfl, _, _, rfl, rfl, .inl ⟨_, rfl, _, _, rfl, rfl, (show (0 : Int) < 2147483587 by decide), ?_⟩⟩
          dsimp only
          generalize x % 2147483629 * 51971 + 28279 * c * c = y1
          have a1 := Int.emod_lt_of_pos (y1 + 619 * c + 71) (show (0 : Int) < 2147483587 by decide)
          have a2 := Int.emod_nonneg (y1 + 619 * c + 71) (show (2147483587 : Int) ≠ 0 by decide)
          generalize (y1 + 619 * c + 71) % 2147483587 = y2 at a1 a2
          refine ⟨_, rfl, _, rfl, y2, y2, rfl, rfl, .inl (sm a2 (by omega)), _, rfl, _, y2, rfl, rfl, .inl ⟨by decide, by decide⟩, _, _, rfl, rfl, _, rfl, _, c, rfl, rfl, .inl ⟨by decide, by decide⟩, _, _, rfl, rfl, _, _, rfl, rfl, .inl ⟨_, rfl, _, _, rfl, rfl, (show (0 : Int) < 2147483579 by decide), ?_⟩⟩
          dsimp only
          have b1 := Int.emod_lt_of_pos (y2 * y2 + 38851 * y2 + 67 * c + 11) (show (0 : Int) < 2147483579 by decide)
          have b2 := Int.emod_nonneg (y2 * y2 + 38851 * y2 + 67 * c + 11) (show (2147483579 : Int) ≠ 0 by decide)
          generalize (y2 * y2 + 38851 * y2 + 67 * c + 11) % 2147483579 = y3 at b1 b2
          refine ⟨_, rfl, _, rfl, y3, y3, rfl, rfl, .inl (sm b2 (by omega)), _, rfl, _, y3, rfl, rfl, .inl ⟨by decide, by decide⟩, _, _, rfl, rfl, _, rfl, _, _, rfl, rfl, .inl ⟨_, rfl, _, _, rfl, rfl, (show (0 : Int) < 2147483563 by decide), ?_⟩⟩
          dsimp only
          have c1 := Int.emod_lt_of_pos (y3 * y3 + 30011 * y3 + c) (show (0 : Int) < 2147483563 by decide)
          have c2 := Int.emod_nonneg (y3 * y3 + 30011 * y3 + c) (show (2147483563 : Int) ≠ 0 by decide)
          generalize (y3 * y3 + 30011 * y3 + c) % 2147483563 = y4 at c1 c2
          refine ⟨_, rfl, _, rfl, y4, _, rfl, rfl, y4, _, rfl, rfl, .inl (sm c2 (by omega)), .inl ⟨_, rfl, _, _, rfl, rfl, (show (0 : Int) < 2147483549 by decide), _, _, rfl, rfl, ⟨(show (0 : Int) < 64 by decide), (show (64 : Int) < 1073741824 by decide)⟩, .inl ⟨_, rfl, _, rfl, _, n, rfl, rfl, h0, ?_⟩⟩⟩
          exact q _ _ (Int.emod_nonneg _ n0) (Int.emod_lt_of_pos _ h0) k2 (pn hp2 hd2 (by omega) (by omega))
def spBegin (K : PySem.W.Frag) : Sp := fun vs H Q _ => ∃ (a : Addr) (ns : List Int), vs = [.ref a] ∧ SqL K H a (ns.map V.int) ∧ ns.length ≤ 63 ∧ ∀ (d : Addr) (H' : Hp), H d = none → Same H H' → Pen H' d 0 → Q (.ref d) H'
theorem ok_begin (A : At K mg "_law_begin" sBegin ["_law_script"]) (T : Blt mg) : DefOk P w K mg base CX0 "_law_begin" 1 ["_law_script"] (spBegin K) := by
  refine A.ok fun f fd F => F.ok scBegin (fun vs H Q E h => ?_) (fun cdv A outer s H vs Q E hr h => ?_)
  · obtain ⟨a, ns, rfl, _⟩ := h
    rfl
  · obtain ⟨a, ns, rfl, hS, hl, q⟩ := h
    refine ⟨_, pss_one (ps_ret (pe_disp (pps_cons pe_str (pe_callTy call_list_of (by rfl) T.list (by decide +kernel) (pa_cons (pe_slice sl_list (pv 0) po_none (po_some pe_int)) pa_nil)) (pps_cons pe_str pe_int (pps_cons pe_str pe_int pps_nil))) (by rfl) (by rfl) (fun z => by cases z) (by decide))), ?_⟩
    intro d hd
    have s0 : Same H (upd H d (.dK [])) := same_new hd
    refine ⟨_, rfl, 63, rfl, a, _, rfl, s0.seq hS, fun c hc => ?_⟩
    rw [cut63 _ (by rw [List.length_map]; exact hl)]
    have s1 : Same H (upd (upd H d (.dK [])) c (.lst (ns.map V.int))) := s0.trans (same_new hc)
    refine ⟨c, _, rfl, .inl (SqL.of upd_same), fun p hp => ?_⟩
    have s2 : Same (upd (upd H d (.dK [])) c (.lst (ns.map V.int))) (upd (upd (upd H d (.dK [])) c (.lst (ns.map V.int))) p (.lst (ns.map V.int))) := same_new hp
    have hdd : upd (upd (upd H d (.dK [])) c (.lst (ns.map V.int))) p (.lst (ns.map V.int)) d = some (.dK []) := s2 _ _ (same_new hc _ _ upd_same)
    have npd : p ≠ d := fun z => by
      rw [z] at hp
      have := same_new (o := .lst (ns.map V.int)) hc _ _ (upd_same (H := H) (a := d) (o := .dK []))
      rw [hp] at this
      cases this
    refine ⟨hdd, [(Sum.inr "cells", .ref p), (Sum.inr "mark", .int 0), (Sum.inr "left", .int 0)], rfl, by show 3 ≤ 15; decide, ?_⟩
    rw [merge_pen un3]
    refine q d _ hd (fun b o e => ?_) ⟨p, ns, 0, 0, upd_same, ?_, hl, by omega, by omega⟩
    · rw [upd_ne (ne_of_none e hd)]
      exact s2 _ _ (s1 _ _ e)
    · rw [upd_ne npd]
      exact upd_same
theorem scPick : FnScope ["_law_pen", "_law_some"] ["_law_pen", "_law_some"] (defScope sPick) := ⟨rfl, rfl, rfl, by decide +kernel, rfl, by decide +kernel, by decide +kernel⟩
def spPick : Sp := fun vs H Q _ => ∃ (d a : Addr) (xs : List V) (B : Int), vs = [.ref d, .ref a] ∧ H a = some (.lst xs) ∧ xs ≠ [] ∧ xs.length ≤ 1000 ∧ Pen H d B ∧ B ≤ 1000000000 ∧ ∀ (x : V) (H' : Hp), x ∈ xs → Keep d H H' → Pen H' d (B + 1) → Q x H'
theorem ok_pick (A : At K mg "_law_pick" sPick ["_law_pen", "_law_some"]) (T : Blt mg) (D : DefOk P w K mg base CX0 "_law_draw" 1 ["_law_pen", "_law_span"] spDraw) : DefOk P w K mg base CX0 "_law_pick" 2 ["_law_pen", "_law_some"] spPick := by
  refine A.ok fun f fd F => F.ok scPick (fun vs H Q E h => ?_) (fun cdv A outer s H vs Q E hr h => ?_)
  · obtain ⟨d, a, xs, B, rfl, _⟩ := h
    rfl
  · obtain ⟨d, a, xs, B, rfl, ha, hne, hl, hp, hB, q⟩ := h
    refine ⟨_, pss_one (ps_ret (pe_ix ix_list (pv 1) (pe_def D hr (by decide) (by rfl) pass0 (pa_cons (pv 0) (pa_cons (pe_callB call_len_seq (by rfl) T.len PySem.boot_len (pa_cons (pv 1) pa_nil)) pa_nil))) (fun _ _ => rfl))), ?_⟩
    have h0 : 0 < xs.length := List.length_pos_iff.mpr hne
    refine ⟨_, rfl, _, rfl, _, rfl, a, xs, rfl, .inl (SqL.of ha), d, (xs.length : Int), B, rfl, hp, hB, by omega, by omega, fun v H' h1 h2 kp hp' => ?_⟩
    have nad : a ≠ d := by
      obtain ⟨p, ns, c, l, e, _⟩ := hp.ex
      exact ne_of ha e (by intro z; cases z)
    obtain ⟨j, rfl⟩ : ∃ j : Nat, v = (j : Int) := ⟨v.toNat, (Int.toNat_of_nonneg h1).symm⟩
    have hj : j < xs.length := by omega
    exact ⟨a, xs, _, xs[j], rfl, rfl, SqL.of (kp _ _ nad ha), atI_nat (List.getElem?_eq_getElem hj), q _ _ (List.getElem_mem hj) kp hp'⟩
theorem scFigs : FnScope ["_law_pen", "_law_many", "_law_found", "_law_k"] ["_law_pen", "_law_many"] (defScope sFigs) := ⟨rfl, rfl, rfl, by decide +kernel, rfl, by decide +kernel, by decide +kernel⟩
def spFigs : Sp := fun vs H Q _ => ∃ (d : Addr) (M : Nat) (B : Int), vs = [.ref d, .int M] ∧ M ≤ 100 ∧ Pen H d B ∧ B ≤ 900000000 ∧ ∀ (v : Int) (H' : Hp), 0 ≤ v → v < (10 : Int) ^ M → Keep d H H' → Pen H' d (B + 200) → Q (.int v) H'
theorem ok_figs (A : At K mg "_law_figures" sFigs ["_law_pen", "_law_many"]) (T : Blt mg) (D : DefOk P w K mg base CX0 "_law_draw" 1 ["_law_pen", "_law_span"] spDraw) : DefOk P w K mg base CX0 "_law_figures" 2 ["_law_pen", "_law_many"] spFigs := by
  refine A.ok fun f fd F => F.ok scFigs (fun vs H Q E h => ?_) (fun cdv A outer s H vs Q E hr h => ?_)
  · obtain ⟨d, M, B, rfl, _⟩ := h
    rfl
  · obtain ⟨d, M, B, rfl, hM, hp, hB, q⟩ := h
    have nd := scFigs.nd
    refine ⟨_, pss_cons (ps_set (i := 2) nd rfl (.inl rfl) pe_int)
      (pss_cons (ps_for PassesOwn.never rfl (pi_range1 (by rfl) T.range (pa_cons (pe_def D hr (by decide) (by rfl) pass0 (pa_cons (pv 0) (pa_cons (pe_op op_add (pv 1) pe_int) pa_nil))) pa_nil)) (pg_name (i := 3) nd rfl (.inl rfl)) (pss_one (ps_set (i := 2) nd rfl (.inl rfl) (pe_op op_add (pe_op op_mul (pv 2) pe_int) (pe_def D hr (by decide) (by rfl) pass0 (pa_cons (pv 0) (pa_cons pe_int pa_nil)))))))
      (pss_one (ps_ret (pv 2)))), ?_⟩
    refine ⟨_, rfl, _, rfl, _, _, rfl, rfl, d, (M : Int) + 1, B, rfl, hp, by omega, by omega, by omega, fun m H1 m0 m1 k1 p1 => ?_⟩
    refine ⟨m, rfl, by omega, by omega, for_range (lo := 0) (n := m.toNat) (fun i σ H' => (∃ (v : Int) (y : Option V), σ = [some (.ref d), some (.int M), some (.int v), y] ∧ 0 ≤ v ∧ v < (10 : Int) ^ i) ∧ Keep d H H' ∧ Pen H' d (B + 1 + i)) ⟨⟨0, none, rfl, by omega, by decide⟩, k1, p1.mono (by omega)⟩ ?_ ?_⟩
    · rintro i σ H' hi ⟨⟨v, y, rfl, v0, v1⟩, kk, pp⟩
      dsimp only [gName, List.set]
      refine ⟨_, rfl, _, _, rfl, rfl, .inr ⟨by decide, by decide⟩, _, rfl, d, 10, _, rfl, pp, by omega, by decide, by decide, fun x H2 x0 x1 k2 p2 => ⟨_, _, rfl, rfl, ?_⟩⟩
      exact ⟨⟨_, _, rfl, by omega, by rw [Int.pow_succ]; omega⟩, kk.trans k2, p2.mono (by omega)⟩
    · rintro σ H' ⟨⟨v, y, rfl, v0, v1⟩, kk, pp⟩
      exact ⟨_, rfl, q v H' v0 (Int.lt_of_lt_of_le v1 (ten_mono (by omega))) kk (pp.mono (by omega))⟩
end
end K45

/-! k45: the program's checks, powers of ten. -/
namespace K45
open PySem PySem.Spec PyProof.Rows L2 LamX NdefX Own
abbrev pInt : Stmt := topS 6
abbrev pWhole : Stmt := topS 7
abbrev pNInt : Stmt := topS 8
abbrev pNWhole : Stmt := topS 9
abbrev pTenTo : Stmt := topS 10
section
variable {P : Program} {w : World} {K : PySem.W.Frag} {mg : Str → Option Value} {base : Heap} {C aT : Addr}
theorem scpInt : FnScope ["value"] ["value"] (defScope pInt) := ⟨rfl, rfl, rfl, by decide +kernel, rfl, by decide +kernel, by decide +kernel⟩
def spIsInt : Sp := fun vs H Q _ => ∃ x : V, vs = [x] ∧ Thing H x ∧ Q (.bl (Own.isInt x)) H
theorem ok_isInt (A : At K mg "is_an_integer" pInt ["value"]) (T : Blt mg) : DefOk P w K mg base CX0 "is_an_integer" 1 ["value"] spIsInt := by
  refine A.ok fun f fd F => F.ok scpInt (fun vs H Q E h => ?_) (fun cdv A outer s H vs Q E hr h => ?_)
  · obtain ⟨x, rfl, _⟩ := h
    rfl
  · obtain ⟨x, rfl, th, q⟩ := h
    refine ⟨_, pss_one (ps_ret (pe_and (pe_callB call_isi (by rfl) T.isi (by decide +kernel) (pa_cons (pv 0) (pa_cons (pe_bltn (v := .ty "int") (by rfl) T.int (by decide +kernel) rfl) pa_nil)))
      (pe_one (pe_not (pe_callB call_isi (by rfl) T.isi (by decide +kernel) (pa_cons (pv 0) (pa_cons (pe_bltn (v := .ty "bool") (by rfl) T.bool (by decide +kernel) rfl) pa_nil))))))), ?_⟩
    obtain ⟨t, ht, h1, h2⟩ := th.isi (K := K)
    have hb : isBl x = true → Own.isInt x = false := by cases x <;> simp [Own.isInt, isBl]
    refine ⟨_, rfl, x, .ty "int", t, _, _, rfl, .ty _, ht, h1, _, rfl, ite2 (fun e => ?_) (fun e => ?_)⟩
    · refine ⟨_, rfl, x, .ty "bool", t, _, _, rfl, .ty _, ht, h2, _, rfl, ?_⟩
      have z : (!isBl x) = Own.isInt x := by cases e1 : Own.isInt x <;> cases e2 : isBl x <;> simp_all
      rw [z]
      exact q
    · have z : false = Own.isInt x := by cases e1 : Own.isInt x <;> cases e2 : isBl x <;> simp_all
      rw [z]
      exact q
/-- an integer from 0 on -/
def isWh : V → Bool
  | .int i => decide (0 ≤ i)
  | _ => false
theorem scpWhole : FnScope ["value"] ["value"] (defScope pWhole) := ⟨rfl, rfl, rfl, by decide +kernel, rfl, by decide +kernel, by decide +kernel⟩
def spIsWh : Sp := fun vs H Q _ => ∃ x : V, vs = [x] ∧ Thing H x ∧ Q (.bl (isWh x)) H
theorem ok_isWh (A : At K mg "is_whole_number" pWhole ["value"]) (D : DefOk P w K mg base CX0 "is_an_integer" 1 ["value"] spIsInt) : DefOk P w K mg base CX0 "is_whole_number" 2 ["value"] spIsWh := by
  refine A.ok fun f fd F => F.ok scpWhole (fun vs H Q E h => ?_) (fun cdv A outer s H vs Q E hr h => ?_)
  · obtain ⟨x, rfl, _⟩ := h
    rfl
  · obtain ⟨x, rfl, th, q⟩ := h
    refine ⟨_, pss_one (ps_ret (pe_and (pe_def D hr (by decide) (by rfl) pass0 (pa_cons (pv 0) pa_nil)) (pe_one (pe_cmpR op_ge (pv 0) pe_int (nomark _))))), ?_⟩
    refine ⟨_, rfl, x, rfl, th, _, rfl, ite2 (fun e => ?_) (fun e => ?_)⟩
    · cases x <;> first | (exact ⟨_, rfl, _, _, rfl, rfl, q⟩) | (simp [Own.isInt] at e)
    · have z : isWh x = false := by cases x <;> first | rfl | (simp [Own.isInt] at e)
      rw [z] at q
      exact q
theorem scpNInt : FnScope ["value"] ["value"] (defScope pNInt) := ⟨rfl, rfl, rfl, by decide +kernel, rfl, by decide +kernel, by decide +kernel⟩
def spNInt (C : Addr) : Sp := fun vs H Q E => ∃ x : V, vs = [x] ∧ Thing H x ∧ (Own.isInt x = true → Q .non H) ∧ (Own.isInt x = false → Bad C "value" x H E)
theorem ok_nInt (A : At K mg "need_integer" pNInt ["value"]) (T : ErrC P w K mg base "BadValue" "value" 1 C (spErr C "value")) (D : DefOk P w K mg base CX0 "is_an_integer" 1 ["value"] spIsInt) : DefOk P w K mg base (L2.CX P w) "need_integer" 3 ["value"] (spNInt C) := by
  refine A.ok fun f fd F => F.okX scpNInt (fun vs H Q E h => ?_) (fun cdv A outer s H vs Q E hr h => ?_)
  · obtain ⟨x, rfl, _⟩ := h
    rfl
  · obtain ⟨x, rfl, th, q1, q2⟩ := h
    refine ⟨_, pss_one (ps_if (pt_not (pt_val (pe_def D hr (by decide) (by rfl) pass0 (pa_cons (pv 0) pa_nil)))) (pss_one (ps_raise rfl (takes_of rfl rfl rfl rfl) (pmk_err T hr (by decide) (by rfl) (pv 0)))) pss_nil), ?_⟩
    refine ⟨_, rfl, x, rfl, th, _, rfl, ite2 (fun e => ?_) (fun e => ?_)⟩
    · exact ⟨_, rfl, bad_mk (q2 (by simpa using e))⟩
    · exact q1 (by simpa using e)
theorem scpNWh : FnScope ["value"] ["value"] (defScope pNWhole) := ⟨rfl, rfl, rfl, by decide +kernel, rfl, by decide +kernel, by decide +kernel⟩
def spNWh (C : Addr) : Sp := fun vs H Q E => ∃ x : V, vs = [x] ∧ Thing H x ∧ (isWh x = true → Q .non H) ∧ (isWh x = false → Bad C "value" x H E)
theorem ok_nWh (A : At K mg "need_whole_number" pNWhole ["value"]) (T : ErrC P w K mg base "BadValue" "value" 1 C (spErr C "value")) (D : DefOk P w K mg base CX0 "is_whole_number" 2 ["value"] spIsWh) : DefOk P w K mg base (L2.CX P w) "need_whole_number" 3 ["value"] (spNWh C) := by
  refine A.ok fun f fd F => F.okX scpNWh (fun vs H Q E h => ?_) (fun cdv A outer s H vs Q E hr h => ?_)
  · obtain ⟨x, rfl, _⟩ := h
    rfl
  · obtain ⟨x, rfl, th, q1, q2⟩ := h
    refine ⟨_, pss_one (ps_if (pt_not (pt_val (pe_def D hr (by decide) (by rfl) pass0 (pa_cons (pv 0) pa_nil)))) (pss_one (ps_raise rfl (takes_of rfl rfl rfl rfl) (pmk_err T hr (by decide) (by rfl) (pv 0)))) pss_nil), ?_⟩
    refine ⟨_, rfl, x, rfl, th, _, rfl, ite2 (fun e => ?_) (fun e => ?_)⟩
    · exact ⟨_, rfl, bad_mk (q2 (by simpa using e))⟩
    · exact q1 (by simpa using e)
/-! ### ten_to: a table below sixteen, then halves -/
def tensL : List Int := (List.range 16).map fun i => (10 : Int) ^ i
theorem scTenTo : FnScope ["places", "half"] ["places"] (defScope pTenTo) := ⟨rfl, rfl, rfl, by decide +kernel, rfl, by decide +kernel, by decide +kernel⟩
def spTenTo (k : Nat) : Sp := fun vs H Q _ => ∃ n : Nat, vs = [.int n] ∧ n < 16 * 2 ^ k ∧ Q (.int ((10 : Int) ^ n)) H
theorem bot_of {x : Str} {st : Stmt} {ps : List Str} (A : At K mg x st ps) : DefOk P w K mg base CX0 x 0 ps (fun _ _ _ _ => False) :=
  A.ok fun f fd F => ⟨fun _ _ _ _ h => h.elim, fun _ _ _ _ _ _ _ _ _ _ _ _ _ h => h.elim⟩
theorem tens_at {n : Nat} (h : n < 16) : atI (tensL.map V.int) (n : Int) = some (.int ((10 : Int) ^ n)) := by
  refine atI_nat ?_
  rw [List.getElem?_map]
  unfold tensL
  rw [List.getElem?_map, List.getElem?_range h]
  rfl
theorem tens_len : ((tensL.map V.int).length : Int) = 16 := by decide +kernel
theorem tenTo_step {k N : Nat} {spD : Sp} (A : At K mg "ten_to" pTenTo ["places"]) (T : Blt mg) (gT : mg "TENS" = some (.ref aT)) (tens : ∀ H : Hp, SqT K H aT (tensL.map V.int)) (hN : N ≤ 4096) (D : DefOk P w K mg base CX0 "ten_to" k ["places"] spD)
    (h : ∀ (n : Nat) (H : Hp) (Q : VK) (E : XK), 16 ≤ n → n < N → Q (.int ((10 : Int) ^ (n / 2))) H → spD [.int ((n / 2 : Nat) : Int)] H Q E) : DefOk P w K mg base CX0 "ten_to" (k + 1) ["places"] (fun vs H Q _ => ∃ n : Nat, vs = [.int n] ∧ n < N ∧ Q (.int ((10 : Int) ^ n)) H) := by
  refine A.ok fun f fd F => F.ok scTenTo (fun vs H Q E h => ?_) (fun cdv A outer s H vs Q E hr hq => ?_)
  · obtain ⟨n, rfl, _⟩ := h
    rfl
  · obtain ⟨n, rfl, hn, q⟩ := hq
    have nd := scTenTo.nd
    refine ⟨_, pss_cons (ps_if (pt_cmpR op_lt (pv 0) (pe_callB call_len_seq (by rfl) T.len PySem.boot_len (pa_cons (pe_glob (v := .ref aT) (by rfl) gT rfl) pa_nil)) (nomark _)) (pss_one (ps_ret (pe_ix ix_tup (pe_glob (v := .ref aT) (by rfl) gT rfl) (pv 0) (fun _ _ => rfl)))) pss_nil)
      (pss_cons (ps_set (i := 1) nd rfl (.inl rfl) (pe_def (E := E0) D hr (Nat.le_refl _) (by rfl) pass0 (pa_cons (pe_op op_fdiv (pv 0) pe_int) pa_nil)))
      (pss_cons (ps_if (pt_cmpR op_eq (pe_op op_mod (pv 0) pe_int) pe_int (nomark _)) (pss_one (ps_ret (pe_op op_mulW (pe_op op_mulW (pv 1) (pv 1)) pe_int))) pss_nil)
      (pss_one (ps_ret (pe_op op_mulW (pv 1) (pv 1)))))), ?_⟩
    refine ⟨_, rfl, aT, _, rfl, .inr (tens H), _, _, rfl, rfl, _, rfl, ite2 (fun e => ?_) (fun e => ?_)⟩
    · have hl : n < 16 := by
        have z := of_decide_eq_true e
        rw [tens_len] at z
        omega
      exact ⟨_, rfl, aT, _, _, _, rfl, rfl, tens H, tens_at hl, q⟩
    · have hg : 16 ≤ n := by
        have z : ¬ ((n : Int) < ((tensL.map V.int).length : Int)) := fun z => e (decide_eq_true z)
        rw [tens_len] at z
        omega
      refine ⟨_, rfl, _, _, rfl, rfl, ⟨by decide, by decide⟩, ?_⟩
      have e2 : (n : Int) / 2 = ((n / 2 : Nat) : Int) := by omega
      dsimp only
      rw [e2]
      refine h n H _ _ hg hn ?_
      have b := ten_lt (n / 2)
      have b2 : ((10 : Int) ^ (n / 2) * (10 : Int) ^ (n / 2)).natAbs < 2 ^ (4 * (n / 2) + 1 + (4 * (n / 2) + 1)) := wide_lt b b
      refine ⟨_, rfl, _, _, rfl, rfl, (show (0 : Int) < 2 by decide), rfl, _, rfl, ite2 (fun e => ?_) (fun e => ?_)⟩
      · have ho : (n : Int) % 2 = 1 := by simpa using e
        refine ⟨_, rfl, _, rfl, _, _, rfl, rfl, wide_mul b b (by omega) (by omega) (by omega), _, _, rfl, rfl, wide_mul b2 (show ((10 : Int)).natAbs < 2 ^ 4 by decide) (by omega) (by decide) (by omega), ?_⟩
        have ex : (10 : Int) ^ (n / 2) * (10 : Int) ^ (n / 2) * 10 = (10 : Int) ^ n := by
          rw [← Int.pow_add, ← Int.pow_succ]
          congr 1
          omega
        show Q (.int ((10 : Int) ^ (n / 2) * (10 : Int) ^ (n / 2) * 10)) H
        rw [ex]
        exact q
      · have ho : (n : Int) % 2 ≠ 1 := by simpa using e
        refine ⟨_, rfl, _, rfl, _, _, rfl, rfl, wide_mul b b (by omega) (by omega) (by omega), ?_⟩
        have ex : (10 : Int) ^ (n / 2) * (10 : Int) ^ (n / 2) = (10 : Int) ^ n := by
          rw [← Int.pow_add]
          congr 1
          omega
        show Q (.int ((10 : Int) ^ (n / 2) * (10 : Int) ^ (n / 2))) H
        rw [ex]
        exact q
theorem ok_tenTo (A : At K mg "ten_to" pTenTo ["places"]) (T : Blt mg) (gT : mg "TENS" = some (.ref aT)) (tens : ∀ H : Hp, SqT K H aT (tensL.map V.int)) : ∀ k : Nat, k ≤ 8 → DefOk P w K mg base CX0 "ten_to" (k + 1) ["places"] (spTenTo k)
  | 0, _ => tenTo_step A T gT tens (by decide) (bot_of A) fun n H Q E h1 h2 _ => absurd h1 (by omega)
  | k + 1, hk => by
    have le : 16 * 2 ^ (k + 1) ≤ 4096 := by
      have := Nat.pow_le_pow_right (show 0 < 2 by decide) hk
      omega
    refine tenTo_step A T gT tens le (ok_tenTo A T gT tens k (by omega)) fun n H Q E h1 h2 q => ⟨n / 2, rfl, ?_, q⟩
    rw [Nat.pow_succ] at h2
    omega
end
end K45

/-! k45: without_zeros. -/
namespace K45
open PySem PySem.Spec PyProof.Rows L2 LamX NdefX Own
abbrev pWz : Stmt := topS 14
/-- u' at the scale s' is u at s, at its own scale -/
structure IsLow (u : Int) (s : Nat) (u' : Int) (s' : Nat) : Prop where
  le : s' ≤ s
  eq : u = u' * (10 : Int) ^ (s - s')
  own : s' = 0 ∨ u' % 10 ≠ 0
theorem low_step {u u' : Int} {s s' st : Nat} (h1 : s' ≤ s) (h2 : st ≤ s') (e : u = u' * (10 : Int) ^ (s - s')) (d : (10 : Int) ^ st ∣ u') : u = u' / (10 : Int) ^ st * (10 : Int) ^ (s - (s' - st)) := by
  obtain ⟨c, rfl⟩ := d
  have p : (10 : Int) ^ st ≠ 0 := Int.ne_of_gt (ten_pos st)
  rw [Int.mul_ediv_cancel_left _ p, e]
  have z : s - (s' - st) = st + (s - s') := by omega
  rw [z, Int.pow_add, Int.mul_comm ((10 : Int) ^ st) c, Int.mul_assoc]
theorem dvd_step {u' : Int} {st : Nat} (d : (10 : Int) ^ st ∣ u') (n : ¬ (10 : Int) ^ (2 * st) ∣ u') : ¬ (10 : Int) ^ st ∣ u' / (10 : Int) ^ st := by
  obtain ⟨c, rfl⟩ := d
  have p : (10 : Int) ^ st ≠ 0 := Int.ne_of_gt (ten_pos st)
  rw [Int.mul_ediv_cancel_left _ p]
  rintro ⟨k, rfl⟩
  refine n ⟨k, ?_⟩
  have z : 2 * st = st + st := by omega
  rw [z, Int.pow_add, Int.mul_assoc]
/-- what the halving steps leave -/
def Half (u' : Int) (s' st : Nat) : Prop := (st = 0 ∧ (s' = 0 ∨ u' % 10 ≠ 0)) ∨ ((∃ j, st = 2 ^ j) ∧ ¬ (2 * st ≤ s' ∧ (10 : Int) ^ (2 * st) ∣ u'))
theorem half_next {u' : Int} {s' st : Nat} (hp : ∃ j, st = 2 ^ j) (n : ¬ (st ≤ s' ∧ (10 : Int) ^ st ∣ u')) : Half u' s' (st / 2) := by
  obtain ⟨j, rfl⟩ := hp
  cases j with
  | zero =>
    refine .inl ⟨rfl, ?_⟩
    by_cases h : s' = 0
    · exact .inl h
    · refine .inr fun z => n ⟨by simp; omega, ?_⟩
      simpa using Int.dvd_of_emod_eq_zero z
  | succ j =>
    have e : 2 ^ (j + 1) / 2 = 2 ^ j := by rw [Nat.pow_succ]; omega
    refine .inr ⟨⟨j, e⟩, ?_⟩
    rw [e]
    have e2 : 2 * 2 ^ j = 2 ^ (j + 1) := by rw [Nat.pow_succ]; omega
    rw [e2]
    exact n
section
variable {P : Program} {w : World} {K : PySem.W.Frag} {mg : Str → Option Value} {base : Heap}
theorem scWz : FnScope ["units", "scale", "step", "block"] ["units", "scale"] (defScope pWz) := ⟨rfl, rfl, rfl, by decide +kernel, rfl, by decide +kernel, by decide +kernel⟩
def spWz : Sp := fun vs H Q _ => ∃ (u : Int) (s : Nat), vs = [.int u, .int s] ∧ s < 2000 ∧ ∀ (u' : Int) (s' : Nat) (p : Addr), IsLow u s u' s' → H p = none → Q (.ref p) (upd H p (.tup [.int u', .int s']))
theorem ok_wz (A : At K mg "without_zeros" pWz ["units", "scale"]) (D : DefOk P w K mg base CX0 "ten_to" 9 ["places"] (spTenTo 8)) : DefOk P w K mg base CX0 "without_zeros" 10 ["units", "scale"] spWz := by
  refine A.ok fun f fd F => F.ok scWz (fun vs H Q E h => ?_) (fun cdv A outer s0 H vs Q E hr h => ?_)
  · obtain ⟨u, s, rfl, _⟩ := h
    rfl
  · obtain ⟨u, s, rfl, hs, q⟩ := h
    have nd := scWz.nd
    refine ⟨_, pss_cons (ps_if (PW.pt (pw_or (pt_cmpR op_eq (pv 1) pe_int (nomark _)) (pw_or1 (pt_cmpR op_ne (pe_op op_mod (pv 0) pe_int) pe_int (nomark _))))) (pss_one (ps_ret (pe_tup (pa_cons (pv 0) (pa_cons (pv 1) pa_nil))))) pss_nil)
      (pss_cons (ps_if (pt_cmpR op_eq (pv 0) pe_int (nomark _)) (pss_one (ps_ret (pe_tup (pa_cons pe_int (pa_cons pe_int pa_nil))))) pss_nil)
      (pss_cons (ps_set (i := 2) nd rfl (.inl rfl) pe_int)
      (pss_cons (ps_while PassesOwn.never (pt_cmpR op_le (pe_op op_mul (pv 2) pe_int) (pv 1) (nomark _)) (pss_one (ps_set (i := 2) nd rfl (.inl rfl) (pe_op op_mul (pv 2) pe_int))))
      (pss_cons (ps_while PassesOwn.never (pt_cmpR op_gt (pv 2) pe_int (nomark _)) (pss_cons (ps_set (i := 3) nd rfl (.inl rfl) (pe_def D hr (by decide) (by rfl) pass0 (pa_cons (pv 2) pa_nil)))
        (pss_cons (ps_if (PW.pt (pw_and (pt_cmpR op_le (pv 2) (pv 1) (nomark _)) (pw_and1 (pt_cmpR op_eq (pe_op op_mod (pv 0) (pv 3)) pe_int (nomark _)))))
          (pss_one (ps_par (i := 0) (j := 1) (by rfl) nd rfl rfl (by decide) rfl rfl (pa_cons (pe_op op_fdivW (pv 0) (pv 3)) (pa_cons (pe_op op_sub (pv 1) (pv 2)) pa_nil)) (by rfl))) pss_nil)
        (pss_one (ps_set (i := 2) nd rfl (.inl rfl) (pe_op op_fdiv (pv 2) pe_int))))))
      (pss_one (ps_ret (pe_tup (pa_cons (pv 0) (pa_cons (pv 1) pa_nil))))))))), ?_⟩
    refine ⟨_, rfl, rfl, _, rfl, ite2 (fun e => iteT ?_) (fun e => ?_)⟩
    · have h0 : s = 0 := by simpa using e
      subst h0
      exact ⟨_, rfl, _, rfl, by show 2 ≤ sizeLine; decide, fun p np => q u 0 p ⟨Nat.le_refl _, by simp, .inl rfl⟩ np⟩
    have hs0 : s ≠ 0 := by simpa using e
    refine ⟨_, rfl, _, _, rfl, rfl, (show (0 : Int) < 10 by decide), rfl, _, rfl, ite2 (fun e => ?_) (fun e => ?_)⟩
    · have h0 : u % 10 ≠ 0 := by simpa using e
      exact ⟨_, rfl, _, rfl, by show 2 ≤ sizeLine; decide, fun p np => q u s p ⟨Nat.le_refl _, by simp, .inr h0⟩ np⟩
    refine ⟨_, rfl, rfl, _, rfl, ite2 (fun e => ?_) (fun e => ?_)⟩
    · have h0 : u = 0 := by simpa using e
      exact ⟨by show 2 ≤ sizeLine; decide, fun p np => q 0 0 p ⟨Nat.zero_le _, by rw [h0]; simp, .inl rfl⟩ np⟩
    dsimp only [gName, List.set]
    refine ⟨fun m σ H' => H' = H ∧ ∃ j : Nat, σ = [some (.int u), some (.int s), some (.int ((2 ^ j : Nat) : Int)), none] ∧ 2 ^ j ≤ s ∧ m = s - 2 ^ j, ⟨_, rfl, 0, rfl, by simp; omega, rfl⟩, ?_⟩
    rintro m σ H1 ⟨rfl, j, rfl, hj, rfl⟩
    have jp : 0 < 2 ^ j := Nat.pow_pos (by decide)
    refine ⟨_, rfl, _, _, rfl, rfl, .inr ⟨by decide, by decide⟩, _, rfl, _, _, rfl, rfl, _, rfl, ite2 (fun e => ?_) (fun e => ?_)⟩
    · have hle : ((2 ^ j : Nat) : Int) * 2 ≤ (s : Int) := of_decide_eq_true e
      refine ⟨fun σ' H' => H' = H1 ∧ σ' = [some (.int u), some (.int s), some (.int ((2 ^ (j + 1) : Nat) : Int)), none], fun σ' H' z => ⟨s - 2 ^ (j + 1), ?_, z.1, j + 1, z.2, ?_, rfl⟩, ?_⟩
      · rw [Nat.pow_succ]
        omega
      · rw [Nat.pow_succ]
        omega
      · refine ⟨_, rfl, _, _, rfl, rfl, .inr ⟨by decide, by decide⟩, rfl, ?_⟩
        have e2 : ((2 ^ j : Nat) : Int) * 2 = ((2 ^ (j + 1) : Nat) : Int) := by
          rw [Nat.pow_succ]
          omega
        dsimp only [gName, List.set]
        rw [e2]
    have hgt : ¬ ((2 ^ j : Nat) : Int) * 2 ≤ (s : Int) := fun z => e (decide_eq_true z)
    refine ⟨fun m σ H' => H' = H1 ∧ ∃ (u' : Int) (s' st : Nat) (bl : Option V), σ = [some (.int u'), some (.int s'), some (.int st), bl] ∧ m = st ∧ st < 2000 ∧ s' ≤ s ∧ u = u' * (10 : Int) ^ (s - s') ∧ Half u' s' st, ⟨_, rfl, u, s, 2 ^ j, none, rfl, rfl, by omega, Nat.le_refl _, by simp, .inr ⟨⟨j, rfl⟩, fun z => by omega⟩⟩, ?_⟩
    rintro m σ H2 ⟨rfl, u', s', st, bl, rfl, hm, hst, hle, eu, hf⟩
    have hm := hm.symm
    subst hm
    refine ⟨_, rfl, _, _, rfl, rfl, _, rfl, ite2 (fun e => ?_) (fun e => ?_)⟩
    · have h0 : 0 < st := by
        have z : (0 : Int) < (st : Int) := of_decide_eq_true e
        omega
      obtain ⟨hp, hn⟩ : (∃ j, st = 2 ^ j) ∧ ¬ (2 * st ≤ s' ∧ (10 : Int) ^ (2 * st) ∣ u') := by
        rcases hf with ⟨z, _⟩ | z
        · omega
        · exact z
      refine ⟨fun σ' H' => H' = H2 ∧ ∃ (u2 : Int) (s2 : Nat) (bl : Option V), σ' = [some (.int u2), some (.int s2), some (.int ((st / 2 : Nat) : Int)), bl] ∧ s2 ≤ s ∧ u = u2 * (10 : Int) ^ (s - s2) ∧ Half u2 s2 (st / 2), fun σ' H' ⟨z1, u2, s2, bl, z2, z3, z4, z5⟩ => ⟨st / 2, by omega, z1, u2, s2, st / 2, bl, z2, rfl, by omega, z3, z4, z5⟩, ?_⟩
      have e2 : (st : Int) / 2 = ((st / 2 : Nat) : Int) := by omega
      have tp := ten_pos st
      refine ⟨_, rfl, st, rfl, by show st < 16 * 2 ^ 8; omega, ?_⟩
      refine ⟨_, rfl, _, rfl, _, _, rfl, rfl, _, rfl, ite2 (fun e => ?_) (fun e => ?_)⟩
      · have l1 : st ≤ s' := by
          have z : (st : Int) ≤ (s' : Int) := of_decide_eq_true e
          omega
        refine ⟨_, rfl, _, rfl, _, _, rfl, rfl, tp, rfl, _, rfl, ite2 (fun e => ?_) (fun e => ?_)⟩
        · have d1 : (10 : Int) ^ st ∣ u' := Int.dvd_of_emod_eq_zero (by simpa using e)
          refine ⟨_, rfl, _, rfl, _, _, rfl, rfl, wide_div tp (ten_lt st) (by omega) (by omega), _, rfl, _, rfl, _, _, rfl, rfl, _, _, rfl, ?_⟩
          refine ⟨_, rfl, _, _, rfl, rfl, ⟨by decide, by decide⟩, ?_⟩
          dsimp only [gName, List.set]
          rw [e2]
          have e3 : (s' : Int) - (st : Int) = ((s' - st : Nat) : Int) := by omega
          rw [e3]
          refine ⟨rfl, u' / (10 : Int) ^ st, s' - st, some (.int ((10 : Int) ^ st)), rfl, by omega, low_step hle l1 eu d1, half_next hp fun z => ?_⟩
          by_cases l2 : 2 * st ≤ s'
          · exact dvd_step d1 (fun d2 => hn ⟨l2, d2⟩) z.2
          · omega
        · refine ⟨_, rfl, _, _, rfl, rfl, ⟨by decide, by decide⟩, ?_⟩
          dsimp only [gName, List.set]
          rw [e2]
          have nd1 : ¬ (10 : Int) ^ st ∣ u' := fun z => e (decide_eq_true (by show V.int (u' % (10 : Int) ^ st) = V.int 0; rw [Int.emod_eq_zero_of_dvd z]))
          exact ⟨rfl, u', s', some (.int ((10 : Int) ^ st)), rfl, hle, eu, half_next hp fun z => nd1 z.2⟩
      · have l1 : ¬ st ≤ s' := fun z => e (decide_eq_true (by omega))
        refine ⟨_, rfl, _, _, rfl, rfl, ⟨by decide, by decide⟩, ?_⟩
        dsimp only [gName, List.set]
        rw [e2]
        exact ⟨rfl, u', s', some (.int ((10 : Int) ^ st)), rfl, hle, eu, half_next hp fun z => l1 z.1⟩
    · have h0 : st = 0 := by
        have z : ¬ (0 : Int) < (st : Int) := fun z => e (decide_eq_true z)
        omega
      have own : s' = 0 ∨ u' % 10 ≠ 0 := by
        rcases hf with ⟨_, z⟩ | ⟨⟨j, z⟩, _⟩
        · exact z
        · have := Nat.pow_pos (n := j) (show 0 < 2 by decide)
          omega
      exact ⟨_, rfl, _, rfl, by show 2 ≤ sizeLine; decide, fun p np => q u' s' p ⟨hle, eu, own⟩ np⟩
end
end K45

/-! k45: digits_of, parted. -/
namespace K45
open PySem PySem.Spec PyProof.Rows L2 LamX NdefX Own
abbrev pDig : Stmt := topS 11
abbrev pPart : Stmt := topS 15
section
variable {P : Program} {w : World} {K : PySem.W.Frag} {mg : Str → Option Value} {base : Heap}
theorem scDig : FnScope ["number", "places", "ahead", "behind"] ["number"] (defScope pDig) := ⟨rfl, rfl, rfl, by decide +kernel, rfl, by decide +kernel, by decide +kernel⟩
/-- a number of few digits -/
def spDig : Sp := fun vs H Q _ => ∃ n : Nat, vs = [.int n] ∧ n < 10 ^ 500 ∧ Q (.str (Str.ofString (toString (n : Int)))) H
theorem small_log {n : Nat} (h : n < 10 ^ 500) : n.log2 < 1700 := log2_lt (Nat.lt_of_lt_of_le h (by decide +kernel)) (by decide)
theorem ok_dig (A : At K mg "digits_of" pDig ["number"]) (B : Blt mg) : DefOk P w K mg base CX0 "digits_of" 1 ["number"] spDig := by
  refine A.ok fun f fd F => F.ok scDig (fun vs H Q E h => ?_) (fun cdv A outer s0 H vs Q E hr h => ?_)
  · obtain ⟨n, rfl, _⟩ := h
    rfl
  · obtain ⟨n, rfl, hn, q⟩ := h
    have nd := scDig.nd
    refine ⟨_, pss_cons (ps_if (pt_cmpR op_lt (pe_bits (pv 0)) pe_int (nomark _)) (pss_one (ps_ret (pe_callTy call_str_int (by rfl) B.str (by decide +kernel) (pa_cons (pv 0) pa_nil)))) pss_nil) pss_dead, ?_⟩
    have lg := small_log hn
    have bits : Builtin.Int.intBits (n : Int) ≤ 1700 := by
      unfold Builtin.Int.intBits
      split
      · omega
      · have e : (n : Int).natAbs = n := by omega
        rw [e]
        omega
    refine ⟨_, rfl, n, rfl, _, _, rfl, rfl, _, rfl, ite2 (fun _ => ?_) (fun e => ?_)⟩
    · refine ⟨_, rfl, n, rfl, ?_, q⟩
      have e : (n : Int).natAbs = n := by omega
      rw [e]
      omega
    · exact absurd (decide_eq_true (by omega)) e
theorem scPart : FnScope ["units", "scale", "floor", "more"] ["units", "scale"] (defScope pPart) := ⟨rfl, rfl, rfl, by decide +kernel, rfl, by decide +kernel, by decide +kernel⟩
def spPart : Sp := fun vs H Q _ => ∃ (u : Int) (s : Nat), vs = [.int u, .int s] ∧ s < 500 ∧ ∀ (p : Addr) (H' : Hp), Same H H' → H' p = some (.tup [.int (wFl u s), .str (wMo u s)]) → Q (.ref p) H'
theorem ok_part (A : At K mg "parted" pPart ["units", "scale"]) (B : Blt mg) (D1 : DefOk P w K mg base CX0 "ten_to" 9 ["places"] (spTenTo 8)) (D2 : DefOk P w K mg base CX0 "digits_of" 1 ["number"] spDig) : DefOk P w K mg base CX0 "parted" 10 ["units", "scale"] spPart := by
  refine A.ok fun f fd F => F.ok scPart (fun vs H Q E h => ?_) (fun cdv A outer s0 H vs Q E hr h => ?_)
  · obtain ⟨u, s, rfl, _⟩ := h
    rfl
  · obtain ⟨u, s, rfl, hs, q⟩ := h
    have nd := scPart.nd
    refine ⟨_, pss_cons (ps_if (pt_cmpR op_eq (pv 1) pe_int (nomark _)) (pss_one (ps_ret (pe_tup (pa_cons (pv 0) (pa_cons pe_str pa_nil))))) pss_nil)
      (pss_cons (ps_asg (pe_callB call_divmodW (by rfl) B.dm (by decide +kernel) (pa_cons (pv 0) (pa_cons (pe_def D1 hr (by decide) (by rfl) pass0 (pa_cons (pv 1) pa_nil)) pa_nil))) (pg_tup rfl (pgs_cons (pg_name (i := 2) nd rfl (.inl rfl)) (pgs_cons (pg_name (i := 3) nd rfl (.inl rfl)) pgs_nil))))
      (pss_one (ps_ret (pe_tup (pa_cons (pv 2) (pa_cons (pe_bm PySem.F.plainAttrs_str PySem.F.slot_str_zfill PySem.F.type_str_zfill mt_zfill (pe_def D2 hr (by decide) (by rfl) pass0 (pa_cons (pv 3) pa_nil)) (pa_cons (pv 1) pa_nil)) pa_nil)))))), ?_⟩
    refine ⟨_, rfl, rfl, _, rfl, ite2 (fun e => ?_) (fun e => ?_)⟩
    · have h0 : s = 0 := by simpa using e
      subst h0
      refine ⟨_, rfl, by show 2 ≤ sizeLine; decide, fun p np => q p _ (same_new np) ?_⟩
      rw [upd_same]
      unfold wFl wMo
      rw [if_pos rfl, if_pos rfl]
    · have h0 : s ≠ 0 := by simpa using e
      refine ⟨_, rfl, _, rfl, s, rfl, by show s < 16 * 2 ^ 8; omega, _, _, rfl, dm_wide (ten_pos s) (up_two (ten_lt s) (by omega)), fun p hp => ?_⟩
      obtain ⟨n, en, hn⟩ := wMod u s
      have s1 : Same H (upd H p (.tup [.int (u / (10 : Int) ^ s), .int (u % (10 : Int) ^ s)])) := same_new hp
      refine ⟨p, _, rfl, SqT.of upd_same, rfl, _, _, rfl, _, _, rfl, rfl, ?_⟩
      have e1 : wFl u s = u / (10 : Int) ^ s := by
        unfold wFl
        rw [if_neg h0]
      have e2 : wMo u s = Txt.zfill (Str.ofString (toString (n : Int))) (s : Int) := by
        unfold wMo
        rw [if_neg h0, en]
      rw [en] at s1 ⊢
      dsimp only [gName, List.set]
      refine ⟨_, rfl, _, rfl, n, rfl, Nat.lt_of_lt_of_le hn (Nat.pow_le_pow_right (by decide) (by omega)), rfl, _, rfl, _, _, rfl, rfl, padOk_of (by omega) (by omega), by show 2 ≤ sizeLine; decide, fun p2 np2 => ?_⟩
      refine q p2 _ (s1.trans (same_new np2)) ?_
      rw [upd_same, e1, e2]
end
end K45

/-! k45: the class Worth. -/
namespace K45
open PySem PySem.Spec PyProof.Rows L2 LamX NdefX Own
abbrev wI (i : Nat) : Stmt := inClass (topS 13) i
section
variable {P : Program} {w : World} {K : PySem.W.Frag} {mg : Str → Option Value} {base : Heap} {C W : Addr}
/-- what the class is -/
structure WorthC (K : PySem.W.Frag) (mg : Str → Option Value) (W : Addr) : Prop where
  g : mg "Worth" = some (.ref W)
  cls : Cls K W
  nu : NoAttr K W "units"
  ns : NoAttr K W "scale"
  nf : NoAttr K W "floor"
  nm : NoAttr K W "more"
/-- a Worth stands at a: u units at the scale s -/
def WAt (W : Addr) (H : Hp) (a : Addr) (u : Int) (s : Nat) : Prop := ∃ dx, H a = some (.ins W dx (wRow u s))
theorem scWI : FnScope ["self", "units", "scale"] ["self", "units", "scale"] (defScope (wI 0)) := ⟨rfl, rfl, rfl, by decide +kernel, rfl, by decide +kernel, by decide +kernel⟩
/-- __init__ -/
def spWI (C W : Addr) : Sp := fun vs H Q E => ∃ (a dx : Addr) (x y : V), vs = [.ref a, x, y] ∧ H a = some (.ins W dx []) ∧ Thing H x ∧ Thing H y ∧ (Own.isInt x = false → Bad C "value" x H E) ∧ (Own.isInt x = true → isWh y = false → Bad C "value" y H E) ∧
  ∀ (u : Int) (s : Nat), x = .int u → y = .int s → s < 500 ∧ ∀ (u' : Int) (s' : Nat) (H' : Hp), IsLow u s u' s' → Keep a H H' → H' a = some (.ins W dx (wRow u' s')) → Q .non H'
theorem isWh_nat {y : V} (h : isWh y = true) : ∃ s : Nat, y = .int s := by
  cases y with
  | int i =>
    have z : 0 ≤ i := of_decide_eq_true h
    exact ⟨i.toNat, by rw [Int.toNat_of_nonneg z]⟩
  | _ => cases h
theorem ok_wI {f : Addr} {fd : FuncData} {dvs : List V} (F : FunD K "__init__" "Worth.__init__" (defArgs (wI 0)) (defBody (wI 0)) (defScope (wI 0)) dvs [] f fd) (T : WorthC K mg W) (D1 : DefOk P w K mg base (L2.CX P w) "need_integer" 3 ["value"] (spNInt C)) (D2 : DefOk P w K mg base (L2.CX P w) "need_whole_number" 3 ["value"] (spNWh C))
    (D3 : DefOk P w K mg base CX0 "without_zeros" 10 ["units", "scale"] spWz) (D4 : DefOk P w K mg base CX0 "parted" 10 ["units", "scale"] spPart) : FnOk P w K mg base (L2.CX P w) 11 f fd ["self", "units", "scale"] (spWI C W) := by
  refine F.ok scWI (fun vs H Q E h => ?_) (fun cdv A outer s0 H vs Q E hr h => ?_)
  · obtain ⟨a, dx, x, y, rfl, _⟩ := h
    rfl
  · obtain ⟨a, dx, x, y, rfl, ha, tx, ty, q1, q2, q3⟩ := h
    refine ⟨_, pss_cons (ps_expr (pe_def (E := E) D1 hr (by decide) (by rfl) (passes_call (takes_of rfl rfl rfl rfl) fun _ _ _ _ z => z) (pa_cons (pv 1) pa_nil)))
      (pss_cons (ps_expr (pe_def (E := E) D2 hr (by decide) (by rfl) (passes_call (takes_of rfl rfl rfl rfl) fun _ _ _ _ z => z) (pa_cons (pv 2) pa_nil)))
      (pss_cons (ps_asg (pe_def D3 hr (by decide) (by rfl) pass0 (pa_cons (pv 1) (pa_cons (pv 2) pa_nil))) (pg_tup rfl (pgs_cons (pg_fld (pv 0)) (pgs_cons (pg_fld (pv 0)) pgs_nil))))
      (pss_one (ps_asg (pe_def D4 hr (by decide) (by rfl) pass0 (pa_cons (pe_fld (pv 0) (by rfl)) (pa_cons (pe_fld (pv 0) (by rfl)) pa_nil))) (pg_tup rfl (pgs_cons (pg_fld (pv 0)) (pgs_cons (pg_fld (pv 0)) pgs_nil))))))), ?_⟩
    refine ⟨_, rfl, x, rfl, tx, fun hx => ?_, q1⟩
    refine ⟨_, rfl, y, rfl, ty, fun hy => ?_, q2 hx⟩
    obtain ⟨s, rfl⟩ := isWh_nat hy
    obtain ⟨u, rfl⟩ : ∃ u, x = .int u := by
      cases x <;> first | exact ⟨_, rfl⟩ | (simp [Own.isInt] at hx)
    obtain ⟨hs, q⟩ := q3 u s rfl rfl
    refine ⟨_, rfl, _, rfl, u, s, rfl, by omega, fun u' s' p lw np => ?_⟩
    have na : a ≠ p := ne_of_none ha np
    have ha1 : upd H p (.tup [.int u', .int s']) a = some (.ins W dx []) := (upd_ne na).trans ha
    refine ⟨p, _, rfl, SqT.of upd_same, rfl, _, _, rfl, ⟨_, rfl, a, W, dx, [], rfl, ha1, T.cls, T.nu, by decide, ?_⟩⟩
    refine ⟨_, _, rfl, ⟨_, rfl, a, W, dx, _, rfl, upd_same, T.cls, T.ns, by show 1 < 1000; decide, ?_⟩⟩
    refine ⟨rfl, ?_⟩
    rw [upd_upd]
    have k1 : Keep a H (upd (upd H p (.tup [.int u', .int s'])) a (.ins W dx (putF "scale" (.int s') (putF "units" (.int u') [])))) := (Keep.new np).trans Keep.at
    have ha2 : upd (upd H p (.tup [.int u', .int s'])) a (.ins W dx (putF "scale" (.int s') (putF "units" (.int u') []))) a = some (.ins W dx (putF "scale" (.int s') (putF "units" (.int u') []))) := upd_same
    generalize upd (upd H p (.tup [.int u', .int s'])) a (.ins W dx (putF "scale" (.int s') (putF "units" (.int u') []))) = H1 at k1 ha2 ⊢
    have e0 : ¬ (("units" : Str) = "scale") := by decide +kernel
    have e1 : (putF "scale" (.int s') (putF "units" (.int u') []) : List (Str × V)).lookup ("units" : Str) = some (V.int u') := by simp [putF, e0, List.lookup]
    have e2 : (putF "scale" (.int s') (putF "units" (.int u') []) : List (Str × V)).lookup ("scale" : Str) = some (V.int s') := by simp [putF, e0, List.lookup, wNe]
    have le := lw.le
    refine ⟨_, rfl, a, W, dx, _, .int u', rfl, ha2, T.cls, T.nu, e1, _, rfl, a, W, dx, _, .int s', rfl, ha2, T.cls, T.ns, e2, u', s', rfl, by omega, fun p2 H2 s2 h2 => ?_⟩
    have ha3 := s2 _ _ ha2
    have n2 : a ≠ p2 := ne_of ha3 h2 (by intro z; cases z)
    refine ⟨p2, _, rfl, SqT.of h2, rfl, _, _, rfl, ⟨_, rfl, a, W, dx, _, rfl, ha3, T.cls, T.nf, by show 2 < 1000; decide, ?_⟩⟩
    refine ⟨_, _, rfl, ⟨_, rfl, a, W, dx, _, rfl, upd_same, T.cls, T.nm, by show 3 < 1000; decide, ?_⟩⟩
    refine ⟨rfl, ?_⟩
    rw [upd_upd, put4]
    exact q u' s' _ lw ((k1.trans (Keep.same s2)).trans Keep.at) upd_same
end
end K45

/-! k45: Worths made; as_worth, units_at, sign. -/
namespace Own
open PySem PySem.Spec PyProof.Rows L2 LamX NdefX
theorem Thing.tyx {K : PySem.W.Frag} {H : Hp} {x : V} (h : Thing H x) : ∃ T ∈ tys, TyX K H x (.type T) := by
  cases h with
  | non => exact ⟨"NoneType", by simp [tys], .base .non⟩
  | bl b => exact ⟨"bool", by simp [tys], .base (.bl b)⟩
  | int i => exact ⟨"int", by simp [tys], .base (.int i)⟩
  | str z => exact ⟨"str", by simp [tys], .base (.str z)⟩
  | lst e => exact ⟨"list", by simp [tys], .base (.lst e)⟩
  | tup e => exact ⟨"tuple", by simp [tys], .base (.tup e)⟩
  | dct e => exact ⟨"dict", by simp [tys], .base (.dK e)⟩
end Own
namespace K45
open PySem PySem.Spec PyProof.Rows L2 LamX NdefX Own
abbrev pAsW : Stmt := topS 16
section
variable {P : Program} {w : World} {K : PySem.W.Frag} {mg : Str → Option Value} {base : Heap} {C W : Addr}
/-- isinstance by the class -/
structure WIs (K : PySem.W.Frag) (W : Addr) : Prop where
  ha : PySem.W.findIn K (.ref W) "__class__" = some (some (.builtin "object.__class__"))
  hn : PySem.W.specialIn K (.builtin "object.__class__") "__get__" = some (some (.builtin "getset_descriptor.__get__"))
  ht : PySem.W.takesIn K (.builtin "object.__class__") = some true
  hm : PySem.W.mroIn K W (.type "object") = some true
  no : ∀ T ∈ tys, PySem.W.kitOne K (.type T) (.ref W) = some false
/-- how the class is called -/
structure WMk (P : Program) (w : World) (K : PySem.W.Frag) (mg : Str → Option Value) (base : Heap) (C W : Addr) : Prop where
  ex : ∃ (fI : Addr) (fd : FuncData), Mk K W fI ∧ FnOk P w K mg base (L2.CX P w) 11 fI fd ["self", "units", "scale"] (spWI C W) ∧ Binds K fd ["self", "units", "scale"] [] ∧ ∃ ds, Vals [V.int 0] ds ∧ Binds K fd ["self", "units", "scale"] ds
theorem WAt.same {H H' : Hp} {a : Addr} {u : Int} {s : Nat} (h : WAt W H a u s) (z : Same H H') : WAt W H' a u s := by
  obtain ⟨dx, e⟩ := h
  exact ⟨dx, z _ _ e⟩
/-- what the call Worth(x, y) gives -/
def spWorth (C W : Addr) : Sp := fun vs H Q E => ∃ x y : V, vs = [x, y] ∧ Thing H x ∧ Thing H y ∧ (Own.isInt x = false → Bad C "value" x H E) ∧ (Own.isInt x = true → isWh y = false → Bad C "value" y H E) ∧
  ∀ (u : Int) (s : Nat), x = .int u → y = .int s → s < 500 ∧ ∀ (u' : Int) (s' : Nat) (a : Addr) (H' : Hp), IsLow u s u' s' → Same H H' → H a = none → WAt W H' a u' s' → Q (.ref a) H'
theorem worth_make {vs : List V} {H : Hp} {Q : VK} {E : XK} (h : spWorth C W vs H Q E) (a dx : Addr) (na : H a = none) (nd : H dx = none) (ne : dx ≠ a) : spWI C W (.ref a :: vs) (upd (upd H dx (.own a)) a (.ins W dx [])) (fun v H2 => v = .non ∧ Q (.ref a) H2) E := by
  obtain ⟨x, y, rfl, tx, ty, q1, q2, q3⟩ := h
  have na1 : upd H dx (.own a) a = none := (upd_ne ne.symm).trans na
  have s1 : Same H (upd (upd H dx (.own a)) a (.ins W dx [])) := (same_new nd).trans (same_new na1)
  refine ⟨a, dx, x, y, rfl, upd_same, tx.same s1, ty.same s1, fun z => (q1 z).same s1, fun z1 z2 => (q2 z1 z2).same s1, fun u s e1 e2 => ?_⟩
  obtain ⟨hs, q⟩ := q3 u s e1 e2
  refine ⟨hs, fun u' s' H' lw kp ha => ⟨rfl, q u' s' a H' lw (fun b o e => ?_) na ⟨dx, ha⟩⟩⟩
  have ba : b ≠ a := ne_of_none e na
  exact kp _ _ ba (s1 _ _ e)
section
variable {X : Cx} {k : Nat} {E : XK} {x : Str} {p pos : Pos} {e1 e2 : Expr} {t : TA}
/-- Worth(e1, e2) -/
theorem pe_worth (M : WMk X.prog X.w X.K X.mg X.base C W) (T : WorthC X.K X.mg W) (hr : Room k X.A) (hk : 12 ≤ k) (hg : Gl X "Worth") (hx : Passes (L2.CX X.prog X.w) X E) (ha : PA X [e1, e2] t)
    (he : starEach [e1, e2] X.env = (false, eval e1 X.env) :: starEach [e2] X.env := by rfl) (hpl : (backTo pos (starEach [e2] X.env)).any (·.1) = false := by rfl) : PE X (.Call (.Name "Worth" p) [e1, e2] [] pos) (tCall (spWorth C W) [] E t) := by
  obtain ⟨fI, fd, mk, F, b2, _⟩ := M.ex
  constructor
  intro pins s σ H Q I h
  refine wpAny_Call_Name_kw (ld_glob I hg T.g ?_ (by decide))
  refine PySem.W.callWith_K (h₀ := X.base) I.ok.mod.kin mk.kp (thn (ha.run pos pins s σ H _ I h) ?_) he hpl
  rintro us s1 ⟨vs, H1, I1, r, q⟩
  refine ⟨I1.kIn, run_make mk F (hr.mono hk) b2 .nil hx I1 r fun a dx na nd ne => ?_⟩
  rw [List.append_nil] at q ⊢
  exact worth_make q a dx na nd ne
/-- Worth(e1) -/
theorem pe_worth1 (M : WMk X.prog X.w X.K X.mg X.base C W) (T : WorthC X.K X.mg W) (hr : Room k X.A) (hk : 12 ≤ k) (hg : Gl X "Worth") (hx : Passes (L2.CX X.prog X.w) X E) {te : TE} (ha : PE X e1 te)
    (he : starEach [e1] X.env = (false, eval e1 X.env) :: starEach [] X.env := by rfl) (hpl : (backTo pos (starEach [] X.env)).any (·.1) = false := by rfl) : PE X (.Call (.Name "Worth" p) [e1] [] pos) (fun σ H Q => tCons te tNil σ H fun vs H1 => ∃ v, vs = [v] ∧ spWorth C W [v, .int 0] H1 Q E) := by
  obtain ⟨fI, fd, mk, F, _, ds, rd, b1⟩ := M.ex
  constructor
  intro pins s σ H Q I h
  refine wpAny_Call_Name_kw (ld_glob I hg T.g ?_ (by decide))
  refine PySem.W.callWith_K (h₀ := X.base) I.ok.mod.kin mk.kp (thn ((pa_cons ha pa_nil he).run pos pins s σ H (fun vs H1 => ∃ v, vs = [v] ∧ spWorth C W [v, .int 0] H1 Q E) I h) ?_) he hpl
  rintro us s1 ⟨vs, H1, I1, r, v, rfl, q⟩
  exact ⟨I1.kIn, run_make mk F (hr.mono hk) b1 rd hx I1 r fun a dx na nd ne => worth_make q a dx na nd ne⟩
end
/-! ### as_worth -/
theorem scAsW : FnScope ["value"] ["value"] (defScope pAsW) := ⟨rfl, rfl, rfl, by decide +kernel, rfl, by decide +kernel, by decide +kernel⟩
/-- a Worth as it is; an integer at the scale 0; anything else refused -/
def spAsW (C W : Addr) : Sp := fun vs H Q E => ∃ x : V, vs = [x] ∧ ((∃ (a : Addr) (u : Int) (s : Nat), x = .ref a ∧ WAt W H a u s ∧ Q (.ref a) H) ∨
  (Thing H x ∧ (Own.isInt x = false → Bad C "value" x H E) ∧ ∀ (u : Int) (a : Addr) (H' : Hp), x = .int u → Same H H' → H a = none → WAt W H' a u 0 → Q (.ref a) H'))
theorem low0 {u u' : Int} {s' : Nat} (h : IsLow u 0 u' s') : u' = u ∧ s' = 0 := by
  have a := h.le
  have z : s' = 0 := by omega
  subst z
  have e := h.eq
  simp at e
  exact ⟨e.symm, rfl⟩
theorem ok_asW (A : At K mg "as_worth" pAsW ["value"]) (B : Blt mg) (T : WorthC K mg W) (I : WIs K W) (M : WMk P w K mg base C W) : DefOk P w K mg base (L2.CX P w) "as_worth" 13 ["value"] (spAsW C W) := by
  refine A.ok fun f fd F => F.okX scAsW (fun vs H Q E h => ?_) (fun cdv A outer s H vs Q E hr h => ?_)
  · obtain ⟨x, rfl, _⟩ := h
    rfl
  · obtain ⟨x, rfl, h⟩ := h
    refine ⟨_, pss_one (ps_ret (pe_ifExp (pt_val (pe_callB call_isi (by rfl) B.isi (by decide +kernel) (pa_cons (pv 0) (pa_cons (pe_glob (v := .ref W) (by rfl) T.g rfl) pa_nil)))) (pv 0)
      (pe_worth1 (E := E) M T hr (by decide) (by rfl) (passes_call (takes_of rfl rfl rfl rfl) fun _ _ _ _ z => z) (pv 0)))), ?_⟩
    rcases h with ⟨a, u, s', rfl, wa, q⟩ | ⟨th, q1, q2⟩
    · obtain ⟨dx, ea⟩ := id wa
      refine ⟨_, rfl, _, _, _, _, true, rfl, .own W, .base (.ins ea T.cls I.ha I.hn I.ht I.hm), by unfold PySem.W.kitOne; rw [if_pos (by simp)], _, rfl, iteT ⟨_, rfl, q⟩⟩
    · obtain ⟨ty, hty, tx⟩ := th.tyx (K := K)
      refine ⟨_, rfl, _, _, _, _, false, rfl, .own W, tx, I.no ty hty, _, rfl, iteF ⟨_, rfl, _, rfl, _, _, rfl, th, .int 0, q1, (fun _ z => absurd z (by decide)), fun u s e1 e2 => ?_⟩⟩
      have e3 : (0 : Int) = (s : Int) := V.int.inj e2
      obtain rfl : s = 0 := by omega
      refine ⟨by decide, fun u' s' a H' lw sm na wa => ?_⟩
      obtain ⟨rfl, rfl⟩ := low0 lw
      exact q2 _ a H' e1 sm na wa
end
end K45

/-! k45: == of Worths, compare. -/
namespace K45
open PySem PySem.Spec PyProof.Rows L2 LamX NdefX Own
theorem lk_u (u : Int) (s : Nat) : (wRow u s).lookup ("units" : Str) = some (.int u) := wLk_u u s
theorem lk_s (u : Int) (s : Nat) : (wRow u s).lookup ("scale" : Str) = some (.int s) := wLk_s u s
abbrev pNeedW : Stmt := topS 17
section
variable {P : Program} {w : World} {K : PySem.W.Frag} {mg : Str → Option Value} {base : Heap} {C C2 W : Addr}
theorem scEq : FnScope ["self", "other"] ["self", "other"] (defScope (wI 1)) := ⟨rfl, rfl, rfl, by decide +kernel, rfl, by decide +kernel, by decide +kernel⟩
def spEqW (W : Addr) : Sp := fun vs H Q _ => ∃ (a : Addr) (u : Int) (s : Nat) (y : V), vs = [.ref a, y] ∧ WAt W H a u s ∧ ((∃ (b : Addr) (u2 : Int) (s2 : Nat), y = .ref b ∧ WAt W H b u2 s2 ∧ ∀ H', Same H H' → Q (.bl (decide (u = u2) && decide (s = s2))) H') ∨ (Thing H y ∧ Q (.bl false) H))
theorem ok_eq {g : Addr} {fd : FuncData} (F : Fun K "__eq__" "Worth.__eq__" (wI 1) g fd) (B : Blt mg) (T : WorthC K mg W) (I : WIs K W) : FnOk P w K mg base (L2.CX P w) 1 g fd ["self", "other"] (spEqW W) := by
  refine F.okX scEq (fun vs H Q E h => ?_) (fun cdv A outer s0 H vs Q E hr h => ?_)
  · obtain ⟨a, u, s, y, rfl, _⟩ := h
    rfl
  · obtain ⟨a, u, s, y, rfl, ⟨dx, ea⟩, h⟩ := h
    refine ⟨_, pss_cons (ps_if (pt_not (pt_val (pe_callB call_isi (by rfl) B.isi (by decide +kernel) (pa_cons (pv 1) (pa_cons (pe_glob (v := .ref W) (by rfl) T.g rfl) pa_nil))))) (pss_one (ps_ret pe_bl)) pss_nil)
      (pss_one (ps_ret (pe_cmpR (op_eqD hr.units) (pe_tup (pa_cons (pe_fld (pv 0) (by rfl)) (pa_cons (pe_fld (pv 0) (by rfl)) pa_nil))) (pe_tup (pa_cons (pe_fld (pv 1) (by rfl)) (pa_cons (pe_fld (pv 1) (by rfl)) pa_nil))) (nomark _)))), ?_⟩
    rcases h with ⟨b, u2, s2, rfl, ⟨dy, eb⟩, q⟩ | ⟨th, q⟩
    · refine ⟨_, rfl, _, _, _, _, true, rfl, .own W, .base (.ins eb T.cls I.ha I.hn I.ht I.hm), by unfold PySem.W.kitOne; rw [if_pos (by simp)], _, rfl, iteF ?_⟩
      refine ⟨_, rfl, a, W, dx, _, .int (wFl u s), rfl, ea, T.cls, T.nf, wLk_f u s, _, rfl, a, W, dx, _, .str (wMo u s), rfl, ea, T.cls, T.nm, wLk_m u s, by show 2 ≤ sizeLine; decide, fun p np => ?_⟩
      have s1 := same_new (o := HO.tup [.int (wFl u s), .str (wMo u s)]) np
      have e1 : upd H p (.tup [.int (wFl u s), .str (wMo u s)]) p = some (.tup [.int (wFl u s), .str (wMo u s)]) := upd_same
      generalize upd H p (.tup [.int (wFl u s), .str (wMo u s)]) = H1 at s1 e1 ⊢
      have eb1 := s1 _ _ eb
      refine ⟨_, rfl, b, W, dy, _, .int (wFl u2 s2), rfl, eb1, T.cls, T.nf, wLk_f u2 s2, _, rfl, b, W, dy, _, .str (wMo u2 s2), rfl, eb1, T.cls, T.nm, wLk_m u2 s2, by show 2 ≤ sizeLine; decide, fun p2 np2 => ?_⟩
      have s2' := same_new (o := HO.tup [.int (wFl u2 s2), .str (wMo u2 s2)]) np2
      refine ⟨_, _, w_dp (s2' _ _ e1), w_dp upd_same, w_sh u s, w_sh u2 s2, ?_⟩
      rw [w_eqv]
      exact q _ (s1.trans s2')
    · obtain ⟨ty, hty, tx⟩ := th.tyx (K := K)
      exact ⟨_, rfl, _, _, _, _, false, rfl, .own W, tx, I.no ty hty, _, rfl, iteT q⟩
theorem scNeedW : FnScope ["value"] ["value"] (defScope pNeedW) := ⟨rfl, rfl, rfl, by decide +kernel, rfl, by decide +kernel, by decide +kernel⟩
def spNeedW (C W : Addr) : Sp := fun vs H Q E => ∃ x : V, vs = [x] ∧ ((∃ (a : Addr) (u : Int) (s : Nat), x = .ref a ∧ WAt W H a u s ∧ Q .non H) ∨ (Thing H x ∧ Bad C "value" x H E))
theorem ok_needW (A : At K mg "need_worth" pNeedW ["value"]) (B : Blt mg) (T : WorthC K mg W) (I : WIs K W) (TE : ErrC P w K mg base "BadValue" "value" 1 C (spErr C "value")) : DefOk P w K mg base (L2.CX P w) "need_worth" 3 ["value"] (spNeedW C W) := by
  refine A.ok fun f fd F => F.okX scNeedW (fun vs H Q E h => ?_) (fun cdv A outer s H vs Q E hr h => ?_)
  · obtain ⟨x, rfl, _⟩ := h
    rfl
  · obtain ⟨x, rfl, h⟩ := h
    refine ⟨_, pss_one (ps_if (pt_not (pt_val (pe_callB call_isi (by rfl) B.isi (by decide +kernel) (pa_cons (pv 0) (pa_cons (pe_glob (v := .ref W) (by rfl) T.g rfl) pa_nil))))) (pss_one (ps_raise rfl (takes_of rfl rfl rfl rfl) (pmk_err TE hr (by decide) (by rfl) (pv 0)))) pss_nil), ?_⟩
    rcases h with ⟨a, u, s', rfl, ⟨dx, ea⟩, q⟩ | ⟨th, bad⟩
    · exact ⟨_, rfl, _, _, _, _, true, rfl, .own W, .base (.ins ea T.cls I.ha I.hn I.ht I.hm), by unfold PySem.W.kitOne; rw [if_pos (by simp)], _, rfl, iteF q⟩
    · obtain ⟨ty, hty, tx⟩ := th.tyx (K := K)
      exact ⟨_, rfl, _, _, _, _, false, rfl, .own W, tx, I.no ty hty, _, rfl, iteT ⟨_, rfl, bad_mk bad⟩⟩
end
end K45

/-! k45: the program's ways. -/
namespace K45
open PySem PySem.Spec PyProof.Rows L2 LamX NdefX Own
abbrev sNWay : Stmt := topS 21
abbrev sGoes : Stmt := topS 23
abbrev sNear : Stmt := topS 22
abbrev sWays : Stmt := topS 32
/-- what the walk asks of the top: the names of built-ins are free; the tables -/
structure Tx8 (P : Program) (w : World) (K : PySem.W.Frag) (mg : Str → Option Value) (base : Heap) (C aW aH : Addr) (eH : Array DictEntry) (nH : Nat) : Prop where
  isi : mg "isinstance" = none
  int : mg "int" = none
  bool : mg "bool" = none
  len : mg "len" = none
  list : mg "list" = none
  range : mg "range" = none
  tuple : mg "tuple" = none
  all : mg "all" = none
  dm : mg "divmod" = none
  err : ErrC P w K mg base "BadValue" "value" 1 C (spErr C "value")
  gW : mg "WAYS" = some (.ref aW)
  ways : ∀ H : Hp, SqT K H aW (waysL.map V.str)
  gH : mg "HALVES" = some (.ref aH)
  dH : KDict K w aH eH nH
  halv : ∀ z ∈ waysL, KGet K aH z ((halvL.lookup z).map V.str)
section
variable {P : Program} {w : World} {K : PySem.W.Frag} {mg : Str → Option Value} {base : Heap} {C aW aH : Addr} {eH : Array DictEntry} {nH : Nat}
theorem scNWay : FnScope ["value"] ["value"] (defScope sNWay) := ⟨rfl, rfl, rfl, by decide +kernel, rfl, by decide +kernel, by decide +kernel⟩
def spNWay (C : Addr) : Sp := fun vs H Q E => ∃ x : V, vs = [x] ∧ Thing H x ∧ (isWay x = true → Q .non H) ∧ (isWay x = false → Bad C "value" x H E)
theorem ok_nWay (A : At K mg "need_way" sNWay ["value"]) (T : Tx8 P w K mg base C aW aH eH nH) : DefOk P w K mg base (L2.CX P w) "need_way" 3 ["value"] (spNWay C) := by
  refine A.ok fun f fd F => F.okX scNWay (fun vs H Q E h => ?_) (fun cdv A outer s H vs Q E hr h => ?_)
  · obtain ⟨x, rfl, _⟩ := h
    rfl
  · obtain ⟨x, rfl, th, q1, q2⟩ := h
    refine ⟨_, pss_one (ps_if (pt_cmpR (OpR.or op_notIn_seq (op_notInW (hu_of hr))) (pv 0) (pe_glob (v := .ref aW) (by rfl) T.gW rfl) (by rfl)) (pss_one (ps_raise rfl (takes_of rfl rfl rfl rfl) (pmk_err T.err hr (by decide) (by rfl) (pv 0)))) pss_nil), ?_⟩
    rcases th.noTxt with nt | ⟨z, rfl⟩
    · have hw : isWay x = false := by cases nt <;> rfl
      exact ⟨_, rfl, .inr ⟨aW, waysL, rfl, T.ways H, nt, _, rfl, iteT ⟨_, rfl, bad_mk (q2 hw)⟩⟩⟩
    · refine ⟨_, rfl, .inl ⟨aW, _, rfl, .inr (T.ways H), rfl, by decide +kernel, _, rfl, ?_⟩⟩
      have e : inV (.str z) (waysL.map V.str) = decide (z ∈ waysL) := by
        unfold inV
        rw [List.any_map]
        have : ∀ l : List Str, (l.any ((fun y => eqV y (.str z)) ∘ V.str)) = decide (z ∈ l) := by
          intro l
          induction l with
          | nil => rfl
          | cons a r ih =>
            rw [List.any_cons, ih]
            show (a == z || decide (z ∈ r)) = decide (z ∈ a :: r)
            by_cases h : a = z
            · subst h
              simp
            · have h' : ¬ z = a := fun e => h e.symm
              simp [h, h']
        exact this waysL
      show if (if true = true then !inV (.str z) (waysL.map V.str) else inV (.str z) (waysL.map V.str)) = true then _ else _
      rw [if_pos rfl, e]
      refine ite2 (fun e => ?_) (fun e => ?_)
      · exact ⟨_, rfl, bad_mk (q2 (by simpa [isWay] using e))⟩
      · exact q1 (by simpa [isWay] using e)
theorem scGoes : FnScope ["way", "below", "past_half"] ["way", "below", "past_half"] (defScope sGoes) := ⟨rfl, rfl, rfl, by decide +kernel, rfl, by decide +kernel, by decide +kernel⟩
def spGoes : Sp := fun vs H Q _ => ∃ (z : Str) (b p : Int), vs = [.str z, .int b, .int p] ∧ z ∈ waysL ∧ Q (.bl (goesUp z b p)) H
theorem ok_goes (A : At K mg "_goes_up" sGoes ["way", "below", "past_half"]) (T : Tx8 P w K mg base C aW aH eH nH) : DefOk P w K mg base CX0 "_goes_up" 1 ["way", "below", "past_half"] spGoes := by
  refine A.ok fun f fd F => F.ok scGoes (fun vs H Q E h => ?_) (fun cdv A outer s H vs Q E hr h => ?_)
  · obtain ⟨z, b, p, rfl, _⟩ := h
    rfl
  · obtain ⟨z, b, p, rfl, hz, q⟩ := h
    have nd := scGoes.nd
    refine ⟨_, C8.pss_cut (ps_if (pt_cmpR (op_in_kd T.dH) (pv 0) (pe_glob (v := .ref aH) (by rfl) T.gH rfl) (by rfl))
        (pss_cons (ps_if (pt_cmpR op_ne (pv 2) pe_int (nomark _)) (pss_one (ps_ret (pe_cmpR op_gt (pv 2) pe_int (nomark _)))) pss_nil)
        (pss_one (ps_set (i := 0) nd rfl (.inl rfl) (pe_ix ix_kdict (pe_glob (v := .ref aH) (by rfl) T.gH rfl) (pv 0) (fun _ _ => rfl))))) pss_nil)
      (pss_cons (ps_if (pt_cmpR op_eq (pv 0) pe_str (nomark _)) (pss_one (ps_ret (pe_cmpR op_eq (pe_op op_mod (pv 1) pe_int) pe_int (nomark _)))) pss_nil)
      (pss_cons (ps_if (pt_cmpR op_eq (pv 0) pe_str (nomark _)) (pss_one (ps_ret (pe_cmpR op_lt (pv 1) pe_int (nomark _)))) pss_nil)
      (pss_cons (ps_if (pt_cmpR op_eq (pv 0) pe_str (nomark _)) (pss_one (ps_ret (pe_cmpR op_ge (pv 1) pe_int (nomark _)))) pss_nil)
      (pss_one (ps_ret (pe_cmpR op_eq (pv 0) pe_str (nomark _))))))), ?_⟩
    -- what a way says that is none of the nearer ones
    have tail : ∀ y : Str, (if y = "even" then (decide (V.int (b % 2) = V.int 1)) else if y = "cut" then decide (b < 0) else if y = "away" then decide (0 ≤ b) else decide (V.str y = V.str "ceiling")) = baseUp y b := fun y => by
      unfold baseUp
      rw [Own.dec_int, Own.dec_str]
    refine ⟨fun σ H' => ∃ y : Str, σ = [some (.str y), some (.int b), some (.int p)] ∧ H' = H ∧ baseUp y b = goesUp z b p, ?_, ?_⟩
    · obtain ⟨ro, hk, hr'⟩ := T.halv z hz
      refine ⟨_, rfl, z, ro, rfl, rfl, hk, _, rfl, ?_⟩
      cases hl : halvL.lookup z with
      | none =>
        rw [hl] at hr'
        have e : ro = none := by
          cases ro with
          | none => rfl
          | some u => exact hr'.elim
        subst e
        refine iteF ⟨z, rfl, rfl, ?_⟩
        unfold goesUp
        rw [hl]
      | some y =>
        rw [hl] at hr'
        obtain ⟨u, rfl⟩ : ∃ u, ro = some u := by
          cases ro with
          | none => exact hr'.elim
          | some u => exact ⟨u, rfl⟩
        refine iteT ?_
        refine ⟨_, rfl, rfl, _, rfl, ite2 (fun e => ?_) (fun e => ?_)⟩
        · have hp : p ≠ 0 := by simpa using e
          refine ⟨_, rfl, _, _, rfl, rfl, ?_⟩
          have g : goesUp z b p = decide (0 < p) := by
            unfold goesUp
            rw [hl]
            exact if_neg hp
          show Q (.bl (decide (0 < p))) H
          rw [← g]
          exact q
        · have hp : p = 0 := by simpa using e
          refine ⟨_, rfl, aH, z, .str y, rfl, rfl, ⟨eH, nH, u, T.dH.at_, T.dH.lit, hk, hr'⟩, y, rfl, rfl, ?_⟩
          unfold goesUp
          rw [hl]
          exact (if_pos hp).symm
    · rintro σ H' ⟨y, rfl, rfl, hy⟩
      rw [← hy, ← tail y] at q
      refine ⟨_, rfl, rfl, _, rfl, ite2 (fun e => ?_) (fun e => ?_)⟩
      · have e' : y = "even" := V.str.inj (of_decide_eq_true e)
        rw [if_pos e'] at q
        exact ⟨_, rfl, _, _, rfl, rfl, (show (0 : Int) < 2 by decide), rfl, q⟩
      · have e' : ¬ y = "even" := fun z => e (by rw [z]; simp)
        rw [if_neg e'] at q
        refine ⟨_, rfl, rfl, _, rfl, ite2 (fun e => ?_) (fun e => ?_)⟩
        · have e' : y = "cut" := V.str.inj (of_decide_eq_true e)
          rw [if_pos e'] at q
          exact ⟨_, rfl, _, _, rfl, rfl, q⟩
        · have e' : ¬ y = "cut" := fun z => e (by rw [z]; simp)
          rw [if_neg e'] at q
          refine ⟨_, rfl, rfl, _, rfl, ite2 (fun e => ?_) (fun e => ?_)⟩
          · have e' : y = "away" := V.str.inj (of_decide_eq_true e)
            rw [if_pos e'] at q
            exact ⟨_, rfl, _, _, rfl, rfl, q⟩
          · have e' : ¬ y = "away" := fun z => e (by rw [z]; simp)
            rw [if_neg e'] at q
            exact ⟨_, rfl, rfl, q⟩
theorem scNear : FnScope ["number", "divisor", "way", "below", "left"] ["number", "divisor", "way"] (defScope sNear) := ⟨rfl, rfl, rfl, by decide +kernel, rfl, by decide +kernel, by decide +kernel⟩
def spNear : Sp := fun vs H Q _ => ∃ (n d : Int) (z : Str), vs = [.int n, .int d, .str z] ∧ 0 < d ∧ d.natAbs < 2 ^ 1000 ∧ z ∈ waysL ∧ ∀ H', Same H H' → Q (.int (near n d z)) H'
theorem ok_near (A : At K mg "nearest_units" sNear ["number", "divisor", "way"]) (T : Tx8 P w K mg base C aW aH eH nH) (D : DefOk P w K mg base CX0 "_goes_up" 1 ["way", "below", "past_half"] spGoes) : DefOk P w K mg base CX0 "nearest_units" 2 ["number", "divisor", "way"] spNear := by
  refine A.ok fun f fd F => F.ok scNear (fun vs H Q E h => ?_) (fun cdv A outer s H vs Q E hr h => ?_)
  · obtain ⟨n, d, z, rfl, _⟩ := h
    rfl
  · obtain ⟨n, d, z, rfl, h0, hb, hz, q⟩ := h
    have nd := scNear.nd
    refine ⟨_, pss_cons (ps_asg (pe_callB call_divmodW (by rfl) T.dm (by decide +kernel) (pa_cons (pv 0) (pa_cons (pv 1) pa_nil))) (pg_tup rfl (pgs_cons (pg_name (i := 3) nd rfl (.inl rfl)) (pgs_cons (pg_name (i := 4) nd rfl (.inl rfl)) pgs_nil))))
      (pss_cons (ps_if (PW.pt (pw_and (pt_cmpR op_ne (pv 4) pe_int (nomark _)) (pw_and1 (pt_val (pe_def D hr (by decide) (by rfl) pass0 (pa_cons (pv 2) (pa_cons (pv 3) (pa_cons (pe_op op_sub (pe_op op_mul pe_int (pv 4)) (pv 1)) pa_nil))))))))
        (pss_one (ps_ret (pe_op op_add (pv 3) pe_int))) pss_nil)
      (pss_one (ps_ret (pv 3)))), ?_⟩
    refine ⟨_, rfl, _, rfl, n, d, rfl, dm_ok h0 hb, fun p hp => ?_⟩
    have sm : Same H (upd H p (.tup [.int (n / d), .int (n % d)])) := same_new hp
    refine ⟨p, _, rfl, SqT.of upd_same, rfl, _, _, rfl, _, _, rfl, rfl, ?_⟩
    refine ⟨_, rfl, rfl, _, rfl, ite2 (fun e => ?_) (fun e => ?_)⟩
    · have hne : n % d ≠ 0 := by simpa using e
      refine ⟨_, rfl, _, rfl, _, rfl, _, _, rfl, rfl, .inl ⟨by decide, by decide⟩, _, rfl, _, _, rfl, rfl, z, _, _, rfl, hz, _, rfl, ite2 (fun e => ?_) (fun e => ?_)⟩
      · refine ⟨_, rfl, _, _, rfl, rfl, ?_⟩
        have r : near n d z = n / d + 1 := by
          unfold near
          rw [if_neg hne, if_pos e]
        have q' := q _ sm
        rw [r] at q'
        exact q'
      · refine ⟨_, rfl, ?_⟩
        have r : near n d z = n / d := by
          unfold near
          rw [if_neg hne, if_neg e]
        have q' := q _ sm
        rw [r] at q'
        exact q'
    · have he : n % d = 0 := by simpa using e
      refine iteF ⟨_, rfl, ?_⟩
      have r : near n d z = n / d := by
        unfold near
        rw [if_pos he]
      have q' := q _ sm
      rw [r] at q'
      exact q'
theorem scWays : FnScope [] [] (defScope sWays) := ⟨rfl, rfl, rfl, by decide +kernel, rfl, by decide +kernel, by decide +kernel⟩
def spWays : Sp := fun vs H Q _ => vs = [] ∧ ∀ p, H p = none → Q (.ref p) (upd H p (.lst (waysL.map V.str)))
theorem ok_ways (A : At K mg "_law_ways" sWays []) : DefOk P w K mg base CX0 "_law_ways" 1 [] spWays := by
  refine A.ok fun f fd F => F.ok scWays (fun vs H Q E h => by rw [h.1] <;> rfl) (fun cdv A outer s H vs Q E hr h => ?_)
  obtain ⟨rfl, q⟩ := h
  refine ⟨_, pss_one (ps_ret (pe_lst (pa_cons pe_str (pa_cons pe_str (pa_cons pe_str (pa_cons pe_str (pa_cons pe_str (pa_cons pe_str (pa_cons pe_str (pa_cons pe_str (pa_cons pe_str pa_nil))))))))))), ?_⟩
  exact ⟨by show 9 ≤ sizeLine; decide, q⟩
end
end K45

/-! k45: rounded, rounded_quotient. -/
namespace K45
open PySem PySem.Spec PyProof.Rows L2 LamX NdefX Own
abbrev pRnd : Stmt := topS 24
/-- u units at s, rounded to n by t: how many units at n -/
def rnd (u : Int) (s n : Nat) (t : Str) : Int := if s ≤ n then u * (10 : Int) ^ (n - s) else near u ((10 : Int) ^ (s - n)) t
def Gives (W : Addr) (H : Hp) (v : Int) (n : Nat) (Q : VK) : Prop := ∀ (u' : Int) (s' : Nat) (p : Addr) (H' : Hp), IsLow v n u' s' → Same H H' → H p = none → WAt W H' p u' s' → Q (.ref p) H'
theorem Gives.same {W : Addr} {H H' : Hp} {v : Int} {n : Nat} {Q : VK} (h : Gives W H v n Q) (s : Same H H') : Gives W H' v n Q := fun u' s' p H2 lw s2 np wp => h u' s' p H2 lw (s.trans s2) (s.free np) wp
section
variable {P : Program} {w : World} {K : PySem.W.Frag} {mg : Str → Option Value} {base : Heap} {C CN W : Addr}
theorem scRnd : FnScope ["worth", "scale", "way"] ["worth", "scale", "way"] (defScope pRnd) := ⟨rfl, rfl, rfl, by decide +kernel, rfl, by decide +kernel, by decide +kernel⟩
/-- what comes of a new or old worth of v units at n -/
def Comes (W : Addr) (H : Hp) (v : Int) (n : Nat) (Q : VK) : Prop := ∀ (p : Addr) (u' : Int) (s' : Nat) (H' : Hp), Same H H' → WAt W H' p u' s' → IsLow v n u' s' → Q (.ref p) H'
def spRnd (C W : Addr) : Sp := fun vs H Q E => ∃ x y z : V, vs = [x, y, z] ∧ ((Thing H x ∧ Bad C "value" x H E) ∨ ∃ (a : Addr) (u : Int) (s : Nat), x = .ref a ∧ WAt W H a u s ∧ s ≤ 240 ∧ (s = 0 ∨ u % 10 ≠ 0) ∧
  ((Thing H y ∧ isWh y = false ∧ Bad C "value" y H E) ∨ ∃ n : Nat, y = .int n ∧ n < 500 ∧ ((Thing H z ∧ isWay z = false ∧ Bad C "value" z H E) ∨ ∃ t ∈ waysL, z = .str t ∧ Comes W H (rnd u s n t) n Q)))
theorem isWh_cast (n : Nat) : isWh (.int (n : Int)) = true := by
  show decide (0 ≤ (n : Int)) = true
  exact decide_eq_true (by omega)
theorem worth_of {C W : Addr} {H : Hp} {v : Int} {n : Nat} {Q : VK} {E : XK} (hn : n < 500) (gv : Gives W H v n Q) : spWorth C W [.int v, .int n] H Q E := by
  refine ⟨.int v, .int n, rfl, .int _, .int _, (fun z => by cases z), (fun _ z => ?_), fun U S e1 e2 => ?_⟩
  · rw [isWh_cast] at z
    cases z
  · have e3 : (n : Int) = (S : Int) := V.int.inj e2
    obtain rfl : S = n := by omega
    rw [← V.int.inj e1]
    exact ⟨hn, gv⟩
theorem isWh_no {n : Nat} {p : Prop} (z : isWh (.int (n : Int)) = false) : p := by
  rw [isWh_cast] at z
  cases z
theorem isWay_ok {t : Str} (ht : t ∈ waysL) : isWay (.str t) = true := decide_eq_true ht
theorem ok_rnd (A : At K mg "rounded" pRnd ["worth", "scale", "way"]) (T : WorthC K mg W) (M : WMk P w K mg base C W) (D1 : DefOk P w K mg base (L2.CX P w) "need_worth" 3 ["value"] (spNeedW C W)) (D2 : DefOk P w K mg base (L2.CX P w) "need_whole_number" 3 ["value"] (spNWh C))
    (D3 : DefOk P w K mg base (L2.CX P w) "need_way" 3 ["value"] (spNWay C)) (D4 : DefOk P w K mg base CX0 "ten_to" 9 ["places"] (spTenTo 8)) (D5 : DefOk P w K mg base CX0 "nearest_units" 2 ["number", "divisor", "way"] spNear) :
    DefOk P w K mg base (L2.CX P w) "rounded" 13 ["worth", "scale", "way"] (spRnd C W) := by
  refine A.ok fun f fd F => F.okX scRnd (fun vs H Q E h => ?_) (fun cdv A outer s0 H vs Q E hr h => ?_)
  · obtain ⟨x, y, z, rfl, _⟩ := h
    rfl
  · obtain ⟨x, y, z, rfl, h⟩ := h
    refine ⟨_, pss_cons (ps_expr (pe_def (E := E) D1 hr (by decide) (by rfl) (passes_call (takes_of rfl rfl rfl rfl) fun _ _ _ _ z => z) (pa_cons (pv 0) pa_nil)))
      (pss_cons (ps_expr (pe_def (E := E) D2 hr (by decide) (by rfl) (passes_call (takes_of rfl rfl rfl rfl) fun _ _ _ _ z => z) (pa_cons (pv 1) pa_nil)))
      (pss_cons (ps_expr (pe_def (E := E) D3 hr (by decide) (by rfl) (passes_call (takes_of rfl rfl rfl rfl) fun _ _ _ _ z => z) (pa_cons (pv 2) pa_nil)))
      (pss_cons (ps_if (pt_cmpR op_le (pe_fld (pv 0) (by rfl)) (pv 1) (nomark _)) (pss_one (ps_ret (pv 0))) pss_nil)
      (pss_one (ps_ret (pe_worth (C := C) (E := E) M T hr (by decide) (by rfl) (passes_call (takes_of rfl rfl rfl rfl) fun _ _ _ _ z => z) (pa_cons (pe_def D5 hr (by decide) (by rfl) pass0 (pa_cons (pe_fld (pv 0) (by rfl)) (pa_cons (pe_def D4 hr (by decide) (by rfl) pass0 (pa_cons (pe_op op_sub (pe_fld (pv 0) (by rfl)) (pv 1)) pa_nil)) (pa_cons (pv 2) pa_nil)))) (pa_cons (pv 1) pa_nil)))))))), ?_⟩
    rcases h with ⟨th, bad⟩ | ⟨a, u, s, rfl, wa, hs, ow, h⟩
    · exact ⟨_, rfl, x, rfl, .inr ⟨th, bad⟩⟩
    refine ⟨_, rfl, _, rfl, .inl ⟨a, u, s, rfl, wa, ?_⟩⟩
    rcases h with ⟨th, hy, bad⟩ | ⟨n, rfl, hn, h⟩
    · exact ⟨_, rfl, y, rfl, th, fun z => absurd (z.symm.trans hy) (by decide), fun _ => bad⟩
    refine ⟨_, rfl, .int n, rfl, .int _, fun _ => ?_, fun z => isWh_no z⟩
    rcases h with ⟨th, hz, bad⟩ | ⟨t, ht, rfl, q⟩
    · exact ⟨_, rfl, z, rfl, th, fun e => absurd (e.symm.trans hz) (by decide), fun _ => bad⟩
    refine ⟨_, rfl, .str t, rfl, .str _, fun _ => ?_, fun e => absurd ((isWay_ok ht).symm.trans e) (by decide)⟩
    obtain ⟨dx, ea⟩ := id wa
    refine ⟨_, rfl, a, W, dx, _, .int s, rfl, ea, T.cls, T.ns, lk_s _ _, _, rfl, _, _, rfl, rfl, _, rfl, ite2 (fun e => ?_) (fun e => ?_)⟩
    · have z : (s : Int) ≤ (n : Int) := of_decide_eq_true e
      refine ⟨_, rfl, q a u s H (fun _ _ e => e) wa ⟨by omega, ?_, ow⟩⟩
      unfold rnd
      rw [if_pos (by omega)]
    · have z : ¬ (s : Int) ≤ (n : Int) := fun y => e (decide_eq_true y)
      have g : (s : Int) - (n : Int) = ((s - n : Nat) : Int) := by omega
      refine ⟨_, rfl, a, W, dx, _, .int u, rfl, ea, T.cls, T.nu, lk_u _ _, _, rfl, a, W, dx, _, .int s, rfl, ea, T.cls, T.ns, lk_s _ _, _, rfl, _, _, rfl, rfl, ?_⟩
      dsimp only
      rw [g]
      refine ⟨s - n, rfl, by omega, _, rfl, u, _, t, rfl, ten_pos _, up_two (ten_lt (s - n)) (by omega), ht, fun H1 sm => ⟨_, rfl, worth_of (by omega) fun u' s' p H2 lw sm2 np wp => q p u' s' H2 (sm.trans sm2) wp ?_⟩⟩
      unfold rnd
      rw [if_neg (by omega)]
      exact lw
end
end K45

/-! k45: which ways round unlike. -/
namespace K45
open PySem PySem.Spec PyProof.Rows L2 LamX NdefX Own
/-- u tenths are rounded alike -/
def Eqn (t1 t2 : Str) (u : Int) : Prop := near u 10 t1 = near u 10 t2
instance (t1 t2 : Str) (u : Int) : Decidable (Eqn t1 t2 u) := by unfold Eqn; infer_instance
/-- u is the first that is not -/
structure First (t1 t2 : Str) (sg : Bool) (u : Int) : Prop where
  ne : ¬ Eqn t1 t2 u
  sd : u < 0 → sg = true ∧ Eqn t1 t2 (-u)
  lo : ∀ j : Nat, (j : Int) < (u.natAbs : Int) → Eqn t1 t2 j ∧ (sg = true → Eqn t1 t2 (-(j : Int)))
theorem First.one {t1 t2 : Str} {sg : Bool} {u v : Int} (h : First t1 t2 sg u) (g : First t1 t2 sg v) : u = v := by
  have a : ¬ (u.natAbs : Int) < (v.natAbs : Int) := fun z => by
    have y := g.lo u.natAbs z
    by_cases n : u < 0
    · have e : -(u.natAbs : Int) = u := by omega
      exact h.ne (by rw [← e]; exact y.2 (h.sd n).1)
    · have e : (u.natAbs : Int) = u := by omega
      exact h.ne (by rw [← e]; exact y.1)
  have b : ¬ (v.natAbs : Int) < (u.natAbs : Int) := fun z => by
    have y := h.lo v.natAbs z
    by_cases n : v < 0
    · have e : -(v.natAbs : Int) = v := by omega
      exact g.ne (by rw [← e]; exact y.2 (g.sd n).1)
    · have e : (v.natAbs : Int) = v := by omega
      exact g.ne (by rw [← e]; exact y.1)
  by_cases n : u = v
  · exact n
  · have e : u = -v := by omega
    by_cases m : u < 0
    · exact absurd (h.sd m).2 (by rw [e, Int.neg_neg]; exact g.ne)
    · exact absurd (g.sd (by omega)).2 (by rw [← e]; exact h.ne)
/-- none below n -/
def Low (t1 t2 : Str) (sg : Bool) (n : Nat) : Prop := ∀ j : Nat, j < n → Eqn t1 t2 j ∧ (sg = true → Eqn t1 t2 (-(j : Int)))
theorem First.not_low {t1 t2 : Str} {sg : Bool} {u : Int} {n : Nat} (h : First t1 t2 sg u) (l : Low t1 t2 sg n) : ¬ u.natAbs < n := fun z => by
  have y := l u.natAbs z
  by_cases m : u < 0
  · have e : -(u.natAbs : Int) = u := by omega
    exact h.ne (by rw [← e]; exact y.2 (h.sd m).1)
  · have e : (u.natAbs : Int) = u := by omega
    exact h.ne (by rw [← e]; exact y.1)
theorem near_goes {n d : Int} {a b : Str} (g : ∀ p, goesUp a (n / d) p = goesUp b (n / d) p) : near n d a = near n d b := by
  unfold near
  rw [g]
theorem k_none {z : Str} {k : Nat} (h : halvL.lookup z = none) (hk : baseK z = k) : ∀ b p, goesUp z b p = kUp k b := goes_none h hk
theorem fl_cu {b : Int} (h : 0 ≤ b) (p : Int) : goesUp "floor" b p = goesUp "cut" b p := by
  rw [goes_none (k := 4) (by decide +kernel) (by decide +kernel), goes_none (k := 1) (by decide +kernel) (by decide +kernel)]
  show false = decide (b < 0)
  rw [decide_eq_false (by omega)]
theorem ce_aw {b : Int} (h : 0 ≤ b) (p : Int) : goesUp "ceiling" b p = goesUp "away" b p := by
  rw [goes_none (k := 3) (by decide +kernel) (by decide +kernel), goes_none (k := 2) (by decide +kernel) (by decide +kernel)]
  show true = decide (0 ≤ b)
  rw [decide_eq_true h]
theorem hu_ha {b : Int} (h : 0 ≤ b) (p : Int) : goesUp "halfup" b p = goesUp "halfaway" b p := by
  rw [goes_some (k := 3) (y := "ceiling") (by decide +kernel) (by decide +kernel), goes_some (k := 2) (y := "away") (by decide +kernel) (by decide +kernel)]
  show (if p = 0 then true else _) = if p = 0 then decide (0 ≤ b) else _
  rw [decide_eq_true h]
theorem hd_hc {b : Int} (h : 0 ≤ b) (p : Int) : goesUp "halfdown" b p = goesUp "halfcut" b p := by
  rw [goes_some (k := 4) (y := "floor") (by decide +kernel) (by decide +kernel), goes_some (k := 1) (y := "cut") (by decide +kernel) (by decide +kernel)]
  show (if p = 0 then false else _) = if p = 0 then decide (b < 0) else _
  rw [decide_eq_false (show ¬ b < 0 by omega)]
def Alike (t1 t2 : Str) (sg : Bool) : Prop := ∀ u d : Int, 0 < d → (sg = true ∨ 0 ≤ u) → near u d t1 = near u d t2
/-- pairs that agree from 0 on -/
def pairs : List (Str × Str) := [("floor", "cut"), ("cut", "floor"), ("ceiling", "away"), ("away", "ceiling"), ("halfup", "halfaway"), ("halfaway", "halfup"), ("halfdown", "halfcut"), ("halfcut", "halfdown")]
theorem pairs_ok {t1 t2 : Str} (h : (t1, t2) ∈ pairs) : ∀ u d : Int, 0 < d → 0 ≤ u → near u d t1 = near u d t2 := fun u d hd hu => by
  have b : 0 ≤ u / d := Int.ediv_nonneg hu (by omega)
  simp only [pairs, List.mem_cons, List.not_mem_nil, or_false, Prod.mk.injEq] at h
  rcases h with ⟨rfl, rfl⟩ | ⟨rfl, rfl⟩ | ⟨rfl, rfl⟩ | ⟨rfl, rfl⟩ | ⟨rfl, rfl⟩ | ⟨rfl, rfl⟩ | ⟨rfl, rfl⟩ | ⟨rfl, rfl⟩
  · exact near_goes fun p => fl_cu b p
  · exact near_goes fun p => (fl_cu b p).symm
  · exact near_goes fun p => ce_aw b p
  · exact near_goes fun p => (ce_aw b p).symm
  · exact near_goes fun p => hu_ha b p
  · exact near_goes fun p => (hu_ha b p).symm
  · exact near_goes fun p => hd_hc b p
  · exact near_goes fun p => (hd_hc b p).symm
/-- two ways: the same; or a pair, unlike below 0; or unlike from 0 on -/
def sorted_ (t1 t2 : Str) : Bool := decide (t1 = t2) || ((decide ((t1, t2) ∈ pairs) && (List.range 20).any fun j => !decide (Eqn t1 t2 (-(j : Int)))) || (List.range 20).any fun j => !decide (Eqn t1 t2 (j : Int)))
theorem all_sorted : (waysL.all fun t1 => waysL.all fun t2 => sorted_ t1 t2) = true := by decide +kernel
theorem alike {t1 t2 : Str} {sg : Bool} (h1 : t1 ∈ waysL) (h2 : t2 ∈ waysL) (l : Low t1 t2 sg 20) : Alike t1 t2 sg := by
  have z := List.all_eq_true.mp (List.all_eq_true.mp all_sorted t1 h1) t2 h2
  unfold sorted_ at z
  rcases Bool.or_eq_true_iff.mp z with z | z
  · intro u d _ _
    rw [of_decide_eq_true z]
  rcases Bool.or_eq_true_iff.mp z with z | z
  · obtain ⟨z1, z2⟩ := Bool.and_eq_true_iff.mp z
    obtain ⟨j, hj, e⟩ := List.any_eq_true.mp z2
    have hj := List.mem_range.mp hj
    intro u d hd hu
    rcases hu with hs | hu
    · have y := (l j hj).2 hs
      rw [decide_eq_true y] at e
      cases e
    · exact pairs_ok (of_decide_eq_true z1) u d hd hu
  · obtain ⟨j, hj, e⟩ := List.any_eq_true.mp z
    have hj := List.mem_range.mp hj
    have y := (l j hj).1
    rw [decide_eq_true y] at e
    cases e
theorem Alike.low {t1 t2 : Str} {sg : Bool} (h : Alike t1 t2 sg) (n : Nat) : Low t1 t2 sg n := fun j _ => ⟨h _ _ (by decide) (.inr (by omega)), fun s => h _ _ (by decide) (.inl s)⟩
end K45

/-! k45: the law's rounding. -/
namespace K45
open PySem PySem.Spec PyProof.Rows L2 LamX NdefX Own
abbrev sDiv : Stmt := topS 33
def dirL : List Str := ["ceiling", "cut", "away"]
def dirD (n : Int) : List (Str × V) := [("ceiling", .int 1), ("cut", .int (if decide (n < 0) = true then 1 else 0)), ("away", .int (if decide (n > 0) = true then 1 else 0))]
def tieD (n l : Int) : List (Str × V) := [("halfup", .int 1), ("halfdown", .int 0), ("halfeven", .int (l % 2)), ("halfaway", .int (if decide (n > 0) = true then 1 else 0)), ("halfcut", .int (if decide (n < 0) = true then 1 else 0))]
theorem low_neg {n d : Int} (h : 0 < d) (r : n % d ≠ 0) : (n / d < 0 ↔ n < 0) ∧ (0 ≤ n / d ↔ n > 0) := by
  have e := Int.emod_add_mul_ediv n d
  have r0 := Int.emod_nonneg n (show d ≠ 0 by omega)
  have r1 := Int.emod_lt_of_pos n h
  have a : n / d < 0 → n < 0 := fun z => Int.lt_of_not_ge fun y => by
    have := Int.ediv_nonneg y (Int.le_of_lt h)
    omega
  have b : 0 ≤ n / d → n > 0 := fun z => by
    have y := Int.mul_nonneg (Int.le_of_lt h) z
    omega
  constructor
  · exact ⟨a, fun z => Int.lt_of_not_ge fun y => by have := b y; omega⟩
  · exact ⟨b, fun z => Int.le_of_not_gt fun y => by have := a y; omega⟩
theorem near_zero {n d : Int} {t : Str} (r : n % d = 0) : near n d t = n / d := by
  unfold near
  rw [if_pos r]
theorem near_up {n d : Int} {t : Str} (r : n % d ≠ 0) : near n d t = n / d + (if goesUp t (n / d) (2 * (n % d) - d) = true then 1 else 0) := by
  unfold near
  rw [if_neg r]
  split <;> omega
theorem near_floor {n d : Int} : near n d "floor" = n / d := by
  by_cases r : n % d = 0
  · exact near_zero r
  · rw [near_up r, goes_none (k := 4) (by decide +kernel) (by decide +kernel)]
    show n / d + (if false = true then 1 else 0) = n / d
    rw [if_neg (by decide)]
    omega
theorem near_dir {n d : Int} {t : Str} (h : 0 < d) (r : n % d ≠ 0) (ht : t ∈ dirL) : ∃ v : Int, (dirD n).lookup t = some (.int v) ∧ near n d t = n / d + v := by
  obtain ⟨a, b⟩ := low_neg h r
  simp only [dirL, List.mem_cons, List.not_mem_nil, or_false] at ht
  have e1 : (("cut" : Str) == "ceiling") = false := by decide +kernel
  have e2 : (("away" : Str) == "ceiling") = false := by decide +kernel
  have e3 : (("away" : Str) == "cut") = false := by decide +kernel
  rcases ht with rfl | rfl | rfl
  · refine ⟨1, by simp [dirD, List.lookup], ?_⟩
    rw [near_up r, goes_none (k := 3) (by decide +kernel) (by decide +kernel)]
    rfl
  · refine ⟨(if decide (n < 0) = true then 1 else 0), by simp only [dirD, List.lookup, e1, beq_self_eq_true], ?_⟩
    rw [near_up r, goes_none (k := 1) (by decide +kernel) (by decide +kernel)]
    show n / d + (if decide (n / d < 0) = true then 1 else 0) = _
    rw [decide_eq_decide.mpr a]
  · refine ⟨(if decide (n > 0) = true then 1 else 0), by simp only [dirD, List.lookup, e2, e3, beq_self_eq_true], ?_⟩
    rw [near_up r, goes_none (k := 2) (by decide +kernel) (by decide +kernel)]
    show n / d + (if decide (0 ≤ n / d) = true then 1 else 0) = _
    rw [decide_eq_decide.mpr b]
theorem half_of {t : Str} (ht : t ∈ waysL) (h1 : t ≠ "floor") (h2 : t ∉ dirL) : ∃ y, halvL.lookup t = some y := by
  simp only [dirL, List.mem_cons, List.not_mem_nil, or_false, not_or] at h2
  rcases way_cases ht with rfl | rfl | rfl | rfl | rfl | rfl | rfl | rfl | rfl
  · exact absurd rfl h1
  · exact absurd rfl h2.1
  · exact absurd rfl h2.2.1
  · exact absurd rfl h2.2.2
  all_goals exact ⟨_, rfl⟩
theorem near_off {n d : Int} {t : Str} (r : n % d ≠ 0) (ht : t ∈ waysL) (h1 : t ≠ "floor") (h2 : t ∉ dirL) (p : 2 * (n % d) ≠ d) : near n d t = n / d + (if decide (2 * (n % d) > d) = true then 1 else 0) := by
  obtain ⟨y, hy⟩ := half_of ht h1 h2
  rw [near_up r, goes_some (k := baseK y) hy rfl, if_neg (show ¬ 2 * (n % d) - d = 0 by omega), decide_eq_decide.mpr (show 0 < 2 * (n % d) - d ↔ 2 * (n % d) > d by omega)]
theorem near_tie {n d : Int} {t : Str} (h : 0 < d) (r : n % d ≠ 0) (ht : t ∈ waysL) (h1 : t ≠ "floor") (h2 : t ∉ dirL) (p : 2 * (n % d) = d) : ∃ v : Int, (tieD n (n / d)).lookup t = some (.int v) ∧ near n d t = n / d + v := by
  obtain ⟨a, b⟩ := low_neg h r
  simp only [dirL, List.mem_cons, List.not_mem_nil, or_false, not_or] at h2
  have z : 2 * (n % d) - d = 0 := by omega
  have e1 : (("halfdown" : Str) == "halfup") = false := by decide +kernel
  have e2 : (("halfeven" : Str) == "halfup") = false := by decide +kernel
  have e3 : (("halfeven" : Str) == "halfdown") = false := by decide +kernel
  have e4 : (("halfaway" : Str) == "halfup") = false := by decide +kernel
  have e5 : (("halfaway" : Str) == "halfdown") = false := by decide +kernel
  have e6 : (("halfaway" : Str) == "halfeven") = false := by decide +kernel
  have e7 : (("halfcut" : Str) == "halfup") = false := by decide +kernel
  have e8 : (("halfcut" : Str) == "halfdown") = false := by decide +kernel
  have e9 : (("halfcut" : Str) == "halfeven") = false := by decide +kernel
  have e10 : (("halfcut" : Str) == "halfaway") = false := by decide +kernel
  rcases way_cases ht with rfl | rfl | rfl | rfl | rfl | rfl | rfl | rfl | rfl
  · exact absurd rfl h1
  · exact absurd rfl h2.1
  · exact absurd rfl h2.2.1
  · exact absurd rfl h2.2.2
  · refine ⟨1, by simp [tieD, List.lookup], ?_⟩
    rw [near_up r, z, goes_some (k := 3) (y := "ceiling") (by decide +kernel) (by decide +kernel), if_pos rfl]
    rfl
  · refine ⟨0, by simp only [tieD, List.lookup, e1, beq_self_eq_true], ?_⟩
    rw [near_up r, z, goes_some (k := 4) (y := "floor") (by decide +kernel) (by decide +kernel), if_pos rfl]
    rfl
  · refine ⟨n / d % 2, by simp only [tieD, List.lookup, e2, e3, beq_self_eq_true], ?_⟩
    rw [near_up r, z, goes_some (k := 0) (y := "even") (by decide +kernel) (by decide +kernel), if_pos rfl]
    show n / d + (if decide (n / d % 2 = 1) = true then 1 else 0) = _
    by_cases y : n / d % 2 = 1
    · rw [decide_eq_true y, if_pos rfl]
      omega
    · rw [decide_eq_false y, if_neg (by decide)]
      omega
  · refine ⟨(if decide (n > 0) = true then 1 else 0), by simp only [tieD, List.lookup, e4, e5, e6, beq_self_eq_true], ?_⟩
    rw [near_up r, z, goes_some (k := 2) (y := "away") (by decide +kernel) (by decide +kernel), if_pos rfl]
    show n / d + (if decide (0 ≤ n / d) = true then 1 else 0) = _
    rw [decide_eq_decide.mpr b]
  · refine ⟨(if decide (n < 0) = true then 1 else 0), by simp only [tieD, List.lookup, e7, e8, e9, e10, beq_self_eq_true], ?_⟩
    rw [near_up r, z, goes_some (k := 1) (y := "cut") (by decide +kernel) (by decide +kernel), if_pos rfl]
    show n / d + (if decide (n / d < 0) = true then 1 else 0) = _
    rw [decide_eq_decide.mpr a]
theorem dirD_nd (n : Int) : ((txK (dirD n)).map (·.1)).Nodup := by
  show ([Sum.inr "ceiling", Sum.inr "cut", Sum.inr "away"] : List Key).Nodup
  decide +kernel
theorem tieD_nd (n l : Int) : ((txK (tieD n l)).map (·.1)).Nodup := by
  show ([Sum.inr "halfup", Sum.inr "halfdown", Sum.inr "halfeven", Sum.inr "halfaway", Sum.inr "halfcut"] : List Key).Nodup
  decide +kernel
theorem inV_txt (z : Str) (l : List Str) : inV (.str z) (l.map V.str) = decide (z ∈ l) := by
  unfold inV
  rw [List.any_map]
  induction l with
  | nil => rfl
  | cons a r ih =>
    rw [List.any_cons, ih]
    show (a == z || decide (z ∈ r)) = decide (z ∈ a :: r)
    by_cases h : a = z
    · subst h
      simp
    · have h' : ¬ z = a := fun e => h e.symm
      simp [h, h']
section
variable {P : Program} {w : World} {K : PySem.W.Frag} {mg : Str → Option Value} {base : Heap} {C : Addr}
theorem scDiv : FnScope ["_law_number", "_law_divisor", "_law_how", "_law_low", "_law_above", "_law_ties"] ["_law_number", "_law_divisor", "_law_how"] (defScope sDiv) := ⟨rfl, rfl, rfl, by decide +kernel, rfl, by decide +kernel, by decide +kernel⟩
def spDiv : Sp := fun vs H Q _ => ∃ (n d : Int) (t : Str), vs = [.int n, .int d, .str t] ∧ 0 < d ∧ d < 1073741824 ∧ t ∈ waysL ∧ ∀ H', Same H H' → Q (.int (near n d t)) H'
theorem ok_div (A : At K mg "_law_divided" sDiv ["_law_number", "_law_divisor", "_law_how"]) (B : Blt mg) : DefOk P w K mg base CX0 "_law_divided" 1 ["_law_number", "_law_divisor", "_law_how"] spDiv := by
  refine A.ok fun f fd F => F.ok scDiv (fun vs H Q E h => ?_) (fun cdv A outer s H vs Q E hr h => ?_)
  · obtain ⟨n, d, t, rfl, _⟩ := h
    rfl
  · obtain ⟨n, d, t, rfl, h0, h1, ht, q⟩ := h
    have nd := scDiv.nd
    have hu := hu_of hr
    refine ⟨_, pss_cons (ps_set (i := 3) nd rfl (.inl rfl) (pe_op op_fdiv (pv 0) (pv 1)))
      (pss_cons (ps_set (i := 4) nd rfl (.inl rfl) (pe_op op_sub (pv 0) (pe_op op_mul (pv 3) (pv 1))))
      (pss_cons (ps_if (PW.pt (pw_or (pt_cmpR op_eq (pv 4) pe_int (nomark _)) (pw_or1 (pt_cmpR op_eq (pv 2) pe_str (nomark _))))) (pss_one (ps_ret (pv 3))) pss_nil)
      (pss_cons (ps_if (pt_cmpR op_in_seq (pv 2) (pe_lst (pa_cons pe_str (pa_cons pe_str (pa_cons pe_str pa_nil)))) (by rfl)) (pss_one (ps_ret (pe_op op_add (pv 3) (pe_dget hu (pe_disp (pps_cons pe_str pe_int (pps_cons pe_str (pe_callTy call_int1 (by rfl) B.int (by decide +kernel) (pa_cons (pe_cmpR op_lt (pv 0) pe_int (nomark _)) pa_nil)) (pps_cons pe_str (pe_callTy call_int1 (by rfl) B.int (by decide +kernel) (pa_cons (pe_cmpR op_gt (pv 0) pe_int (nomark _)) pa_nil)) pps_nil))) (by rfl) (by rfl) (fun z => by cases z) (by decide)) (pv 2) (fun _ _ => rfl))))) pss_nil)
      (pss_cons (ps_if (pt_cmpR op_ne (pe_op op_mul pe_int (pv 4)) (pv 1) (nomark _)) (pss_one (ps_ret (pe_op op_add (pv 3) (pe_callTy call_int1 (by rfl) B.int (by decide +kernel) (pa_cons (pe_cmpR op_gt (pe_op op_mul pe_int (pv 4)) (pv 1) (nomark _)) pa_nil))))) pss_nil)
      (pss_cons (ps_set (i := 5) nd rfl (.inl rfl) (pe_disp (pps_cons pe_str pe_int (pps_cons pe_str pe_int (pps_cons pe_str (pe_op op_mod (pe_callTy call_int1 (by rfl) B.int (by decide +kernel) (pa_cons (pv 3) pa_nil)) pe_int) (pps_cons pe_str (pe_callTy call_int1 (by rfl) B.int (by decide +kernel) (pa_cons (pe_cmpR op_gt (pv 0) pe_int (nomark _)) pa_nil)) (pps_cons pe_str (pe_callTy call_int1 (by rfl) B.int (by decide +kernel) (pa_cons (pe_cmpR op_lt (pv 0) pe_int (nomark _)) pa_nil)) pps_nil))))) (by rfl) (by rfl) (fun z => by cases z) (by decide)))
      (pss_one (ps_ret (pe_op op_add (pv 3) (pe_dget hu (pv 5) (pv 2) (fun _ _ => rfl)))))))))), ?_⟩
    refine ⟨_, rfl, _, rfl, n, d, rfl, rfl, ⟨h0, h1⟩, ?_⟩
    dsimp only [gName, List.set]
    refine ⟨_, rfl, _, rfl, _, rfl, _, d, rfl, rfl, .inr ⟨by omega, by omega⟩, _, _, rfl, rfl, ?_⟩
    dsimp only [gName, List.set]
    have eA : n - n / d * d = n % d := by
      have e := Int.emod_add_mul_ediv n d
      have c := Int.mul_comm d (n / d)
      omega
    rw [eA]
    refine ⟨_, rfl, rfl, _, rfl, ite2 (fun g => ?_) (fun g => ?_)⟩
    · have r : n % d = 0 := by simpa using g
      refine ⟨_, rfl, ?_⟩
      have q := q H (Same.refl H)
      rw [near_zero r] at q
      exact q
    have r : n % d ≠ 0 := by simpa using g
    refine ⟨_, rfl, rfl, _, rfl, ite2 (fun g => ?_) (fun g => ?_)⟩
    · have e : t = "floor" := by simpa using g
      subst e
      refine ⟨_, rfl, ?_⟩
      have q := q H (Same.refl H)
      rw [near_floor] at q
      exact q
    have hf : t ≠ "floor" := by simpa using g
    refine ⟨_, rfl, by show 3 ≤ sizeLine; decide, fun p np => ?_⟩
    have s1 := same_new (o := HO.lst (dirL.map V.str)) np
    refine ⟨p, dirL.map V.str, rfl, .inl (SqL.of upd_same), rfl, by decide +kernel, _, rfl, ?_⟩
    show if inV (.str t) (dirL.map V.str) = true then _ else _
    rw [inV_txt]
    refine ite2 (fun g => ?_) (fun g => ?_)
    · obtain ⟨v, hv, e⟩ := near_dir h0 r (of_decide_eq_true g)
      refine ⟨_, rfl, fun p2 np2 => ?_⟩
      refine ⟨_, rfl, _, _, rfl, rfl, .inr ⟨_, rfl, _, rfl, _, _, rfl, rfl, .inr ⟨_, rfl, upd_same, txK (dirD n), rfl, by show 3 ≤ 15; decide, ?_⟩⟩⟩
      rw [merge_new (dirD_nd n), upd_upd]
      refine ⟨_, rfl, p2, .int v, rfl, ?_, _, _, rfl, rfl, ?_⟩
      · rw [← hv]
        exact DGet.tx t upd_same
      · have q := q _ (s1.trans (same_new (o := HO.dK (txK (dirD n))) np2))
        rw [e] at q
        exact q
    have hn : t ∉ dirL := fun z => g (decide_eq_true z)
    refine ⟨_, rfl, _, _, rfl, rfl, .inl ⟨by decide, by decide⟩, _, rfl, rfl, _, rfl, ite2 (fun g => ?_) (fun g => ?_)⟩
    · have p2 : 2 * (n % d) ≠ d := by
        have y := g
        simp at y
        exact y
      refine ⟨_, rfl, _, rfl, _, _, rfl, rfl, .inl ⟨by decide, by decide⟩, _, rfl, _, _, rfl, rfl, .inr ⟨_, rfl, _, _, rfl, rfl, ?_⟩⟩
      have q := q _ s1
      rw [near_off r ht hf hn p2] at q
      exact q
    have p2 : 2 * (n % d) = d := by
      have y := g
      simp at y
      exact y
    obtain ⟨v, hv, e⟩ := near_tie h0 r ht hf hn p2
    intro p3 np3
    refine ⟨_, rfl, .inl ⟨_, rfl, _, _, rfl, rfl, (show (0 : Int) < 2 by decide), _, rfl, _, _, rfl, rfl, .inr ⟨_, rfl, _, rfl, _, _, rfl, rfl, .inr ⟨_, rfl, upd_same, txK (tieD n (n / d)), rfl, by show 5 ≤ 15; decide, ?_⟩⟩⟩⟩
    rw [merge_new (tieD_nd n (n / d)), upd_upd]
    dsimp only [gName, List.set]
    refine ⟨_, rfl, _, rfl, _, rfl, p3, .int v, rfl, ?_, _, _, rfl, rfl, ?_⟩
    · rw [← hv]
      exact DGet.tx t upd_same
    · have q := q _ (s1.trans (same_new (o := HO.dK (txK (tieD n (n / d)))) np3))
      rw [e] at q
      exact q
end
end K45

/-! k45: ways_part; what the law asks of it. -/
namespace K45
open PySem PySem.Spec PyProof.Rows L2 LamX NdefX Own
theorem low_uniq {u : Int} {s : Nat} {u1 u2 : Int} {s1 s2 : Nat} (a : IsLow u s u1 s1) (b : IsLow u s u2 s2) (h : s1 ≤ s2) : u1 = u2 ∧ s1 = s2 := by
  have p := ten_pos (s - s2)
  have e : u1 * (10 : Int) ^ (s2 - s1) = u2 := by
    have z := a.eq.symm.trans b.eq
    have le := b.le
    have e2 : s - s1 = (s2 - s1) + (s - s2) := by omega
    rw [e2, Int.pow_add, ← Int.mul_assoc] at z
    exact Int.eq_of_mul_eq_mul_right (by omega) z
  by_cases hs : s1 = s2
  · subst hs
    simp at e
    exact ⟨e, rfl⟩
  · exfalso
    rcases b.own with z | z
    · omega
    · refine z ?_
      rw [← e]
      have e3 : s2 - s1 = (s2 - s1 - 1) + 1 := by omega
      rw [e3, Int.pow_succ, ← Int.mul_assoc]
      exact Int.mul_emod_left _ _
theorem low_eq {u : Int} {s : Nat} {u1 u2 : Int} {s1 s2 : Nat} (a : IsLow u s u1 s1) (b : IsLow u s u2 s2) : u1 = u2 ∧ s1 = s2 := by
  rcases Nat.le_total s1 s2 with h | h
  · exact low_uniq a b h
  · obtain ⟨x, y⟩ := low_uniq b a h
    exact ⟨x.symm, y.symm⟩
abbrev pWp : Stmt := topS 26
abbrev sIsW : Stmt := topS 34
abbrev sDue : Stmt := topS 35
abbrev sFar : Stmt := topS 37
/-- a worth of u tenths, rounded to integers -/
theorem rnd_tenth {x u : Int} {s : Nat} (h : IsLow x 1 u s) (t : Str) : rnd u s 0 t = near x 10 t := by
  have l := h.le
  unfold rnd
  by_cases z : s = 0
  · subst z
    rw [if_pos (Nat.le_refl 0)]
    have e : x = u * 10 := by
      have y := h.eq
      simpa using y
    rw [e, near_mul (by decide)]
    simp
  · have e1 : s = 1 := by omega
    subst e1
    rw [if_neg (by omega)]
    have e : x = u := by
      have y := h.eq
      simpa using y
    rw [e]
    rfl
theorem low_zero {v u : Int} {s : Nat} (h : IsLow v 0 u s) : u = v ∧ s = 0 := by
  have l := h.le
  have z : s = 0 := by omega
  subst z
  have e := h.eq
  simp at e
  exact ⟨e.symm, rfl⟩
theorem low_sign {x u : Int} {n s : Nat} (h : IsLow x n u s) : (x < 0 ↔ u < 0) := by
  have p := ten_pos (n - s)
  have e := h.eq
  constructor
  · intro z
    refine Int.lt_of_not_ge fun y => ?_
    have := Int.mul_nonneg y (Int.le_of_lt p)
    omega
  · intro z
    have := Int.mul_neg_of_neg_of_pos z p
    omega
/-- how two Worths are compared -/
structure WEq (P : Program) (w : World) (K : PySem.W.Frag) (mg : Str → Option Value) (base : Heap) (W f : Addr) (fd : FuncData) : Prop where
  at_ : PySem.W.findIn K (.ref W) "__eq__" = some (some (.ref f))
  isf : PySem.W.isFn K (.ref f) = true
  fn : FnOk P w K mg base (L2.CX P w) 1 f fd ["self", "other"] (spEqW W)
  bd : Binds K fd ["self", "other"] []
  sub : ∀ T ∈ tys, PySem.W.subIn K (.type T) (.ref W) = some false
  ne : PySem.W.findIn K (.ref W) "__ne__" = some (some (.builtin "object.__ne__"))
  obj : PySem.W.subIn K (.ref W) (.type "object") = some true
section
variable {P : Program} {w : World} {K : PySem.W.Frag} {mg : Str → Option Value} {base : Heap} {C W fq : Addr} {fdq : FuncData}
theorem scWp : FnScope ["way", "other", "signed", "units", "worth"] ["way", "other", "signed"] (defScope pWp) := ⟨rfl, rfl, rfl, by decide +kernel, rfl, by decide +kernel, by decide +kernel⟩
theorem worth_t {σ : L2.St} {H : Hp} {Q : VK} {E : XK} {v : Int} (g : Gives W H v 1 Q) : tCons (tC (.int 1)) tNil σ H (fun xs H2 => spWorth C W (V.int v :: xs ++ []) H2 Q E) := worth_of (C := C) (n := 1) (by omega) g
def spWP (C W : Addr) : Sp := fun vs H Q E => ∃ (x y : V) (sg : Bool), vs = [x, y, .bl sg] ∧ ((Thing H x ∧ isWay x = false ∧ Bad C "value" x H E) ∨ ∃ t1 ∈ waysL, x = .str t1 ∧ ((Thing H y ∧ isWay y = false ∧ Bad C "value" y H E) ∨ ∃ t2 ∈ waysL, y = .str t2 ∧
  (∀ H', Same H H' → Low t1 t2 sg 20 → Q .non H') ∧ ∀ (u u' : Int) (s' : Nat) (p : Addr) (H' : Hp), Same H H' → First t1 t2 sg u → IsLow u 1 u' s' → WAt W H' p u' s' → Q (.ref p) H'))
theorem ok_wp (A : At K mg "ways_part" pWp ["way", "other", "signed"]) (B : Blt mg) (T : WorthC K mg W) (M : WMk P w K mg base C W) (WE : WEq P w K mg base W fq fdq) (DN : DefOk P w K mg base (L2.CX P w) "need_way" 3 ["value"] (spNWay C)) (DR : DefOk P w K mg base (L2.CX P w) "rounded" 13 ["worth", "scale", "way"] (spRnd C W)) :
    DefOk P w K mg base (L2.CX P w) "ways_part" 14 ["way", "other", "signed"] (spWP C W) := by
  refine A.ok fun f fd F => F.okX scWp (fun vs H Q E h => ?_) (fun cdv A outer s0 H vs Q E hr h => ?_)
  · obtain ⟨x, y, sg, rfl, _⟩ := h
    rfl
  · obtain ⟨x, y, sg, rfl, h⟩ := h
    have nd := scWp.nd
    refine ⟨_, pss_cons (ps_expr (pe_def (E := E) DN hr (by decide) (by rfl) (passes_call (takes_of rfl rfl rfl rfl) fun _ _ _ _ z => z) (pa_cons (pv 0) pa_nil)))
      (pss_cons (ps_expr (pe_def (E := E) DN hr (by decide) (by rfl) (passes_call (takes_of rfl rfl rfl rfl) fun _ _ _ _ z => z) (pa_cons (pv 1) pa_nil)))
      (pss_cons (ps_for (passes_of rfl) rfl (pi_range1 (by rfl) B.range (pa_cons pe_int pa_nil)) (pg_name (i := 3) nd rfl (.inl rfl)) (pss_one (ps_for (passes_of rfl) rfl (pi_tup (pe_tup (pa_cons (pe_worth (C := C) (E := E) M T hr (by decide) (by rfl) (passes_call (takes_of rfl rfl rfl rfl) fun _ _ _ _ z => z) (pa_cons (pv 3) (pa_cons pe_int pa_nil))) (pa_cons (pe_worth (C := C) (E := E) M T hr (by decide) (by rfl) (passes_call (takes_of rfl rfl rfl rfl) fun _ _ _ _ z => z) (pa_cons (pe_un un_neg (pv 3)) (pa_cons pe_int pa_nil))) pa_nil)))) (pg_name (i := 4) nd rfl (.inl rfl)) (C8.pss_cut (ps_if (PW.pt (pw_and (pt_cmpR op_isBl (pv 2) pe_bl (nomark _)) (pw_and1 (pt_cmpR op_lt (pe_fld (pv 4) (by rfl)) pe_int (nomark _))))) (pss_one ps_continue) pss_nil) (pss_one (ps_if (pt_cmpR (op_ownNe (E := E) WE.fn (hr.mono (by decide)) WE.ne WE.obj WE.at_ WE.isf WE.sub WE.bd (passes_call (takes_of rfl rfl rfl rfl) fun _ _ _ _ z => z)) (pe_def (E := E) DR hr (by decide) (by rfl) (passes_call (takes_of rfl rfl rfl rfl) fun _ _ _ _ z => z) (pa_cons (pv 4) (pa_cons pe_int (pa_cons (pv 0) pa_nil)))) (pe_def (E := E) DR hr (by decide) (by rfl) (passes_call (takes_of rfl rfl rfl rfl) fun _ _ _ _ z => z) (pa_cons (pv 4) (pa_cons pe_int (pa_cons (pv 1) pa_nil)))) (nomark _)) (pss_one (ps_ret (pv 4))) pss_nil))))))
      (pss_one (ps_ret pe_non)))), ?_⟩
    rcases h with ⟨th, n, b⟩ | ⟨t1, h1, rfl, h⟩
    · exact ⟨_, rfl, x, rfl, th, fun z => absurd (z.symm.trans n) (by decide), fun _ => b⟩
    refine ⟨_, rfl, .str t1, rfl, .str _, fun _ => ?_, fun e => absurd ((isWay_ok h1).symm.trans e) (by decide)⟩
    rcases h with ⟨th, n, b⟩ | ⟨t2, h2, rfl, q1, q2⟩
    · exact ⟨_, rfl, y, rfl, th, fun z => absurd (z.symm.trans n) (by decide), fun _ => b⟩
    refine ⟨_, rfl, .str t2, rfl, .str _, fun _ => ?_, fun e => absurd ((isWay_ok h2).symm.trans e) (by decide)⟩
    refine ⟨_, rfl, by decide, by decide, for_range (lo := 0) (n := 20) (fun i σ H' => (∃ y3 y4 : Option V, σ = [some (.str t1), some (.str t2), some (.bl sg), y3, y4]) ∧ Same H H' ∧ Low t1 t2 sg i) ⟨⟨_, _, rfl⟩, Same.refl _, fun j hj => absurd hj (Nat.not_lt_zero _)⟩ ?_ ?_⟩
    · rintro i σ H1 hi ⟨⟨y3, y4, rfl⟩, s1, lo⟩
      dsimp only [gName, List.set]
      rw [Int.zero_add]
      refine ⟨_, rfl, worth_t fun u1 c1 p1 H2 l1 s2 _ w1 => ?_⟩
      refine ⟨_, rfl, _, rfl, worth_t fun u2 c2 p2 H3 l2 s3 _ w2 => ?_⟩
      have w1 := w1.same s3
      have s3' := (s1.trans s2).trans s3
      refine ⟨by show 2 ≤ sizeLine; decide, fun tp ntp => ?_⟩
      have s4 := same_new (o := HO.tup [.ref p1, .ref p2]) ntp
      have w1 := w1.same s4
      have w2 := w2.same s4
      have et : upd H3 tp (HO.tup [.ref p1, .ref p2]) tp = some (.tup [.ref p1, .ref p2]) := upd_same
      have s4' := s3'.trans s4
      generalize upd H3 tp (HO.tup [.ref p1, .ref p2]) = H4 at w1 w2 et s4' ⊢
      clear s2 s3 s4 s3' s1 ntp
      refine ⟨tp, rfl, ⟨_, SqT.of et⟩, for_tup (K := K) (xs := [.ref p1, .ref p2]) (fun k σ H' => (∃ y4 : Option V, σ = [some (.str t1), some (.str t2), some (.bl sg), some (.int i), y4]) ∧ Same H4 H' ∧ (1 ≤ k → Eqn t1 t2 i) ∧ (2 ≤ k → sg = true → Eqn t1 t2 (-(i : Int)))) ⟨⟨_, rfl⟩, Same.refl _, fun z => absurd z (by omega), fun z => absurd z (by omega)⟩ (fun k σ H' _ z => SqT.of (z.2.1 _ _ et)) ?_ ?_⟩
      · rintro k x σ H5 hx ⟨⟨y4, rfl⟩, s5, e1, e2⟩
        have hp : ∃ (p : Addr) (u v : Int) (c : Nat), x = .ref p ∧ WAt W H5 p u c ∧ IsLow v 1 u c ∧ ((k = 0 ∧ v = (i : Int)) ∨ (k = 1 ∧ v = -(i : Int))) := by
          match k, hx with
          | 0, hx => exact ⟨p1, u1, i, c1, (Option.some.inj hx).symm, w1.same s5, l1, .inl ⟨rfl, rfl⟩⟩
          | 1, hx => exact ⟨p2, u2, -(i : Int), c2, (Option.some.inj hx).symm, w2.same s5, l2, .inr ⟨rfl, rfl⟩⟩
          | k + 2, hx => cases hx
        obtain ⟨p, u, v, c, rfl, wp, lw, hk⟩ := hp
        obtain ⟨dx, ea⟩ := id wp
        dsimp only [gName, List.set]
        refine ⟨fun σ H' => σ = [some (.str t1), some (.str t2), some (.bl sg), some (.int i), some (.ref p)] ∧ H' = H5 ∧ (sg = true ∨ 0 ≤ v), ?_, ?_⟩
        · refine ⟨_, rfl, sg, false, rfl, rfl, _, rfl, ?_⟩
          cases sg with
          | true => exact iteF ⟨rfl, rfl, .inl rfl⟩
          | false =>
            refine iteT ⟨_, rfl, p, W, dx, _, .int u, rfl, ea, T.cls, T.nu, lk_u _ _, _, _, rfl, rfl, _, rfl, ite2 (fun g => ?_) (fun g => ?_)⟩
            · have z : u < 0 := of_decide_eq_true g
              have zv := (low_sign lw).mpr z
              rcases hk with ⟨rfl, rfl⟩ | ⟨rfl, rfl⟩
              · exact absurd zv (by omega)
              · exact ⟨⟨_, rfl⟩, s5, fun _ => e1 (by omega), fun _ z => by cases z⟩
            · have z : ¬ u < 0 := fun y => g (decide_eq_true y)
              exact ⟨rfl, rfl, .inr (Int.not_lt.mp fun y => z ((low_sign lw).mp y))⟩
        · rintro σ2 H6 ⟨rfl, rfl, hs⟩
          have hl : c ≤ 240 := by have := lw.le; omega
          have hr1 : rnd u c 0 t1 = near v 10 t1 := rnd_tenth lw t1
          have hr2 : rnd u c 0 t2 = near v 10 t2 := rnd_tenth lw t2
          refine ⟨_, rfl, _, rfl, .ref p, .int (0 : Nat), .str t1, rfl, .inr ⟨p, u, c, rfl, wp, hl, lw.own, .inr ⟨0, rfl, by omega, .inr ⟨t1, h1, rfl, fun q1' v1 g1 H7 s7 x1 m1 => ?_⟩⟩⟩⟩
          have wp7 := wp.same s7
          refine ⟨_, rfl, _, rfl, .ref p, .int (0 : Nat), .str t2, rfl, .inr ⟨p, u, c, rfl, wp7, hl, lw.own, .inr ⟨0, rfl, by omega, .inr ⟨t2, h2, rfl, fun q2' v2 g2 H8 s8 x2 m2 => ?_⟩⟩⟩⟩
          rw [hr1] at m1
          rw [hr2] at m2
          obtain ⟨rfl, rfl⟩ := low_zero m1
          obtain ⟨rfl, rfl⟩ := low_zero m2
          have x1 := x1.same s8
          obtain ⟨d1, a1⟩ := id x1
          obtain ⟨d2, a2⟩ := id x2
          refine ⟨q1', d1, _, rfl, a1, .inl ⟨q2', d2, _, rfl, a2⟩, q1', _, 0, .ref q2', rfl, x1, .inl ⟨q2', _, 0, rfl, x2, fun H9 s9 => ⟨_, rfl, _, rfl, ?_⟩⟩⟩
          have eb : (!(decide (near v 10 t1 = near v 10 t2) && decide (0 = 0))) = !decide (Eqn t1 t2 v) := by
            unfold Eqn
            simp
          rw [eb]
          refine ite2 (fun g => ?_) (fun g => ?_)
          · have z : ¬ Eqn t1 t2 v := by
              intro y
              rw [decide_eq_true y] at g
              cases g
            refine ⟨_, rfl, q2 v u c p H9 (((s4'.trans s5).trans (s7.trans s8)).trans s9) ⟨z, fun n => ?_, fun j hj => ?_⟩ lw ((wp7.same s8).same s9)⟩
            · rcases hk with ⟨rfl, rfl⟩ | ⟨rfl, rfl⟩
              · exact absurd n (by omega)
              · rw [Int.neg_neg]
                exact ⟨hs.resolve_right (by omega), e1 (by omega)⟩
            · refine lo j ?_
              rcases hk with ⟨rfl, rfl⟩ | ⟨rfl, rfl⟩ <;> omega
          · have z : Eqn t1 t2 v := by
              have y : decide (Eqn t1 t2 v) = true := by
                cases h : decide (Eqn t1 t2 v) with
                | true => rfl
                | false => rw [h] at g; exact absurd rfl g
              exact of_decide_eq_true y
            refine ⟨⟨_, rfl⟩, (s5.trans (s7.trans s8)).trans s9, fun _ => ?_, fun y y' => ?_⟩
            · rcases hk with ⟨rfl, rfl⟩ | ⟨rfl, rfl⟩
              · exact z
              · exact e1 (by omega)
            · rcases hk with ⟨rfl, rfl⟩ | ⟨rfl, rfl⟩
              · omega
              · exact z
      · rintro σ H5 ⟨⟨y4, rfl⟩, s5, e1, e2⟩
        refine ⟨⟨_, _, rfl⟩, s4'.trans s5, fun j hj => ?_⟩
        by_cases h : j < i
        · exact lo j h
        · have e : j = i := by omega
          subst e
          exact ⟨e1 (by show 1 ≤ 2; omega), e2 (by show 2 ≤ 2; omega)⟩
    · rintro σ H1 ⟨⟨y3, y4, rfl⟩, s1, lo⟩
      exact q1 H1 s1 lo
end
end K45

/-! k45: is_worth, due, far_alike. -/
namespace K45
open PySem PySem.Spec PyProof.Rows L2 LamX NdefX Own
section
variable {P : Program} {w : World} {K : PySem.W.Frag} {mg : Str → Option Value} {base : Heap} {C W fq : Addr} {fdq : FuncData}
theorem scIsW : FnScope ["_law_told", "_law_worth"] ["_law_told", "_law_worth"] (defScope sIsW) := ⟨rfl, rfl, rfl, by decide +kernel, rfl, by decide +kernel, by decide +kernel⟩
def spIsW (W : Addr) : Sp := fun vs H Q _ => ∃ (p r : Addr) (u u' : Int) (s' : Nat), vs = [.ref p, .ref r] ∧ WAt W H p u' s' ∧ H r = some (.tup [.int u, .int 1]) ∧ IsLow u 1 u' s' ∧ ∀ H', Same H H' → Q (.bl true) H'
theorem ok_isw (A : At K mg "_law_is_worth" sIsW ["_law_told", "_law_worth"]) (B : Blt mg) (T : WorthC K mg W) (I : WIs K W) (M : WMk P w K mg base C W) (WE : WEq P w K mg base W fq fdq) : DefOk P w K mg base CX0 "_law_is_worth" 13 ["_law_told", "_law_worth"] (spIsW W) := by
  refine A.ok fun f fd F => F.ok scIsW (fun vs H Q E h => ?_) (fun cdv A outer s0 H vs Q E hr h => ?_)
  · obtain ⟨p, r, u, u', s', rfl, _⟩ := h
    rfl
  · obtain ⟨p, r, u, u', s', rfl, wp, er, lw, q⟩ := h
    refine ⟨_, pss_one (ps_ret (pe_and (pe_callB call_isi (by rfl) B.isi (by decide +kernel) (pa_cons (pv 0) (pa_cons (pe_glob (v := .ref W) (by rfl) T.g rfl) pa_nil))) (pe_one (pe_cmpR (op_ownEq (E := E0) WE.fn (hr.mono (by decide)) WE.at_ WE.isf WE.sub WE.bd passL) (pv 0) (pe_worth (C := C) (E := E0) M T hr (by decide) (by rfl) passL (pa_cons (pe_ix ix_tup (pv 1) pe_int (fun _ _ => rfl)) (pa_cons (pe_ix ix_tup (pv 1) pe_int (fun _ _ => rfl)) pa_nil))) (nomark _))))), ?_⟩
    obtain ⟨dx, ea⟩ := id wp
    refine ⟨_, rfl, _, _, _, _, true, rfl, .own W, .base (.ins ea T.cls I.ha I.hn I.ht I.hm), by unfold PySem.W.kitOne; rw [if_pos (by simp)], _, rfl, iteT ?_⟩
    refine ⟨_, rfl, _, rfl, r, _, 0, _, rfl, rfl, SqT.of er, rfl, _, rfl, r, _, 1, _, rfl, rfl, SqT.of er, rfl, ?_⟩
    dsimp only [tNil]
    rw [List.append_nil]
    refine worth_of (C := C) (v := u) (n := 1) (by omega) fun u2 c2 p2 H2 l2 s2 _ w2 => ?_
    obtain ⟨rfl, rfl⟩ := low_eq lw l2
    have wp2 := wp.same s2
    obtain ⟨d1, a1⟩ := id wp2
    obtain ⟨d2, a2⟩ := id w2
    refine ⟨p, d1, _, rfl, a1, .inl ⟨p2, d2, _, rfl, a2⟩, p, u', s', .ref p2, rfl, wp2, .inl ⟨p2, u', s', rfl, w2, fun H9 s9 => ?_⟩⟩
    rw [decide_eq_true (show u' = u' from rfl), decide_eq_true (show s' = s' from rfl)]
    exact q H9 (s2.trans s9)
theorem scDue : FnScope ["_law_how", "_law_other", "_law_is_signed", "_law_size", "_law_units"] ["_law_how", "_law_other", "_law_is_signed"] (defScope sDue) := ⟨rfl, rfl, rfl, by decide +kernel, rfl, by decide +kernel, by decide +kernel⟩
def spDue : Sp := fun vs H Q _ => ∃ (t1 t2 : Str) (sg : Bool), vs = [.str t1, .str t2, .bl sg] ∧ t1 ∈ waysL ∧ t2 ∈ waysL ∧ (∀ H', Same H H' → Low t1 t2 sg 60 → Q .non H') ∧ ∀ (u : Int) (H' : Hp), Same H H' → First t1 t2 sg u → Q (.int u) H'
theorem ok_due (A : At K mg "_law_due" sDue ["_law_how", "_law_other", "_law_is_signed"]) (B : Blt mg) (DV : DefOk P w K mg base CX0 "_law_divided" 1 ["_law_number", "_law_divisor", "_law_how"] spDiv) : DefOk P w K mg base CX0 "_law_due" 2 ["_law_how", "_law_other", "_law_is_signed"] spDue := by
  refine A.ok fun f fd F => F.ok scDue (fun vs H Q E h => ?_) (fun cdv A outer s0 H vs Q E hr h => ?_)
  · obtain ⟨t1, t2, sg, rfl, _⟩ := h
    rfl
  · obtain ⟨t1, t2, sg, rfl, h1, h2, q1, q2⟩ := h
    have nd := scDue.nd
    refine ⟨_, pss_cons (ps_for PassesOwn.never rfl (pi_range1 (by rfl) B.range (pa_cons pe_int pa_nil)) (pg_name (i := 3) nd rfl (.inl rfl)) (pss_one (ps_for PassesOwn.never rfl (pi_list (pe_ifExp (pt_val (pv 2)) (pe_lst (pa_cons (pv 3) (pa_cons (pe_un un_neg (pv 3)) pa_nil))) (pe_lst (pa_cons (pv 3) pa_nil)))) (pg_name (i := 4) nd rfl (.inl rfl)) (pss_one (ps_if (pt_cmpR op_ne (pe_def DV hr (by decide) (by rfl) pass0 (pa_cons (pv 4) (pa_cons pe_int (pa_cons (pv 0) pa_nil)))) (pe_def DV hr (by decide) (by rfl) pass0 (pa_cons (pv 4) (pa_cons pe_int (pa_cons (pv 1) pa_nil)))) (nomark _)) (pss_one (ps_ret (pv 4))) pss_nil)))))
      (pss_one (ps_ret pe_non)), ?_⟩
    refine ⟨_, rfl, by decide, by decide, for_range (lo := 0) (n := 60) (fun i σ H' => (∃ y3 y4 : Option V, σ = [some (.str t1), some (.str t2), some (.bl sg), y3, y4]) ∧ Same H H' ∧ Low t1 t2 sg i) ⟨⟨_, _, rfl⟩, Same.refl _, fun j hj => absurd hj (Nat.not_lt_zero _)⟩ ?_ ?_⟩
    · rintro i σ H1 hi ⟨⟨y3, y4, rfl⟩, s1, lo⟩
      dsimp only [gName, List.set]
      rw [Int.zero_add]
      -- the inner walk, over one or two
      have turn : ∀ (xs : List V) (H4 : Hp) (l : Addr), H4 l = some (.lst xs) → Same H1 H4 → (∀ k x, xs[k]? = some x → ∃ v : Int, x = .int v ∧ ((k = 0 ∧ v = (i : Int)) ∨ (k = 1 ∧ v = -(i : Int) ∧ sg = true))) → (sg = true → xs.length = 2) → (sg = false → xs.length = 1) →
          ∀ (k : Nat) (x : V) (H5 : Hp), xs[k]? = some x → Same H4 H5 → (1 ≤ k → Eqn t1 t2 i) → ∃ v : Int, x = .int v ∧ (Eqn t1 t2 v → (1 ≤ k + 1 → Eqn t1 t2 i) ∧ (2 ≤ k + 1 → sg = true → Eqn t1 t2 (-(i : Int)))) ∧ (¬ Eqn t1 t2 v → First t1 t2 sg v) := by
        intro xs H4 l el s4 hxs _ _ k x H5 hx s5 e1
        obtain ⟨v, rfl, hk⟩ := hxs k x hx
        refine ⟨v, rfl, fun z => ?_, fun z => ⟨z, fun n => ?_, fun j hj => lo j ?_⟩⟩
        · rcases hk with ⟨rfl, rfl⟩ | ⟨rfl, rfl, _⟩
          · exact ⟨fun _ => z, fun y => absurd y (by omega)⟩
          · exact ⟨fun _ => e1 (by omega), fun _ _ => z⟩
        · rcases hk with ⟨rfl, rfl⟩ | ⟨rfl, rfl, hs⟩
          · exact absurd n (by omega)
          · rw [Int.neg_neg]
            exact ⟨hs, e1 (by omega)⟩
        · rcases hk with ⟨rfl, rfl⟩ | ⟨rfl, rfl, _⟩ <;> omega
      cases sg with
      | true =>
        refine ⟨_, rfl, _, rfl, iteT ⟨_, rfl, _, rfl, _, rfl, by show 2 ≤ sizeLine; decide, fun l nl => ?_⟩⟩
        have s4 := same_new (o := HO.lst [.int i, .int (-(i : Int))]) nl
        have el : upd H1 l (HO.lst [.int i, .int (-(i : Int))]) l = some (.lst [.int i, .int (-(i : Int))]) := upd_same
        have tn := turn [.int i, .int (-(i : Int))] _ l el s4 (fun k x hx => by
          match k, hx with
          | 0, hx => exact ⟨_, (Option.some.inj hx).symm, .inl ⟨rfl, rfl⟩⟩
          | 1, hx => exact ⟨_, (Option.some.inj hx).symm, .inr ⟨rfl, rfl, rfl⟩⟩
          | k + 2, hx => cases hx) (fun _ => rfl) (fun z => by cases z)
        generalize upd H1 l (HO.lst [.int i, .int (-(i : Int))]) = H4 at s4 el tn ⊢
        refine ⟨l, rfl, ⟨_, SqL.of el⟩, for_list (K := K) (xs := [.int i, .int (-(i : Int))]) (fun k σ H' => (∃ y4 : Option V, σ = [some (.str t1), some (.str t2), some (.bl true), some (.int i), y4]) ∧ Same H4 H' ∧ (1 ≤ k → Eqn t1 t2 i) ∧ (2 ≤ k → true = true → Eqn t1 t2 (-(i : Int)))) ⟨⟨_, rfl⟩, Same.refl _, fun z => absurd z (by omega), fun z => absurd z (by omega)⟩ (fun k σ H' _ z => SqL.of (z.2.1 _ _ el)) ?_ ?_⟩
        · rintro k x σ H5 hx ⟨⟨y4, rfl⟩, s5, e1, e2⟩
          obtain ⟨v, rfl, a1, a2⟩ := tn k x H5 hx s5 e1
          dsimp only [gName, List.set]
          refine ⟨_, rfl, _, rfl, v, 10, t1, rfl, by decide, by decide, h1, fun H6 s6 => ?_⟩
          refine ⟨_, rfl, _, rfl, v, 10, t2, rfl, by decide, by decide, h2, fun H7 s7 => ?_⟩
          refine ⟨rfl, _, rfl, ite2 (fun g => ?_) (fun g => ?_)⟩
          · have z : ¬ Eqn t1 t2 v := fun y => by
              have y' : near v 10 t1 = near v 10 t2 := y
              rw [y'] at g
              simp at g
            exact ⟨_, rfl, q2 v H7 (s1.trans (s4.trans (s5.trans (s6.trans s7)))) (a2 z)⟩
          · have z : Eqn t1 t2 v := by
              show near v 10 t1 = near v 10 t2
              simpa using g
            exact ⟨⟨_, rfl⟩, s5.trans (s6.trans s7), (a1 z).1, (a1 z).2⟩
        · rintro σ H5 ⟨⟨y4, rfl⟩, s5, e1, e2⟩
          refine ⟨⟨_, _, rfl⟩, s1.trans (s4.trans s5), fun j hj => ?_⟩
          by_cases h : j < i
          · exact lo j h
          · have e : j = i := by omega
            subst e
            exact ⟨e1 (by show 1 ≤ 2; omega), e2 (by show 2 ≤ 2; omega)⟩
      | false =>
        refine ⟨_, rfl, _, rfl, iteF ⟨_, rfl, by show 1 ≤ sizeLine; decide, fun l nl => ?_⟩⟩
        have s4 := same_new (o := HO.lst [.int i]) nl
        have el : upd H1 l (HO.lst [.int i]) l = some (.lst [.int i]) := upd_same
        have tn := turn [.int i] _ l el s4 (fun k x hx => by
          match k, hx with
          | 0, hx => exact ⟨_, (Option.some.inj hx).symm, .inl ⟨rfl, rfl⟩⟩
          | k + 1, hx => cases hx) (fun z => by cases z) (fun _ => rfl)
        generalize upd H1 l (HO.lst [.int i]) = H4 at s4 el tn ⊢
        refine ⟨l, rfl, ⟨_, SqL.of el⟩, for_list (K := K) (xs := [.int i]) (fun k σ H' => (∃ y4 : Option V, σ = [some (.str t1), some (.str t2), some (.bl false), some (.int i), y4]) ∧ Same H4 H' ∧ (1 ≤ k → Eqn t1 t2 i)) ⟨⟨_, rfl⟩, Same.refl _, fun z => absurd z (by omega)⟩ (fun k σ H' _ z => SqL.of (z.2.1 _ _ el)) ?_ ?_⟩
        · rintro k x σ H5 hx ⟨⟨y4, rfl⟩, s5, e1⟩
          obtain ⟨v, rfl, a1, a2⟩ := tn k x H5 hx s5 e1
          dsimp only [gName, List.set]
          refine ⟨_, rfl, _, rfl, v, 10, t1, rfl, by decide, by decide, h1, fun H6 s6 => ?_⟩
          refine ⟨_, rfl, _, rfl, v, 10, t2, rfl, by decide, by decide, h2, fun H7 s7 => ?_⟩
          refine ⟨rfl, _, rfl, ite2 (fun g => ?_) (fun g => ?_)⟩
          · have z : ¬ Eqn t1 t2 v := fun y => by
              have y' : near v 10 t1 = near v 10 t2 := y
              rw [y'] at g
              simp at g
            exact ⟨_, rfl, q2 v H7 (s1.trans (s4.trans (s5.trans (s6.trans s7)))) (a2 z)⟩
          · have z : Eqn t1 t2 v := by
              show near v 10 t1 = near v 10 t2
              simpa using g
            exact ⟨⟨_, rfl⟩, s5.trans (s6.trans s7), (a1 z).1⟩
        · rintro σ H5 ⟨⟨y4, rfl⟩, s5, e1⟩
          refine ⟨⟨_, _, rfl⟩, s1.trans (s4.trans s5), fun j hj => ?_⟩
          by_cases h : j < i
          · exact lo j h
          · have e : j = i := by omega
            subst e
            exact ⟨e1 (by show 1 ≤ 1; omega), fun z => by cases z⟩
    · rintro σ H1 ⟨⟨y3, y4, rfl⟩, s1, lo⟩
      exact q1 H1 s1 lo
end
end K45

/-! k45: far_alike, refused. -/
namespace K45
open PySem PySem.Spec PyProof.Rows L2 LamX NdefX Own
abbrev sRefd : Stmt := topS 36
abbrev sWays' : Stmt := topS 32
theorem rnd_alike {t1 t2 : Str} {sg : Bool} (h : Alike t1 t2 sg) {u : Int} (hs : sg = true ∨ 0 ≤ u) (s n : Nat) : rnd u s n t1 = rnd u s n t2 := by
  unfold rnd
  split
  · rfl
  · exact h u _ (ten_pos _) hs
section
variable {P : Program} {w : World} {K : PySem.W.Frag} {mg : Str → Option Value} {base : Heap} {C W fq : Addr} {fdq : FuncData}
theorem scFar : FnScope ["_law_pen", "_law_how", "_law_other", "_law_is_signed", "_law_units", "_law_scale", "_law_fewer"] ["_law_pen", "_law_how", "_law_other", "_law_is_signed"] (defScope sFar) := ⟨rfl, rfl, rfl, by decide +kernel, rfl, by decide +kernel, by decide +kernel⟩
def spFar : Sp := fun vs H Q _ => ∃ (d : Addr) (t1 t2 : Str) (sg : Bool) (B : Int), vs = [.ref d, .str t1, .str t2, .bl sg] ∧ t1 ∈ waysL ∧ t2 ∈ waysL ∧ Alike t1 t2 sg ∧ Pen H d B ∧ B ≤ 500000000 ∧ ∀ H', Keep d H H' → Pen H' d (B + 300) → Q (.bl true) H'
theorem ok_far (A : At K mg "_law_far_alike" sFar ["_law_pen", "_law_how", "_law_other", "_law_is_signed"]) (T : WorthC K mg W) (M : WMk P w K mg base C W) (WE : WEq P w K mg base W fq fdq) (D1 : DefOk P w K mg base CX0 "_law_draw" 1 ["_law_pen", "_law_span"] spDraw) (D3 : DefOk P w K mg base CX0 "_law_figures" 2 ["_law_pen", "_law_many"] spFigs)
    (DR : DefOk P w K mg base (L2.CX P w) "rounded" 13 ["worth", "scale", "way"] (spRnd C W)) : DefOk P w K mg base CX0 "_law_far_alike" 14 ["_law_pen", "_law_how", "_law_other", "_law_is_signed"] spFar := by
  refine A.ok fun f fd F => F.ok scFar (fun vs H Q E h => ?_) (fun cdv A outer s0 H vs Q E hr h => ?_)
  · obtain ⟨d, t1, t2, sg, B, rfl, _⟩ := h
    rfl
  · obtain ⟨d, t1, t2, sg, B, rfl, h1, h2, al, hp, hB, q⟩ := h
    have nd := scFar.nd
    refine ⟨_, pss_cons (ps_par (i := 4) (j := 5) (by rfl) nd rfl rfl (by decide) rfl rfl (pa_cons (pe_def D3 hr (by decide) (by rfl) pass0 (pa_cons (pv 0) (pa_cons pe_int pa_nil))) (pa_cons (pe_def D1 hr (by decide) (by rfl) pass0 (pa_cons (pv 0) (pa_cons pe_int pa_nil))) pa_nil)) (by rfl))
      (C8.pss_cut (ps_set (i := 4) nd rfl (.inl rfl) (pe_ifExp (PW.pt (pw_and (pt_val (pv 3)) (pw_and1 (pt_cmpR op_eq (pe_def D1 hr (by decide) (by rfl) pass0 (pa_cons (pv 0) (pa_cons pe_int pa_nil))) pe_int (nomark _))))) (pe_un un_neg (pv 4)) (pv 4)))
      (pss_cons (ps_set (i := 6) nd rfl (.inl rfl) (pe_def D1 hr (by decide) (by rfl) pass0 (pa_cons (pv 0) (pa_cons (pe_op op_add (pv 5) pe_int) pa_nil))))
      (pss_one (ps_ret (pe_cmpR (op_ownEq (E := E0) WE.fn (hr.mono (by decide)) WE.at_ WE.isf WE.sub WE.bd passL) (pe_def (E := E0) DR hr (by decide) (by rfl) passL (pa_cons (pe_worth (C := C) (E := E0) M T hr (by decide) (by rfl) passL (pa_cons (pv 4) (pa_cons (pv 5) pa_nil))) (pa_cons (pv 6) (pa_cons (pv 1) pa_nil)))) (pe_def (E := E0) DR hr (by decide) (by rfl) passL (pa_cons (pe_worth (C := C) (E := E0) M T hr (by decide) (by rfl) passL (pa_cons (pv 4) (pa_cons (pv 5) pa_nil))) (pa_cons (pv 6) (pa_cons (pv 2) pa_nil)))) (nomark _)))))), ?_⟩
    refine ⟨_, rfl, d, 30, B, rfl, by decide, hp, by omega, fun v H1 v0 v1 k1 p1 => ?_⟩
    refine ⟨_, rfl, d, 12, _, rfl, p1, by omega, by decide, by decide, fun sc H2 s0' s1 k2 p2 => ⟨_, _, rfl, ?_⟩⟩
    obtain ⟨c, rfl⟩ : ∃ n : Nat, sc = (n : Int) := ⟨sc.toNat, (Int.toNat_of_nonneg s0').symm⟩
    dsimp only [gName, List.set]
    refine ⟨fun σ H' => (∃ v' : Int, σ = [some (.ref d), some (.str t1), some (.str t2), some (.bl sg), some (.int v'), some (.int c), none] ∧ (sg = true ∨ 0 ≤ v')) ∧ Keep d H H' ∧ Pen H' d (B + 210), ?_, ?_⟩
    · cases sg with
      | false => exact ⟨_, rfl, _, rfl, iteF ⟨_, rfl, ⟨v, rfl, .inr v0⟩, k1.trans k2, p2.mono (by omega)⟩⟩
      | true =>
        refine ⟨_, rfl, _, rfl, iteT ⟨_, rfl, d, 2, _, rfl, p2, by omega, by decide, by decide, fun b H3 b0 b1 k3 p3 => ⟨rfl, _, rfl, ite2 (fun g => ?_) (fun g => ?_)⟩⟩⟩
        · exact ⟨_, rfl, _, rfl, ⟨-v, rfl, .inl rfl⟩, (k1.trans k2).trans k3, p3.mono (by omega)⟩
        · exact ⟨_, rfl, ⟨v, rfl, .inl rfl⟩, (k1.trans k2).trans k3, p3.mono (by omega)⟩
    · rintro σ H3 ⟨⟨x, rfl, hs⟩, k3, p3⟩
      refine ⟨_, rfl, _, rfl, _, _, rfl, rfl, d, (c : Int) + 1, _, rfl, p3, by omega, by omega, by omega, fun fw H4 f0 f1 k4 p4 => ?_⟩
      obtain ⟨n, rfl⟩ : ∃ n : Nat, fw = (n : Int) := ⟨fw.toNat, (Int.toNat_of_nonneg f0).symm⟩
      dsimp only [gName, List.set]
      refine ⟨_, rfl, _, rfl, ?_⟩
      dsimp only [tNil]
      rw [List.append_nil]
      refine worth_of (C := C) (v := x) (n := c) (by omega) fun u1 c1 w1 H5 l1 s5 _ wa => ?_
      have hu : sg = true ∨ 0 ≤ u1 := hs.elim .inl fun z => .inr (Int.not_lt.mp fun y => absurd ((low_sign l1).mpr y) (by omega))
      have hc1 : c1 ≤ 240 := by have := l1.le; omega
      refine ⟨_, rfl, _, rfl, .ref w1, .int n, .str t1, rfl, .inr ⟨w1, u1, c1, rfl, wa, hc1, l1.own, .inr ⟨n, rfl, by omega, .inr ⟨t1, h1, rfl, fun p1' v1' g1 H6 s6 x1 m1 => ?_⟩⟩⟩⟩
      refine ⟨_, rfl, _, rfl, ?_⟩
      dsimp only [tNil]
      rw [List.append_nil]
      refine worth_of (C := C) (v := x) (n := c) (by omega) fun u2 c2 w2 H7 l2 s7 _ wb => ?_
      obtain ⟨rfl, rfl⟩ := low_eq l1 l2
      refine ⟨_, rfl, _, rfl, .ref w2, .int n, .str t2, rfl, .inr ⟨w2, u1, c1, rfl, wb, hc1, l1.own, .inr ⟨n, rfl, by omega, .inr ⟨t2, h2, rfl, fun p2' v2' g2 H8 s8 x2 m2 => ?_⟩⟩⟩⟩
      rw [← rnd_alike al hu c1 n] at m2
      obtain ⟨rfl, rfl⟩ := low_eq m1 m2
      have x1 := (x1.same s7).same s8
      obtain ⟨d1, a1⟩ := id x1
      obtain ⟨d2, a2⟩ := id x2
      refine ⟨p1', d1, _, rfl, a1, .inl ⟨p2', d2, _, rfl, a2⟩, p1', v1', g1, .ref p2', rfl, x1, .inl ⟨p2', v1', g1, rfl, x2, fun H9 s9 => ?_⟩⟩
      rw [decide_eq_true (show v1' = v1' from rfl), decide_eq_true (show g1 = g1 from rfl)]
      have sA := (((s5.trans s6).trans s7).trans s8).trans s9
      exact q H9 ((k3.trans k4).trans (Keep.same sA)) ((p4.same sA).mono (by omega))
/-- refused: the value that the error has, alone in a list -/
def spRefd (C : Addr) : (Hp → VK → XK → Prop) → List V → Hp → VK → Prop := fun tl rest H Q => rest = [] ∧ ∃ v : V, Odd H v ∧ (∀ (Q' : VK) (E' : XK), Bad C "value" v H E' → tl H Q' E') ∧ ∀ (l : Addr) (H' : Hp), Same H H' → H' l = some (.lst [v]) → Q (.ref l) H'
theorem scRefd : FnScope ["_law_call", "e"] ["_law_call"] (defScope sRefd) := ⟨rfl, rfl, rfl, by decide +kernel, rfl, by decide +kernel, by decide +kernel⟩
theorem ld_refd {FE : Addr} (A : At K mg "_law_refused" sRefd ["_law_call"]) (B : Blt mg) (T : ErrC P w K mg base "BadValue" "value" 1 C (spErr C "value")) (X1 : ExcC K C) (gF : mg "FigureError" = some (.ref FE)) (kF : PySem.W.kitOne K (.ref C) (.ref FE) = some true) : LamDefAt P w K mg base "_law_refused" 16 (spRefd C) := by
  obtain ⟨g, fd, F, gm, b⟩ := A.ex
  refine ⟨g, ⟨fun A outer s H us f vs FF bb fr ws spl kl Q hr hkl e0 r G hf hc CC q => ?_⟩, gm, F.kp⟩
  have KX : K.In s.heap := e0.mod.kin.keeps fun b o e => (e0.bs b o e).1
  obtain ⟨rfl, v, od, q1, q2⟩ := q
  have hb := b s us KX (by rw [List.append_nil, ← r.length]; rfl)
  rw [List.append_nil] at hb
  obtain ⟨oc, od', kV, doc, pm, an, cdv, ct, osl, rfl, lk, hcd⟩ := F.ex
  refine LamX.run_ofS (N := ["_law_call", "e"]) lk hcd scRefd hr e0 hb r rfl fun hr' => ?_
  have nd := scRefd.nd
  refine ⟨_, pss_cons (ps_try_as (i := 1) (c := .ref C) rfl rfl nd rfl rfl ⟨rfl, by decide, .inl T.g⟩ L2.takes0
        (fun W pn xe tk _ => pss_one (ps_expr (pe_deedS (i := 0) (E := WE W) CC rfl G (hr'.mono (by omega)) (fun σ => passAt tk σ) rfl (.inl rfl))))
        (fun a oe cls d pn hz hf => pss_one (ps_ret (pe_ifExp (pt_val (pe_callB (call_isED X1 hz hf) (by rfl) B.isi (by decide +kernel) (pa_cons (pv 1) (pa_cons (pe_glob (v := .ref FE) (by rfl) gF rfl) pa_nil)))) (pe_lst (pa_cons (pe_xf T.xf T.noV hz hf (pv 1)) pa_nil)) (pe_lst pa_nil)))))
    (pss_one (ps_ret pe_non)), ?_⟩
  refine ⟨rfl, hf, hc, q1 _ _ fun d H1 s1 nd1 e1 => ⟨true, T.te, fun _ a na => ?_, fun z => nomatch z⟩⟩
  refine ⟨_, rfl, _, _, true, d, _, rfl, rfl, rfl, e1, .own FE, kF, _, rfl, iteT ?_⟩
  refine ⟨_, rfl, rfl, rfl, d, _, v, rfl, e1, by simp [List.lookup], by show 1 ≤ sizeLine; decide, fun p np => ?_⟩
  exact q2 p _ (s1.trans (same_new np)) upd_same
end
end K45

/-! k45: the law. -/
namespace K45
open PySem PySem.Spec PyProof.Rows L2 LamX NdefX Own
abbrev sLaw : Stmt := topS 38
def noE : Expr := .Constant .none 0 ⟨0, 0, 0, 0⟩
def asgV : Stmt → Expr
  | .Assign _ v _ => v
  | _ => noE
def eltE (i : Nat) : Expr → Expr
  | .List es _ => es.getD i noE
  | .Tuple es _ _ => es.getD i noE
  | _ => noE
def argE : Stmt → Expr
  | .Expr (.Call _ (a :: _) _ _) _ => a
  | _ => noE
def lamArgs : Expr → Arguments
  | .Lambda a _ _ _ => a
  | _ => ⟨[], [], none, [], [], none, []⟩
def lamBody : Expr → Expr
  | .Lambda _ b _ _ => b
  | _ => noE
def lamScope : Expr → Scope
  | .Lambda _ _ s _ => s
  | _ => ⟨.function, [], false, false, []⟩
def callA : Expr → Expr
  | .Call _ (a :: _) _ _ => a
  | _ => noE
def cmpL : Expr → Expr
  | .Compare l _ _ _ => l
  | _ => noE
def ifT : Stmt → Expr
  | .If t _ _ _ => t
  | _ => noE
def retV : Stmt → Expr
  | .Return (some e) _ => e
  | _ => noE
abbrev bLaw (i : Nat) : Stmt := (defBody sLaw).getD i (.Pass ⟨0, 0, 0, 0⟩)
abbrev lx1 : Expr := callA (cmpL (ifT (bLaw 3)))
abbrev lx2 : Expr := callA (cmpL (retV (bLaw 4)))
def jl1 : List Nat := [7]
def jl2 : List Nat := [2, 7]
def qL : Str := (envOfC "law" (defScope sLaw) 0 0 .none).qual ++ "<lambda>"
section
variable {P : Program} {w : World} {K : PySem.W.Frag} {mg : Str → Option Value} {base : Heap} {C W fq : Addr} {fdq : FuncData} {X : Cx} {f c' : Addr}
def sq1 (C W : Addr) : List (Option V) → Hp → VK → XK → Prop := fun ws H Q E => ∃ x : V, ws = [some x] ∧ spWP C W [x, .non, .bl true] H Q E
def sq2 (C W : Addr) : List (Option V) → Hp → VK → XK → Prop := fun ws H Q E => ∃ x y : V, ws = [some x, some y] ∧ spWP C W [x, y, .bl false] H Q E
theorem nsL1 : NScope ["_law_odd"] [] ["_law_odd"] (lamScope lx1) := nscope_by (by decide +kernel)
theorem nsL2 : NScope ["_law_how", "_law_odd"] [] ["_law_how", "_law_odd"] (lamScope lx2) := nscope_by (by decide +kernel)
theorem fr1 : ∀ y ∈ (lamScope lx1).names, y.2 = .free → (defScope sLaw).names.lookup y.1 = some .cell ∨ (defScope sLaw).names.lookup y.1 = some .free := by decide +kernel
theorem in1 : ∀ y ∈ (["_law_odd"] : List Str), (y, NameKind.free) ∈ (lamScope lx1).names := by decide +kernel
theorem fr2 : ∀ y ∈ (lamScope lx2).names, y.2 = .free → (defScope sLaw).names.lookup y.1 = some .cell ∨ (defScope sLaw).names.lookup y.1 = some .free := by decide +kernel
theorem in2 : ∀ y ∈ (["_law_how", "_law_odd"] : List Str), (y, NameKind.free) ∈ (lamScope lx2).names := by decide +kernel
theorem lok1 (DP : DefOk P w K mg base (L2.CX P w) "ways_part" 14 ["way", "other", "signed"] (spWP C W)) : LOk P w K mg base (L2.CX P w) 15 f (lamF X (lamArgs lx1) (lamScope lx1) c') (lamBody lx1) ["_law_odd"] (sq1 C W) := by
  refine lok_of (N := ["_law_odd"]) (ps := []) nsL1 rfl (fun dV doc pm ctv s us hl hd => ?_) (fun A outer s H ws Q E hr hl h => ?_)
  · obtain rfl := List.length_eq_zero_iff.mp hl
    rcases hd with ⟨_, rfl⟩ | ⟨n, _⟩
    · exact .of_eq rfl
    · exact (n rfl).elim
  · obtain ⟨x, rfl, h⟩ := h
    refine ⟨_, pe_def (E := E) DP hr (by decide) (by rfl) (passes_call (takes_of rfl rfl rfl rfl) fun _ _ _ _ z => z) (pa_cons (pv 0) (pa_cons pe_non (pa_cons pe_bl pa_nil))), ?_⟩
    exact ⟨_, rfl, h⟩
theorem lok2 (DP : DefOk P w K mg base (L2.CX P w) "ways_part" 14 ["way", "other", "signed"] (spWP C W)) : LOk P w K mg base (L2.CX P w) 15 f (lamF X (lamArgs lx2) (lamScope lx2) c') (lamBody lx2) ["_law_how", "_law_odd"] (sq2 C W) := by
  refine lok_of (N := ["_law_how", "_law_odd"]) (ps := []) nsL2 rfl (fun dV doc pm ctv s us hl hd => ?_) (fun A outer s H ws Q E hr hl h => ?_)
  · obtain rfl := List.length_eq_zero_iff.mp hl
    rcases hd with ⟨_, rfl⟩ | ⟨n, _⟩
    · exact .of_eq rfl
    · exact (n rfl).elim
  · obtain ⟨x, y, rfl, h⟩ := h
    refine ⟨_, pe_def (E := E) DP hr (by decide) (by rfl) (passes_call (takes_of rfl rfl rfl rfl) fun _ _ _ _ z => z) (pa_cons (pv 0) (pa_cons (pv 1) (pa_cons pe_bl pa_nil))), ?_⟩
    exact ⟨_, rfl, _, rfl, h⟩
theorem scLaw : FnScope ["_law_script", "_law_pen", "_law_how", "_law_other", "_law_is_signed", "_law_told", "_law_due_here", "_law_odd"] ["_law_script"] (defScope sLaw) := ⟨rfl, rfl, rfl, by decide +kernel, rfl, by decide +kernel, by decide +kernel⟩
def spLaw (K : PySem.W.Frag) (Pt : Addr) : Sp := fun vs H Q _ => ∃ (a : Addr) (ns : List Int), vs = [.ref a] ∧ SqL K H a (ns.map V.int) ∧ ns.length ≤ 63 ∧ Tabs [(Pt, qL)] H ∧ ∀ H', Q (.bl true) H'
theorem ok_law {g c Pt : Addr} {oc : Value} {od : Option Addr} {kV doc pm : Value} {an : Option Addr} {ct : Value} {osl : Array (Option Value)} (lk : K.lookup g = some ⟨oc, od, .func (PySem.W.fnOf "law" "law" (defArgs sLaw) (defBody sLaw) (defScope sLaw) .none kV doc pm an (.ref c) ct), osl⟩) (hcd : PySem.W.codeIn K (.ref c) "law" = true) (TB : TabB base mg c Pt) (B : Blt mg) (D0 : DefOk P w K mg base CX0 "_law_begin" 1 ["_law_script"] (spBegin K)) (D1 : DefOk P w K mg base CX0 "_law_draw" 1 ["_law_pen", "_law_span"] spDraw)
    (D2 : DefOk P w K mg base CX0 "_law_pick" 2 ["_law_pen", "_law_some"] spPick) (DY : DefOk P w K mg base CX0 "_law_ways" 1 [] spWays) (DP : DefOk P w K mg base (L2.CX P w) "ways_part" 14 ["way", "other", "signed"] (spWP C W)) (DU : DefOk P w K mg base CX0 "_law_due" 2 ["_law_how", "_law_other", "_law_is_signed"] spDue)
    (DF : DefOk P w K mg base CX0 "_law_far_alike" 14 ["_law_pen", "_law_how", "_law_other", "_law_is_signed"] spFar) (DI : DefOk P w K mg base CX0 "_law_is_worth" 13 ["_law_told", "_law_worth"] (spIsW W)) (D6 : LamDefAt P w K mg base "_law_refused" 16 (spRefd C)) : FnOk P w K mg base CX0 17 g (PySem.W.fnOf "law" "law" (defArgs sLaw) (defBody sLaw) (defScope sLaw) .none kV doc pm an (.ref c) ct) ["_law_script"] (spLaw K Pt) := by
  refine fn_of lk hcd scLaw (fun vs H Q E h => ?_) (fun A outer s H vs Q E hr h => ?_)
  · obtain ⟨a, ns, rfl, _⟩ := h
    rfl
  · obtain ⟨a, ns, rfl, hs, hl, hT, q⟩ := h
    have nd := scLaw.nd
    have hm : (Pt, qL) ∈ [(Pt, qL)] := List.mem_singleton.mpr rfl
    have hu : ∀ p ∈ [(Pt, qL)], p.1 = Pt → p.2 = qL := fun p hp _ => by rw [List.mem_singleton.mp hp]
    refine ⟨_, pss_cons (ps_set (i := 1) nd rfl (.inl rfl) (pe_def D0 hr (by decide) (by rfl) pass0 (pa_cons (pv 0) pa_nil)))
      (pss_cons (ps_for (passes_of rfl) rfl (pi_list (pe_def0 DY hr (by decide) (by rfl) pass0)) (pg_name (i := 2) nd rfl (.inr rfl)) (pss_one (ps_for (passes_of rfl) rfl (pi_list (pe_def0 DY hr (by decide) (by rfl) pass0)) (pg_name (i := 3) nd rfl (.inl rfl)) (pss_one (ps_for (passes_of rfl) rfl (pi_list (pe_lst (pa_cons pe_bl (pa_cons pe_bl pa_nil)))) (pg_name (i := 4) nd rfl (.inl rfl)) (pss_cons (ps_par (i := 5) (j := 6) (by rfl) nd rfl rfl (by decide) rfl rfl (pa_cons (pe_def (E := E0) DP hr (by decide) (by rfl) passL (pa_cons (pv 2) (pa_cons (pv 3) (pa_cons (pv 4) pa_nil)))) (pa_cons (pe_def DU hr (by decide) (by rfl) pass0 (pa_cons (pv 2) (pa_cons (pv 3) (pa_cons (pv 4) pa_nil)))) pa_nil)) (by rfl)) (C8.pss_cut (ps_if (PW.pt (pw_and (pt_cmpR op_isN (pv 6) pe_non (nomark _)) (pw_and1 (pt_cmpR op_notN (pv 5) pe_non (nomark _))))) (pss_one (ps_ret pe_bl)) pss_nil) (C8.pss_cut (ps_if (PW.pt (pw_and (pt_cmpR op_isN (pv 6) pe_non (nomark _)) (pw_and1 (pt_not (pt_val (pe_def DF hr (by decide) (by rfl) pass0 (pa_cons (pv 1) (pa_cons (pv 2) (pa_cons (pv 3) (pa_cons (pv 4) pa_nil)))))))))) (pss_one (ps_ret pe_bl)) pss_nil) (pss_one (ps_if (PW.pt (pw_and (pt_cmpR op_notN (pv 6) pe_non (nomark _)) (pw_and1 (pt_not (pt_val (pe_def DI hr (by decide) (by rfl) pass0 (pa_cons (pv 5) (pa_cons (pe_tup (pa_cons (pv 6) (pa_cons pe_int pa_nil))) pa_nil)))))))) (pss_one (ps_ret pe_bl)) pss_nil))))))))))
      (pss_cons (ps_asg (pe_tup (pa_cons (pe_def D2 hr (by decide) (by rfl) pass0 (pa_cons (pv 1) (pa_cons (pe_lst (pa_cons pe_non (pa_cons pe_str (pa_cons pe_str (pa_cons pe_str (pa_cons pe_int (pa_cons (pe_lst (pa_cons pe_str pa_nil)) (pa_cons (pe_tup (pa_cons pe_str pa_nil)) (pa_cons pe_dnewK (pa_cons pe_bl pa_nil)))))))))) pa_nil))) (pa_cons (pe_def D2 hr (by decide) (by rfl) pass0 (pa_cons (pv 1) (pa_cons (pe_def0 DY hr (by decide) (by rfl) pass0) pa_nil))) pa_nil))) (pg_tup rfl (pgs_cons (pg_name (i := 7) nd rfl (.inr rfl)) (pgs_cons (pg_name (i := 2) nd rfl (.inr rfl)) pgs_nil))))
      (pss_cons (ps_if (pt_cmpR (op_neOne hr.units) (pe_lamdir D6 (show 15 < 16 by decide) hr (by decide) (fun f c' => lok1 DP) (pe_lamV TB rfl hm hu rfl rfl fr1) (js := jl1) fr1 in1 rfl (by rfl)) (pe_lst (pa_cons (pv 7) pa_nil)) (nomark _)) (pss_one (ps_ret pe_bl)) pss_nil)
      (pss_one (ps_ret (pe_cmpR (op_eqOne hr.units) (pe_lamdir D6 (show 15 < 16 by decide) hr (by decide) (fun f c' => lok2 DP) (pe_lamV TB rfl hm hu rfl rfl fr2) (js := jl2) fr2 in2 rfl (by rfl)) (pe_lst (pa_cons (pv 7) pa_nil)) (nomark _))))))), ?_⟩
    refine ⟨_, rfl, a, ns, rfl, hs, hl, fun d H1 nd1 s1 p1 => ?_⟩
    have T1 := hT.ext s1
    dsimp only [gName, List.set]
    refine ⟨rfl, fun m1 nm1 => ⟨m1, rfl, ⟨_, SqL.of upd_same⟩, for_list (K := K) (xs := waysL.map V.str) (fun j σ H' => (∃ y2 y3 y4 y5 y6 : Option V, σ = [some (.ref a), some (.ref d), y2, y3, y4, y5, y6, none]) ∧ Tabs [(Pt, qL)] H' ∧ Pen H' d ((j : Int) * 6000) ∧ H' m1 = some (.lst (waysL.map V.str)))
      ⟨⟨_, _, _, _, _, rfl⟩, T1.ext (same_new nm1), (p1.same (same_new nm1)).mono (by omega), upd_same⟩ (fun j σ H' _ z => SqL.of z.2.2.2) ?_ ?_⟩⟩
    · rintro j x σ H2 hx ⟨⟨y2, y3, y4, y5, y6, rfl⟩, T2, p2, e2⟩
      obtain ⟨hj, _⟩ := List.getElem?_eq_some_iff.mp hx
      have hj : j < 9 := hj
      rw [List.getElem?_map] at hx
      obtain ⟨t1, ht1, rfl⟩ := Option.map_eq_some_iff.mp hx
      have h1 := List.mem_of_getElem? ht1
      obtain ⟨kvs, ed, _⟩ := p2.at_
      have md : m1 ≠ d := ne_of e2 ed (by intro y; cases y)
      dsimp only [gName, List.set]
      refine ⟨rfl, fun m2 nm2 => ⟨m2, rfl, ⟨_, SqL.of upd_same⟩, for_list (K := K) (xs := waysL.map V.str) (fun k σ H' => (∃ y3 y4 y5 y6 : Option V, σ = [some (.ref a), some (.ref d), some (.str t1), y3, y4, y5, y6, none]) ∧ Tabs [(Pt, qL)] H' ∧ Pen H' d ((j : Int) * 6000 + (k : Int) * 600) ∧ H' m1 = some (.lst (waysL.map V.str)) ∧ H' m2 = some (.lst (waysL.map V.str)))
        ⟨⟨_, _, _, _, rfl⟩, T2.ext (same_new nm2), (p2.same (same_new nm2)).mono (by omega), same_new nm2 _ _ e2, upd_same⟩ (fun k σ H' _ z => SqL.of z.2.2.2.2) ?_ ?_⟩⟩
      · rintro k x σ H3 hx ⟨⟨y3, y4, y5, y6, rfl⟩, T3, p3, e3, g3⟩
        obtain ⟨hk, _⟩ := List.getElem?_eq_some_iff.mp hx
        have hk : k < 9 := hk
        rw [List.getElem?_map] at hx
        obtain ⟨t2, ht2, rfl⟩ := Option.map_eq_some_iff.mp hx
        have h2 := List.mem_of_getElem? ht2
        obtain ⟨kvs, ed, _⟩ := p3.at_
        have md2 : m2 ≠ d := ne_of g3 ed (by intro y; cases y)
        dsimp only [gName, List.set]
        refine ⟨by show 2 ≤ sizeLine; decide, fun m3 nm3 => ⟨m3, rfl, ⟨_, SqL.of upd_same⟩, for_list (K := K) (xs := [.bl true, .bl false]) (fun i σ H' => (∃ y4 y5 y6 : Option V, σ = [some (.ref a), some (.ref d), some (.str t1), some (.str t2), y4, y5, y6, none]) ∧ Tabs [(Pt, qL)] H' ∧ Pen H' d ((j : Int) * 6000 + (k : Int) * 600 + (i : Int) * 300) ∧ H' m1 = some (.lst (waysL.map V.str)) ∧ H' m2 = some (.lst (waysL.map V.str)) ∧ H' m3 = some (.lst [.bl true, .bl false]))
          ⟨⟨_, _, _, rfl⟩, T3.ext (same_new nm3), (p3.same (same_new nm3)).mono (by omega), same_new nm3 _ _ e3, same_new nm3 _ _ g3, upd_same⟩ (fun i σ H' _ z => SqL.of z.2.2.2.2.2) ?_ ?_⟩⟩
        · rintro i x σ H4 hx ⟨⟨y4, y5, y6, rfl⟩, T4, p4, e4, g4, f4⟩
          obtain ⟨hi, _⟩ := List.getElem?_eq_some_iff.mp hx
          have hi : i < 2 := hi
          obtain ⟨sg, rfl⟩ : ∃ b : Bool, x = .bl b := by
            have mm := List.mem_of_getElem? hx
            simp only [List.mem_cons, List.not_mem_nil, or_false] at mm
            rcases mm with rfl | rfl
            · exact ⟨_, rfl⟩
            · exact ⟨_, rfl⟩
          obtain ⟨kvs, ed, _⟩ := p4.at_
          have md3 : m3 ≠ d := ne_of f4 ed (by intro y; cases y)
          dsimp only [gName, List.set]
          refine ⟨_, rfl, _, rfl, _, rfl, .str t1, .str t2, sg, rfl, .inr ⟨t1, h1, rfl, .inr ⟨t2, h2, rfl, fun H5 s5 lo => ?_, fun u u' s' p H5 s5 fi lw wp => ?_⟩⟩⟩
          · have al := alike h1 h2 lo
            refine ⟨_, rfl, _, rfl, _, rfl, t1, t2, sg, rfl, h1, h2, fun H6 s6 _ => ?_, fun u H6 s6 fi => absurd (Nat.lt_succ_self _) (fi.not_low (al.low (u.natAbs + 1)))⟩
            refine ⟨_, _, rfl, ?_⟩
            dsimp only [gName, List.set]
            have s46 := s5.trans s6
            refine ⟨fun σ H' => σ = [some (.ref a), some (.ref d), some (.str t1), some (.str t2), some (.bl sg), some .non, some .non, none] ∧ H' = H6, ⟨_, rfl, rfl, _, rfl, iteT ⟨_, rfl, rfl, _, rfl, iteF ⟨rfl, rfl⟩⟩⟩, ?_⟩
            rintro σ H6' ⟨rfl, rfl⟩
            have p6 := p4.same s46
            refine ⟨fun σ H' => σ = [some (.ref a), some (.ref d), some (.str t1), some (.str t2), some (.bl sg), some .non, some .non, none] ∧ Keep d H6' H' ∧ Pen H' d ((j : Int) * 6000 + (k : Int) * 600 + (i : Int) * 300 + 300), ⟨_, rfl, rfl, _, rfl, iteT ⟨_, rfl, _, rfl, _, rfl, _, rfl, d, t1, t2, sg, _, rfl, h1, h2, al, p6, by omega, fun H7 k7 p7 => ⟨_, rfl, iteF ⟨rfl, k7, p7⟩⟩⟩⟩, ?_⟩
            rintro σ H7 ⟨rfl, k7, p7⟩
            exact ⟨_, rfl, rfl, _, rfl, iteF ⟨⟨_, _, _, rfl⟩, tabs_keepG (T4.ext s46) p6 k7, p7.mono (by omega), k7 _ _ md (s46 _ _ e4), k7 _ _ md2 (s46 _ _ g4), k7 _ _ md3 (s46 _ _ f4)⟩⟩
          · refine ⟨_, rfl, _, rfl, _, rfl, t1, t2, sg, rfl, h1, h2, fun H6 s6 lo => absurd (Nat.lt_succ_self _) (fi.not_low ((alike h1 h2 (fun n hn => lo n (by omega))).low (u.natAbs + 1))), fun v H6 s6 fi2 => ?_⟩
            obtain rfl := fi.one fi2
            refine ⟨_, _, rfl, ?_⟩
            dsimp only [gName, List.set]
            have s46 := s5.trans s6
            have wp := wp.same s6
            refine ⟨fun σ H' => σ = [some (.ref a), some (.ref d), some (.str t1), some (.str t2), some (.bl sg), some (.ref p), some (.int u), none] ∧ H' = H6, ⟨_, rfl, rfl, _, rfl, iteF ⟨rfl, rfl⟩⟩, ?_⟩
            rintro σ H6' ⟨rfl, rfl⟩
            refine ⟨fun σ H' => σ = [some (.ref a), some (.ref d), some (.str t1), some (.str t2), some (.bl sg), some (.ref p), some (.int u), none] ∧ H' = H6', ⟨_, rfl, rfl, _, rfl, iteF ⟨rfl, rfl⟩⟩, ?_⟩
            rintro σ H7 ⟨rfl, rfl⟩
            refine ⟨_, rfl, rfl, _, rfl, iteT ⟨_, rfl, _, rfl, by show 2 ≤ sizeLine; decide, fun r nr => ⟨p, r, u, u', s', rfl, wp.same (same_new nr), upd_same, lw, fun H8 s8 => ⟨_, rfl, iteF ?_⟩⟩⟩⟩
            have sA := s46.trans ((same_new nr).trans s8)
            exact ⟨⟨_, _, _, rfl⟩, T4.ext sA, (p4.same sA).mono (by omega), sA _ _ e4, sA _ _ g4, sA _ _ f4⟩
        · rintro σ H4 ⟨⟨y4, y5, y6, rfl⟩, T4, p4, e4, g4, f4⟩
          exact ⟨⟨_, _, _, _, rfl⟩, T4, p4.mono (by show _ + ((2 : Nat) : Int) * 300 ≤ _; omega), e4, g4⟩
      · rintro σ H3 ⟨⟨y3, y4, y5, y6, rfl⟩, T3, p3, e3, g3⟩
        exact ⟨⟨_, _, _, _, _, rfl⟩, T3, p3.mono (by show _ + ((9 : Nat) : Int) * 600 ≤ _; omega), e3⟩
    · rintro σ H2 ⟨⟨y2, y3, y4, y5, y6, rfl⟩, T2, p2, e2⟩
      have p2 : Pen H2 d 60000 := p2.mono (by show ((9 : Nat) : Int) * 6000 ≤ 60000; omega)
      clear e2 nm1 p1 T1
      -- odd
      refine ⟨_, rfl, by show 1 ≤ sizeLine; decide, fun r1 n1 => ⟨by show 1 ≤ sizeLine; decide, fun r2 n2 => ?_⟩⟩
      intro r3 n3
      refine ⟨by show 9 ≤ sizeLine; decide, fun l nl => ?_⟩
      have a1 := same_new (o := HO.lst [.str "floor"]) n1
      have f1 : upd H2 r1 (HO.lst [.str "floor"]) r1 = some (.lst [.str "floor"]) := upd_same
      generalize upd H2 r1 (HO.lst [.str "floor"]) = A1 at a1 f1 n2 n3 nl ⊢
      have a2 := same_new (o := HO.tup [.str "cut"]) n2
      have f2 : upd A1 r2 (HO.tup [.str "cut"]) r2 = some (.tup [.str "cut"]) := upd_same
      generalize upd A1 r2 (HO.tup [.str "cut"]) = A2 at a2 f2 n3 nl ⊢
      have a3 := same_new (o := HO.dK []) n3
      have f3 : upd A2 r3 (HO.dK []) r3 = some (.dK []) := upd_same
      generalize upd A2 r3 (HO.dK []) = A3 at a3 f3 nl ⊢
      have a4 := same_new (o := HO.lst [.non, .str "", .str "half", .str "FLOOR", .int 3, .ref r1, .ref r2, .ref r3, .bl true]) nl
      have sA := ((a1.trans a2).trans a3).trans a4
      have f1 := a4 _ _ (a3 _ _ (a2 _ _ f1))
      have f2 := a4 _ _ (a3 _ _ f2)
      have f3 := a4 _ _ f3
      refine ⟨d, l, _, _, rfl, upd_same, by simp, by show 9 ≤ 1000; decide, p2.same sA, by omega, fun x H4 hx k4 p4 => ?_⟩
      obtain ⟨kvs, ed, _⟩ := (p2.same sA).at_
      have hx : isWay x = false ∧ Odd H4 x := by
        simp only [List.mem_cons, List.not_mem_nil, or_false] at hx
        have q1 := k4 _ _ (ne_of f1 ed (by intro y; cases y)) f1
        have q2 := k4 _ _ (ne_of f2 ed (by intro y; cases y)) f2
        have nd3 : r3 ≠ d := fun z => by
          obtain ⟨kv2, ed2, _⟩ := (p2.same (a1.trans a2)).at_
          rw [z] at n3
          exact absurd (n3.symm.trans ed2) (by simp)
        have q3 := k4 _ _ nd3 f3
        rcases hx with rfl | rfl | rfl | rfl | rfl | rfl | rfl | rfl | rfl
        · exact ⟨rfl, .flat rfl⟩
        · exact ⟨by decide +kernel, .flat (by decide +kernel)⟩
        · exact ⟨by decide +kernel, .flat (by decide +kernel)⟩
        · exact ⟨by decide +kernel, .flat (by decide +kernel)⟩
        · exact ⟨rfl, .flat rfl⟩
        · exact ⟨rfl, .lst q1 (by decide +kernel)⟩
        · exact ⟨rfl, .tup q2 (by decide +kernel)⟩
        · exact ⟨rfl, .dct q3 (by simp) (by simp)⟩
        · exact ⟨rfl, .flat rfl⟩
      obtain ⟨nw, od⟩ := hx
      have T4 := tabs_keepG (T2.ext sA) (p2.same sA) k4
      clear a1 a2 a3 a4 sA f1 f2 f3 n1 n2 n3 nl ed k4 p2 T2
      refine ⟨_, rfl, rfl, fun g ng => ?_⟩
      have sg := same_new (o := HO.lst (waysL.map V.str)) ng
      refine ⟨d, g, _, _, rfl, upd_same, by decide, by show 9 ≤ 1000; decide, p4.same sg, by omega, fun v H5 hv k5 p5 => ?_⟩
      have od5 := (od.same sg).keep ((p4.same sg).odd (od.same sg)) k5
      have T5 := tabs_keepG (T4.ext sg) (p4.same sg) k5
      obtain ⟨t, ht, rfl⟩ := List.mem_map.mp hv
      refine ⟨by show 2 ≤ sizeLine; decide, fun pt np => ?_⟩
      have sp := same_new (o := HO.tup [x, .str t]) np
      refine ⟨pt, _, rfl, SqT.of upd_same, rfl, _, _, rfl, _, _, rfl, rfl, ?_⟩
      dsimp only [gName, List.set]
      have od6 := od5.same sp
      have T6 := T5.ext sp
      generalize upd H5 pt (HO.tup [x, .str t]) = H6 at od6 T6 ⊢
      clear sg ng sp np T4 T5 k5 p4 p5 od od5
      refine ⟨T6, fun f c' H7 x7 T7 _ la cc => ⟨f, c', rfl, la, cc, rfl, x, od6.ext x7, fun Q' E' bad => ⟨x, rfl, x, .non, true, rfl, .inl ⟨(od6.ext x7).thing, nw, bad⟩⟩, fun l H8 s8 el => ?_⟩⟩
      refine ⟨_, rfl, by show 1 ≤ sizeLine; decide, fun m nm => ?_⟩
      have od8 := (od6.ext x7).same s8
      have sm := same_new (o := HO.lst [x]) nm
      refine ⟨l, m, x, rfl, rfl, SqL.of (sm _ _ el), SqL.of upd_same, od8.selfy, _, rfl, iteF ?_⟩
      have T9 := (T7.ext s8).ext sm
      have od9 := od8.same sm
      generalize upd H8 m (HO.lst [x]) = H9 at T9 od9 ⊢
      clear T7 od8 sm nm el s8 la cc x7 T6 od6
      refine ⟨T9, fun f c' H7 x7 T7 _ la cc => ⟨f, c', rfl, la, cc, rfl, x, od9.ext x7, fun Q' E' bad => ⟨.str t, x, rfl, .str t, x, false, rfl, .inr ⟨t, ht, rfl, .inl ⟨(od9.ext x7).thing, nw, bad⟩⟩⟩, fun l H8 s8 el => ?_⟩⟩
      refine ⟨_, rfl, by show 1 ≤ sizeLine; decide, fun m nm => ?_⟩
      have sm := same_new (o := HO.lst [x]) nm
      exact ⟨l, m, x, rfl, rfl, SqL.of (sm _ _ el), SqL.of upd_same, ((od9.ext x7).same s8).selfy, q _⟩
end
end K45

set_option maxHeartbeats 0
/-! k45: what the top leaves; the end. -/
namespace K45
open PySem PySem.Spec PyProof.Rows L2 LamX NdefX Own
def nmF : Str × Option Str := ("law", none)
def dfn (x : Str) (i : Nat) : He.DefD := ⟨(x, none), x, x, defArgs (topS i), defBody (topS i), defScope (topS i), [], []⟩
def dMk (x m : Str) (i j : Nat) (pd : List He.Dv) (kd : List (Str × He.Dv)) : He.DefD := ⟨(x, some m), m, x ++ "." ++ m, defArgs (inClass (topS i) j), defBody (inClass (topS i) j), defScope (inClass (topS i) j), pd, kd⟩
def fnL : List He.DefD := [dMk "BadValue" "__init__" 2 0 [] [], dMk "Worth" "__init__" 13 0 [.int 0] [], dMk "Worth" "__eq__" 13 1 [] [], dfn "is_an_integer" 6, dfn "is_whole_number" 7, dfn "need_integer" 8, dfn "need_whole_number" 9, dfn "ten_to" 10, dfn "digits_of" 11, dfn "without_zeros" 14, dfn "as_worth" 16, dfn "need_worth" 17, dfn "need_way" 21, dfn "nearest_units" 22, dfn "_goes_up" 23, dfn "rounded" 24, dfn "ways_part" 26, dfn "_law_begin" 28, dfn "_law_draw" 29, dfn "_law_pick" 30, dfn "_law_figures" 31, dfn "_law_ways" 32, dfn "_law_divided" 33, dfn "_law_is_worth" 34, dfn "_law_due" 35, dfn "_law_refused" 36, dfn "_law_far_alike" 37, dfn "law" 38, dfn "parted" 15]
def psL : List He.DefD := []
def gloL : List Str := (["FigureError", "BadValue", "Worth", "WAYS", "TENS", "HALVES", "is_an_integer", "is_whole_number", "need_integer", "need_whole_number", "ten_to", "digits_of", "without_zeros", "as_worth", "need_worth", "need_way", "nearest_units", "_goes_up", "rounded", "ways_part", "_law_begin", "_law_draw", "_law_pick", "_law_figures", "_law_ways"] : List Str) ++ (["_law_divided", "_law_is_worth", "_law_due", "_law_refused", "_law_far_alike", "law", "parted"] : List Str)
def freeL : List Str := ["isinstance", "int", "bool", "len", "list", "range", "tuple", "all", "divmod", "min", "max", "str", "abs", "dict", "any"]
def moreL : List He.Fa := [He.Fa.exm "BadValue" "BadValue" true, .meth "BadValue" "__init__", .noat "BadValue" "value", .keep "BadValue", .cls "Worth", .mkr "Worth", .noat "Worth" "units", .noat "Worth" "scale", .meth "Worth" "__eq__", .noat "Worth" "floor", .noat "Worth" "more"]
def faL : List He.Fa := gloL.map He.Fa.glo ++ freeL.map He.Fa.free ++ moreL
def tsL : List He.Tab := [(fun K => He.ga K "HALVES", ["halfup", "halfdown", "halfeven", "halfaway", "halfcut"])]
/-- what a dict of the top says at the ways -/
def getB (K : PySem.W.Frag) (a : Addr) (l : List (Str × Str)) : Bool := waysL.all fun z => match PySem.W.nsIn K a z with
  | some none => (l.lookup z).isNone
  | some (some u) => (match l.lookup z with
    | some y => He.relB (.str y) u
    | none => false)
  | none => false
theorem getB_ok {K : PySem.W.Frag} {a : Addr} {l : List (Str × Str)} (h : getB K a l = true) {z : Str} (hz : z ∈ waysL) : KGet K a z ((l.lookup z).map V.str) := by
  have h1 := List.all_eq_true.mp h z hz
  cases q : PySem.W.nsIn K a z with
  | none => rw [q] at h1; cases h1
  | some ro =>
    rw [q] at h1
    refine ⟨ro, q, ?_⟩
    cases ro with
    | none =>
      cases e : l.lookup z with
      | none => exact trivial
      | some y => rw [e] at h1; cases h1
    | some u =>
      cases e : l.lookup z with
      | none => rw [e] at h1; cases h1
      | some y =>
        rw [e] at h1
        exact He.relB_ok h1
/-- isinstance by the class -/
def wisB (K : PySem.W.Frag) (W : Addr) : Bool := (decide (PySem.W.findIn K (.ref W) "__class__" = some (some (.builtin "object.__class__"))) && (decide (PySem.W.specialIn K (.builtin "object.__class__") "__get__" = some (some (.builtin "getset_descriptor.__get__"))) &&
  (decide (PySem.W.takesIn K (.builtin "object.__class__") = some true) && (decide (PySem.W.mroIn K W (.type "object") = some true) && ((tys.all fun T => decide (PySem.W.kitOne K (.type T) (.ref W) = some false)))))))
def exL (K : PySem.W.Frag) : Bool := oexB K (He.ga K "BadValue") && (L2.xfB K (He.ga K "BadValue") && (He.tupB K "WAYS" (waysL.map He.Dv.str) && (He.tupB K "TENS" (tensL.map He.Dv.int) && (getB K (He.ga K "HALVES") halvL && (wisB K (He.ga K "Worth") && ((tys.all fun T => decide (PySem.W.subIn K (.type T) (.ref (He.ga K "Worth")) = some false)) && (decide (PySem.W.findIn K (.ref (He.ga K "Worth")) "__ne__" = some (some (.builtin "object.__ne__"))) && (decide (PySem.W.subIn K (.ref (He.ga K "Worth")) (.type "object") = some true) && (wisB K (He.ga K "BadValue") && (decide (PySem.W.kitOne K (.ref (He.ga K "BadValue")) (.ref (He.ga K "FigureError")) = some true)))))))))))
abbrev rowK : PySem.W.OpenRow := PySem.W.OpenLaw.row PySem.Challenge.rw_figurestay_k45_whole_ways_compared
abbrev hkL : PySem.W.Hook := hookP 6 faL fnL tsL [nmF] exL psL
def obL (s : PySem.W.SharedT) : AlP := obsP 6 faL fnL tsL [nmF] exL psL (HandSHeadRun.getT s)
theorem obL_eq (s : PySem.W.SharedT) : obL s = hkL.obs s.abs := obsP_eq (HandSHeadRun.getT_eq s)
def looseL : List Str := (["FigureError", "BadValue", "TooFine", "Worth", "WAYS", "TENS", "HALVES", "is_an_integer", "is_whole_number", "need_integer", "need_whole_number", "ten_to", "digits_of", "without_zeros", "as_worth", "need_worth", "need_way", "nearest_units", "_goes_up", "rounded", "ways_part", "_law_begin", "_law_draw", "_law_pick", "_law_figures"] : List Str) ++ (["_law_ways", "_law_divided", "_law_is_worth", "_law_due", "_law_refused", "_law_far_alike", "parted"] : List Str)
end K45

/-! k45: what the top leaves; the end. -/
namespace K45
open PySem PySem.Spec PyProof.Rows L2 LamX NdefX Own
theorem runF (w : World) : HandSHeadRun.RunEq rowK (PySem.W.view rowK.prog [38]) hkL obL 4000 looseL (w.withFollow "special-get-raises" false) := by
  intro os
  kernel_rfl
theorem runT (w : World) : HandSHeadRun.RunEq rowK (PySem.W.view rowK.prog [38]) hkL obL 4000 looseL (w.withFollow "special-get-raises" true) := by
  intro os
  kernel_rfl
theorem runL (w : World) : HandSHeadRun.RunEq rowK (PySem.W.view rowK.prog [38]) hkL obL 4000 looseL w := PySem.W.byRow2 "special-get-raises" (P := fun w => HandSHeadRun.RunEq rowK (PySem.W.view rowK.prog [38]) hkL obL 4000 looseL w) runF runT w
end K45

/-! k45: what the top leaves; the end. -/
namespace K45
open PySem PySem.Spec PyProof.Rows L2 LamX NdefX Own
section
variable {P : Program} {w : World} {K : PySem.W.Frag} {mg : Str → Option Value} {h : Heap}
theorem gloF (X : K.In h) (G : h.Ns mainGlobals mg) (d : He.SaysD faL fnL K) {x : Str} (hx : x ∈ gloL) : mg x = some (.ref (He.ga K x)) :=
  He.glo_ok X G (d.facts (List.mem_append_left _ (List.mem_append_left _ (List.mem_map.mpr ⟨x, hx, rfl⟩))))
theorem freeF (X : K.In h) (G : h.Ns mainGlobals mg) (d : He.SaysD faL fnL K) {x : Str} (hx : x ∈ freeL) : mg x = none :=
  He.free_ok X G (d.facts (List.mem_append_left _ (List.mem_append_right _ (List.mem_map.mpr ⟨x, hx, rfl⟩))))
theorem moreF (d : He.SaysD faL fnL K) {f : He.Fa} (hf : f ∈ moreL) : f.ok K = true := d.facts (List.mem_append_right _ hf)
theorem wis_ok {W : Addr} (h : wisB K W = true) : WIs K W := by
  obtain ⟨z2, y⟩ := He.ba h
  obtain ⟨z3, y⟩ := He.ba y
  obtain ⟨z4, y⟩ := He.ba y
  obtain ⟨z5, z6⟩ := He.ba y
  exact ⟨of_decide_eq_true z2, of_decide_eq_true z3, of_decide_eq_true z4, of_decide_eq_true z5, fun T hT => of_decide_eq_true (List.all_eq_true.mp z6 T hT)⟩
theorem scE_BadValue : FnScope ["self", "value"] ["self", "value"] (defScope (inClass (topS 2) 0)) := ⟨rfl, rfl, rfl, by decide +kernel, rfl, by decide +kernel, by decide +kernel⟩
theorem ok_err_BadValue {base : Heap} {C : Addr} {f : Addr} {fd : FuncData} (F : Fun K "__init__" "BadValue.__init__" (inClass (topS 2) 0) f fd) (T : OexC K C) (no : PySem.W.findIn K (.ref C) "value" = some none) : FnOk P w K mg base CX0 1 f fd ["self", "value"] (spErr C "value") := by
  refine F.ok scE_BadValue (fun vs H Q E h => ?_) (fun cdv A outer s H vs Q E hr h => ?_)
  · obtain ⟨a, y, rfl, _⟩ := h
    rfl
  · obtain ⟨a, y, rfl, ha, q⟩ := h
    refine ⟨_, pss_one (ps_ost (pv 0) (pv 1)), ?_⟩
    exact ⟨_, rfl, _, rfl, a, C, rfl, T, no, .inl ⟨ha, fun dx n1 n2 => q dx n1 n2⟩⟩
theorem law_at {fa : Addr} (X : K.In h) (G : h.Ns mainGlobals mg) (hfa : mg "law" = some (.ref fa)) (c : He.SaysX faL fnL tsL [nmF] exL w h K) (cp : SaysP psL K) : LawAtS PySem.Challenge.rw_figurestay_k45_whole_ways_compared w K CX0 17 63 "_law_script" mg fa h := by
  have d := c.t.d
  obtain ⟨oex_BadValue, y⟩ := He.ba c.more
  obtain ⟨xf_BadValue, y⟩ := He.ba y
  obtain ⟨tup_WAYS, y⟩ := He.ba y
  obtain ⟨tup_TENS, y⟩ := He.ba y
  obtain ⟨get_HALVES, y⟩ := He.ba y
  obtain ⟨wis_Worth, y⟩ := He.ba y
  obtain ⟨sub_Worth, y⟩ := He.ba y
  obtain ⟨ne_W, y⟩ := He.ba y
  obtain ⟨obj_W, y⟩ := He.ba y
  obtain ⟨wis_E, kit_E⟩ := He.ba y
  obtain ⟨es_HALVES, n_HALVES, d_HALVES⟩ := c.t.tab 0
  have te_BadValue := He.exm_ok (moreF d (f := .exm "BadValue" "BadValue" true) (List.mem_of_getElem? (i := 0) rfl))
  have mt_BadValue := He.meth_ok (moreF d (f := .meth "BadValue" "__init__") (List.mem_of_getElem? (i := 1) rfl))
  have no_BadValue := He.noat_ok (moreF d (f := .noat "BadValue" "value") (List.mem_of_getElem? (i := 2) rfl))
  obtain ⟨fd_BadValue, F0_BadValue⟩ := d.def_ 0 (d := dMk "BadValue" "__init__" 2 0 [] []) rfl
  have F_BadValue : Fun K "__init__" "BadValue.__init__" (inClass (topS 2) 0) _ fd_BadValue := fun_of F0_BadValue
  have b_BadValue := F_BadValue.binds (ps := ["self", "value"]) fun _ _ _ _ _ _ us hl => match us, hl with | [_, _], _ => rfl
  have cls_Worth := He.cls_ok (moreF d (f := .cls "Worth") (List.mem_of_getElem? (i := 4) rfl))
  have mk_Worth := He.mkr_ok (moreF d (f := .mkr "Worth") (List.mem_of_getElem? (i := 5) rfl))
  have no_Worth_units := He.noat_ok (moreF d (f := .noat "Worth" "units") (List.mem_of_getElem? (i := 6) rfl))
  have no_Worth_scale := He.noat_ok (moreF d (f := .noat "Worth" "scale") (List.mem_of_getElem? (i := 7) rfl))
  have noFl := He.noat_ok (moreF d (f := .noat "Worth" "floor") (List.mem_of_getElem? (i := 9) rfl))
  have noMo := He.noat_ok (moreF d (f := .noat "Worth" "more") (List.mem_of_getElem? (i := 10) rfl))
  obtain ⟨fd_Worth, FI_Worth⟩ := d.def_ 1 (d := dMk "Worth" "__init__" 13 0 [.int 0] []) rfl
  have m_Worth_eq := He.meth_ok (moreF d (f := .meth "Worth" "__eq__") (List.mem_of_getElem? (i := 8) rfl))
  obtain ⟨fd_Worth_eq, F_Worth_eq⟩ := d.def_ 2 (d := dMk "Worth" "__eq__" 13 1 [] []) rfl
  have G_Worth_eq : Fun K "__eq__" "Worth.__eq__" (inClass (topS 13) 1) _ fd_Worth_eq := fun_of F_Worth_eq
  have b_Worth_eq := G_Worth_eq.binds (ps := ["self", "other"]) fun _ _ _ _ _ _ us hl => match us, hl with | [_, _], _ => rfl
  obtain ⟨fd_is_an_integer, F_is_an_integer⟩ := d.def_ 3 (d := dfn "is_an_integer" 6) rfl
  have A_is_an_integer : At K mg "is_an_integer" (topS 6) ["value"] := at_of F_is_an_integer (gloF X G d (by decide +kernel)) fun _ _ _ _ _ _ us hl => match us, hl with | [_], _ => rfl
  obtain ⟨fd_is_whole_number, F_is_whole_number⟩ := d.def_ 4 (d := dfn "is_whole_number" 7) rfl
  have A_is_whole_number : At K mg "is_whole_number" (topS 7) ["value"] := at_of F_is_whole_number (gloF X G d (by decide +kernel)) fun _ _ _ _ _ _ us hl => match us, hl with | [_], _ => rfl
  obtain ⟨fd_need_integer, F_need_integer⟩ := d.def_ 5 (d := dfn "need_integer" 8) rfl
  have A_need_integer : At K mg "need_integer" (topS 8) ["value"] := at_of F_need_integer (gloF X G d (by decide +kernel)) fun _ _ _ _ _ _ us hl => match us, hl with | [_], _ => rfl
  obtain ⟨fd_need_whole_number, F_need_whole_number⟩ := d.def_ 6 (d := dfn "need_whole_number" 9) rfl
  have A_need_whole_number : At K mg "need_whole_number" (topS 9) ["value"] := at_of F_need_whole_number (gloF X G d (by decide +kernel)) fun _ _ _ _ _ _ us hl => match us, hl with | [_], _ => rfl
  obtain ⟨fd_ten_to, F_ten_to⟩ := d.def_ 7 (d := dfn "ten_to" 10) rfl
  have A_ten_to : At K mg "ten_to" (topS 10) ["places"] := at_of F_ten_to (gloF X G d (by decide +kernel)) fun _ _ _ _ _ _ us hl => match us, hl with | [_], _ => rfl
  obtain ⟨fd_digits_of, F_digits_of⟩ := d.def_ 8 (d := dfn "digits_of" 11) rfl
  have A_digits_of : At K mg "digits_of" (topS 11) ["number"] := at_of F_digits_of (gloF X G d (by decide +kernel)) fun _ _ _ _ _ _ us hl => match us, hl with | [_], _ => rfl
  obtain ⟨fd_without_zeros, F_without_zeros⟩ := d.def_ 9 (d := dfn "without_zeros" 14) rfl
  have A_without_zeros : At K mg "without_zeros" (topS 14) ["units", "scale"] := at_of F_without_zeros (gloF X G d (by decide +kernel)) fun _ _ _ _ _ _ us hl => match us, hl with | [_, _], _ => rfl
  obtain ⟨fd_as_worth, F_as_worth⟩ := d.def_ 10 (d := dfn "as_worth" 16) rfl
  have A_as_worth : At K mg "as_worth" (topS 16) ["value"] := at_of F_as_worth (gloF X G d (by decide +kernel)) fun _ _ _ _ _ _ us hl => match us, hl with | [_], _ => rfl
  obtain ⟨fd_need_worth, F_need_worth⟩ := d.def_ 11 (d := dfn "need_worth" 17) rfl
  have A_need_worth : At K mg "need_worth" (topS 17) ["value"] := at_of F_need_worth (gloF X G d (by decide +kernel)) fun _ _ _ _ _ _ us hl => match us, hl with | [_], _ => rfl
  obtain ⟨fd_need_way, F_need_way⟩ := d.def_ 12 (d := dfn "need_way" 21) rfl
  have A_need_way : At K mg "need_way" (topS 21) ["value"] := at_of F_need_way (gloF X G d (by decide +kernel)) fun _ _ _ _ _ _ us hl => match us, hl with | [_], _ => rfl
  obtain ⟨fd_nearest_units, F_nearest_units⟩ := d.def_ 13 (d := dfn "nearest_units" 22) rfl
  have A_nearest_units : At K mg "nearest_units" (topS 22) ["number", "divisor", "way"] := at_of F_nearest_units (gloF X G d (by decide +kernel)) fun _ _ _ _ _ _ us hl => match us, hl with | [_, _, _], _ => rfl
  obtain ⟨fd__goes_up, F__goes_up⟩ := d.def_ 14 (d := dfn "_goes_up" 23) rfl
  have A__goes_up : At K mg "_goes_up" (topS 23) ["way", "below", "past_half"] := at_of F__goes_up (gloF X G d (by decide +kernel)) fun _ _ _ _ _ _ us hl => match us, hl with | [_, _, _], _ => rfl
  obtain ⟨fd_rounded, F_rounded⟩ := d.def_ 15 (d := dfn "rounded" 24) rfl
  have A_rounded : At K mg "rounded" (topS 24) ["worth", "scale", "way"] := at_of F_rounded (gloF X G d (by decide +kernel)) fun _ _ _ _ _ _ us hl => match us, hl with | [_, _, _], _ => rfl
  obtain ⟨fd_ways_part, F_ways_part⟩ := d.def_ 16 (d := dfn "ways_part" 26) rfl
  have A_ways_part : At K mg "ways_part" (topS 26) ["way", "other", "signed"] := at_of F_ways_part (gloF X G d (by decide +kernel)) fun _ _ _ _ _ _ us hl => match us, hl with | [_, _, _], _ => rfl
  obtain ⟨fd__law_begin, F__law_begin⟩ := d.def_ 17 (d := dfn "_law_begin" 28) rfl
  have A__law_begin : At K mg "_law_begin" (topS 28) ["_law_script"] := at_of F__law_begin (gloF X G d (by decide +kernel)) fun _ _ _ _ _ _ us hl => match us, hl with | [_], _ => rfl
  obtain ⟨fd__law_draw, F__law_draw⟩ := d.def_ 18 (d := dfn "_law_draw" 29) rfl
  have A__law_draw : At K mg "_law_draw" (topS 29) ["_law_pen", "_law_span"] := at_of F__law_draw (gloF X G d (by decide +kernel)) fun _ _ _ _ _ _ us hl => match us, hl with | [_, _], _ => rfl
  obtain ⟨fd__law_pick, F__law_pick⟩ := d.def_ 19 (d := dfn "_law_pick" 30) rfl
  have A__law_pick : At K mg "_law_pick" (topS 30) ["_law_pen", "_law_some"] := at_of F__law_pick (gloF X G d (by decide +kernel)) fun _ _ _ _ _ _ us hl => match us, hl with | [_, _], _ => rfl
  obtain ⟨fd__law_figures, F__law_figures⟩ := d.def_ 20 (d := dfn "_law_figures" 31) rfl
  have A__law_figures : At K mg "_law_figures" (topS 31) ["_law_pen", "_law_many"] := at_of F__law_figures (gloF X G d (by decide +kernel)) fun _ _ _ _ _ _ us hl => match us, hl with | [_, _], _ => rfl
  obtain ⟨fd__law_ways, F__law_ways⟩ := d.def_ 21 (d := dfn "_law_ways" 32) rfl
  have A__law_ways : At K mg "_law_ways" (topS 32) [] := at_of F__law_ways (gloF X G d (by decide +kernel)) fun _ _ _ _ _ _ us hl => match us, hl with | [], _ => rfl
  obtain ⟨fd__law_divided, F__law_divided⟩ := d.def_ 22 (d := dfn "_law_divided" 33) rfl
  have A__law_divided : At K mg "_law_divided" (topS 33) ["_law_number", "_law_divisor", "_law_how"] := at_of F__law_divided (gloF X G d (by decide +kernel)) fun _ _ _ _ _ _ us hl => match us, hl with | [_, _, _], _ => rfl
  obtain ⟨fd__law_is_worth, F__law_is_worth⟩ := d.def_ 23 (d := dfn "_law_is_worth" 34) rfl
  have A__law_is_worth : At K mg "_law_is_worth" (topS 34) ["_law_told", "_law_worth"] := at_of F__law_is_worth (gloF X G d (by decide +kernel)) fun _ _ _ _ _ _ us hl => match us, hl with | [_, _], _ => rfl
  obtain ⟨fd__law_due, F__law_due⟩ := d.def_ 24 (d := dfn "_law_due" 35) rfl
  have A__law_due : At K mg "_law_due" (topS 35) ["_law_how", "_law_other", "_law_is_signed"] := at_of F__law_due (gloF X G d (by decide +kernel)) fun _ _ _ _ _ _ us hl => match us, hl with | [_, _, _], _ => rfl
  obtain ⟨fd__law_refused, F__law_refused⟩ := d.def_ 25 (d := dfn "_law_refused" 36) rfl
  have A__law_refused : At K mg "_law_refused" (topS 36) ["_law_call"] := at_of F__law_refused (gloF X G d (by decide +kernel)) fun _ _ _ _ _ _ us hl => match us, hl with | [_], _ => rfl
  obtain ⟨fd__law_far_alike, F__law_far_alike⟩ := d.def_ 26 (d := dfn "_law_far_alike" 37) rfl
  have A__law_far_alike : At K mg "_law_far_alike" (topS 37) ["_law_pen", "_law_how", "_law_other", "_law_is_signed"] := at_of F__law_far_alike (gloF X G d (by decide +kernel)) fun _ _ _ _ _ _ us hl => match us, hl with | [_, _, _, _], _ => rfl
  obtain ⟨fdPt, FPt⟩ := d.def_ 28 (d := dfn "parted" 15) rfl
  have Apt : At K mg "parted" (topS 15) ["units", "scale"] := at_of FPt (gloF X G d (by decide +kernel)) fun _ _ _ _ _ _ us hl => match us, hl with | [_, _], _ => rfl
  have Adg := A_digits_of
  obtain ⟨fdL, FL⟩ := d.def_ 27 (d := dfn "law" 38) rfl
  have e := hfa.symm.trans (gloF X G d (x := "law") (by decide +kernel))
  cases e
  have FL' : Fun K "law" "law" sLaw _ fdL := fun_of FL
  obtain ⟨oc, od, kV, doc, pm, an, cdv, ct, osl, rfl, lk, hcd⟩ := FL'.ex
  obtain ⟨cc, rfl⟩ := He.codeIn_ref hcd
  have ec : He.codeOf K nmF = cc := He.codeOf_eq lk rfl
  have hL : ∀ (s : Shared) (u : Value), BindsTo s (PySem.W.fnOf "law" "law" (defArgs sLaw) (defBody sLaw) (defScope sLaw) .none kV doc pm an (.ref cc) ct) ⟨[u], []⟩ [("_law_script", u)] := fun s u => .of_eq rfl
  refine ⟨_, [He.cT K nmF], spLaw K (He.cT K nmF).2, fun p hp => ?_, fun p hp => ?_, fun p hp => ?_, hL, fun H a ns hl _ hT hs => ⟨a, ns, rfl, hs, hl, fun p hp => ?_, fun _ => rfl⟩, fun base XB GB TBs => ?_⟩
  · rw [List.mem_singleton.mp hp]
    exact c.empty nmF (List.mem_singleton.mpr rfl)
  · rw [List.mem_singleton.mp hp]
    exact c.out nmF (List.mem_singleton.mpr rfl)
  · rw [List.mem_singleton.mp hp]
    exact PySem.W.codeHd_of_K X (c.hd nmF (List.mem_singleton.mpr rfl))
  · rw [List.mem_singleton.mp hp]
    exact TabS.nil (hT (He.cT K nmF) (List.mem_singleton.mpr rfl))
  · have TB0 : TabB base mg (He.codeOf K nmF) (He.cT K nmF).2 := TBs (He.cT K nmF) (List.mem_singleton.mpr rfl)
    rw [ec] at TB0
    have TB := TB0
    have B : Blt mg := { isi := freeF X G d (by decide +kernel), int := freeF X G d (by decide +kernel), bool := freeF X G d (by decide +kernel), len := freeF X G d (by decide +kernel), list := freeF X G d (by decide +kernel), range := freeF X G d (by decide +kernel), tuple := freeF X G d (by decide +kernel), all := freeF X G d (by decide +kernel), dm := freeF X G d (by decide +kernel), min := freeF X G d (by decide +kernel), max := freeF X G d (by decide +kernel), str := freeF X G d (by decide +kernel), abs := freeF X G d (by decide +kernel), dict := freeF X G d (by decide +kernel), any := freeF X G d (by decide +kernel) }
    have TE_BadValue : ErrC PySem.Challenge.rw_figurestay_k45_whole_ways_compared.prog w K mg base "BadValue" "value" 1 (He.ga K "BadValue") (spErr (He.ga K "BadValue") "value") := ⟨gloF X G d (by decide +kernel), oexB_ok oex_BadValue, ⟨_, fd_BadValue, mt_BadValue.1, beq_iff_eq.mp mt_BadValue.fn, ok_err_BadValue F_BadValue (oexB_ok oex_BadValue) no_BadValue, b_BadValue⟩, L2.xfB_ok xf_BadValue, te_BadValue, no_BadValue⟩
    have I_Worth : WIs K (He.ga K "Worth") := wis_ok wis_Worth
    have sL_Worth : ∀ T ∈ tys, PySem.W.subIn K (.type T) (.ref (He.ga K "Worth")) = some false := fun T hT => of_decide_eq_true (List.all_eq_true.mp sub_Worth T hT)
    have T : WorthC K mg (He.ga K "Worth") := ⟨(gloF X G d (by decide +kernel)), cls_Worth, no_Worth_units, no_Worth_scale, noFl, noMo⟩
    have FW' : FunD K "__init__" "Worth.__init__" (defArgs (wI 0)) (defBody (wI 0)) (defScope (wI 0)) [V.int 0] [] _ fd_Worth := FI_Worth
    have bW1 : ∃ ds, Vals [V.int 0] ds ∧ Binds K fd_Worth ["self", "units", "scale"] ds := FW'.binds1 2 0 (by simp) rfl fun T kV doc pm an cdv ct us its hu hi => match us, its, hu, hi with | [_, _], [_], _, _ => ⟨_, rfl, rfl⟩
    have bW0 : Binds K fd_Worth ["self", "units", "scale"] [] := by
      obtain ⟨ds, rd, b⟩ := FW'.binds1 (ps := ["self", "units", "scale"]) 3 1 (by simp) rfl fun T kV doc pm an cdv ct us its hu hi => match us, its, hu, hi with | [_, _, _], [_], _, _ => ⟨_, rfl, rfl⟩
      have e : ds = [] := by cases rd; rfl
      rw [e] at b
      exact b
    have TX : Tx8 PySem.Challenge.rw_figurestay_k45_whole_ways_compared.prog w K mg base (He.ga K "BadValue") (He.ga K "WAYS") (He.ga K "HALVES") es_HALVES n_HALVES :=
      { isi := B.isi, int := B.int, bool := B.bool, len := B.len, list := B.list, range := B.range, tuple := B.tuple, all := B.all, dm := B.dm, err := TE_BadValue, gW := (gloF X G d (by decide +kernel)), ways := fun H => (He.tupB_ok tup_WAYS H), gH := (gloF X G d (by decide +kernel)), dH := d_HALVES, halv := fun z hz => getB_ok get_HALVES hz }
    have tens : ∀ H : Hp, SqT K H (He.ga K "TENS") (tensL.map V.int) := fun H => by
      have z := He.tupB_ok tup_TENS H
      rw [List.map_map] at z
      exact z
    have D1 := ok_isInt (P := PySem.Challenge.rw_figurestay_k45_whole_ways_compared.prog) (w := w) (base := base) A_is_an_integer B
    have D2 := ok_isWh A_is_whole_number D1
    have D3 := ok_nInt A_need_integer TE_BadValue D1
    have D4 := ok_nWh A_need_whole_number TE_BadValue D2
    have D5 := ok_tenTo (P := PySem.Challenge.rw_figurestay_k45_whole_ways_compared.prog) (w := w) (base := base) A_ten_to B (gloF X G d (by decide +kernel)) tens 8 (by decide)
    have D6 := ok_wz A_without_zeros D5
    have Ddg := ok_dig (P := PySem.Challenge.rw_figurestay_k45_whole_ways_compared.prog) (w := w) (base := base) Adg B
    have Dpt := ok_part Apt B D5 Ddg
    have M : WMk PySem.Challenge.rw_figurestay_k45_whole_ways_compared.prog w K mg base (He.ga K "BadValue") (He.ga K "Worth") := ⟨_, fd_Worth, mk_Worth, ok_wI FW' T D3 D4 D6 Dpt, bW0, bW1⟩
    have D8 := ok_needW A_need_worth B T I_Worth TE_BadValue
    have E1 := ok_nWay A_need_way TX
    have E3 := ok_goes A__goes_up TX
    have E4 := ok_near A_nearest_units TX E3
    have E5 := ok_rnd A_rounded T M D8 D4 E1 D5 E4
    have WE : WEq PySem.Challenge.rw_figurestay_k45_whole_ways_compared.prog w K mg base (He.ga K "Worth") _ fd_Worth_eq := ⟨m_Worth_eq.1, m_Worth_eq.fn, ok_eq G_Worth_eq B T I_Worth, b_Worth_eq, sL_Worth, of_decide_eq_true ne_W, of_decide_eq_true obj_W⟩
    have E6 := ok_wp A_ways_part B T M WE E1 E5
    have XC : ExcC K (He.ga K "BadValue") := by
      have a := L2.xfB_ok xf_BadValue
      have b := wis_ok wis_E
      exact ⟨a.ga, a.gg, a.exC, a.hdC, b.ha, b.hn, b.ht, b.hm⟩
    have L0 := ok_begin (P := PySem.Challenge.rw_figurestay_k45_whole_ways_compared.prog) (w := w) (base := base) A__law_begin B
    have L1 := ok_draw (P := PySem.Challenge.rw_figurestay_k45_whole_ways_compared.prog) (w := w) (base := base) A__law_draw B
    have L2 := ok_pick A__law_pick B L1
    have L3 := ok_figs A__law_figures B L1
    have L13 := ok_ways (P := PySem.Challenge.rw_figurestay_k45_whole_ways_compared.prog) (w := w) (base := base) A__law_ways
    have L14 := ok_div (P := PySem.Challenge.rw_figurestay_k45_whole_ways_compared.prog) (w := w) (base := base) A__law_divided B
    have L15 := ok_isw A__law_is_worth B T I_Worth M WE
    have L16 := ok_due A__law_due B L14
    have L17 := ok_far A__law_far_alike T M WE L1 L3 E5
    have L18 := ld_refd A__law_refused B TE_BadValue XC (gloF X G d (by decide +kernel)) (of_decide_eq_true kit_E)
    exact ok_law lk hcd TB B L0 L1 L2 L13 E6 L16 L17 L15 L18
end
end K45
open PySem PySem.W PySem.Calls PyProof.Rows
theorem PySem.Challenge.cw_figurestay_k45_whole_ways_compared_holds : PySem.Challenge.rw_figurestay_k45_whole_ways_compared.Holds := by
  w_on; o_law
  refine HandSHeadRun.head_any (r := OpenLaw.row PySem.Challenge.rw_figurestay_k45_whole_ways_compared) (q := view (OpenLaw.row PySem.Challenge.rw_figurestay_k45_whole_ways_compared).prog [38]) (H := K45.hkL) (ob := K45.obL) (M := 4000) (loose := K45.looseL)
    (d := HandSHeadRun.topDef (OpenLaw.row PySem.Challenge.rw_figurestay_k45_whole_ways_compared).prog 38) (kwd := []) K45.obL_eq
    (by kernel_rfl) (fun s => by kernel_rfl) K45.runL (by kernel_rfl) (by kernel_rfl) (by kernel_rfl) (by rfl) (by first | assumption | decide +kernel) (by decide +kernel) ⟨rfl, rfl, rfl, rfl, rfl, by decide +kernel⟩ ?hw ?hc
  case hw => w_witness2
  case hc =>
    refine LamX.walk_ofTsE (l := PySem.Challenge.rw_figurestay_k45_whole_ways_compared) (n := 63) (k := 17) (x := "_law_script") (CX := fun _ => L2.CX0) rfl (by decide) (by kernel_rfl) ⟨rfl, by decide, by decide⟩ ?F (fun _ _ _ _ _ z => z)
    intro w mg fa h Y G hmg0
    obtain ⟨K, KX, c, cp⟩ := Y
    have hmg : mg ("law" : PySem.Str) = some (.ref fa) := by
      have e : (HandSHeadRun.topDef (OpenLaw.row PySem.Challenge.rw_figurestay_k45_whole_ways_compared).prog 38).name = ("law" : PySem.Str) := by kernel_rfl
      rw [← e]
      exact hmg0
    exact ⟨K, KX, K45.law_at KX G hmg c cp⟩
