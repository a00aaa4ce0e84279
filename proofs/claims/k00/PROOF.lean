import PyProof.Rows.All
import Wide.All
import OpenK.AllK
import Wide.FinOn
import HandS.ForMost
import HandS.ForExc
import HandS.Wide
import HandS.WideBits
import HandS.IsInst
import HandS.ExcInit
import HandS.ExcField
import HandS.Nested
import HandS.Deep
import HandS.More
import HandS.Codes
import HandS.Lambda
import KE.KDflt
import KE.IntTextLaws
import HandS.ExcOwn
import HandS.WordsExc
import KE.KStateDown
import HandS.Head0
import HandS.Head1
import HandS.Head2
import HandS.HeadEnd
import HandS.HeadHook1
import HandS.HeadHook2
import HandS.HeadHook3
import HandS.HeadHook4
import HandS.HeadWalk
import HandS.MakeKwOnly
import HandS.MakeKw
import HandS.ExcIs
import KE.KExcIs
import PyProof.NeKinds
import KE.KOpsOwn
import HandS.OwnEq
import PyProof.Rows.RuleN_abs
import PyProof.InstNe
import PySem.Challenge.RW_figurestay_k00_errors_made_by_hand
import HandS.TryOnly
import HandS.DictComp
import HandS.Property
import Wide.Once
set_option Elab.async false
set_option linter.all false
set_option maxRecDepth 100000
set_option maxHeartbeats 4000000
/-! own layer, of no law: OWN -/
namespace Own
open PySem PySem.Spec PyProof.Rows L2
/-! ### heaps -/
/-- all but what stands at d is as it was -/
def Keep (d : Addr) (H H' : Hp) : Prop := ∀ b o, b ≠ d → H b = some o → H' b = some o
theorem Keep.refl {d : Addr} {H : Hp} : Keep d H H := fun _ _ _ e => e
theorem Keep.trans {d : Addr} {H H1 H2 : Hp} (a : Keep d H H1) (b : Keep d H1 H2) : Keep d H H2 := fun c o n e => b c o n (a c o n e)
theorem Keep.new {d p : Addr} {o : HO} {H : Hp} (h : H p = none) : Keep d H (upd H p o) := fun b u _ e => by
  rw [upd_ne (ne_of_none e h)]
  exact e
theorem Keep.at {d : Addr} {o : HO} {H : Hp} : Keep d H (upd H d o) := fun b u n e => by
  rw [upd_ne n]
  exact e
theorem Keep.same {d : Addr} {H H' : Hp} (s : Same H H') : Keep d H H' := fun b u _ e => s b u e
theorem same_new {H : Hp} {p : Addr} {o : HO} (h : H p = none) : Same H (upd H p o) := fun b u e => by
  rw [upd_ne (ne_of_none e h)]
  exact e
theorem ne_txt : ¬ (("cells" : Str) = "count") ∧ ¬ (("cells" : Str) = "left") ∧ ¬ (("count" : Str) = "left") ∧ ¬ (("count" : Str) = "cells") ∧ ¬ (("left" : Str) = "cells") ∧ ¬ (("left" : Str) = "count") := by decide +kernel
/-- what the pen's dict holds -/
def penK (p : Addr) (c l : Int) : List (Key × V) := [(Sum.inr "cells", V.ref p), (Sum.inr "count", V.int c), (Sum.inr "left", V.int l)]
theorem pen_cells (p : Addr) (c l : Int) : valV (penK p c l) (Sum.inr "cells" : Key) = some (.ref p) := valV_pos rfl
theorem pen_count (p : Addr) (c l : Int) : valV (penK p c l) (Sum.inr "count" : Key) = some (.int c) := by
  unfold penK
  rw [valV_neg (fun e => ne_txt.1 (Sum.inr.inj e)), valV_pos rfl]
theorem pen_left (p : Addr) (c l : Int) : valV (penK p c l) (Sum.inr "left" : Key) = some (.int l) := by
  unfold penK
  rw [valV_neg (fun e => ne_txt.2.1 (Sum.inr.inj e)), valV_neg (fun e => ne_txt.2.2.1 (Sum.inr.inj e)), valV_pos rfl]
theorem key_dec {a b : Str} (h : ¬ a = b) : decide ((Sum.inr a : Key) = Sum.inr b) = false := decide_eq_false fun e => h (Sum.inr.inj e)
theorem put_count (p : Addr) (c l c' : Int) : putK (penK p c l) (Sum.inr "count" : Key) (.int c') = penK p c' l := by
  unfold penK putK
  simp [key_dec ne_txt.1, key_dec ne_txt.2.2.1, key_dec ne_txt.2.2.2.2.2, ne_txt]
theorem put_left (p : Addr) (c l l' : Int) : putK (penK p c l) (Sum.inr "left" : Key) (.int l') = penK p c l' := by
  unfold penK putK
  simp [key_dec ne_txt.2.1, key_dec ne_txt.2.2.1, ne_txt]
/-- the pen stands at d: at most B draws were begun -/
structure Pen (H : Hp) (d : Addr) (B : Int) : Prop where
  ex : ∃ (p : Addr) (ns : List Int) (c l : Int), H d = some (.dK (penK p c l)) ∧ H p = some (.lst (ns.map V.int)) ∧ ns.length ≤ 63 ∧ 0 ≤ c ∧ c ≤ B
theorem Pen.mono {H : Hp} {d : Addr} {B B' : Int} (h : Pen H d B) (z : B ≤ B') : Pen H d B' := by
  obtain ⟨p, ns, c, l, a, b, e, f, g⟩ := h.ex
  exact ⟨p, ns, c, l, a, b, e, f, by omega⟩
theorem Pen.same {H H' : Hp} {d : Addr} {B : Int} (h : Pen H d B) (s : Same H H') : Pen H' d B := by
  obtain ⟨p, ns, c, l, a, b, e, f, g⟩ := h.ex
  exact ⟨p, ns, c, l, s _ _ a, s _ _ b, e, f, g⟩
end Own

/-! from L06 -/
namespace Own
open PySem PySem.Spec PyProof.Rows L2 LamX NdefX
/-- the integers that stand as defaults -/
def dInts : List Expr → List Int
  | .Constant (.int i) _ _ :: r => i :: dInts r
  | _ => []
/-- the tuple of defaults -/
def DfV (H : Hp) (dV : Value) (ds : List Int) : Prop := (ds = [] ∧ dV = .none) ∨ (ds ≠ [] ∧ ∃ T : Addr, dV = .ref T ∧ H T = some (.tup (ds.map V.int)))
def DfIn (h : Heap) (dV : Value) (us : List Value) : Prop := (us = [] ∧ dV = .none) ∨ (us ≠ [] ∧ ∃ T : Addr, dV = .ref T ∧ IsTup h T us.toArray)
/-- a lambda's words in F (its body apart), its defaults dV -/
abbrev lamFd (F : NF) (b : Expr) (dV doc pm ctv : Value) : FuncData := PySem.W.kdv_fn F.name F.qual F.params (.expr b) F.scope F.cl dV doc pm (.ref F.c) ctv
def LamO (f : Addr) (F : NF) (b : Expr) (dV : Value) : HO := .ext fun h => ∃ doc pm ctv : Value, h.get? f = some ({ cls := .type "function", data := .func (lamFd F b dV doc pm ctv) } : Obj)
/-- at f stands the lambda F, whose body is b -/
def LamAt (H : Hp) (f : Addr) (F : NF) (b : Expr) : Prop := ∃ dV : Value, H f = some (LamO f F b dV) ∧ DfV H dV (dInts F.params.defaults)
theorem lamO_ne {f : Addr} {F : NF} {b : Expr} {dV : Value} (ps : Array Value) : LamO f F b dV ≠ .tbl ps := fun z => by
  unfold LamO at z
  cases z
theorem LamAt.ext {H H' : Hp} {f : Addr} {F : NF} {b : Expr} (h : LamAt H f F b) (e : ExtN H H') : LamAt H' f F b := by
  obtain ⟨dV, h1, h2⟩ := h
  refine ⟨dV, e _ _ h1 lamO_ne, ?_⟩
  rcases h2 with z | ⟨n, T, z, q⟩
  · exact .inl z
  · exact .inr ⟨n, T, z, e _ _ q fun ps z => by cases z⟩
theorem lamO_at {P : Program} {w : World} {H : Hp} {h : Heap} {f : Addr} {F : NF} {b : Expr} (hok : HOk P w H h) (e : LamAt H f F b) :
    ∃ dV doc pm ctv : Value, h.get? f = some ({ cls := .type "function", data := .func (lamFd F b dV doc pm ctv) } : Obj) ∧ ∃ us : List Value, Vals ((dInts F.params.defaults).map V.int) us ∧ DfIn h dV us := by
  obtain ⟨dV, h1, h2⟩ := e
  obtain ⟨doc, pm, ctv, z⟩ := (hok f _ h1).1
  refine ⟨dV, doc, pm, ctv, z, ?_⟩
  rcases h2 with ⟨n, z⟩ | ⟨n, T, z, q⟩
  · rw [n]
    exact ⟨[], .nil, .inl ⟨rfl, z⟩⟩
  · obtain ⟨_, its, r, p⟩ := hok T _ q
    refine ⟨its, r, .inr ⟨fun z => ?_, T, z, p⟩⟩
    rw [z] at r
    cases hd : dInts F.params.defaults with
    | nil => exact n hd
    | cons a l =>
      rw [hd] at r
      cases r
section
variable {X : Cx} {pins : List (Addr × Obj)} {σ : L2.St} {H : Hp} {s : Shared}
theorem lam_laid {F : NF} {b : Expr} {dV doc pm ctv : Value} {t' : Nat} (I : Inv X pins σ H s) :
    Inv X pins σ (upd H s.heap.objs.size (LamO s.heap.objs.size F b dV)) { s with heap := s.heap.push ({ cls := .type "function", data := .func (lamFd F b dV doc pm ctv) } : Obj), toks := t' } := by
  have e : (s.heap.push ({ cls := .type "function", data := .func (lamFd F b dV doc pm ctv) } : Obj)).get? s.heap.objs.size = some ({ cls := .type "function", data := .func (lamFd F b dV doc pm ctv) } : Obj) := Heap.get?_push_size _ rfl
  exact I.laid (fun _ _ z => Heap.get?_push_of_some _ z) (Nat.le_refl _) ⟨⟨doc, pm, ctv, e⟩, ⟨_, e⟩, fun _ _ ⟨d, p, c, z⟩ k => ⟨d, p, c, k _ z⟩⟩
/-- the words of the lambda that X makes: c' its code object -/
abbrev lamF (X : Cx) (params : Arguments) (scope : Scope) (c' : Addr) : NF := ⟨"<lambda>", X.env.qual ++ "<lambda>", params, [], scope, cloFrom X.env.cells scope.names [], c'⟩
/-- a lambda made, its defaults laid, and known from now on -/
theorem lam_tail {T : List (Addr × Str)} {c P : Addr} {params : Arguments} {body : Expr} {scope : Scope} {pos : Pos} {fl : Nat} {dV : Value} {E Q : Value → Shared → Prop} (I : Inv X pins σ H s) (TB : TabB X.base X.mg c P) (hcode : X.env.code = .ref c)
    (hm : (P, X.env.qual ++ "<lambda>") ∈ T) (hu : ∀ p ∈ T, p.1 = P → p.2 = X.env.qual ++ "<lambda>") (hT : Tabs T H) (hfree : ∀ y ∈ scope.names, y.2 = .free → ∃ c, X.env.cells.lookup y.1 = some c)
    (k : ∀ (f c' : Addr) (H1 : Hp) (s' : Shared), Inv X pins σ H1 s' → ExtN H H1 → Tabs T H1 → H f = none → H1 f = some (LamO f (lamF X params scope c') body dV) → H1 c' = some (CodeO c' (X.env.qual ++ "<lambda>")) → Q (.ref f) s') :
    wpAny (model X.prog X.w) X.A (makeTail "<lambda>" (X.env.qual ++ "<lambda>") params (.expr body) scope X.env dV .none none pos fl) Q E s := by
  have hTP := hT (P, X.env.qual ++ "<lambda>") hm
  obtain ⟨ps, hP, trip, among⟩ := hTP
  have oP : s.heap.get? P = some { cls := .none, data := .fields ps } := I.hok P _ hP
  have bl := TB.bm.keeps I.bk
  have gl := I.mod.glob.keeps I.bk
  have cd := TB.code.keeps I.bk
  rcases hc : codeAmong pos ps.toList with _ | cv
  · refine PySem.W.kdv_makeTail (closure_ok hfree) I.ok.glob gl hcode cd oP trip hc TB.gP bl ?_
    intro c' ctv doc h' tk hx hge hlt hrec htb
    obtain ⟨c0, oc, vs, t, hc0, hoc, hdc, hvc⟩ := hrec
    obtain rfl : c0 = c' := (Value.ref.inj hc0).symm
    have fresh : H c0 = none := I.hok.fresh hge
    have I1 := inv_table (t' := tk) (q := X.env.qual ++ "<lambda>") (h' := h') I hP (fun b o n e => hx b o n e) htb hge ⟨oc, vs, t, hoc, hdc, hvc⟩
    generalize eH1 : upd (upd H P (.tbl (ps ++ #[rawInt pos.line, rawInt pos.col, .ref c0]))) c0 (CodeO c0 (X.env.qual ++ "<lambda>")) = H1 at I1
    have at1 : H1 c0 = some (CodeO c0 (X.env.qual ++ "<lambda>")) := by rw [← eH1]; exact upd_same
    have ext1 : ExtN H H1 := fun b o e n => by
      have b1 : b ≠ c0 := ne_of_none e fresh
      have b2 : b ≠ P := fun z => n ps (Option.some.inj (e.symm.trans (z ▸ hP)))
      rw [← eH1, upd_ne b1, upd_ne b2]
      exact e
    have tabs1 : Tabs T H1 := fun p hp => by
      by_cases hb : p.1 = P
      · have hq := hu p hp hb
        rw [hq, hb]
        refine ⟨ps ++ #[rawInt pos.line, rawInt pos.col, .ref c0], ?_, ?_, fun p' cv hcv => ?_⟩
        · rw [← eH1, upd_ne (ne_of_none hP fresh), upd_same]
        · rw [Array.toList_append]
          exact PySem.TriplesOk_snoc _ _ _ _ trip
        · rw [Array.toList_append] at hcv
          rcases among_app _ trip hcv with z | z
          · obtain ⟨c1, a1, a2⟩ := among p' cv z
            exact ⟨c1, a1, ext1 _ _ a2 codeO_ne⟩
          · exact ⟨c0, z, at1⟩
      · obtain ⟨qs, a1, a2, a3⟩ := hT p hp
        refine ⟨qs, ?_, a2, fun p' cv hcv => ?_⟩
        · rw [← eH1, upd_ne (ne_of_none a1 fresh), upd_ne hb]
          exact a1
        · obtain ⟨c1, b1, b2⟩ := a3 p' cv hcv
          exact ⟨c1, b1, ext1 _ _ b2 codeO_ne⟩
    have nf1 : H1 h'.objs.size = none := I1.hok.fresh (Nat.le_refl _)
    have I2 := lam_laid (F := lamF X params scope c0) (b := body) (dV := dV) (doc := doc) (pm := (X.mg "__name__").getD .none) (ctv := ctv) (t' := tk) I1
    have up : ∀ b o, H1 b = some o → upd H1 h'.objs.size (LamO h'.objs.size (lamF X params scope c0) body dV) b = some o := fun b o e => (upd_ne (ne_of_none e nf1)).trans e
    exact k _ c0 _ _ I2 (ext1.trans (ExtN.of up)) (tabs1.ext up) (I.hok.fresh (Nat.le_trans hge (Nat.le_of_lt hlt))) upd_same (up _ _ at1)
  · obtain ⟨c', rfl, at0⟩ := among pos cv hc
    refine PySem.W.kdv_makeTailHit (closure_ok hfree) I.ok.glob gl hcode cd oP trip hc bl ?_
    intro ctv doc h' tk hx hsz
    have I1 : Inv X pins σ H { s with heap := h', toks := tk } := I.kept hx
    have nf1 : H h'.objs.size = none := I1.hok.fresh (Nat.le_refl _)
    have I2 := lam_laid (F := lamF X params scope c') (b := body) (dV := dV) (doc := doc) (pm := (X.mg "__name__").getD .none) (ctv := ctv) (t' := tk) I1
    have up : ∀ b o, H b = some o → upd H h'.objs.size (LamO h'.objs.size (lamF X params scope c') body dV) b = some o := fun b o e => (upd_ne (ne_of_none e nf1)).trans e
    exact k _ c' _ _ I2 (ExtN.of up) (hT.ext up) nf1 upd_same (up _ _ at0)
/-- the reading of a lambda as a value -/
def tLamV (X : Cx) (T : List (Addr × Str)) (params : Arguments) (body : Expr) (scope : Scope) : TE := fun _ H Q => Tabs T H ∧ ∀ (f c' : Addr) (H1 : Hp), ExtN H H1 → Tabs T H1 → H f = none →
  LamAt H1 f (lamF X params scope c') body → H1 c' = some (CodeO c' (X.env.qual ++ "<lambda>")) → Q (.ref f) H1
theorem pe_lamV {T : List (Addr × Str)} {c P : Addr} {params : Arguments} {body : Expr} {scope : Scope} {pos : Pos} (TB : TabB X.base X.mg c P) (hcode : X.env.code = .ref c) (hm : (P, X.env.qual ++ "<lambda>") ∈ T)
    (hu : ∀ p ∈ T, p.1 = P → p.2 = X.env.qual ++ "<lambda>") (hdef : params.defaults = []) (hkd : params.kw_defaults = []) (hfr : ∀ y ∈ scope.names, y.2 = .free → X.env.scope.names.lookup y.1 = some .cell ∨ X.env.scope.names.lookup y.1 = some .free) :
    PE X (.Lambda params body scope pos) (tLamV X T params body scope) := by
  refine ⟨fun pins s σ H Q I h => PySem.W.kla_eval ?_ ?_⟩
  · rw [defaultsOf_eq, hdef, hkd]
    rfl
  rw [makeFunction_eq]
  simp only [List.zip_nil_right, List.filterMap_nil, List.isEmpty_nil, if_true, pure_bind]
  refine lam_tail I TB hcode hm hu h.1 (fun y hy e => ?_) fun f c' H1 s' I1 e1 t1 n1 a1 b1 => ⟨.ref f, H1, I1, rfl, h.2 f c' H1 e1 t1 n1 ⟨.none, a1, .inl ⟨by show dInts params.defaults = []; rw [hdef] <;> rfl, rfl⟩⟩ b1⟩
  rcases hfr y hy e with z | z
  · exact I.ok.has _ (.inl z)
  · exact I.ok.has _ (.inr z)
/-- .. with one integer as default -/
theorem pe_lamV1 {T : List (Addr × Str)} {c P : Addr} {params : Arguments} {body : Expr} {scope : Scope} {pos p1 : Pos} {i : Int} {j : Nat} (TB : TabB X.base X.mg c P) (hcode : X.env.code = .ref c) (hm : (P, X.env.qual ++ "<lambda>") ∈ T)
    (hu : ∀ p ∈ T, p.1 = P → p.2 = X.env.qual ++ "<lambda>") (hdef : params.defaults = [.Constant (.int i) j p1]) (hkd : params.kw_defaults = []) (hfr : ∀ y ∈ scope.names, y.2 = .free → X.env.scope.names.lookup y.1 = some .cell ∨ X.env.scope.names.lookup y.1 = some .free) :
    PE X (.Lambda params body scope pos) (tLamV X T params body scope) := by
  refine ⟨fun pins s σ H Q I h => PySem.W.kdv_lam (by rw [hdef]; rfl) hkd ?_⟩
  rw [hdef]
  refine PySem.W.kdv_all1 (thn ((pe_int (X := X) (i := i) (j := j) (pos := p1)).run pins s σ H (fun v H1 => v = .int i ∧ H1 = H) I ⟨rfl, rfl⟩) ?_)
  rintro u s1 ⟨v, H1, I1, r1, rfl, rfl⟩
  refine PySem.W.kdv_all0 ?_
  rw [makeFunction_eq]
  simp only [List.zip_nil_right, List.filterMap_nil, List.isEmpty_nil, List.isEmpty_cons, if_true, pure_bind, Bool.false_eq_true, if_false]
  refine wpAny_bind (wpAny_newTextTuple ?_)
  have nT : H1 s1.heap.objs.size = none := I1.hok.fresh (Nat.le_refl _)
  have I2 : Inv X pins σ (upd H1 s1.heap.objs.size (.tup [.int i])) { s1 with heap := s1.heap.push { cls := .type "tuple", data := .seq [u].toArray } } :=
    I1.laid (t' := s1.toks) (fun _ _ z => Heap.get?_push_of_some _ z) (Nat.le_refl _) ⟨by show 1 ≤ sizeLine; decide, [u], .cons r1 .nil, IsTup.new s1.heap _⟩
  have up : ∀ b o, H1 b = some o → upd H1 s1.heap.objs.size (HO.tup [V.int i]) b = some o := fun b o e => (upd_ne (ne_of_none e nT)).trans e
  refine lam_tail I2 TB hcode hm hu (h.1.ext up) (fun y hy e => ?_) fun f c' H2 s' I3 e1 t1 n1 a1 b1 => ⟨.ref f, H2, I3, rfl, h.2 f c' H2 ((ExtN.of up).trans e1) t1 ?_ ⟨_, a1, .inr ⟨?_, _, rfl, ?_⟩⟩ b1⟩
  · rcases hfr y hy e with z | z
    · exact I.ok.has _ (.inl z)
    · exact I.ok.has _ (.inr z)
  · cases q : H1 f with
    | none => rfl
    | some o => exact (Option.some_ne_none _ ((up _ _ q).symm.trans n1)).elim
  · show dInts params.defaults ≠ []
    rw [hdef]
    simp [dInts]
  · show H2 s1.heap.objs.size = some (.tup ((dInts params.defaults).map V.int))
    rw [hdef]
    exact e1 _ _ upd_same fun ps z => by cases z
end
/-! ### what a lambda promises -/
structure LOk (P : Program) (w : World) (K : PySem.W.Frag) (mg : Str → Option Value) (base : Heap) (CX : CXT) (k : Nat) (f : Addr) (F : NF) (b : Expr) (fr : List Str) (sp : List (Option V) → Hp → VK → XK → Prop) : Prop where
  run : ∀ (A : Around) (outer : List Env) (s : Shared) (H : Hp) (ws : List (Option V)) (Q : VK) (E : XK), Room k A → Env0 P w K mg base A outer s H → LamAt H f F b → H F.c = some (CodeO F.c F.qual) →
    CellsAt F.cl fr ws s.heap H → sp ws H Q E → codeAny (model P w) A (.call (.ref f) ⟨[], []⟩) (CR CX outer P w H s Q E) s
section
variable {CX : CXT} {P : Program} {w : World} {K : PySem.W.Frag} {mg : Str → Option Value} {base : Heap} {N ps fr : List Str} {F : NF} {b : Expr} {f : Addr} {k : Nat} {sp : List (Option V) → Hp → VK → XK → Prop}
theorem lok_of (S : NScope N ps fr F.scope) (hl : (dInts F.params.defaults).length = ps.length)
    (hb : ∀ (dV doc pm ctv : Value) (s : Shared) (us : List Value), us.length = ps.length → DfIn s.heap dV us → BindsTo s (lamFd F b dV doc pm ctv) ⟨[], []⟩ (ps.zip us))
    (hbody : ∀ (A : Around) (outer : List Env) (s : Shared) (H : Hp) (ws : List (Option V)) (Q : VK) (E : XK), Room k (A.deeper (envF F f s.heap.objs.size)) → ws.length = fr.length → sp ws H Q E →
      ∃ t, PE (ncx CX P w K mg base N F f A outer s H E) b t ∧ t (startF N ((dInts F.params.defaults).map V.int) ws) H Q) : LOk P w K mg base CX (k + 1) f F b fr sp := by
  refine ⟨fun A outer s H ws Q E hr e0 hf hc C hsp => ?_⟩
  have lim : s.heap.NoLimit := e0.mod.nolimit.keeps fun b o e => (e0.bs b o e).1
  obtain ⟨dV, doc, pm, ctv, ho, us, rus, hd⟩ := lamO_at e0.hok hf
  have hlu : us.length = ps.length := by rw [← rus.length, List.length_map, hl]
  refine PySem.W.kla_callFunE hr.depth ho rfl S.co S.gen rfl (codeO_at e0.hok hc) ?_
  refine hb dV doc pm ctv s us hlu hd _ _ _ _ ?_
  refine wpAny_newFunctionEnv S.nocell (fun ⟨n, v⟩ hy => S.par n (List.of_mem_zip hy).1) (fun h₁ hns hsb => ⟨lim.fresh _ hsb, ?_⟩) S.kind
  show codeAny _ _ (.expr b (envF F f s.heap.objs.size)) _ _
  obtain ⟨t, ht, hq⟩ := hbody A outer s H ws Q E (hr.deeper _) C.len hsp
  have old : ∀ b o, s.heap.get? b = some o → h₁.get? b = some o := fun b o e => hsb.extBut b o (Nat.ne_of_lt (Heap.lt_size e)) (Heap.get?_push_of_some _ e)
  have I := inv_startN (CX := CX) (N := N) (F := F) (f := f) (E := E) (us := us) (vs := (dInts F.params.defaults).map V.int) (tk := s.toks + (ps.zip us).length) S hr.hd e0 (by rw [List.length_map, hl]) rus C hns old
  refine PySem.W.kla_codeExpr (wpAny_mono (ht.run [] _ _ H Q I hq) (fun v s' q => ?_) fun e s' q => q)
  obtain ⟨x, H', J, rx, q⟩ := q
  exact ⟨x, H', J.os, J.bare, J.base, J.hok, rx, q⟩
end
end Own

/-! from M06 -/
namespace Own
open PySem PySem.Spec PyProof.Rows L2 LamX NdefX
section
variable {X : Cx} {pins : List (Addr × Obj)} {σ : L2.St} {H : Hp} {s : Shared} {cl : List (Str × Addr)} {fr : List Str} {ws : List (Option V)}
/-- what captured cells held at the entry they hold still -/
theorem cells_still (C : CellsAt cl fr ws X.s_0.heap X.H_0) (hx : ∀ b, b ∉ X.ex ∨ ∀ y, cl.lookup y ≠ some b) (I : Inv X pins σ H s) : CellsAt cl fr ws s.heap H := by
  have nx : ∀ {y c}, cl.lookup y = some c → c ∉ X.ex := fun {y c} e => (hx c).elim id fun z => absurd e (z y)
  have still : ∀ {y c v}, cl.lookup y = some c → X.s_0.heap.IsCell c v → s.heap.IsCell c v := fun {y c v} e ⟨o, ho, hd⟩ => by
    obtain ⟨sl, z⟩ := I.base.any ho (C.all y c e).1 (nx e)
    exact ⟨_, z, hd⟩
  constructor
  · exact C.len
  · intro y c e
    obtain ⟨n, v, z⟩ := C.all y c e
    obtain ⟨o, ho, _⟩ := id z
    exact ⟨I.base.free c o ho n (nx e), v, still e z⟩
  · exact C.inj
  · intro i y e
    obtain ⟨c, hc, hv⟩ := C.has i y e
    refine ⟨c, hc, fun v ev => ?_⟩
    obtain ⟨u, r, z⟩ := hv v ev
    exact ⟨u, r, still hc z⟩
/-- the call of a made lambda -/
theorem run_lam {CX : CXT} {k : Nat} {f : Addr} {F : NF} {b : Expr} {sp : List (Option V) → Hp → VK → XK → Prop} {Q : VK} {E : XK} (G : LOk X.prog X.w X.K X.mg X.base CX k f F b fr sp) (hr : Room k X.A) (hx : Passes CX X E) (I : Inv X pins σ H s)
    (hf : LamAt H f F b) (hc : H F.c = some (CodeO F.c F.qual)) (C : CellsAt F.cl fr ws s.heap H) (q : sp ws H Q E) : wpAny (model X.prog X.w) X.A (call (.ref f) []) (EP X pins σ Q) X.xe s := by
  refine wpAny_call (codeAny_mono (G.run _ _ _ _ _ _ _ hr I.env0 hf hc C q) fun r s' z => ?_)
  rcases r with e | fl
  · exact hx pins σ H s e s' I z
  · cases fl
    case ret u => exact I.after z
    all_goals exact False.elim z
/-- deed(), deed a name whose slot holds a lambda; what it captured is known at the entry of this very def -/
theorem pe_deed {CX : CXT} {k i : Nat} {f : Addr} {F : NF} {b : Expr} {sp : List (Option V) → Hp → VK → XK → Prop} {E : XK} {a : Str} {p1 p2 : Pos} (C : CellsAt F.cl fr ws X.s_0.heap X.H_0) (hex : X.ex = []) (G : LOk X.prog X.w X.K X.mg X.base CX k f F b fr sp) (hr : Room k X.A)
    (hx : Passes CX X E) (hN : X.N[i]? = some a) (hv : Vis X.env.scope a) (hd : (a == ("__debug__" : Str)) = false := by decide) (hcd : (a == ("__classdict__" : Str)) = false := by decide) :
    PE X (.Call (.Name a p1) [] [] p2) (fun σ H Q => σ[i]? = some (some (.ref f)) ∧ LamAt H f F b ∧ H F.c = some (CodeO F.c F.qual) ∧ sp ws H Q E) := by
  constructor
  intro pins s σ H Q I h
  obtain ⟨hs, hf, hc, q⟩ := h
  refine wpAny_Call_Name_kw (thn ((pe_var (pos := p1) hN hv hd hcd).run pins s σ H (fun v H1 => v = .ref f ∧ H1 = H) I ⟨.ref f, hs, rfl, rfl⟩) ?_)
  rintro u s1 ⟨v, H1, I1, r1, rfl, rfl⟩
  obtain rfl : u = Value.ref f := r1
  obtain ⟨dV, doc, pm, ctv, ho, _⟩ := lamO_at I1.hok hf
  refine PySem.W.callWith_F0 ⟨_, _, _, _, ho⟩ ?_
  exact run_lam G hr hx I1 hf hc (cells_still C (fun _ => .inl (by rw [hex]; simp)) I1) q
end
section
variable {X : Cx}
/-- a list comprehension's reading, the element's depending on the def's slots as the block begins -/
def tLcD (wi : TI) (g : TG) (te : L2.St → TE) (vs : List Nat) : TE := fun σ H Q => tLc wi g tYes (te σ) vs σ H Q
theorem pe_lcD {elt tg iter : Expr} {scope : Scope} {own : List (Str × Nat)} {pos : Pos} {wi : TI} {g : TG} {te : L2.St → TE} (hc : X.calm = true) (hN : X.N.Nodup) (hi : PI X tg iter wi) (ok : BlkOk X.N X.env.scope scope own)
    (hg : ∀ (s : Shared) (H : Hp) (C : Addr) (cl : List (Str × Addr)) (fp : List Addr), PG (X.blk s H scope (compEnvC scope cl C X.env) fp) tg g)
    (he : ∀ (pins : List (Addr × Obj)) (σ : L2.St) (s : Shared) (H : Hp) (C : Addr) (cl : List (Str × Addr)) (fp : List Addr), Inv X pins σ H s → (∀ b ∈ fp, FpOk X pins H b) → PE (X.blk s H scope (compEnvC scope cl C X.env) fp) elt (te σ))
    (hs : ∀ x, foldedSetIterable iter X.env x = pure x := by intro _; rfl) : PE X (.ListComp elt [⟨tg, iter, [], 0⟩] scope pos) (tLcD wi g te (own.map (·.2))) := by
  constructor
  intro pins s σ H Q I h
  have cap : ∀ y ∈ scope.names, y.2 = .free → ∃ c, X.env.cells.lookup y.1 = some c := fun y hy e => (ok.free y hy e).elim (fun z => I.ok.has _ (.inl z)) (fun z => I.ok.has _ (.inr z))
  rw [eval_ListComp]
  refine wpAny_comprehension_free (use := none) rfl hs (closure_ok cap) ok.kind (fun y hy e => (ok.uniq y hy).trans (congrArg some e)) ?_
  refine thn (hi.run pins s σ H _ I h) fun itr sA hA => thn hA fun _ sB hB => ?_
  obtain ⟨it, fp, tn, J, HB, rfl, IB, T, tB, fB, q⟩ := hB
  have nD : HB sB.heap.objs.size = none := IB.hok.fresh (Nat.le_refl _)
  obtain ⟨W, ⟨m0, w0⟩, turn⟩ := q _ nD
  refine wpAny_newObj_type (newEnv_comp ?_) (by show 0 ≤ sizeLine; decide)
  have inSz : ∀ b ∈ fp, b < sB.heap.objs.size := fun b hb => (T.obj _ _ tB b hb).elim fun _ z => Heap.lt_size z.1
  -- the new list stands
  generalize hsC : ({ sB with heap := sB.heap.push { cls := .type "list", data := .seq ([] : List Value).toArray } } : Shared) = sC
  have heapC : sC.heap = sB.heap.push { cls := .type "list", data := .seq ([] : List Value).toArray } := by subst hsC; rfl
  have toC : ∀ b o, sB.heap.get? b = some o → sC.heap.get? b = some o := fun b o z => by rw [heapC]; exact Heap.get?_push_of_some _ z
  generalize hD : sB.heap.objs.size = D at nD w0 turn inSz
  have IC : Inv X pins σ (upd HB D (.lst [])) sC := by
    have z := IB.laid (a := D) (o := .lst []) (t' := sB.toks) (h' := sC.heap) toC (Nat.le_of_eq hD) ⟨Nat.zero_le _, [], 0, .nil, by rw [heapC, ← hD]; exact Heap.get?_push_size _ rfl⟩
    subst hsC
    exact z
  generalize hHC : upd HB D (.lst []) = HC at IC w0
  have fC : ∀ b ∈ fp, FpOk X pins HC b ∧ b < sC.heap.objs.size := fun b hb => by
    have lt := inSz b hb
    refine ⟨⟨?_, (fB b hb).2⟩, ?_⟩
    · rw [← hHC, upd_ne (Nat.ne_of_lt lt)]
      exact (fB b hb).1
    · rw [heapC, Heap.size_push, hD]
      exact Nat.lt_succ_of_lt lt
  have tC : tn 0 sC.heap := T.keep _ _ _ tB fun b _ o z => toC b o z
  have blk := block_start IC ok hN fC
  generalize hcl : cellsFrom (sC.heap.objs.size + 1) scope.names (cloFrom X.env.cells scope.names []) = cells at blk ⊢
  have hgB := hg sC HC sC.heap.objs.size cells fp
  have heB := he pins σ sC HC sC.heap.objs.size cells fp IC (fun b hb => (fC b hb).1)
  have htB : PTs (X.blk sC HC scope (compEnvC scope cells sC.heap.objs.size X.env) fp) [] tYes := pts_nil
  show codeAny _ _ (.compStart (.ListComp elt [⟨tg, iter, [], 0⟩] scope pos) 0 (.ref it) (.ref D) (compEnvC scope cells sC.heap.objs.size X.env)) (compPost (model X.prog X.w) X.A X.xe none (EP X pins σ Q) (.ref D) sC.heap.objs.size) { sC with heap := pushCells (sC.heap.push { cls := .type "dict", data := .dict #[] }) scope.names }
  generalize hce : compEnvC scope cells sC.heap.objs.size X.env = ce at blk hgB heB htB ⊢
  have ceL : ce.locals = sC.heap.objs.size := by rw [← hce]; rfl
  generalize hsE : ({ sC with heap := pushCells (sC.heap.push { cls := .type "dict", data := .dict #[] }) scope.names } : Shared) = sE at blk ⊢
  have tE : tn 0 sE.heap := T.keep _ _ _ tC fun b _ o z => by rw [← hsE]; exact pushCells_keeps _ _ _ _ (Heap.get?_push_of_some _ z)
  -- the iterator's objects as the block sees them
  have seen : ∀ {σ' : L2.St} {H' : Hp} {s' : Shared}, Inv (X.blk sC HC scope ce fp) [] σ' H' s' → (∀ b ∈ fp, H' b = none) → ∀ b ∈ fp, FpOk (X.blk sC HC scope ce fp) [] H' b := fun {σ' H' s'} J' n b hb => by
    have z1 := J'.ok.exf b hb
    exact ⟨n b hb, z1.1, J'.ok.exfs b hb, .inl hb, z1.2, fun p hp => absurd (show p ∈ ([] : List (Addr × Obj)) ++ [] from hp) (by simp)⟩
  have whole : codeAny (model X.prog X.w) X.A (.compLoop (.ListComp elt [⟨tg, iter, [], 0⟩] scope pos) 0 (.ref it) (.ref D) ce) (compPost (model X.prog X.w) X.A X.xe none (EP X pins σ Q) (.ref D) sC.heap.objs.size) sE := by
    refine compLoop_any (fun n s' => ∃ (i : Nat) (H' : Hp), W i n H' ∧ (∀ b ∈ fp, H' b = none) ∧ tn i s'.heap ∧ Inv (X.blk sC HC scope ce fp) [] (wipe σ (own.map (·.2))) H' s') ?_ m0 ⟨0, HC, w0, fun b hb => (fC b hb).1.1, tE, blk⟩
    rintro n sF ⟨i, HF, wF, nF, tF, IF⟩
    rcases turn i n HF wF with ⟨hstop, hq⟩ | ⟨hgo, Nx, hNx, step⟩
    · have fin := T.done (X.blk sC HC scope ce fp) rfl rfl rfl hc i [] sF _ HF (fun _ _ => False) IF (seen IF nF) tF hstop
      refine thnF fin ?_
      rintro _ sG ⟨rfl, IG⟩
      have IX : Inv X pins σ HF sG := IC.call' (ch := fp) IG.os IG.base IG.hok IG.bare fun b hb => by
        obtain ⟨⟨_, a1, a2, a3, a4, a5⟩, _⟩ := fC b hb
        exact ⟨a3, a1, a4, a5⟩
      have free : HF sC.heap.objs.size = none := by
        have z : HF ce.locals = none := IG.free
        rw [← ceL]
        exact z
      obtain ⟨m, hn, _⟩ := IG.loc
      have hn : sG.heap.Ns ce.locals m := hn
      rw [ceL] at hn
      obtain ⟨f0, f1, f2, f3, f4, f5⟩ := IC.fpOk (H' := HF) (Nat.le_refl _) free
      exact ⟨m, hn, fun h2 sb => ⟨.ref D, HF, IX.turned (t' := sG.toks) (fun b o hb e => (sb.2 b hb).trans e) f0 f1 f3 f4 f5, rfl, hq⟩⟩
    · have nxt := T.item (X.blk sC HC scope ce fp) rfl rfl rfl hc i [] sF _ HF (fun _ _ => False) IF (seen IF nF) tF hgo
      refine thnF nxt ?_
      rintro _ sG ⟨u, rfl, hG⟩
      refine thnF hG ?_
      rintro _ sI ⟨x, HI, II, rI, yI, tI, nI⟩
      have pinned := II.pinned (seen II nI) (T.obj _ _ tI)
      refine thnF (hgB.run _ sI _ HI x u _ pinned rI (step x HI yI)) ?_
      rintro _ sJ ⟨σJ, HJ, IJ, hwJ, qJ⟩
      refine thnF (htB.run _ sJ σJ HJ _ IJ qJ) ?_
      rintro b sK ⟨HK, IK, qK⟩
      have again : ∀ {s' : Shared} {H' : Hp}, Inv (X.blk sC HC scope ce fp) ([] ++ pinsAt fp sI.heap) σJ H' s' → Nx H' → ∃ m, m < n ∧ ∃ (i : Nat) (H' : Hp), W i m H' ∧ (∀ b ∈ fp, H' b = none) ∧ tn i s'.heap ∧ Inv (X.blk sC HC scope ce fp) [] (wipe σ (own.map (·.2))) H' s' := fun {s' H'} J' hx => by
        obtain ⟨m', lt, w'⟩ := hNx H' hx
        have pn : ∀ b ∈ fp, ∀ o, sI.heap.get? b = some o → s'.heap.get? b = some o ∧ H' b = none := fun b hb o z => by
          have y := J'.pin (b, o) (List.mem_append_right _ (List.mem_append_right _ (mem_pinsAt hb z)))
          exact ⟨y.1, y.2.1⟩
        refine ⟨m', lt, i + 1, H', w', fun b hb => ?_, T.keep _ _ _ tI fun b hb o z => (pn b hb o z).1, ?_⟩
        · obtain ⟨o, z, _⟩ := T.obj _ _ tI b hb
          exact (pn b hb o z).2
        · refine (J'.unpinned (pins := [])).weak (by rw [← hwJ, wipe_length]) fun j v z => ?_
          rw [← hwJ] at z
          exact (wipe_some z).1
      cases b
      case false =>
        simp only [Bool.false_eq_true, if_false] at qK ⊢
        exact again IK qK
      case true =>
        simp only [if_true] at qK ⊢
        refine thnF (heB.run _ sK σJ HK _ IK qK) ?_
        rintro z sL ⟨y, HL, IL, rL, acc, hacc, hlen, hnx⟩
        exact app_ok (X := X.blk sC HC scope ce fp) IL hacc hlen rL fun sM IM => again IM hnx
  exact codeAny_compStart_list whole (T.self X.A 0 _ _ _ tE whole)
end
end Own

/-! from N06 -/
namespace Own
open PySem PySem.Spec PyProof.Rows L2 LamX NdefX
/-- a def of the text as its callers know it -/
structure DefOk (P : Program) (w : World) (K : PySem.W.Frag) (mg : Str → Option Value) (base : Heap) (CX : CXT) (x : Str) (k : Nat) (ps : List Str) (sp : Sp) : Prop where
  ex : ∃ (f : Addr) (fd : FuncData), FnOk P w K mg base CX k f fd ps sp ∧ mg x = some (.ref f) ∧ PySem.W.keepIn K (.ref f) = true ∧ Binds K fd ps []
/-- .. as the top has left it -/
structure At (K : PySem.W.Frag) (mg : Str → Option Value) (x : Str) (st : Stmt) (ps : List Str) : Prop where
  ex : ∃ (f : Addr) (fd : FuncData), Fun K x x st f fd ∧ mg x = some (.ref f) ∧ Binds K fd ps []
theorem At.ok {P : Program} {w : World} {K : PySem.W.Frag} {mg : Str → Option Value} {base : Heap} {CX : CXT} {x : Str} {st : Stmt} {k : Nat} {ps : List Str} {sp : Sp} (a : At K mg x st ps) (h : ∀ (f : Addr) (fd : FuncData), Fun K x x st f fd → FnOk P w K mg base CX k f fd ps sp) :
    DefOk P w K mg base CX x k ps sp := by
  obtain ⟨f, fd, F, g, b⟩ := a.ex
  exact ⟨f, fd, h f fd F, g, F.kp, b⟩
section
variable {X : Cx} {CX : CXT} {k j : Nat} {ps : List Str} {sp : Sp} {E : XK} {x : Str} {p pos : Pos} {e : Expr} {es : List Expr} {t : TA}
theorem pe_def (D : DefOk X.prog X.w X.K X.mg X.base CX x k ps sp) (hr : Room j X.A) (hj : k ≤ j) (hg : Gl X x) (hx : Passes CX X E) (ha : PA X (e :: es) t) (hdb : (x == ("__debug__" : Str)) = false := by decide)
    (he : starEach (e :: es) X.env = (false, eval e X.env) :: starEach es X.env := by rfl) (hpl : (backTo pos (starEach es X.env)).any (·.1) = false := by rfl) : PE X (.Call (.Name x p) (e :: es) [] pos) (tCall sp [] E t) := by
  obtain ⟨f, fd, F, g, kp, b⟩ := D.ex
  exact pe_call F (hr.mono hj) hg g kp b .nil hx ha hdb he hpl
theorem pe_def0 (D : DefOk X.prog X.w X.K X.mg X.base CX x k ps sp) (hr : Room j X.A) (hj : k ≤ j) (hg : Gl X x) (hx : Passes CX X E) (hdb : (x == ("__debug__" : Str)) = false := by decide) : PE X (.Call (.Name x p) [] [] pos) (tCall sp [] E tNil) := by
  obtain ⟨f, fd, F, g, kp, b⟩ := D.ex
  exact pe_call0 F (hr.mono hj) hg g kp b .nil hx hdb
end
/-- a def whose first argument is a lambda; sp: what it makes of the lambda's promise and of the other arguments -/
structure LamDef (P : Program) (w : World) (K : PySem.W.Frag) (mg : Str → Option Value) (base : Heap) (g : Addr) (k : Nat) (sp : (Hp → VK → XK → Prop) → List V → Hp → VK → Prop) : Prop where
  run : ∀ (A : Around) (outer : List Env) (s : Shared) (H : Hp) (us : List Value) (f : Addr) (vs : List V) (F : NF) (b : Expr) (fr : List Str) (ws : List (Option V)) (spl : List (Option V) → Hp → VK → XK → Prop) (kl : Nat) (Q : VK), Room k A → kl < k → Env0 P w K mg base A outer s H →
    Vals (.ref f :: vs) us → LOk P w K mg base (L2.CX P w) kl f F b fr spl → LamAt H f F b → H F.c = some (CodeO F.c F.qual) → CellsAt F.cl fr ws s.heap H → sp (spl ws) vs H Q →
    codeAny (model P w) A (.call (.ref g) ⟨us, []⟩) (CR CX0 outer P w H s Q E0) s
structure LamDefAt (P : Program) (w : World) (K : PySem.W.Frag) (mg : Str → Option Value) (base : Heap) (x : Str) (k : Nat) (sp : (Hp → VK → XK → Prop) → List V → Hp → VK → Prop) : Prop where
  ex : ∃ g : Addr, LamDef P w K mg base g k sp ∧ mg x = some (.ref g) ∧ PySem.W.keepIn K (.ref g) = true
/-- one of several lambdas: its words by its code object's address, its body, the captured names and their values, its promise -/
structure Lam where
  nf : Addr → NF
  b : Expr
  fr : List Str
  ws : List (Option V)
  sp : List (Option V) → Hp → VK → XK → Prop
def tLamCall {ι : Type} (L : ι → Lam) (sp : (Hp → VK → XK → Prop) → List V → Hp → VK → Prop) (t : TA) : TE := fun σ H Q => t σ H fun vs H1 => ∃ (i : ι) (f c' : Addr) (rest : List V), vs = .ref f :: rest ∧ LamAt H1 f ((L i).nf c') (L i).b ∧
  H1 ((L i).nf c').c = some (CodeO ((L i).nf c').c ((L i).nf c').qual) ∧ sp ((L i).sp (L i).ws) rest H1 Q
theorem pe_lamcall {ι : Type} {X : Cx} {L : ι → Lam} {k kl j : Nat} {sp : (Hp → VK → XK → Prop) → List V → Hp → VK → Prop} {x : Str} {p pos : Pos} {e : Expr} {es : List Expr} {t : TA} (D : LamDefAt X.prog X.w X.K X.mg X.base x k sp) (hkl : kl < k) (hr : Room j X.A) (hj : k ≤ j)
    (G : ∀ (i : ι) (f c' : Addr), LOk X.prog X.w X.K X.mg X.base (L2.CX X.prog X.w) kl f ((L i).nf c') (L i).b (L i).fr (L i).sp) (C : ∀ (i : ι) (c' : Addr), CellsAt ((L i).nf c').cl (L i).fr (L i).ws X.s_0.heap X.H_0) (hxc : ∀ (i : ι) (c' b : Addr), b ∉ X.ex ∨ ∀ y, ((L i).nf c').cl.lookup y ≠ some b)
    (hg : Gl X x) (ha : PA X (e :: es) t) (hdb : (x == ("__debug__" : Str)) = false := by decide) (he : starEach (e :: es) X.env = (false, eval e X.env) :: starEach es X.env := by rfl) (hpl : (backTo pos (starEach es X.env)).any (·.1) = false := by rfl) :
    PE X (.Call (.Name x p) (e :: es) [] pos) (tLamCall L sp t) := by
  obtain ⟨g, R, gm, kp⟩ := D.ex
  constructor
  intro pins s σ H Q I h
  refine wpAny_Call_Name_kw (ld_glob I hg gm ?_ hdb)
  refine PySem.W.callWith_K (h₀ := X.base) I.ok.mod.kin kp (thn (ha.run pos pins s σ H _ I h) ?_) he hpl
  rintro us s1 ⟨vs, H1, I1, r, i, f, c', rest, rfl, hf, hc, q⟩
  refine ⟨I1.kIn, wpAny_call (codeAny_mono (R.run X.A X.stack s1 H1 us f rest _ _ _ _ _ kl Q (hr.mono hj) hkl I1.env0 r (G i f c') hf hc (cells_still (C i c') (hxc i c') I1) q) fun z s' hz => ?_)⟩
  rcases z with er | fl
  · exact (show False from hz).elim
  · cases fl
    case ret u => exact I1.after hz
    all_goals exact False.elim hz
/-- what the def's own cells hold, told to a block that begins -/
theorem cells_blk {X : Cx} {pins : List (Addr × Obj)} {σ : L2.St} {H : Hp} {s : Shared} {scope : Scope} {fr : List Str} {js : List Nat} (I : Inv X pins σ H s) (hfree : ∀ y ∈ scope.names, y.2 = .free → X.env.scope.names.lookup y.1 = some .cell ∨ X.env.scope.names.lookup y.1 = some .free)
    (hfr : ∀ y ∈ fr, (y, NameKind.free) ∈ scope.names) (hjs : js.map (fun j => X.N[j]?) = fr.map some) : CellsAt (cloFrom X.env.cells scope.names []) fr (js.map (slotAt σ)) s.heap H := cells_of I (Caps.made I.ok hfree hfr hjs)
theorem cells_fp {X : Cx} {pins : List (Addr × Obj)} {σ : L2.St} {H : Hp} {s : Shared} {scope : Scope} {fp : List Addr} (I : Inv X pins σ H s) (hfree : ∀ y ∈ scope.names, y.2 = .free → X.env.scope.names.lookup y.1 = some .cell ∨ X.env.scope.names.lookup y.1 = some .free)
    (hfp : ∀ b ∈ fp, FpOk X pins H b) (b : Addr) : b ∉ fp ∨ ∀ y, (cloFrom X.env.cells scope.names []).lookup y ≠ some b := by
  by_cases hb : b ∈ fp
  · refine .inr fun y z => ?_
    have hf : ∀ y ∈ scope.names, y.2 = .free → ∃ c, X.env.cells.lookup y.1 = some c := fun y hy e => (hfree y hy e).elim (fun z => I.ok.has _ (.inl z)) fun z => I.ok.has _ (.inr z)
    exact (hfp b hb).2.2.2.2.1 y b (clo_cm hf z) rfl
  · exact .inl hb
end Own

/-! from S06 -/
namespace PySem.SeqAt
open AutoSeq1 (wpAny_loadPart')
open MeetsSeq
theorem own_str_dict0 (b : Str) (u : Tok) (l : Addr) (es : Array DictEntry) (ep : Nat) :
    Meets (Builtin.«str.__eq__» ⟨[.str b u, .ref l], []⟩) (fun _ R s => s.heap.get? l = some ({ cls := .type "dict", dict := none, data := .dict es ep, slots := #[] } : Obj) ∧ R (.ok (.ret .notImplemented)) s) :=
  .of_wp fun prog w A R s h => by
    obtain ⟨hp, g, d, tk, os⟩ := s
    obtain ⟨hl, h⟩ := h
    wp_walk using wpAny_loadPart' hl, wpAny_load hl
    exact ⟨_, rfl, h⟩
theorem own_dict_str0 (b : Str) (u : Tok) (l : Addr) (es : Array DictEntry) (ep : Nat) :
    Meets (Builtin.«dict.__eq__» ⟨[.ref l, .str b u], []⟩) (fun _ R s => s.heap.get? l = some ({ cls := .type "dict", dict := none, data := .dict es ep, slots := #[] } : Obj) ∧ R (.ok (.ret .notImplemented)) s) :=
  .of_wp fun prog w A R s h => by
    obtain ⟨hp, g, d, tk, os⟩ := s
    obtain ⟨hl, h⟩ := h
    have f1 := F.sub_str_dict
    wp_walk using wpAny_loadPart' hl, wpAny_load hl
    exact ⟨_, rfl, h⟩
theorem own_rc_str_dict {A : Around} {s : Shared} {l : Addr} {es : Array DictEntry} {ep : Nat} (b : Str) (u : Tok) (ho : s.heap.get? l = some ({ cls := .type "dict", dict := none, data := .dict es ep, slots := #[] } : Obj)) (hu : A.units < cLine) : RcAt A s (.str b u) (.ref l) false :=
  fun prog w E Q h => by
    refine rc_eq_decline_or (k := false) (typeIs_str s b u) ⟨_, ho, rfl⟩ (by decide) F.sub_dict_str F.slot_str_eq F.slot_dict_eq_refl ?_ ?_ ?_ (.inr hu) h
    · exact fun _ hq => call_meets F.slot_str_eq (typeIs_str s b u) F.entry_str_eq (F.args_str_eq_2 _ _) (own_str_dict0 b u l es ep) ⟨ho, hq⟩
    · exact fun _ hq => call_meets F.slot_dict_eq_refl ⟨_, ho, rfl⟩ F.entry_dict_eq (F.args_dict_eq_2 _ _) (own_dict_str0 b u l es ep) ⟨ho, hq⟩
    · exact fun _ hq => wpAny_of_eq (rfl : isSame (.str b u) (.ref l) = pure false) hq
theorem own_eq_str_dict {A : Around} {s : Shared} {l : Addr} {es : Array DictEntry} {ep : Nat} (b : Str) (u : Tok) (ho : s.heap.get? l = some ({ cls := .type "dict", dict := none, data := .dict es ep, slots := #[] } : Obj)) (hu : A.units < cLine) : EqAt A s (.str b u) (.ref l) false :=
  fun prog w E Q h => by
    unfold eqBool
    refine wpAny_holding (wpAny_ite_split (fun z => absurd (eq_of_beq z) nofun) fun _ => ?_)
    exact wpAny_bind (own_rc_str_dict b u ho hu prog w E _ (wpAny_truthy_bool h))
end PySem.SeqAt
namespace Own
open PySem PySem.Spec PyProof.Rows L2
/-- a value that is no text, and no number with a text's place -/
inductive NoTxt (H : Hp) : V → Prop where
  | non : NoTxt H .non
  | bl (b : Bool) : NoTxt H (.bl b)
  | int (i : Int) : NoTxt H (.int i)
  | lst {a : Addr} {xs : List V} (e : H a = some (.lst xs)) : NoTxt H (.ref a)
  | tup {a : Addr} {xs : List V} (e : H a = some (.tup xs)) : NoTxt H (.ref a)
  | dct {a : Addr} {kvs : List (Key × V)} (e : H a = some (.dK kvs)) : NoTxt H (.ref a)
theorem NoTxt.ne {X : Cx} {pins : List (Addr × Obj)} {σ : L2.St} {H : Hp} {s : Shared} {x : V} {v : Value} (I : Inv X pins σ H s) (h : NoTxt H x) (r : RelV x v) {A : Around} (hu : A.units < cLine) (z : Str) (t : Tok) : SeqAt.EqAt A s (.str z t) v false := by
  cases h with
  | non => cases r; exact SeqAt.EqAt.str_none z t
  | bl b => cases r; exact SeqAt.EqAt.str_bool z t b
  | int i =>
    obtain ⟨u, rfl⟩ := r
    exact SeqAt.EqAt.str_int z t i u
  | lst e =>
    cases r
    obtain ⟨its, _, pl, _⟩ := I.list (SqL.of e)
    exact SeqAt.EqAt.str_list z t pl.isList hu
  | tup e =>
    cases r
    obtain ⟨its, _, pl, _⟩ := I.tuple (SqT.of e)
    exact SeqAt.EqAt.str_tuple z t pl hu
  | dct e =>
    cases r
    obtain ⟨_, _, vs, _, ⟨⟨c, dd, da, sl⟩, es, ep, ho, hx, hd, _⟩⟩ := (show ObjOk X.prog X.w H s.heap _ (.dK _) from I.hok _ _ e)
    obtain ⟨rfl, rfl, rfl⟩ := hx
    obtain rfl : da = .dict es ep := hd
    exact SeqAt.own_eq_str_dict z t ho hu
def rNotInW (K : PySem.W.Frag) : R2 := fun x y H Q => ∃ (p : Addr) (zs : List Str), y = .ref p ∧ SqT K H p (zs.map V.str) ∧ NoTxt H x ∧ Q (.bl true) H
theorem op_notInW {X : Cx} (hu : X.A.units + 1 < cLine) : OpR X (compareOp .NotIn) (rNotInW X.K) := by
  intro pins s σ H x y v u Q I rx ry h
  obtain ⟨p, zs, rfl, hq, nt, q⟩ := h
  cases ry
  obtain ⟨its, r, pl, hz⟩ := I.tuple hq
  have txts : ∀ w ∈ its, ∃ (z : Str) (t : Tok), w = .str z t := fun w hw => by
    obtain ⟨i, hi⟩ := List.mem_iff_getElem?.mp hw
    have hlt : i < (zs.map V.str).length := by
      rw [Paired.length r]
      exact (List.getElem?_eq_some_iff.mp hi).1
    obtain ⟨u', h1, h2⟩ := r.get (List.getElem?_eq_getElem hlt)
    rw [hi] at h1
    cases h1
    rw [List.getElem_map] at h2
    obtain ⟨t, z⟩ := h2
    exact ⟨_, t, z⟩
  have hu0 : X.A.units < cLine := Nat.lt_of_le_of_lt (Nat.le_succ _) hu
  have hu' : X.A.in1.units < cLine := by first | exact hu0 | exact hu
  refine SeqAt.notIn_tupleAt (fun _ => false) pl (fun w hw => ?_) ⟨.bl _, H, I, rfl, ?_⟩
  · obtain ⟨z, t, rfl⟩ := txts w (by simpa using hw)
    exact nt.ne I rx hu' z t
  · have e : its.toArray.any (fun _ => false) = false := by simp
    rw [e]
    exact q
end Own


/-! from P06 -/
namespace Own
open PySem PySem.Spec PyProof.Rows L2
inductive Thing (H : Hp) : V → Prop where
  | non : Thing H .non
  | bl (b : Bool) : Thing H (.bl b)
  | int (i : Int) : Thing H (.int i)
  | str (z : Str) : Thing H (.str z)
  | lst {a : Addr} {xs : List V} (e : H a = some (.lst xs)) : Thing H (.ref a)
  | tup {a : Addr} {xs : List V} (e : H a = some (.tup xs)) : Thing H (.ref a)
  | dct {a : Addr} {kvs : List (Key × V)} (e : H a = some (.dK kvs)) : Thing H (.ref a)
theorem Thing.same {H H' : Hp} {x : V} (h : Thing H x) (s : Same H H') : Thing H' x := by
  cases h with
  | non => exact .non
  | bl b => exact .bl b
  | int i => exact .int i
  | str z => exact .str z
  | lst e => exact .lst (s _ _ e)
  | tup e => exact .tup (s _ _ e)
  | dct e => exact .dct (s _ _ e)
def isInt : V → Bool
  | .int _ => true
  | _ => false
def isBl : V → Bool
  | .bl _ => true
  | _ => false
/-- isinstance(x, int), isinstance(x, bool) -/
theorem Thing.isi {K : PySem.W.Frag} {H : Hp} {x : V} (h : Thing H x) : ∃ t : Value, TyX K H x t ∧ PySem.W.kitOne K t (.type "int") = some (isInt x || isBl x) ∧ PySem.W.kitOne K t (.type "bool") = some (isBl x) := by
  cases h with
  | non => exact ⟨_, .base .non, kit_ty (show kitB "NoneType" "int" = some false by decide +kernel), kit_ty (show kitB "NoneType" "bool" = some false by decide +kernel)⟩
  | bl b => exact ⟨_, .base (.bl b), kit_ty (show kitB "bool" "int" = some true by decide +kernel), kit_ty (show kitB "bool" "bool" = some true by decide +kernel)⟩
  | int i => exact ⟨_, .base (.int i), kit_ty (show kitB "int" "int" = some true by decide +kernel), kit_ty (show kitB "int" "bool" = some false by decide +kernel)⟩
  | str z => exact ⟨_, .base (.str z), kit_ty (show kitB "str" "int" = some false by decide +kernel), kit_ty (show kitB "str" "bool" = some false by decide +kernel)⟩
  | lst e => exact ⟨_, .base (.lst e), kit_ty (show kitB "list" "int" = some false by decide +kernel), kit_ty (show kitB "list" "bool" = some false by decide +kernel)⟩
  | tup e => exact ⟨_, .base (.tup e), kit_ty (show kitB "tuple" "int" = some false by decide +kernel), kit_ty (show kitB "tuple" "bool" = some false by decide +kernel)⟩
  | dct e => exact ⟨_, .base (.dK e), kit_ty (show kitB "dict" "int" = some false by decide +kernel), kit_ty (show kitB "dict" "bool" = some false by decide +kernel)⟩
theorem Thing.noTxt {H : Hp} {x : V} (h : Thing H x) : NoTxt H x ∨ ∃ z, x = .str z := by
  cases h with
  | non => exact .inl .non
  | bl b => exact .inl (.bl b)
  | int i => exact .inl (.int i)
  | str z => exact .inr ⟨z, rfl⟩
  | lst e => exact .inl (.lst e)
  | tup e => exact .inl (.tup e)
  | dct e => exact .inl (.dct e)
/-- what a written dict says at a text -/
def KGet (K : PySem.W.Frag) (d : Addr) (z : Str) (r : Option V) : Prop := ∃ ro : Option Value, PySem.W.nsIn K d z = some ro ∧ RelO r ro
section
variable {X : Cx} {d : Addr} {es : Array DictEntry} {n : Nat} {o e f : Expr} {apos cpos : Pos} {td ty tx : TE}
theorem pe_kget2 (D : KDict X.K X.w d es n) (ho : PE X o td) (he : PE X e ty) (hf : PE X f tx) (m : M2 X o "get" apos e f cpos) :
    PE X (.Call (.Attribute o "get" apos) [e, f] [] cpos) (fun σ H Q => td σ H fun x H1 => x = .ref d ∧ ty σ H1 fun y H2 => tx σ H2 fun z H3 => ∃ (t : Str) (r : Option V), y = .str t ∧ KGet X.K d t r ∧ Q (r.getD z) H3) := by
  constructor
  intro pins s σ H Q I h
  refine wpAny_Call_method m.base m.few m.line PySem.F.plainAttrs_dict PySem.F.slot_dict_get PySem.F.type_dict_get (thn (ho.run pins s σ H _ I h) ?_)
  rintro u s1 ⟨x, H1, I1, rx, rfl, q1⟩
  obtain rfl : u = Value.ref d := rx
  refine ⟨kd_type D I1, fun b q => ?_, ?_⟩
  · cases q
    exact ⟨_, I1.kIn _ _ D.at_, rfl⟩
  rw [m.trees]
  refine Calls.callWith_builtin rfl (Calls.evalArgs_plain (Calls.spliced_cons (thn (he.run pins s1 σ H1 _ I1 q1) ?_)))
  rintro iv s2 ⟨y, H2, I2, ry, q2⟩
  refine Calls.spliced_cons (thn (hf.run pins s2 σ H2 _ I2 q2) ?_)
  rintro fv s3 ⟨z, H3, I3, rz, t, r, rfl, ⟨ro, hk, rr⟩, q3⟩
  refine Calls.spliced_nil ?_
  obtain ⟨tk, rfl⟩ := ry
  show wpAny _ _ (call (.builtin "dict.get") [.ref d, .str t tk, fv]) _ _ _
  refine call_meetsIn PySem.F.slot_dict_get (kd_type D I3) PySem.F.entry_dict_get (PySem.F.args_dict_get_3 _ _ _) (meets_dict_get_default (strKind X.prog X.w) d (strKind_is X.prog X.w t tk) D.low fv) ⟨_, PySem.W.mapOf_K (prog := X.prog) I3.kIn D.at_ D.lit, ?_⟩
  rw [PySem.W.find_K D.at_ hk]
  refine ⟨r.getD z, H3, I3.tok _, ?_, q3⟩
  cases r with
  | none =>
    cases ro with
    | none => exact rz
    | some u => exact rr.elim
  | some v =>
    cases ro with
    | none => exact rr.elim
    | some u => exact rr
end
/-! ### an error class whose __init__ keeps one field -/
structure ErrC (P : Program) (w : World) (K : PySem.W.Frag) (mg : Str → Option Value) (base : Heap) (x fld : Str) (k : Nat) (C : Addr) (sp : Sp) : Prop where
  g : mg x = some (.ref C)
  oex : OexC K C
  ini : ∃ (fI : Addr) (fd : FuncData), PySem.W.findIn K (.ref C) "__init__" = some (some (.ref fI)) ∧ PySem.W.typeIn K (.ref fI) = some (.type "function") ∧ FnOk P w K mg base CX0 k fI fd ["self", fld] sp ∧ Binds K fd ["self", fld] []
  xf : XfC K C
  te : PySem.W.exmOne K (.ref C) (.ref C) = some true
  noV : PySem.W.findIn K (.ref C) fld = some none
def spErr (C : Addr) (fld : Str) : Sp := fun vs H Q _ => ∃ (a : Addr) (y : V), vs = [.ref a, y] ∧ H a = some (exo a C none) ∧ ∀ dx, H dx = none → dx ≠ a → Q .non (upd (upd H dx (exd dx [(fld, y)])) a (exo a C (some dx)))
/-- such an error leaves: its value x -/
def Bad (C : Addr) (fld : Str) (x : V) (H : Hp) (E : XK) : Prop := ∀ (d : Addr) (H' : Hp), Same H H' → H d = none → H' d = some (.xd [(fld, x)]) → E (.ref C) (some d) H'
theorem Bad.same {C : Addr} {fld : Str} {x : V} {H H1 : Hp} {E : XK} (h : Bad C fld x H E) (s : Same H H1) : Bad C fld x H1 E := fun d H' s' n e => h d H' (s.trans s') (s.free n) e
section
variable {X : Cx} {x fld : Str} {k j : Nat} {C : Addr} {e : Expr} {te : TE} {p pos : Pos}
theorem pmk_err (D : ErrC X.prog X.w X.K X.mg X.base x fld k C (spErr C fld)) (hr : Room j X.A) (hj : k + 1 ≤ j) (hg : Gl X x) (he : PE X e te) (hdb : (x == ("__debug__" : Str)) = false := by decide)
    (hst : starEach (e :: []) X.env = (false, eval e X.env) :: starEach [] X.env := by rfl) (hpl : (backTo pos (starEach [] X.env)).any (·.1) = false := by rfl) :
    PMk X (.Call (.Name x p) [e] [] pos) (tMkO C (spErr C fld) [] (tCons te tNil)) := by
  obtain ⟨fI, fd, iC, tI, F1, b⟩ := D.ini
  exact pmk_oex D.oex iC tI F1 (hr.mono hj) b .nil (fun _ _ _ _ _ _ _ z => z.elim) hg D.g (pa_cons he pa_nil hst) hdb hst hpl
end
/-- the end of such a making -/
theorem bad_mk {C : Addr} {fld : Str} {y : V} {H : Hp} {Q : XK} (h : Bad C fld y H Q) : [y].length ≤ 1000 ∧ ∀ a, H a = none → spErr C fld (.ref a :: ([y] ++ [])) (upd H a (exo a C none))
    (fun v H2 => v = .non ∧ ∃ (d : Addr) (fs : List (Str × V)), H2 a = some (exo a C (some d)) ∧ H2 d = some (exd d fs) ∧ H d = none ∧ Q (.ref C) (some d) (upd (del H2 a) d (.xd fs))) (fun _ _ _ => False) := by
  refine ⟨by show 1 ≤ 1000; decide, fun a na => ⟨a, y, rfl, upd_same, fun dx ndx ne => ⟨rfl, dx, [(fld, y)], upd_same, ?_, ?_, ?_⟩⟩⟩
  · rw [upd_ne ne, upd_same]
  · rw [upd_ne ne] at ndx
    exact ndx
  · have nd : H dx = none := by
      rw [upd_ne ne] at ndx
      exact ndx
    refine h dx _ (fun b o e => ?_) nd upd_same
    have b1 : b ≠ a := ne_of_none e na
    have b2 : b ≠ dx := ne_of_none e nd
    rw [upd_ne b2, del_ne b1, upd_ne b1, upd_ne b2, upd_ne b1]
    exact e
end Own

/-! from U06 -/
namespace Own
open PySem PySem.Spec PyProof.Rows L2
theorem op_mulS {X : Cx} : OpR X (binaryOp .Mult) (fun x y H Q => ∃ (z : Str) (n : Int), x = .str z ∧ y = .int n ∧ MulOk z n ∧ Q (.str (Txt.mul z n)) H) := by
  intro pins s σ H x y v u Q I rx ry h
  obtain ⟨z, n, rfl, rfl, ok, q⟩ := h
  obtain ⟨t, rfl⟩ := rx
  obtain ⟨t', rfl⟩ := ry
  exact SB.mul ok fun t2 k => ⟨.str _, H, I.tok _, ⟨_, rfl⟩, q⟩
theorem zeros_fold : ∀ (n : Nat) (acc : Array Nat), ((List.replicate n #[48]).foldl (· ++ ·) acc).toList = acc.toList ++ List.replicate n 48
  | 0, acc => by simp
  | n + 1, acc => by
    rw [List.replicate_succ, List.foldl_cons, zeros_fold n, Array.toList_append, List.replicate_succ, List.append_assoc]
    rfl
theorem zero_cps : ("0" : Str).cps = #[48] := by decide +kernel
theorem one_cps : ("1" : Str).cps = #[49] := by decide +kernel
theorem zeros (n : Nat) : (Txt.mul "0" (n : Int)).cps.toList = List.replicate n 48 := by
  unfold Txt.mul
  by_cases h0 : n = 0
  · subst h0
    rw [if_pos (by omega)]
    rfl
  · rw [if_neg (by omega)]
    by_cases h1 : n = 1
    · subst h1
      rw [if_pos (by simp), zero_cps]
      rfl
    · have e : ¬ (((n : Int) == 1 || ("0" : Str).length == 0) = true) := by
        have l : ("0" : Str).length = 1 := by decide +kernel
        rw [l]
        simp
        omega
      rw [if_neg e]
      show ((List.replicate (n : Int).toNat ("0" : Str).cps).foldl (· ++ ·) #[]).toList = _
      rw [zero_cps, Int.toNat_natCast, zeros_fold]
      rfl
/-- '1' + '0' * n -/
def tenS (n : Nat) : Str := ("1" : Str) ++ Txt.mul "0" (n : Int)
theorem tenS_list (n : Nat) : (tenS n).cps.toList = 49 :: List.replicate n 48 := by
  have e : (tenS n).cps = ("1" : Str).cps ++ (Txt.mul "0" (n : Int)).cps := rfl
  rw [e, Array.toList_append, zeros, one_cps]
  rfl
theorem tens_val : ∀ (n a : Nat), (List.replicate n 48).foldl (fun acc c => acc * 10 + (c - 48)) a = a * 10 ^ n
  | 0, a => by simp
  | n + 1, a => by
    rw [List.replicate_succ, List.foldl_cons, tens_val n]
    show (a * 10 + 0) * 10 ^ n = a * 10 ^ (n + 1)
    rw [Nat.add_zero, Nat.pow_succ, Nat.mul_assoc, Nat.mul_comm 10]
theorem str_len (x : Str) : x.length = x.cps.toList.length := by
  cases x
  rfl
theorem tenS_len (n : Nat) : (tenS n).length = n + 1 := by
  rw [str_len, tenS_list, List.length_cons, List.length_replicate]
theorem ten_text {n : Nat} (h : n ≤ 600) : PySem.intText? (tenS n) = some ((10 : Int) ^ n) := by
  have e := PySem.intText_digits (x := tenS n) (fun c hc => by
      rw [tenS_list] at hc
      rcases List.mem_cons.mp hc with rfl | hc
      · exact ⟨by decide, by decide⟩
      · have := (List.mem_replicate.mp hc).2
        omega) (by rw [tenS_list]; simp) (by rw [tenS_len]; omega)
  rw [e]
  have z : NumText.digitsVal (tenS n).cps.toList = 10 ^ n := by
    rw [tenS_list]
    unfold NumText.digitsVal
    rw [List.foldl_cons, tens_val]
    simp
  rw [z]
  simp
theorem mulOk0 {n : Nat} (h : n ≤ 600) : MulOk "0" (n : Int) := by
  have l : ("0" : Str).length = 1 := by decide +kernel
  refine ⟨?_, fun h1 h2 => ?_, fun h1 h2 => ?_⟩
  · rw [Bool.or_eq_false_iff]
    exact ⟨decide_eq_false (by omega), decide_eq_false (by omega)⟩
  · rw [l]
    have z := Int.le_ediv_of_mul_le (c := (n : Int)) (a := 1) (b := 2 ^ 63 - 1) (by omega) (by omega)
    omega
  · rw [l, Nat.one_mul, Int.toNat_natCast]
    exact decide_eq_false (by have := sizeLine_eq; omega)
end Own

/-! from V06 -/
namespace Own
theorem ten_pos (n : Nat) : (0 : Int) < (10 : Int) ^ n := Int.pow_pos (by decide)
theorem ten_mono {m n : Nat} (h : m ≤ n) : (10 : Int) ^ m ≤ (10 : Int) ^ n := by
  obtain ⟨k, rfl⟩ := Nat.le.dest h
  rw [Int.pow_add]
  have a := ten_pos m
  have b : (1 : Int) ≤ (10 : Int) ^ k := ten_pos k
  have := Int.mul_le_mul_of_nonneg_left b (Int.le_of_lt a)
  omega
theorem ten_nat (n : Nat) : ((10 : Int) ^ n).natAbs = 10 ^ n := by
  rw [Int.natAbs_pow]
  rfl
theorem ten_lt (n : Nat) : ((10 : Int) ^ n).natAbs < 2 ^ (4 * n + 1) := by
  rw [ten_nat, Nat.pow_succ, Nat.pow_mul]
  have a : 10 ^ n ≤ (2 ^ 4) ^ n := Nat.pow_le_pow_left (by decide) n
  have b : 0 < (2 ^ 4) ^ n := Nat.pow_pos (by decide)
  omega
theorem lt_two {i j : Int} {k : Nat} (h0 : 0 ≤ i) (h1 : i ≤ j) (h : j.natAbs < 2 ^ k) : i.natAbs < 2 ^ k := Nat.lt_of_le_of_lt (by omega) h
end Own

/-! from W06 -/
namespace Own
open PySem PySem.Spec PyProof.Rows L2
theorem merge_app : ∀ (kvs acc : List (Key × V)), ((acc ++ kvs).map (·.1)).Nodup → mergeK acc kvs = acc ++ kvs
  | [], acc, _ => by simp [mergeK]
  | p :: r, acc, h => by
    have hn : valV acc p.1 = none := by
      cases e : valV acc p.1 with
      | none => rfl
      | some v =>
        have m := valV_in e
        rw [List.map_append, List.nodup_append] at h
        exact absurd rfl (h.2.2 p.1 m p.1 (by simp))
    have z := merge_app r (acc ++ [p]) (by
      rw [List.append_assoc]
      exact h)
    show mergeK (putK acc p.1 p.2) r = acc ++ p :: r
    rw [putK_new _ hn, z, List.append_assoc]
    rfl
theorem merge_new {kvs : List (Key × V)} (h : (kvs.map (·.1)).Nodup) : mergeK [] kvs = kvs := merge_app kvs [] h
/-- a dict of texts -/
def txK (l : List (Str × V)) : List (Key × V) := l.map fun p => (Sum.inr p.1, p.2)
theorem txK_val : ∀ (l : List (Str × V)) (z : Str), valV (txK l) (Sum.inr z : Key) = l.lookup z
  | [], z => rfl
  | p :: r, z => by
    obtain ⟨a, v⟩ := p
    by_cases h : a = z
    · subst h
      rw [show txK ((a, v) :: r) = (Sum.inr a, v) :: txK r from rfl, valV_pos rfl]
      simp [List.lookup]
    · rw [show txK ((a, v) :: r) = (Sum.inr a, v) :: txK r from rfl, valV_neg (fun e => h (Sum.inr.inj e)), txK_val r z]
      have hb : (z == a) = false := by simpa using fun e : z = a => h e.symm
      simp [List.lookup, hb]
theorem DGet.tx {H : Hp} {a : Addr} {l : List (Str × V)} (z : Str) (e : H a = some (.dK (txK l))) : DGet H a (.str z) (l.lookup z) := by
  have q := DGet.k (k := (Sum.inr z : Key)) e
  rw [txK_val] at q
  exact q
end Own

/-! from Y06 -/
namespace Own
open PySem PySem.Spec PyProof.Rows L2
/-- a flat value's datum -/
def datV : V → PyData
  | .bl b => .bool b
  | .int i => .int i
  | .str z => .str z
  | _ => .none
def okF : V → Bool
  | .non => true
  | .bl _ => true
  | .int _ => true
  | .str z => PyData.strOk z
  | _ => false
/-- a value handed in that is equal to itself -/
inductive Odd (H : Hp) : V → Prop where
  | flat {x : V} (h : okF x = true) : Odd H x
  | lst {a : Addr} {xs : List V} (e : H a = some (.lst xs)) (f : xs.all okF = true) : Odd H (.ref a)
  | tup {a : Addr} {xs : List V} (e : H a = some (.tup xs)) (f : xs.all okF = true) : Odd H (.ref a)
  | dct {a : Addr} {kvs : List (Key × V)} (e : H a = some (.dK kvs)) (n : (kvs.map (·.1)).Nodup) (f : ∀ p ∈ kvs, flatB p.2 = true) : Odd H (.ref a)
theorem Odd.same {H H' : Hp} {x : V} (h : Odd H x) (s : Same H H') : Odd H' x := by
  cases h with
  | flat h => exact .flat h
  | lst e f => exact .lst (s _ _ e) f
  | tup e f => exact .tup (s _ _ e) f
  | dct e n f => exact .dct (s _ _ e) n f
theorem Odd.thing {H : Hp} {x : V} (h : Odd H x) : Thing H x := by
  cases h with
  | flat h =>
    cases x <;> first | exact .non | exact .bl _ | exact .int _ | exact .str _ | (simp [okF] at h)
  | lst e f => exact .lst e
  | tup e f => exact .tup e
  | dct e n f => exact .dct e
theorem dp_flat {K : PySem.W.Frag} {H : Hp} {x : V} (h : okF x = true) : Dp K H x (datV x) ∧ (datV x).canLay0 = true ∧ (datV x).depth = 0 := by
  cases x <;> first
    | exact ⟨.non, by simp [datV, PyData.canLay0], by simp [datV, PyData.depth]⟩
    | exact ⟨.bl _, by simp [datV, PyData.canLay0], by simp [datV, PyData.depth]⟩
    | exact ⟨.int _, by simp [datV, PyData.canLay0], by simp [datV, PyData.depth]⟩
    | exact ⟨.str _, by simpa [datV, PyData.canLay0, okF] using h, by simp [datV, PyData.depth]⟩
    | (simp [okF] at h)
theorem dp_flats {K : PySem.W.Frag} {H : Hp} : ∀ {xs : List V}, xs.all okF = true → DpAll K H xs (xs.map datV) ∧ PyData.canLayAll0 (xs.map datV) = true ∧ PyData.depthAll (xs.map datV) = 0
  | [], _ => ⟨.nil, by simp [PyData.canLayAll0], by simp [PyData.depthAll]⟩
  | x :: r, h => by
    rw [List.all_cons, Bool.and_eq_true] at h
    obtain ⟨a1, a2, a3⟩ := dp_flat (K := K) (H := H) h.1
    obtain ⟨b1, b2, b3⟩ := dp_flats (K := K) (H := H) h.2
    exact ⟨.cons a1 b1, by simp [PyData.canLayAll0, a2, b2], by simp [PyData.depthAll, a3, b3]⟩
/-- x == x of such a value: the three rules -/
theorem op_eqOdd {X : Cx} (hu : X.A.units + 64 < cLine) : OpR X (compareOp .Eq) (fun x y H Q => (∃ a b : Int, x = .int a ∧ y = .int b ∧ Q (.bl (decide (a = b))) H) ∨ (Odd H x ∧ y = x ∧ Q (.bl true) H)) := by
  intro pins s σ H x y v u Q I rx ry h
  rcases h with ⟨a, b, rfl, rfl, q⟩ | ⟨od, rfl, q⟩
  · refine op_eq pins s σ H _ _ v u Q I rx ry ⟨rfl, ?_⟩
    have e : decide (V.int a = V.int b) = decide (a = b) := by simp
    rw [e]
    exact q
  · cases od with
    | flat h =>
      obtain ⟨a1, a2, a3⟩ := dp_flat (K := X.K) (H := H) h
      have sh : SeqAt.shaped (datV y) = true := by
        unfold SeqAt.shaped
        rw [a2, a3]
        rfl
      refine op_eqD hu pins s σ H _ _ v u Q I rx ry ⟨_, _, a1, a1, sh, sh, ?_⟩
      rw [SeqAt.eqv_refl _ (SeqAt.canLay_of_shaped sh)]
      exact q
    | @lst a xs e f =>
      obtain ⟨a1, a2, a3⟩ := dp_flats (K := X.K) (H := H) f
      have sh : SeqAt.shaped (.list (xs.map datV)) = true := by
        unfold SeqAt.shaped
        simp [PyData.canLay0, PyData.depth, a2, a3]
      have d : Dp X.K H (.ref a) (.list (xs.map datV)) := .lst (SqL.of e) a1
      refine op_eqD hu pins s σ H _ _ v u Q I rx ry ⟨_, _, d, d, sh, sh, ?_⟩
      rw [SeqAt.eqv_refl _ (SeqAt.canLay_of_shaped sh)]
      exact q
    | @tup a xs e f =>
      obtain ⟨a1, a2, a3⟩ := dp_flats (K := X.K) (H := H) f
      have sh : SeqAt.shaped (.tuple (xs.map datV)) = true := by
        unfold SeqAt.shaped
        simp [PyData.canLay0, PyData.depth, a2, a3]
      have d : Dp X.K H (.ref a) (.tuple (xs.map datV)) := .tup (SqT.of e) a1
      refine op_eqD hu pins s σ H _ _ v u Q I rx ry ⟨_, _, d, d, sh, sh, ?_⟩
      rw [SeqAt.eqv_refl _ (SeqAt.canLay_of_shaped sh)]
      exact q
    | @dct a kvs e n f => exact op_eq_dict (by omega) pins s σ H _ _ v u Q I rx ry ⟨a, a, kvs, rfl, rfl, e, e, n, f, q⟩
end Own

/-! from AA06 -/
namespace Own
open PySem PySem.Spec PyProof.Rows L2 LamX NdefX
section
variable {X : Cx} {cl : List (Str × Addr)} {fr : List Str} {ws : List (Option V)}
/-- as pe_deed, what it may let out told by the slots -/
theorem pe_deedS {CX : CXT} {k i : Nat} {f : Addr} {F : NF} {b : Expr} {sp : List (Option V) → Hp → VK → XK → Prop} {E : L2.St → XK} {a : Str} {p1 p2 : Pos} (C : CellsAt F.cl fr ws X.s_0.heap X.H_0) (hex : X.ex = []) (G : LOk X.prog X.w X.K X.mg X.base CX k f F b fr sp) (hr : Room k X.A)
    (hx : ∀ σ, PassesAt CX X σ (E σ)) (hN : X.N[i]? = some a) (hv : Vis X.env.scope a) (hd : (a == ("__debug__" : Str)) = false := by decide) (hcd : (a == ("__classdict__" : Str)) = false := by decide) :
    PE X (.Call (.Name a p1) [] [] p2) (fun σ H Q => σ[i]? = some (some (.ref f)) ∧ LamAt H f F b ∧ H F.c = some (CodeO F.c F.qual) ∧ sp ws H Q (E σ)) := by
  constructor
  intro pins s σ H Q I h
  obtain ⟨hs, hf, hc, q⟩ := h
  refine wpAny_Call_Name_kw (thn ((pe_var (pos := p1) hN hv hd hcd).run pins s σ H (fun v H1 => v = .ref f ∧ H1 = H) I ⟨.ref f, hs, rfl, rfl⟩) ?_)
  rintro u s1 ⟨v, H1, I1, r1, rfl, rfl⟩
  obtain rfl : u = Value.ref f := r1
  obtain ⟨dV, doc, pm, ctv, ho, _⟩ := lamO_at I1.hok hf
  refine PySem.W.callWith_F0 ⟨_, _, _, _, ho⟩ ?_
  have C' := cells_still C (fun _ => .inl (by rw [hex]; simp)) I1
  refine wpAny_call (codeAny_mono (G.run _ _ _ _ _ _ _ hr I1.env0 hf hc C' q) fun r s' z => ?_)
  rcases r with e | fl
  · exact hx σ pins _ _ e s' I1 z
  · cases fl
    case ret u => exact I1.after z
    all_goals exact False.elim z
end
end Own

/-! from CC06 -/
namespace Own
open PySem PySem.Spec PyProof.Rows L2 LamX NdefX
/-- at q stands the pair of a lambda and v -/
def RowAt (H : Hp) (nf : Addr → NF) (b : Expr) (v : V) (q : Addr) : Prop := ∃ f c' : Addr, H q = some (.tup [.ref f, v]) ∧ LamAt H f (nf c') b ∧ H (nf c').c = some (CodeO (nf c').c (nf c').qual)
section
variable {H H' : Hp} {nf : Addr → NF} {b : Expr} {v x : V} {q r : Addr} {l : List V} {o : HO}
theorem RowAt.ext (h : RowAt H nf b v q) (e : ExtN H H') : RowAt H' nf b v q := by
  obtain ⟨f, c', h1, h2, h3⟩ := h
  exact ⟨f, c', e _ _ h1 (fun ps z => by cases z), h2.ext e, e _ _ h3 codeO_ne⟩
theorem LamAt.put {f : Addr} {F : NF} (h : LamAt H f F b) (hr : H r = some (.lst l)) : LamAt (upd H r o) f F b := by
  obtain ⟨dV, h1, h2⟩ := h
  have a : f ≠ r := ne_of h1 hr (by unfold LamO; intro z; cases z)
  refine ⟨dV, (upd_ne a).trans h1, ?_⟩
  rcases h2 with z | ⟨n, T, z, q⟩
  · exact .inl z
  · have a : T ≠ r := ne_of q hr (by intro z; cases z)
    exact .inr ⟨n, T, z, (upd_ne a).trans q⟩
theorem RowAt.put (h : RowAt H nf b v q) (hr : H r = some (.lst l)) : RowAt (upd H r o) nf b v q := by
  obtain ⟨f, c', h1, h2, h3⟩ := h
  have a : q ≠ r := ne_of h1 hr (by intro z; cases z)
  have c : (nf c').c ≠ r := ne_of h3 hr (by unfold CodeO; intro z; cases z)
  exact ⟨f, c', (upd_ne a).trans h1, h2.put hr, (upd_ne c).trans h3⟩
theorem Odd.ext (h : Odd H x) (e : ExtN H H') : Odd H' x := by
  cases h with
  | flat h => exact .flat h
  | lst e' f => exact .lst (e _ _ e' (fun ps z => by cases z)) f
  | tup e' f => exact .tup (e _ _ e' (fun ps z => by cases z)) f
  | dct e' n f => exact .dct (e _ _ e' (fun ps z => by cases z)) n f
theorem Odd.off (h : Odd H x) (n : H r = none) : x ≠ .ref r := by
  cases h with
  | flat h => intro z; rw [z] at h; cases h
  | lst e f => intro z; rw [V.ref.inj z, n] at e; cases e
  | tup e f => intro z; rw [V.ref.inj z, n] at e; cases e
  | dct e n' f => intro z; rw [V.ref.inj z, n] at e; cases e
theorem Odd.put (h : Odd H x) (n : x ≠ .ref r) : Odd (upd H r o) x := by
  cases h with
  | flat h => exact .flat h
  | lst e f => exact .lst ((upd_ne (fun z => n (by rw [z]))).trans e) f
  | tup e f => exact .tup ((upd_ne (fun z => n (by rw [z]))).trans e) f
  | dct e n' f => exact .dct ((upd_ne (fun z => n (by rw [z]))).trans e) n' f
theorem tabs_put {T : List (Addr × Str)} (h : Tabs T H) (hr : H r = some (.lst l)) : Tabs T (upd H r o) := fun p hp => by
  obtain ⟨ps, h1, h2, h3⟩ := h p hp
  have a : p.1 ≠ r := ne_of h1 hr (by intro z; cases z)
  refine ⟨ps, (upd_ne a).trans h1, h2, fun pos cv hc => ?_⟩
  obtain ⟨c, e1, e2⟩ := h3 pos cv hc
  have b : c ≠ r := ne_of e2 hr (by unfold CodeO; intro z; cases z)
  exact ⟨c, e1, (upd_ne b).trans e2⟩
theorem extN_new (h : H r = none) : ExtN H (upd H r o) := ExtN.of fun b u e => (upd_ne (ne_of_none e h)).trans e
theorem ExtN.same (s : Same H H') : ExtN H H' := ExtN.of s
end
theorem Pen_odd {d : Addr} {B : Int} (h : Pen H d B) (o : Odd H x) : x ≠ .ref d := by
  obtain ⟨p, ns, c, l, e, _⟩ := h.ex
  intro z
  rw [z] at o
  cases o with
  | flat h => cases h
  | lst e' f => rw [e] at e'; cases e'
  | tup e' f => rw [e] at e'; cases e'
  | dct e' n f =>
    rw [e] at e'
    cases e'
    have := f _ (List.mem_cons_self ..)
    cases this
theorem Odd.keep {d : Addr} (h : Odd H x) (n : x ≠ .ref d) (k : Keep d H H') : Odd H' x := by
  cases h with
  | flat h => exact .flat h
  | lst e f => exact .lst (k _ _ (fun z => n (by rw [z])) e) f
  | tup e f => exact .tup (k _ _ (fun z => n (by rw [z])) e) f
  | dct e n' f => exact .dct (k _ _ (fun z => n (by rw [z])) e) n' f
theorem tabs_keep {T : List (Addr × Str)} {d : Addr} {B : Int} (h : Tabs T H) (hp : Pen H d B) (k : Keep d H H') : Tabs T H' := fun p hq => by
  obtain ⟨pp, ns, cc, ll, ed, _⟩ := hp.ex
  obtain ⟨ps, h1, h2, h3⟩ := h p hq
  have a : p.1 ≠ d := ne_of h1 ed (by intro z; cases z)
  refine ⟨ps, k _ _ a h1, h2, fun pos cv hc => ?_⟩
  obtain ⟨c, e1, e2⟩ := h3 pos cv hc
  have b : c ≠ d := ne_of e2 ed (by unfold CodeO; intro z; cases z)
  exact ⟨c, e1, k _ _ b e2⟩
/-- a list at r of pairs of a lambda and a value; x, y: two odd values -/
structure Bag {ι : Type} (nf : ι → Addr → NF) (bf : ι → Expr) (H : Hp) (r : Addr) (R : List (ι × V × Addr)) (x y : V) : Prop where
  l : H r = some (.lst (R.map fun p => .ref p.2.2))
  rows : ∀ p ∈ R, RowAt H (nf p.1) (bf p.1) p.2.1 p.2.2
  ox : Odd H x
  oy : Odd H y
  xr : x ≠ .ref r
  yr : y ≠ .ref r
theorem Bag.ext {ι : Type} {nf : ι → Addr → NF} {bf : ι → Expr} {R : List (ι × V × Addr)} {y : V} (h : Bag nf bf H r R x y) (e : ExtN H H') : Bag nf bf H' r R x y :=
  ⟨e _ _ h.l (fun ps z => by cases z), fun p hp => (h.rows p hp).ext e, h.ox.ext e, h.oy.ext e, h.xr, h.yr⟩
theorem Bag.set {ι : Type} {nf : ι → Addr → NF} {bf : ι → Expr} {R : List (ι × V × Addr)} {y : V} {D : Addr} {zs : List V} (h : Bag nf bf H r R x y) (hD : H D = some (.lst zs)) (n : D ≠ r) (nx : x ≠ .ref D) (ny : y ≠ .ref D) : Bag nf bf (upd H D o) r R x y :=
  ⟨(upd_ne n.symm).trans h.l, fun p hp => (h.rows p hp).put hD, h.ox.put nx, h.oy.put ny, h.xr, h.yr⟩
theorem Bag.add {ι : Type} {nf : ι → Addr → NF} {bf : ι → Expr} {R : List (ι × V × Addr)} {y v : V} {H1 : Hp} {i : ι} {f c' q : Addr} (h : Bag nf bf H r R x y) (e : ExtN H H1) (a : LamAt H1 f (nf i c') (bf i)) (c : H1 (nf i c').c = some (CodeO (nf i c').c (nf i c').qual)) (nq : H1 q = none) :
    upd H1 q (.tup [.ref f, v]) r = some (.lst (R.map fun p => .ref p.2.2)) ∧ Bag nf bf (upd (upd H1 q (.tup [.ref f, v])) r (.lst (R.map (fun p => .ref p.2.2) ++ [.ref q]))) r (R ++ [(i, v, q)]) x y := by
  have g := (h.ext e).ext (extN_new (o := .tup [.ref f, v]) nq)
  have e2 := extN_new (o := HO.tup [.ref f, v]) nq
  refine ⟨g.l, by rw [upd_same, List.map_append]; rfl, fun p hp => ?_, g.ox.put g.xr, g.oy.put g.yr, g.xr, g.yr⟩
  rcases List.mem_append.mp hp with hp | hp
  · exact (g.rows p hp).put g.l
  · rw [List.mem_singleton.mp hp]
    exact RowAt.put ⟨f, c', upd_same, a.ext e2, e2 _ _ c codeO_ne⟩ g.l
/-- a def of the text and its code object -/
structure AtC (K : PySem.W.Frag) (mg : Str → Option Value) (x : Str) (st : Stmt) (ps : List Str) (c : Addr) : Prop where
  ex : ∃ (f : Addr) (oc : Value) (od : Option Addr) (kV doc pm : Value) (an : Option Addr) (ct : Value) (osl : Array (Option Value)), K.lookup f = some ⟨oc, od, .func (PySem.W.fnOf x x (defArgs st) (defBody st) (defScope st) .none kV doc pm an (.ref c) ct), osl⟩ ∧ PySem.W.codeIn K (.ref c) x = true ∧
    mg x = some (.ref f) ∧ PySem.W.keepIn K (.ref f) = true ∧ Binds K (PySem.W.fnOf x x (defArgs st) (defBody st) (defScope st) .none kV doc pm an (.ref c) ct) ps []
end Own

namespace Own
open PySem PySem.Spec PyProof.Rows L2 LamX NdefX
theorem log2_lt {n k : Nat} (h : n < 2 ^ k) (hk : 0 < k) : n.log2 < k := by
  by_cases h0 : n = 0
  · subst h0
    simpa using hk
  · exact (Nat.log2_lt h0).mpr h
theorem dm_ok {n d : Int} (h0 : 0 < d) (h : d.natAbs < 2 ^ 1000) : CDivP n d := by
  refine ⟨h0, ?_⟩
  have a := log2_lt h (by decide)
  unfold Builtin.divisionGoesByPylong
  have e : ¬ (d == 0) = true := by simp; omega
  have z : ¬ (d.natAbs.log2 / 30 + 1 > 300) := by omega
  simp only [e, Bool.false_eq_true, if_false]
  rw [decide_eq_false z]
  rfl
theorem up_two {n a b : Nat} (h : n < 2 ^ a) (l : a ≤ b) : n < 2 ^ b := Nat.lt_of_lt_of_le h (Nat.pow_le_pow_right (by decide) l)
theorem add_lt {i j : Int} {a : Nat} (hi : i.natAbs < 2 ^ a) (hj : j.natAbs < 2 ^ a) : (i + j).natAbs < 2 ^ (a + 1) := by
  rw [Nat.pow_succ]
  omega
end Own

namespace Own
open PySem PySem.Spec PyProof.Rows L2 LamX NdefX
/-- what the law leans on of an error's class -/
def oexB (K : PySem.W.Frag) (C : Addr) : Bool := (match K.lookup C with
  | some ⟨.type t, _, .cls cd, sl⟩ => decide (t = "type") && (cd.hasDict && (!cd.hasDel && ((match cd.mro with
    | .ref D :: bm => decide (D = C) && PySem.HandSPX.refsVE bm
    | _ => false) && (match sl.toList with
    | [_, _, _, _, some (.builtin n), _] => decide (n = "ValueError.__new__")
    | _ => false))))
  | _ => false) && (decide (PySem.W.findIn K (.ref C) "__setattr__" = some (some (.builtin "object.__setattr__"))) && (decide (PySem.W.subIn K (.ref C) (.type "BaseException") = some true) && (decide (PySem.W.typeIn K (.ref C) = some (.type "type")) && PySem.W.keepIn K (.ref C))))
theorem oexB_ok {K : PySem.W.Frag} {C : Addr} (h : oexB K C = true) : OexC K C := by
  obtain ⟨h0, h⟩ := He.ba h
  obtain ⟨h1, h⟩ := He.ba h
  obtain ⟨h2, h⟩ := He.ba h
  obtain ⟨h3, h4⟩ := He.ba h
  refine ⟨?_, of_decide_eq_true h1, of_decide_eq_true h2, of_decide_eq_true h3, h4⟩
  cases q : K.lookup C with
  | none => rw [q] at h0; cases h0
  | some o =>
    rw [q] at h0
    obtain ⟨oc, od, dt, ⟨sl⟩⟩ := o
    cases oc with
    | type t =>
      cases dt with
      | cls cd =>
        obtain ⟨nm, bs, mro, ns, qn, hd, sn, sub, ab, col, del⟩ := cd
        obtain ⟨a1, a⟩ := He.ba h0
        obtain ⟨a2, a⟩ := He.ba a
        obtain ⟨a3, a⟩ := He.ba a
        obtain ⟨a4, a5⟩ := He.ba a
        have e1 : t = "type" := of_decide_eq_true a1
        have e2 : hd = true := a2
        have e3 : del = false := by
          have z : (!del) = true := a3
          simpa using z
        subst e1 e2 e3
        cases mro with
        | nil => cases a4
        | cons m bm =>
          cases m with
          | ref D =>
            obtain ⟨b1, b2⟩ := He.ba (show (decide (D = C) && PySem.HandSPX.refsVE bm) = true from a4)
            have e4 : D = C := of_decide_eq_true b1
            subst e4
            match sl, a5 with
            | [k0, k1, k2, k3, some (.builtin n), k5], z =>
              have e5 : n = "ValueError.__new__" := of_decide_eq_true z
              subst e5
              exact ⟨_, _, _, _, _, _, _, _, _, _, _, _, _, _, _, rfl, b2⟩
          | _ => cases a4
      | _ => cases h0
    | _ => cases dt <;> cases h0
def isTup (K : PySem.W.Frag) (a : Addr) : Bool := match K.lookup a with
  | some ⟨.type c, _, _, _⟩ => decide (c = "tuple")
  | _ => false
theorem isTup_ok {K : PySem.W.Frag} {a : Addr} (h : isTup K a = true) : ∃ o : Obj, K.lookup a = some o ∧ o.cls = .type "tuple" := by
  unfold isTup at h
  cases q : K.lookup a with
  | none => rw [q] at h; cases h
  | some o =>
    rw [q] at h
    obtain ⟨oc, od, dt, sl⟩ := o
    cases oc with
    | type c => exact ⟨_, rfl, congrArg Value.type (of_decide_eq_true h)⟩
    | _ => cases h
section
variable {P : Program} {w : World} {K : PySem.W.Frag} {mg : Str → Option Value} {h : Heap}
theorem fun_of {x qual : Str} {st : Stmt} {f : Addr} {fd : FuncData} (F : FunD K x qual (defArgs st) (defBody st) (defScope st) [] [] f fd) : Fun K x qual st f fd := by
  obtain ⟨oc, od, dV, kV, doc, pm, an, cdv, ct, osl, rfl, lk, hcd, hD, _⟩ := F.ex
  rcases hD with ⟨_, rfl⟩ | ⟨n, _⟩
  · exact ⟨⟨oc, od, kV, doc, pm, an, cdv, ct, osl, rfl, lk, hcd⟩, F.kp⟩
  · exact absurd rfl n
theorem at_of {x : Str} {st : Stmt} {ps : List Str} {f : Addr} {fd : FuncData} (F : FunD K x x (defArgs st) (defBody st) (defScope st) [] [] f fd) (g : mg x = some (.ref f))
    (b : ∀ (kV doc pm : Value) (an : Option Addr) (cdv ct : Value) (us : List Value), us.length = ps.length → bindArgs (PySem.W.fnOf x x (defArgs st) (defBody st) (defScope st) .none kV doc pm an cdv ct) ⟨us, []⟩ = pure (ps.zip us)) : At K mg x st ps :=
  ⟨f, fd, fun_of F, g, (fun_of F).binds b⟩
end
end Own
namespace Own
/-- built-in names that no module takes -/
structure Blt (mg : PySem.Str → Option PySem.Value) : Prop where
  isi : mg "isinstance" = none
  int : mg "int" = none
  bool : mg "bool" = none
  len : mg "len" = none
  list : mg "list" = none
  range : mg "range" = none
  tuple : mg "tuple" = none
  all : mg "all" = none
  dm : mg "divmod" = none
  min : mg "min" = none
  max : mg "max" = none
  str : mg "str" = none
  abs : mg "abs" = none
  dict : mg "dict" = none
  any : mg "any" = none
end Own

/-! own layer, of no law: OWN11: an own error with its own __init__, made by a call and held as a value. -/
namespace Own
open PySem PySem.Spec PyProof.Rows L2 LamX NdefX
/-- X(e, ..): the new error is the value -/
def tOexV (C : Addr) (sp : Sp) (dvs : List V) (ta : TA) : TE := fun σ H Q => ta σ H fun vs H1 => vs.length ≤ 1000 ∧ ∀ a, H1 a = none → sp (V.ref a :: (vs ++ dvs)) (upd H1 a (exo a C none)) (fun z H2 => z = .non ∧ Q (.ref a) H2) (fun _ _ _ => False)
theorem pe_oexV {X : Cx} {CX : CXT} {x : Str} {e : Expr} {es : List Expr} {ta : TA} {p pos : Pos} {C fI : Addr} {k : Nat} {fd : FuncData} {ps : List Str} {sp : Sp} {ds : List Value} {dvs : List V} (T : OexC X.K C) (iC : PySem.W.findIn X.K (.ref C) "__init__" = some (some (.ref fI))) (tI : PySem.W.typeIn X.K (.ref fI) = some (.type "function"))
    (F1 : FnOk X.prog X.w X.K X.mg X.base CX k fI fd ps sp) (hr : Room (k + 1) X.A) (hb : Binds X.K fd ps ds) (hd : Vals dvs ds) (hx : Passes CX X (fun _ _ _ => False)) (hg : Gl X x) (hm : X.mg x = some (.ref C)) (ha : PA X (e :: es) ta)
    (hdb : (x == ("__debug__" : Str)) = false := by decide) (he : starEach (e :: es) X.env = (false, eval e X.env) :: starEach es X.env := by rfl) (hpl : (backTo pos (starEach es X.env)).any (·.1) = false := by rfl) :
    PE X (.Call (.Name x p) (e :: es) [] pos) (tOexV C sp dvs ta) := by
  constructor
  intro pins s σ H Q I h
  obtain ⟨nm, q, N, bs, bm, sn, sub, ab, col, dd, k0, k1, k2, k3, k5, hC, hbm⟩ := T.cls
  refine wpAny_Call_Name_kw (ld_glob I hg hm ?_ hdb)
  refine PySem.W.callWith_K (h₀ := X.base) I.ok.mod.kin T.kC (thn (ha.run pos pins s σ H _ I h) fun us s1 ⟨vs, H1, I1, r1, hz, q1⟩ => ⟨I1.kIn, ?_⟩) he hpl
  show wpAny _ _ (call (.ref C) us) _ _ _
  obtain ⟨hp, g, dr, tk, os⟩ := s1
  have hsz : hp.objs.size ≤ hp.objs.size + 1 := Nat.le_succ _
  have hn : H1 (hp.objs.size + 1) = none := I1.hok.fresh hsz
  have hq := q1 (hp.objs.size + 1) hn
  have kk : ∀ b o, hp.get? b = some o → ((hp.push (PySem.W.kdv_tup us)).push (PySem.HandSPX.excO C hp.objs.size)).get? b = some o := fun b o e => Heap.get?_push_of_some _ (Heap.get?_push_of_some _ e)
  have hget : ((hp.push (PySem.W.kdv_tup us)).push (PySem.HandSPX.excO C hp.objs.size)).get? (hp.objs.size + 1) = some (PySem.HandSPX.excO C hp.objs.size) := by heap_get
  have I2 : Inv X pins σ (upd H1 (hp.objs.size + 1) (exo (hp.objs.size + 1) C none)) ⟨(hp.push (PySem.W.kdv_tup us)).push (PySem.HandSPX.excO C hp.objs.size), g, dr, tk, os⟩ :=
    I1.laid (t' := tk) (a := hp.objs.size + 1) (o := exo (hp.objs.size + 1) C none) (h' := (hp.push (PySem.W.kdv_tup us)).push (PySem.HandSPX.excO C hp.objs.size)) kk hsz (exo_ok hget)
  have r2 : Vals (V.ref (hp.objs.size + 1) :: (vs ++ dvs)) (Value.ref (hp.objs.size + 1) :: (us ++ ds)) := .cons rfl (r1.append hd)
  have hl : (Value.ref (hp.objs.size + 1) :: us ++ ds).length = ps.length := by
    have e := r2.length
    rw [F1.len _ _ _ _ hq] at e
    exact e.symm
  have hus : us.length ≤ sizeLine := by
    rw [← Paired.length r1, sizeLine_eq]
    omega
  refine wpAny_call (PySem.HandSPX.call_own F.excBase_ValueError (fun Y => PySem.HandSPX.refsVE_contains Y bm hbm) (I1.kIn _ _ hC) (PySem.W.looks_findIn I1.kIn iC) (fun self => PySem.W.bind_fn I1.kIn self tI) hus
    (codeAny_mono (F1.run _ X.stack _ _ ⟨Value.ref (hp.objs.size + 1) :: us, []⟩ (Value.ref (hp.objs.size + 1) :: (us ++ ds)) _ _ (fun _ _ _ => False) (hr.make C us []) (I2.env0.make C us []) (hb _ (Value.ref (hp.objs.size + 1) :: us) I2.kIn hl) r2 hq) fun r s' hq' => ?_))
  cases r with
  | error er => exact hx pins σ _ _ er s' I2 hq'
  | ok fl =>
    cases fl with
    | ret u =>
      obtain ⟨y, H', I', ry, ey, q'⟩ := I2.after hq'
      subst ey
      exact ⟨ry, .ref (hp.objs.size + 1), H', I', rfl, q'⟩
    | next => exact False.elim hq'
    | brk => exact False.elim hq'
    | cont => exact False.elim hq'
/-- e.n, e a held error -/
def tXfV (C : Addr) (n : Str) (te : TE) : TE := fun σ H Q => te σ H fun x H1 => ∃ (a dd : Addr) (fs : List (Str × V)) (v : V), x = .ref a ∧ H1 a = some (exo a C (some dd)) ∧ H1 dd = some (exd dd fs) ∧ fs.lookup n = some v ∧ Q v H1
theorem pe_xfV {X : Cx} {C : Addr} {e : Expr} {te : TE} {pos : Pos} {n : Str} (T : XfC X.K C) (hno : PySem.W.findIn X.K (.ref C) n = some none) (he : PE X e te) (hb : attributeBase e n X.env (eval e X.env) = eval e X.env := by rfl) :
    PE X (.Attribute e n pos) (tXfV C n te) := by
  refine ⟨fun pins s σ H Q I h => ?_⟩
  refine attr_of hb (thn (he.run pins s σ H _ I h) fun u s1 hh => ?_)
  obtain ⟨x, H1, I1, rx, a, dd, fs, v, ex, ea, ed, l, q⟩ := hh
  subst ex
  obtain rfl : u = Value.ref a := rx
  obtain ⟨t1, ha⟩ := exo_at I1.hok ea
  obtain ⟨mA, hns, hr⟩ := exd_at I1.hok ed
  obtain ⟨od, ho, hl⟩ := lookIn_ns hns
  obtain ⟨u, hu, ru⟩ := RelO.some_of (v := v) (o := mA n) (by rw [← l]; exact hr n)
  have J : PySem.W.InstAt s1.heap a _ C (some od) := ⟨ha, rfl, by unfold PySem.W.notCls; rfl, ho⟩
  exact HandSPX.exc_get I1.kIn J T.ga T.gg T.exC (PySem.W.findObj_own T.hdC hno rfl (by rw [hl, hu])) (handed_of ru) ⟨v, H1, I1.tok _, ru, q⟩
end Own

/-! own layer, of no law: OWN12: an own error made by a call with keywords: what the machine does. -/
namespace Own
open PySem PySem.Spec PyProof.Rows PySem.HandSPX
section
variable {M : Model} {A : Around} {E : Value → Shared → Prop} {h : Heap} {g : Array GenState} {d : Drawn} {t : Nat} {os : OsState}
variable {nm q : Str} {C N : Addr} {bs bm bmB : List Value} {hdct : Bool} {sn : List Str} {sub : List Value} {ab : Bool} {col : Option Bool} {dd : Option Addr} {k0 k1 k2 k3 k5 : Option Value} {B newId initId : String}
theorem born_check (F : ExcBaseFacts B newId initId bmB) (hT : ∀ X : String, bm.contains (.type X) = bmB.contains (.type X)) {rest : List Value} {kw : List (Str × Value)} {Q : Unit → Shared → Prop}
    (hC : h.get? C = some (excClassObj nm q C N bs bm hdct sn sub ab col dd k0 k1 k2 k3 k5 newId)) (hq : Q () ⟨h, g, d, t, os⟩) : wpAny M A (checkBuiltinCall newId ⟨.ref C :: rest, kw⟩) Q E ⟨h, g, d, t, os⟩ := by
  have hB : (Value.ref C :: bm).contains (.type B) = true := by rw [List.contains_cons, hT, F.hasB, Bool.or_true]
  have hs := F.noStar
  simp only [checkBuiltinCall, F.newKind, F.newSplit, F.newRow]
  repeat (first | refine wpAny_loadPart_at hC ?_ | (refine wpAny_isSubtype_exc hC ?_; rw [hB]) | refine wpAny_staticBase_exc hC ?_ | refine wpAny_madeBy_exc hC ?_ | simp only [bne_self_eq_false, Bool.false_eq_true, if_false] | wp_step)
  exact hq
end
section
variable {prog : Program} {w : World} {A : Around} {E : Value → Shared → Prop} {R : Result → Shared → Prop} {h : Heap} {g : Array GenState} {d : Drawn} {t : Nat} {os : OsState}
variable {nm q : Str} {C N : Addr} {bs bm bmB : List Value} {hdct : Bool} {sn : List Str} {sub : List Value} {ab : Bool} {col : Option Bool} {dd : Option Addr} {k0 k1 k2 k3 k5 : Option Value} {B newId initId : String}
theorem born_new (F : ExcBaseFacts B newId initId bmB) (hT : ∀ X : String, bm.contains (.type X) = bmB.contains (.type X)) {rest : List Value} {kw : List (Str × Value)}
    (hC : h.get? C = some (excClassObj nm q C N bs bm hdct sn sub ab col dd k0 k1 k2 k3 k5 newId))
    (hq : R (.ok (.ret (.ref (h.objs.size + 1)))) ⟨(h.push (PySem.W.kdv_tup rest)).push (excO C h.objs.size), g, d, t, os⟩) (hr : rest.length ≤ sizeLine) :
    codeAny (model prog w) A (.builtin newId ⟨.ref C :: rest, kw⟩) R ⟨h, g, d, t, os⟩ := by
  have he := F.ends
  have hB : (Value.ref C :: bm).contains (.type B) = true := by rw [List.contains_cons, hT, F.hasB, Bool.or_true]
  have hA : (Value.ref C :: bm).contains (.type "AttributeError") = false := by rw [List.contains_cons, hT, F.noAttr]; rfl
  have hN : (Value.ref C :: bm).contains (.type "NameError") = false := by rw [List.contains_cons, hT, F.noName]; rfl
  refine codeAny_builtinAt F.entry ?_
  unfold Builtin.«BaseException.__new__»
  refine PySem.wpAt_bind ?_
  show PySem.wpAt _ _ _ (stack >>= _) _ _ _
  refine PySem.wpAt_bind (PySem.wpAt_stack fun p below => PySem.wpAt_of_wpAny ?_)
  wp_walk
  refine PySem.wpAt_of_wpAny ?_
  rw [F.owner]
  repeat (first | with_reducible refine wpAny_madeHere_exc F.canon hC ?_ | with_reducible refine wpAny_loadPart_at hC ?_ | (with_reducible refine wpAny_isSubtype_exc hC ?_; first | rw [hB] | rw [hA] | rw [hN]) | wp_step)
  show R _ _
  rw [Heap.size_push]
  exact hq
theorem born_type (F : ExcBaseFacts B newId initId bmB) (hT : ∀ X : String, bm.contains (.type X) = bmB.contains (.type X)) {rest : List Value} {kw : List (Str × Value)} {fI : Addr} {Q : Fin → Shared → Prop}
    (hC : h.get? C = some (excClassObj nm q C N bs bm hdct sn sub ab col dd k0 k1 k2 k3 k5 newId))
    (hi : W.Looks (model prog w) h (typeLookup (.ref C) "__init__") (some (.ref fI))) (hb : ∀ self, W.Looks (model prog w) h (bindSpecial (.ref fI) self) (.ref fI, [self])) (hr : rest.length ≤ sizeLine)
    (hq : codeAny (model prog w) A (.call (.ref fI) ⟨.ref (h.objs.size + 1) :: rest, kw⟩)
      (fun r s' => match r with | .ok (.ret v) => v = .none ∧ Q (.done (.ret (.ref (h.objs.size + 1)))) s' | .ok _ => False | .error e => E e s')
      ⟨(h.push (W.kdv_tup rest)).push (excO C h.objs.size), g, d, t, os⟩) :
    wpAny (model prog w) A (Builtin.«type.__call__» ⟨.ref C :: rest, kw⟩) Q E ⟨h, g, d, t, os⟩ := by
  repeat (first | with_reducible refine wpAny_loadPart_at hC ?_ | with_reducible refine wpAny_madeBy_exc hC ?_ | wp_step)
  refine codeAny_call_builtin_code (Code.quiet_builtin _ F.quiet) (born_check F hT hC ?_)
  refine born_new F hT hC ?_ hr
  show wpAny _ _ _ _ _ _
  have k : ∀ b o, h.get? b = some o → ((h.push (W.kdv_tup rest)).push (excO C h.objs.size)).get? b = some o := fun b o e => Heap.get?_push_of_some _ (Heap.get?_push_of_some _ e)
  have hC₁ := k _ _ hC
  have hget : ((h.push (W.kdv_tup rest)).push (excO C h.objs.size)).get? (h.objs.size + 1) = some (excO C h.objs.size) := by heap_get
  have hcC : (Value.ref C :: bm).contains (.ref C) = true := by simp
  have i1 := hi.keeps k
  have b1 := (hb (.ref (h.objs.size + 1))).keeps k
  unfold isInstance
  repeat (first | with_reducible refine wpAny_loadPart_at hget ?_ | (with_reducible refine wpAny_isSubtype_exc hC₁ ?_; rw [hcC]) | wp_step)
  show wpAny _ _ (typeLookup (.ref C) _) _ _ _
  refine i1.at ?_
  refine wpAny_holding (wpAny_bind (b1.at ?_))
  refine wpAny_bind (wpAny_call (codeAny_mono hq fun r s' z => ?_))
  rcases r with e | (v | _ | _ | _) <;> first | exact z | exact z.elim | skip
  obtain ⟨rfl, z⟩ := z
  first
    | exact wpAny_pure (wpAny_pure z)
    | (wp_walk; exact z)
theorem born_call (F : ExcBaseFacts B newId initId bmB) (hT : ∀ X : String, bm.contains (.type X) = bmB.contains (.type X)) {rest : List Value} {kw : List (Str × Value)} {fI : Addr}
    (hC : h.get? C = some (excClassObj nm q C N bs bm hdct sn sub ab col dd k0 k1 k2 k3 k5 newId))
    (hi : W.Looks (model prog w) h (typeLookup (.ref C) "__init__") (some (.ref fI))) (hb : ∀ self, W.Looks (model prog w) h (bindSpecial (.ref fI) self) (.ref fI, [self])) (hr : rest.length ≤ sizeLine)
    (hq : codeAny (model prog w) (A.under (.builtin "type.__call__" ⟨.ref C :: rest, kw⟩)) (.call (.ref fI) ⟨.ref (h.objs.size + 1) :: rest, kw⟩) (W.InitBack (h.objs.size + 1) R)
      ⟨(h.push (W.kdv_tup rest)).push (excO C h.objs.size), g, d, t, os⟩) :
    codeAny (model prog w) A (.call (.ref C) ⟨rest, kw⟩) R ⟨h, g, d, t, os⟩ := by
  have f1 := tc_lookup
  have f2 := tc_bind (.ref C)
  have hTy : (⟨h, g, d, t, os⟩ : Shared).TypeIs (.ref C) "type" := ⟨_, hC, rfl⟩
  refine codeAny_of_tree ?_
  show wpAny _ _ (callAny (.ref C) _) _ _ _
  repeat (any_goals (first | assumption | with_reducible refine wpAny_loadPart_at hC ?_ | wp_step))
  refine ⟨rfl, ?_⟩
  refine codeAny_call_builtin_at (Code.quiet_builtin _ (by decide +kernel)) entry_typeCall (wpAny_check_type_call_sub hC (born_type F hT hC hi hb hr ?_))
  refine codeAny_mono hq fun r s' z => ?_
  rcases r with e | (v | _ | _ | _) <;> exact z
end
end Own

/-! own layer, of no law: OWN13: an own error made by a call with keywords, held as a value. -/
namespace Own
open PySem PySem.Spec PyProof.Rows L2 LamX NdefX
/-- X(e, .., k = v, ..): the new error is the value -/
def tErrK (C : Addr) (n m : Nat) (sp : Sp) (gV : List V → List V → List V) (t tk : TA) : TE := fun σ H Q => t σ H fun vs H1 => tk σ H1 fun zs H2 => vs.length = n ∧ zs.length = m ∧ vs.length ≤ 1000 ∧
  ∀ a, H2 a = none → sp (gV (.ref a :: vs) zs) (upd H2 a (exo a C none)) (fun z H3 => z = .non ∧ Q (.ref a) H3) (fun _ _ _ => False)
section
variable {X : Cx} {CX : CXT} {k n : Nat} {fI C : Addr} {fd : FuncData} {ps ks : List Str} {sp : Sp} {x : Str} {p pos : Pos} {e : Expr} {es : List Expr} {kws : List Keyword} {t tk : TA} {g : List Value → List Value → List Value} {gV : List V → List V → List V}
theorem run_errK {pins : List (Addr × Obj)} {σ : L2.St} {H : Hp} {s : Shared} {Q : VK} {us ws : List Value} {vs zs : List V} (T : OexC X.K C) (iC : PySem.W.findIn X.K (.ref C) "__init__" = some (some (.ref fI))) (tI : PySem.W.typeIn X.K (.ref fI) = some (.type "function"))
    (F1 : FnOk X.prog X.w X.K X.mg X.base CX k fI fd ps sp) (hr : Room (k + 1) X.A) (hb : KBn X.K fd ps (n + 1) ks g gV) (hx : Passes CX X (fun _ _ _ => False))
    (I1 : Inv X pins σ H s) (r1 : Vals vs us) (rz : Vals zs ws) (l1 : vs.length = n) (l2 : zs.length = ks.length) (hz : vs.length ≤ 1000)
    (q1 : ∀ a, H a = none → sp (gV (.ref a :: vs) zs) (upd H a (exo a C none)) (fun z H3 => z = .non ∧ Q (.ref a) H3) (fun _ _ _ => False)) :
    wpAny (model X.prog X.w) X.A (call (.ref C) us (ks.zip ws)) (EP X pins σ Q) X.xe s := by
  obtain ⟨nm, q, N, bs, bm, sn, sub, ab, col, dd, k0, k1, k2, k3, k5, hC, hbm⟩ := T.cls
  obtain ⟨hp, gg, dr, tk, os⟩ := s
  have hsz : hp.objs.size ≤ hp.objs.size + 1 := Nat.le_succ _
  have hn : H (hp.objs.size + 1) = none := I1.hok.fresh hsz
  have hq := q1 (hp.objs.size + 1) hn
  have kk : ∀ b o, hp.get? b = some o → ((hp.push (PySem.W.kdv_tup us)).push (PySem.HandSPX.excO C hp.objs.size)).get? b = some o := fun b o e => Heap.get?_push_of_some _ (Heap.get?_push_of_some _ e)
  have hget : ((hp.push (PySem.W.kdv_tup us)).push (PySem.HandSPX.excO C hp.objs.size)).get? (hp.objs.size + 1) = some (PySem.HandSPX.excO C hp.objs.size) := by heap_get
  have I2 : Inv X pins σ (upd H (hp.objs.size + 1) (exo (hp.objs.size + 1) C none)) ⟨(hp.push (PySem.W.kdv_tup us)).push (PySem.HandSPX.excO C hp.objs.size), gg, dr, tk, os⟩ :=
    I1.laid (t' := tk) (a := hp.objs.size + 1) (o := exo (hp.objs.size + 1) C none) (h' := (hp.push (PySem.W.kdv_tup us)).push (PySem.HandSPX.excO C hp.objs.size)) kk hsz (exo_ok hget)
  have r3 : Vals (V.ref (hp.objs.size + 1) :: vs) (Value.ref (hp.objs.size + 1) :: us) := .cons rfl r1
  have r2 := hb.rel r3 rz
  have n1 : (Value.ref (hp.objs.size + 1) :: us).length = n + 1 := by
    rw [List.length_cons, ← r1.length, l1]
  have hus : us.length ≤ sizeLine := by
    rw [← Paired.length r1, sizeLine_eq]
    omega
  refine wpAny_call (born_call F.excBase_ValueError (fun Y => PySem.HandSPX.refsVE_contains Y bm hbm) (I1.kIn _ _ hC) (PySem.W.looks_findIn I1.kIn iC) (fun self => PySem.W.bind_fn I1.kIn self tI) hus
    (codeAny_mono (F1.run _ X.stack _ _ ⟨Value.ref (hp.objs.size + 1) :: us, ks.zip ws⟩ (g (Value.ref (hp.objs.size + 1) :: us) ws) _ _ (fun _ _ _ => False) (hr.make C us (ks.zip ws)) (I2.env0.make C us (ks.zip ws)) (hb.to _ (Value.ref (hp.objs.size + 1) :: us) ws I2.kIn n1 (rz.length.symm.trans l2)) r2 hq) fun r s' hq' => ?_))
  cases r with
  | error er => exact hx pins σ _ _ er s' I2 hq'
  | ok fl =>
    cases fl with
    | ret u =>
      obtain ⟨y, H', I', ry, ey, q'⟩ := I2.after hq'
      subst ey
      exact ⟨ry, .ref (hp.objs.size + 1), H', I', rfl, q'⟩
    | next => exact False.elim hq'
    | brk => exact False.elim hq'
    | cont => exact False.elim hq'
theorem pe_errK0 (T : OexC X.K C) (iC : PySem.W.findIn X.K (.ref C) "__init__" = some (some (.ref fI))) (tI : PySem.W.typeIn X.K (.ref fI) = some (.type "function"))
    (F1 : FnOk X.prog X.w X.K X.mg X.base CX k fI fd ps sp) (hr : Room (k + 1) X.A) (hg : Gl X x) (hm : X.mg x = some (.ref C)) (hb : KBn X.K fd ps 1 ks g gV) (hx : Passes CX X (fun _ _ _ => False)) (hkw : PK X kws tk)
    (hall : (backToKw pos (keywordEach kws X.env)).all (·.1.isSome) = true := by rfl) (hks : (backToKw pos (keywordEach kws X.env)).filterMap (·.1) = ks := by rfl) (hdb : (x == ("__debug__" : Str)) = false := by decide)
    (hpl : ((backTo pos (starEach [] X.env)).any (·.1) || (backToKw pos (keywordEach kws X.env)).any (·.1.isNone)) = false := by rfl) :
    PE X (.Call (.Name x p) [] kws pos) (tErrK C 0 ks.length sp gV tNil tk) := by
  refine ⟨fun pins s σ H Q I h => ?_⟩
  refine wpAny_Call_Name_kw (ld_glob I hg hm ?_ hdb)
  refine PySem.W.callWith_KW0 (h₀ := X.base) I.ok.mod.kin T.kC hall ?_ hpl
  refine thn (hkw.run pos pins s σ H _ I h) fun ws s2 ⟨zs, H2, I2, rz, l1, l2, hz, q2⟩ => ⟨I2.kIn, ?_⟩
  rw [hks]
  exact run_errK (us := []) (vs := []) T iC tI F1 hr hb hx I2 .nil rz rfl l2 hz q2
theorem pe_errK (T : OexC X.K C) (iC : PySem.W.findIn X.K (.ref C) "__init__" = some (some (.ref fI))) (tI : PySem.W.typeIn X.K (.ref fI) = some (.type "function"))
    (F1 : FnOk X.prog X.w X.K X.mg X.base CX k fI fd ps sp) (hr : Room (k + 1) X.A) (hg : Gl X x) (hm : X.mg x = some (.ref C)) (hb : KBn X.K fd ps (n + 1) ks g gV) (hx : Passes CX X (fun _ _ _ => False)) (ha : PA X (e :: es) t) (hkw : PK X kws tk)
    (hall : (backToKw pos (keywordEach kws X.env)).all (·.1.isSome) = true := by rfl) (hks : (backToKw pos (keywordEach kws X.env)).filterMap (·.1) = ks := by rfl) (hdb : (x == ("__debug__" : Str)) = false := by decide)
    (he : starEach (e :: es) X.env = (false, eval e X.env) :: starEach es X.env := by rfl) (hpl : ((backTo pos (starEach (e :: es) X.env)).any (·.1) || (backToKw pos (keywordEach kws X.env)).any (·.1.isNone)) = false := by rfl) :
    PE X (.Call (.Name x p) (e :: es) kws pos) (tErrK C n ks.length sp gV t tk) := by
  refine ⟨fun pins s σ H Q I h => ?_⟩
  refine wpAny_Call_Name_kw (ld_glob I hg hm ?_ hdb)
  refine PySem.W.callWith_KW (h₀ := X.base) I.ok.mod.kin T.kC hall (thn (ha.run pos pins s σ H _ I h) fun us s1 ⟨vs, H1, I1, r, q⟩ => ?_) hpl he
  refine thn (hkw.run pos pins s1 σ H1 _ I1 q) fun ws s2 ⟨zs, H2, I2, rz, l1, l2, hz, q2⟩ => ⟨I2.kIn, ?_⟩
  rw [hks]
  exact run_errK T iC tI F1 hr hb hx I2 r rz l1 l2 hz q2
end
end Own

/-! own layer, of no law: OWNX: isinstance of a caught error with a field; a def called with a lambda written there. -/
namespace Own
open PySem PySem.Spec PyProof.Rows L2 LamX NdefX
/-- isinstance(e, c), e the exception with a dict that the suite holds -/
theorem call_isED {X : Cx} {a D : Addr} {oe : Obj} {cls : Value} {d : Option Addr} {pn : List (Addr × Obj)} (C : ExcC X.K D) (hz : Zc cls d oe) (hf : ∃ vs, oe.data = .fields vs) : CallR (X.suite a ((a, oe) :: pn)) (.builtin "isinstance")
    (fun xs H Q => ∃ (c : V) (cv : Value) (b : Bool) (dd : Addr) (fs : List (Str × V)), xs = [.ref a, c] ∧ cls = .ref D ∧ d = some dd ∧ H dd = some (.xd fs) ∧ ClsV c cv ∧ PySem.W.kitOne X.K (.ref D) cv = some b ∧ Q (.bl b) H) := by
  intro pins s σ H xs us Q I r h
  obtain ⟨c, cv, b, dd, fs, rfl, rfl, rfl, ea, hcv, e, q⟩ := h
  obtain ⟨u1, u2, rfl, r1, r2⟩ := vals2 r
  have ec := hcv.eq r2
  subst ec
  cases (show u1 = Value.ref a from r1)
  obtain ⟨hget, _⟩ := I.pin (a, oe) (List.mem_append.mpr (.inl List.mem_cons_self))
  obtain ⟨vs, hv⟩ := hf
  have hx : ObjOk X.prog X.w H s.heap dd (.xd fs) := I.hok dd _ ea
  obtain ⟨mA, hns, hr⟩ := hx
  obtain ⟨od, ho, hl⟩ := lookIn_ns hns
  have J : PySem.W.InstAt s.heap a oe D (some od) := ⟨hget, hz.1, by unfold PySem.W.notCls; rw [hv] <;> rfl, by rw [hz.2]; exact ho⟩
  obtain ⟨cd, hc, _⟩ := PySem.W.any_some C.hd
  exact PySem.W.kia_one (PySem.W.kitx_exc (by rw [hc]; rfl) C.hg C.hk C.hs C.ha C.hn C.ht C.hm) I.kIn J e (fun z => nomatch z) fun tk => ⟨.bl b, H, I.kept (t' := tk) fun _ _ z => z, rfl, q⟩
/-- x(lambda: ..), the lambda without parameters -/
def tLamDir (X : Cx) (T : List (Addr × Str)) (params : Arguments) (body : Expr) (scope : Scope) (js : List Nat) (sp : (Hp → VK → XK → Prop) → List V → Hp → VK → Prop) (spl : List (Option V) → Hp → VK → XK → Prop) : TE :=
  fun σ H Q => tCons (tLamV X T params body scope) tNil σ H fun vs H1 => ∃ f c' : Addr, vs = [.ref f] ∧ LamAt H1 f (lamF X params scope c') body ∧ H1 c' = some (CodeO c' (X.env.qual ++ "<lambda>")) ∧ sp (spl (js.map (slotAt σ))) [] H1 Q
theorem pe_lamdir {X : Cx} {T : List (Addr × Str)} {params : Arguments} {body : Expr} {scope : Scope} {js : List Nat} {fr : List Str} {k kl j : Nat} {sp : (Hp → VK → XK → Prop) → List V → Hp → VK → Prop} {spl : List (Option V) → Hp → VK → XK → Prop} {x : Str} {p pos lpos : Pos}
    (D : LamDefAt X.prog X.w X.K X.mg X.base x k sp) (hkl : kl < k) (hr : Room j X.A) (hj : k ≤ j) (G : ∀ (f c' : Addr), LOk X.prog X.w X.K X.mg X.base (L2.CX X.prog X.w) kl f (lamF X params scope c') body fr spl)
    (hl : PE X (.Lambda params body scope lpos) (tLamV X T params body scope))
    (hfree : ∀ y ∈ scope.names, y.2 = .free → X.env.scope.names.lookup y.1 = some .cell ∨ X.env.scope.names.lookup y.1 = some .free) (hfr : ∀ y ∈ fr, (y, NameKind.free) ∈ scope.names) (hjs : js.map (fun j => X.N[j]?) = fr.map some)
    (hg : Gl X x) (hdb : (x == ("__debug__" : Str)) = false := by decide) (he : starEach [.Lambda params body scope lpos] X.env = (false, eval (.Lambda params body scope lpos) X.env) :: starEach [] X.env := by rfl) (hpl : (backTo pos (starEach [] X.env)).any (·.1) = false := by rfl) :
    PE X (.Call (.Name x p) [.Lambda params body scope lpos] [] pos) (tLamDir X T params body scope js sp spl) := by
  obtain ⟨g, R, gm, kp⟩ := D.ex
  have ha := pa_cons hl pa_nil
  constructor
  intro pins s σ H Q I h
  refine wpAny_Call_Name_kw (ld_glob I hg gm ?_ hdb)
  refine PySem.W.callWith_K (h₀ := X.base) I.ok.mod.kin kp (thn (ha.run pos pins s σ H _ I h) ?_) he hpl
  rintro us s1 ⟨vs, H1, I1, r, f, c', rfl, hf, hc, q⟩
  refine ⟨I1.kIn, wpAny_call (codeAny_mono (R.run X.A X.stack s1 H1 us f [] _ _ _ _ _ kl Q (hr.mono hj) hkl I1.env0 r (G f c') hf hc (cells_blk I1 hfree hfr hjs) q) fun z s' hz => ?_)⟩
  rcases z with er | fl
  · exact (show False from hz).elim
  · cases fl
    case ret u => exact I1.after hz
    all_goals exact False.elim hz
/-- x is flat, or an object -/
def Selfy (x : V) : Prop := flatV x = true ∨ ∃ a, x = .ref a
theorem Odd.selfy {H : Hp} {x : V} (h : Odd H x) : Selfy x := by
  cases h with
  | flat h => exact .inl (by cases x <;> first | rfl | (simp [okF] at h))
  | lst e f => exact .inr ⟨_, rfl⟩
  | tup e f => exact .inr ⟨_, rfl⟩
  | dct e n f => exact .inr ⟨_, rfl⟩
theorem eqV_self {x : V} (h : flatV x = true) : eqV x x = true := by
  cases x <;> first | (cases h; done) | rfl | (simp [eqV]; done)
theorem selfy_at {A : Around} {s : Shared} {x : V} {u v : Value} (h : Selfy x) (ru : RelV x u) (rv : RelV x v) : SeqAt.EqAt A s u v true := by
  rcases h with h | ⟨a, rfl⟩
  · have z := eqAt_V (A := A) (s := s) ru rv h h
    rw [eqV_self h] at z
    exact z
  · cases (show u = Value.ref a from ru)
    cases (show v = Value.ref a from rv)
    exact SeqAt.EqAt.same _
/-- [x] == [x], [x] != [x] -/
def rOne (K : PySem.W.Frag) (b : Bool) : R2 := fun x y H Q => ∃ (l m : Addr) (z : V), x = .ref l ∧ y = .ref m ∧ SqL K H l [z] ∧ SqL K H m [z] ∧ Selfy z ∧ Q (.bl b) H
section
variable {X : Cx}
theorem one_at {pins : List (Addr × Obj)} {σ : L2.St} {H : Hp} {s : Shared} {l m : Addr} {z : V} (I : Inv X pins σ H s) (h1 : SqL X.K H l [z]) (h2 : SqL X.K H m [z]) (hz : Selfy z) : ∃ i1 i2 : Value, s.heap.IsList l #[i1] ∧ s.heap.IsList m #[i2] ∧ ∀ A : Around, SeqAt.EqAt A s i1 i2 true := by
  obtain ⟨its1, r1, l1, _⟩ := I.list h1
  obtain ⟨its2, r2, l2, _⟩ := I.list h2
  obtain ⟨v1, rfl, q1⟩ := r1.one
  obtain ⟨v2, rfl, q2⟩ := r2.one
  exact ⟨v1, v2, l1.isList, l2.isList, fun A => selfy_at hz q1 q2⟩
theorem op_eqOne (hu : X.A.units + 64 < cLine) : OpR X (compareOp .Eq) (rOne X.K true) := by
  intro pins s σ H x y v u Q I rx ry h
  obtain ⟨l, m, z, rfl, rfl, h1, h2, hz, q⟩ := h
  cases (show v = Value.ref l from rx)
  cases (show u = Value.ref m from ry)
  obtain ⟨i1, i2, e1, e2, at_⟩ := one_at I h1 h2 hz
  have := SeqAt.RcAt.lists (A := X.A) (e := fun _ => true) e1 e2 rfl (by omega) (fun j j1 j2 => by
    have a : j = 0 := by have : j < 1 := j1; omega
    subst a
    exact at_ _)
  exact this X.prog X.w _ _ ⟨.bl true, H, I, rfl, q⟩
theorem op_neOne (hu : X.A.units + 64 < cLine) : OpR X (compareOp .NotEq) (rOne X.K false) := by
  intro pins s σ H x y v u Q I rx ry h
  obtain ⟨l, m, z, rfl, rfl, h1, h2, hz, q⟩ := h
  cases (show v = Value.ref l from rx)
  cases (show u = Value.ref m from ry)
  obtain ⟨i1, i2, e1, e2, at_⟩ := one_at I h1 h2 hz
  have := SeqAt.RcNeAt.lists (A := X.A) (e := fun _ => true) e1 e2 rfl (by omega) (fun j j1 j2 => by
    have a : j = 0 := by have : j < 1 := j1; omega
    subst a
    exact at_ _)
  exact this X.prog X.w _ _ ⟨.bl false, H, I, rfl, q⟩
end
end Own

/-! own layer, of no law: OWN14: an own error made without arguments; isinstance of a held error. -/
namespace Own
open PySem PySem.Spec PyProof.Rows L2 LamX NdefX
theorem pe_oexV0 {X : Cx} {CX : CXT} {x : Str} {p pos : Pos} {C fI : Addr} {k : Nat} {fd : FuncData} {ps : List Str} {sp : Sp} {ds : List Value} {dvs : List V} (T : OexC X.K C) (iC : PySem.W.findIn X.K (.ref C) "__init__" = some (some (.ref fI))) (tI : PySem.W.typeIn X.K (.ref fI) = some (.type "function"))
    (F1 : FnOk X.prog X.w X.K X.mg X.base CX k fI fd ps sp) (hr : Room (k + 1) X.A) (hb : Binds X.K fd ps ds) (hd : Vals dvs ds) (hx : Passes CX X (fun _ _ _ => False)) (hg : Gl X x) (hm : X.mg x = some (.ref C))
    (hdb : (x == ("__debug__" : Str)) = false := by decide) :
    PE X (.Call (.Name x p) [] [] pos) (tOexV C sp dvs tNil) := by
  constructor
  intro pins s σ H Q I1 h
  obtain ⟨nm, q, N, bs, bm, sn, sub, ab, col, dd, k0, k1, k2, k3, k5, hC, hbm⟩ := T.cls
  refine wpAny_Call_Name_kw (ld_glob I1 hg hm ?_ hdb)
  refine PySem.W.callWith_K0 I1.kIn T.kC ?_
  show wpAny _ _ (call (.ref C) []) _ _ _
  obtain ⟨_, q1⟩ := h
  obtain ⟨hp, g, dr, tk, os⟩ := s
  have hsz : hp.objs.size ≤ hp.objs.size + 1 := Nat.le_succ _
  have hn : H (hp.objs.size + 1) = none := I1.hok.fresh hsz
  have hq := q1 (hp.objs.size + 1) hn
  have kk : ∀ b o, hp.get? b = some o → ((hp.push (PySem.W.kdv_tup [])).push (PySem.HandSPX.excO C hp.objs.size)).get? b = some o := fun b o e => Heap.get?_push_of_some _ (Heap.get?_push_of_some _ e)
  have hget : ((hp.push (PySem.W.kdv_tup [])).push (PySem.HandSPX.excO C hp.objs.size)).get? (hp.objs.size + 1) = some (PySem.HandSPX.excO C hp.objs.size) := by heap_get
  have I2 : Inv X pins σ (upd H (hp.objs.size + 1) (exo (hp.objs.size + 1) C none)) ⟨(hp.push (PySem.W.kdv_tup [])).push (PySem.HandSPX.excO C hp.objs.size), g, dr, tk, os⟩ :=
    I1.laid (t' := tk) (a := hp.objs.size + 1) (o := exo (hp.objs.size + 1) C none) (h' := (hp.push (PySem.W.kdv_tup [])).push (PySem.HandSPX.excO C hp.objs.size)) kk hsz (exo_ok hget)
  have r2 : Vals (V.ref (hp.objs.size + 1) :: ([] ++ dvs)) ([Value.ref (hp.objs.size + 1)] ++ ds) := .cons rfl hd
  have hl : ([Value.ref (hp.objs.size + 1)] ++ ds).length = ps.length := by
    have e := r2.length
    rw [F1.len _ _ _ _ hq] at e
    exact e.symm
  refine wpAny_call (PySem.HandSPX.call_own F.excBase_ValueError (fun Y => PySem.HandSPX.refsVE_contains Y bm hbm) (I1.kIn _ _ hC) (PySem.W.looks_findIn I1.kIn iC) (fun self => PySem.W.bind_fn I1.kIn self tI) (Nat.zero_le _)
    (codeAny_mono (F1.run _ X.stack _ _ ⟨[Value.ref (hp.objs.size + 1)], []⟩ ([Value.ref (hp.objs.size + 1)] ++ ds) _ _ (fun _ _ _ => False) (hr.make C [] []) (I2.env0.make C [] []) (hb _ [Value.ref (hp.objs.size + 1)] I2.kIn hl) r2 hq) fun r s' hq' => ?_))
  cases r with
  | error er => exact hx pins σ _ _ er s' I2 hq'
  | ok fl =>
    cases fl with
    | ret u =>
      obtain ⟨y, H', I', ry, ey, q'⟩ := I2.after hq'
      subst ey
      exact ⟨ry, .ref (hp.objs.size + 1), H', I', rfl, q'⟩
    | next => exact False.elim hq'
    | brk => exact False.elim hq'
    | cont => exact False.elim hq'
/-- a held error of the class at D -/
def Held (H : Hp) (a D : Addr) : Prop := H a = some (exo a D none) ∨ ∃ (dd : Addr) (fs : List (Str × V)), H a = some (exo a D (some dd)) ∧ H dd = some (exd dd fs)
/-- isinstance(e, c), e a held error -/
theorem call_isHeld {X : Cx} {D : Addr} (C : ExcC X.K D) : CallR X (.builtin "isinstance")
    (fun xs H Q => ∃ (a : Addr) (c : V) (cv : Value) (b : Bool), xs = [.ref a, c] ∧ Held H a D ∧ ClsV c cv ∧ PySem.W.kitOne X.K (.ref D) cv = some b ∧ Q (.bl b) H) := by
  intro pins s σ H xs us Q I r h
  obtain ⟨a, c, cv, b, rfl, hh, hcv, e, q⟩ := h
  obtain ⟨u1, u2, rfl, r1, r2⟩ := vals2 r
  have ec := hcv.eq r2
  subst ec
  cases (show u1 = Value.ref a from r1)
  obtain ⟨cd, hc, _⟩ := PySem.W.any_some C.hd
  rcases hh with ea | ⟨dd, fs, ea, ed⟩
  · obtain ⟨t1, hget⟩ := exo_at I.hok ea
    have J : PySem.W.InstAt s.heap a _ D none := ⟨hget, rfl, by unfold PySem.W.notCls; rfl, trivial⟩
    exact PySem.W.kia_one (PySem.W.kitx_exc (by rw [hc]; rfl) C.hg C.hk C.hs C.ha C.hn C.ht C.hm) I.kIn J e (fun z => nomatch z) fun tk => ⟨.bl b, H, I.kept (t' := tk) fun _ _ z => z, rfl, q⟩
  · obtain ⟨t1, hget⟩ := exo_at I.hok ea
    obtain ⟨mA, hns, hr⟩ := exd_at I.hok ed
    obtain ⟨od, ho, hl⟩ := lookIn_ns hns
    have J : PySem.W.InstAt s.heap a _ D (some od) := ⟨hget, rfl, by unfold PySem.W.notCls; rfl, ho⟩
    exact PySem.W.kia_one (PySem.W.kitx_exc (by rw [hc]; rfl) C.hg C.hk C.hs C.ha C.hn C.ht C.hm) I.kIn J e (fun z => nomatch z) fun tk => ⟨.bl b, H, I.kept (t' := tk) fun _ _ z => z, rfl, q⟩
end Own

/-! own layer, of no law: OWN15: raise X(k = v, ..) of an own error with its own __init__. -/
namespace Own
open PySem PySem.Spec PyProof.Rows L2 LamX NdefX
def tMkK (C : Addr) (m : Nat) (sp : Sp) (gV : List V → List V → List V) (tk : TA) : L2.St → Hp → XK → Prop := fun σ H Q => tk σ H fun zs H1 => zs.length = m ∧ ∀ a, H1 a = none → sp (gV [.ref a] zs) (upd H1 a (exo a C none))
  (fun v H2 => v = .non ∧ ∃ (d : Addr) (fs : List (Str × V)), H2 a = some (exo a C (some d)) ∧ H2 d = some (exd d fs) ∧ H1 d = none ∧ Q (.ref C) (some d) (upd (del H2 a) d (.xd fs))) (fun _ _ _ => False)
theorem pmk_errK0 {X : Cx} {CX : CXT} {k : Nat} {fI C : Addr} {fd : FuncData} {ps ks : List Str} {sp : Sp} {x : Str} {p pos : Pos} {kws : List Keyword} {tk : TA} {g : List Value → List Value → List Value} {gV : List V → List V → List V}
    (T : OexC X.K C) (iC : PySem.W.findIn X.K (.ref C) "__init__" = some (some (.ref fI))) (tI : PySem.W.typeIn X.K (.ref fI) = some (.type "function"))
    (F1 : FnOk X.prog X.w X.K X.mg X.base CX k fI fd ps sp) (hr : Room (k + 1) X.A) (hg : Gl X x) (hm : X.mg x = some (.ref C)) (hb : KBn X.K fd ps 1 ks g gV) (hx : Passes CX X (fun _ _ _ => False)) (hkw : PK X kws tk)
    (hall : (backToKw pos (keywordEach kws X.env)).all (·.1.isSome) = true := by rfl) (hks : (backToKw pos (keywordEach kws X.env)).filterMap (·.1) = ks := by rfl) (hdb : (x == ("__debug__" : Str)) = false := by decide)
    (hpl : ((backTo pos (starEach [] X.env)).any (·.1) || (backToKw pos (keywordEach kws X.env)).any (·.1.isNone)) = false := by rfl) :
    PMk X (.Call (.Name x p) [] kws pos) (tMkK C ks.length sp gV tk) := by
  intro pins s0 σ H0 Q I0 h
  refine wpAny_Call_Name_kw (ld_glob I0 hg hm ?_ hdb)
  refine PySem.W.callWith_KW0 (h₀ := X.base) I0.ok.mod.kin T.kC hall ?_ hpl
  refine thn (hkw.run pos pins s0 σ H0 _ I0 h) fun ws s ⟨zs, H, I1, rz, l2, q1⟩ => ⟨I1.kIn, ?_⟩
  rw [hks]
  show wpAny _ _ (call (.ref C) [] (ks.zip ws)) _ _ _
  obtain ⟨nm, q, N, bs, bm, sn, sub, ab, col, dd, k0, k1, k2, k3, k5, hC, hbm⟩ := T.cls
  obtain ⟨hp, gg, dr, tk, os⟩ := s
  have hsz : hp.objs.size ≤ hp.objs.size + 1 := Nat.le_succ _
  have hn : H (hp.objs.size + 1) = none := I1.hok.fresh hsz
  have hq := q1 (hp.objs.size + 1) hn
  have kk : ∀ b o, hp.get? b = some o → ((hp.push (PySem.W.kdv_tup [])).push (PySem.HandSPX.excO C hp.objs.size)).get? b = some o := fun b o e => Heap.get?_push_of_some _ (Heap.get?_push_of_some _ e)
  have hget : ((hp.push (PySem.W.kdv_tup [])).push (PySem.HandSPX.excO C hp.objs.size)).get? (hp.objs.size + 1) = some (PySem.HandSPX.excO C hp.objs.size) := by heap_get
  have I2 : Inv X pins σ (upd H (hp.objs.size + 1) (exo (hp.objs.size + 1) C none)) ⟨(hp.push (PySem.W.kdv_tup [])).push (PySem.HandSPX.excO C hp.objs.size), gg, dr, tk, os⟩ :=
    I1.laid (t' := tk) (a := hp.objs.size + 1) (o := exo (hp.objs.size + 1) C none) (h' := (hp.push (PySem.W.kdv_tup [])).push (PySem.HandSPX.excO C hp.objs.size)) kk hsz (exo_ok hget)
  have r3 : Vals [V.ref (hp.objs.size + 1)] [Value.ref (hp.objs.size + 1)] := .cons rfl .nil
  have r2 := hb.rel r3 rz
  refine wpAny_call (born_call F.excBase_ValueError (fun Y => PySem.HandSPX.refsVE_contains Y bm hbm) (I1.kIn _ _ hC) (PySem.W.looks_findIn I1.kIn iC) (fun self => PySem.W.bind_fn I1.kIn self tI) (Nat.zero_le _)
    (codeAny_mono (F1.run _ X.stack _ _ ⟨[Value.ref (hp.objs.size + 1)], ks.zip ws⟩ (g [Value.ref (hp.objs.size + 1)] ws) _ _ (fun _ _ _ => False) (hr.make C [] (ks.zip ws)) (I2.env0.make C [] (ks.zip ws)) (hb.to _ [Value.ref (hp.objs.size + 1)] ws I2.kIn rfl (rz.length.symm.trans l2)) r2 hq) fun r s' hq' => ?_))
  cases r with
  | error er => exact hx pins σ _ _ er s' I2 hq'
  | ok fl =>
    cases fl with
    | ret u =>
      obtain ⟨v, H2, os2, bare2, un2, hok2, rv, ev, d, fs, ea, ed, hd1, q2⟩ := hq'
      subst ev
      obtain ⟨h2, g2, d2, t2, os'⟩ := s'
      exact ⟨rv, mk_end (raises_own T.exC T.tyC) I1 hsz kk un2 hok2 os2 bare2 ea ed hd1 q2⟩
    | next => exact False.elim hq'
    | brk => exact False.elim hq'
    | cont => exact False.elim hq'
end Own

/-! own layer, of no law: OWN16: an error of one field, held. -/
namespace Own
open PySem PySem.Spec PyProof.Rows L2 LamX NdefX
theorem pe_err1 {X : Cx} {x fld : Str} {k j : Nat} {C : Addr} {e : Expr} {te : TE} {p pos : Pos} (D : ErrC X.prog X.w X.K X.mg X.base x fld k C (spErr C fld)) (hr : Room j X.A) (hj : k + 1 ≤ j) (hg : Gl X x) (he : PE X e te) (hdb : (x == ("__debug__" : Str)) = false := by decide)
    (hst : starEach (e :: []) X.env = (false, eval e X.env) :: starEach [] X.env := by rfl) (hpl : (backTo pos (starEach [] X.env)).any (·.1) = false := by rfl) :
    PE X (.Call (.Name x p) [e] [] pos) (tOexV C (spErr C fld) [] (tCons te tNil)) := by
  obtain ⟨fI, fd, iC, tI, F1, b⟩ := D.ini
  exact pe_oexV D.oex iC tI F1 (hr.mono hj) b .nil (fun _ _ _ _ _ _ _ z => z.elim) hg D.g (pa_cons he pa_nil hst) hdb hst hpl
/-- what such a making asks -/
theorem made_err {C : Addr} {fld : Str} {y : V} {H : Hp} {Q : VK} (h : ∀ (a d : Addr) (H' : Hp), Same H H' → H a = none → H d = none → H' a = some (exo a C (some d)) → H' d = some (exd d [(fld, y)]) → Q (.ref a) H') :
    [y].length ≤ 1000 ∧ ∀ a, H a = none → spErr C fld (V.ref a :: ([y] ++ [])) (upd H a (exo a C none)) (fun z H2 => z = .non ∧ Q (.ref a) H2) (fun _ _ _ => False) := by
  refine ⟨by show 1 ≤ 1000; decide, fun a na => ⟨a, y, rfl, upd_same, fun dx nd ne => ⟨rfl, ?_⟩⟩⟩
  have nd0 : H dx = none := by rwa [upd_ne ne] at nd
  refine h a dx _ (fun b o eb => ?_) na nd0 upd_same ?_
  · have ba := ne_of_none eb na
    have bd := ne_of_none eb nd0
    rw [upd_ne ba, upd_ne bd, upd_ne ba]
    exact eb
  · rw [upd_ne ne]
    exact upd_same
end Own

/-! own layer, of no law: OWN2: operators by an own class. -/
namespace Own
open PySem PySem.Spec PyProof.Rows L2 LamX NdefX
section
variable {X : Cx} {pins : List (Addr × Obj)} {σ : L2.St} {H : Hp} {s : Shared}
theorem back_of {Q : VK} {A : Around} {c : Sem Value} (h : wpAny (model X.prog X.w) A c (EP X pins σ Q) X.xe s) : wpAny (model X.prog X.w) A c (PySem.W.CmpBack (EP X pins σ Q)) X.xe s := by
  refine wpAny_mono h (fun v s' q => ?_) fun _ _ e => e
  obtain ⟨y, H', I', r, q'⟩ := q
  cases v with
  | notImplemented => cases y <;> first | exact (nomatch r) | (obtain ⟨_, z⟩ := r; cases z)
  | _ => exact ⟨y, H', I', r, q'⟩
variable {CX : CXT} {n : Nat} {C f : Addr} {fd : FuncData} {ps : List Str} {sp : Sp} {E : XK} {op : Operator}
/-- x op y, both of the class at C, whose own method takes them -/
theorem op_own (F : FnOk X.prog X.w X.K X.mg X.base CX n f fd ps sp) (hr : Room n X.A) (hc : PySem.W.selfFirst X.K C = true) (hs : PySem.W.findIn X.K (.ref C) (PySem.dunder op.info.2) = some (some (.ref f))) (hf : PySem.W.isFn X.K (.ref f) = true) (hb : Binds X.K fd ps []) (hx : Passes CX X E) :
    OpR X (binaryOp op) (fun x y H Q => ∃ a b dx dy fs gs, x = V.ref a ∧ y = V.ref b ∧ H a = some (.ins C dx fs) ∧ H b = some (.ins C dy gs) ∧ sp [.ref a, .ref b] H Q E) := by
  intro pins s σ H x y v u Q I rx ry h
  obtain ⟨a, b, dx, dy, fs, gs, rfl, rfl, ha, hb', q⟩ := h
  cases rx
  cases ry
  obtain ⟨mA, J, _⟩ := ins_get I.hok ha
  obtain ⟨mB, J', _⟩ := ins_get I.hok hb'
  obtain ⟨od, J, _⟩ := J.look
  obtain ⟨od', J', _⟩ := J'.look
  obtain ⟨m, hF⟩ := I.fr
  exact PySem.W.binop_K hF I.ok.mod.kin J J'.type hc hs hf (back_of (run_fn F hr hb .nil hx I (.cons (show L2.RelV (V.ref a) (Value.ref a) from rfl) (.cons (show L2.RelV (V.ref b) (Value.ref b) from rfl) .nil)) q))
/-- -x of the class at C -/
theorem un_own (F : FnOk X.prog X.w X.K X.mg X.base CX n f fd ps sp) (hr : Room n X.A) (hs : PySem.W.findIn X.K (.ref C) "__neg__" = some (some (.ref f))) (hf : PySem.W.isFn X.K (.ref f) = true) (hb : Binds X.K fd ps []) (hx : Passes CX X E) :
    UnR X (unaryOp .USub) (fun x H Q => ∃ a dx fs, x = V.ref a ∧ H a = some (.ins C dx fs) ∧ sp [.ref a] H Q E) := by
  intro pins s σ H x v Q I rx h
  obtain ⟨a, dx, fs, rfl, ha, q⟩ := h
  cases rx
  obtain ⟨mA, J, _⟩ := ins_get I.hok ha
  obtain ⟨od, J, _⟩ := J.look
  obtain ⟨m, hF⟩ := I.fr
  exact PySem.W.ksp_neg hF I.ok.mod.kin J hs hf (run_fn F hr hb .nil hx I (.cons (show L2.RelV (V.ref a) (Value.ref a) from rfl) .nil) q)
end
end Own

/-! own layer, of no law: OWN3: an own class and a built-in value, on either side. -/
namespace Own
open PySem PySem.Spec PySem.Calls PyProof.Rows
section
variable {prog : Program} {w : World} {A : Around} {E : Value → Shared → Prop} {s : Shared} {K : PySem.W.Frag} {x C f : Addr} {ox : Obj} {od : Option Obj} {T : String}
open PySem.W in
/-- own op built-in -/
theorem own_left {op : Operator} {b : Value} {r : Bool} {back ours : Option Value} {Q : Value → Shared → Prop} (KX : K.In s.heap) (J : InstAt s.heap x ox C od) (tb : Looks (model prog w) s.heap (typeOf b) (.type T)) (one : selfFirst K C = true)
    (me : findIn K (.ref C) (PySem.dunder op.info.2) = some (some (.ref f))) (fn : isFn K (.ref f) = true) (mr : findIn K (.ref C) (dunderR op.info.2) = some ours) (mp : ours = none ∨ ∃ g : Addr, ours = some (.ref g))
    (slot : fillsNumberSlot (.type T) op.info.2 = pure r) (their : typeLookup (.type T) (dunderR op.info.2) = pure back) (nosub : subIn K (.type T) (.ref C) = some false)
    (go : wpAny (model prog w) A (call (.ref f) [.ref x, b]) (PySem.W.CmpBack Q) E s) : wpAny (model prog w) A (binaryOp op (.ref x) b) Q E s := by
  obtain ⟨cd, tl, c1, c2⟩ := ksp_first one
  obtain ⟨sy, nm, e⟩ : ∃ sy nm, op.info = (sy, nm) := ⟨_, _, rfl⟩
  rw [e] at me mr slot their
  have did := ksp_try KX J me fn go
  obtain ⟨hp, gs, dr, tk, os⟩ := s
  have q1 : Looks (model prog w) hp (typeOf (.ref x)) (.ref C) := J.type
  have q3 : Looks (model prog w) hp (fillsNumberSlot (.ref C) nm) true := fills_K KX c1 c2 me
  have q4 : Looks (model prog w) hp (fillsNumberSlot (.type T) nm) r := Looks.of_pure slot
  have q5 : Looks (model prog w) hp (isSubtype (.type T) (.ref C)) false := looks_subIn KX nosub
  have q6 : Looks (model prog w) hp (numberSlotInPython (.ref C) nm) true := ksp_inPy KX me mr mp
  have q7 : Looks (model prog w) hp (numberSlotInPython (.type T) nm) false := Looks.of_pure rfl
  have q8 : Looks (model prog w) hp (typeLookup (.type T) (dunderR nm)) back := Looks.of_pure their
  have ne : (Value.ref C == Value.type T) = false := by rw [beq_eq_false_iff_ne]; intro z; cases z
  unfold binaryOp
  rw [e]
  dsimp only
  refine wpAny_holding (wpAny_bind ?_)
  unfold binaryOp1
  refine wpAny_bind (q1.at (wpAny_bind (tb.at (wpAny_bind (q3.at ?_)))))
  rw [ne]
  simp only [Bool.false_eq_true, if_false]
  cases r
  · ksp_lk
    refine wpAny_mono did (fun u s' z => ?_) fun _ _ z => z
    obtain ⟨v, rfl, hv⟩ := z
    ksp_lk
    exact hv
  · ksp_lk
    refine wpAny_mono did (fun u s' z => ?_) fun _ _ z => z
    obtain ⟨v, rfl, hv⟩ := z
    ksp_lk
    exact hv
open PySem.W in
/-- built-in op own: the built-in's own slot stands off, the class's reflected method takes them -/
theorem own_right {op : Operator} {a : Value} {l : Bool} {Q : Value → Shared → Prop} (KX : K.In s.heap) (J : InstAt s.heap x ox C od) (ta : ∀ s' : Shared, (∀ b o, s.heap.get? b = some o → s'.heap.get? b = some o) → Looks (model prog w) s'.heap (typeOf a) (.type T)) (one : selfFirst K C = true)
    (mr : findIn K (.ref C) (dunderR op.info.2) = some (some (.ref f))) (fn : isFn K (.ref f) = true) (fills : ∀ h : Heap, K.In h → Looks (model prog w) h (fillsNumberSlot (.ref C) op.info.2) true)
    (slot : fillsNumberSlot (.type T) op.info.2 = pure l) (nosub : subIn K (.ref C) (.type T) = some false)
    (off : l = true → ∀ {R : Option Value → Shared → Prop} {s' : Shared}, (∀ b o, s.heap.get? b = some o → s'.heap.get? b = some o) → (∀ t : Tok, R none { s' with toks := t }) → wpAny (model prog w) A (tryMethod a (PySem.dunder op.info.2) (.ref x)) R E s')
    (go : ∀ t : Tok, wpAny (model prog w) A (call (.ref f) [.ref x, a]) (PySem.W.CmpBack Q) E { s with toks := t }) : wpAny (model prog w) A (binaryOp op a (.ref x)) Q E s := by
  obtain ⟨sy, nm, e⟩ : ∃ sy nm, op.info = (sy, nm) := ⟨_, _, rfl⟩
  rw [e] at mr slot fills off
  have did : ∀ t : Tok, wpAny (model prog w) A (tryMethod (.ref x) (dunderR nm) a) (fun u s' => ∃ v, u = some v ∧ Q v s') E { s with toks := t } := fun t => ksp_try (s := { s with toks := t }) KX J mr fn (go t)
  have here := ta s fun _ _ z => z
  have q3 := fills s.heap KX
  obtain ⟨hp, gs, dr, tk, os⟩ := s
  have q1 : Looks (model prog w) hp (typeOf (.ref x)) (.ref C) := J.type
  have q2 : Looks (model prog w) hp (typeOf a) (.type T) := here
  have q4 : Looks (model prog w) hp (fillsNumberSlot (.type T) nm) l := Looks.of_pure slot
  have q5 : Looks (model prog w) hp (isSubtype (.ref C) (.type T)) false := looks_subIn KX nosub
  have q6 : Looks (model prog w) hp (fillsNumberSlot (.ref C) nm) true := q3
  have q7 : Looks (model prog w) hp (numberSlotInPython (.type T) nm) false := Looks.of_pure rfl
  have ne : (Value.type T == Value.ref C) = false := by rw [beq_eq_false_iff_ne]; intro z; cases z
  unfold binaryOp
  rw [e]
  dsimp only
  refine wpAny_holding (wpAny_bind ?_)
  unfold binaryOp1
  refine wpAny_bind (q2.at (wpAny_bind (q1.at (wpAny_bind (q4.at ?_)))))
  rw [ne]
  simp only [Bool.false_eq_true, if_false]
  refine wpAny_bind (q6.at ?_)
  cases l
  · ksp_lk
    refine wpAny_mono (did tk) (fun u s' z => ?_) fun _ _ z => z
    obtain ⟨v, rfl, hv⟩ := z
    ksp_lk
    exact hv
  · ksp_lk
    refine off rfl (fun _ _ z => z) fun t => ?_
    ksp_lk
    refine wpAny_mono (did t) (fun u s' z => ?_) fun _ _ z => z
    obtain ⟨v, rfl, hv⟩ := z
    ksp_lk
    exact hv
end
end Own

/-! own layer, of no law: OWN4. -/
namespace Own
open PySem PySem.Spec PySem.Calls PyProof.Rows AutoSeq1
def tys : List String := ["NoneType", "bool", "int", "str", "list", "tuple", "dict"]
theorem fill_add : ∀ T ∈ tys, fillsNumberSlot (.type T) "add" = pure (T == "int" || T == "bool") := by
  intro T hT
  simp only [tys, List.mem_cons, List.not_mem_nil, or_false] at hT
  rcases hT with rfl | rfl | rfl | rfl | rfl | rfl | rfl <;> kernel_rfl
theorem fill_sub : ∀ T ∈ tys, fillsNumberSlot (.type T) "sub" = pure (T == "int" || T == "bool") := by
  intro T hT
  simp only [tys, List.mem_cons, List.not_mem_nil, or_false] at hT
  rcases hT with rfl | rfl | rfl | rfl | rfl | rfl | rfl <;> kernel_rfl
theorem fill_mul : ∀ T ∈ tys, fillsNumberSlot (.type T) "mul" = pure (T == "int" || T == "bool") := by
  intro T hT
  simp only [tys, List.mem_cons, List.not_mem_nil, or_false] at hT
  rcases hT with rfl | rfl | rfl | rfl | rfl | rfl | rfl <;> kernel_rfl
theorem refl_add : ∀ T ∈ tys, typeLookup (.type T) (dunderR "add") = pure (if (T == "int" || T == "bool") = true then some (.builtin "int.__radd__") else none) := by
  intro T hT
  simp only [tys, List.mem_cons, List.not_mem_nil, or_false] at hT
  rcases hT with rfl | rfl | rfl | rfl | rfl | rfl | rfl <;> (rw [typeLookup_type, builtinLookup_eq_fast]; kernel_rfl)
theorem refl_sub : ∀ T ∈ tys, typeLookup (.type T) (dunderR "sub") = pure (if (T == "int" || T == "bool") = true then some (.builtin "int.__rsub__") else none) := by
  intro T hT
  simp only [tys, List.mem_cons, List.not_mem_nil, or_false] at hT
  rcases hT with rfl | rfl | rfl | rfl | rfl | rfl | rfl <;> (rw [typeLookup_type, builtinLookup_eq_fast]; kernel_rfl)
theorem refl_mul : ∀ T ∈ tys, typeLookup (.type T) (dunderR "mul") = pure (if (T == "int" || T == "bool") = true then some (.builtin "int.__rmul__") else if T == "str" then some (.builtin "str.__rmul__") else if T == "list" then some (.builtin "list.__rmul__") else if T == "tuple" then some (.builtin "tuple.__rmul__") else none) := by
  intro T hT
  simp only [tys, List.mem_cons, List.not_mem_nil, or_false] at hT
  rcases hT with rfl | rfl | rfl | rfl | rfl | rfl | rfl <;> (rw [typeLookup_type, builtinLookup_eq_fast]; kernel_rfl)
/-- an int's own slot stands off an object that is no int -/
theorem off_meets {nm : String} {x : Addr} {v : Value} {i : Int} {g : Int → Int → Sem Fin} (hv : (∃ t, v = .int i t) ∨ ∃ b, v = .bool b) : Meets (Builtin.Int.intBinary nm g false ⟨[v, .ref x], []⟩) (fun _ R s => ∃ o, s.heap.get? x = some o ∧ o.data = .plain ∧ R (.ok (.ret .notImplemented)) s) := by
  intro prog w A R s h
  obtain ⟨o, e, d, q⟩ := h
  obtain ⟨hp, gs, dr, tk, os⟩ := s
  rcases hv with ⟨t, rfl⟩ | ⟨b, rfl⟩
  · unfold Builtin.Int.intBinary
    wp_walk using wpAny_loadPart' e
    rw [d]
    exact wpAny_pure (wpAny_bind (wpAny_rule (wpAny_pure q)))
  · unfold Builtin.Int.intBinary
    wp_walk using wpAny_loadPart' e
    rw [d]
    exact wpAny_pure (wpAny_bind (wpAny_rule (wpAny_pure q)))
section
variable {prog : Program} {w : World} {A : Around} {E : Value → Shared → Prop} {s : Shared} {x : Addr} {o : Obj} {v : Value} {i : Int}
/-- .. so its method gives none -/
theorem off_try {T id : String} {nm : String} {nb : String} {g : Int → Int → Sem PySem.Fin} {R : Option Value → Shared → Prop} (hv : (∃ t, v = .int i t) ∨ ∃ b, v = .bool b) (ho : s.heap.get? x = some o) (hd : o.data = .plain) (hT : s.TypeIs v T) (slot : Slot T (dunder nm) id)
    (entry : entryFor table id = some (Builtin.Int.intBinary nb g false)) (args : argsOk id ⟨[v, .ref x], []⟩) (h : R none s) : wpAny (model prog w) A (tryMethod v (dunder nm) (.ref x)) R E s := by
  unfold tryMethod
  exact wpAny_bind (wpAny_callSpecial?_slot hT slot (call_meets slot hT entry args (off_meets hv) ⟨o, ho, hd, wpAny_pure h⟩))
theorem off_add {R : Option Value → Shared → Prop} (ho : s.heap.get? x = some o) (hd : o.data = .plain) (h : R none s) : (∀ t, v = .int i t → wpAny (model prog w) A (tryMethod v (dunder "add") (.ref x)) R E s) ∧ (∀ b, v = .bool b → wpAny (model prog w) A (tryMethod v (dunder "add") (.ref x)) R E s) := by
  refine ⟨fun t e => ?_, fun b e => ?_⟩
  · exact off_try (T := "int") (i := i) (.inl ⟨t, e⟩) ho hd (by rw [e]; exact rfl) F.slot_int_add F.entry_int_add (F.args_int_add_2 _ _) h
  · exact off_try (T := "bool") (i := i) (.inr ⟨b, e⟩) ho hd (by rw [e]; exact rfl) F.slot_bool_add F.entry_int_add (F.args_int_add_2 _ _) h
end
end Own

/-! own layer, of no law: OWN5: rules for an own class's operators with what is handed in. -/
namespace Own
open PySem PySem.Spec PyProof.Rows L2 LamX NdefX
/-- what an operator's built-in slots say -/
structure OpB (op : Operator) : Prop where
  fill : ∀ T ∈ tys, fillsNumberSlot (.type T) op.info.2 = pure (T == "int" || T == "bool")
  back : ∀ T ∈ tys, ∃ r, typeLookup (.type T) (dunderR op.info.2) = pure r
  off : ∀ {prog : Program} {w : World} {A : Around} {E : Value → Shared → Prop} {s : Shared} {x : Addr} {o : Obj} {v : Value} {i : Int} {R : Option Value → Shared → Prop}, s.heap.get? x = some o → o.data = .plain → ((∃ t, v = .int i t) ∨ ∃ b, v = .bool b) → R none s →
    wpAny (model prog w) A (tryMethod v (PySem.dunder op.info.2) (.ref x)) R E s
theorem opb_add : OpB .Add := ⟨fill_add, fun T h => ⟨_, refl_add T h⟩, fun {prog w A E s x o v i R} ho hd hv h => by
  rcases hv with ⟨t, e⟩ | ⟨b, e⟩
  · exact off_try (T := "int") (i := i) (.inl ⟨t, e⟩) ho hd (by rw [e]; exact rfl) F.slot_int_add F.entry_int_add (F.args_int_add_2 _ _) h
  · exact off_try (T := "bool") (i := i) (.inr ⟨b, e⟩) ho hd (by rw [e]; exact rfl) F.slot_bool_add F.entry_int_add (F.args_int_add_2 _ _) h⟩
theorem opb_sub : OpB .Sub := ⟨fill_sub, fun T h => ⟨_, refl_sub T h⟩, fun {prog w A E s x o v i R} ho hd hv h => by
  rcases hv with ⟨t, e⟩ | ⟨b, e⟩
  · exact off_try (T := "int") (i := i) (.inl ⟨t, e⟩) ho hd (by rw [e]; exact rfl) F.slot_int_sub F.entry_int_sub (F.args_int_sub_2 _ _) h
  · exact off_try (T := "bool") (i := i) (.inr ⟨b, e⟩) ho hd (by rw [e]; exact rfl) F.slot_bool_sub F.entry_int_sub (F.args_int_sub_2 _ _) h⟩
theorem opb_mul : OpB .Mult := ⟨fill_mul, fun T h => ⟨_, refl_mul T h⟩, fun {prog w A E s x o v i R} ho hd hv h => by
  rcases hv with ⟨t, e⟩ | ⟨b, e⟩
  · exact off_try (T := "int") (i := i) (.inl ⟨t, e⟩) ho hd (by rw [e]; exact rfl) F.slot_int_mul F.entry_int_mul (F.args_int_mul_2 _ _) h
  · exact off_try (T := "bool") (i := i) (.inr ⟨b, e⟩) ho hd (by rw [e]; exact rfl) F.slot_bool_mul F.entry_int_mul (F.args_int_mul_2 _ _) h⟩
section
variable {X : Cx} {pins : List (Addr × Obj)} {σ : L2.St} {H : Hp} {s : Shared}
/-- of which built-in type a thing is -/
theorem thing_ty {x : V} {v : Value} (I : Inv X pins σ H s) (t : Thing H x) (r : RelV x v) : ∃ T ∈ tys, PySem.W.Looks (model X.prog X.w) s.heap (typeOf v) (.type T) ∧ ((T == "int" || T == "bool") = true → ∃ i : Int, (∃ t, v = .int i t) ∨ ∃ b, v = .bool b) := by
  cases t with
  | non =>
    obtain rfl : v = .none := r
    exact ⟨"NoneType", by simp [tys], .of_pure rfl, fun z => absurd z (by decide)⟩
  | bl b =>
    obtain rfl : v = .bool b := r
    exact ⟨"bool", by simp [tys], .of_pure rfl, fun _ => ⟨0, .inr ⟨b, rfl⟩⟩⟩
  | int i =>
    obtain ⟨t, rfl⟩ := r
    exact ⟨"int", by simp [tys], .of_pure rfl, fun _ => ⟨i, .inl ⟨t, rfl⟩⟩⟩
  | str z =>
    obtain ⟨t, rfl⟩ := r
    exact ⟨"str", by simp [tys], .of_pure rfl, fun z => absurd z (by decide)⟩
  | @lst a xs e =>
    obtain rfl : v = .ref a := r
    obtain ⟨_, its, n, _, ho⟩ := I.hok a _ e
    exact ⟨"list", by simp [tys], fun A Q E s' k q => wpAny_typeOf_ref (k _ _ ho) q, fun z => absurd z (by decide)⟩
  | @tup a xs e =>
    obtain rfl : v = .ref a := r
    obtain ⟨_, its, _, o, ho, hc, _⟩ := I.hok a _ e
    exact ⟨"tuple", by simp [tys], fun A Q E s' k q => wpAny_typeOf_ref (k _ _ ho) (by rw [hc]; exact q), fun z => absurd z (by decide)⟩
  | @dct a kvs e =>
    obtain rfl : v = .ref a := r
    obtain ⟨_, _, vs, _, o, es, ep, ho, hc, _⟩ := I.hok a _ e
    exact ⟨"dict", by simp [tys], fun A Q E s' k q => wpAny_typeOf_ref (k _ _ ho) (by rw [hc.1]; exact q), fun z => absurd z (by decide)⟩
variable {CX : CXT} {n : Nat} {C f g : Addr} {fd : FuncData} {ps : List Str} {sp : Sp} {E : XK} {op : Operator}
/-- own op thing -/
theorem op_ownL (B : OpB op) (F : FnOk X.prog X.w X.K X.mg X.base CX n f fd ps sp) (hr : Room n X.A) (hc : PySem.W.selfFirst X.K C = true) (hs : PySem.W.findIn X.K (.ref C) (PySem.dunder op.info.2) = some (some (.ref f))) (hf : PySem.W.isFn X.K (.ref f) = true)
    (hm : PySem.W.findIn X.K (.ref C) (dunderR op.info.2) = some (some (.ref g))) (hsub : ∀ T ∈ tys, PySem.W.subIn X.K (.type T) (.ref C) = some false) (hb : Binds X.K fd ps []) (hx : Passes CX X E) :
    OpR X (binaryOp op) (fun x y H Q => ∃ a dx fs, x = V.ref a ∧ H a = some (.ins C dx fs) ∧ Thing H y ∧ sp [.ref a, y] H Q E) := by
  intro pins s σ H x y v u Q I rx ry h
  obtain ⟨a, dx, fs, rfl, ha, ty, q⟩ := h
  cases rx
  obtain ⟨mA, J, _⟩ := ins_get I.hok ha
  obtain ⟨od, J, _⟩ := J.look
  obtain ⟨T, hT, lk, _⟩ := thing_ty I ty ry
  obtain ⟨r, hbk⟩ := B.back T hT
  exact own_left I.kIn J lk hc hs hf hm (.inr ⟨g, rfl⟩) (B.fill T hT) hbk (hsub T hT) (back_of (run_fn F hr hb .nil hx I (.cons (show L2.RelV (V.ref a) (Value.ref a) from rfl) (.cons ry .nil)) q))
/-- thing op own -/
theorem op_ownR (B : OpB op) (F : FnOk X.prog X.w X.K X.mg X.base CX n f fd ps sp) (hr : Room n X.A) (hc : PySem.W.selfFirst X.K C = true) (hs : PySem.W.findIn X.K (.ref C) (PySem.dunder op.info.2) = some (some (.ref g))) (hf : PySem.W.isFn X.K (.ref f) = true)
    (hm : PySem.W.findIn X.K (.ref C) (dunderR op.info.2) = some (some (.ref f))) (hsub : ∀ T ∈ tys, PySem.W.subIn X.K (.ref C) (.type T) = some false) (hb : Binds X.K fd ps []) (hx : Passes CX X E) :
    OpR X (binaryOp op) (fun x y H Q => ∃ b dy fs, y = V.ref b ∧ H b = some (.ins C dy fs) ∧ Thing H x ∧ sp [.ref b, x] H Q E) := by
  intro pins s σ H x y v u Q I rx ry h
  obtain ⟨b, dy, fs, rfl, hb', tx, q⟩ := h
  cases ry
  obtain ⟨mB, J, _⟩ := ins_get I.hok hb'
  obtain ⟨od, J, _⟩ := J.look
  obtain ⟨T, hT, lk, num⟩ := thing_ty I tx rx
  obtain ⟨cd, tl, c1, c2⟩ := PySem.W.ksp_first hc
  refine own_right I.kIn J (fun s' k => lk.keeps k) hc hm hf (fun h K' => PySem.W.fills_K K' c1 c2 hs) (B.fill T hT) (hsub T hT) (fun z R s' k hR => ?_) fun t => ?_
  · obtain ⟨i, hi⟩ := num z
    obtain ⟨_, _, _, ho, _⟩ := I.hok b _ hb'
    exact B.off (k _ _ ho) rfl hi (hR s'.toks)
  · exact back_of (run_fn F hr hb .nil hx (I.tok t) (.cons (show L2.RelV (V.ref b) (Value.ref b) from rfl) (.cons rx .nil)) q)
end
end Own

/-! own layer, of no law: OWN6: == and abs of an own class. -/
namespace Own
open PySem PySem.Spec PyProof.Rows L2 LamX NdefX
section
variable {X : Cx} {pins : List (Addr × Obj)} {σ : L2.St} {H : Hp} {s : Shared}
variable {CX : CXT} {n : Nat} {C f : Addr} {fd : FuncData} {ps : List Str} {sp : Sp} {E : XK}
/-- own == anything -/
theorem op_ownEq (F : FnOk X.prog X.w X.K X.mg X.base CX n f fd ps sp) (hr : Room n X.A) (hs : PySem.W.findIn X.K (.ref C) "__eq__" = some (some (.ref f))) (hf : PySem.W.isFn X.K (.ref f) = true) (hsub : ∀ T ∈ tys, PySem.W.subIn X.K (.type T) (.ref C) = some false) (hb : Binds X.K fd ps []) (hx : Passes CX X E) :
    OpR X (compareOp .Eq) (fun x y H Q => ∃ a dx fs, x = V.ref a ∧ H a = some (.ins C dx fs) ∧ ((∃ b dy gs, y = V.ref b ∧ H b = some (.ins C dy gs)) ∨ Thing H y) ∧ sp [.ref a, y] H Q E) := by
  intro pins s σ H x y v u Q I rx ry h
  obtain ⟨a, dx, fs, rfl, ha, ty, q⟩ := h
  cases rx
  obtain ⟨mA, J, _⟩ := ins_get I.hok ha
  obtain ⟨od, J, _⟩ := J.look
  obtain ⟨m, hF⟩ := I.fr
  have un : X.A.units < cLine := by
    have := hr.units
    omega
  show wpAny (model X.prog X.w) X.A (richCompare .Eq (.ref a) u) (EP X pins σ Q) X.xe s
  have call := back_of (run_fn F hr hb .nil hx I (.cons (show L2.RelV (V.ref a) (Value.ref a) from rfl) (.cons ry .nil)) q)
  rcases ty with ⟨b, dy, gs, rfl, hb'⟩ | ty
  · cases ry
    obtain ⟨mB, J', _⟩ := ins_get I.hok hb'
    obtain ⟨od', J', _⟩ := J'.look
    exact PySem.W.cmp_K (op := .Eq) (tb := .ref C) un hF I.ok.mod.kin J J'.type (by simp [PySem.W.notFirst]) hs hf call
  · obtain ⟨T, hT, lk, _⟩ := thing_ty I ty ry
    exact PySem.W.cmp_K (op := .Eq) (tb := .type T) un hF I.ok.mod.kin J lk (by unfold PySem.W.notFirst; rw [hsub T hT]; simp) hs hf call
/-- abs(own) -/
theorem call_absOwn (F : FnOk X.prog X.w X.K X.mg X.base CX n f fd ps sp) (hr : Room (n + 1) X.A) (hs : PySem.W.findIn X.K (.ref C) "__abs__" = some (some (.ref f))) (hf : PySem.W.isFn X.K (.ref f) = true) (hb : Binds X.K fd ps []) (hx : Passes CX X E) :
    CallR X (.builtin "abs") (fun xs H Q => ∃ a dx fs, xs = [V.ref a] ∧ H a = some (.ins C dx fs) ∧ sp [.ref a] H Q E) := by
  intro pins s σ H xs us Q I rs h
  obtain ⟨a, dx, fs, rfl, ha, q⟩ := h
  obtain ⟨u, rfl, rx⟩ := vals1 rs
  cases rx
  obtain ⟨mA, J, _⟩ := ins_get I.hok ha
  obtain ⟨od, J, _⟩ := J.look
  have A1 : Room n X.A.in1 := hr.in1
  refine PySem.Calls.call_function_entry kind_abs plain_abs entry_abs (args_abs _) ?_
  unfold Builtin.«abs»
  refine wpAny_bind (m := oneArg "abs" _) (wpAny_pure ?_)
  refine wpAny_bind (m := callSpecial? (.ref a) (Str.ofString "__abs__")) (PySem.W.special_fn I.kIn J hs (beq_iff_eq.mp hf) ?_)
  have e0 : Env0 X.prog X.w X.K X.mg X.base X.A.in1 X.stack s H := by
    have e := I.env0
    exact ⟨e.frames, e.mod, e.bs, e.bsz, e.funs, e.frf, e.hok, e.bare⟩
  have r1 : Vals [V.ref a] [Value.ref a] := .cons (show L2.RelV (V.ref a) (Value.ref a) from rfl) .nil
  have hl := F.len _ _ _ _ q
  refine wpAny_call (codeAny_mono (F.run X.A.in1 X.stack s H ⟨[.ref a], []⟩ [.ref a] [.ref a] Q E A1 e0 (by
    have z := hb s [.ref a] I.kIn (by simpa using hl)
    simpa using z) r1 q) fun r s' hq => ?_)
  cases r with
  | error e => exact hx pins σ H s e s' I hq
  | ok fl =>
    cases fl with
    | ret w => exact wpAny_pure ⟨_, rfl, I.after hq⟩
    | next => exact False.elim hq
    | brk => exact False.elim hq
    | cont => exact False.elim hq
end
end Own

/-! own layer, of no law: OWN7: != of an own class that has == alone. -/
namespace Own
open PySem PySem.Spec PySem.Calls PyProof.Rows
section
variable {prog : Program} {w : World} {A : Around} {E : Value → Shared → Prop} {s : Shared} {K : PySem.W.Frag} {x C f : Addr} {ox : Obj} {od : Option Obj}
open PySem.W in
theorem ne_body {b : Value} {Q : Fin → Shared → Prop} (un : A.units < cLine) (KX : K.In s.heap) (J : InstAt s.heap x ox C od) (eq : findIn K (.ref C) "__eq__" = some (some (.ref f))) (fn : isFn K (.ref f) = true)
    (go : wpAny (model prog w) A (call (.ref f) [.ref x, b]) (fun v s' => ∃ c, v = .bool c ∧ Q (.done (.ret (.bool (!c)))) s') E s) : wpAny (model prog w) A (Builtin.«object.__ne__» ⟨[.ref x, b], []⟩) Q E s := by
  unfold Builtin.«object.__ne__»
  refine wpAny_bind (m := slotArgs "__ne__" 1 _) (wpAny_pure ?_)
  dsimp only
  refine wpAny_bind (wpAny_cRoomFor un ?_)
  refine wpAny_bind (m := callSpecialIfBound? (.ref x) (Str.ofString "__eq__") [b]) (ifBound_K KX J eq fn (wpAny_mono go (fun v s' z => ?_) fun _ _ e => e))
  obtain ⟨c, rfl, q⟩ := z
  exact wpAny_bind (wpAny_truthy_bool (wpAny_pure q))
theorem ne_args (a b : Value) : argsOk "object.__ne__" ⟨[a, b], []⟩ := F.cmpArgs_ne a b
theorem ne_bind (self : Value) : bindSpecial (.builtin "object.__ne__") self = pure (.builtin "object.__ne__", [self]) :=
  (Slot.of (T := "object") (name := "__ne__") (owner := "object") (n := "__ne__") (by rw [typeLookup_type, builtinLookup_eq_fast]; kernel_rfl) (by decide +kernel) (by decide +kernel) (by decide +kernel) (.inl (by decide +kernel)) (by rw [isSubtype_type]; kernel_rfl)).bind self
open PySem.W in
theorem ne_try {b : Value} {Q : Option Value → Shared → Prop} (un : A.units + 1 < cLine) (KX : K.In s.heap) (J : InstAt s.heap x ox C od) (ne : findIn K (.ref C) "__ne__" = some (some (.builtin "object.__ne__"))) (obj : subIn K (.ref C) (.type "object") = some true) (eq : findIn K (.ref C) "__eq__" = some (some (.ref f))) (fn : isFn K (.ref f) = true)
    (go : wpAny (model prog w) A.in1 (call (.ref f) [.ref x, b]) (fun v s' => ∃ c, v = .bool c ∧ Q (some (.bool (!c))) s') E s) : wpAny (model prog w) A (tryCompare (.ref x) "__ne__" b) Q E s := by
  have isO : Looks (model prog w) s.heap (isInstance (.ref x) (.type "object")) true := J.type.andThen (looks_subIn KX obj)
  have run : wpAny (model prog w) A (call (.builtin "object.__ne__") [.ref x, b]) (fun v s' => ∃ c : Bool, v = .bool c ∧ Q (some (.bool c)) s') E s := by
    refine wpAny_call (codeAny_call_builtin (by decide +kernel) F.cmpEntry_ne (check_slot F.cmpKind_ne F.cmpSplit_ne isO (ne_args _ _) (ne_body (A := A.in1) (by exact un) KX J eq fn (wpAny_mono go (fun v s' z => ?_) fun _ _ e => e))))
    obtain ⟨c, rfl, q⟩ := z
    exact ⟨c, rfl, ⟨!c, rfl, q⟩⟩
  have fin : wpAny (model prog w) A (call (.builtin "object.__ne__") ([.ref x] ++ [b]) >>= fun v => pure (some v)) (fun r s' => ∃ c : Bool, r = some (.bool c) ∧ Q (some (.bool c)) s') E s := wpAny_bind (wpAny_mono run (fun v s' z => by
    obtain ⟨c, rfl, q⟩ := z
    exact wpAny_pure ⟨c, rfl, q⟩) fun _ _ e => e)
  have whole : wpAny (model prog w) A (callSpecialIfBound? (.ref x) "__ne__" [b]) (fun r s' => ∃ c : Bool, r = some (.bool c) ∧ Q (some (.bool c)) s') E s := by
    simp only [callSpecialIfBound?, bindSpecialIfBound?]
    refine wpAny_holding (wpAny_bind (wpAny_bind (wpAny_bind (J.type.here ((looks_findIn KX ne).here ?_)))))
    refine wpAny_bind (wpAny_askSetting (wpAny_ite ?_))
    split
    · rw [ne_bind]
      exact wpAny_bind (wpAny_pure (wpAny_pure fin))
    · rw [ne_bind]
      exact wpAny_tryCatch (wpAny_bind (wpAny_pure (wpAny_pure fin)))
  unfold tryCompare
  refine wpAny_bind (wpAny_mono whole (fun r s' z => ?_) fun _ _ e => e)
  obtain ⟨c, rfl, q⟩ := z
  exact wpAny_pure q
open PySem.W in
/-- own != b -/
theorem own_ne {b tb : Value} {Q : Value → Shared → Prop} (un : A.units + 1 < cLine) (KX : K.In s.heap) (J : InstAt s.heap x ox C od) (lk : Looks (model prog w) s.heap (typeOf b) tb) (nf : notFirst K C tb = true) (ne : findIn K (.ref C) "__ne__" = some (some (.builtin "object.__ne__"))) (obj : subIn K (.ref C) (.type "object") = some true)
    (eq : findIn K (.ref C) "__eq__" = some (some (.ref f))) (fn : isFn K (.ref f) = true) (go : wpAny (model prog w) A.in1 (call (.ref f) [.ref x, b]) (fun v s' => ∃ c, v = .bool c ∧ Q (.bool (!c)) s') E s) : wpAny (model prog w) A (richCompare .NotEq (.ref x) b) Q E s := by
  have one : wpAny (model prog w) A (tryCompare (.ref x) "__ne__" b) (fun r s' => ∃ v, r = some v ∧ Q v s') E s := ne_try un KX J ne obj eq fn (wpAny_mono go (fun v s' z => by
    obtain ⟨c, rfl, q⟩ := z
    exact ⟨c, rfl, _, rfl, q⟩) fun _ _ e => e)
  unfold richCompare
  simp only [oneThing_ref]
  refine wpAny_holding (wpAny_bind (wpAny_cRoomFor (Nat.lt_of_succ_lt un) ?_))
  refine wpAny_bind (J.type.here (wpAny_bind (lk.here ?_)))
  split
  · rename_i hd
    have sb : subIn K tb (.ref C) = some false := by
      unfold notFirst at nf
      rcases Bool.or_eq_true_iff.mp nf with z | z
      · rw [beq_iff_eq.mp z] at hd
        simp at hd
      · exact beq_iff_eq.mp z
    refine wpAny_bind ((looks_subIn KX sb).here ?_)
    rw [if_neg Bool.false_ne_true]
    refine wpAny_bind (wpAny_mono one (fun r s' z => ?_) fun _ _ z => z)
    obtain ⟨v, rfl, hv⟩ := z
    exact wpAny_pure hv
  · refine wpAny_bind (wpAny_pure ?_)
    rw [if_neg Bool.false_ne_true]
    refine wpAny_bind (wpAny_mono one (fun r s' z => ?_) fun _ _ z => z)
    obtain ⟨v, rfl, hv⟩ := z
    exact wpAny_pure hv
end
end Own

/-! own layer, of no law: OWN8: the rule of !=. -/
namespace Own
open PySem PySem.Spec PyProof.Rows L2 LamX NdefX
section
variable {X : Cx} {pins : List (Addr × Obj)} {σ : L2.St} {H : Hp} {s : Shared}
variable {CX : CXT} {n : Nat} {C f : Addr} {fd : FuncData} {ps : List Str} {sp : Sp} {E : XK}
/-- a def's run one call deeper -/
theorem run_in1 {us : List Value} {vs : List V} {Q : VK} {R : Value → Shared → Prop} (F : FnOk X.prog X.w X.K X.mg X.base CX n f fd ps sp) (hr : Room (n + 1) X.A) (hb : Binds X.K fd ps []) (hx : Passes CX X E) (I : Inv X pins σ H s) (r : Vals vs us) (q : sp vs H Q E)
    (k : ∀ v s', EP X pins σ Q v s' → R v s') : wpAny (model X.prog X.w) X.A.in1 (call (.ref f) us) R X.xe s := by
  have e0 : Env0 X.prog X.w X.K X.mg X.base X.A.in1 X.stack s H := by
    have e := I.env0
    exact ⟨e.frames, e.mod, e.bs, e.bsz, e.funs, e.frf, e.hok, e.bare⟩
  have hl := F.len _ _ _ _ q
  have bt : BindsTo s fd ⟨us, []⟩ (ps.zip us) := by
    have z := hb s us I.kIn (by rw [List.append_nil, ← r.length]; exact hl)
    rw [List.append_nil] at z
    exact z
  refine wpAny_call (codeAny_mono (F.run X.A.in1 X.stack s H ⟨us, []⟩ us vs Q E hr.in1 e0 bt r q) fun r s' hq => ?_)
  cases r with
  | error e => exact hx pins σ H s e s' I hq
  | ok fl =>
    cases fl with
    | ret w => exact k _ _ (I.after hq)
    | next => exact False.elim hq
    | brk => exact False.elim hq
    | cont => exact False.elim hq
/-- own != anything -/
theorem op_ownNe (F : FnOk X.prog X.w X.K X.mg X.base CX n f fd ps sp) (hr : Room (n + 1) X.A) (ne : PySem.W.findIn X.K (.ref C) "__ne__" = some (some (.builtin "object.__ne__"))) (obj : PySem.W.subIn X.K (.ref C) (.type "object") = some true) (hs : PySem.W.findIn X.K (.ref C) "__eq__" = some (some (.ref f))) (hf : PySem.W.isFn X.K (.ref f) = true)
    (hsub : ∀ T ∈ tys, PySem.W.subIn X.K (.type T) (.ref C) = some false) (hb : Binds X.K fd ps []) (hx : Passes CX X E) :
    OpR X (compareOp .NotEq) (fun x y H Q => ∃ a dx fs, x = V.ref a ∧ H a = some (.ins C dx fs) ∧ ((∃ b dy gs, y = V.ref b ∧ H b = some (.ins C dy gs)) ∨ Thing H y) ∧ sp [.ref a, y] H (fun v H' => ∃ c, v = .bl c ∧ Q (.bl (!c)) H') E) := by
  intro pins s σ H x y v u Q I rx ry h
  obtain ⟨a, dx, fs, rfl, ha, ty, q⟩ := h
  cases rx
  obtain ⟨mA, J, _⟩ := ins_get I.hok ha
  obtain ⟨od, J, _⟩ := J.look
  have un : X.A.units + 1 < cLine := by
    have := hr.un
    omega
  show wpAny (model X.prog X.w) X.A (richCompare .NotEq (.ref a) u) (EP X pins σ Q) X.xe s
  have go : wpAny (model X.prog X.w) X.A.in1 (call (.ref f) [.ref a, u]) (fun v s' => ∃ c, v = .bool c ∧ EP X pins σ Q (.bool (!c)) s') X.xe s := run_in1 F hr hb hx I (.cons (show L2.RelV (V.ref a) (Value.ref a) from rfl) (.cons ry .nil)) q fun v s' z => by
    obtain ⟨z, H', I', rz, c, rfl, q'⟩ := z
    obtain rfl : v = .bool c := rz
    exact ⟨c, rfl, .bl (!c), H', I', rfl, q'⟩
  rcases ty with ⟨b, dy, gs, rfl, hb'⟩ | ty
  · cases ry
    obtain ⟨mB, J', _⟩ := ins_get I.hok hb'
    obtain ⟨od', J', _⟩ := J'.look
    exact own_ne un I.kIn J J'.type (by simp [PySem.W.notFirst]) ne obj hs hf go
  · obtain ⟨T, hT, lk, _⟩ := thing_ty I ty ry
    exact own_ne un I.kIn J lk (by unfold PySem.W.notFirst; rw [hsub T hT]; simp) ne obj hs hf go
end
end Own

/-! own layer, of no law: OWN9: an attribute as one of several targets. -/
namespace Own
open PySem PySem.Spec PyProof.Rows L2 LamX NdefX
section
variable {X : Cx} {o : Expr} {ta : TE} {f : Str} {pos : Pos}
def gFld (K : PySem.W.Frag) (ta : TE) (f : Str) : TG := fun y σ H Q => ta σ H fun x H2 => ∃ a C dx fs, x = V.ref a ∧ H2 a = some (.ins C dx fs) ∧ Cls K C ∧ NoAttr K C f ∧ fs.length < 1000 ∧ Q σ (upd H2 a (.ins C dx (putF f y fs)))
theorem pg_fld (ha : PE X o ta) : PG X (.Attribute o f pos) (gFld X.K ta f) := by
  refine ⟨fun pins s σ H v u Q I r h => ?_⟩
  have e : assign (.Attribute o f pos) X.env u = (do
      let ov ← holding [u] (eval o X.env)
      standAt pos.atName
      holding [u, ov] (setAttr ov f u)
      PySem.release [u, ov] []) := rfl
  rw [e]
  refine wpAny_bind (wpAny_holding (thn (ha.run pins s σ H _ I h) fun ov s1 z => ?_))
  obtain ⟨x, H1, I1, rx, a, C, dx, fs, rfl, ea, c, n, l, q⟩ := z
  obtain rfl : ov = Value.ref a := rx
  refine wpAny_bind (wpAny_standAt (wpAny_bind (wpAny_holding (setattr_ok I1 ea c n l r fun s3 I3 => ?_))))
  exact wpAny_release ⟨σ, _, I3, q⟩
end
end Own

/-! own layer, of no law: OWNW: the nine ways, their mathematics. -/
namespace Own
open PySem PySem.Spec PyProof.Rows L2 LamX NdefX
def waysL : List Str := ["floor", "ceiling", "cut", "away", "halfup", "halfdown", "halfeven", "halfaway", "halfcut"]
def mirrL : List (Str × Str) := [("floor", "ceiling"), ("ceiling", "floor"), ("halfup", "halfdown"), ("halfdown", "halfup")]
def halvL : List (Str × Str) := [("halfup", "ceiling"), ("halfdown", "floor"), ("halfeven", "even"), ("halfaway", "away"), ("halfcut", "cut")]
def baseUp (w : Str) (b : Int) : Bool := if w = "even" then decide (b % 2 = 1) else if w = "cut" then decide (b < 0) else if w = "away" then decide (0 ≤ b) else decide (w = "ceiling")
def goesUp (w : Str) (b p : Int) : Bool := match halvL.lookup w with
  | some h => if p = 0 then baseUp h b else decide (0 < p)
  | none => baseUp w b
def near (n d : Int) (w : Str) : Int := if n % d = 0 then n / d else if goesUp w (n / d) (2 * (n % d) - d) = true then n / d + 1 else n / d
def mirr (w : Str) : Str := (mirrL.lookup w).getD w
theorem dec_int (a b : Int) : decide (V.int a = V.int b) = decide (a = b) := by simp
theorem dec_str (a b : Str) : decide (V.str a = V.str b) = decide (a = b) := by simp
/-- what the walk asks of the top: the names of built-ins are free; the tables -/
structure Txt (P : Program) (w : World) (K : PySem.W.Frag) (mg : Str → Option Value) (base : Heap) (C aW aM aH : Addr) (eM : Array DictEntry) (nM : Nat) (eH : Array DictEntry) (nH : Nat) : Prop where
  isi : mg "isinstance" = none
  int : mg "int" = none
  bool : mg "bool" = none
  len : mg "len" = none
  list : mg "list" = none
  range : mg "range" = none
  tuple : mg "tuple" = none
  all : mg "all" = none
  dm : mg "divmod" = none
  err : ErrC P w K mg base "BadValue" "value" 1 C (spErr C "value")
  gW : mg "WAYS" = some (.ref aW)
  ways : ∀ H : Hp, SqT K H aW (waysL.map V.str)
  gM : mg "MIRRORS" = some (.ref aM)
  dM : KDict K w aM eM nM
  mirr : ∀ z ∈ waysL, KGet K aM z ((mirrL.lookup z).map V.str)
  gH : mg "HALVES" = some (.ref aH)
  dH : KDict K w aH eH nH
  halv : ∀ z ∈ waysL, KGet K aH z ((halvL.lookup z).map V.str)
def isWay : V → Bool
  | .str z => decide (z ∈ waysL)
  | _ => false
theorem isWay_str {x : V} (h : isWay x = true) : ∃ z ∈ waysL, x = .str z := by
  cases x with
  | str z => exact ⟨z, by simpa [isWay] using h, rfl⟩
  | _ => simp [isWay] at h
theorem way_cases {z : Str} (h : z ∈ waysL) : z = "floor" ∨ z = "ceiling" ∨ z = "cut" ∨ z = "away" ∨ z = "halfup" ∨ z = "halfdown" ∨ z = "halfeven" ∨ z = "halfaway" ∨ z = "halfcut" := by
  simpa [waysL] using h
def baseK (z : Str) : Nat := if z = "even" then 0 else if z = "cut" then 1 else if z = "away" then 2 else if z = "ceiling" then 3 else 4
def kUp : Nat → Int → Bool
  | 0, b => decide (b % 2 = 1)
  | 1, b => decide (b < 0)
  | 2, b => decide (0 ≤ b)
  | 3, _ => true
  | _, _ => false
theorem base_k (z : Str) (b : Int) : baseUp z b = kUp (baseK z) b := by
  unfold baseUp baseK
  by_cases h1 : z = "even"
  · rw [if_pos h1, if_pos h1]
    rfl
  rw [if_neg h1, if_neg h1]
  by_cases h2 : z = "cut"
  · rw [if_pos h2, if_pos h2]
    rfl
  rw [if_neg h2, if_neg h2]
  by_cases h3 : z = "away"
  · rw [if_pos h3, if_pos h3]
    rfl
  rw [if_neg h3, if_neg h3]
  by_cases h4 : z = "ceiling"
  · rw [if_pos h4, decide_eq_true h4]
    rfl
  · rw [if_neg h4, decide_eq_false h4]
    rfl
theorem goes_none {z : Str} {k : Nat} (h : halvL.lookup z = none) (hk : baseK z = k) (b p : Int) : goesUp z b p = kUp k b := by
  unfold goesUp
  rw [h, ← hk]
  exact base_k z b
theorem goes_some {z y : Str} {k : Nat} (h : halvL.lookup z = some y) (hk : baseK y = k) (b p : Int) : goesUp z b p = if p = 0 then kUp k b else decide (0 < p) := by
  unfold goesUp
  rw [h, ← hk, ← base_k]
theorem mirr_of {z y : Str} (h : (mirrL.lookup z).getD z = y) : mirr z = y := h
theorem goes_mirr {z : Str} (hz : z ∈ waysL) (b p : Int) : goesUp (mirr z) (-b - 1) (-p) = !goesUp z b p := by
  rcases way_cases hz with rfl | rfl | rfl | rfl | rfl | rfl | rfl | rfl | rfl
  · rw [mirr_of (y := "ceiling") (by decide +kernel), goes_none (k := 3) (by decide +kernel) (by decide +kernel), goes_none (k := 4) (by decide +kernel) (by decide +kernel)]
    rfl
  · rw [mirr_of (y := "floor") (by decide +kernel), goes_none (k := 4) (by decide +kernel) (by decide +kernel), goes_none (k := 3) (by decide +kernel) (by decide +kernel)]
    rfl
  · rw [mirr_of (y := "cut") (by decide +kernel), goes_none (k := 1) (by decide +kernel) (by decide +kernel), goes_none (k := 1) (by decide +kernel) (by decide +kernel)]
    show decide (-b - 1 < 0) = !decide (b < 0)
    by_cases h : b < 0
    · rw [decide_eq_true h, decide_eq_false (by omega)]; rfl
    · rw [decide_eq_false h, decide_eq_true (by omega)]; rfl
  · rw [mirr_of (y := "away") (by decide +kernel), goes_none (k := 2) (by decide +kernel) (by decide +kernel), goes_none (k := 2) (by decide +kernel) (by decide +kernel)]
    show decide (0 ≤ -b - 1) = !decide (0 ≤ b)
    by_cases h : 0 ≤ b
    · rw [decide_eq_true h, decide_eq_false (by omega)]; rfl
    · rw [decide_eq_false h, decide_eq_true (by omega)]; rfl
  · rw [mirr_of (y := "halfdown") (by decide +kernel), goes_some (k := 4) (y := "floor") (by decide +kernel) (by decide +kernel), goes_some (k := 3) (y := "ceiling") (by decide +kernel) (by decide +kernel)]
    by_cases h : p = 0
    · rw [if_pos h, if_pos (by omega)]; rfl
    · rw [if_neg h, if_neg (by omega)]
      by_cases h : 0 < p
      · rw [decide_eq_true h, decide_eq_false (by omega)]; rfl
      · rw [decide_eq_false h, decide_eq_true (by omega)]; rfl
  · rw [mirr_of (y := "halfup") (by decide +kernel), goes_some (k := 3) (y := "ceiling") (by decide +kernel) (by decide +kernel), goes_some (k := 4) (y := "floor") (by decide +kernel) (by decide +kernel)]
    by_cases h : p = 0
    · rw [if_pos h, if_pos (by omega)]; rfl
    · rw [if_neg h, if_neg (by omega)]
      by_cases h : 0 < p
      · rw [decide_eq_true h, decide_eq_false (by omega)]; rfl
      · rw [decide_eq_false h, decide_eq_true (by omega)]; rfl
  · rw [mirr_of (y := "halfeven") (by decide +kernel), goes_some (k := 0) (y := "even") (by decide +kernel) (by decide +kernel), goes_some (k := 0) (y := "even") (by decide +kernel) (by decide +kernel)]
    by_cases h : p = 0
    · rw [if_pos h, if_pos (by omega)]
      show decide ((-b - 1) % 2 = 1) = !decide (b % 2 = 1)
      by_cases h : b % 2 = 1
      · rw [decide_eq_true h, decide_eq_false (by omega)]; rfl
      · rw [decide_eq_false h, decide_eq_true (by omega)]; rfl
    · rw [if_neg h, if_neg (by omega)]
      by_cases h : 0 < p
      · rw [decide_eq_true h, decide_eq_false (by omega)]; rfl
      · rw [decide_eq_false h, decide_eq_true (by omega)]; rfl
  · rw [mirr_of (y := "halfaway") (by decide +kernel), goes_some (k := 2) (y := "away") (by decide +kernel) (by decide +kernel), goes_some (k := 2) (y := "away") (by decide +kernel) (by decide +kernel)]
    by_cases h : p = 0
    · rw [if_pos h, if_pos (by omega)]
      show decide (0 ≤ -b - 1) = !decide (0 ≤ b)
      by_cases h : 0 ≤ b
      · rw [decide_eq_true h, decide_eq_false (by omega)]; rfl
      · rw [decide_eq_false h, decide_eq_true (by omega)]; rfl
    · rw [if_neg h, if_neg (by omega)]
      by_cases h : 0 < p
      · rw [decide_eq_true h, decide_eq_false (by omega)]; rfl
      · rw [decide_eq_false h, decide_eq_true (by omega)]; rfl
  · rw [mirr_of (y := "halfcut") (by decide +kernel), goes_some (k := 1) (y := "cut") (by decide +kernel) (by decide +kernel), goes_some (k := 1) (y := "cut") (by decide +kernel) (by decide +kernel)]
    by_cases h : p = 0
    · rw [if_pos h, if_pos (by omega)]
      show decide (-b - 1 < 0) = !decide (b < 0)
      by_cases h : b < 0
      · rw [decide_eq_true h, decide_eq_false (by omega)]; rfl
      · rw [decide_eq_false h, decide_eq_true (by omega)]; rfl
    · rw [if_neg h, if_neg (by omega)]
      by_cases h : 0 < p
      · rw [decide_eq_true h, decide_eq_false (by omega)]; rfl
      · rw [decide_eq_false h, decide_eq_true (by omega)]; rfl
theorem mirr_mem {z : Str} (hz : z ∈ waysL) : mirr z ∈ waysL := by
  rcases way_cases hz with rfl | rfl | rfl | rfl | rfl | rfl | rfl | rfl | rfl <;> decide +kernel
theorem near_mirr {n d : Int} {z : Str} (h0 : 0 < d) (hz : z ∈ waysL) : near (-n) d (mirr z) = -near n d z := by
  have r0 := Int.emod_nonneg n (show d ≠ 0 by omega)
  have r1 := Int.emod_lt_of_pos n h0
  have em := Int.emod_add_mul_ediv n d
  unfold near
  by_cases h : n % d = 0
  · have e1 : (-n) % d = 0 := Int.emod_eq_zero_of_dvd ((Int.dvd_neg).mpr (Int.dvd_of_emod_eq_zero h))
    rw [if_pos h, if_pos e1, Int.neg_ediv_of_dvd (Int.dvd_of_emod_eq_zero h)]
  · have e3 : -n = (d - n % d) + d * (-(n / d) - 1) := by
      rw [Int.mul_sub, Int.mul_neg]
      omega
    have e1 : (-n) % d = d - n % d := by
      rw [e3, Int.add_mul_emod_self_left, Int.emod_eq_of_lt (by omega) (by omega)]
    have e2 : (-n) / d = -(n / d) - 1 := by
      rw [e3, Int.add_mul_ediv_left _ _ (by omega), Int.ediv_eq_zero_of_lt (by omega) (by omega)]
      omega
    rw [if_neg h, e1, e2, if_neg (by omega)]
    have e4 : 2 * (d - n % d) - d = -(2 * (n % d) - d) := by omega
    rw [e4, goes_mirr hz]
    cases goesUp z (n / d) (2 * (n % d) - d)
    · show (if true = true then -(n / d) - 1 + 1 else _) = -(if false = true then _ else n / d)
      rw [if_pos rfl, if_neg (by decide)]
      omega
    · show (if false = true then _ else -(n / d) - 1) = -(if true = true then n / d + 1 else _)
      rw [if_pos rfl, if_neg (by decide)]
      omega
end Own

/-! own layer, of no law: OWNE: an error class whose __init__ keeps nothing. -/
namespace Own
open PySem PySem.Spec PyProof.Rows L2 LamX NdefX
section
variable {X : Cx}
theorem del_new {H : Hp} {a : Addr} {o : HO} (h : H a = none) : del (upd H a o) a = H := by
  funext b
  by_cases e : b = a
  · rw [e, del_same, h]
  · rw [del_ne e, upd_ne e]
theorem mk_endN {pins : List (Addr × Obj)} {σ : L2.St} {H1 H2 : Hp} {Q : XK} {hp hp2 h2 : Heap} {g1 g2 : Array GenState} {d1 d2 : Drawn} {t1 t2 : Nat} {os1 os2 : OsState} {a C : Addr} (T : Raises X (.ref C)) (I1 : Inv X pins σ H1 ⟨hp, g1, d1, t1, os1⟩)
    (ha : hp.objs.size ≤ a) (k : ∀ b o, hp.get? b = some o → hp2.get? b = some o) (un : Un (frs X.stack) [] (upd H1 a (exo a C none)) H2 hp2 h2) (hok : HOk X.prog X.w H2 h2) (ho : os2 = os1) (hb : AllBare g2)
    (ea : H2 a = some (exo a C none)) (q : Q (.ref C) none (del H2 a)) : MkP X pins σ Q (.ref a) ⟨h2, g2, d2, t2, os2⟩ := by
  obtain ⟨t0, hoe⟩ := exo_at hok ea
  have hn : H1 a = none := I1.hok.fresh ha
  obtain ⟨G, g1', g2'⟩ := restrict h2 fun b => decide (b ≠ a)
  have gk : ∀ b, b ≠ a → G.get? b = h2.get? b := fun b hb => g1' b (decide_eq_true hb)
  have ge : G.get? a = none := g2' a (by simp)
  have nha : ∀ {b : Addr} {o : Obj}, hp.get? b = some o → b ≠ a := fun {b o} z => Nat.ne_of_lt (Nat.lt_of_lt_of_le (Heap.lt_size z) ha)
  have up : ∀ {b : Addr}, b ≠ a → H1 b = none → upd H1 a (exo a C none) b = none := fun {b} hb n => by rw [upd_ne hb]; exact n
  have U : Un (frs X.stack) [] H1 (del H2 a) hp G := {
    keep := fun b o z n hf hx => by
      rw [gk b (nha z)]
      exact un.keep b o (k b o z) (up (nha z) n) hf hx
    slot := fun b o z n hf hx => by
      rw [gk b (nha z)]
      exact un.slot b o (k b o z) (up (nha z) n) hf hx
    free := fun b o z n hx => by
      rw [del_ne (nha z)]
      exact un.free b o (k b o z) (up (nha z) n) hx
    there := fun b o z hx => by
      rw [gk b (nha z)]
      exact un.there b o (k b o z) hx
    tups := fun b xs z => by
      rw [del_ne (ne_of_none z hn)]
      exact un.tups b xs (by rw [upd_ne (ne_of_none z hn)]; exact z)
    frzs := fun b o v z => by
      rw [del_ne (ne_of_none z hn)]
      exact un.frzs b o v (by rw [upd_ne (ne_of_none z hn)]; exact z)
    tbls := fun b ps z => by
      rw [del_ne (ne_of_none z hn)]
      exact un.tbls b ps (by rw [upd_ne (ne_of_none z hn)]; exact z) }
  have hok3 : HOk X.prog X.w (del H2 a) G := fun b o z => by
    have hba : b ≠ a := fun e => by
      rw [e, del_same] at z
      cases z
    rw [del_ne hba] at z
    have noa : ∀ {c : Addr}, H2 c = some (.own b) → c ≠ a := fun {c} hc => at_ne ea hc exo_own
    exact (hok b o z).stay (fun c v hc y => by
        have hca : c ≠ a := by
          rcases hc with hc | hc
          · rw [hc]
            exact hba
          · exact noa hc
        rw [gk c hca]
        exact y)
      (fun c hc => by rw [del_ne (noa hc)]; exact hc) (fun c xs hc => by rw [del_ne (at_ne ea hc exo_tup)]; exact hc)
  have J : Inv X pins σ (del H2 a) ⟨G, g2, d2, t2, os2⟩ := I1.call' (ch := []) ho U hok3 hb (fun b z => absurd z (by simp))
  refine ⟨a, _, _, ⟨G, g2, d2, t2, os2⟩, _, .ref C, none, rfl, J, fun b o z => ?_, ge, hoe, ⟨rfl, rfl⟩, rfl, rfl, del_same, rfl, hb, T, q⟩
  by_cases hba : b = a
  · rw [hba, ge] at z
    cases z
  · exact (gk b hba).symm.trans z
/-- C(), an own error class whose __init__ takes self alone and does nothing -/
theorem pmk_oex0 {x : Str} {C fI : Addr} {k : Nat} {fd : FuncData} {sp : Sp} {p pos : Pos} (T : OexC X.K C) (iC : PySem.W.findIn X.K (.ref C) "__init__" = some (some (.ref fI))) (tI : PySem.W.typeIn X.K (.ref fI) = some (.type "function"))
    (F1 : FnOk X.prog X.w X.K X.mg X.base CX0 k fI fd ["self"] sp) (hr : Room (k + 1) X.A) (hb : Binds X.K fd ["self"] []) (hg : Gl X x) (hm : X.mg x = some (.ref C)) (hdb : (x == ("__debug__" : Str)) = false := by decide) :
    PMk X (.Call (.Name x p) [] [] pos) (fun _ H Q => ∀ a, H a = none → sp [.ref a] (upd H a (exo a C none)) (fun v H2 => v = .non ∧ H2 a = some (exo a C none) ∧ Q (.ref C) none (del H2 a)) (fun _ _ _ => False)) := by
  intro pins s σ H Q I h
  obtain ⟨nm, q, N, bs, bm, sn, sub, ab, col, dd, k0, k1, k2, k3, k5, hC, hbm⟩ := T.cls
  refine wpAny_Call_Name_kw (ld_glob I hg hm ?_ hdb)
  refine PySem.W.callWith_K0 I.kIn T.kC ?_
  show wpAny _ _ (call (.ref C) []) _ _ _
  obtain ⟨hp, g, dr, tk, os⟩ := s
  have hsz : hp.objs.size ≤ hp.objs.size + 1 := Nat.le_succ _
  have hq := h (hp.objs.size + 1) (I.hok.fresh hsz)
  have kk : ∀ b o, hp.get? b = some o → ((hp.push (PySem.W.kdv_tup [])).push (PySem.HandSPX.excO C hp.objs.size)).get? b = some o := fun b o e => Heap.get?_push_of_some _ (Heap.get?_push_of_some _ e)
  have hget : ((hp.push (PySem.W.kdv_tup [])).push (PySem.HandSPX.excO C hp.objs.size)).get? (hp.objs.size + 1) = some (PySem.HandSPX.excO C hp.objs.size) := by heap_get
  have I2 : Inv X pins σ (upd H (hp.objs.size + 1) (exo (hp.objs.size + 1) C none)) ⟨(hp.push (PySem.W.kdv_tup [])).push (PySem.HandSPX.excO C hp.objs.size), g, dr, tk, os⟩ :=
    I.laid (t' := tk) (a := hp.objs.size + 1) (o := exo (hp.objs.size + 1) C none) (h' := (hp.push (PySem.W.kdv_tup [])).push (PySem.HandSPX.excO C hp.objs.size)) kk hsz (exo_ok hget)
  have r2 : Vals [V.ref (hp.objs.size + 1)] [Value.ref (hp.objs.size + 1)] := .cons rfl .nil
  refine wpAny_call (PySem.HandSPX.call_own F.excBase_ValueError (fun Y => PySem.HandSPX.refsVE_contains Y bm hbm) (I.kIn _ _ hC) (PySem.W.looks_findIn I.kIn iC) (fun self => PySem.W.bind_fn I.kIn self tI) (by show 0 ≤ sizeLine; exact Nat.zero_le _)
    (codeAny_mono (F1.run _ X.stack _ _ ⟨[Value.ref (hp.objs.size + 1)], []⟩ [Value.ref (hp.objs.size + 1)] _ _ (fun _ _ _ => False) (hr.make C [] []) (I2.env0.make C [] []) (hb _ [Value.ref (hp.objs.size + 1)] I2.kIn rfl) r2 hq) fun r s' hq' => ?_))
  cases r with
  | error er => exact False.elim hq'
  | ok fl =>
    cases fl with
    | ret u =>
      obtain ⟨v, H2, os2, bare2, un2, hok2, rv, ev, ea, q2⟩ := hq'
      subst ev
      obtain ⟨h2, g2, d2, t2, os'⟩ := s'
      exact ⟨rv, mk_endN (raises_own T.exC T.tyC) I hsz kk un2 hok2 os2 bare2 ea q2⟩
    | next => exact False.elim hq'
    | brk => exact False.elim hq'
    | cont => exact False.elim hq'
end
/-- an error class without fields -/
structure ErrN (P : Program) (w : World) (K : PySem.W.Frag) (mg : Str → Option Value) (base : Heap) (x : Str) (C : Addr) : Prop where
  g : mg x = some (.ref C)
  oex : OexC K C
  ini : ∃ (fI : Addr) (fd : FuncData), PySem.W.findIn K (.ref C) "__init__" = some (some (.ref fI)) ∧ PySem.W.typeIn K (.ref fI) = some (.type "function") ∧ FnOk P w K mg base CX0 1 fI fd ["self"] (fun vs H Q _ => ∃ a : Addr, vs = [.ref a] ∧ Q .non H) ∧ Binds K fd ["self"] []
section
variable {X : Cx} {x : Str} {j : Nat} {C : Addr} {p pos : Pos}
theorem pmk_errN (D : ErrN X.prog X.w X.K X.mg X.base x C) (hr : Room j X.A) (hj : 2 ≤ j) (hg : Gl X x) (hdb : (x == ("__debug__" : Str)) = false := by decide) : PMk X (.Call (.Name x p) [] [] pos) (fun _ H Q => Q (.ref C) none H) := by
  obtain ⟨fI, fd, iC, tI, F1, b⟩ := D.ini
  intro pins s σ H Q I h
  exact pmk_oex0 D.oex iC tI F1 (hr.mono hj) b hg D.g hdb pins s σ H Q I fun a na => ⟨a, rfl, rfl, upd_same, by rw [del_new na]; exact h⟩
end
end Own

/-! own layer, of no law: OWN17: errors of none, one or two fields, made in every way and held; isinstance of any held error. -/
namespace Own
open PySem PySem.Spec PyProof.Rows L2 LamX NdefX
theorem vals_rev : ∀ {xs : List V} {us : List Value}, Vals xs us → Vals xs.reverse us.reverse
  | _, _, .nil => .nil
  | _, _, .cons a r => by
    rw [List.reverse_cons, List.reverse_cons]
    exact (vals_rev r).append (.cons a .nil)
/-- what a class of errors is, its __init__ apart -/
structure ErB (K : PySem.W.Frag) (mg : Str → Option Value) (x : Str) (C : Addr) : Prop where
  g : mg x = some (.ref C)
  oex : OexC K C
  xf : XfC K C
/-- an error of one field -/
structure Er1 (P : Program) (w : World) (K : PySem.W.Frag) (mg : Str → Option Value) (base : Heap) (x fld : Str) (C : Addr) : Prop where
  b : ErB K mg x C
  noV : PySem.W.findIn K (.ref C) fld = some none
  ini : ∃ (fI : Addr) (fd : FuncData), PySem.W.findIn K (.ref C) "__init__" = some (some (.ref fI)) ∧ PySem.W.typeIn K (.ref fI) = some (.type "function") ∧ FnOk P w K mg base CX0 1 fI fd ["self", fld] (spErr C fld) ∧
    Binds K fd ["self", fld] [] ∧ KBn K fd ["self", fld] 1 [fld] (fun us ws => us ++ ws) (fun vs zs => vs ++ zs)
def spErr0 : Sp := fun vs H Q _ => ∃ a : Addr, vs = [.ref a] ∧ Q .non H
/-- an error without fields -/
structure Er0 (P : Program) (w : World) (K : PySem.W.Frag) (mg : Str → Option Value) (base : Heap) (x : Str) (C : Addr) : Prop where
  b : ErB K mg x C
  ini : ∃ (fI : Addr) (fd : FuncData), PySem.W.findIn K (.ref C) "__init__" = some (some (.ref fI)) ∧ PySem.W.typeIn K (.ref fI) = some (.type "function") ∧ FnOk P w K mg base CX0 1 fI fd ["self"] spErr0 ∧ Binds K fd ["self"] []
def spErr2 (C : Addr) (f g : Str) : Sp := fun vs H Q _ => ∃ (a : Addr) (y z : V), vs = [.ref a, y, z] ∧ H a = some (exo a C none) ∧ ∀ (dx : Addr) (H' : Hp), H dx = none → dx ≠ a → (∀ b, b ≠ a → b ≠ dx → H' b = H b) →
  H' a = some (exo a C (some dx)) → H' dx = some (exd dx [(g, z), (f, y)]) → Q .non H'
/-- an error of two fields -/
structure Er2 (P : Program) (w : World) (K : PySem.W.Frag) (mg : Str → Option Value) (base : Heap) (x f g : Str) (C : Addr) : Prop where
  b : ErB K mg x C
  no1 : PySem.W.findIn K (.ref C) f = some none
  no2 : PySem.W.findIn K (.ref C) g = some none
  ini : ∃ (fI : Addr) (fd : FuncData), PySem.W.findIn K (.ref C) "__init__" = some (some (.ref fI)) ∧ PySem.W.typeIn K (.ref fI) = some (.type "function") ∧ FnOk P w K mg base CX0 1 fI fd ["self", f, g] (spErr2 C f g) ∧
    Binds K fd ["self", f, g] [] ∧ KBn K fd ["self", f, g] 2 [g] (fun us ws => us ++ ws) (fun vs zs => vs ++ zs) ∧ KBn K fd ["self", f, g] 1 [g, f] (fun us ws => us ++ ws.reverse) (fun vs zs => vs ++ zs.reverse)
/-- the dict of an error stands -/
def Kept (H : Hp) (a C : Addr) (fs : List (Str × V)) : Prop := ∃ dd : Addr, H a = some (exo a C (some dd)) ∧ H dd = some (exd dd fs)
theorem Kept.same {H H' : Hp} {a C : Addr} {fs : List (Str × V)} (h : Kept H a C fs) (s : Same H H') : Kept H' a C fs := by
  obtain ⟨dd, e1, e2⟩ := h
  exact ⟨dd, s _ _ e1, s _ _ e2⟩
theorem Kept.held {H : Hp} {a C : Addr} {fs : List (Str × V)} (h : Kept H a C fs) : Held H a C := by
  obtain ⟨dd, e1, e2⟩ := h
  exact .inr ⟨dd, fs, e1, e2⟩
theorem Held.same {H H' : Hp} {a C : Addr} (h : Held H a C) (s : Same H H') : Held H' a C := by
  rcases h with e | ⟨dd, fs, e1, e2⟩
  · exact .inl (s _ _ e)
  · exact .inr ⟨dd, fs, s _ _ e1, s _ _ e2⟩
/-- what comes of a making: an error that keeps fs -/
def Made (C : Addr) (fs : List (Str × V)) (H : Hp) (Q : VK) : Prop := ∀ (a : Addr) (H' : Hp), Same H H' → H a = none → Kept H' a C fs → Q (.ref a) H'
section
variable {X : Cx} {x f g : Str} {j n : Nat} {C : Addr} {e e2 : Expr} {te te2 : TE} {p pos p1 p2 : Pos}
theorem made_1 {y : V} {H : Hp} {Q : VK} (h : Made C [(f, y)] H Q) : [y].length ≤ 1000 ∧ ∀ a, H a = none → spErr C f (V.ref a :: ([y] ++ [])) (upd H a (exo a C none)) (fun z H2 => z = .non ∧ Q (.ref a) H2) (fun _ _ _ => False) :=
  made_err fun a d H' s na nd ea ed => h a H' s na ⟨d, ea, ed⟩
theorem same_2 {H H' : Hp} {a dx : Addr} {o : HO} (na : H a = none) (nd : (upd H a o) dx = none) (hh : ∀ b, b ≠ a → b ≠ dx → H' b = (upd H a o) b) : Same H H' := fun b u eb => by
  have ba := ne_of_none eb na
  have bd : b ≠ dx := fun z => by
    rw [← z, upd_ne ba, eb] at nd
    cases nd
  rw [hh b ba bd, upd_ne ba]
  exact eb
theorem made_2 {y z : V} {H : Hp} {Q : VK} (h : Made C [(g, z), (f, y)] H Q) : ∀ a, H a = none → spErr2 C f g [V.ref a, y, z] (upd H a (exo a C none)) (fun z H2 => z = .non ∧ Q (.ref a) H2) (fun _ _ _ => False) :=
  fun a na => ⟨a, y, z, rfl, upd_same, fun dx H' nd ne hh ea ed => ⟨rfl, h a H' (same_2 na nd hh) na ⟨dx, ea, ed⟩⟩⟩
/-- X(e) -/
theorem pe_e1 (D : Er1 X.prog X.w X.K X.mg X.base x f C) (hr : Room j X.A) (hj : 2 ≤ j) (hg : Gl X x) (he : PE X e te) (hdb : (x == ("__debug__" : Str)) = false := by decide)
    (hst : starEach (e :: []) X.env = (false, eval e X.env) :: starEach [] X.env := by rfl) (hpl : (backTo pos (starEach [] X.env)).any (·.1) = false := by rfl) :
    PE X (.Call (.Name x p) [e] [] pos) (tOexV C (spErr C f) [] (tCons te tNil)) := by
  obtain ⟨fI, fd, iC, tI, F1, b, kb⟩ := D.ini
  exact pe_oexV D.b.oex iC tI F1 (hr.mono hj) b .nil (fun _ _ _ _ _ _ _ z => z.elim) hg D.b.g (pa_cons he pa_nil hst) hdb hst hpl
/-- X(f = e) -/
theorem pe_e1K (D : Er1 X.prog X.w X.K X.mg X.base x f C) (hr : Room j X.A) (hj : 2 ≤ j) (hg : Gl X x) (he : PE X e te) (hdb : (x == ("__debug__" : Str)) = false := by decide) :
    PE X (.Call (.Name x p) [] [⟨some f, e, p1⟩] pos) (tErrK C 0 1 (spErr C f) (fun vs zs => vs ++ zs) tNil (tCons te tNil)) := by
  obtain ⟨fI, fd, iC, tI, F1, b, kb⟩ := D.ini
  exact pe_errK0 (ks := [f]) D.b.oex iC tI F1 (hr.mono hj) hg D.b.g kb (fun _ _ _ _ _ _ _ z => z.elim) (pk_cons he pk_nil) (by rfl) (by rfl) hdb (by rfl)
theorem made_1K {y : V} {H : Hp} {Q : VK} (h : Made C [(f, y)] H Q) : ([] : List V).length = 0 ∧ [y].length = 1 ∧ ([] : List V).length ≤ 1000 ∧
    ∀ a, H a = none → spErr C f ((fun vs zs => vs ++ zs) (V.ref a :: []) [y]) (upd H a (exo a C none)) (fun z H3 => z = .non ∧ Q (.ref a) H3) (fun _ _ _ => False) :=
  ⟨rfl, rfl, Nat.zero_le _, (made_1 h).2⟩
/-- X(e, e2) -/
theorem pe_e2 (D : Er2 X.prog X.w X.K X.mg X.base x f g C) (hr : Room j X.A) (hj : 2 ≤ j) (hg : Gl X x) (he : PE X e te) (he2 : PE X e2 te2) (hdb : (x == ("__debug__" : Str)) = false := by decide)
    (hst : starEach (e :: [e2]) X.env = (false, eval e X.env) :: starEach [e2] X.env := by rfl) (hst2 : starEach (e2 :: []) X.env = (false, eval e2 X.env) :: starEach [] X.env := by rfl) (hpl : (backTo pos (starEach [e2] X.env)).any (·.1) = false := by rfl) :
    PE X (.Call (.Name x p) [e, e2] [] pos) (tOexV C (spErr2 C f g) [] (tCons te (tCons te2 tNil))) := by
  obtain ⟨fI, fd, iC, tI, F1, b, kb⟩ := D.ini
  exact pe_oexV D.b.oex iC tI F1 (hr.mono hj) b .nil (fun _ _ _ _ _ _ _ z => z.elim) hg D.b.g (pa_cons he (pa_cons he2 pa_nil hst2) hst) hdb hst hpl
theorem made_2P {y z : V} {H : Hp} {Q : VK} (h : Made C [(g, z), (f, y)] H Q) : [y, z].length ≤ 1000 ∧ ∀ a, H a = none → spErr2 C f g (V.ref a :: ([y, z] ++ [])) (upd H a (exo a C none)) (fun z H2 => z = .non ∧ Q (.ref a) H2) (fun _ _ _ => False) :=
  ⟨by show 2 ≤ 1000; decide, made_2 h⟩
/-- X(e, g = e2) -/
theorem pe_e2K (D : Er2 X.prog X.w X.K X.mg X.base x f g C) (hr : Room j X.A) (hj : 2 ≤ j) (hg : Gl X x) (he : PE X e te) (he2 : PE X e2 te2) (hdb : (x == ("__debug__" : Str)) = false := by decide)
    (hst : starEach (e :: []) X.env = (false, eval e X.env) :: starEach [] X.env := by rfl)
    (hpl : ((backTo pos (starEach [e] X.env)).any (·.1) || (backToKw pos (keywordEach [⟨some g, e2, p1⟩] X.env)).any (·.1.isNone)) = false := by rfl) :
    PE X (.Call (.Name x p) [e] [⟨some g, e2, p1⟩] pos) (tErrK C 1 1 (spErr2 C f g) (fun vs zs => vs ++ zs) (tCons te tNil) (tCons te2 tNil)) := by
  obtain ⟨fI, fd, iC, tI, F1, b, kb, k2⟩ := D.ini
  exact pe_errK (ks := [g]) D.b.oex iC tI F1 (hr.mono hj) hg D.b.g kb (fun _ _ _ _ _ _ _ z => z.elim) (pa_cons he pa_nil hst) (pk_cons he2 pk_nil) (by rfl) (by rfl) hdb hst hpl
theorem made_2K {y z : V} {H : Hp} {Q : VK} (h : Made C [(g, z), (f, y)] H Q) : [y].length = 1 ∧ [z].length = 1 ∧ [y].length ≤ 1000 ∧
    ∀ a, H a = none → spErr2 C f g ((fun vs zs => vs ++ zs) (V.ref a :: [y]) [z]) (upd H a (exo a C none)) (fun z H3 => z = .non ∧ Q (.ref a) H3) (fun _ _ _ => False) :=
  ⟨rfl, rfl, by show 1 ≤ 1000; decide, made_2 h⟩
/-- X(g = e, f = e2) -/
theorem pe_e2S (D : Er2 X.prog X.w X.K X.mg X.base x f g C) (hr : Room j X.A) (hj : 2 ≤ j) (hg : Gl X x) (he : PE X e te) (he2 : PE X e2 te2) (hdb : (x == ("__debug__" : Str)) = false := by decide) :
    PE X (.Call (.Name x p) [] [⟨some g, e, p1⟩, ⟨some f, e2, p2⟩] pos) (tErrK C 0 2 (spErr2 C f g) (fun vs zs => vs ++ zs.reverse) tNil (tCons te (tCons te2 tNil))) := by
  obtain ⟨fI, fd, iC, tI, F1, b, kb, k2⟩ := D.ini
  exact pe_errK0 (ks := [g, f]) D.b.oex iC tI F1 (hr.mono hj) hg D.b.g k2 (fun _ _ _ _ _ _ _ z => z.elim) (pk_cons he (pk_cons he2 pk_nil)) (by rfl) (by rfl) hdb (by rfl)
theorem made_2S {y z : V} {H : Hp} {Q : VK} (h : Made C [(g, z), (f, y)] H Q) : ([] : List V).length = 0 ∧ [z, y].length = 2 ∧ ([] : List V).length ≤ 1000 ∧
    ∀ a, H a = none → spErr2 C f g ((fun vs zs => vs ++ zs.reverse) (V.ref a :: []) [z, y]) (upd H a (exo a C none)) (fun z H3 => z = .non ∧ Q (.ref a) H3) (fun _ _ _ => False) :=
  ⟨rfl, rfl, Nat.zero_le _, made_2 h⟩
/-- X() -/
theorem pe_e0 (D : Er0 X.prog X.w X.K X.mg X.base x C) (hr : Room j X.A) (hj : 2 ≤ j) (hg : Gl X x) (hdb : (x == ("__debug__" : Str)) = false := by decide) :
    PE X (.Call (.Name x p) [] [] pos) (tOexV C spErr0 [] tNil) := by
  obtain ⟨fI, fd, iC, tI, F1, b⟩ := D.ini
  exact pe_oexV0 D.b.oex iC tI F1 (hr.mono hj) b .nil (fun _ _ _ _ _ _ _ z => z.elim) hg D.b.g hdb
theorem made_0 {H : Hp} {Q : VK} (h : ∀ (a : Addr) (H' : Hp), Same H H' → H a = none → Held H' a C → Q (.ref a) H') : ([] : List V).length ≤ 1000 ∧
    ∀ a, H a = none → spErr0 (V.ref a :: ([] ++ [])) (upd H a (exo a C none)) (fun z H2 => z = .non ∧ Q (.ref a) H2) (fun _ _ _ => False) :=
  ⟨Nat.zero_le _, fun a na => ⟨a, rfl, rfl, h a _ (same_new na) na (.inl upd_same)⟩⟩
/-- raise X() -/
theorem Er0.asN (D : Er0 X.prog X.w X.K X.mg X.base x C) : ErrN X.prog X.w X.K X.mg X.base x C := by
  obtain ⟨fI, fd, h⟩ := D.ini
  exact ⟨D.b.g, D.b.oex, ⟨fI, fd, h⟩⟩
/-- raise X(e) -/
theorem pmk_e1 (D : Er1 X.prog X.w X.K X.mg X.base x f C) (hr : Room j X.A) (hj : 2 ≤ j) (hg : Gl X x) (he : PE X e te) (hdb : (x == ("__debug__" : Str)) = false := by decide)
    (hst : starEach (e :: []) X.env = (false, eval e X.env) :: starEach [] X.env := by rfl) (hpl : (backTo pos (starEach [] X.env)).any (·.1) = false := by rfl) :
    PMk X (.Call (.Name x p) [e] [] pos) (tMkO C (spErr C f) [] (tCons te tNil)) := by
  obtain ⟨fI, fd, iC, tI, F1, b, _⟩ := D.ini
  exact pmk_oex D.b.oex iC tI F1 (hr.mono hj) b .nil (fun _ _ _ _ _ _ _ z => z.elim) hg D.b.g (pa_cons he pa_nil hst) hdb hst hpl
/-- raise X(e, e2) -/
theorem pmk_e2 (D : Er2 X.prog X.w X.K X.mg X.base x f g C) (hr : Room j X.A) (hj : 2 ≤ j) (hg : Gl X x) (he : PE X e te) (he2 : PE X e2 te2) (hdb : (x == ("__debug__" : Str)) = false := by decide)
    (hst : starEach (e :: [e2]) X.env = (false, eval e X.env) :: starEach [e2] X.env := by rfl) (hst2 : starEach (e2 :: []) X.env = (false, eval e2 X.env) :: starEach [] X.env := by rfl) (hpl : (backTo pos (starEach [e2] X.env)).any (·.1) = false := by rfl) :
    PMk X (.Call (.Name x p) [e, e2] [] pos) (tMkO C (spErr2 C f g) [] (tCons te (tCons te2 tNil))) := by
  obtain ⟨fI, fd, iC, tI, F1, b, _⟩ := D.ini
  exact pmk_oex D.b.oex iC tI F1 (hr.mono hj) b .nil (fun _ _ _ _ _ _ _ z => z.elim) hg D.b.g (pa_cons he (pa_cons he2 pa_nil hst2) hst) hdb hst hpl
/-- such an error leaves -/
def Bad2 (C : Addr) (f g : Str) (y z : V) (H : Hp) (E : XK) : Prop := ∀ (d : Addr) (H' : Hp), Same H H' → H d = none → H' d = some (.xd [(g, z), (f, y)]) → E (.ref C) (some d) H'
theorem bad_2 {y z : V} {H : Hp} {Q : XK} (h : Bad2 C f g y z H Q) : ∀ a, H a = none → spErr2 C f g [V.ref a, y, z] (upd H a (exo a C none))
    (fun v H2 => v = .non ∧ ∃ (d : Addr) (fs : List (Str × V)), H2 a = some (exo a C (some d)) ∧ H2 d = some (exd d fs) ∧ H d = none ∧ Q (.ref C) (some d) (upd (del H2 a) d (.xd fs))) (fun _ _ _ => False) := by
  refine fun a na => ⟨a, y, z, rfl, upd_same, fun dx H' nd ne hh ea ed => ⟨rfl, dx, _, ea, ed, ?_, ?_⟩⟩
  · rwa [upd_ne ne] at nd
  · have nd0 : H dx = none := by rwa [upd_ne ne] at nd
    refine h dx _ (fun b o e => ?_) nd0 upd_same
    have b1 : b ≠ a := ne_of_none e na
    have b2 : b ≠ dx := ne_of_none e nd0
    rw [upd_ne b2, del_ne b1, hh b b1 b2, upd_ne b1]
    exact e
theorem bad_2P {y z : V} {H : Hp} {Q : XK} (h : Bad2 C f g y z H Q) : [y, z].length ≤ 1000 ∧ ∀ a, H a = none → spErr2 C f g (V.ref a :: ([y, z] ++ [])) (upd H a (exo a C none))
    (fun v H2 => v = .non ∧ ∃ (d : Addr) (fs : List (Str × V)), H2 a = some (exo a C (some d)) ∧ H2 d = some (exd d fs) ∧ H d = none ∧ Q (.ref C) (some d) (upd (del H2 a) d (.xd fs))) (fun _ _ _ => False) :=
  ⟨by show 2 ≤ 1000; decide, bad_2 h⟩
/-- raise X(g = e, f = e2) -/
theorem pmk_e2S (D : Er2 X.prog X.w X.K X.mg X.base x f g C) (hr : Room j X.A) (hj : 2 ≤ j) (hg : Gl X x) (he : PE X e te) (he2 : PE X e2 te2) (hdb : (x == ("__debug__" : Str)) = false := by decide) :
    PMk X (.Call (.Name x p) [] [⟨some g, e, p1⟩, ⟨some f, e2, p2⟩] pos) (tMkK C 2 (spErr2 C f g) (fun vs zs => vs ++ zs.reverse) (tCons te (tCons te2 tNil))) := by
  obtain ⟨fI, fd, iC, tI, F1, b, kb, k2⟩ := D.ini
  exact pmk_errK0 (ks := [g, f]) D.b.oex iC tI F1 (hr.mono hj) hg D.b.g k2 (fun _ _ _ _ _ _ _ z => z.elim) (pk_cons he (pk_cons he2 pk_nil)) (by rfl) (by rfl) hdb (by rfl)
theorem bad_2S {y z : V} {H : Hp} {Q : XK} (h : Bad2 C f g y z H Q) : [z, y].length = 2 ∧ ∀ a, H a = none → spErr2 C f g ((fun vs zs => vs ++ zs.reverse) [V.ref a] [z, y]) (upd H a (exo a C none))
    (fun v H2 => v = .non ∧ ∃ (d : Addr) (fs : List (Str × V)), H2 a = some (exo a C (some d)) ∧ H2 d = some (exd d fs) ∧ H d = none ∧ Q (.ref C) (some d) (upd (del H2 a) d (.xd fs))) (fun _ _ _ => False) :=
  ⟨rfl, bad_2 h⟩
/-- the same for an error that is held on -/
theorem mk_0 {H : Hp} {R : Addr → Hp → Prop} (h : ∀ (a : Addr) (H' : Hp), Same H H' → H a = none → Held H' a C → R a H') : ([] : List V).length ≤ 1000 ∧
    ∀ a, H a = none → spErr0 (V.ref a :: ([] ++ [])) (upd H a (exo a C none)) (fun z H2 => z = .non ∧ R a H2) (fun _ _ _ => False) :=
  ⟨Nat.zero_le _, fun a na => ⟨a, rfl, rfl, h a _ (same_new na) na (.inl upd_same)⟩⟩
theorem mk_1 {y : V} {H : Hp} {R : Addr → Hp → Prop} (h : ∀ (a : Addr) (H' : Hp), Same H H' → H a = none → Kept H' a C [(f, y)] → R a H') : [y].length ≤ 1000 ∧
    ∀ a, H a = none → spErr C f (V.ref a :: ([y] ++ [])) (upd H a (exo a C none)) (fun z H2 => z = .non ∧ R a H2) (fun _ _ _ => False) := by
  refine ⟨by show 1 ≤ 1000; decide, fun a na => ⟨a, y, rfl, upd_same, fun dx nd ne => ⟨rfl, ?_⟩⟩⟩
  have nd0 : H dx = none := by rwa [upd_ne ne] at nd
  refine h a _ (fun b o eb => ?_) na ⟨dx, upd_same, ?_⟩
  · have ba := ne_of_none eb na
    have bd := ne_of_none eb nd0
    rw [upd_ne ba, upd_ne bd, upd_ne ba]
    exact eb
  · rw [upd_ne ne]
    exact upd_same
theorem mk_2P {y z : V} {H : Hp} {R : Addr → Hp → Prop} (h : ∀ (a : Addr) (H' : Hp), Same H H' → H a = none → Kept H' a C [(g, z), (f, y)] → R a H') : [y, z].length ≤ 1000 ∧
    ∀ a, H a = none → spErr2 C f g (V.ref a :: ([y, z] ++ [])) (upd H a (exo a C none)) (fun z H2 => z = .non ∧ R a H2) (fun _ _ _ => False) :=
  ⟨by show 2 ≤ 1000; decide, fun a na => ⟨a, y, z, rfl, upd_same, fun dx H' nd ne hh ea ed => ⟨rfl, h a H' (same_2 na nd hh) na ⟨dx, ea, ed⟩⟩⟩⟩
/-- a field of what was just made -/
theorem got_of {fs : List (Str × V)} {n : Str} {v : V} {H : Hp} {Q : VK} (l : fs.lookup n = some v) (h : ∀ H', Same H H' → Q v H') :
    Made C fs H (fun x H1 => ∃ (a dd : Addr) (fs : List (Str × V)) (v : V), x = .ref a ∧ H1 a = some (exo a C (some dd)) ∧ H1 dd = some (exd dd fs) ∧ fs.lookup n = some v ∧ Q v H1) := fun a H' s na k => by
  obtain ⟨dd, e1, e2⟩ := k
  exact ⟨a, dd, fs, v, rfl, e1, e2, l, h H' s⟩
theorem lkA {n : Str} {v : V} {r : List (Str × V)} : (((n, v) :: r) : List (Str × V)).lookup n = some v := by simp [List.lookup]
theorem lkB {n m : Str} {v u : V} {r : List (Str × V)} (h : (n == m) = false) : (((m, u) :: (n, v) :: r) : List (Str × V)).lookup n = some v := by simp [List.lookup, h]
/-- isinstance(e, c), e any held error -/
def rHeldA (K : PySem.W.Frag) : List V → Hp → VK → Prop := fun xs H Q => ∃ (a D : Addr) (c : V) (cv : Value) (b : Bool), xs = [.ref a, c] ∧ ExcC K D ∧ Held H a D ∧ ClsV c cv ∧ PySem.W.kitOne K (.ref D) cv = some b ∧ Q (.bl b) H
theorem call_isHeldA {X : Cx} : CallR X (.builtin "isinstance") (rHeldA X.K) := by
  intro pins s σ H xs us Q I r h
  obtain ⟨a, D, c, cv, b, e, C, r1⟩ := h
  exact call_isHeld C pins s σ H xs us Q I r ⟨a, c, cv, b, e, r1⟩
end
end Own

/-! own layer, of no law: OWNQ: a pen with any names for its cells, its count and what is left. -/
namespace Own
open PySem PySem.Spec PyProof.Rows L2 LamX NdefX
def penG (a b c : Str) (p : Addr) (m l : Int) : List (Key × V) := [(Sum.inr a, V.ref p), (Sum.inr b, V.int m), (Sum.inr c, V.int l)]
/-- the three names are unlike -/
def Un3 (a b c : Str) : Prop := ¬ a = b ∧ ¬ a = c ∧ ¬ b = c
section
variable {a b c : Str} {p d : Addr} {m l m' l' : Int} {H H' : Hp} {B B' : Int}
theorem gpen_a (u : Un3 a b c) (h : H d = some (.dK (penG a b c p m l))) : DGet H d (V.str a) (some (.ref p)) := by
  have z := DGet.k (k := (Sum.inr a : Key)) h
  have e : valV (penG a b c p m l) (Sum.inr a : Key) = some (.ref p) := valV_pos rfl
  rw [e] at z
  exact z
theorem gpen_b (u : Un3 a b c) (h : H d = some (.dK (penG a b c p m l))) : DGet H d (V.str b) (some (.int m)) := by
  have z := DGet.k (k := (Sum.inr b : Key)) h
  have e : valV (penG a b c p m l) (Sum.inr b : Key) = some (.int m) := by
    unfold penG
    rw [valV_neg (fun e => u.1 (Sum.inr.inj e)), valV_pos rfl]
  rw [e] at z
  exact z
theorem gpen_c (u : Un3 a b c) (h : H d = some (.dK (penG a b c p m l))) : DGet H d (V.str c) (some (.int l)) := by
  have z := DGet.k (k := (Sum.inr c : Key)) h
  have e : valV (penG a b c p m l) (Sum.inr c : Key) = some (.int l) := by
    unfold penG
    rw [valV_neg (fun e => u.2.1 (Sum.inr.inj e)), valV_neg (fun e => u.2.2 (Sum.inr.inj e)), valV_pos rfl]
  rw [e] at z
  exact z
theorem ppen_b (u : Un3 a b c) (h : H d = some (.dK (penG a b c p m l))) : DPut H d (V.str b) (.int m') (upd H d (.dK (penG a b c p m' l))) := by
  have z := DPut.k (k := (Sum.inr b : Key)) (v := .int m') h (by show 3 < sizeLine; decide)
  have e : putK (penG a b c p m l) (Sum.inr b : Key) (.int m') = penG a b c p m' l := by
    unfold penG putK
    simp [key_dec u.1, key_dec (show ¬ c = b from fun e => u.2.2 e.symm), u.1, u.2.2, show ¬ c = b from fun e => u.2.2 e.symm]
  rw [e] at z
  exact z
theorem ppen_c (u : Un3 a b c) (h : H d = some (.dK (penG a b c p m l))) : DPut H d (V.str c) (.int l') (upd H d (.dK (penG a b c p m l'))) := by
  have z := DPut.k (k := (Sum.inr c : Key)) (v := .int l') h (by show 3 < sizeLine; decide)
  have e : putK (penG a b c p m l) (Sum.inr c : Key) (.int l') = penG a b c p m l' := by
    unfold penG putK
    simp [key_dec u.2.1, key_dec u.2.2, u.2.1, u.2.2]
  rw [e] at z
  exact z
/-- the pen stands at d: at most B draws were begun -/
structure PenG (a b c : Str) (H : Hp) (d : Addr) (B : Int) : Prop where
  ex : ∃ (p : Addr) (ns : List Int) (m l : Int), H d = some (.dK (penG a b c p m l)) ∧ H p = some (.lst (ns.map V.int)) ∧ ns.length ≤ 63 ∧ 0 ≤ m ∧ m ≤ B
theorem PenG.mono (h : PenG a b c H d B) (z : B ≤ B') : PenG a b c H d B' := by
  obtain ⟨p, ns, m, l, e1, e2, e3, f, g⟩ := h.ex
  exact ⟨p, ns, m, l, e1, e2, e3, f, by omega⟩
theorem PenG.same (h : PenG a b c H d B) (s : Same H H') : PenG a b c H' d B := by
  obtain ⟨p, ns, m, l, e1, e2, e3, f, g⟩ := h.ex
  exact ⟨p, ns, m, l, s _ _ e1, s _ _ e2, e3, f, g⟩
theorem PenG.at_ (h : PenG a b c H d B) : ∃ kvs, H d = some (.dK kvs) ∧ ∃ q ∈ kvs, flatB q.2 = false := by
  obtain ⟨p, ns, m, l, e, _⟩ := h.ex
  exact ⟨_, e, _, List.mem_cons_self, rfl⟩
theorem PenG.odd {x : V} (h : PenG a b c H d B) (o : Odd H x) : x ≠ .ref d := by
  obtain ⟨kvs, e, q, hq, f⟩ := h.at_
  intro z
  rw [z] at o
  cases o with
  | flat h => cases h
  | lst e' f => rw [e] at e'; cases e'
  | tup e' f => rw [e] at e'; cases e'
  | dct e' n g =>
    rw [e] at e'
    cases e'
    rw [g _ hq] at f
    cases f
theorem tabs_keepG {T : List (Addr × Str)} (h : Tabs T H) (hp : PenG a b c H d B) (k : Keep d H H') : Tabs T H' := fun p hq => by
  obtain ⟨kvs, ed, _⟩ := hp.at_
  obtain ⟨ps, h1, h2, h3⟩ := h p hq
  have a : p.1 ≠ d := ne_of h1 ed (by intro z; cases z)
  refine ⟨ps, k _ _ a h1, h2, fun pos cv hc => ?_⟩
  obtain ⟨c, e1, e2⟩ := h3 pos cv hc
  have b : c ≠ d := ne_of e2 ed (by unfold CodeO; intro z; cases z)
  exact ⟨c, e1, k _ _ b e2⟩
end
/-- the dict that begins a pen, written out -/
theorem merge_pen {a b c : Str} (u : Un3 a b c) (p : Addr) (m l : Int) : mergeK [] [(Sum.inr a, V.ref p), (Sum.inr b, V.int m), (Sum.inr c, V.int l)] = penG a b c p m l := by
  unfold mergeK
  rw [List.foldl_cons, putK_new _ valV_nil, List.foldl_cons, putK_new _ (by
    rw [List.nil_append, valV_neg (fun e => u.1 (Sum.inr.inj e)), valV_nil]), List.foldl_cons, putK_new _ (by
    show valV [_, _] _ = none
    rw [valV_neg (fun e => u.2.1 (Sum.inr.inj e)), valV_neg (fun e => u.2.2 (Sum.inr.inj e)), valV_nil])]
  rfl
theorem cut63 (xs : List V) (h : xs.length ≤ 63) : cutV xs none (some 63) = xs := by
  unfold cutV
  rw [HT.sIx_none, show HT.sIx xs.length xs.length (some 63) = min 63 xs.length from HT.sIx_nat xs.length xs.length 63, List.drop_zero, Nat.min_eq_right h, Nat.sub_zero, List.take_length]
theorem neG_nil {xs : List Int} : PyData.eqv (.list (xs.map PyData.int)) (.list []) = decide (xs = []) := by
  cases xs with
  | nil => rfl
  | cons a r => rfl
theorem dpG_ints {K : PySem.W.Frag} {H : Hp} : ∀ ns : List Int, DpAll K H (ns.map V.int) (ns.map PyData.int)
  | [] => .nil
  | a :: r => .cons (.int a) (dpG_ints r)
theorem layG_ints : ∀ ns : List Int, PyData.canLayAll0 (ns.map PyData.int) = true
  | [] => by simp only [List.map_nil, PyData.canLayAll0]
  | a :: r => by simp only [List.map_cons, PyData.canLayAll0, PyData.canLay0, layG_ints r, Bool.and_self]
theorem depG_ints : ∀ ns : List Int, PyData.depthAll (ns.map PyData.int) ≤ 1
  | [] => by simp [PyData.depthAll]
  | a :: r => by
    have z := depG_ints r
    simp only [List.map_cons, PyData.depthAll, PyData.depth]
    omega
theorem shG_ints (ns : List Int) : SeqAt.shaped (.list (ns.map PyData.int)) = true := by
  have a := layG_ints ns
  have b := depG_ints ns
  have z : (PyData.list (ns.map PyData.int)).depth ≤ 64 := by
    simp only [PyData.depth]
    omega
  unfold SeqAt.shaped
  rw [Bool.and_eq_true]
  exact ⟨by simpa [PyData.canLay0] using a, decide_eq_true z⟩
end Own

/-! own layer, of no law: OWNY: what drawing keeps, the pen's list among it. -/
namespace Own
open PySem PySem.Spec PyProof.Rows L2 LamX NdefX
/-- all but the pen's dict is as it was; its list is the same one -/
structure KeepG (a b c : Str) (d : Addr) (H H' : Hp) : Prop where
  k : ∀ x o, x ≠ d → H x = some o → H' x = some o
  c : ∀ p m l, H d = some (.dK (penG a b c p m l)) → ∃ m' l', H' d = some (.dK (penG a b c p m' l'))
instance {a b c : Str} {d : Addr} {H H' : Hp} : CoeFun (KeepG a b c d H H') (fun _ => ∀ x o, x ≠ d → H x = some o → H' x = some o) := ⟨KeepG.k⟩
section
variable {a b c : Str} {d p x : Addr} {o : HO} {H H' H1 H2 : Hp} {m l m' l' : Int}
theorem penG_inj {p p' : Addr} {m m' l l' : Int} (h : penG a b c p m l = penG a b c p' m' l') : p = p' := by
  unfold penG at h
  have z := (List.cons.inj h).1
  exact V.ref.inj (Prod.mk.inj z).2
theorem KeepG.refl : KeepG a b c d H H := ⟨fun _ _ _ e => e, fun _ m l e => ⟨m, l, e⟩⟩
theorem KeepG.trans (h : KeepG a b c d H H1) (k : KeepG a b c d H1 H2) : KeepG a b c d H H2 :=
  ⟨fun x o n e => k.k x o n (h.k x o n e), fun p m l e => by
    obtain ⟨m1, l1, e1⟩ := h.c p m l e
    exact k.c p m1 l1 e1⟩
theorem KeepG.same (s : Same H H') : KeepG a b c d H H' := ⟨fun x o _ e => s x o e, fun p m l e => ⟨m, l, s _ _ e⟩⟩
theorem KeepG.new (h : H p = none) : KeepG a b c d H (upd H p o) := KeepG.same (same_new h)
theorem KeepG.put (hd : H d = some (.dK (penG a b c p m l))) : KeepG a b c d H (upd H d (.dK (penG a b c p m' l'))) :=
  ⟨fun x o n e => (upd_ne n).trans e, fun p' m1 l1 e => by
    have z := e.symm.trans hd
    have y := penG_inj (HO.dK.inj (Option.some.inj z))
    rw [y]
    exact ⟨m', l', upd_same⟩⟩
/-- x is not the pen's list -/
def OffG (a b c : Str) (H : Hp) (d x : Addr) : Prop := ∀ p m l, H d = some (.dK (penG a b c p m l)) → p ≠ x
theorem OffG.of {B : Int} (hp : PenG a b c H d B) (h : H x = none) : OffG a b c H d x := fun p m l e => by
  obtain ⟨p0, ns, m0, l0, e0, e1, _⟩ := hp.ex
  have y := penG_inj (HO.dK.inj (Option.some.inj (e.symm.trans e0)))
  rw [y]
  exact ne_of_none e1 h
theorem OffG.keep {B : Int} (h : OffG a b c H d x) (hp : PenG a b c H d B) (k : KeepG a b c d H H') : OffG a b c H' d x := fun p m l e => by
  obtain ⟨p0, ns, m0, l0, e0, _⟩ := hp.ex
  obtain ⟨m1, l1, e1⟩ := k.c p0 m0 l0 e0
  have y := penG_inj (HO.dK.inj (Option.some.inj (e.symm.trans e1)))
  rw [y]
  exact h p0 m0 l0 e0
theorem OffG.at_ {y : Addr} (h : OffG a b c H d x) (n : d ≠ y) : OffG a b c (upd H y o) d x := fun p m l e => h p m l ((upd_ne n).symm.trans e)
/-- a list that is not the pen's is stored anew -/
theorem PenG.put {B : Int} {xs : List V} (hp : PenG a b c H d B) (hx : H x = some (.lst xs)) (f : OffG a b c H d x) : PenG a b c (upd H x o) d B := by
  obtain ⟨p, ns, m, l, e1, e2, e3, e4, e5⟩ := hp.ex
  have n1 : d ≠ x := ne_of e1 hx (by intro z; cases z)
  exact ⟨p, ns, m, l, (upd_ne n1).trans e1, (upd_ne (f p m l e1)).trans e2, e3, e4, e5⟩
theorem PenG.ne_lst {B : Int} {xs : List V} (hp : PenG a b c H d B) (hx : H x = some (.lst xs)) : d ≠ x := by
  obtain ⟨p, ns, m, l, e1, _⟩ := hp.ex
  exact ne_of e1 hx (by intro z; cases z)
/-- .. and over what was not there at first -/
theorem KeepG.over (k : KeepG a b c d H H') (n : H x = none) : KeepG a b c d H (upd H' x o) :=
  ⟨fun y u m e => (upd_ne (ne_of_none e n)).trans (k.k y u m e), fun p m l e => by
    obtain ⟨m1, l1, e1⟩ := k.c p m l e
    exact ⟨m1, l1, (upd_ne (ne_of_none e n)).trans e1⟩⟩
theorem KeepG.lst {B : Int} {xs : List V} (k : KeepG a b c d H H') (hp : PenG a b c H d B) (h : H x = some (.lst xs)) : H' x = some (.lst xs) := k.k _ _ (hp.ne_lst h).symm h
end
end Own

/-! k00: the pen's defs. -/
namespace K00
open PySem PySem.Spec PyProof.Rows L2 LamX NdefX Own
def topS (i : Nat) : Stmt := PySem.Challenge.pw_figurestay_k00_errors_made_by_hand.main.body.getD i (.Pass ⟨0, 0, 0, 0⟩)
abbrev sBegin : Stmt := topS 31
abbrev sDraw : Stmt := topS 32
abbrev sPick : Stmt := topS 33
theorem un3 : Un3 "cells" "stop" "rest" := by unfold Un3; decide +kernel
abbrev Pen (H : Hp) (d : Addr) (B : Int) : Prop := PenG "cells" "stop" "rest" H d B
abbrev KeepP (d : Addr) (H H' : Hp) : Prop := KeepG "cells" "stop" "rest" d H H'
abbrev penK (p : Addr) (c l : Int) : List (Key × V) := penG "cells" "stop" "rest" p c l
section
variable {P : Program} {w : World} {K : PySem.W.Frag} {mg : Str → Option Value} {base : Heap} {C : Addr}
theorem scBegin : FnScope ["_law_script"] ["_law_script"] (defScope sBegin) := ⟨rfl, rfl, rfl, by decide +kernel, rfl, by decide +kernel, by decide +kernel⟩
theorem scDraw : FnScope ["_law_pen_here", "_law_many", "_law_digit", "_law_stop", "_law_cell", "_law_blend"] ["_law_pen_here", "_law_many"] (defScope sDraw) := ⟨rfl, rfl, rfl, by decide +kernel, rfl, by decide +kernel, by decide +kernel⟩
/-- draw(pen, n): an int from 0 to n - 1; the pen has begun one draw more -/
def spDrawW : Sp := fun vs H Q _ => ∃ (d : Addr) (n B : Int), vs = [.ref d, .int n] ∧ Pen H d B ∧ B ≤ 1000000000 ∧ 0 < n ∧ n.natAbs < 2 ^ 300 ∧
  ∀ (v : Int) (H' : Hp), 0 ≤ v → v < n → KeepP d H H' → Pen H' d (B + 1) → Q (.int v) H'
theorem ok_drawW (A : At K mg "_law_draw" sDraw ["_law_pen_here", "_law_many"]) (T : Blt mg) : DefOk P w K mg base CX0 "_law_draw" 1 ["_law_pen_here", "_law_many"] spDrawW := by
  refine A.ok fun f fd F => F.ok scDraw (fun vs H Q E h => ?_) (fun cdv A outer s H vs Q E hr h => ?_)
  · obtain ⟨d, n, B, rfl, _⟩ := h
    rfl
  · obtain ⟨d, n, B, rfl, hp, hB, h0, h1, q⟩ := h
    have hu := hu_of hr
    have nd := scDraw.nd
    refine ⟨_, pss_cons (ps_if (pt_cmpR op_ge (pe_dget hu (pv 0) pe_str (fun _ _ => rfl)) (pv 1) (nomark _)) (pss_cons (ps_set (i := 2) nd rfl (.inl rfl) (pe_op op_mod (pe_callTy call_int1 (by rfl) T.int (by decide +kernel) (pa_cons (pe_dget hu (pv 0) pe_str (fun _ _ => rfl)) pa_nil)) (pv 1))) (pss_cons (ps_dput hu (pv 0) pe_str (pe_op op_fdivW (pe_dget hu (pv 0) pe_str (fun _ _ => rfl)) (pv 1)) rfl) (pss_one (ps_ret (pv 2))))) pss_nil)
      (pss_cons (ps_set (i := 3) nd rfl (.inl rfl) (pe_dget hu (pv 0) pe_str (fun _ _ => rfl)))
      (pss_cons (ps_dput hu (pv 0) pe_str (pe_op op_add (pv 3) pe_int) rfl)
      (pss_cons (ps_set (i := 4) nd rfl (.inl rfl) (pe_op op_add (pe_op op_mul pe_int (pv 3)) pe_int))
      (C8.pss_cut (ps_if (pt_cmpR (op_neD hr.units) (pe_dget hu (pv 0) pe_str (fun _ _ => rfl)) (pe_lst pa_nil) (nomark _)) (pss_one (ps_set (i := 4) nd rfl (.inl rfl) (pe_ix ix_list (pe_dget hu (pv 0) pe_str (fun _ _ => rfl)) (pe_op op_mod (pe_callTy call_int1 (by rfl) T.int (by decide +kernel) (pa_cons (pv 3) pa_nil)) (pe_callB call_len_seq (by rfl) T.len PySem.boot_len (pa_cons (pe_dget hu (pv 0) pe_str (fun _ _ => rfl)) pa_nil))) (fun _ _ => rfl)))) pss_nil)
      (C8.pss_cut (ps_if (PW.pt (pw_and (pt_cmpR op_lt (pv 3) (pe_callB call_len_seq (by rfl) T.len PySem.boot_len (pa_cons (pe_dget hu (pv 0) pe_str (fun _ _ => rfl)) pa_nil)) (nomark _)) (pw_and1 (pt_cmpR op_ge (pv 4) (pe_op op_pow pe_int pe_int) (nomark _))))) (pss_cons (ps_dput hu (pv 0) pe_str (pe_op op_fdivW (pe_op op_sub (pv 4) (pe_op op_pow pe_int pe_int)) (pv 1)) rfl) (pss_one (ps_ret (pe_op op_mod (pe_callTy call_int1 (by rfl) T.int (by decide +kernel) (pa_cons (pe_op op_sub (pv 4) (pe_op op_pow pe_int pe_int)) pa_nil)) (pv 1))))) pss_nil)
      (pss_cons (ps_set (i := 5) nd rfl (.inl rfl) (pe_op op_mul (pe_op op_mod (pe_callTy call_int1 (by rfl) T.int (by decide +kernel) (pa_cons (pv 4) pa_nil)) pe_int) pe_int))
      (pss_cons (ps_set (i := 5) nd rfl (.inl rfl) (pe_op op_mod (pe_callTy call_int1 (by rfl) T.int (by decide +kernel) (pa_cons (pe_op op_add (pe_op op_add (pe_op op_add (pv 5) (pe_op op_mul (pe_op op_mul pe_int (pv 3)) (pv 3))) (pe_op op_mul pe_int (pv 3))) pe_int) pa_nil)) pe_int))
      (pss_cons (ps_set (i := 5) nd rfl (.inl rfl) (pe_op op_mod (pe_callTy call_int1 (by rfl) T.int (by decide +kernel) (pa_cons (pe_op op_mul (pv 5) (pe_op op_add (pv 5) pe_int)) pa_nil)) pe_int))
      (pss_one (ps_ret (pe_op op_mod (pe_callTy call_int1 (by rfl) T.int (by decide +kernel) (pa_cons (pe_op op_fdiv (pe_op op_mod (pe_callTy call_int1 (by rfl) T.int (by decide +kernel) (pa_cons (pe_op op_add (pe_op op_mul (pv 5) (pv 5)) (pe_op op_mul pe_int (pv 5))) pa_nil)) pe_int) pe_int) pa_nil)) (pv 1)))))))))))), ?_⟩
    obtain ⟨p, ns, c, l, hd, hps, hns, hc0, hcB⟩ := hp.ex
    have npd : p ≠ d := ne_of hps hd (by intro z; cases z)
    have n0 : n ≠ 0 := by omega
    have nB : n.natAbs < 2 ^ 300 := h1
    have pn : ∀ {H' : Hp} {c' l' : Int}, H' p = some (.lst (ns.map V.int)) → H' d = some (.dK (penK p c' l')) → 0 ≤ c' → c' ≤ B + 1 → Pen H' d (B + 1) := fun {H' c' l'} a b e g => ⟨p, ns, c', l', b, a, hns, e, g⟩
    refine ⟨_, rfl, d, .int l, rfl, gpen_c un3 hd, _, rfl, l, n, rfl, rfl, _, rfl, ite2 (fun hln => ?_) (fun hln => ?_)⟩
    · refine ⟨_, rfl, d, .int l, rfl, gpen_c un3 hd, .inl ⟨l, rfl, _, rfl, l, n, rfl, rfl, h0, ?_⟩⟩
      refine ⟨_, rfl, d, .int l, rfl, gpen_c un3 hd, _, rfl, l, n, rfl, rfl, wide_div h0 nB (by decide) (by decide), _, rfl, d, _, rfl, ppen_c un3 hd, ?_⟩
      refine ⟨_, rfl, ?_⟩
      exact q _ _ (Int.emod_nonneg _ n0) (Int.emod_lt_of_pos _ h0) (KeepG.put hd) (pn (by rw [upd_ne npd]; exact hps) upd_same hc0 (by omega))
    · refine ⟨_, rfl, d, .int c, rfl, gpen_b un3 hd, ?_⟩
      refine ⟨_, rfl, _, _, rfl, rfl, _, rfl, d, _, rfl, ppen_b un3 hd, ?_⟩
      refine ⟨_, rfl, _, c, rfl, rfl, .inl ⟨by decide, by decide⟩, _, _, rfl, rfl, ?_⟩
      generalize eH1 : upd H d (.dK (penK p (c + 1) l)) = H1
      have hd1 : H1 d = some (.dK (penK p (c + 1) l)) := by rw [← eH1]; exact upd_same
      have hp1 : H1 p = some (.lst (ns.map V.int)) := by rw [← eH1, upd_ne npd]; exact hps
      have k1 : KeepP d H H1 := by rw [← eH1]; exact KeepG.put hd
      refine ⟨fun σ H2 => (∃ x : Int, σ = [some (.ref d), some (.int n), none, some (.int c), some (.int x), none]) ∧ H2 d = some (.dK (penK p (c + 1) l)) ∧ H2 p = some (.lst (ns.map V.int)) ∧ KeepP d H H2, ?_, ?_⟩
      · refine ⟨_, rfl, d, .ref p, rfl, gpen_a un3 hd1, Nat.zero_le _, fun e ne => ?_⟩
        have he1 : ∀ {b o}, H1 b = some o → (upd H1 e (.lst [])) b = some o := fun {b o} z => by rw [upd_ne (ne_of_none z ne)]; exact z
        refine ⟨.list (ns.map PyData.int), .list [], .lst (SqL.of (he1 hp1)) (dpG_ints _), .lst (SqL.of upd_same) .nil, shG_ints _, shG_ints [], _, rfl, ?_⟩
        rw [neG_nil]
        generalize eH2 : upd H1 e (.lst []) = H2
        have hd2 : H2 d = some (.dK (penK p (c + 1) l)) := by rw [← eH2]; exact he1 hd1
        have hp2 : H2 p = some (.lst (ns.map V.int)) := by rw [← eH2]; exact he1 hp1
        have k2 : KeepP d H H2 := by rw [← eH2]; exact k1.trans (KeepG.new ne)
        refine ite2 (fun hne => ?_) (fun hne => ?_)
        · have hn0 : 0 < ns.length := by
            cases ns with
            | nil => simp at hne
            | cons a r => exact Nat.zero_lt_succ _
          have hpos : (0 : Int) < ((ns.map V.int).length : Int) := by rw [List.length_map]; omega
          obtain ⟨j, hj⟩ : ∃ j : Nat, c % ((ns.map V.int).length : Int) = (j : Int) := ⟨(c % ((ns.map V.int).length : Int)).toNat, (Int.toNat_of_nonneg (Int.emod_nonneg _ (by omega))).symm⟩
          have hjl : j < ns.length := by
            have z := Int.emod_lt_of_pos c hpos
            rw [hj, List.length_map] at z
            omega
          refine ⟨_, rfl, d, .ref p, rfl, gpen_a un3 hd2, _, rfl, .inl ⟨c, rfl, _, rfl, d, .ref p, rfl, gpen_a un3 hd2, p, _, rfl, .inl (SqL.of hp2), _, _, rfl, rfl, hpos, p, _, _, .int (ns[j]'hjl), rfl, rfl, SqL.of hp2, L2.at_of hj (by rw [List.getElem?_map, List.getElem?_eq_getElem hjl]; rfl), ?_⟩⟩
          exact ⟨⟨_, rfl⟩, hd2, hp2, k2⟩
        · exact ⟨⟨_, rfl⟩, hd2, hp2, k2⟩
      · rintro σ2 H2 ⟨⟨x, rfl⟩, hd2, hp2, k2⟩
        refine ⟨fun σ H3 => σ = [some (.ref d), some (.int n), none, some (.int c), some (.int x), none] ∧ H3 = H2, ?_, ?_⟩
        · refine ⟨_, rfl, _, rfl, d, .ref p, rfl, gpen_a un3 hd2, p, _, rfl, .inl (SqL.of hp2), _, _, rfl, rfl, _, rfl, ite2 (fun _ => ?_) (fun _ => ⟨rfl, rfl⟩)⟩
          refine ⟨_, rfl, _, _, rfl, rfl, ⟨by decide, by decide, by decide⟩, _, _, rfl, rfl, _, rfl, ite2 (fun _ => ?_) (fun _ => ⟨rfl, rfl⟩)⟩
          refine ⟨_, rfl, _, _, rfl, rfl, ⟨by decide, by decide, by decide⟩, _, _, rfl, rfl, _, rfl, _, _, rfl, rfl, wide_div h0 nB (by decide) (by decide), _, rfl, d, _, rfl, ppen_c un3 hd2, ?_⟩
          refine ⟨_, rfl, _, _, rfl, rfl, ⟨by decide, by decide, by decide⟩, _, _, rfl, rfl, .inl ⟨_, rfl, _, rfl, _, _, rfl, rfl, h0, ?_⟩⟩
          exact q _ _ (Int.emod_nonneg _ n0) (Int.emod_lt_of_pos _ h0) (k2.trans (KeepG.put hd2)) (pn (by rw [upd_ne npd]; exact hp2) upd_same (by omega) (by omega))
        · rintro σ3 H3 ⟨rfl, rfl⟩
          have hc64 : -(2 ^ 64) < c ∧ c < 2 ^ 64 := ⟨by omega, by omega⟩
          have sm : ∀ {y : Int}, 0 ≤ y → y < 2147483648 → -(2 ^ 64) < y ∧ y < 2 ^ 64 := fun a b => ⟨by omega, by omega⟩
          refine ⟨_, rfl, .inl ⟨x, rfl, _, _, rfl, rfl, (show (0 : Int) < 2147483269 by decide), _, _, rfl, rfl, .inr ⟨by decide, by decide⟩, ?_⟩⟩
          refine ⟨_, rfl, _, rfl, _, c, rfl, rfl, .inl ⟨by decide, by decide⟩, _, rfl, _, c, rfl, rfl, .inr hc64, _, _, rfl, rfl, _, rfl, _, c, rfl, rfl, .inl ⟨by decide, by decide⟩, _, _, rfl, rfl, _, _, rfl, rfl, .inl ⟨_, rfl, _, _, rfl, rfl, (show (0 : Int) < 2147483323 by decide), ?_⟩⟩
          dsimp only
          generalize x % 2147483269 * 40177 + 52489 * c * c + 103 * c + 37 = y1
          have a1 := Int.emod_lt_of_pos y1 (show (0 : Int) < 2147483323 by decide)
          have a2 := Int.emod_nonneg y1 (show (2147483323 : Int) ≠ 0 by decide)
          generalize y1 % 2147483323 = y2 at a1 a2
          refine ⟨_, rfl, _, rfl, y2, _, rfl, rfl, y2, _, rfl, rfl, .inl (sm a2 (by omega)), .inl ⟨_, rfl, _, _, rfl, rfl, (show (0 : Int) < 2147483353 by decide), ?_⟩⟩
          dsimp only
          have c1 := Int.emod_lt_of_pos (y2 * (y2 + 70019)) (show (0 : Int) < 2147483353 by decide)
          have c2 := Int.emod_nonneg (y2 * (y2 + 70019)) (show (2147483353 : Int) ≠ 0 by decide)
          generalize (y2 * (y2 + 70019)) % 2147483353 = y4 at c1 c2
          refine ⟨_, rfl, _, rfl, y4, y4, rfl, rfl, .inl (sm c2 (by omega)), _, rfl, _, y4, rfl, rfl, .inl ⟨by decide, by decide⟩, _, _, rfl, rfl, .inl ⟨_, rfl, _, _, rfl, rfl, (show (0 : Int) < 2147483399 by decide), _, _, rfl, rfl, ⟨(show (0 : Int) < 16 by decide), (show (16 : Int) < 1073741824 by decide)⟩, .inl ⟨_, rfl, _, rfl, _, n, rfl, rfl, h0, ?_⟩⟩⟩
          exact q _ _ (Int.emod_nonneg _ n0) (Int.emod_lt_of_pos _ h0) k2 (pn hp2 hd2 (by omega) (by omega))
/-- draw(pen, n): an int from 0 to n - 1; the pen has begun one draw more -/
def spDraw : Sp := fun vs H Q _ => ∃ (d : Addr) (n B : Int), vs = [.ref d, .int n] ∧ Pen H d B ∧ B ≤ 1000000000 ∧ 0 < n ∧ n ≤ 100000000 ∧
  ∀ (v : Int) (H' : Hp), 0 ≤ v → v < n → KeepP d H H' → Pen H' d (B + 1) → Q (.int v) H'
theorem drawn_of (D : DefOk P w K mg base CX0 "_law_draw" 1 ["_law_pen_here", "_law_many"] spDrawW) : DefOk P w K mg base CX0 "_law_draw" 1 ["_law_pen_here", "_law_many"] spDraw := by
  obtain ⟨f, fd, F, r⟩ := D
  refine ⟨f, fd, F.imp fun vs H Q E h => ?_, r⟩
  obtain ⟨d, n, B, e, hp, hB, h0, h1, q⟩ := h
  have big : (100000000 : Nat) < 2 ^ 300 := by decide +kernel
  exact ⟨d, n, B, e, hp, hB, h0, by omega, q⟩
def spBegin (K : PySem.W.Frag) : Sp := fun vs H Q _ => ∃ (a : Addr) (ns : List Int), vs = [.ref a] ∧ SqL K H a (ns.map V.int) ∧ ns.length ≤ 63 ∧ ∀ (d : Addr) (H' : Hp), H d = none → Same H H' → Pen H' d 0 → Q (.ref d) H'
theorem ok_begin (A : At K mg "_law_pen" sBegin ["_law_script"]) (T : Blt mg) : DefOk P w K mg base CX0 "_law_pen" 1 ["_law_script"] (spBegin K) := by
  refine A.ok fun f fd F => F.ok scBegin (fun vs H Q E h => ?_) (fun cdv A outer s H vs Q E hr h => ?_)
  · obtain ⟨a, ns, rfl, _⟩ := h
    rfl
  · obtain ⟨a, ns, rfl, hS, hl, q⟩ := h
    refine ⟨_, pss_one (ps_ret (pe_disp (pps_cons pe_str (pe_callTy call_list_of (by rfl) T.list (by decide +kernel) (pa_cons (pe_slice sl_list (pv 0) po_none (po_some pe_int)) pa_nil)) (pps_cons pe_str pe_int (pps_cons pe_str pe_int pps_nil))) (by rfl) (by rfl) (fun z => by cases z) (by decide))), ?_⟩
    intro d hd
    have s0 : Same H (upd H d (.dK [])) := same_new hd
    refine ⟨_, rfl, 63, rfl, a, _, rfl, s0.seq hS, fun c hc => ?_⟩
    rw [cut63 _ (by rw [List.length_map]; exact hl)]
    have s1 : Same H (upd (upd H d (.dK [])) c (.lst (ns.map V.int))) := s0.trans (same_new hc)
    refine ⟨c, _, rfl, .inl (SqL.of upd_same), fun p hp => ?_⟩
    have s2 : Same (upd (upd H d (.dK [])) c (.lst (ns.map V.int))) (upd (upd (upd H d (.dK [])) c (.lst (ns.map V.int))) p (.lst (ns.map V.int))) := same_new hp
    have hdd : upd (upd (upd H d (.dK [])) c (.lst (ns.map V.int))) p (.lst (ns.map V.int)) d = some (.dK []) := s2 _ _ (same_new hc _ _ upd_same)
    have npd : p ≠ d := fun z => by
      rw [z] at hp
      have := same_new (o := .lst (ns.map V.int)) hc _ _ (upd_same (H := H) (a := d) (o := .dK []))
      rw [hp] at this
      cases this
    refine ⟨hdd, [(Sum.inr "cells", .ref p), (Sum.inr "stop", .int 0), (Sum.inr "rest", .int 0)], rfl, by show 3 ≤ 15; decide, ?_⟩
    rw [merge_pen un3]
    refine q d _ hd (fun b o e => ?_) ⟨p, ns, 0, 0, upd_same, ?_, hl, by omega, by omega⟩
    · rw [upd_ne (ne_of_none e hd)]
      exact s2 _ _ (s1 _ _ e)
    · rw [upd_ne npd]
      exact upd_same
theorem scPick : FnScope ["_law_pen_here", "_law_items"] ["_law_pen_here", "_law_items"] (defScope sPick) := ⟨rfl, rfl, rfl, by decide +kernel, rfl, by decide +kernel, by decide +kernel⟩
def spPick : Sp := fun vs H Q _ => ∃ (d a : Addr) (xs : List V) (B : Int), vs = [.ref d, .ref a] ∧ H a = some (.lst xs) ∧ xs ≠ [] ∧ xs.length ≤ 1000 ∧ Pen H d B ∧ B ≤ 1000000000 ∧ ∀ (x : V) (H' : Hp), x ∈ xs → KeepP d H H' → Pen H' d (B + 1) → Q x H'
theorem ok_pick (A : At K mg "_law_pick" sPick ["_law_pen_here", "_law_items"]) (T : Blt mg) (D : DefOk P w K mg base CX0 "_law_draw" 1 ["_law_pen_here", "_law_many"] spDraw) : DefOk P w K mg base CX0 "_law_pick" 2 ["_law_pen_here", "_law_items"] spPick := by
  refine A.ok fun f fd F => F.ok scPick (fun vs H Q E h => ?_) (fun cdv A outer s H vs Q E hr h => ?_)
  · obtain ⟨d, a, xs, B, rfl, _⟩ := h
    rfl
  · obtain ⟨d, a, xs, B, rfl, ha, hne, hl, hp, hB, q⟩ := h
    refine ⟨_, pss_one (ps_ret (pe_ix ix_list (pv 1) (pe_def D hr (by decide) (by rfl) pass0 (pa_cons (pv 0) (pa_cons (pe_callB call_len_seq (by rfl) T.len PySem.boot_len (pa_cons (pv 1) pa_nil)) pa_nil))) (fun _ _ => rfl))), ?_⟩
    have h0 : 0 < xs.length := List.length_pos_iff.mpr hne
    refine ⟨_, rfl, _, rfl, _, rfl, a, xs, rfl, .inl (SqL.of ha), d, (xs.length : Int), B, rfl, hp, hB, by omega, by omega, fun v H' h1 h2 kp hp' => ?_⟩
    have nad : a ≠ d := by
      obtain ⟨p, ns, c, l, e, _⟩ := hp.ex
      exact ne_of ha e (by intro z; cases z)
    obtain ⟨j, rfl⟩ : ∃ j : Nat, v = (j : Int) := ⟨v.toNat, (Int.toNat_of_nonneg h1).symm⟩
    have hj : j < xs.length := by omega
    exact ⟨a, xs, _, xs[j], rfl, rfl, SqL.of (kp _ _ nad ha), atI_nat (List.getElem?_eq_getElem hj), q _ _ (List.getElem_mem hj) kp hp'⟩
end
end K00

/-! k00: the errors; _law_alone, _law_more. -/
namespace K00
open PySem PySem.Spec PyProof.Rows L2 LamX NdefX Own
def nmL : List Str := ["BadValue", "TooFine", "NoFigures", "BadStep", "WideColumn", "TooWide", "NoColumn", "BadWorths", "NotOnce", "NoDivisor", "Overflow", "NotPlain", "Divides", "NotSteady", "NotASum", "NotLinear", "CanOver", "ColumnsDiffer", "BadEntry", "Gaps", "BadColumn", "BadText", "NotAFormula", "Taken", "Unknown", "InUse", "BadPromise", "Broken"]
def dE (K : PySem.W.Frag) (i : Nat) : Addr := He.ga K (nmL.getD i "")
structure Ers (P : Program) (w : World) (K : PySem.W.Frag) (mg : Str → Option Value) (base : Heap) : Prop where
  BadValue : Er1 P w K mg base "BadValue" "value" (He.ga K "BadValue")
  TooFine : Er1 P w K mg base "TooFine" "scale" (He.ga K "TooFine")
  NoFigures : Er0 P w K mg base "NoFigures" (He.ga K "NoFigures")
  BadStep : Er1 P w K mg base "BadStep" "number" (He.ga K "BadStep")
  WideColumn : Er1 P w K mg base "WideColumn" "name" (He.ga K "WideColumn")
  TooWide : Er1 P w K mg base "TooWide" "step" (He.ga K "TooWide")
  NoColumn : Er1 P w K mg base "NoColumn" "name" (He.ga K "NoColumn")
  BadWorths : Er1 P w K mg base "BadWorths" "name" (He.ga K "BadWorths")
  NotOnce : Er1 P w K mg base "NotOnce" "name" (He.ga K "NotOnce")
  NoDivisor : Er0 P w K mg base "NoDivisor" (He.ga K "NoDivisor")
  Overflow : Er2 P w K mg base "Overflow" "step" "worth" (He.ga K "Overflow")
  NotPlain : Er1 P w K mg base "NotPlain" "step" (He.ga K "NotPlain")
  Divides : Er1 P w K mg base "Divides" "step" (He.ga K "Divides")
  NotSteady : Er1 P w K mg base "NotSteady" "step" (He.ga K "NotSteady")
  NotASum : Er1 P w K mg base "NotASum" "step" (He.ga K "NotASum")
  NotLinear : Er1 P w K mg base "NotLinear" "step" (He.ga K "NotLinear")
  CanOver : Er2 P w K mg base "CanOver" "step" "worths" (He.ga K "CanOver")
  ColumnsDiffer : Er1 P w K mg base "ColumnsDiffer" "name" (He.ga K "ColumnsDiffer")
  BadEntry : Er1 P w K mg base "BadEntry" "index" (He.ga K "BadEntry")
  Gaps : Er1 P w K mg base "Gaps" "way" (He.ga K "Gaps")
  BadColumn : Er1 P w K mg base "BadColumn" "column" (He.ga K "BadColumn")
  BadText : Er1 P w K mg base "BadText" "value" (He.ga K "BadText")
  NotAFormula : Er1 P w K mg base "NotAFormula" "at" (He.ga K "NotAFormula")
  Taken : Er1 P w K mg base "Taken" "name" (He.ga K "Taken")
  Unknown : Er1 P w K mg base "Unknown" "name" (He.ga K "Unknown")
  InUse : Er1 P w K mg base "InUse" "name" (He.ga K "InUse")
  BadPromise : Er1 P w K mg base "BadPromise" "told" (He.ga K "BadPromise")
  Broken : Er2 P w K mg base "Broken" "told" "worths" (He.ga K "Broken")
  gF : mg "FigureError" = some (.ref (He.ga K "FigureError"))
  is : ∀ i, i < 28 → ExcC K (dE K i)
  kit : ∀ i j, i < 28 → j < 28 → PySem.W.kitOne K (.ref (dE K i)) (.ref (dE K j)) = some (decide (i = j))
  kF : ∀ i, i < 28 → PySem.W.kitOne K (.ref (dE K i)) (.ref (He.ga K "FigureError")) = some true
  kV : ∀ i, i < 28 → PySem.W.kitOne K (.ref (dE K i)) (.type "ValueError") = some true
/-- rows of a value twice -/
def Rws (A : Hp) (T : V → Prop) (ps : List Addr) : Prop := ∀ p ∈ ps, ∃ v, T v ∧ A p = some (.tup [v, v])
theorem Rws.nil {A : Hp} {T : V → Prop} : Rws A T [] := fun _ h => by cases h
theorem Rws.same {A B : Hp} {T : V → Prop} {ps : List Addr} (h : Rws A T ps) (s : Same A B) : Rws B T ps := fun p hp => by
  obtain ⟨v, t, e⟩ := h p hp
  exact ⟨v, t, s _ _ e⟩
theorem Rws.add {A : Hp} {T : V → Prop} {ps : List Addr} {p : Addr} {v : V} (h : Rws A T ps) (t : T v) (n : A p = none) : Rws (upd A p (.tup [v, v])) T (ps ++ [p]) := fun r hr => by
  rcases List.mem_append.mp hr with hr | hr
  · exact h.same (same_new n) r hr
  · rw [List.mem_singleton.mp hr]
    exact ⟨v, t, upd_same⟩
theorem Rws.mono {A : Hp} {T U : V → Prop} {ps : List Addr} (h : Rws A T ps) (z : ∀ v, T v → U v) : Rws A U ps := fun p hp => by
  obtain ⟨v, t, e⟩ := h p hp
  exact ⟨v, z v t, e⟩
/-- a list of such rows -/
def LRw (A : Hp) (T : V → Prop) (l : Addr) (n : Nat) : Prop := ∃ ps : List Addr, A l = some (.lst (ps.map V.ref)) ∧ ps.length = n ∧ Rws A T ps
theorem LRw.of {A : Hp} {T : V → Prop} {ps : List Addr} {l : Addr} (h : Rws A T ps) (n : A l = none) : LRw (upd A l (.lst (ps.map V.ref))) T l ps.length := ⟨ps, upd_same, rfl, h.same (same_new n)⟩
theorem LRw.same {A B : Hp} {T : V → Prop} {l : Addr} {n : Nat} (h : LRw A T l n) (s : Same A B) : LRw B T l n := by
  obtain ⟨ps, e, y, g⟩ := h
  exact ⟨ps, s _ _ e, y, g.same s⟩
theorem LRw.cat {A : Hp} {T : V → Prop} {l b : Addr} {n m : Nat} (h : LRw A T l n) (h2 : LRw A T b m) :
    ∃ xs zs, A l = some (.lst xs) ∧ A b = some (.lst zs) ∧ xs.length = n ∧ zs.length = m ∧ ∀ p, A p = none → LRw (upd A p (.lst (xs ++ zs))) T p (n + m) := by
  obtain ⟨ps, e, y, g⟩ := h
  obtain ⟨qs, e2, y2, g2⟩ := h2
  refine ⟨_, _, e, e2, by rw [List.length_map]; exact y, by rw [List.length_map]; exact y2, fun p np => ⟨ps ++ qs, by rw [List.map_append]; exact upd_same, by rw [List.length_append, y, y2], fun r hr => ?_⟩⟩
  rcases List.mem_append.mp hr with hr | hr
  · exact g.same (same_new np) r hr
  · exact g2.same (same_new np) r hr
section
variable {P : Program} {w : World} {K : PySem.W.Frag} {mg : Str → Option Value} {base : Heap}
abbrev sAl : Stmt := topS 34
theorem scAl : FnScope ["_law_mine"] ["_law_mine"] (defScope sAl) := ⟨rfl, rfl, rfl, by decide +kernel, rfl, by decide +kernel, by decide +kernel⟩
def spAl : Sp := fun vs H Q _ => ∃ mine : V, vs = [mine] ∧ ∀ (l : Addr) (ps : List Addr) (H' : Hp), Same H H' → H' l = some (.lst (ps.map V.ref)) → ps.length = 23 → Rws H' (· = mine) ps → Q (.ref l) H'
theorem ok_al (A : At K mg "_law_alone" sAl ["_law_mine"]) (R : Ers P w K mg base) : DefOk P w K mg base CX0 "_law_alone" 3 ["_law_mine"] spAl := by
  refine A.ok fun f fd F => F.ok scAl (fun vs H Q E h => ?_) (fun cdv A outer s0 H vs Q E hr h => ?_)
  · obtain ⟨mine, rfl, _⟩ := h
    rfl
  · obtain ⟨mine, rfl, q⟩ := h
    refine ⟨_, pss_one (ps_ret (pe_lst (pa_cons (pe_tup (pa_cons (pe_xfV R.BadValue.b.xf R.BadValue.noV (pe_e1 R.BadValue hr (by decide) (by rfl) (pv 0))) (pa_cons (pe_xfV R.BadValue.b.xf R.BadValue.noV (pe_e1K R.BadValue hr (by decide) (by rfl) (pv 0))) pa_nil))) (pa_cons (pe_tup (pa_cons (pe_xfV R.TooFine.b.xf R.TooFine.noV (pe_e1 R.TooFine hr (by decide) (by rfl) (pv 0))) (pa_cons (pe_xfV R.TooFine.b.xf R.TooFine.noV (pe_e1K R.TooFine hr (by decide) (by rfl) (pv 0))) pa_nil))) (pa_cons (pe_tup (pa_cons (pe_xfV R.BadStep.b.xf R.BadStep.noV (pe_e1 R.BadStep hr (by decide) (by rfl) (pv 0))) (pa_cons (pe_xfV R.BadStep.b.xf R.BadStep.noV (pe_e1K R.BadStep hr (by decide) (by rfl) (pv 0))) pa_nil))) (pa_cons (pe_tup (pa_cons (pe_xfV R.WideColumn.b.xf R.WideColumn.noV (pe_e1 R.WideColumn hr (by decide) (by rfl) (pv 0))) (pa_cons (pe_xfV R.WideColumn.b.xf R.WideColumn.noV (pe_e1K R.WideColumn hr (by decide) (by rfl) (pv 0))) pa_nil))) (pa_cons (pe_tup (pa_cons (pe_xfV R.TooWide.b.xf R.TooWide.noV (pe_e1 R.TooWide hr (by decide) (by rfl) (pv 0))) (pa_cons (pe_xfV R.TooWide.b.xf R.TooWide.noV (pe_e1K R.TooWide hr (by decide) (by rfl) (pv 0))) pa_nil))) (pa_cons (pe_tup (pa_cons (pe_xfV R.NoColumn.b.xf R.NoColumn.noV (pe_e1 R.NoColumn hr (by decide) (by rfl) (pv 0))) (pa_cons (pe_xfV R.NoColumn.b.xf R.NoColumn.noV (pe_e1K R.NoColumn hr (by decide) (by rfl) (pv 0))) pa_nil))) (pa_cons (pe_tup (pa_cons (pe_xfV R.BadWorths.b.xf R.BadWorths.noV (pe_e1 R.BadWorths hr (by decide) (by rfl) (pv 0))) (pa_cons (pe_xfV R.BadWorths.b.xf R.BadWorths.noV (pe_e1K R.BadWorths hr (by decide) (by rfl) (pv 0))) pa_nil))) (pa_cons (pe_tup (pa_cons (pe_xfV R.NotOnce.b.xf R.NotOnce.noV (pe_e1 R.NotOnce hr (by decide) (by rfl) (pv 0))) (pa_cons (pe_xfV R.NotOnce.b.xf R.NotOnce.noV (pe_e1K R.NotOnce hr (by decide) (by rfl) (pv 0))) pa_nil))) (pa_cons (pe_tup (pa_cons (pe_xfV R.NotPlain.b.xf R.NotPlain.noV (pe_e1 R.NotPlain hr (by decide) (by rfl) (pv 0))) (pa_cons (pe_xfV R.NotPlain.b.xf R.NotPlain.noV (pe_e1K R.NotPlain hr (by decide) (by rfl) (pv 0))) pa_nil))) (pa_cons (pe_tup (pa_cons (pe_xfV R.Divides.b.xf R.Divides.noV (pe_e1 R.Divides hr (by decide) (by rfl) (pv 0))) (pa_cons (pe_xfV R.Divides.b.xf R.Divides.noV (pe_e1K R.Divides hr (by decide) (by rfl) (pv 0))) pa_nil))) (pa_cons (pe_tup (pa_cons (pe_xfV R.NotSteady.b.xf R.NotSteady.noV (pe_e1 R.NotSteady hr (by decide) (by rfl) (pv 0))) (pa_cons (pe_xfV R.NotSteady.b.xf R.NotSteady.noV (pe_e1K R.NotSteady hr (by decide) (by rfl) (pv 0))) pa_nil))) (pa_cons (pe_tup (pa_cons (pe_xfV R.NotASum.b.xf R.NotASum.noV (pe_e1 R.NotASum hr (by decide) (by rfl) (pv 0))) (pa_cons (pe_xfV R.NotASum.b.xf R.NotASum.noV (pe_e1K R.NotASum hr (by decide) (by rfl) (pv 0))) pa_nil))) (pa_cons (pe_tup (pa_cons (pe_xfV R.NotLinear.b.xf R.NotLinear.noV (pe_e1 R.NotLinear hr (by decide) (by rfl) (pv 0))) (pa_cons (pe_xfV R.NotLinear.b.xf R.NotLinear.noV (pe_e1K R.NotLinear hr (by decide) (by rfl) (pv 0))) pa_nil))) (pa_cons (pe_tup (pa_cons (pe_xfV R.Gaps.b.xf R.Gaps.noV (pe_e1 R.Gaps hr (by decide) (by rfl) (pv 0))) (pa_cons (pe_xfV R.Gaps.b.xf R.Gaps.noV (pe_e1K R.Gaps hr (by decide) (by rfl) (pv 0))) pa_nil))) (pa_cons (pe_tup (pa_cons (pe_xfV R.ColumnsDiffer.b.xf R.ColumnsDiffer.noV (pe_e1 R.ColumnsDiffer hr (by decide) (by rfl) (pv 0))) (pa_cons (pe_xfV R.ColumnsDiffer.b.xf R.ColumnsDiffer.noV (pe_e1K R.ColumnsDiffer hr (by decide) (by rfl) (pv 0))) pa_nil))) (pa_cons (pe_tup (pa_cons (pe_xfV R.Taken.b.xf R.Taken.noV (pe_e1 R.Taken hr (by decide) (by rfl) (pv 0))) (pa_cons (pe_xfV R.Taken.b.xf R.Taken.noV (pe_e1K R.Taken hr (by decide) (by rfl) (pv 0))) pa_nil))) (pa_cons (pe_tup (pa_cons (pe_xfV R.BadEntry.b.xf R.BadEntry.noV (pe_e1 R.BadEntry hr (by decide) (by rfl) (pv 0))) (pa_cons (pe_xfV R.BadEntry.b.xf R.BadEntry.noV (pe_e1K R.BadEntry hr (by decide) (by rfl) (pv 0))) pa_nil))) (pa_cons (pe_tup (pa_cons (pe_xfV R.BadColumn.b.xf R.BadColumn.noV (pe_e1 R.BadColumn hr (by decide) (by rfl) (pv 0))) (pa_cons (pe_xfV R.BadColumn.b.xf R.BadColumn.noV (pe_e1K R.BadColumn hr (by decide) (by rfl) (pv 0))) pa_nil))) (pa_cons (pe_tup (pa_cons (pe_xfV R.BadText.b.xf R.BadText.noV (pe_e1 R.BadText hr (by decide) (by rfl) (pv 0))) (pa_cons (pe_xfV R.BadText.b.xf R.BadText.noV (pe_e1K R.BadText hr (by decide) (by rfl) (pv 0))) pa_nil))) (pa_cons (pe_tup (pa_cons (pe_xfV R.NotAFormula.b.xf R.NotAFormula.noV (pe_e1 R.NotAFormula hr (by decide) (by rfl) (pv 0))) (pa_cons (pe_xfV R.NotAFormula.b.xf R.NotAFormula.noV (pe_e1K R.NotAFormula hr (by decide) (by rfl) (pv 0))) pa_nil))) (pa_cons (pe_tup (pa_cons (pe_xfV R.Unknown.b.xf R.Unknown.noV (pe_e1 R.Unknown hr (by decide) (by rfl) (pv 0))) (pa_cons (pe_xfV R.Unknown.b.xf R.Unknown.noV (pe_e1K R.Unknown hr (by decide) (by rfl) (pv 0))) pa_nil))) (pa_cons (pe_tup (pa_cons (pe_xfV R.InUse.b.xf R.InUse.noV (pe_e1 R.InUse hr (by decide) (by rfl) (pv 0))) (pa_cons (pe_xfV R.InUse.b.xf R.InUse.noV (pe_e1K R.InUse hr (by decide) (by rfl) (pv 0))) pa_nil))) (pa_cons (pe_tup (pa_cons (pe_xfV R.BadPromise.b.xf R.BadPromise.noV (pe_e1 R.BadPromise hr (by decide) (by rfl) (pv 0))) (pa_cons (pe_xfV R.BadPromise.b.xf R.BadPromise.noV (pe_e1K R.BadPromise hr (by decide) (by rfl) (pv 0))) pa_nil))) pa_nil))))))))))))))))))))))))), ?_⟩
    have S : Same H H := fun _ _ e => e
    have G : Rws H (· = mine) [] := Rws.nil
    refine ⟨_, rfl, made_1 (got_of lkA fun H1 s1 => ?_)⟩
    replace S := S.trans s1; replace G := G.same s1
    refine ⟨_, rfl, made_1K (got_of lkA fun H2 s2 => ?_)⟩
    replace S := S.trans s2; replace G := G.same s2
    refine ⟨by show 2 ≤ sizeLine; decide, fun t3 n3 => ?_⟩
    have s3 : Same H2 (upd H2 t3 (HO.tup [mine, mine])) := same_new n3
    replace G := G.add (v := mine) rfl n3
    replace S := S.trans s3
    generalize upd H2 t3 (HO.tup [mine, mine]) = K3 at S G s3 ⊢
    refine ⟨_, rfl, made_1 (got_of lkA fun H4 s4 => ?_)⟩
    replace S := S.trans s4; replace G := G.same s4
    refine ⟨_, rfl, made_1K (got_of lkA fun H5 s5 => ?_)⟩
    replace S := S.trans s5; replace G := G.same s5
    refine ⟨by show 2 ≤ sizeLine; decide, fun t6 n6 => ?_⟩
    have s6 : Same H5 (upd H5 t6 (HO.tup [mine, mine])) := same_new n6
    replace G := G.add (v := mine) rfl n6
    replace S := S.trans s6
    generalize upd H5 t6 (HO.tup [mine, mine]) = K6 at S G s6 ⊢
    refine ⟨_, rfl, made_1 (got_of lkA fun H7 s7 => ?_)⟩
    replace S := S.trans s7; replace G := G.same s7
    refine ⟨_, rfl, made_1K (got_of lkA fun H8 s8 => ?_)⟩
    replace S := S.trans s8; replace G := G.same s8
    refine ⟨by show 2 ≤ sizeLine; decide, fun t9 n9 => ?_⟩
    have s9 : Same H8 (upd H8 t9 (HO.tup [mine, mine])) := same_new n9
    replace G := G.add (v := mine) rfl n9
    replace S := S.trans s9
    generalize upd H8 t9 (HO.tup [mine, mine]) = K9 at S G s9 ⊢
    refine ⟨_, rfl, made_1 (got_of lkA fun H10 s10 => ?_)⟩
    replace S := S.trans s10; replace G := G.same s10
    refine ⟨_, rfl, made_1K (got_of lkA fun H11 s11 => ?_)⟩
    replace S := S.trans s11; replace G := G.same s11
    refine ⟨by show 2 ≤ sizeLine; decide, fun t12 n12 => ?_⟩
    have s12 : Same H11 (upd H11 t12 (HO.tup [mine, mine])) := same_new n12
    replace G := G.add (v := mine) rfl n12
    replace S := S.trans s12
    generalize upd H11 t12 (HO.tup [mine, mine]) = K12 at S G s12 ⊢
    refine ⟨_, rfl, made_1 (got_of lkA fun H13 s13 => ?_)⟩
    replace S := S.trans s13; replace G := G.same s13
    refine ⟨_, rfl, made_1K (got_of lkA fun H14 s14 => ?_)⟩
    replace S := S.trans s14; replace G := G.same s14
    refine ⟨by show 2 ≤ sizeLine; decide, fun t15 n15 => ?_⟩
    have s15 : Same H14 (upd H14 t15 (HO.tup [mine, mine])) := same_new n15
    replace G := G.add (v := mine) rfl n15
    replace S := S.trans s15
    generalize upd H14 t15 (HO.tup [mine, mine]) = K15 at S G s15 ⊢
    refine ⟨_, rfl, made_1 (got_of lkA fun H16 s16 => ?_)⟩
    replace S := S.trans s16; replace G := G.same s16
    refine ⟨_, rfl, made_1K (got_of lkA fun H17 s17 => ?_)⟩
    replace S := S.trans s17; replace G := G.same s17
    refine ⟨by show 2 ≤ sizeLine; decide, fun t18 n18 => ?_⟩
    have s18 : Same H17 (upd H17 t18 (HO.tup [mine, mine])) := same_new n18
    replace G := G.add (v := mine) rfl n18
    replace S := S.trans s18
    generalize upd H17 t18 (HO.tup [mine, mine]) = K18 at S G s18 ⊢
    refine ⟨_, rfl, made_1 (got_of lkA fun H19 s19 => ?_)⟩
    replace S := S.trans s19; replace G := G.same s19
    refine ⟨_, rfl, made_1K (got_of lkA fun H20 s20 => ?_)⟩
    replace S := S.trans s20; replace G := G.same s20
    refine ⟨by show 2 ≤ sizeLine; decide, fun t21 n21 => ?_⟩
    have s21 : Same H20 (upd H20 t21 (HO.tup [mine, mine])) := same_new n21
    replace G := G.add (v := mine) rfl n21
    replace S := S.trans s21
    generalize upd H20 t21 (HO.tup [mine, mine]) = K21 at S G s21 ⊢
    refine ⟨_, rfl, made_1 (got_of lkA fun H22 s22 => ?_)⟩
    replace S := S.trans s22; replace G := G.same s22
    refine ⟨_, rfl, made_1K (got_of lkA fun H23 s23 => ?_)⟩
    replace S := S.trans s23; replace G := G.same s23
    refine ⟨by show 2 ≤ sizeLine; decide, fun t24 n24 => ?_⟩
    have s24 : Same H23 (upd H23 t24 (HO.tup [mine, mine])) := same_new n24
    replace G := G.add (v := mine) rfl n24
    replace S := S.trans s24
    generalize upd H23 t24 (HO.tup [mine, mine]) = K24 at S G s24 ⊢
    refine ⟨_, rfl, made_1 (got_of lkA fun H25 s25 => ?_)⟩
    replace S := S.trans s25; replace G := G.same s25
    refine ⟨_, rfl, made_1K (got_of lkA fun H26 s26 => ?_)⟩
    replace S := S.trans s26; replace G := G.same s26
    refine ⟨by show 2 ≤ sizeLine; decide, fun t27 n27 => ?_⟩
    have s27 : Same H26 (upd H26 t27 (HO.tup [mine, mine])) := same_new n27
    replace G := G.add (v := mine) rfl n27
    replace S := S.trans s27
    generalize upd H26 t27 (HO.tup [mine, mine]) = K27 at S G s27 ⊢
    refine ⟨_, rfl, made_1 (got_of lkA fun H28 s28 => ?_)⟩
    replace S := S.trans s28; replace G := G.same s28
    refine ⟨_, rfl, made_1K (got_of lkA fun H29 s29 => ?_)⟩
    replace S := S.trans s29; replace G := G.same s29
    refine ⟨by show 2 ≤ sizeLine; decide, fun t30 n30 => ?_⟩
    have s30 : Same H29 (upd H29 t30 (HO.tup [mine, mine])) := same_new n30
    replace G := G.add (v := mine) rfl n30
    replace S := S.trans s30
    generalize upd H29 t30 (HO.tup [mine, mine]) = K30 at S G s30 ⊢
    refine ⟨_, rfl, made_1 (got_of lkA fun H31 s31 => ?_)⟩
    replace S := S.trans s31; replace G := G.same s31
    refine ⟨_, rfl, made_1K (got_of lkA fun H32 s32 => ?_)⟩
    replace S := S.trans s32; replace G := G.same s32
    refine ⟨by show 2 ≤ sizeLine; decide, fun t33 n33 => ?_⟩
    have s33 : Same H32 (upd H32 t33 (HO.tup [mine, mine])) := same_new n33
    replace G := G.add (v := mine) rfl n33
    replace S := S.trans s33
    generalize upd H32 t33 (HO.tup [mine, mine]) = K33 at S G s33 ⊢
    refine ⟨_, rfl, made_1 (got_of lkA fun H34 s34 => ?_)⟩
    replace S := S.trans s34; replace G := G.same s34
    refine ⟨_, rfl, made_1K (got_of lkA fun H35 s35 => ?_)⟩
    replace S := S.trans s35; replace G := G.same s35
    refine ⟨by show 2 ≤ sizeLine; decide, fun t36 n36 => ?_⟩
    have s36 : Same H35 (upd H35 t36 (HO.tup [mine, mine])) := same_new n36
    replace G := G.add (v := mine) rfl n36
    replace S := S.trans s36
    generalize upd H35 t36 (HO.tup [mine, mine]) = K36 at S G s36 ⊢
    refine ⟨_, rfl, made_1 (got_of lkA fun H37 s37 => ?_)⟩
    replace S := S.trans s37; replace G := G.same s37
    refine ⟨_, rfl, made_1K (got_of lkA fun H38 s38 => ?_)⟩
    replace S := S.trans s38; replace G := G.same s38
    refine ⟨by show 2 ≤ sizeLine; decide, fun t39 n39 => ?_⟩
    have s39 : Same H38 (upd H38 t39 (HO.tup [mine, mine])) := same_new n39
    replace G := G.add (v := mine) rfl n39
    replace S := S.trans s39
    generalize upd H38 t39 (HO.tup [mine, mine]) = K39 at S G s39 ⊢
    refine ⟨_, rfl, made_1 (got_of lkA fun H40 s40 => ?_)⟩
    replace S := S.trans s40; replace G := G.same s40
    refine ⟨_, rfl, made_1K (got_of lkA fun H41 s41 => ?_)⟩
    replace S := S.trans s41; replace G := G.same s41
    refine ⟨by show 2 ≤ sizeLine; decide, fun t42 n42 => ?_⟩
    have s42 : Same H41 (upd H41 t42 (HO.tup [mine, mine])) := same_new n42
    replace G := G.add (v := mine) rfl n42
    replace S := S.trans s42
    generalize upd H41 t42 (HO.tup [mine, mine]) = K42 at S G s42 ⊢
    refine ⟨_, rfl, made_1 (got_of lkA fun H43 s43 => ?_)⟩
    replace S := S.trans s43; replace G := G.same s43
    refine ⟨_, rfl, made_1K (got_of lkA fun H44 s44 => ?_)⟩
    replace S := S.trans s44; replace G := G.same s44
    refine ⟨by show 2 ≤ sizeLine; decide, fun t45 n45 => ?_⟩
    have s45 : Same H44 (upd H44 t45 (HO.tup [mine, mine])) := same_new n45
    replace G := G.add (v := mine) rfl n45
    replace S := S.trans s45
    generalize upd H44 t45 (HO.tup [mine, mine]) = K45 at S G s45 ⊢
    refine ⟨_, rfl, made_1 (got_of lkA fun H46 s46 => ?_)⟩
    replace S := S.trans s46; replace G := G.same s46
    refine ⟨_, rfl, made_1K (got_of lkA fun H47 s47 => ?_)⟩
    replace S := S.trans s47; replace G := G.same s47
    refine ⟨by show 2 ≤ sizeLine; decide, fun t48 n48 => ?_⟩
    have s48 : Same H47 (upd H47 t48 (HO.tup [mine, mine])) := same_new n48
    replace G := G.add (v := mine) rfl n48
    replace S := S.trans s48
    generalize upd H47 t48 (HO.tup [mine, mine]) = K48 at S G s48 ⊢
    refine ⟨_, rfl, made_1 (got_of lkA fun H49 s49 => ?_)⟩
    replace S := S.trans s49; replace G := G.same s49
    refine ⟨_, rfl, made_1K (got_of lkA fun H50 s50 => ?_)⟩
    replace S := S.trans s50; replace G := G.same s50
    refine ⟨by show 2 ≤ sizeLine; decide, fun t51 n51 => ?_⟩
    have s51 : Same H50 (upd H50 t51 (HO.tup [mine, mine])) := same_new n51
    replace G := G.add (v := mine) rfl n51
    replace S := S.trans s51
    generalize upd H50 t51 (HO.tup [mine, mine]) = K51 at S G s51 ⊢
    refine ⟨_, rfl, made_1 (got_of lkA fun H52 s52 => ?_)⟩
    replace S := S.trans s52; replace G := G.same s52
    refine ⟨_, rfl, made_1K (got_of lkA fun H53 s53 => ?_)⟩
    replace S := S.trans s53; replace G := G.same s53
    refine ⟨by show 2 ≤ sizeLine; decide, fun t54 n54 => ?_⟩
    have s54 : Same H53 (upd H53 t54 (HO.tup [mine, mine])) := same_new n54
    replace G := G.add (v := mine) rfl n54
    replace S := S.trans s54
    generalize upd H53 t54 (HO.tup [mine, mine]) = K54 at S G s54 ⊢
    refine ⟨_, rfl, made_1 (got_of lkA fun H55 s55 => ?_)⟩
    replace S := S.trans s55; replace G := G.same s55
    refine ⟨_, rfl, made_1K (got_of lkA fun H56 s56 => ?_)⟩
    replace S := S.trans s56; replace G := G.same s56
    refine ⟨by show 2 ≤ sizeLine; decide, fun t57 n57 => ?_⟩
    have s57 : Same H56 (upd H56 t57 (HO.tup [mine, mine])) := same_new n57
    replace G := G.add (v := mine) rfl n57
    replace S := S.trans s57
    generalize upd H56 t57 (HO.tup [mine, mine]) = K57 at S G s57 ⊢
    refine ⟨_, rfl, made_1 (got_of lkA fun H58 s58 => ?_)⟩
    replace S := S.trans s58; replace G := G.same s58
    refine ⟨_, rfl, made_1K (got_of lkA fun H59 s59 => ?_)⟩
    replace S := S.trans s59; replace G := G.same s59
    refine ⟨by show 2 ≤ sizeLine; decide, fun t60 n60 => ?_⟩
    have s60 : Same H59 (upd H59 t60 (HO.tup [mine, mine])) := same_new n60
    replace G := G.add (v := mine) rfl n60
    replace S := S.trans s60
    generalize upd H59 t60 (HO.tup [mine, mine]) = K60 at S G s60 ⊢
    refine ⟨_, rfl, made_1 (got_of lkA fun H61 s61 => ?_)⟩
    replace S := S.trans s61; replace G := G.same s61
    refine ⟨_, rfl, made_1K (got_of lkA fun H62 s62 => ?_)⟩
    replace S := S.trans s62; replace G := G.same s62
    refine ⟨by show 2 ≤ sizeLine; decide, fun t63 n63 => ?_⟩
    have s63 : Same H62 (upd H62 t63 (HO.tup [mine, mine])) := same_new n63
    replace G := G.add (v := mine) rfl n63
    replace S := S.trans s63
    generalize upd H62 t63 (HO.tup [mine, mine]) = K63 at S G s63 ⊢
    refine ⟨_, rfl, made_1 (got_of lkA fun H64 s64 => ?_)⟩
    replace S := S.trans s64; replace G := G.same s64
    refine ⟨_, rfl, made_1K (got_of lkA fun H65 s65 => ?_)⟩
    replace S := S.trans s65; replace G := G.same s65
    refine ⟨by show 2 ≤ sizeLine; decide, fun t66 n66 => ?_⟩
    have s66 : Same H65 (upd H65 t66 (HO.tup [mine, mine])) := same_new n66
    replace G := G.add (v := mine) rfl n66
    replace S := S.trans s66
    generalize upd H65 t66 (HO.tup [mine, mine]) = K66 at S G s66 ⊢
    refine ⟨_, rfl, made_1 (got_of lkA fun H67 s67 => ?_)⟩
    replace S := S.trans s67; replace G := G.same s67
    refine ⟨_, rfl, made_1K (got_of lkA fun H68 s68 => ?_)⟩
    replace S := S.trans s68; replace G := G.same s68
    refine ⟨by show 2 ≤ sizeLine; decide, fun t69 n69 => ?_⟩
    have s69 : Same H68 (upd H68 t69 (HO.tup [mine, mine])) := same_new n69
    replace G := G.add (v := mine) rfl n69
    replace S := S.trans s69
    generalize upd H68 t69 (HO.tup [mine, mine]) = K69 at S G s69 ⊢
    simp only [List.nil_append, List.cons_append] at G
    refine ⟨by show 23 ≤ sizeLine; decide, fun l nl => ?_⟩
    exact q l [t3, t6, t9, t12, t15, t18, t21, t24, t27, t30, t33, t36, t39, t42, t45, t48, t51, t54, t57, t60, t63, t66, t69] _ (S.trans (same_new nl)) upd_same rfl (G.same (same_new nl))
abbrev sMo : Stmt := topS 35
theorem scMo : FnScope ["_law_mine", "_law_yours", "_law_rows"] ["_law_mine", "_law_yours"] (defScope sMo) := ⟨rfl, rfl, rfl, by decide +kernel, rfl, by decide +kernel, by decide +kernel⟩
def spMo : Sp := fun vs H Q _ => ∃ mine yours : V, vs = [mine, yours] ∧ ∀ (l : Addr) (ps : List Addr) (H' : Hp), Same H H' → H' l = some (.lst (ps.map V.ref)) → ps.length = 10 → Rws H' (fun v => v = mine ∨ v = yours) ps → Q (.ref l) H'
theorem ok_mo (A : At K mg "_law_more" sMo ["_law_mine", "_law_yours"]) (R : Ers P w K mg base) : DefOk P w K mg base CX0 "_law_more" 3 ["_law_mine", "_law_yours"] spMo := by
  refine A.ok fun f fd F => F.ok scMo (fun vs H Q E h => ?_) (fun cdv A outer s0 H vs Q E hr h => ?_)
  · obtain ⟨mine, yours, rfl, _⟩ := h
    rfl
  · obtain ⟨mine, yours, rfl, q⟩ := h
    have nd := scMo.nd
    refine ⟨_, pss_cons (ps_set (i := 2) nd rfl (.inl rfl) (pe_lst (pa_cons (pe_tup (pa_cons (pe_xfV R.Overflow.b.xf R.Overflow.no1 (pe_e2 R.Overflow hr (by decide) (by rfl) (pv 0) (pv 1))) (pa_cons (pv 0) pa_nil))) (pa_cons (pe_tup (pa_cons (pe_xfV R.Overflow.b.xf R.Overflow.no2 (pe_e2K R.Overflow hr (by decide) (by rfl) (pv 0) (pv 1))) (pa_cons (pv 1) pa_nil))) pa_nil))))
      (pss_cons (ps_set (i := 2) nd rfl (.inl rfl) (pe_op op_cat (pv 2) (pe_lst (pa_cons (pe_tup (pa_cons (pe_xfV R.Overflow.b.xf R.Overflow.no2 (pe_e2S R.Overflow hr (by decide) (by rfl) (pv 0) (pv 1))) (pa_cons (pv 0) pa_nil))) (pa_cons (pe_tup (pa_cons (pe_xfV R.Overflow.b.xf R.Overflow.no1 (pe_e2S R.Overflow hr (by decide) (by rfl) (pv 0) (pv 1))) (pa_cons (pv 1) pa_nil))) pa_nil)))))
      (pss_cons (ps_set (i := 2) nd rfl (.inl rfl) (pe_op op_cat (pv 2) (pe_lst (pa_cons (pe_tup (pa_cons (pe_xfV R.CanOver.b.xf R.CanOver.no1 (pe_e2 R.CanOver hr (by decide) (by rfl) (pv 0) (pv 1))) (pa_cons (pv 0) pa_nil))) (pa_cons (pe_tup (pa_cons (pe_xfV R.CanOver.b.xf R.CanOver.no2 (pe_e2K R.CanOver hr (by decide) (by rfl) (pv 0) (pv 1))) (pa_cons (pv 1) pa_nil))) pa_nil)))))
      (pss_cons (ps_set (i := 2) nd rfl (.inl rfl) (pe_op op_cat (pv 2) (pe_lst (pa_cons (pe_tup (pa_cons (pe_xfV R.CanOver.b.xf R.CanOver.no1 (pe_e2S R.CanOver hr (by decide) (by rfl) (pv 0) (pv 1))) (pa_cons (pv 1) pa_nil))) (pa_cons (pe_tup (pa_cons (pe_xfV R.Broken.b.xf R.Broken.no1 (pe_e2 R.Broken hr (by decide) (by rfl) (pv 0) (pv 1))) (pa_cons (pv 0) pa_nil))) pa_nil)))))
      (pss_one (ps_ret (pe_op op_cat (pv 2) (pe_lst (pa_cons (pe_tup (pa_cons (pe_xfV R.Broken.b.xf R.Broken.no2 (pe_e2K R.Broken hr (by decide) (by rfl) (pv 0) (pv 1))) (pa_cons (pv 1) pa_nil))) (pa_cons (pe_tup (pa_cons (pe_xfV R.Broken.b.xf R.Broken.no2 (pe_e2S R.Broken hr (by decide) (by rfl) (pv 0) (pv 1))) (pa_cons (pv 0) pa_nil))) pa_nil))))))))), ?_⟩
    have S : Same H H := fun _ _ e => e
    have G : Rws H (fun v => v = mine ∨ v = yours) [] := Rws.nil
    refine ⟨_, rfl, _, rfl, made_2P (got_of (lkB (by decide)) fun H1 s1 => ?_)⟩
    replace S := S.trans s1; replace G := G.same s1
    refine ⟨_, rfl, ?_⟩
    refine ⟨by show 2 ≤ sizeLine; decide, fun t2 n2 => ?_⟩
    have s2 : Same H1 (upd H1 t2 (HO.tup [mine, mine])) := same_new n2
    replace G := G.add (v := mine) (.inl rfl) n2
    replace S := S.trans s2
    generalize upd H1 t2 (HO.tup [mine, mine]) = K2 at S G s2 ⊢
    refine ⟨_, rfl, _, rfl, made_2K (got_of lkA fun H3 s3 => ?_)⟩
    replace S := S.trans s3; replace G := G.same s3
    refine ⟨_, rfl, ?_⟩
    refine ⟨by show 2 ≤ sizeLine; decide, fun t4 n4 => ?_⟩
    have s4 : Same H3 (upd H3 t4 (HO.tup [yours, yours])) := same_new n4
    replace G := G.add (v := yours) (.inr rfl) n4
    replace S := S.trans s4
    generalize upd H3 t4 (HO.tup [yours, yours]) = K4 at S G s4 ⊢
    refine ⟨by show 2 ≤ sizeLine; decide, fun l5 n5 => ?_⟩
    have s5 : Same K4 (upd K4 l5 (HO.lst [.ref t2, .ref t4])) := same_new n5
    have b5 : LRw (upd K4 l5 (HO.lst [.ref t2, .ref t4])) (fun v => v = mine ∨ v = yours) l5 2 := LRw.of (ps := [t2, t4]) G n5
    replace S := S.trans s5; clear G
    generalize upd K4 l5 (HO.lst [.ref t2, .ref t4]) = K5 at S s5 b5 ⊢
    have L := b5; clear b5
    dsimp only [gName, List.set]
    refine ⟨_, rfl, ?_⟩
    have G : Rws K5 (fun v => v = mine ∨ v = yours) [] := Rws.nil
    refine ⟨_, rfl, _, rfl, made_2S (got_of lkA fun H6 s6 => ?_)⟩
    replace S := S.trans s6; replace G := G.same s6; replace L := L.same s6
    refine ⟨_, rfl, ?_⟩
    refine ⟨by show 2 ≤ sizeLine; decide, fun t7 n7 => ?_⟩
    have s7 : Same H6 (upd H6 t7 (HO.tup [mine, mine])) := same_new n7
    replace G := G.add (v := mine) (.inl rfl) n7
    replace S := S.trans s7; replace L := L.same s7
    generalize upd H6 t7 (HO.tup [mine, mine]) = K7 at S G s7 L ⊢
    refine ⟨_, rfl, _, rfl, made_2S (got_of (lkB (by decide)) fun H8 s8 => ?_)⟩
    replace S := S.trans s8; replace G := G.same s8; replace L := L.same s8
    refine ⟨_, rfl, ?_⟩
    refine ⟨by show 2 ≤ sizeLine; decide, fun t9 n9 => ?_⟩
    have s9 : Same H8 (upd H8 t9 (HO.tup [yours, yours])) := same_new n9
    replace G := G.add (v := yours) (.inr rfl) n9
    replace S := S.trans s9; replace L := L.same s9
    generalize upd H8 t9 (HO.tup [yours, yours]) = K9 at S G s9 L ⊢
    refine ⟨by show 2 ≤ sizeLine; decide, fun l10 n10 => ?_⟩
    have s10 : Same K9 (upd K9 l10 (HO.lst [.ref t7, .ref t9])) := same_new n10
    have b10 : LRw (upd K9 l10 (HO.lst [.ref t7, .ref t9])) (fun v => v = mine ∨ v = yours) l10 2 := LRw.of (ps := [t7, t9]) G n10
    replace S := S.trans s10; clear G; replace L := L.same s10
    generalize upd K9 l10 (HO.lst [.ref t7, .ref t9]) = K10 at S s10 b10 L ⊢
    obtain ⟨xs, zs, e1, e2, y1, y2, k⟩ := L.cat b10; clear L b10
    refine ⟨l5, l10, xs, zs, rfl, rfl, e1, e2, by rw [y1, y2]; show 2 + 2 ≤ sizeLine; decide, fun p11 n11 => ?_⟩
    have L := k _ n11; clear k e1 e2
    replace S := S.trans (same_new (o := HO.lst (xs ++ zs)) n11)
    generalize upd K10 p11 (HO.lst (xs ++ zs)) = K11 at S L ⊢
    dsimp only [gName, List.set]
    refine ⟨_, rfl, ?_⟩
    have G : Rws K11 (fun v => v = mine ∨ v = yours) [] := Rws.nil
    refine ⟨_, rfl, _, rfl, made_2P (got_of (lkB (by decide)) fun H12 s12 => ?_)⟩
    replace S := S.trans s12; replace G := G.same s12; replace L := L.same s12
    refine ⟨_, rfl, ?_⟩
    refine ⟨by show 2 ≤ sizeLine; decide, fun t13 n13 => ?_⟩
    have s13 : Same H12 (upd H12 t13 (HO.tup [mine, mine])) := same_new n13
    replace G := G.add (v := mine) (.inl rfl) n13
    replace S := S.trans s13; replace L := L.same s13
    generalize upd H12 t13 (HO.tup [mine, mine]) = K13 at S G s13 L ⊢
    refine ⟨_, rfl, _, rfl, made_2K (got_of lkA fun H14 s14 => ?_)⟩
    replace S := S.trans s14; replace G := G.same s14; replace L := L.same s14
    refine ⟨_, rfl, ?_⟩
    refine ⟨by show 2 ≤ sizeLine; decide, fun t15 n15 => ?_⟩
    have s15 : Same H14 (upd H14 t15 (HO.tup [yours, yours])) := same_new n15
    replace G := G.add (v := yours) (.inr rfl) n15
    replace S := S.trans s15; replace L := L.same s15
    generalize upd H14 t15 (HO.tup [yours, yours]) = K15 at S G s15 L ⊢
    refine ⟨by show 2 ≤ sizeLine; decide, fun l16 n16 => ?_⟩
    have s16 : Same K15 (upd K15 l16 (HO.lst [.ref t13, .ref t15])) := same_new n16
    have b16 : LRw (upd K15 l16 (HO.lst [.ref t13, .ref t15])) (fun v => v = mine ∨ v = yours) l16 2 := LRw.of (ps := [t13, t15]) G n16
    replace S := S.trans s16; clear G; replace L := L.same s16
    generalize upd K15 l16 (HO.lst [.ref t13, .ref t15]) = K16 at S s16 b16 L ⊢
    obtain ⟨xs, zs, e1, e2, y1, y2, k⟩ := L.cat b16; clear L b16
    refine ⟨p11, l16, xs, zs, rfl, rfl, e1, e2, by rw [y1, y2]; show 4 + 2 ≤ sizeLine; decide, fun p17 n17 => ?_⟩
    have L := k _ n17; clear k e1 e2
    replace S := S.trans (same_new (o := HO.lst (xs ++ zs)) n17)
    generalize upd K16 p17 (HO.lst (xs ++ zs)) = K17 at S L ⊢
    dsimp only [gName, List.set]
    refine ⟨_, rfl, ?_⟩
    have G : Rws K17 (fun v => v = mine ∨ v = yours) [] := Rws.nil
    refine ⟨_, rfl, _, rfl, made_2S (got_of (lkB (by decide)) fun H18 s18 => ?_)⟩
    replace S := S.trans s18; replace G := G.same s18; replace L := L.same s18
    refine ⟨_, rfl, ?_⟩
    refine ⟨by show 2 ≤ sizeLine; decide, fun t19 n19 => ?_⟩
    have s19 : Same H18 (upd H18 t19 (HO.tup [yours, yours])) := same_new n19
    replace G := G.add (v := yours) (.inr rfl) n19
    replace S := S.trans s19; replace L := L.same s19
    generalize upd H18 t19 (HO.tup [yours, yours]) = K19 at S G s19 L ⊢
    refine ⟨_, rfl, _, rfl, made_2P (got_of (lkB (by decide)) fun H20 s20 => ?_)⟩
    replace S := S.trans s20; replace G := G.same s20; replace L := L.same s20
    refine ⟨_, rfl, ?_⟩
    refine ⟨by show 2 ≤ sizeLine; decide, fun t21 n21 => ?_⟩
    have s21 : Same H20 (upd H20 t21 (HO.tup [mine, mine])) := same_new n21
    replace G := G.add (v := mine) (.inl rfl) n21
    replace S := S.trans s21; replace L := L.same s21
    generalize upd H20 t21 (HO.tup [mine, mine]) = K21 at S G s21 L ⊢
    refine ⟨by show 2 ≤ sizeLine; decide, fun l22 n22 => ?_⟩
    have s22 : Same K21 (upd K21 l22 (HO.lst [.ref t19, .ref t21])) := same_new n22
    have b22 : LRw (upd K21 l22 (HO.lst [.ref t19, .ref t21])) (fun v => v = mine ∨ v = yours) l22 2 := LRw.of (ps := [t19, t21]) G n22
    replace S := S.trans s22; clear G; replace L := L.same s22
    generalize upd K21 l22 (HO.lst [.ref t19, .ref t21]) = K22 at S s22 b22 L ⊢
    obtain ⟨xs, zs, e1, e2, y1, y2, k⟩ := L.cat b22; clear L b22
    refine ⟨p17, l22, xs, zs, rfl, rfl, e1, e2, by rw [y1, y2]; show 6 + 2 ≤ sizeLine; decide, fun p23 n23 => ?_⟩
    have L := k _ n23; clear k e1 e2
    replace S := S.trans (same_new (o := HO.lst (xs ++ zs)) n23)
    generalize upd K22 p23 (HO.lst (xs ++ zs)) = K23 at S L ⊢
    dsimp only [gName, List.set]
    refine ⟨_, rfl, ?_⟩
    have G : Rws K23 (fun v => v = mine ∨ v = yours) [] := Rws.nil
    refine ⟨_, rfl, _, rfl, made_2K (got_of lkA fun H24 s24 => ?_)⟩
    replace S := S.trans s24; replace G := G.same s24; replace L := L.same s24
    refine ⟨_, rfl, ?_⟩
    refine ⟨by show 2 ≤ sizeLine; decide, fun t25 n25 => ?_⟩
    have s25 : Same H24 (upd H24 t25 (HO.tup [yours, yours])) := same_new n25
    replace G := G.add (v := yours) (.inr rfl) n25
    replace S := S.trans s25; replace L := L.same s25
    generalize upd H24 t25 (HO.tup [yours, yours]) = K25 at S G s25 L ⊢
    refine ⟨_, rfl, _, rfl, made_2S (got_of lkA fun H26 s26 => ?_)⟩
    replace S := S.trans s26; replace G := G.same s26; replace L := L.same s26
    refine ⟨_, rfl, ?_⟩
    refine ⟨by show 2 ≤ sizeLine; decide, fun t27 n27 => ?_⟩
    have s27 : Same H26 (upd H26 t27 (HO.tup [mine, mine])) := same_new n27
    replace G := G.add (v := mine) (.inl rfl) n27
    replace S := S.trans s27; replace L := L.same s27
    generalize upd H26 t27 (HO.tup [mine, mine]) = K27 at S G s27 L ⊢
    refine ⟨by show 2 ≤ sizeLine; decide, fun l28 n28 => ?_⟩
    have s28 : Same K27 (upd K27 l28 (HO.lst [.ref t25, .ref t27])) := same_new n28
    have b28 : LRw (upd K27 l28 (HO.lst [.ref t25, .ref t27])) (fun v => v = mine ∨ v = yours) l28 2 := LRw.of (ps := [t25, t27]) G n28
    replace S := S.trans s28; clear G; replace L := L.same s28
    generalize upd K27 l28 (HO.lst [.ref t25, .ref t27]) = K28 at S s28 b28 L ⊢
    obtain ⟨xs, zs, e1, e2, y1, y2, k⟩ := L.cat b28; clear L b28
    refine ⟨p23, l28, xs, zs, rfl, rfl, e1, e2, by rw [y1, y2]; show 8 + 2 ≤ sizeLine; decide, fun p29 n29 => ?_⟩
    have L := k _ n29; clear k e1 e2
    replace S := S.trans (same_new (o := HO.lst (xs ++ zs)) n29)
    generalize upd K28 p29 (HO.lst (xs ++ zs)) = K29 at S L ⊢
    obtain ⟨ps, e, y, g⟩ := L
    exact q p29 ps _ S e y g
end
end K00

/-! k00: _law_kinds. -/
namespace K00
open PySem PySem.Spec PyProof.Rows L2 LamX NdefX Own
def junkE : Expr := .Constant .none 0 ⟨0, 0, 0, 0⟩
def retE : Stmt → Expr
  | .Return (some e) _ => e
  | _ => junkE
def argN (i : Nat) : Expr → Expr
  | .Call _ l _ _ => l.getD i junkE
  | .List l _ => l.getD i junkE
  | .Compare a _ _ _ => a
  | _ => junkE
def ifE : Stmt → Expr
  | .If e _ _ _ => e
  | _ => junkE
def notE : Expr → Expr
  | .UnaryOp _ e _ => e
  | _ => junkE
def lcScope : Expr → Scope
  | .ListComp _ _ s _ => s
  | _ => ⟨.function, [], false, false, []⟩
abbrev inD (s : Stmt) (i : Nat) : Stmt := (defBody s).getD i (.Pass ⟨0, 0, 0, 0⟩)
abbrev sKi : Stmt := topS 36
abbrev nKi : List Str := ["_law_error", "_law_found", "_law_one"]
theorem blkKi : BlkOk nKi (defScope sKi) (lcScope (retE (inD sKi 9))) [("_law_one", 2)] := blkOk_by (by decide +kernel)
/-- the answers of isinstance, and as numbers -/
def kb (k n : Nat) : List V := (List.range n).map fun j => .bl (decide (k = j))
def kz (k n : Nat) : List Int := (List.range n).map fun j => if decide (k = j) = true then 1 else 0
def ki (k n : Nat) : List V := (kz k n).map V.int
theorem kb_len {k n : Nat} : (kb k n).length = n := by unfold kb; rw [List.length_map, List.length_range]
theorem ki_len {k n : Nat} : (ki k n).length = n := by unfold ki kz; rw [List.length_map, List.length_map, List.length_range]
theorem kb1 (k n : Nat) : kb k n ++ [.bl (decide (k = n))] = kb k (n + 1) := by unfold kb; rw [List.range_succ, List.map_append]; rfl
theorem ki1 (k n : Nat) : ki k n ++ [.int (if decide (k = n) = true then 1 else 0)] = ki k (n + 1) := by unfold ki kz; rw [List.range_succ, List.map_append, List.map_append]; rfl
theorem kb3 (k n : Nat) : kb k n ++ [.bl (decide (k = n)), .bl (decide (k = n + 1)), .bl (decide (k = n + 2))] = kb k (n + 3) := by
  rw [← kb1 k (n + 2), ← kb1 k (n + 1), ← kb1 k n, List.append_assoc, List.append_assoc]
  rfl
theorem kb_at {k n i : Nat} {x : V} (h : (kb k n)[i]? = some x) : i < n ∧ x = .bl (decide (k = i)) := by
  unfold kb at h
  have hi : i < n := by
    have := (List.getElem?_eq_some_iff.mp h).1
    rwa [List.length_map, List.length_range] at this
  rw [List.getElem?_map, List.getElem?_range hi] at h
  exact ⟨hi, (Option.some.inj h).symm⟩
section
variable {P : Program} {w : World} {K : PySem.W.Frag} {mg : Str → Option Value} {base : Heap}
theorem scKi : FnScope nKi ["_law_error"] (defScope sKi) := ⟨rfl, rfl, rfl, by decide +kernel, rfl, by decide +kernel, by decide +kernel⟩
def spKi (K : PySem.W.Frag) : Sp := fun vs H Q _ => ∃ (a : Addr) (k : Nat), vs = [.ref a] ∧ k < 28 ∧ Held H a (dE K k) ∧ ∀ (l : Addr) (H' : Hp), Same H H' → H' l = some (.lst (ki k 28)) → Q (.ref l) H'
theorem ok_ki (A : At K mg "_law_kinds" sKi ["_law_error"]) (B : Blt mg) (R : Ers P w K mg base) : DefOk P w K mg base CX0 "_law_kinds" 1 ["_law_error"] (spKi K) := by
  refine A.ok fun f fd F => F.ok scKi (fun vs H Q E h => ?_) (fun cdv A outer s0 H vs Q E hr h => ?_)
  · obtain ⟨a, k, rfl, _⟩ := h
    rfl
  · obtain ⟨a, k, rfl, hk, hh, q⟩ := h
    have nd := scKi.nd
    refine ⟨_, pss_cons (ps_set (i := 1) nd rfl (.inl rfl) (pe_lst (pa_cons (pe_callB call_isHeldA (by rfl) B.isi (by decide +kernel) (pa_cons (pv 0) (pa_cons (pe_glob (v := .ref _) (by rfl) R.BadValue.b.g rfl) pa_nil))) (pa_cons (pe_callB call_isHeldA (by rfl) B.isi (by decide +kernel) (pa_cons (pv 0) (pa_cons (pe_glob (v := .ref _) (by rfl) R.TooFine.b.g rfl) pa_nil))) (pa_cons (pe_callB call_isHeldA (by rfl) B.isi (by decide +kernel) (pa_cons (pv 0) (pa_cons (pe_glob (v := .ref _) (by rfl) R.NoFigures.b.g rfl) pa_nil))) pa_nil)))))
      (pss_cons (ps_set (i := 1) nd rfl (.inl rfl) (pe_op op_cat (pv 1) (pe_lst (pa_cons (pe_callB call_isHeldA (by rfl) B.isi (by decide +kernel) (pa_cons (pv 0) (pa_cons (pe_glob (v := .ref _) (by rfl) R.BadStep.b.g rfl) pa_nil))) (pa_cons (pe_callB call_isHeldA (by rfl) B.isi (by decide +kernel) (pa_cons (pv 0) (pa_cons (pe_glob (v := .ref _) (by rfl) R.WideColumn.b.g rfl) pa_nil))) (pa_cons (pe_callB call_isHeldA (by rfl) B.isi (by decide +kernel) (pa_cons (pv 0) (pa_cons (pe_glob (v := .ref _) (by rfl) R.TooWide.b.g rfl) pa_nil))) pa_nil))))))
      (pss_cons (ps_set (i := 1) nd rfl (.inl rfl) (pe_op op_cat (pv 1) (pe_lst (pa_cons (pe_callB call_isHeldA (by rfl) B.isi (by decide +kernel) (pa_cons (pv 0) (pa_cons (pe_glob (v := .ref _) (by rfl) R.NoColumn.b.g rfl) pa_nil))) (pa_cons (pe_callB call_isHeldA (by rfl) B.isi (by decide +kernel) (pa_cons (pv 0) (pa_cons (pe_glob (v := .ref _) (by rfl) R.BadWorths.b.g rfl) pa_nil))) (pa_cons (pe_callB call_isHeldA (by rfl) B.isi (by decide +kernel) (pa_cons (pv 0) (pa_cons (pe_glob (v := .ref _) (by rfl) R.NotOnce.b.g rfl) pa_nil))) pa_nil))))))
      (pss_cons (ps_set (i := 1) nd rfl (.inl rfl) (pe_op op_cat (pv 1) (pe_lst (pa_cons (pe_callB call_isHeldA (by rfl) B.isi (by decide +kernel) (pa_cons (pv 0) (pa_cons (pe_glob (v := .ref _) (by rfl) R.NoDivisor.b.g rfl) pa_nil))) (pa_cons (pe_callB call_isHeldA (by rfl) B.isi (by decide +kernel) (pa_cons (pv 0) (pa_cons (pe_glob (v := .ref _) (by rfl) R.Overflow.b.g rfl) pa_nil))) (pa_cons (pe_callB call_isHeldA (by rfl) B.isi (by decide +kernel) (pa_cons (pv 0) (pa_cons (pe_glob (v := .ref _) (by rfl) R.NotPlain.b.g rfl) pa_nil))) pa_nil))))))
      (pss_cons (ps_set (i := 1) nd rfl (.inl rfl) (pe_op op_cat (pv 1) (pe_lst (pa_cons (pe_callB call_isHeldA (by rfl) B.isi (by decide +kernel) (pa_cons (pv 0) (pa_cons (pe_glob (v := .ref _) (by rfl) R.Divides.b.g rfl) pa_nil))) (pa_cons (pe_callB call_isHeldA (by rfl) B.isi (by decide +kernel) (pa_cons (pv 0) (pa_cons (pe_glob (v := .ref _) (by rfl) R.NotSteady.b.g rfl) pa_nil))) (pa_cons (pe_callB call_isHeldA (by rfl) B.isi (by decide +kernel) (pa_cons (pv 0) (pa_cons (pe_glob (v := .ref _) (by rfl) R.NotASum.b.g rfl) pa_nil))) pa_nil))))))
      (pss_cons (ps_set (i := 1) nd rfl (.inl rfl) (pe_op op_cat (pv 1) (pe_lst (pa_cons (pe_callB call_isHeldA (by rfl) B.isi (by decide +kernel) (pa_cons (pv 0) (pa_cons (pe_glob (v := .ref _) (by rfl) R.NotLinear.b.g rfl) pa_nil))) (pa_cons (pe_callB call_isHeldA (by rfl) B.isi (by decide +kernel) (pa_cons (pv 0) (pa_cons (pe_glob (v := .ref _) (by rfl) R.CanOver.b.g rfl) pa_nil))) (pa_cons (pe_callB call_isHeldA (by rfl) B.isi (by decide +kernel) (pa_cons (pv 0) (pa_cons (pe_glob (v := .ref _) (by rfl) R.ColumnsDiffer.b.g rfl) pa_nil))) pa_nil))))))
      (pss_cons (ps_set (i := 1) nd rfl (.inl rfl) (pe_op op_cat (pv 1) (pe_lst (pa_cons (pe_callB call_isHeldA (by rfl) B.isi (by decide +kernel) (pa_cons (pv 0) (pa_cons (pe_glob (v := .ref _) (by rfl) R.BadEntry.b.g rfl) pa_nil))) (pa_cons (pe_callB call_isHeldA (by rfl) B.isi (by decide +kernel) (pa_cons (pv 0) (pa_cons (pe_glob (v := .ref _) (by rfl) R.Gaps.b.g rfl) pa_nil))) (pa_cons (pe_callB call_isHeldA (by rfl) B.isi (by decide +kernel) (pa_cons (pv 0) (pa_cons (pe_glob (v := .ref _) (by rfl) R.BadColumn.b.g rfl) pa_nil))) pa_nil))))))
      (pss_cons (ps_set (i := 1) nd rfl (.inl rfl) (pe_op op_cat (pv 1) (pe_lst (pa_cons (pe_callB call_isHeldA (by rfl) B.isi (by decide +kernel) (pa_cons (pv 0) (pa_cons (pe_glob (v := .ref _) (by rfl) R.BadText.b.g rfl) pa_nil))) (pa_cons (pe_callB call_isHeldA (by rfl) B.isi (by decide +kernel) (pa_cons (pv 0) (pa_cons (pe_glob (v := .ref _) (by rfl) R.NotAFormula.b.g rfl) pa_nil))) (pa_cons (pe_callB call_isHeldA (by rfl) B.isi (by decide +kernel) (pa_cons (pv 0) (pa_cons (pe_glob (v := .ref _) (by rfl) R.Taken.b.g rfl) pa_nil))) pa_nil))))))
      (pss_cons (ps_set (i := 1) nd rfl (.inl rfl) (pe_op op_cat (pv 1) (pe_lst (pa_cons (pe_callB call_isHeldA (by rfl) B.isi (by decide +kernel) (pa_cons (pv 0) (pa_cons (pe_glob (v := .ref _) (by rfl) R.Unknown.b.g rfl) pa_nil))) (pa_cons (pe_callB call_isHeldA (by rfl) B.isi (by decide +kernel) (pa_cons (pv 0) (pa_cons (pe_glob (v := .ref _) (by rfl) R.InUse.b.g rfl) pa_nil))) (pa_cons (pe_callB call_isHeldA (by rfl) B.isi (by decide +kernel) (pa_cons (pv 0) (pa_cons (pe_glob (v := .ref _) (by rfl) R.BadPromise.b.g rfl) pa_nil))) pa_nil))))))
      (pss_one (ps_ret (pe_lc (own := [("_law_one", 2)]) (te := tCB _ (tCons (tVar 2) tNil)) rfl nd (pi_list (pe_op op_cat (pv 1) (pe_lst (pa_cons (pe_callB call_isHeldA (by rfl) B.isi (by decide +kernel) (pa_cons (pv 0) (pa_cons (pe_glob (v := .ref _) (by rfl) R.Broken.b.g rfl) pa_nil))) pa_nil)))) blkKi (fun _ _ _ _ _ => (pg_name (i := 2) nd rfl (.inl rfl))) (fun _ _ _ _ _ => pts_nil) (fun _ _ _ _ _ => (pe_callTy call_int1 (by rfl) B.int (by decide +kernel) (pa_cons (pv 2) pa_nil)))))))))))))), ?_⟩
    have Rk := R.is k hk
    have c0 : PySem.W.kitOne K (.ref (dE K k)) (.ref (He.ga K "BadValue")) = some (decide (k = 0)) := R.kit k 0 hk (by decide)
    have c1 : PySem.W.kitOne K (.ref (dE K k)) (.ref (He.ga K "TooFine")) = some (decide (k = 1)) := R.kit k 1 hk (by decide)
    have c2 : PySem.W.kitOne K (.ref (dE K k)) (.ref (He.ga K "NoFigures")) = some (decide (k = 2)) := R.kit k 2 hk (by decide)
    have c3 : PySem.W.kitOne K (.ref (dE K k)) (.ref (He.ga K "BadStep")) = some (decide (k = 3)) := R.kit k 3 hk (by decide)
    have c4 : PySem.W.kitOne K (.ref (dE K k)) (.ref (He.ga K "WideColumn")) = some (decide (k = 4)) := R.kit k 4 hk (by decide)
    have c5 : PySem.W.kitOne K (.ref (dE K k)) (.ref (He.ga K "TooWide")) = some (decide (k = 5)) := R.kit k 5 hk (by decide)
    have c6 : PySem.W.kitOne K (.ref (dE K k)) (.ref (He.ga K "NoColumn")) = some (decide (k = 6)) := R.kit k 6 hk (by decide)
    have c7 : PySem.W.kitOne K (.ref (dE K k)) (.ref (He.ga K "BadWorths")) = some (decide (k = 7)) := R.kit k 7 hk (by decide)
    have c8 : PySem.W.kitOne K (.ref (dE K k)) (.ref (He.ga K "NotOnce")) = some (decide (k = 8)) := R.kit k 8 hk (by decide)
    have c9 : PySem.W.kitOne K (.ref (dE K k)) (.ref (He.ga K "NoDivisor")) = some (decide (k = 9)) := R.kit k 9 hk (by decide)
    have c10 : PySem.W.kitOne K (.ref (dE K k)) (.ref (He.ga K "Overflow")) = some (decide (k = 10)) := R.kit k 10 hk (by decide)
    have c11 : PySem.W.kitOne K (.ref (dE K k)) (.ref (He.ga K "NotPlain")) = some (decide (k = 11)) := R.kit k 11 hk (by decide)
    have c12 : PySem.W.kitOne K (.ref (dE K k)) (.ref (He.ga K "Divides")) = some (decide (k = 12)) := R.kit k 12 hk (by decide)
    have c13 : PySem.W.kitOne K (.ref (dE K k)) (.ref (He.ga K "NotSteady")) = some (decide (k = 13)) := R.kit k 13 hk (by decide)
    have c14 : PySem.W.kitOne K (.ref (dE K k)) (.ref (He.ga K "NotASum")) = some (decide (k = 14)) := R.kit k 14 hk (by decide)
    have c15 : PySem.W.kitOne K (.ref (dE K k)) (.ref (He.ga K "NotLinear")) = some (decide (k = 15)) := R.kit k 15 hk (by decide)
    have c16 : PySem.W.kitOne K (.ref (dE K k)) (.ref (He.ga K "CanOver")) = some (decide (k = 16)) := R.kit k 16 hk (by decide)
    have c17 : PySem.W.kitOne K (.ref (dE K k)) (.ref (He.ga K "ColumnsDiffer")) = some (decide (k = 17)) := R.kit k 17 hk (by decide)
    have c18 : PySem.W.kitOne K (.ref (dE K k)) (.ref (He.ga K "BadEntry")) = some (decide (k = 18)) := R.kit k 18 hk (by decide)
    have c19 : PySem.W.kitOne K (.ref (dE K k)) (.ref (He.ga K "Gaps")) = some (decide (k = 19)) := R.kit k 19 hk (by decide)
    have c20 : PySem.W.kitOne K (.ref (dE K k)) (.ref (He.ga K "BadColumn")) = some (decide (k = 20)) := R.kit k 20 hk (by decide)
    have c21 : PySem.W.kitOne K (.ref (dE K k)) (.ref (He.ga K "BadText")) = some (decide (k = 21)) := R.kit k 21 hk (by decide)
    have c22 : PySem.W.kitOne K (.ref (dE K k)) (.ref (He.ga K "NotAFormula")) = some (decide (k = 22)) := R.kit k 22 hk (by decide)
    have c23 : PySem.W.kitOne K (.ref (dE K k)) (.ref (He.ga K "Taken")) = some (decide (k = 23)) := R.kit k 23 hk (by decide)
    have c24 : PySem.W.kitOne K (.ref (dE K k)) (.ref (He.ga K "Unknown")) = some (decide (k = 24)) := R.kit k 24 hk (by decide)
    have c25 : PySem.W.kitOne K (.ref (dE K k)) (.ref (He.ga K "InUse")) = some (decide (k = 25)) := R.kit k 25 hk (by decide)
    have c26 : PySem.W.kitOne K (.ref (dE K k)) (.ref (He.ga K "BadPromise")) = some (decide (k = 26)) := R.kit k 26 hk (by decide)
    have c27 : PySem.W.kitOne K (.ref (dE K k)) (.ref (He.ga K "Broken")) = some (decide (k = 27)) := R.kit k 27 hk (by decide)
    have S : Same H H := fun _ _ e => e
    refine ⟨_, rfl, a, dE K k, _, _, _, rfl, Rk, hh, .own _, c0, _, rfl, a, dE K k, _, _, _, rfl, Rk, hh, .own _, c1, _, rfl, a, dE K k, _, _, _, rfl, Rk, hh, .own _, c2, by show 3 ≤ sizeLine; decide, fun l0 n0 => ?_⟩
    have s1 : Same H (upd H l0 (HO.lst [.bl (decide (k = 0)), .bl (decide (k = 1)), .bl (decide (k = 2))])) := same_new n0
    have e0 : upd H l0 (HO.lst [.bl (decide (k = 0)), .bl (decide (k = 1)), .bl (decide (k = 2))]) l0 = some (HO.lst [.bl (decide (k = 0)), .bl (decide (k = 1)), .bl (decide (k = 2))]) := upd_same
    replace hh := hh.same s1; replace S := S.trans s1
    generalize upd H l0 (HO.lst [.bl (decide (k = 0)), .bl (decide (k = 1)), .bl (decide (k = 2))]) = A0 at s1 e0 hh S ⊢
    clear s1
    have L : A0 l0 = some (.lst (kb k 3)) := e0.trans (congrArg (fun x => some (HO.lst x)) (kb3 k 0))
    dsimp only [gName, List.set]
    refine ⟨_, rfl, ?_⟩
    refine ⟨_, rfl, a, dE K k, _, _, _, rfl, Rk, hh, .own _, c3, _, rfl, a, dE K k, _, _, _, rfl, Rk, hh, .own _, c4, _, rfl, a, dE K k, _, _, _, rfl, Rk, hh, .own _, c5, by show 3 ≤ sizeLine; decide, fun l1 n1 => ?_⟩
    have s1 : Same A0 (upd A0 l1 (HO.lst [.bl (decide (k = 3)), .bl (decide (k = 4)), .bl (decide (k = 5))])) := same_new n1
    have e1 : upd A0 l1 (HO.lst [.bl (decide (k = 3)), .bl (decide (k = 4)), .bl (decide (k = 5))]) l1 = some (HO.lst [.bl (decide (k = 3)), .bl (decide (k = 4)), .bl (decide (k = 5))]) := upd_same
    replace hh := hh.same s1; replace S := S.trans s1; replace L := s1 _ _ L
    generalize upd A0 l1 (HO.lst [.bl (decide (k = 3)), .bl (decide (k = 4)), .bl (decide (k = 5))]) = A1 at s1 e1 hh S L ⊢
    clear s1
    refine ⟨l0, l1, _, _, rfl, rfl, L, e1, by rw [kb_len]; show 3 + 3 ≤ sizeLine; decide, fun p1 m1 => ?_⟩
    rw [show kb k 3 ++ [.bl (decide (k = 3)), .bl (decide (k = 4)), .bl (decide (k = 5))] = kb k 6 from kb3 k 3]
    have s1 : Same A1 (upd A1 p1 (HO.lst (kb k 6))) := same_new m1
    have ez : upd A1 p1 (HO.lst (kb k 6)) p1 = some (HO.lst (kb k 6)) := upd_same
    replace hh := hh.same s1; replace S := S.trans s1; clear L
    generalize upd A1 p1 (HO.lst (kb k 6)) = B1 at s1 ez hh S ⊢
    have L := ez; clear s1 ez e1
    dsimp only [gName, List.set]
    refine ⟨_, rfl, ?_⟩
    refine ⟨_, rfl, a, dE K k, _, _, _, rfl, Rk, hh, .own _, c6, _, rfl, a, dE K k, _, _, _, rfl, Rk, hh, .own _, c7, _, rfl, a, dE K k, _, _, _, rfl, Rk, hh, .own _, c8, by show 3 ≤ sizeLine; decide, fun l2 n2 => ?_⟩
    have s1 : Same B1 (upd B1 l2 (HO.lst [.bl (decide (k = 6)), .bl (decide (k = 7)), .bl (decide (k = 8))])) := same_new n2
    have e2 : upd B1 l2 (HO.lst [.bl (decide (k = 6)), .bl (decide (k = 7)), .bl (decide (k = 8))]) l2 = some (HO.lst [.bl (decide (k = 6)), .bl (decide (k = 7)), .bl (decide (k = 8))]) := upd_same
    replace hh := hh.same s1; replace S := S.trans s1; replace L := s1 _ _ L
    generalize upd B1 l2 (HO.lst [.bl (decide (k = 6)), .bl (decide (k = 7)), .bl (decide (k = 8))]) = A2 at s1 e2 hh S L ⊢
    clear s1
    refine ⟨p1, l2, _, _, rfl, rfl, L, e2, by rw [kb_len]; show 6 + 3 ≤ sizeLine; decide, fun p2 m2 => ?_⟩
    rw [show kb k 6 ++ [.bl (decide (k = 6)), .bl (decide (k = 7)), .bl (decide (k = 8))] = kb k 9 from kb3 k 6]
    have s1 : Same A2 (upd A2 p2 (HO.lst (kb k 9))) := same_new m2
    have ez : upd A2 p2 (HO.lst (kb k 9)) p2 = some (HO.lst (kb k 9)) := upd_same
    replace hh := hh.same s1; replace S := S.trans s1; clear L
    generalize upd A2 p2 (HO.lst (kb k 9)) = B2 at s1 ez hh S ⊢
    have L := ez; clear s1 ez e2
    dsimp only [gName, List.set]
    refine ⟨_, rfl, ?_⟩
    refine ⟨_, rfl, a, dE K k, _, _, _, rfl, Rk, hh, .own _, c9, _, rfl, a, dE K k, _, _, _, rfl, Rk, hh, .own _, c10, _, rfl, a, dE K k, _, _, _, rfl, Rk, hh, .own _, c11, by show 3 ≤ sizeLine; decide, fun l3 n3 => ?_⟩
    have s1 : Same B2 (upd B2 l3 (HO.lst [.bl (decide (k = 9)), .bl (decide (k = 10)), .bl (decide (k = 11))])) := same_new n3
    have e3 : upd B2 l3 (HO.lst [.bl (decide (k = 9)), .bl (decide (k = 10)), .bl (decide (k = 11))]) l3 = some (HO.lst [.bl (decide (k = 9)), .bl (decide (k = 10)), .bl (decide (k = 11))]) := upd_same
    replace hh := hh.same s1; replace S := S.trans s1; replace L := s1 _ _ L
    generalize upd B2 l3 (HO.lst [.bl (decide (k = 9)), .bl (decide (k = 10)), .bl (decide (k = 11))]) = A3 at s1 e3 hh S L ⊢
    clear s1
    refine ⟨p2, l3, _, _, rfl, rfl, L, e3, by rw [kb_len]; show 9 + 3 ≤ sizeLine; decide, fun p3 m3 => ?_⟩
    rw [show kb k 9 ++ [.bl (decide (k = 9)), .bl (decide (k = 10)), .bl (decide (k = 11))] = kb k 12 from kb3 k 9]
    have s1 : Same A3 (upd A3 p3 (HO.lst (kb k 12))) := same_new m3
    have ez : upd A3 p3 (HO.lst (kb k 12)) p3 = some (HO.lst (kb k 12)) := upd_same
    replace hh := hh.same s1; replace S := S.trans s1; clear L
    generalize upd A3 p3 (HO.lst (kb k 12)) = B3 at s1 ez hh S ⊢
    have L := ez; clear s1 ez e3
    dsimp only [gName, List.set]
    refine ⟨_, rfl, ?_⟩
    refine ⟨_, rfl, a, dE K k, _, _, _, rfl, Rk, hh, .own _, c12, _, rfl, a, dE K k, _, _, _, rfl, Rk, hh, .own _, c13, _, rfl, a, dE K k, _, _, _, rfl, Rk, hh, .own _, c14, by show 3 ≤ sizeLine; decide, fun l4 n4 => ?_⟩
    have s1 : Same B3 (upd B3 l4 (HO.lst [.bl (decide (k = 12)), .bl (decide (k = 13)), .bl (decide (k = 14))])) := same_new n4
    have e4 : upd B3 l4 (HO.lst [.bl (decide (k = 12)), .bl (decide (k = 13)), .bl (decide (k = 14))]) l4 = some (HO.lst [.bl (decide (k = 12)), .bl (decide (k = 13)), .bl (decide (k = 14))]) := upd_same
    replace hh := hh.same s1; replace S := S.trans s1; replace L := s1 _ _ L
    generalize upd B3 l4 (HO.lst [.bl (decide (k = 12)), .bl (decide (k = 13)), .bl (decide (k = 14))]) = A4 at s1 e4 hh S L ⊢
    clear s1
    refine ⟨p3, l4, _, _, rfl, rfl, L, e4, by rw [kb_len]; show 12 + 3 ≤ sizeLine; decide, fun p4 m4 => ?_⟩
    rw [show kb k 12 ++ [.bl (decide (k = 12)), .bl (decide (k = 13)), .bl (decide (k = 14))] = kb k 15 from kb3 k 12]
    have s1 : Same A4 (upd A4 p4 (HO.lst (kb k 15))) := same_new m4
    have ez : upd A4 p4 (HO.lst (kb k 15)) p4 = some (HO.lst (kb k 15)) := upd_same
    replace hh := hh.same s1; replace S := S.trans s1; clear L
    generalize upd A4 p4 (HO.lst (kb k 15)) = B4 at s1 ez hh S ⊢
    have L := ez; clear s1 ez e4
    dsimp only [gName, List.set]
    refine ⟨_, rfl, ?_⟩
    refine ⟨_, rfl, a, dE K k, _, _, _, rfl, Rk, hh, .own _, c15, _, rfl, a, dE K k, _, _, _, rfl, Rk, hh, .own _, c16, _, rfl, a, dE K k, _, _, _, rfl, Rk, hh, .own _, c17, by show 3 ≤ sizeLine; decide, fun l5 n5 => ?_⟩
    have s1 : Same B4 (upd B4 l5 (HO.lst [.bl (decide (k = 15)), .bl (decide (k = 16)), .bl (decide (k = 17))])) := same_new n5
    have e5 : upd B4 l5 (HO.lst [.bl (decide (k = 15)), .bl (decide (k = 16)), .bl (decide (k = 17))]) l5 = some (HO.lst [.bl (decide (k = 15)), .bl (decide (k = 16)), .bl (decide (k = 17))]) := upd_same
    replace hh := hh.same s1; replace S := S.trans s1; replace L := s1 _ _ L
    generalize upd B4 l5 (HO.lst [.bl (decide (k = 15)), .bl (decide (k = 16)), .bl (decide (k = 17))]) = A5 at s1 e5 hh S L ⊢
    clear s1
    refine ⟨p4, l5, _, _, rfl, rfl, L, e5, by rw [kb_len]; show 15 + 3 ≤ sizeLine; decide, fun p5 m5 => ?_⟩
    rw [show kb k 15 ++ [.bl (decide (k = 15)), .bl (decide (k = 16)), .bl (decide (k = 17))] = kb k 18 from kb3 k 15]
    have s1 : Same A5 (upd A5 p5 (HO.lst (kb k 18))) := same_new m5
    have ez : upd A5 p5 (HO.lst (kb k 18)) p5 = some (HO.lst (kb k 18)) := upd_same
    replace hh := hh.same s1; replace S := S.trans s1; clear L
    generalize upd A5 p5 (HO.lst (kb k 18)) = B5 at s1 ez hh S ⊢
    have L := ez; clear s1 ez e5
    dsimp only [gName, List.set]
    refine ⟨_, rfl, ?_⟩
    refine ⟨_, rfl, a, dE K k, _, _, _, rfl, Rk, hh, .own _, c18, _, rfl, a, dE K k, _, _, _, rfl, Rk, hh, .own _, c19, _, rfl, a, dE K k, _, _, _, rfl, Rk, hh, .own _, c20, by show 3 ≤ sizeLine; decide, fun l6 n6 => ?_⟩
    have s1 : Same B5 (upd B5 l6 (HO.lst [.bl (decide (k = 18)), .bl (decide (k = 19)), .bl (decide (k = 20))])) := same_new n6
    have e6 : upd B5 l6 (HO.lst [.bl (decide (k = 18)), .bl (decide (k = 19)), .bl (decide (k = 20))]) l6 = some (HO.lst [.bl (decide (k = 18)), .bl (decide (k = 19)), .bl (decide (k = 20))]) := upd_same
    replace hh := hh.same s1; replace S := S.trans s1; replace L := s1 _ _ L
    generalize upd B5 l6 (HO.lst [.bl (decide (k = 18)), .bl (decide (k = 19)), .bl (decide (k = 20))]) = A6 at s1 e6 hh S L ⊢
    clear s1
    refine ⟨p5, l6, _, _, rfl, rfl, L, e6, by rw [kb_len]; show 18 + 3 ≤ sizeLine; decide, fun p6 m6 => ?_⟩
    rw [show kb k 18 ++ [.bl (decide (k = 18)), .bl (decide (k = 19)), .bl (decide (k = 20))] = kb k 21 from kb3 k 18]
    have s1 : Same A6 (upd A6 p6 (HO.lst (kb k 21))) := same_new m6
    have ez : upd A6 p6 (HO.lst (kb k 21)) p6 = some (HO.lst (kb k 21)) := upd_same
    replace hh := hh.same s1; replace S := S.trans s1; clear L
    generalize upd A6 p6 (HO.lst (kb k 21)) = B6 at s1 ez hh S ⊢
    have L := ez; clear s1 ez e6
    dsimp only [gName, List.set]
    refine ⟨_, rfl, ?_⟩
    refine ⟨_, rfl, a, dE K k, _, _, _, rfl, Rk, hh, .own _, c21, _, rfl, a, dE K k, _, _, _, rfl, Rk, hh, .own _, c22, _, rfl, a, dE K k, _, _, _, rfl, Rk, hh, .own _, c23, by show 3 ≤ sizeLine; decide, fun l7 n7 => ?_⟩
    have s1 : Same B6 (upd B6 l7 (HO.lst [.bl (decide (k = 21)), .bl (decide (k = 22)), .bl (decide (k = 23))])) := same_new n7
    have e7 : upd B6 l7 (HO.lst [.bl (decide (k = 21)), .bl (decide (k = 22)), .bl (decide (k = 23))]) l7 = some (HO.lst [.bl (decide (k = 21)), .bl (decide (k = 22)), .bl (decide (k = 23))]) := upd_same
    replace hh := hh.same s1; replace S := S.trans s1; replace L := s1 _ _ L
    generalize upd B6 l7 (HO.lst [.bl (decide (k = 21)), .bl (decide (k = 22)), .bl (decide (k = 23))]) = A7 at s1 e7 hh S L ⊢
    clear s1
    refine ⟨p6, l7, _, _, rfl, rfl, L, e7, by rw [kb_len]; show 21 + 3 ≤ sizeLine; decide, fun p7 m7 => ?_⟩
    rw [show kb k 21 ++ [.bl (decide (k = 21)), .bl (decide (k = 22)), .bl (decide (k = 23))] = kb k 24 from kb3 k 21]
    have s1 : Same A7 (upd A7 p7 (HO.lst (kb k 24))) := same_new m7
    have ez : upd A7 p7 (HO.lst (kb k 24)) p7 = some (HO.lst (kb k 24)) := upd_same
    replace hh := hh.same s1; replace S := S.trans s1; clear L
    generalize upd A7 p7 (HO.lst (kb k 24)) = B7 at s1 ez hh S ⊢
    have L := ez; clear s1 ez e7
    dsimp only [gName, List.set]
    refine ⟨_, rfl, ?_⟩
    refine ⟨_, rfl, a, dE K k, _, _, _, rfl, Rk, hh, .own _, c24, _, rfl, a, dE K k, _, _, _, rfl, Rk, hh, .own _, c25, _, rfl, a, dE K k, _, _, _, rfl, Rk, hh, .own _, c26, by show 3 ≤ sizeLine; decide, fun l8 n8 => ?_⟩
    have s1 : Same B7 (upd B7 l8 (HO.lst [.bl (decide (k = 24)), .bl (decide (k = 25)), .bl (decide (k = 26))])) := same_new n8
    have e8 : upd B7 l8 (HO.lst [.bl (decide (k = 24)), .bl (decide (k = 25)), .bl (decide (k = 26))]) l8 = some (HO.lst [.bl (decide (k = 24)), .bl (decide (k = 25)), .bl (decide (k = 26))]) := upd_same
    replace hh := hh.same s1; replace S := S.trans s1; replace L := s1 _ _ L
    generalize upd B7 l8 (HO.lst [.bl (decide (k = 24)), .bl (decide (k = 25)), .bl (decide (k = 26))]) = A8 at s1 e8 hh S L ⊢
    clear s1
    refine ⟨p7, l8, _, _, rfl, rfl, L, e8, by rw [kb_len]; show 24 + 3 ≤ sizeLine; decide, fun p8 m8 => ?_⟩
    rw [show kb k 24 ++ [.bl (decide (k = 24)), .bl (decide (k = 25)), .bl (decide (k = 26))] = kb k 27 from kb3 k 24]
    have s1 : Same A8 (upd A8 p8 (HO.lst (kb k 27))) := same_new m8
    have ez : upd A8 p8 (HO.lst (kb k 27)) p8 = some (HO.lst (kb k 27)) := upd_same
    replace hh := hh.same s1; replace S := S.trans s1; clear L
    generalize upd A8 p8 (HO.lst (kb k 27)) = B8 at s1 ez hh S ⊢
    have L := ez; clear s1 ez e8
    dsimp only [gName, List.set]
    refine ⟨_, rfl, _, rfl, a, dE K k, _, _, _, rfl, Rk, hh, .own _, c27, by show 1 ≤ sizeLine; decide, fun l9 n9 => ?_⟩
    have s1 : Same B8 (upd B8 l9 (HO.lst [.bl (decide (k = 27))])) := same_new n9
    have e9 : upd B8 l9 (HO.lst [.bl (decide (k = 27))]) l9 = some (HO.lst [.bl (decide (k = 27))]) := upd_same
    replace S := S.trans s1; replace L := s1 _ _ L
    generalize upd B8 l9 (HO.lst [.bl (decide (k = 27))]) = A9 at s1 e9 S L ⊢
    refine ⟨p8, l9, _, _, rfl, rfl, L, e9, by rw [kb_len]; show 27 + 1 ≤ sizeLine; decide, fun p9 m9 => ?_⟩
    rw [show kb k 27 ++ [.bl (decide (k = 27))] = kb k 28 from kb1 k 27]
    have s2 : Same A9 (upd A9 p9 (HO.lst (kb k 28))) := same_new m9
    have e1 : upd A9 p9 (HO.lst (kb k 28)) p9 = some (HO.lst (kb k 28)) := upd_same
    replace S := S.trans s2; clear L
    generalize upd A9 p9 (HO.lst (kb k 28)) = B9 at s2 e1 S ⊢
    refine ⟨p9, rfl, ⟨_, SqL.of e1⟩, fun D nD => lc_list (K := K) (xs := kb k 28) (fun i H' => Same B9 H' ∧ H' D = some (.lst (ki k i))) ⟨same_new nD, upd_same⟩ (fun i H' _ z => SqL.of (z.1 _ _ e1)) ?_ ?_⟩
    · rintro i x C1 hx ⟨s5, hD⟩
      obtain ⟨hi, rfl⟩ := kb_at hx
      dsimp only [gName, List.set]
      refine ⟨rfl, ?_⟩
      unfold tYes
      dsimp only
      rw [if_pos rfl]
      refine ⟨_, rfl, .inr ⟨_, rfl, _, hD, by rw [ki_len]; have := sizeLine_eq; omega, fun b o eb => ?_, ?_⟩⟩
      · rw [upd_ne (ne_of_none eb nD)]
        exact s5 _ _ eb
      · rw [ki1]
        exact upd_same
    rintro C1 ⟨s5, hD⟩
    rw [kb_len] at hD
    exact q D _ (S.trans s5) hD
end
end K00

/-! k00: _law_apart. -/
namespace K00
open PySem PySem.Spec PyProof.Rows L2 LamX NdefX Own
abbrev sAp : Stmt := topS 37
abbrev nAp : List Str := ["_law_mine", "_law_yours", "_law_made", "_law_error", "_law_k"]
theorem blkA1 : BlkOk nAp (defScope sAp) (lcScope (argN 0 (notE (ifE (inD sAp 5))))) [("_law_error", 3)] := blkOk_by (by decide +kernel)
theorem blkA2 : BlkOk nAp (defScope sAp) (lcScope (argN 0 (retE (inD sAp 6)))) [("_law_k", 4)] := blkOk_by (by decide +kernel)
/-- errors held, of the kinds k, k + 1, .. -/
def HeldF (K : PySem.W.Frag) (A : Hp) (k : Nat) (xs : List V) : Prop := ∀ i x, xs[i]? = some x → ∃ a, x = .ref a ∧ Held A a (dE K (k + i))
theorem HeldF.nil {K : PySem.W.Frag} {A : Hp} {k : Nat} : HeldF K A k [] := fun i x h => by simp at h
theorem HeldF.same {K : PySem.W.Frag} {A B : Hp} {k : Nat} {xs : List V} (h : HeldF K A k xs) (s : Same A B) : HeldF K B k xs := fun i x e => by
  obtain ⟨a, r, z⟩ := h i x e
  exact ⟨a, r, z.same s⟩
theorem HeldF.snoc {K : PySem.W.Frag} {A : Hp} {k j : Nat} {xs : List V} {a : Addr} (h : HeldF K A k xs) (e : k + xs.length = j) (z : Held A a (dE K j)) : HeldF K A k (xs ++ [.ref a]) := fun i x y => by
  by_cases hi : i < xs.length
  · rw [List.getElem?_append_left hi] at y
    exact h i x y
  · rw [List.getElem?_append_right (by omega)] at y
    have hi2 : i - xs.length = 0 := by
      have := (List.getElem?_eq_some_iff.mp y).1
      simp at this
      omega
    rw [hi2] at y
    cases y
    have : k + i = j := by omega
    exact ⟨a, rfl, by rw [this]; exact z⟩
theorem HeldF.cat {K : PySem.W.Frag} {A : Hp} {k j : Nat} {xs ys : List V} (h : HeldF K A k xs) (g : HeldF K A j ys) (e : k + xs.length = j) : HeldF K A k (xs ++ ys) := fun i x y => by
  by_cases hi : i < xs.length
  · rw [List.getElem?_append_left hi] at y
    exact h i x y
  · rw [List.getElem?_append_right (by omega)] at y
    obtain ⟨a, r, z⟩ := g _ x y
    have : j + (i - xs.length) = k + i := by omega
    exact ⟨a, r, by rw [← this]; exact z⟩
/-- the list so far -/
def LHe (K : PySem.W.Frag) (A : Hp) (l : Addr) (n : Nat) : Prop := ∃ xs : List V, A l = some (.lst xs) ∧ xs.length = n ∧ HeldF K A 0 xs
theorem LHe.same {K : PySem.W.Frag} {A B : Hp} {l : Addr} {n : Nat} (h : LHe K A l n) (s : Same A B) : LHe K B l n := by
  obtain ⟨xs, e, y, g⟩ := h
  exact ⟨xs, s _ _ e, y, g.same s⟩
theorem want : ∀ i < 28, List.replicate i (0 : Int) ++ [1] ++ List.replicate (27 - i) 0 = kz i 28 := by decide
theorem rep1 (n : Nat) (x : V) : (List.replicate n [x]).flatten = List.replicate n x := by
  induction n with
  | zero => rfl
  | succ n ih => rw [List.replicate_succ, List.flatten_cons, ih, List.replicate_succ]; rfl
theorem wantV {i : Nat} (h : i < 28) : List.replicate i (V.int 0) ++ [V.int 1] ++ List.replicate (27 - i) (V.int 0) = (kz i 28).map V.int := by
  rw [← want i h, List.map_append, List.map_append, List.map_replicate, List.map_replicate]
  rfl
section
variable {P : Program} {w : World} {K : PySem.W.Frag} {mg : Str → Option Value} {base : Heap}
theorem scAp : FnScope nAp ["_law_mine", "_law_yours"] (defScope sAp) := ⟨rfl, rfl, rfl, by decide +kernel, rfl, by decide +kernel, by decide +kernel⟩
def spAp : Sp := fun vs H Q _ => ∃ mine yours : V, vs = [mine, yours] ∧ ∀ H', Same H H' → Q (.bl true) H'
theorem ok_ap (A : At K mg "_law_apart" sAp ["_law_mine", "_law_yours"]) (B : Blt mg) (hV : mg "ValueError" = none) (R : Ers P w K mg base) (Dk : DefOk P w K mg base CX0 "_law_kinds" 1 ["_law_error"] (spKi K)) : DefOk P w K mg base CX0 "_law_apart" 3 ["_law_mine", "_law_yours"] spAp := by
  refine A.ok fun f fd F => F.ok scAp (fun vs H Q E h => ?_) (fun cdv A outer s0 H vs Q E hr h => ?_)
  · obtain ⟨mine, yours, rfl, _⟩ := h
    rfl
  · obtain ⟨mine, yours, rfl, q⟩ := h
    have nd := scAp.nd
    refine ⟨_, pss_cons (ps_set (i := 2) nd rfl (.inr rfl) (pe_lst (pa_cons (pe_e1 R.BadValue hr (by decide) (by rfl) (pv 0)) (pa_cons (pe_e1 R.TooFine hr (by decide) (by rfl) (pv 0)) (pa_cons (pe_e0 R.NoFigures hr (by decide) (by rfl)) (pa_cons (pe_e1 R.BadStep hr (by decide) (by rfl) (pv 0)) (pa_cons (pe_e1 R.WideColumn hr (by decide) (by rfl) (pv 0)) (pa_cons (pe_e1 R.TooWide hr (by decide) (by rfl) (pv 0)) (pa_cons (pe_e1 R.NoColumn hr (by decide) (by rfl) (pv 0)) pa_nil)))))))))
      (pss_cons (ps_set (i := 2) nd rfl (.inr rfl) (pe_op op_cat (pv 2) (pe_lst (pa_cons (pe_e1 R.BadWorths hr (by decide) (by rfl) (pv 0)) (pa_cons (pe_e1 R.NotOnce hr (by decide) (by rfl) (pv 0)) (pa_cons (pe_e0 R.NoDivisor hr (by decide) (by rfl)) (pa_cons (pe_e2 R.Overflow hr (by decide) (by rfl) (pv 0) (pv 1)) (pa_cons (pe_e1 R.NotPlain hr (by decide) (by rfl) (pv 0)) (pa_cons (pe_e1 R.Divides hr (by decide) (by rfl) (pv 0)) pa_nil)))))))))
      (pss_cons (ps_set (i := 2) nd rfl (.inr rfl) (pe_op op_cat (pv 2) (pe_lst (pa_cons (pe_e1 R.NotSteady hr (by decide) (by rfl) (pv 0)) (pa_cons (pe_e1 R.NotASum hr (by decide) (by rfl) (pv 0)) (pa_cons (pe_e1 R.NotLinear hr (by decide) (by rfl) (pv 0)) (pa_cons (pe_e2 R.CanOver hr (by decide) (by rfl) (pv 0) (pv 1)) (pa_cons (pe_e1 R.ColumnsDiffer hr (by decide) (by rfl) (pv 0)) pa_nil))))))))
      (pss_cons (ps_set (i := 2) nd rfl (.inr rfl) (pe_op op_cat (pv 2) (pe_lst (pa_cons (pe_e1 R.BadEntry hr (by decide) (by rfl) (pv 0)) (pa_cons (pe_e1 R.Gaps hr (by decide) (by rfl) (pv 0)) (pa_cons (pe_e1 R.BadColumn hr (by decide) (by rfl) (pv 0)) (pa_cons (pe_e1 R.BadText hr (by decide) (by rfl) (pv 0)) (pa_cons (pe_e1 R.NotAFormula hr (by decide) (by rfl) (pv 0)) (pa_cons (pe_e1 R.Taken hr (by decide) (by rfl) (pv 0)) pa_nil)))))))))
      (pss_cons (ps_set (i := 2) nd rfl (.inr rfl) (pe_op op_cat (pv 2) (pe_lst (pa_cons (pe_e1 R.Unknown hr (by decide) (by rfl) (pv 0)) (pa_cons (pe_e1 R.InUse hr (by decide) (by rfl) (pv 0)) (pa_cons (pe_e1 R.BadPromise hr (by decide) (by rfl) (pv 0)) (pa_cons (pe_e2 R.Broken hr (by decide) (by rfl) (pv 0) (pv 1)) pa_nil)))))))
      (pss_cons (ps_if (pt_not (pt_val (pe_callB (cr_all rfl) (by rfl) B.all PyProof.Rows.boot_all (pa_cons (pe_lc (own := [("_law_error", 3)]) (te := tAndV (tCB (rHeldA K) (tCons (tVar 3) (tCons (tC (.ref (He.ga K "FigureError"))) tNil))) (tCB (rHeldA K) (tCons (tVar 3) (tCons (tC (.ty "ValueError")) tNil)))) rfl nd (pi_list (pv 2)) blkA1 (fun _ _ _ _ _ => (pg_name (i := 3) nd rfl (.inl rfl))) (fun _ _ _ _ _ => pts_nil) (fun _ _ _ _ _ => (pe_and (pe_callB call_isHeldA (by rfl) B.isi (by decide +kernel) (pa_cons (pv 3) (pa_cons (pe_glob (v := .ref _) (by rfl) R.gF rfl) pa_nil))) (pe_one (pe_callB call_isHeldA (by rfl) B.isi (by decide +kernel) (pa_cons (pv 3) (pa_cons (pe_bltn (v := .ty "ValueError") (by rfl) hV (by decide +kernel) rfl) pa_nil))))))) pa_nil)))) (pss_one (ps_ret pe_bl)) pss_nil)
      (pss_one (ps_ret (pe_callB (cr_all rfl) (by rfl) B.all PyProof.Rows.boot_all (pa_cons (pe_lc (own := [("_law_k", 4)]) (te := tOp (rEqD K) (tCall (spKi K) [] E0 (tCons (tOp (rIxL K) (tVar 2) (tVar 4)) tNil)) (tOp rCat (tOp rCat (tOp rRep (tLst (tCons (tC (.int 0)) tNil)) (tVar 4)) (tLst (tCons (tC (.int 1)) tNil))) (tOp rRep (tLst (tCons (tC (.int 0)) tNil)) (tOp (rI0 fun i j => .int (i - j)) (tC (.int 27)) (tVar 4))))) rfl nd (pi_range1 (by rfl) B.range (pa_cons pe_int pa_nil)) blkA2 (fun _ _ _ _ _ => (pg_name (i := 4) nd rfl (.inl rfl))) (fun _ _ _ _ _ => pts_nil) (fun _ _ _ _ _ => (pe_cmpR (op_eqD hr.units) (pe_def Dk hr (by decide) (by rfl) pass0 (pa_cons (pe_ix ix_list (pv 2) (pv 4) (fun _ _ => rfl)) pa_nil)) (pe_op op_cat (pe_op op_cat (pe_op op_rep (pe_lst (pa_cons pe_int pa_nil)) (pv 4)) (pe_lst (pa_cons pe_int pa_nil))) (pe_op op_rep (pe_lst (pa_cons pe_int pa_nil)) (pe_op op_sub pe_int (pv 4)))) (nomark _)))) pa_nil))))))))), ?_⟩
    have S : Same H H := fun _ _ e => e
    have G : HeldF K H 0 [] := HeldF.nil
    refine ⟨_, rfl, mk_1 fun a1 H1 s1 n1 k1 => ?_⟩
    replace S := S.trans s1; replace G : HeldF K H1 0 [.ref a1] := (G.same s1).snoc (j := 0) rfl k1.held; clear s1 n1 k1
    refine ⟨_, rfl, mk_1 fun a2 H2 s1 n1 k1 => ?_⟩
    replace S := S.trans s1; replace G : HeldF K H2 0 [.ref a1, .ref a2] := (G.same s1).snoc (j := 1) rfl k1.held; clear s1 n1 k1
    refine mk_0 fun a3 H3 s1 n1 k1 => ?_
    replace S := S.trans s1; replace G : HeldF K H3 0 [.ref a1, .ref a2, .ref a3] := (G.same s1).snoc (j := 2) rfl k1; clear s1 n1 k1
    refine ⟨_, rfl, mk_1 fun a4 H4 s1 n1 k1 => ?_⟩
    replace S := S.trans s1; replace G : HeldF K H4 0 [.ref a1, .ref a2, .ref a3, .ref a4] := (G.same s1).snoc (j := 3) rfl k1.held; clear s1 n1 k1
    refine ⟨_, rfl, mk_1 fun a5 H5 s1 n1 k1 => ?_⟩
    replace S := S.trans s1; replace G : HeldF K H5 0 [.ref a1, .ref a2, .ref a3, .ref a4, .ref a5] := (G.same s1).snoc (j := 4) rfl k1.held; clear s1 n1 k1
    refine ⟨_, rfl, mk_1 fun a6 H6 s1 n1 k1 => ?_⟩
    replace S := S.trans s1; replace G : HeldF K H6 0 [.ref a1, .ref a2, .ref a3, .ref a4, .ref a5, .ref a6] := (G.same s1).snoc (j := 5) rfl k1.held; clear s1 n1 k1
    refine ⟨_, rfl, mk_1 fun a7 H7 s1 n1 k1 => ?_⟩
    replace S := S.trans s1; replace G : HeldF K H7 0 [.ref a1, .ref a2, .ref a3, .ref a4, .ref a5, .ref a6, .ref a7] := (G.same s1).snoc (j := 6) rfl k1.held; clear s1 n1 k1
    refine ⟨by show 7 ≤ sizeLine; decide, fun l0 n0 => ?_⟩
    have s1 : Same H7 (upd H7 l0 (HO.lst [.ref a1, .ref a2, .ref a3, .ref a4, .ref a5, .ref a6, .ref a7])) := same_new n0
    have e1 : upd H7 l0 (HO.lst [.ref a1, .ref a2, .ref a3, .ref a4, .ref a5, .ref a6, .ref a7]) l0 = some (HO.lst [.ref a1, .ref a2, .ref a3, .ref a4, .ref a5, .ref a6, .ref a7]) := upd_same
    replace S := S.trans s1; replace G := G.same s1
    generalize upd H7 l0 (HO.lst [.ref a1, .ref a2, .ref a3, .ref a4, .ref a5, .ref a6, .ref a7]) = B0 at s1 e1 S G ⊢
    have L : LHe K B0 l0 7 := ⟨_, e1, rfl, G⟩; clear G e1 s1
    dsimp only [gName, List.set]
    refine ⟨_, rfl, ?_⟩
    have G : HeldF K B0 7 [] := HeldF.nil
    refine ⟨_, rfl, mk_1 fun a8 H8 s1 n1 k1 => ?_⟩
    replace S := S.trans s1; replace G : HeldF K H8 7 [.ref a8] := (G.same s1).snoc (j := 7) rfl k1.held; replace L := L.same s1; clear s1 n1 k1
    refine ⟨_, rfl, mk_1 fun a9 H9 s1 n1 k1 => ?_⟩
    replace S := S.trans s1; replace G : HeldF K H9 7 [.ref a8, .ref a9] := (G.same s1).snoc (j := 8) rfl k1.held; replace L := L.same s1; clear s1 n1 k1
    refine mk_0 fun a10 H10 s1 n1 k1 => ?_
    replace S := S.trans s1; replace G : HeldF K H10 7 [.ref a8, .ref a9, .ref a10] := (G.same s1).snoc (j := 9) rfl k1; replace L := L.same s1; clear s1 n1 k1
    refine ⟨_, rfl, _, rfl, mk_2P fun a11 H11 s1 n1 k1 => ?_⟩
    replace S := S.trans s1; replace G : HeldF K H11 7 [.ref a8, .ref a9, .ref a10, .ref a11] := (G.same s1).snoc (j := 10) rfl k1.held; replace L := L.same s1; clear s1 n1 k1
    refine ⟨_, rfl, mk_1 fun a12 H12 s1 n1 k1 => ?_⟩
    replace S := S.trans s1; replace G : HeldF K H12 7 [.ref a8, .ref a9, .ref a10, .ref a11, .ref a12] := (G.same s1).snoc (j := 11) rfl k1.held; replace L := L.same s1; clear s1 n1 k1
    refine ⟨_, rfl, mk_1 fun a13 H13 s1 n1 k1 => ?_⟩
    replace S := S.trans s1; replace G : HeldF K H13 7 [.ref a8, .ref a9, .ref a10, .ref a11, .ref a12, .ref a13] := (G.same s1).snoc (j := 12) rfl k1.held; replace L := L.same s1; clear s1 n1 k1
    refine ⟨by show 6 ≤ sizeLine; decide, fun l1 n1 => ?_⟩
    have s1 : Same H13 (upd H13 l1 (HO.lst [.ref a8, .ref a9, .ref a10, .ref a11, .ref a12, .ref a13])) := same_new n1
    have e1 : upd H13 l1 (HO.lst [.ref a8, .ref a9, .ref a10, .ref a11, .ref a12, .ref a13]) l1 = some (HO.lst [.ref a8, .ref a9, .ref a10, .ref a11, .ref a12, .ref a13]) := upd_same
    replace S := S.trans s1; replace G := G.same s1; replace L := L.same s1
    generalize upd H13 l1 (HO.lst [.ref a8, .ref a9, .ref a10, .ref a11, .ref a12, .ref a13]) = B1 at s1 e1 S G L ⊢
    obtain ⟨xs, ex, lx, gx⟩ := L
    refine ⟨l0, l1, xs, _, rfl, rfl, ex, e1, by rw [lx]; show 7 + 6 ≤ sizeLine; decide, fun p1 m1 => ?_⟩
    have s2 : Same B1 (upd B1 p1 (HO.lst (xs ++ [.ref a8, .ref a9, .ref a10, .ref a11, .ref a12, .ref a13]))) := same_new m1
    have L : LHe K (upd B1 p1 (HO.lst (xs ++ [.ref a8, .ref a9, .ref a10, .ref a11, .ref a12, .ref a13]))) p1 13 := ⟨_, upd_same, by rw [List.length_append, lx]; rfl, (gx.cat G (by rw [lx])).same s2⟩
    replace S := S.trans s2; clear G gx ex e1
    generalize upd B1 p1 (HO.lst (xs ++ [.ref a8, .ref a9, .ref a10, .ref a11, .ref a12, .ref a13])) = C1 at s2 S L ⊢
    clear s1 s2
    dsimp only [gName, List.set]
    refine ⟨_, rfl, ?_⟩
    have G : HeldF K C1 13 [] := HeldF.nil
    refine ⟨_, rfl, mk_1 fun a14 H14 s1 n1 k1 => ?_⟩
    replace S := S.trans s1; replace G : HeldF K H14 13 [.ref a14] := (G.same s1).snoc (j := 13) rfl k1.held; replace L := L.same s1; clear s1 n1 k1
    refine ⟨_, rfl, mk_1 fun a15 H15 s1 n1 k1 => ?_⟩
    replace S := S.trans s1; replace G : HeldF K H15 13 [.ref a14, .ref a15] := (G.same s1).snoc (j := 14) rfl k1.held; replace L := L.same s1; clear s1 n1 k1
    refine ⟨_, rfl, mk_1 fun a16 H16 s1 n1 k1 => ?_⟩
    replace S := S.trans s1; replace G : HeldF K H16 13 [.ref a14, .ref a15, .ref a16] := (G.same s1).snoc (j := 15) rfl k1.held; replace L := L.same s1; clear s1 n1 k1
    refine ⟨_, rfl, _, rfl, mk_2P fun a17 H17 s1 n1 k1 => ?_⟩
    replace S := S.trans s1; replace G : HeldF K H17 13 [.ref a14, .ref a15, .ref a16, .ref a17] := (G.same s1).snoc (j := 16) rfl k1.held; replace L := L.same s1; clear s1 n1 k1
    refine ⟨_, rfl, mk_1 fun a18 H18 s1 n1 k1 => ?_⟩
    replace S := S.trans s1; replace G : HeldF K H18 13 [.ref a14, .ref a15, .ref a16, .ref a17, .ref a18] := (G.same s1).snoc (j := 17) rfl k1.held; replace L := L.same s1; clear s1 n1 k1
    refine ⟨by show 5 ≤ sizeLine; decide, fun l2 n2 => ?_⟩
    have s1 : Same H18 (upd H18 l2 (HO.lst [.ref a14, .ref a15, .ref a16, .ref a17, .ref a18])) := same_new n2
    have e1 : upd H18 l2 (HO.lst [.ref a14, .ref a15, .ref a16, .ref a17, .ref a18]) l2 = some (HO.lst [.ref a14, .ref a15, .ref a16, .ref a17, .ref a18]) := upd_same
    replace S := S.trans s1; replace G := G.same s1; replace L := L.same s1
    generalize upd H18 l2 (HO.lst [.ref a14, .ref a15, .ref a16, .ref a17, .ref a18]) = B2 at s1 e1 S G L ⊢
    obtain ⟨xs, ex, lx, gx⟩ := L
    refine ⟨p1, l2, xs, _, rfl, rfl, ex, e1, by rw [lx]; show 13 + 5 ≤ sizeLine; decide, fun p2 m2 => ?_⟩
    have s2 : Same B2 (upd B2 p2 (HO.lst (xs ++ [.ref a14, .ref a15, .ref a16, .ref a17, .ref a18]))) := same_new m2
    have L : LHe K (upd B2 p2 (HO.lst (xs ++ [.ref a14, .ref a15, .ref a16, .ref a17, .ref a18]))) p2 18 := ⟨_, upd_same, by rw [List.length_append, lx]; rfl, (gx.cat G (by rw [lx])).same s2⟩
    replace S := S.trans s2; clear G gx ex e1
    generalize upd B2 p2 (HO.lst (xs ++ [.ref a14, .ref a15, .ref a16, .ref a17, .ref a18])) = C2 at s2 S L ⊢
    clear s1 s2
    dsimp only [gName, List.set]
    refine ⟨_, rfl, ?_⟩
    have G : HeldF K C2 18 [] := HeldF.nil
    refine ⟨_, rfl, mk_1 fun a19 H19 s1 n1 k1 => ?_⟩
    replace S := S.trans s1; replace G : HeldF K H19 18 [.ref a19] := (G.same s1).snoc (j := 18) rfl k1.held; replace L := L.same s1; clear s1 n1 k1
    refine ⟨_, rfl, mk_1 fun a20 H20 s1 n1 k1 => ?_⟩
    replace S := S.trans s1; replace G : HeldF K H20 18 [.ref a19, .ref a20] := (G.same s1).snoc (j := 19) rfl k1.held; replace L := L.same s1; clear s1 n1 k1
    refine ⟨_, rfl, mk_1 fun a21 H21 s1 n1 k1 => ?_⟩
    replace S := S.trans s1; replace G : HeldF K H21 18 [.ref a19, .ref a20, .ref a21] := (G.same s1).snoc (j := 20) rfl k1.held; replace L := L.same s1; clear s1 n1 k1
    refine ⟨_, rfl, mk_1 fun a22 H22 s1 n1 k1 => ?_⟩
    replace S := S.trans s1; replace G : HeldF K H22 18 [.ref a19, .ref a20, .ref a21, .ref a22] := (G.same s1).snoc (j := 21) rfl k1.held; replace L := L.same s1; clear s1 n1 k1
    refine ⟨_, rfl, mk_1 fun a23 H23 s1 n1 k1 => ?_⟩
    replace S := S.trans s1; replace G : HeldF K H23 18 [.ref a19, .ref a20, .ref a21, .ref a22, .ref a23] := (G.same s1).snoc (j := 22) rfl k1.held; replace L := L.same s1; clear s1 n1 k1
    refine ⟨_, rfl, mk_1 fun a24 H24 s1 n1 k1 => ?_⟩
    replace S := S.trans s1; replace G : HeldF K H24 18 [.ref a19, .ref a20, .ref a21, .ref a22, .ref a23, .ref a24] := (G.same s1).snoc (j := 23) rfl k1.held; replace L := L.same s1; clear s1 n1 k1
    refine ⟨by show 6 ≤ sizeLine; decide, fun l3 n3 => ?_⟩
    have s1 : Same H24 (upd H24 l3 (HO.lst [.ref a19, .ref a20, .ref a21, .ref a22, .ref a23, .ref a24])) := same_new n3
    have e1 : upd H24 l3 (HO.lst [.ref a19, .ref a20, .ref a21, .ref a22, .ref a23, .ref a24]) l3 = some (HO.lst [.ref a19, .ref a20, .ref a21, .ref a22, .ref a23, .ref a24]) := upd_same
    replace S := S.trans s1; replace G := G.same s1; replace L := L.same s1
    generalize upd H24 l3 (HO.lst [.ref a19, .ref a20, .ref a21, .ref a22, .ref a23, .ref a24]) = B3 at s1 e1 S G L ⊢
    obtain ⟨xs, ex, lx, gx⟩ := L
    refine ⟨p2, l3, xs, _, rfl, rfl, ex, e1, by rw [lx]; show 18 + 6 ≤ sizeLine; decide, fun p3 m3 => ?_⟩
    have s2 : Same B3 (upd B3 p3 (HO.lst (xs ++ [.ref a19, .ref a20, .ref a21, .ref a22, .ref a23, .ref a24]))) := same_new m3
    have L : LHe K (upd B3 p3 (HO.lst (xs ++ [.ref a19, .ref a20, .ref a21, .ref a22, .ref a23, .ref a24]))) p3 24 := ⟨_, upd_same, by rw [List.length_append, lx]; rfl, (gx.cat G (by rw [lx])).same s2⟩
    replace S := S.trans s2; clear G gx ex e1
    generalize upd B3 p3 (HO.lst (xs ++ [.ref a19, .ref a20, .ref a21, .ref a22, .ref a23, .ref a24])) = C3 at s2 S L ⊢
    clear s1 s2
    dsimp only [gName, List.set]
    refine ⟨_, rfl, ?_⟩
    have G : HeldF K C3 24 [] := HeldF.nil
    refine ⟨_, rfl, mk_1 fun a25 H25 s1 n1 k1 => ?_⟩
    replace S := S.trans s1; replace G : HeldF K H25 24 [.ref a25] := (G.same s1).snoc (j := 24) rfl k1.held; replace L := L.same s1; clear s1 n1 k1
    refine ⟨_, rfl, mk_1 fun a26 H26 s1 n1 k1 => ?_⟩
    replace S := S.trans s1; replace G : HeldF K H26 24 [.ref a25, .ref a26] := (G.same s1).snoc (j := 25) rfl k1.held; replace L := L.same s1; clear s1 n1 k1
    refine ⟨_, rfl, mk_1 fun a27 H27 s1 n1 k1 => ?_⟩
    replace S := S.trans s1; replace G : HeldF K H27 24 [.ref a25, .ref a26, .ref a27] := (G.same s1).snoc (j := 26) rfl k1.held; replace L := L.same s1; clear s1 n1 k1
    refine ⟨_, rfl, _, rfl, mk_2P fun a28 H28 s1 n1 k1 => ?_⟩
    replace S := S.trans s1; replace G : HeldF K H28 24 [.ref a25, .ref a26, .ref a27, .ref a28] := (G.same s1).snoc (j := 27) rfl k1.held; replace L := L.same s1; clear s1 n1 k1
    refine ⟨by show 4 ≤ sizeLine; decide, fun l4 n4 => ?_⟩
    have s1 : Same H28 (upd H28 l4 (HO.lst [.ref a25, .ref a26, .ref a27, .ref a28])) := same_new n4
    have e1 : upd H28 l4 (HO.lst [.ref a25, .ref a26, .ref a27, .ref a28]) l4 = some (HO.lst [.ref a25, .ref a26, .ref a27, .ref a28]) := upd_same
    replace S := S.trans s1; replace G := G.same s1; replace L := L.same s1
    generalize upd H28 l4 (HO.lst [.ref a25, .ref a26, .ref a27, .ref a28]) = B4 at s1 e1 S G L ⊢
    obtain ⟨xs, ex, lx, gx⟩ := L
    refine ⟨p3, l4, xs, _, rfl, rfl, ex, e1, by rw [lx]; show 24 + 4 ≤ sizeLine; decide, fun p4 m4 => ?_⟩
    have s2 : Same B4 (upd B4 p4 (HO.lst (xs ++ [.ref a25, .ref a26, .ref a27, .ref a28]))) := same_new m4
    have L : LHe K (upd B4 p4 (HO.lst (xs ++ [.ref a25, .ref a26, .ref a27, .ref a28]))) p4 28 := ⟨_, upd_same, by rw [List.length_append, lx]; rfl, (gx.cat G (by rw [lx])).same s2⟩
    replace S := S.trans s2; clear G gx ex e1
    generalize upd B4 p4 (HO.lst (xs ++ [.ref a25, .ref a26, .ref a27, .ref a28])) = C4 at s2 S L ⊢
    clear s1 s2
    dsimp only [gName, List.set]
    obtain ⟨xs, ex, lx, gx⟩ := L
    refine ⟨_, rfl, p4, rfl, ⟨_, SqL.of ex⟩, fun D nD => lc_list (K := K) (xs := xs) (fun i H' => Same C4 H' ∧ H' D = some (.lst (List.replicate i (.bl true)))) ⟨same_new nD, upd_same⟩ (fun i H' _ z => SqL.of (z.1 _ _ ex)) ?_ ?_⟩
    · rintro i x C1 hx ⟨s5, hD⟩
      have hi : i < 28 := by
        have := (List.getElem?_eq_some_iff.mp hx).1
        omega
      obtain ⟨a, rfl, ha⟩ := gx i x hx
      rw [Nat.zero_add] at ha
      have ha := ha.same s5
      dsimp only [gName, List.set]
      refine ⟨rfl, ?_⟩
      unfold tYes
      dsimp only
      rw [if_pos rfl]
      refine ⟨_, rfl, a, dE K i, _, _, _, rfl, R.is i hi, ha, .own _, R.kF i hi, _, rfl, iteT ?_⟩
      refine ⟨_, rfl, a, dE K i, _, _, _, rfl, R.is i hi, ha, .ty _, R.kV i hi, _, hD, by rw [List.length_replicate]; have := sizeLine_eq; omega, fun b o eb => ?_, ?_⟩
      · rw [upd_ne (ne_of_none eb nD)]
        exact s5 _ _ eb
      · rw [upd_same, List.replicate_succ']
    rintro C1 ⟨s5, hD⟩
    refine ⟨D, List.replicate xs.length true, rfl, SqL.of (by rw [List.map_replicate]; exact hD), _, rfl, ?_⟩
    rw [show (List.replicate xs.length true).all id = true by simp]
    refine iteF ?_
    have ex1 := s5 _ _ ex
    have gx1 := gx.same s5
    replace S := S.trans s5
    clear nD hD s5 gx ex
    refine ⟨28, rfl, by decide, by decide, fun D nD => lc_range (fun i H' => Same C1 H' ∧ H' D = some (.lst (List.replicate i (.bl true)))) ⟨same_new nD, upd_same⟩ ?_ ?_⟩
    · rintro i C2 hi ⟨s5, hD⟩
      obtain ⟨x, hx⟩ : ∃ x, xs[i]? = some x := ⟨xs[i]'(by omega), List.getElem?_eq_getElem (by omega)⟩
      obtain ⟨a, rfl, ha⟩ := gx1 i x hx
      rw [Nat.zero_add] at ha
      have ha := ha.same s5
      dsimp only [gName, List.set]
      refine ⟨rfl, ?_⟩
      unfold tYes
      dsimp only
      rw [if_pos rfl]
      refine ⟨_, rfl, _, rfl, p4, xs, _, .ref a, rfl, rfl, SqL.of (s5 _ _ ex1), L2.at_of (by show (0 : Int) + (i : Nat) = (i : Nat); omega) hx, ?_⟩
      refine ⟨a, i, rfl, hi, ha, fun l C3 s6 el => ?_⟩
      refine ⟨by show 1 ≤ sizeLine; decide, fun y1 m1 => ⟨_, rfl, y1, _, [.int 0], rfl, rfl, upd_same, by omega, by omega, ?_, fun y2 m2 => ?_⟩⟩
      · show 1 * _ ≤ sizeLine
        have := sizeLine_eq
        omega
      rw [rep1, show ((0 : Int) + (i : Nat)).toNat = i by omega]
      have s7 := same_new (o := HO.lst [.int 0]) m1
      have s8 := same_new (o := HO.lst (List.replicate i (.int 0))) m2
      have e2 : upd (upd C3 y1 (HO.lst [.int 0])) y2 (HO.lst (List.replicate i (.int 0))) y2 = some (HO.lst (List.replicate i (.int 0))) := upd_same
      have s9 := s6.trans (s7.trans s8)
      replace el := (s7.trans s8) _ _ el
      generalize upd (upd C3 y1 (HO.lst [.int 0])) y2 (HO.lst (List.replicate i (.int 0))) = C4 at s9 e2 el ⊢
      clear s7 s8 m1 m2 s6
      refine ⟨by show 1 ≤ sizeLine; decide, fun y3 m3 => ⟨y2, y3, _, _, rfl, rfl, same_new m3 _ _ e2, upd_same, by rw [List.length_replicate]; have := sizeLine_eq; simp only [List.length_cons, List.length_nil]; omega, fun y4 m4 => ?_⟩⟩
      have s7 := same_new (o := HO.lst [.int 1]) m3
      have s8 := same_new (o := HO.lst (List.replicate i (V.int 0) ++ [.int 1])) m4
      have e4 : upd (upd C4 y3 (HO.lst [.int 1])) y4 (HO.lst (List.replicate i (V.int 0) ++ [.int 1])) y4 = some (HO.lst (List.replicate i (V.int 0) ++ [.int 1])) := upd_same
      replace s9 := s9.trans (s7.trans s8)
      replace el := (s7.trans s8) _ _ el
      generalize upd (upd C4 y3 (HO.lst [.int 1])) y4 (HO.lst (List.replicate i (V.int 0) ++ [.int 1])) = C5 at s9 e4 el ⊢
      clear s7 s8 m3 m4 e2
      refine ⟨by show 1 ≤ sizeLine; decide, fun y5 m5 => ⟨_, rfl, _, _, rfl, rfl, y5, _, [.int 0], rfl, rfl, upd_same, by omega, by omega, ?_, fun y6 m6 => ?_⟩⟩
      · show 1 * _ ≤ sizeLine
        have := sizeLine_eq
        omega
      rw [rep1, show ((27 : Int) - (0 + (i : Nat))).toNat = 27 - i by omega]
      have s7 := same_new (o := HO.lst [.int 0]) m5
      have s8 := same_new (o := HO.lst (List.replicate (27 - i) (.int 0))) m6
      have e6 : upd (upd C5 y5 (HO.lst [.int 0])) y6 (HO.lst (List.replicate (27 - i) (.int 0))) y6 = some (HO.lst (List.replicate (27 - i) (.int 0))) := upd_same
      replace s9 := s9.trans (s7.trans s8)
      replace el := (s7.trans s8) _ _ el
      replace e4 := (s7.trans s8) _ _ e4
      generalize upd (upd C5 y5 (HO.lst [.int 0])) y6 (HO.lst (List.replicate (27 - i) (.int 0))) = C6 at s9 e4 e6 el ⊢
      clear s7 s8 m5 m6
      refine ⟨y4, y6, _, _, rfl, rfl, e4, e6, by rw [List.length_append, List.length_replicate, List.length_replicate]; have := sizeLine_eq; simp only [List.length_cons, List.length_nil]; omega, fun y7 m7 => ?_⟩
      rw [wantV hi]
      have s7 := same_new (o := HO.lst ((kz i 28).map V.int)) m7
      replace s9 := s9.trans s7
      replace el := s7 _ _ el
      refine ⟨_, _, .lst (SqL.of el) (dpG_ints _), .lst (SqL.of upd_same) (dpG_ints _), shG_ints _, shG_ints _, ?_⟩
      rw [SeqAt.eqv_refl _ (SeqAt.canLay_of_shaped (shG_ints _))]
      refine ⟨_, s9 _ _ hD, by rw [List.length_replicate]; have := sizeLine_eq; omega, fun b o eb => ?_, ?_⟩
      · rw [upd_ne (ne_of_none eb nD)]
        exact s9 _ _ (s5 _ _ eb)
      · rw [upd_same, List.replicate_succ']
    · rintro C2 ⟨s5, hD⟩
      refine ⟨D, List.replicate 28 true, rfl, SqL.of (by rw [List.map_replicate]; exact hD), ?_⟩
      rw [show (List.replicate 28 true).all id = true by simp]
      exact q _ (S.trans s5)
end
end K00

/-! own layer, of no law: OWNN: rounding as a fraction's. -/
namespace Own
open PySem PySem.Spec PyProof.Rows L2 LamX NdefX
theorem near_lo {n d : Int} (t : Str) : n / d ≤ near n d t := by
  unfold near
  split
  · exact Int.le_refl _
  · split <;> omega
theorem near_hi {n d : Int} (t : Str) : near n d t ≤ n / d + 1 := by
  unfold near
  split
  · omega
  · split <;> omega
theorem near_mul {k d : Int} (h : 0 < d) (t : Str) : near (k * d) d t = k := by
  unfold near
  rw [if_pos (Int.mul_emod_left k d), Int.mul_ediv_cancel _ (by omega)]
theorem goes_up_mono {z : Str} {b p p' : Int} (h : p ≤ p') (g : goesUp z b p = true) : goesUp z b p' = true := by
  unfold goesUp at g ⊢
  cases e : halvL.lookup z with
  | none =>
    rw [e] at g
    exact g
  | some y =>
    rw [e] at g
    dsimp only at g ⊢
    by_cases h1 : p = 0
    · rw [if_pos h1] at g
      by_cases h2 : p' = 0
      · rw [if_pos h2]
        exact g
      · rw [if_neg h2]
        exact decide_eq_true (by omega)
    · rw [if_neg h1] at g
      have h3 : 0 < p := of_decide_eq_true g
      rw [if_neg (by omega)]
      exact decide_eq_true (by omega)
/-- what goesUp asks of p is its sign alone -/
theorem goes_scale {z : Str} {b p c : Int} (hc : 0 < c) : goesUp z b (p * c) = goesUp z b p := by
  unfold goesUp
  cases e : halvL.lookup z with
  | none => rfl
  | some y =>
    dsimp only
    by_cases h : p = 0
    · subst h
      simp
    · have h1 : p * c ≠ 0 := Int.mul_ne_zero h (by omega)
      rw [if_neg h, if_neg h1]
      by_cases h2 : 0 < p
      · rw [decide_eq_true h2, decide_eq_true (Int.mul_pos h2 hc)]
      · have h3 : p * c < 0 := Int.mul_neg_of_neg_of_pos (by omega) hc
        rw [decide_eq_false h2, decide_eq_false (by omega)]
theorem near_scale {n d c : Int} (hd : 0 < d) (hc : 0 < c) (t : Str) : near (n * c) (d * c) t = near n d t := by
  have e1 : n * c / (d * c) = n / d := Int.mul_ediv_mul_of_pos_left n d hc
  have e2 : n * c % (d * c) = n % d * c := by
    rw [Int.emod_def, e1, Int.emod_def, Int.sub_mul]
    congr 1
    simp only [Int.mul_assoc, Int.mul_comm, Int.mul_left_comm]
  unfold near
  rw [e1, e2]
  by_cases h : n % d = 0
  · rw [if_pos h, if_pos (by rw [h, Int.zero_mul])]
  · rw [if_neg h, if_neg (Int.mul_ne_zero h (by omega))]
    have e3 : 2 * (n % d * c) - d * c = (2 * (n % d) - d) * c := by rw [Int.sub_mul, Int.mul_assoc]
    rw [e3, goes_scale hc]
/-- it hangs on the fraction alone -/
theorem near_ratio {n d n' d' : Int} (hd : 0 < d) (hd' : 0 < d') (h : n * d' = n' * d) (t : Str) : near n d t = near n' d' t := by
  rw [← near_scale (n := n) (d := d) hd hd' t, h, Int.mul_comm d d', near_scale hd' hd t]
theorem near_mono0 {n n' d : Int} (hd : 0 < d) (h : n ≤ n') (t : Str) : near n d t ≤ near n' d t := by
  have a : n / d ≤ n' / d := Int.ediv_le_ediv hd h
  by_cases e : n / d = n' / d
  · have r0 := Int.emod_nonneg n (show d ≠ 0 by omega)
    have r1 := Int.emod_lt_of_pos n hd
    have m := Int.emod_add_mul_ediv n d
    have m' := Int.emod_add_mul_ediv n' d
    rw [← e] at m'
    have hr : n % d ≤ n' % d := by omega
    by_cases h0 : n % d = 0
    · have z : near n d t = n / d := by
        unfold near
        rw [if_pos h0]
      rw [z, e]
      exact near_lo t
    · have hx : ¬ n' % d = 0 := by omega
      unfold near
      rw [if_neg h0, if_neg hx, ← e]
      by_cases g : goesUp t (n / d) (2 * (n % d) - d) = true
      · rw [if_pos g, if_pos (goes_up_mono (by omega) g)]
        exact Int.le_refl _
      · rw [if_neg g]
        split <;> omega
  · have z1 := near_hi (n := n) (d := d) t
    have z2 := near_lo (n := n') (d := d) t
    omega
theorem near_mono {n d n' d' : Int} (hd : 0 < d) (hd' : 0 < d') (h : n * d' ≤ n' * d) (t : Str) : near n d t ≤ near n' d' t := by
  rw [← near_scale (n := n) (d := d) hd hd' t, ← near_scale (n := n') (d := d') hd' hd t, Int.mul_comm d' d]
  exact near_mono0 (Int.mul_pos hd hd') h t
theorem near_nat {n d : Int} (hd : 0 < d) (t : Str) : (near n d t).natAbs ≤ n.natAbs + 1 := by
  have a := near_lo (n := n) (d := d) t
  have b := near_hi (n := n) (d := d) t
  have c := Int.natAbs_ediv_le_natAbs n d
  omega
/-- what a rounded number keeps to -/
def absZ (u : Int) : Int := if u < 0 then -u else u
def keepP (off : Int) (nr fr : Bool) : List (Str × V) := [("floor", .bl (decide (off < 0))), ("ceiling", .bl (decide (off > 0))), ("cut", .bl nr), ("away", .bl fr)]
def keepH (off : Int) (nr fr ev : Bool) : List (Str × V) := [("halfup", .bl (decide (off > 0))), ("halfdown", .bl (decide (off < 0))), ("halfeven", .bl ev), ("halfaway", .bl fr), ("halfcut", .bl nr)]
theorem keep_ok {n d : Int} (h0 : 0 < d) (hr : n % d ≠ 0) {z : Str} (hz : z ∈ waysL) : absZ (near n d z * d - n) < d ∧
    (∀ v, (keepP (near n d z * d - n) (decide (absZ (near n d z) * d < absZ n)) (decide (absZ (near n d z) * d > absZ n))).lookup z = some v → v = .bl true) ∧
    ((keepP (near n d z * d - n) (decide (absZ (near n d z) * d < absZ n)) (decide (absZ (near n d z) * d > absZ n))).lookup z = none → (2 * absZ (near n d z * d - n) ≠ d → 2 * absZ (near n d z * d - n) < d) ∧
      (2 * absZ (near n d z * d - n) = d → (keepH (near n d z * d - n) (decide (absZ (near n d z) * d < absZ n)) (decide (absZ (near n d z) * d > absZ n)) (decide (near n d z % 2 = 0))).lookup z = some (.bl true))) := by
  have r0 := Int.emod_nonneg n (show d ≠ 0 by omega)
  have r1 := Int.emod_lt_of_pos n h0
  have em := Int.emod_add_mul_ediv n d
  have eu : near n d z = if goesUp z (n / d) (2 * (n % d) - d) = true then n / d + 1 else n / d := by
    unfold near
    rw [if_neg hr]
  rw [eu]
  generalize n / d = q at em ⊢
  generalize n % d = r at hr r0 r1 em ⊢
  have em2 : q * d = n - r := by rw [Int.mul_comm]; omega
  have e1 : (q + 1) * d = n - r + d := by rw [Int.add_mul, em2, Int.one_mul]
  have e2 : -q * d = r - n := by rw [Int.neg_mul, em2]; omega
  have e3 : -(q + 1) * d = r - n - d := by rw [Int.neg_mul, e1]; omega
  have sg : (0 ≤ q ∧ 0 < n) ∨ (q < 0 ∧ n < 0) := by
    by_cases h : 0 ≤ q
    · have := Int.mul_nonneg h (Int.le_of_lt h0)
      exact .inl ⟨h, by omega⟩
    · have h2 : (q + 1) * d ≤ 0 := by
        have := Int.mul_nonneg (show 0 ≤ -(q + 1) by omega) (Int.le_of_lt h0)
        rw [Int.neg_mul] at this
        omega
      exact .inr ⟨by omega, by omega⟩
  -- the four numbers, up or not
  have up1 : ∀ b : Bool, (if b = true then q + 1 else q) * d - n = if b = true then d - r else -r := fun b => by cases b <;> simp <;> omega
  have up2 : ∀ b : Bool, absZ (if b = true then d - r else -r) = if b = true then d - r else r := fun b => by
    unfold absZ
    cases b <;> simp <;> omega
  have up3 : ∀ b : Bool, decide (absZ (if b = true then q + 1 else q) * d < absZ n) = (if b = true then decide (q < 0) else decide (0 ≤ q)) ∧ decide (absZ (if b = true then q + 1 else q) * d > absZ n) = (if b = true then decide (0 ≤ q) else decide (q < 0)) := fun b => by
    unfold absZ
    rcases sg with ⟨a, c⟩ | ⟨a, c⟩
    · cases b
      · simp only [Bool.false_eq_true, if_false]
        rw [if_neg (by omega), if_neg (by omega), em2, decide_eq_true (show n - r < n by omega), decide_eq_false (show ¬ n - r > n by omega), decide_eq_true a, decide_eq_false (by omega)]
        exact ⟨rfl, rfl⟩
      · simp only [if_true]
        rw [if_neg (by omega), if_neg (by omega), e1, decide_eq_false (show ¬ n - r + d < n by omega), decide_eq_true (show n - r + d > n by omega), decide_eq_true a, decide_eq_false (by omega)]
        exact ⟨rfl, rfl⟩
    · cases b
      · simp only [Bool.false_eq_true, if_false]
        rw [if_pos a, if_pos c, e2, decide_eq_false (show ¬ r - n < -n by omega), decide_eq_true (show r - n > -n by omega), decide_eq_true a, decide_eq_false (by omega)]
        exact ⟨rfl, rfl⟩
      · simp only [if_true]
        have e4 : (if q + 1 < 0 then -(q + 1) else q + 1) * d = r - n - d := by
          split
          · exact e3
          · have : q + 1 = 0 := by omega
            rw [this] at e1 ⊢
            omega
        rw [if_pos c, e4, decide_eq_true (show r - n - d < -n by omega), decide_eq_false (show ¬ r - n - d > -n by omega), decide_eq_true a, decide_eq_false (by omega)]
        exact ⟨rfl, rfl⟩
  generalize hb : goesUp z q (2 * r - d) = b
  rw [up1, (up3 b).1, (up3 b).2, up2]
  clear up1 up2 up3 eu e1 e2 e3 em em2
  refine ⟨by cases b <;> simp <;> omega, ?_⟩
  rcases way_cases hz with rfl | rfl | rfl | rfl | rfl | rfl | rfl | rfl | rfl
  · rw [goes_none (k := 4) (by decide +kernel) (by decide +kernel)] at hb
    subst hb
    refine ⟨fun v e => ?_, fun e => by cases (show some _ = none from e)⟩
    have e' := Option.some.inj e
    rw [← e']
    simp [kUp]
    omega
  · rw [goes_none (k := 3) (by decide +kernel) (by decide +kernel)] at hb
    subst hb
    refine ⟨fun v e => ?_, fun e => by cases (show some _ = none from e)⟩
    have e' := Option.some.inj e
    rw [← e']
    simp [kUp]
    omega
  · rw [goes_none (k := 1) (by decide +kernel) (by decide +kernel)] at hb
    subst hb
    refine ⟨fun v e => ?_, fun e => by cases (show some _ = none from e)⟩
    have e' := Option.some.inj e
    rw [← e']
    rcases sg with ⟨a, c⟩ | ⟨a, c⟩
    all_goals (simp [kUp] <;> omega)
  · rw [goes_none (k := 2) (by decide +kernel) (by decide +kernel)] at hb
    subst hb
    refine ⟨fun v e => ?_, fun e => by cases (show some _ = none from e)⟩
    have e' := Option.some.inj e
    rw [← e']
    rcases sg with ⟨a, c⟩ | ⟨a, c⟩
    all_goals (simp [kUp] <;> omega)
  · rw [goes_some (y := "ceiling") (k := 3) (by decide +kernel) (by decide +kernel)] at hb
    refine ⟨fun v e => (by cases (show none = some v from e)), fun _ => ⟨fun hn => ?_, fun he => ?_⟩⟩
    · by_cases g : 2 * r - d = 0
      · exact absurd (show 2 * (if b = true then d - r else r) = d by cases b <;> simp <;> omega) hn
      · rw [if_neg g] at hb
        subst hb
        by_cases g2 : 0 < 2 * r - d
        · rw [decide_eq_true g2, if_pos rfl]
          omega
        · rw [decide_eq_false g2, if_neg (by decide)]
          omega
    · have g : 2 * r - d = 0 := by cases b <;> simp at he <;> omega
      rw [if_pos g] at hb
      subst hb
      refine congrArg some (congrArg V.bl ?_)
      simp only [kUp]
      rcases sg with ⟨a, c⟩ | ⟨a, c⟩
      all_goals (simp <;> (repeat split) <;> omega)
  · rw [goes_some (y := "floor") (k := 4) (by decide +kernel) (by decide +kernel)] at hb
    refine ⟨fun v e => (by cases (show none = some v from e)), fun _ => ⟨fun hn => ?_, fun he => ?_⟩⟩
    · by_cases g : 2 * r - d = 0
      · exact absurd (show 2 * (if b = true then d - r else r) = d by cases b <;> simp <;> omega) hn
      · rw [if_neg g] at hb
        subst hb
        by_cases g2 : 0 < 2 * r - d
        · rw [decide_eq_true g2, if_pos rfl]
          omega
        · rw [decide_eq_false g2, if_neg (by decide)]
          omega
    · have g : 2 * r - d = 0 := by cases b <;> simp at he <;> omega
      rw [if_pos g] at hb
      subst hb
      refine congrArg some (congrArg V.bl ?_)
      simp only [kUp]
      rcases sg with ⟨a, c⟩ | ⟨a, c⟩
      all_goals (simp <;> (repeat split) <;> omega)
  · rw [goes_some (y := "even") (k := 0) (by decide +kernel) (by decide +kernel)] at hb
    refine ⟨fun v e => (by cases (show none = some v from e)), fun _ => ⟨fun hn => ?_, fun he => ?_⟩⟩
    · by_cases g : 2 * r - d = 0
      · exact absurd (show 2 * (if b = true then d - r else r) = d by cases b <;> simp <;> omega) hn
      · rw [if_neg g] at hb
        subst hb
        by_cases g2 : 0 < 2 * r - d
        · rw [decide_eq_true g2, if_pos rfl]
          omega
        · rw [decide_eq_false g2, if_neg (by decide)]
          omega
    · have g : 2 * r - d = 0 := by cases b <;> simp at he <;> omega
      rw [if_pos g] at hb
      subst hb
      refine congrArg some (congrArg V.bl ?_)
      simp only [kUp]
      rcases sg with ⟨a, c⟩ | ⟨a, c⟩
      all_goals (simp <;> (repeat split) <;> omega)
  · rw [goes_some (y := "away") (k := 2) (by decide +kernel) (by decide +kernel)] at hb
    refine ⟨fun v e => (by cases (show none = some v from e)), fun _ => ⟨fun hn => ?_, fun he => ?_⟩⟩
    · by_cases g : 2 * r - d = 0
      · exact absurd (show 2 * (if b = true then d - r else r) = d by cases b <;> simp <;> omega) hn
      · rw [if_neg g] at hb
        subst hb
        by_cases g2 : 0 < 2 * r - d
        · rw [decide_eq_true g2, if_pos rfl]
          omega
        · rw [decide_eq_false g2, if_neg (by decide)]
          omega
    · have g : 2 * r - d = 0 := by cases b <;> simp at he <;> omega
      rw [if_pos g] at hb
      subst hb
      refine congrArg some (congrArg V.bl ?_)
      simp only [kUp]
      rcases sg with ⟨a, c⟩ | ⟨a, c⟩
      all_goals (simp <;> (repeat split) <;> omega)
  · rw [goes_some (y := "cut") (k := 1) (by decide +kernel) (by decide +kernel)] at hb
    refine ⟨fun v e => (by cases (show none = some v from e)), fun _ => ⟨fun hn => ?_, fun he => ?_⟩⟩
    · by_cases g : 2 * r - d = 0
      · exact absurd (show 2 * (if b = true then d - r else r) = d by cases b <;> simp <;> omega) hn
      · rw [if_neg g] at hb
        subst hb
        by_cases g2 : 0 < 2 * r - d
        · rw [decide_eq_true g2, if_pos rfl]
          omega
        · rw [decide_eq_false g2, if_neg (by decide)]
          omega
    · have g : 2 * r - d = 0 := by cases b <;> simp at he <;> omega
      rw [if_pos g] at hb
      subst hb
      refine congrArg some (congrArg V.bl ?_)
      simp only [kUp]
      rcases sg with ⟨a, c⟩ | ⟨a, c⟩
      all_goals (simp <;> (repeat split) <;> omega)
end Own

/-! own layer, of no law: OWNT: a def called inside try, what it lets out told by the slots. -/
namespace Own
open PySem PySem.Spec PyProof.Rows L2 LamX NdefX
section
variable {X : Cx} {x : Str} {j k : Nat} {ps : List Str} {sp : Sp} {CX : CXT} {E : L2.St → XK} {e : Expr} {es : List Expr} {p pos : Pos} {t : TA}
theorem pe_defS (D : DefOk X.prog X.w X.K X.mg X.base CX x k ps sp) (hr : Room j X.A) (hj : k ≤ j) (hg : Gl X x) (hx : ∀ σ, PassesAt CX X σ (E σ)) (ha : PA X (e :: es) t) (hdb : (x == ("__debug__" : Str)) = false := by decide)
    (he : starEach (e :: es) X.env = (false, eval e X.env) :: starEach es X.env := by rfl) (hpl : (backTo pos (starEach es X.env)).any (·.1) = false := by rfl) : PE X (.Call (.Name x p) (e :: es) [] pos) (tCallS sp E t) := by
  obtain ⟨f, fd, F, g, kp, b⟩ := D.ex
  exact pe_callS F (hr.mono hj) hg g kp b hx ha hdb he hpl
end
end Own

/-! k00: _law_raise, _law_caught. -/
namespace K00
open PySem PySem.Spec PyProof.Rows L2 LamX NdefX Own
abbrev sRa : Stmt := topS 38
abbrev sCa : Stmt := topS 39
section
variable {P : Program} {w : World} {K : PySem.W.Frag} {mg : Str → Option Value} {base : Heap}
theorem scRa : FnScope ["_law_which", "_law_mine"] ["_law_which", "_law_mine"] (defScope sRa) := ⟨rfl, rfl, rfl, by decide +kernel, rfl, by decide +kernel, by decide +kernel⟩
theorem scCa : FnScope ["_law_which", "_law_mine", "e"] ["_law_which", "_law_mine"] (defScope sCa) := ⟨rfl, rfl, rfl, by decide +kernel, rfl, by decide +kernel, by decide +kernel⟩
/-- an error leaves, a FigureError -/
def spRa (K : PySem.W.Frag) : Sp := fun vs H _ E => ∃ (i : Int) (mine : V), vs = [.int i, mine] ∧ ∀ (C : Addr) (d : Option Addr) (H' : Hp), PySem.W.exmOne K (.ref C) (.ref (He.ga K "FigureError")) = some true → Same H H' → E (.ref C) d H'
structure Exm (K : PySem.W.Frag) : Prop where
  a : PySem.W.exmOne K (.ref (He.ga K "NoDivisor")) (.ref (He.ga K "FigureError")) = some true
  b : PySem.W.exmOne K (.ref (He.ga K "BadStep")) (.ref (He.ga K "FigureError")) = some true
  c : PySem.W.exmOne K (.ref (He.ga K "CanOver")) (.ref (He.ga K "FigureError")) = some true
  d : PySem.W.exmOne K (.ref (He.ga K "Broken")) (.ref (He.ga K "FigureError")) = some true
  e : PySem.W.exmOne K (.ref (He.ga K "NoFigures")) (.ref (He.ga K "FigureError")) = some true
theorem ok_ra (A : At K mg "_law_raise" sRa ["_law_which", "_law_mine"]) (R : Ers P w K mg base) (X : Exm K) : DefOk P w K mg base (L2.CX P w) "_law_raise" 3 ["_law_which", "_law_mine"] (spRa K) := by
  refine A.ok fun f fd F => F.okX scRa (fun vs H Q E h => ?_) (fun cdv A outer s H vs Q E hr h => ?_)
  · obtain ⟨i, mine, rfl, _⟩ := h
    rfl
  · obtain ⟨i, mine, rfl, q⟩ := h
    refine ⟨_, pss_cons (ps_if (pt_cmpR op_eq (pv 0) pe_int (nomark _)) (pss_one (ps_raise rfl (takes_of rfl rfl rfl rfl) (pmk_errN R.NoDivisor.asN hr (by decide) (by rfl)))) pss_nil)
      (pss_cons (ps_if (pt_cmpR op_eq (pv 0) pe_int (nomark _)) (pss_one (ps_raise rfl (takes_of rfl rfl rfl rfl) (pmk_e1 R.BadStep hr (by decide) (by rfl) pe_int))) pss_nil)
      (pss_cons (ps_if (pt_cmpR op_eq (pv 0) pe_int (nomark _)) (pss_one (ps_raise rfl (takes_of rfl rfl rfl rfl) (pmk_e2S R.CanOver hr (by decide) (by rfl) (pv 1) pe_int))) pss_nil)
      (pss_cons (ps_if (pt_cmpR op_eq (pv 0) pe_int (nomark _)) (pss_one (ps_raise rfl (takes_of rfl rfl rfl rfl) (pmk_e2 R.Broken hr (by decide) (by rfl) (pv 1) pe_int))) pss_nil)
      (pss_one (ps_raise rfl (takes_of rfl rfl rfl rfl) (pmk_errN R.NoFigures.asN hr (by decide) (by rfl))))))), ?_⟩
    refine ⟨_, rfl, rfl, _, rfl, ite2 (fun _ => q _ _ _ X.a fun _ _ e => e) (fun _ => ?_)⟩
    refine ⟨_, rfl, rfl, _, rfl, ite2 (fun _ => bad_mk fun d H' s _ _ => q _ _ _ X.b s) (fun _ => ?_)⟩
    refine ⟨_, rfl, rfl, _, rfl, ite2 (fun _ => ⟨_, rfl, bad_2S fun d H' s _ _ => q _ _ _ X.c s⟩) (fun _ => ?_)⟩
    refine ⟨_, rfl, rfl, _, rfl, ite2 (fun _ => ⟨_, rfl, bad_2P fun d H' s _ _ => q _ _ _ X.d s⟩) (fun _ => ?_)⟩
    exact q _ _ _ X.e fun _ _ e => e
def spCa : Sp := fun vs H Q _ => ∃ (i : Int) (mine : V), vs = [.int i, mine] ∧ ∀ H', Same H H' → Q (.bl true) H'
theorem ok_ca (A : At K mg "_law_caught" sCa ["_law_which", "_law_mine"]) (gF : mg "FigureError" = some (.ref (He.ga K "FigureError"))) (Dr : DefOk P w K mg base (L2.CX P w) "_law_raise" 3 ["_law_which", "_law_mine"] (spRa K)) : DefOk P w K mg base CX0 "_law_caught" 4 ["_law_which", "_law_mine"] spCa := by
  refine A.ok fun f fd F => F.ok scCa (fun vs H Q E h => ?_) (fun cdv A outer s0 H vs Q E hr h => ?_)
  · obtain ⟨i, mine, rfl, _⟩ := h
    rfl
  · obtain ⟨i, mine, rfl, q⟩ := h
    have nd := scCa.nd
    refine ⟨_, pss_cons (ps_try_as (i := 2) (c := .ref (He.ga K "FigureError")) rfl rfl nd rfl rfl ⟨rfl, by decide, .inl gF⟩ L2.takes0
        (fun W pn xe tk _ => pss_one (ps_expr (pe_defS Dr (E := WE W) hr (by decide) (by rfl) (fun σ => passAt tk σ) (pa_cons (pv 0) (pa_cons (pv 1) pa_nil)))))
        (fun a oe cls d pn hz hf => pss_one (ps_ret pe_bl)))
      (pss_one (ps_ret pe_bl)), ?_⟩
    refine ⟨_, rfl, _, rfl, i, mine, rfl, fun C d H' x s => ⟨true, x, fun _ a na => ?_, fun z => nomatch z⟩⟩
    exact q _ s
end
end K00

/-! k00: the law. -/
namespace K00
open PySem PySem.Spec PyProof.Rows L2 LamX NdefX Own
abbrev sLaw : Stmt := topS 40
abbrev nLw : List Str := ["_law_script", "_law_pen_here", "_law_values", "_law_lap", "_law_mine", "_law_yours", "_law_kept", "_law_twice", "_law_due", "_law_which"]
def forB (i : Nat) : Stmt → Stmt
  | .For _ _ b _ _ => b.getD i (.Pass ⟨0, 0, 0, 0⟩)
  | s => s
def boolA (i : Nat) : Expr → Expr
  | .BoolOp _ l _ => l.getD i junkE
  | _ => junkE
theorem blkLw : BlkOk nLw (defScope sLaw) (lcScope (argN 0 (notE (boolA 1 (ifE (forB 3 (inD sLaw 2))))))) [("_law_which", 9)] := blkOk_by (by decide +kernel)
/-- the values that are drawn -/
inductive Vl (H : Hp) : V → Prop where
  | flat {x : V} (h : okF x = true) : Vl H x
  | lst {a : Addr} {xs : List V} (e : H a = some (.lst xs)) (f : xs.all okF = true) : Vl H (.ref a)
  | tup {a : Addr} {xs : List V} (e : H a = some (.tup xs)) (f : xs.all okF = true) : Vl H (.ref a)
  | two {a p : Addr} {i : Int} {xs : List V} (e : H a = some (.tup [.ref p, .int i])) (e2 : H p = some (.tup xs)) (f : xs.all okF = true) : Vl H (.ref a)
  | dct {a : Addr} (e : H a = some (.dK [])) : Vl H (.ref a)
theorem Vl.same {H H' : Hp} {x : V} (h : Vl H x) (s : Same H H') : Vl H' x := by
  cases h with
  | flat h => exact .flat h
  | lst e f => exact .lst (s _ _ e) f
  | tup e f => exact .tup (s _ _ e) f
  | two e e2 f => exact .two (s _ _ e) (s _ _ e2) f
  | dct e => exact .dct (s _ _ e)
theorem Vl.keep {H H' : Hp} {d : Addr} {B : Int} {x : V} (h : Vl H x) (p : Pen H d B) (k : KeepP d H H') : Vl H' x := by
  obtain ⟨q, ns, c, l, ed, _⟩ := p.ex
  have on : ∀ {a : Addr} {o : HO}, H a = some o → (∀ kv, o = .dK kv → kv = []) → H' a = some o := fun {a o} e n => k _ _ (ne_of e ed (fun z => by
    have := n _ z
    cases this)) e
  cases h with
  | flat h => exact .flat h
  | lst e f => exact .lst (on e (fun _ z => by cases z)) f
  | tup e f => exact .tup (on e (fun _ z => by cases z)) f
  | two e e2 f => exact .two (on e (fun _ z => by cases z)) (on e2 (fun _ z => by cases z)) f
  | dct e => exact .dct (on e (fun kv z => by cases z; rfl))
theorem Vl.thing {H : Hp} {x : V} (h : Vl H x) : Thing H x := by
  cases h with
  | flat h => cases x <;> first | exact .non | exact .bl _ | exact .int _ | exact .str _ | (simp [okF] at h)
  | lst e f => exact .lst e
  | tup e f => exact .tup e
  | two e _ _ => exact .tup e
  | dct e => exact .dct e
/-- x != x -/
theorem op_neV {X : Cx} (hu : X.A.units + 64 < cLine) : OpR X (compareOp .NotEq) (fun x y H Q => y = x ∧ Vl H x ∧ Q (.bl false) H) := by
  intro pins s σ H x y v u Q I rx ry h
  obtain ⟨rfl, vl, q⟩ := h
  have fin : ∀ {d : PyData}, Dp X.K H y d → SeqAt.shaped d = true → wpAny (model X.prog X.w) X.A (compareOp .NotEq v u) (EP X pins σ Q) X.xe s := fun {d} dp sh =>
    op_neD hu pins s σ H _ _ v u Q I rx ry ⟨d, d, dp, dp, sh, sh, by rw [SeqAt.eqv_refl _ (SeqAt.canLay_of_shaped sh)]; exact q⟩
  cases vl with
  | flat h =>
    obtain ⟨a1, a2, a3⟩ := dp_flat (K := X.K) (H := H) h
    exact fin a1 (by unfold SeqAt.shaped; rw [a2, a3]; rfl)
  | @lst a xs e f =>
    obtain ⟨a1, a2, a3⟩ := dp_flats (K := X.K) (H := H) f
    exact fin (.lst (SqL.of e) a1) (by unfold SeqAt.shaped; simp [PyData.canLay0, PyData.depth, a2, a3])
  | @tup a xs e f =>
    obtain ⟨a1, a2, a3⟩ := dp_flats (K := X.K) (H := H) f
    exact fin (.tup (SqT.of e) a1) (by unfold SeqAt.shaped; simp [PyData.canLay0, PyData.depth, a2, a3])
  | @two a p i xs e e2 f =>
    obtain ⟨a1, a2, a3⟩ := dp_flats (K := X.K) (H := H) f
    exact fin (.tup (SqT.of e) (.cons (.tup (SqT.of e2) a1) (.cons (.int i) .nil))) (by unfold SeqAt.shaped; simp [PyData.canLay0, PyData.depth, PyData.canLayAll0, PyData.depthAll, a2, a3])
  | @dct a e => exact op_ne_dictA (by omega) pins s σ H _ _ v u Q I rx ry ⟨a, a, [], [], rfl, rfl, e, e, rfl, fun p hp => (by cases hp), q⟩
section
variable {P : Program} {w : World} {K : PySem.W.Frag} {mg : Str → Option Value} {base : Heap} {f : Addr} {fd : FuncData}
theorem scLw : FnScope nLw ["_law_script"] (defScope sLaw) := ⟨rfl, rfl, rfl, by decide +kernel, rfl, by decide +kernel, by decide +kernel⟩
def spLaw (K : PySem.W.Frag) : Sp := fun vs H Q _ => ∃ (a : Addr) (ns : List Int), vs = [.ref a] ∧ SqL K H a (ns.map V.int) ∧ ns.length ≤ 63 ∧ ∀ H', Q (.bl true) H'
theorem ok_law (F : Fun K "law" "law" sLaw f fd) (B : Blt mg) (Db : DefOk P w K mg base CX0 "_law_pen" 1 ["_law_script"] (spBegin K)) (Dp : DefOk P w K mg base CX0 "_law_pick" 2 ["_law_pen_here", "_law_items"] spPick)
    (Dl : DefOk P w K mg base CX0 "_law_alone" 3 ["_law_mine"] spAl) (Dm : DefOk P w K mg base CX0 "_law_more" 3 ["_law_mine", "_law_yours"] spMo) (Da : DefOk P w K mg base CX0 "_law_apart" 3 ["_law_mine", "_law_yours"] spAp)
    (Dc : DefOk P w K mg base CX0 "_law_caught" 4 ["_law_which", "_law_mine"] spCa) : FnOk P w K mg base CX0 6 f fd ["_law_script"] (spLaw K) := by
  refine F.ok scLw (fun vs H Q E h => ?_) (fun cdv A outer s0 H vs Q E hr h => ?_)
  · obtain ⟨a, ns, rfl, _⟩ := h
    rfl
  · obtain ⟨a, ns, rfl, hs, hl, q⟩ := h
    have nd := scLw.nd
    refine ⟨_, pss_cons (ps_set (i := 1) nd rfl (.inl rfl) (pe_def Db hr (by decide) (by rfl) pass0 (pa_cons (pv 0) pa_nil)))
      (pss_cons (ps_set (i := 2) nd rfl (.inl rfl) (pe_lst (pa_cons pe_non (pa_cons pe_bl (pa_cons pe_int (pa_cons (pe_un un_neg pe_int) (pa_cons pe_str (pa_cons pe_str (pa_cons (pe_tup (pa_cons pe_int (pa_cons pe_int pa_nil))) (pa_cons (pe_lst (pa_cons pe_str pa_nil)) (pa_cons pe_dnewK (pa_cons (pe_op op_pow pe_int pe_int) (pa_cons pe_str (pa_cons (pe_tup (pa_cons (pe_tup (pa_cons pe_int (pa_cons pe_int pa_nil))) (pa_cons pe_int pa_nil))) pa_nil))))))))))))))
      (pss_cons (ps_for PassesOwn.never rfl (pi_range1 (by rfl) B.range (pa_cons (pe_op op_add pe_int (pe_callB (call_min2 rfl) (by rfl) B.min (by decide +kernel) (pa_cons pe_int (pa_cons (pe_callB call_len_seq (by rfl) B.len PySem.boot_len (pa_cons (pv 0) pa_nil)) pa_nil)))) pa_nil)) (pg_name (i := 3) nd rfl (.inl rfl)) (pss_cons (ps_asg (pe_tup (pa_cons (pe_def Dp hr (by decide) (by rfl) pass0 (pa_cons (pv 1) (pa_cons (pv 2) pa_nil))) (pa_cons (pe_def Dp hr (by decide) (by rfl) pass0 (pa_cons (pv 1) (pa_cons (pv 2) pa_nil))) pa_nil))) (pg_tup rfl (pgs_cons (pg_name (i := 4) nd rfl (.inr rfl)) (pgs_cons (pg_name (i := 5) nd rfl (.inl rfl)) pgs_nil)))) (pss_cons (ps_for PassesOwn.never rfl (pi_list (pe_def Dl hr (by decide) (by rfl) pass0 (pa_cons (pv 4) pa_nil))) (pg_tup rfl (pgs_cons (pg_name (i := 6) nd rfl (.inl rfl)) (pgs_cons (pg_name (i := 7) nd rfl (.inl rfl)) pgs_nil))) (pss_one (ps_if (PW.pt (pw_or (pt_cmpR (op_neV hr.units) (pv 6) (pv 4) (nomark _)) (pw_or (pt_cmpR (op_neV hr.units) (pv 7) (pv 4) (nomark _)) (pw_or1 (pt_cmpR op_ne (pe_callB call_isi (by rfl) B.isi (by decide +kernel) (pa_cons (pv 6) (pa_cons (pe_bltn (v := .ty "bool") (by rfl) B.bool (by decide +kernel) rfl) pa_nil))) (pe_callB call_isi (by rfl) B.isi (by decide +kernel) (pa_cons (pv 4) (pa_cons (pe_bltn (v := .ty "bool") (by rfl) B.bool (by decide +kernel) rfl) pa_nil))) (nomark _)))))) (pss_one (ps_ret pe_bl)) pss_nil))) (pss_cons (ps_for PassesOwn.never rfl (pi_list (pe_def Dm hr (by decide) (by rfl) pass0 (pa_cons (pv 4) (pa_cons (pv 5) pa_nil)))) (pg_tup rfl (pgs_cons (pg_name (i := 6) nd rfl (.inl rfl)) (pgs_cons (pg_name (i := 8) nd rfl (.inl rfl)) pgs_nil))) (pss_one (ps_if (PW.pt (pw_or (pt_cmpR (op_neV hr.units) (pv 6) (pv 8) (nomark _)) (pw_or1 (pt_cmpR op_ne (pe_callB call_isi (by rfl) B.isi (by decide +kernel) (pa_cons (pv 6) (pa_cons (pe_bltn (v := .ty "bool") (by rfl) B.bool (by decide +kernel) rfl) pa_nil))) (pe_callB call_isi (by rfl) B.isi (by decide +kernel) (pa_cons (pv 8) (pa_cons (pe_bltn (v := .ty "bool") (by rfl) B.bool (by decide +kernel) rfl) pa_nil))) (nomark _))))) (pss_one (ps_ret pe_bl)) pss_nil))) (pss_one (ps_if (PW.pt (pw_or (pt_not (pt_val (pe_def Da hr (by decide) (by rfl) pass0 (pa_cons (pv 4) (pa_cons (pv 5) pa_nil))))) (pw_or1 (pt_not (pt_val (pe_callB (cr_all rfl) (by rfl) B.all PyProof.Rows.boot_all (pa_cons (pe_lc (own := [("_law_which", 9)]) (te := tCall spCa [] E0 (tCons (tVar 9) (tCons (tVar 4) tNil))) rfl nd (pi_range1 (by rfl) B.range (pa_cons pe_int pa_nil)) blkLw (fun _ _ _ _ _ => (pg_name (i := 9) nd rfl (.inl rfl))) (fun _ _ _ _ _ => pts_nil) (fun _ _ _ _ _ => (pe_def Dc hr (by decide) (by rfl) pass0 (pa_cons (pv 9) (pa_cons (pv 4) pa_nil))))) pa_nil))))))) (pss_one (ps_ret pe_bl)) pss_nil))))))
      (pss_one (ps_ret pe_bl)))), ?_⟩
    refine ⟨_, rfl, a, ns, rfl, hs, hl, fun d H1 nd1 s1 p1 => ?_⟩
    dsimp only [gName, List.set]
    refine ⟨_, rfl, by show 2 ≤ sizeLine; decide, fun q1 m1 => ⟨by show 1 ≤ sizeLine; decide, fun q2 m2 q3 m3 => ⟨_, _, rfl, rfl, ⟨by decide, by decide, by decide⟩, by show 2 ≤ sizeLine; decide, fun q4 m4 => ⟨by show 2 ≤ sizeLine; decide, fun q5 m5 => ⟨by show 12 ≤ sizeLine; decide, fun l nl => ?_⟩⟩⟩⟩⟩
    have t1 := same_new (o := HO.tup [.int 1, .int 2]) m1
    have t2 := same_new (o := HO.lst [.str "x"]) m2
    have t3 := same_new (o := HO.dK []) m3
    have t4 := same_new (o := HO.tup [.int 0, .int 1]) m4
    have t5 := same_new (o := HO.tup [.ref q4, .int 2]) m5
    have e1 := (t2.trans (t3.trans (t4.trans t5))) _ _ (upd_same (H := H1) (a := q1) (o := HO.tup [.int 1, .int 2]))
    have e2 := (t3.trans (t4.trans t5)) _ _ (upd_same (H := _) (a := q2) (o := HO.lst [.str "x"]))
    have e3 := (t4.trans t5) _ _ (upd_same (H := _) (a := q3) (o := HO.dK []))
    have e4 := t5 _ _ (upd_same (H := _) (a := q4) (o := HO.tup [.int 0, .int 1]))
    have e5 : upd _ q5 (HO.tup [.ref q4, .int 2]) q5 = _ := upd_same (H := upd (upd (upd (upd H1 q1 (.tup [.int 1, .int 2])) q2 (.lst [.str "x"])) q3 (.dK [])) q4 (.tup [.int 0, .int 1]))
    have sA := (t1.trans (t2.trans (t3.trans (t4.trans t5))))
    generalize upd (upd (upd (upd (upd H1 q1 (.tup [.int 1, .int 2])) q2 (.lst [.str "x"])) q3 (.dK [])) q4 (.tup [.int 0, .int 1])) q5 (.tup [.ref q4, .int 2]) = H2 at e1 e2 e3 e4 e5 sA nl ⊢
    clear t1 t2 t3 t4 t5
    have pA := p1.same sA
    have sH := s1.trans sA
    clear sA p1 s1 m1 m2 m3 m4 m5
    generalize hLV : [V.non, .bl true, .int 0, .int (-3), .str "", .str "x y", .ref q1, .ref q2, .ref q3, _, .str "a", .ref q5] = LV
    have hv : ∀ x ∈ LV, Vl H2 x := fun x hx => by
      rw [← hLV] at hx
      simp only [List.mem_cons, List.not_mem_nil, or_false] at hx
      rcases hx with rfl | rfl | rfl | rfl | rfl | rfl | rfl | rfl | rfl | rfl | rfl | rfl
      · exact .flat rfl
      · exact .flat rfl
      · exact .flat rfl
      · exact .flat rfl
      · exact .flat (by decide +kernel)
      · exact .flat (by decide +kernel)
      · exact .tup e1 rfl
      · exact .lst e2 (by decide +kernel)
      · exact .dct e3
      · exact .flat rfl
      · exact .flat (by decide +kernel)
      · exact .two e5 e4 rfl
    have hn : LV ≠ [] := by rw [← hLV]; simp
    have h12 : LV.length ≤ 1000 := by rw [← hLV]; show 12 ≤ 1000; decide
    clear hLV e1 e2 e3 e4 e5
    have sl := same_new (o := HO.lst LV) nl
    have el : upd H2 l (HO.lst LV) l = some (HO.lst LV) := upd_same
    replace hv : ∀ x ∈ LV, Vl (upd H2 l (HO.lst LV)) x := fun x hx => (hv x hx).same sl
    replace pA := pA.same sl
    have hs3 := (sH.trans sl).seq hs
    generalize upd H2 l (HO.lst LV) = H3 at el hv pA hs3 ⊢
    clear sl sH
    dsimp only [gName, List.set]
    have lN : (ns.map V.int).length ≤ 63 := by rw [List.length_map]; exact hl
    refine ⟨_, rfl, a, _, rfl, .inl hs3, _, _, rfl, _, _, rfl, rfl, _, rfl, ?_, ?_, for_range (fun k σ H' => (∃ y3 y4 y5 y6 y7 y8 : Option V, σ = [some (.ref a), some (.ref d), some (.ref l), y3, y4, y5, y6, y7, y8, none]) ∧ Pen H' d (2 * (k : Nat)) ∧ H' l = some (.lst LV) ∧ ∀ x ∈ LV, Vl H' x) ⟨⟨_, _, _, _, _, _, rfl⟩, pA.mono (by omega), el, hv⟩ ?_ ?_⟩
    · split <;> omega
    · split <;> omega
    · rintro k σ H4 hk ⟨⟨y3, y4, y5, y6, y7, y8, rfl⟩, p4, e4, v4⟩
      replace hk : k < 100 := by
        split at hk <;> omega
      clear pA el hv lN
      have ld : l ≠ d := by
        obtain ⟨qq, nns, cc, ll, ed, _⟩ := p4.ex
        exact ne_of e4 ed (by intro y; cases y)
      dsimp only [gName, List.set]
      refine ⟨_, rfl, _, rfl, d, l, LV, _, rfl, e4, hn, h12, p4, by omega, fun mine H5 hm k5 p5 => ?_⟩
      have e5 := k5 _ _ ld e4
      have v5 : ∀ x ∈ LV, Vl H5 x := fun x hx => (v4 x hx).keep p4 k5
      refine ⟨_, rfl, _, rfl, d, l, LV, _, rfl, e5, hn, h12, p5, by omega, fun yours H6 hy k6 p6 => ?_⟩
      have e6 := k6 _ _ ld e5
      have v6 : ∀ x ∈ LV, Vl H6 x := fun x hx => (v5 x hx).keep p5 k6
      refine ⟨by show 2 ≤ sizeLine; decide, fun t nt => ⟨t, _, rfl, SqT.of upd_same, rfl, _, _, rfl, _, _, rfl, rfl, ?_⟩⟩
      have st := same_new (o := HO.tup [mine, yours]) nt
      have e7 := st _ _ e6
      have v7 : ∀ x ∈ LV, Vl (upd H6 t (.tup [mine, yours])) x := fun x hx => (v6 x hx).same st
      have p7 := p6.same st
      generalize upd H6 t (HO.tup [mine, yours]) = H7 at e7 v7 p7 ⊢
      clear st nt k5 k6 p4 p5 p6 e4 e5 e6 v4 v5 v6
      dsimp only [gName, List.set]
      -- one field
      refine ⟨_, rfl, mine, rfl, fun l2 ps H8 s8 e8 n8 r8 => ⟨l2, rfl, ⟨_, SqL.of e8⟩, for_list (K := K) (xs := ps.map V.ref) (fun j σ H' => (∃ z6 z7 : Option V, σ = [some (.ref a), some (.ref d), some (.ref l), some (.int (0 + (k : Nat))), some mine, some yours, z6, z7, y8, none]) ∧ H' = H8) ⟨⟨_, _, rfl⟩, rfl⟩ (fun j σ H' _ z => SqL.of (by rw [z.2]; exact e8)) ?_ ?_⟩⟩
      · rintro j x σ H' hx ⟨⟨z6, z7, rfl⟩, rfl⟩
        rw [List.getElem?_map] at hx
        obtain ⟨p, hp, rfl⟩ := Option.map_eq_some_iff.mp hx
        obtain ⟨v, hv, ep⟩ := r8 p (List.mem_of_getElem? hp)
        obtain rfl : v = mine := hv
        have vm := (v7 v hm).same s8
        obtain ⟨t1, h1, _, k1⟩ := vm.thing.isi (K := K)
        refine ⟨p, _, rfl, SqT.of ep, rfl, _, _, rfl, _, _, rfl, rfl, ?_⟩
        dsimp only [gName, List.set]
        refine ⟨_, rfl, _, rfl, rfl, vm, _, rfl, iteF ⟨_, rfl, _, rfl, rfl, vm, _, rfl, iteF ?_⟩⟩
        refine ⟨_, rfl, v, _, t1, _, _, rfl, .ty _, h1, k1, _, rfl, v, _, t1, _, _, rfl, .ty _, h1, k1, rfl, _, rfl, ?_⟩
        rw [decide_eq_true rfl]
        refine iteF ?_
        exact ⟨⟨_, _, rfl⟩, rfl⟩
      rintro σ H8' ⟨⟨z6, z7, rfl⟩, rfl⟩
      have e8' := s8 _ _ e7
      have p8 := p7.same s8
      have v8 : ∀ x ∈ LV, Vl H8' x := fun x hx => (v7 x hx).same s8
      clear r8 n8 e8 s8 e7 v7 p7
      -- two fields
      refine ⟨_, rfl, _, rfl, mine, yours, rfl, fun l3 ps H9 s9 e9 n9 r9 => ⟨l3, rfl, ⟨_, SqL.of e9⟩, for_list (K := K) (xs := ps.map V.ref) (fun j σ H' => (∃ z6 z8 : Option V, σ = [some (.ref a), some (.ref d), some (.ref l), some (.int (0 + (k : Nat))), some mine, some yours, z6, z7, z8, none]) ∧ H' = H9) ⟨⟨_, _, rfl⟩, rfl⟩ (fun j σ H' _ z => SqL.of (by rw [z.2]; exact e9)) ?_ ?_⟩⟩
      · rintro j x σ H' hx ⟨⟨z6, z8, rfl⟩, rfl⟩
        rw [List.getElem?_map] at hx
        obtain ⟨p, hp, rfl⟩ := Option.map_eq_some_iff.mp hx
        obtain ⟨v, hv, ep⟩ := r9 p (List.mem_of_getElem? hp)
        have vm : Vl H' v := by
          rcases hv with rfl | rfl
          · exact (v8 _ hm).same s9
          · exact (v8 _ hy).same s9
        obtain ⟨t1, h1, _, k1⟩ := vm.thing.isi (K := K)
        refine ⟨p, _, rfl, SqT.of ep, rfl, _, _, rfl, _, _, rfl, rfl, ?_⟩
        dsimp only [gName, List.set]
        refine ⟨_, rfl, _, rfl, rfl, vm, _, rfl, iteF ?_⟩
        refine ⟨_, rfl, v, _, t1, _, _, rfl, .ty _, h1, k1, _, rfl, v, _, t1, _, _, rfl, .ty _, h1, k1, rfl, _, rfl, ?_⟩
        rw [decide_eq_true rfl]
        refine iteF ?_
        exact ⟨⟨_, _, rfl⟩, rfl⟩
      rintro σ H9' ⟨⟨z6, z8, rfl⟩, rfl⟩
      have e9' := s9 _ _ e8'
      have p9 := p8.same s9
      have v9 : ∀ x ∈ LV, Vl H9' x := fun x hx => (v8 x hx).same s9
      clear r9 n9 e9 s9 e8' v8 p8
      -- kinds, and raised
      refine ⟨_, rfl, _, rfl, mine, yours, rfl, fun HA sA => ⟨true, rfl, iteF ?_⟩⟩
      refine ⟨5, rfl, by decide, by decide, fun D nD => lc_range (fun i H' => Same HA H' ∧ H' D = some (.lst (List.replicate i (.bl true)))) ⟨same_new nD, upd_same⟩ ?_ ?_⟩
      · rintro i C2 hi ⟨s5, hD⟩
        dsimp only [gName, List.set]
        refine ⟨rfl, ?_⟩
        unfold tYes
        dsimp only
        rw [if_pos rfl]
        refine ⟨_, rfl, _, rfl, _, mine, rfl, fun H' s6 => ⟨_, s6 _ _ hD, by rw [List.length_replicate]; have := sizeLine_eq; omega, fun b o eb => ?_, ?_⟩⟩
        · rw [upd_ne (ne_of_none eb nD)]
          exact s6 _ _ (s5 _ _ eb)
        · rw [upd_same, List.replicate_succ']
      rintro C2 ⟨s5, hD⟩
      refine ⟨D, List.replicate 5 true, rfl, SqL.of (by rw [List.map_replicate]; exact hD), _, rfl, ?_⟩
      rw [show (List.replicate 5 true).all id = true by simp]
      refine iteF ?_
      have sB := sA.trans s5
      exact ⟨⟨_, _, _, _, _, _, rfl⟩, (p9.same sB).mono (by omega), sB _ _ e9', fun x hx => (v9 x hx).same sB⟩
    · rintro σ H4 _
      exact q H4
end
end K00

/-! own layer, of no law: OWNP: properties of the program's classes, told by the top. -/
namespace Own
open PySem PySem.Spec PyProof.Rows L2 LamX NdefX
/-- the getter of a property: (class, its name) -/
def pgA (K : PySem.W.Frag) (p : Str × Option Str) : Addr := match PySem.W.findIn K (.ref (He.ga K p.1)) (p.2.getD "") with
  | some (some (.ref q)) => (match PySem.W.recIn K q "property" with
    | some (.ref g :: _) => g
    | _ => 0)
  | _ => 0
def fnWA (K : PySem.W.Frag) (a : Addr) : He.FnW := match K.lookup a with
  | some ⟨_, _, .func fd, _⟩ => some (fd.name, fd.qualname, fd.params, fd.body, fd.scope, fd.globals, fd.closure, fd.builtins)
  | _ => none
def okA (K : PySem.W.Frag) (a : Addr) (q : Str) : Bool := PySem.W.keepIn K (.ref a) && (match K.lookup a with
  | some ⟨_, _, .func fd, _⟩ => PySem.W.codeIn K fd.code q && (He.dflB K fd.defaults [] && He.kwdB K fd.kwdefaults [])
  | _ => false)
def propB (K : PySem.W.Frag) (p : Str × Option Str) (q : Str) : Bool := (match PySem.W.findIn K (.ref (He.ga K p.1)) (p.2.getD "") with
  | some (some (.ref r)) => decide (PySem.W.specialIn K (.ref r) "__get__" = some (some (.builtin "property.__get__"))) && (decide (PySem.W.takesIn K (.ref r) = some true) && (match PySem.W.recIn K r "property" with
    | some (.ref _ :: _) => true
    | _ => false))
  | _ => false) && okA K (pgA K p) q
theorem funD_at {K : PySem.W.Frag} {a : Addr} {d : He.DefD} (e : fnWA K a = d.val) (c : okA K a d.qual = true) : ∃ fd, FunD K d.name d.qual d.params d.body d.scope [] [] a fd := by
  obtain ⟨kp, c2⟩ := He.ba c
  unfold fnWA at e
  cases q : K.lookup a with
  | none =>
    rw [q] at c2
    cases c2
  | some o =>
    obtain ⟨oc, od, dt, osl⟩ := o
    rw [q] at c2 e
    cases dt with
    | func fd =>
      obtain ⟨n1, n2, n3, n4, n5, n6, n7, n8, n9, n10, n11, n12, n13, n14, n15⟩ := fd
      have e2 : (some (n1, n2, n3, n4, n5, n6, n7, n15) : He.FnW) = some (d.name, d.qual, d.params, .stmts d.body, d.scope, mainGlobals, [], builtinsNs) := e
      simp only [Option.some.injEq, Prod.mk.injEq] at e2
      obtain ⟨h1, h2, h3, h4, h5, h6, h7, h8⟩ := e2
      subst h1 h2 h3 h4 h5 h6 h7 h8
      have c3 : (PySem.W.codeIn K n13 d.qual && (He.dflB K n8 [] && He.kwdB K n9 [])) = true := c2
      obtain ⟨k1, k2⟩ := He.ba c3
      obtain ⟨k3, k4⟩ := He.ba k2
      exact ⟨_, ⟨oc, od, n8, n9, n10, n11, n12, n13, n14, osl, rfl, q, k1, He.dflB_ok k3, He.kwdB_ok k4⟩, kp⟩
    | _ => cases c2
theorem prop_ok {K : PySem.W.Frag} {C f : Str} {q : Str} (h : propB K (C, some f) q = true) : (∃ p, PropOf K (He.ga K C) f p (pgA K (C, some f))) ∧ okA K (pgA K (C, some f)) q = true := by
  obtain ⟨h1, h2⟩ := He.ba h
  refine ⟨?_, h2⟩
  have h1 : (match PySem.W.findIn K (.ref (He.ga K C)) f with
    | some (some (.ref r)) => decide (PySem.W.specialIn K (.ref r) "__get__" = some (some (.builtin "property.__get__"))) && (decide (PySem.W.takesIn K (.ref r) = some true) && (match PySem.W.recIn K r "property" with
      | some (.ref _ :: _) => true
      | _ => false))
    | _ => false) = true := h1
  have e : pgA K (C, some f) = (match PySem.W.findIn K (.ref (He.ga K C)) f with
    | some (some (.ref q)) => (match PySem.W.recIn K q "property" with
      | some (.ref g :: _) => g
      | _ => 0)
    | _ => 0) := rfl
  cases a : PySem.W.findIn K (.ref (He.ga K C)) f with
  | none => rw [a] at h1; cases h1
  | some a1 =>
    cases a1 with
    | none => rw [a] at h1; cases h1
    | some v =>
      cases v with
      | ref r =>
        rw [a] at h1 e
        obtain ⟨b1, b2⟩ := He.ba h1
        obtain ⟨b2, b3⟩ := He.ba b2
        have b3 : (match PySem.W.recIn K r "property" with
          | some (.ref _ :: _) => true
          | _ => false) = true := b3
        have e : pgA K (C, some f) = (match PySem.W.recIn K r "property" with
          | some (.ref g :: _) => g
          | _ => 0) := e
        refine ⟨r, a, of_decide_eq_true b1, of_decide_eq_true b2, ?_⟩
        cases c : PySem.W.recIn K r "property" with
        | none => rw [c] at b3; cases b3
        | some l =>
          cases l with
          | nil => rw [c] at b3; cases b3
          | cons x rest =>
            cases x with
            | ref g =>
              rw [c] at e
              have e : pgA K (C, some f) = g := e
              rw [e]
              exact ⟨rest, rfl⟩
            | _ => rw [c] at b3; cases b3
      | _ => rw [a] at h1; cases h1
/-- what is told: the getters' texts besides -/
structure SaysP (ps : List He.DefD) (K : PySem.W.Frag) : Prop where
  g : ps.map (fun d => fnWA K (pgA K d.at_)) = ps.map He.DefD.val
theorem SaysP.at_ {ps : List He.DefD} {K : PySem.W.Frag} (c : SaysP ps K) (i : Nat) {d : He.DefD} (h : ps[i]? = some d) : fnWA K (pgA K d.at_) = d.val := by
  have e : (ps.map fun d => fnWA K (pgA K d.at_))[i]? = (ps.map He.DefD.val)[i]? := by rw [c.g]
  rw [List.getElem?_map, List.getElem?_map, h] at e
  exact Option.some.inj e
abbrev AlP : Type := He.AlX × List He.FnW
def obsP (n : Nat) (fa : List He.Fa) (fn : List He.DefD) (ts : List He.Tab) (tf : List He.Defn) (ex : PySem.W.Frag → Bool) (ps : List He.DefD) (g : Addr → Option Obj) : AlP :=
  (He.obsX n fa fn ts tf ex g, ps.map fun d => fnWA (He.frT g (He.asD g n)) (pgA (He.frT g (He.asD g n)) d.at_))
def valP (fn : List He.DefD) (ts : List He.Tab) (ps : List He.DefD) (w : World) : AlP := (He.valX fn ts w, ps.map He.DefD.val)
def hookP (n : Nat) (fa : List He.Fa) (fn : List He.DefD) (ts : List He.Tab) (tf : List He.Defn) (ex : PySem.W.Frag → Bool) (ps : List He.DefD) : PySem.W.Hook where
  α := AlP
  obs := fun s => obsP n fa fn ts tf ex ps s.heap.get?
  val := fun w => valP fn ts ps w
  says := fun w h => ∃ K : PySem.W.Frag, K.In h ∧ He.SaysX fa fn ts tf ex w h K ∧ SaysP ps K
  of := fun _ _ e => ⟨_, He.frT_in, He.saysX_of (congrArg (fun z : AlP => z.1) e), ⟨congrArg (fun z : AlP => z.2) e⟩⟩
  keeps := fun _ _ _ ⟨K, hK, c, d⟩ k => ⟨K, PySem.W.Frag.In.keeps hK k, ⟨c.t, c.more, c.hd, c.out, fun p hp => k _ _ (c.empty p hp)⟩, d⟩
theorem obsP_eq {n : Nat} {fa : List He.Fa} {fn : List He.DefD} {ts : List He.Tab} {tf : List He.Defn} {ex : PySem.W.Frag → Bool} {ps : List He.DefD} {g : Addr → Option Obj} {s : Shared} (h : ∀ a, g a = s.heap.get? a) : obsP n fa fn ts tf ex ps g = (hookP n fa fn ts tf ex ps).obs s := by
  have e : g = s.heap.get? := funext h
  rw [e] <;> rfl
end Own

/-! k00: the classes of errors. -/
namespace K00
open PySem PySem.Spec PyProof.Rows L2 LamX NdefX Own
def excB (K : PySem.W.Frag) (D : Addr) : Bool := decide (PySem.W.findIn K (.ref D) "__getattribute__" = some (some (.builtin "BaseException.__getattribute__"))) && (decide (PySem.W.findIn K (.ref D) "__getattr__" = some none) && (decide (PySem.W.subIn K (.ref D) (.type "BaseException") = some true) && (PySem.W.hasDictIn K D &&
  (decide (PySem.W.findIn K (.ref D) "__class__" = some (some (.builtin "object.__class__"))) && (decide (PySem.W.specialIn K (.builtin "object.__class__") "__get__" = some (some (.builtin "getset_descriptor.__get__"))) && (decide (PySem.W.takesIn K (.builtin "object.__class__") = some true) && decide (PySem.W.mroIn K D (.type "object") = some true)))))))
theorem excB_ok {K : PySem.W.Frag} {D : Addr} (h : excB K D = true) : L2.ExcC K D := by
  obtain ⟨a1, h⟩ := He.ba h
  obtain ⟨a2, h⟩ := He.ba h
  obtain ⟨a3, h⟩ := He.ba h
  obtain ⟨a4, h⟩ := He.ba h
  obtain ⟨a5, h⟩ := He.ba h
  obtain ⟨a6, h⟩ := He.ba h
  obtain ⟨a7, a8⟩ := He.ba h
  exact ⟨of_decide_eq_true a1, of_decide_eq_true a2, of_decide_eq_true a3, a4, of_decide_eq_true a5, of_decide_eq_true a6, of_decide_eq_true a7, of_decide_eq_true a8⟩
section
variable {P : Program} {w : World} {K : PySem.W.Frag} {mg : Str → Option Value} {base : Heap} {C f : Addr} {fd : FuncData}
theorem scE_BadValue : FnScope ["self", "value"] ["self", "value"] (defScope (inClass (topS 2) 0)) := ⟨rfl, rfl, rfl, by decide +kernel, rfl, by decide +kernel, by decide +kernel⟩
theorem ini_BadValue (F : Fun K "__init__" "BadValue.__init__" (inClass (topS 2) 0) f fd) (T : OexC K C) (no : PySem.W.findIn K (.ref C) "value" = some none) : FnOk P w K mg base CX0 1 f fd ["self", "value"] (spErr C "value") ∧ Binds K fd ["self", "value"] [] ∧ KBn K fd ["self", "value"] 1 ["value"] (fun us ws => us ++ ws) (fun vs zs => vs ++ zs) := by
  refine ⟨F.ok scE_BadValue (fun vs H Q E h => ?_) (fun cdv A outer s H vs Q E hr h => ?_), F.binds (ps := ["self", "value"]) fun _ _ _ _ _ _ us hl => match us, hl with | [_, _], _ => rfl, ?_⟩
  · obtain ⟨a, y, rfl, _⟩ := h
    rfl
  · obtain ⟨a, y, rfl, ha, q⟩ := h
    refine ⟨_, pss_one (ps_ost (pv 0) (pv 1)), ?_⟩
    exact ⟨_, rfl, _, rfl, a, C, rfl, T, no, .inl ⟨ha, fun dx n1 n2 => q dx n1 n2⟩⟩
  · obtain ⟨oc, od, kV, doc, pm, an, cdv, ct, osl, rfl, lk, hcd⟩ := F.ex
    exact ⟨fun s us ws X l1 l2 => match us, ws, l1, l2 with | [_], [_], _, _ => .of_eq rfl, fun r1 r2 => r1.append r2⟩
theorem scE_TooFine : FnScope ["self", "scale"] ["self", "scale"] (defScope (inClass (topS 3) 0)) := ⟨rfl, rfl, rfl, by decide +kernel, rfl, by decide +kernel, by decide +kernel⟩
theorem ini_TooFine (F : Fun K "__init__" "TooFine.__init__" (inClass (topS 3) 0) f fd) (T : OexC K C) (no : PySem.W.findIn K (.ref C) "scale" = some none) : FnOk P w K mg base CX0 1 f fd ["self", "scale"] (spErr C "scale") ∧ Binds K fd ["self", "scale"] [] ∧ KBn K fd ["self", "scale"] 1 ["scale"] (fun us ws => us ++ ws) (fun vs zs => vs ++ zs) := by
  refine ⟨F.ok scE_TooFine (fun vs H Q E h => ?_) (fun cdv A outer s H vs Q E hr h => ?_), F.binds (ps := ["self", "scale"]) fun _ _ _ _ _ _ us hl => match us, hl with | [_, _], _ => rfl, ?_⟩
  · obtain ⟨a, y, rfl, _⟩ := h
    rfl
  · obtain ⟨a, y, rfl, ha, q⟩ := h
    refine ⟨_, pss_one (ps_ost (pv 0) (pv 1)), ?_⟩
    exact ⟨_, rfl, _, rfl, a, C, rfl, T, no, .inl ⟨ha, fun dx n1 n2 => q dx n1 n2⟩⟩
  · obtain ⟨oc, od, kV, doc, pm, an, cdv, ct, osl, rfl, lk, hcd⟩ := F.ex
    exact ⟨fun s us ws X l1 l2 => match us, ws, l1, l2 with | [_], [_], _, _ => .of_eq rfl, fun r1 r2 => r1.append r2⟩
theorem scE_NoFigures : FnScope ["self"] ["self"] (defScope (inClass (topS 4) 0)) := ⟨rfl, rfl, rfl, by decide +kernel, rfl, by decide +kernel, by decide +kernel⟩
theorem ini_NoFigures (F : Fun K "__init__" "NoFigures.__init__" (inClass (topS 4) 0) f fd) : FnOk P w K mg base CX0 1 f fd ["self"] spErr0 ∧ Binds K fd ["self"] [] := by
  refine ⟨F.ok scE_NoFigures (fun vs H Q E h => ?_) (fun cdv A outer s H vs Q E hr h => ?_), F.binds (ps := ["self"]) fun _ _ _ _ _ _ us hl => match us, hl with | [_], _ => rfl⟩
  · obtain ⟨a, rfl, _⟩ := h
    rfl
  · obtain ⟨a, rfl, q⟩ := h
    exact ⟨_, pss_one ps_pass, q⟩
theorem scE_BadStep : FnScope ["self", "number"] ["self", "number"] (defScope (inClass (topS 5) 0)) := ⟨rfl, rfl, rfl, by decide +kernel, rfl, by decide +kernel, by decide +kernel⟩
theorem ini_BadStep (F : Fun K "__init__" "BadStep.__init__" (inClass (topS 5) 0) f fd) (T : OexC K C) (no : PySem.W.findIn K (.ref C) "number" = some none) : FnOk P w K mg base CX0 1 f fd ["self", "number"] (spErr C "number") ∧ Binds K fd ["self", "number"] [] ∧ KBn K fd ["self", "number"] 1 ["number"] (fun us ws => us ++ ws) (fun vs zs => vs ++ zs) := by
  refine ⟨F.ok scE_BadStep (fun vs H Q E h => ?_) (fun cdv A outer s H vs Q E hr h => ?_), F.binds (ps := ["self", "number"]) fun _ _ _ _ _ _ us hl => match us, hl with | [_, _], _ => rfl, ?_⟩
  · obtain ⟨a, y, rfl, _⟩ := h
    rfl
  · obtain ⟨a, y, rfl, ha, q⟩ := h
    refine ⟨_, pss_one (ps_ost (pv 0) (pv 1)), ?_⟩
    exact ⟨_, rfl, _, rfl, a, C, rfl, T, no, .inl ⟨ha, fun dx n1 n2 => q dx n1 n2⟩⟩
  · obtain ⟨oc, od, kV, doc, pm, an, cdv, ct, osl, rfl, lk, hcd⟩ := F.ex
    exact ⟨fun s us ws X l1 l2 => match us, ws, l1, l2 with | [_], [_], _, _ => .of_eq rfl, fun r1 r2 => r1.append r2⟩
theorem scE_WideColumn : FnScope ["self", "name"] ["self", "name"] (defScope (inClass (topS 6) 0)) := ⟨rfl, rfl, rfl, by decide +kernel, rfl, by decide +kernel, by decide +kernel⟩
theorem ini_WideColumn (F : Fun K "__init__" "WideColumn.__init__" (inClass (topS 6) 0) f fd) (T : OexC K C) (no : PySem.W.findIn K (.ref C) "name" = some none) : FnOk P w K mg base CX0 1 f fd ["self", "name"] (spErr C "name") ∧ Binds K fd ["self", "name"] [] ∧ KBn K fd ["self", "name"] 1 ["name"] (fun us ws => us ++ ws) (fun vs zs => vs ++ zs) := by
  refine ⟨F.ok scE_WideColumn (fun vs H Q E h => ?_) (fun cdv A outer s H vs Q E hr h => ?_), F.binds (ps := ["self", "name"]) fun _ _ _ _ _ _ us hl => match us, hl with | [_, _], _ => rfl, ?_⟩
  · obtain ⟨a, y, rfl, _⟩ := h
    rfl
  · obtain ⟨a, y, rfl, ha, q⟩ := h
    refine ⟨_, pss_one (ps_ost (pv 0) (pv 1)), ?_⟩
    exact ⟨_, rfl, _, rfl, a, C, rfl, T, no, .inl ⟨ha, fun dx n1 n2 => q dx n1 n2⟩⟩
  · obtain ⟨oc, od, kV, doc, pm, an, cdv, ct, osl, rfl, lk, hcd⟩ := F.ex
    exact ⟨fun s us ws X l1 l2 => match us, ws, l1, l2 with | [_], [_], _, _ => .of_eq rfl, fun r1 r2 => r1.append r2⟩
theorem scE_TooWide : FnScope ["self", "step"] ["self", "step"] (defScope (inClass (topS 7) 0)) := ⟨rfl, rfl, rfl, by decide +kernel, rfl, by decide +kernel, by decide +kernel⟩
theorem ini_TooWide (F : Fun K "__init__" "TooWide.__init__" (inClass (topS 7) 0) f fd) (T : OexC K C) (no : PySem.W.findIn K (.ref C) "step" = some none) : FnOk P w K mg base CX0 1 f fd ["self", "step"] (spErr C "step") ∧ Binds K fd ["self", "step"] [] ∧ KBn K fd ["self", "step"] 1 ["step"] (fun us ws => us ++ ws) (fun vs zs => vs ++ zs) := by
  refine ⟨F.ok scE_TooWide (fun vs H Q E h => ?_) (fun cdv A outer s H vs Q E hr h => ?_), F.binds (ps := ["self", "step"]) fun _ _ _ _ _ _ us hl => match us, hl with | [_, _], _ => rfl, ?_⟩
  · obtain ⟨a, y, rfl, _⟩ := h
    rfl
  · obtain ⟨a, y, rfl, ha, q⟩ := h
    refine ⟨_, pss_one (ps_ost (pv 0) (pv 1)), ?_⟩
    exact ⟨_, rfl, _, rfl, a, C, rfl, T, no, .inl ⟨ha, fun dx n1 n2 => q dx n1 n2⟩⟩
  · obtain ⟨oc, od, kV, doc, pm, an, cdv, ct, osl, rfl, lk, hcd⟩ := F.ex
    exact ⟨fun s us ws X l1 l2 => match us, ws, l1, l2 with | [_], [_], _, _ => .of_eq rfl, fun r1 r2 => r1.append r2⟩
theorem scE_NoColumn : FnScope ["self", "name"] ["self", "name"] (defScope (inClass (topS 8) 0)) := ⟨rfl, rfl, rfl, by decide +kernel, rfl, by decide +kernel, by decide +kernel⟩
theorem ini_NoColumn (F : Fun K "__init__" "NoColumn.__init__" (inClass (topS 8) 0) f fd) (T : OexC K C) (no : PySem.W.findIn K (.ref C) "name" = some none) : FnOk P w K mg base CX0 1 f fd ["self", "name"] (spErr C "name") ∧ Binds K fd ["self", "name"] [] ∧ KBn K fd ["self", "name"] 1 ["name"] (fun us ws => us ++ ws) (fun vs zs => vs ++ zs) := by
  refine ⟨F.ok scE_NoColumn (fun vs H Q E h => ?_) (fun cdv A outer s H vs Q E hr h => ?_), F.binds (ps := ["self", "name"]) fun _ _ _ _ _ _ us hl => match us, hl with | [_, _], _ => rfl, ?_⟩
  · obtain ⟨a, y, rfl, _⟩ := h
    rfl
  · obtain ⟨a, y, rfl, ha, q⟩ := h
    refine ⟨_, pss_one (ps_ost (pv 0) (pv 1)), ?_⟩
    exact ⟨_, rfl, _, rfl, a, C, rfl, T, no, .inl ⟨ha, fun dx n1 n2 => q dx n1 n2⟩⟩
  · obtain ⟨oc, od, kV, doc, pm, an, cdv, ct, osl, rfl, lk, hcd⟩ := F.ex
    exact ⟨fun s us ws X l1 l2 => match us, ws, l1, l2 with | [_], [_], _, _ => .of_eq rfl, fun r1 r2 => r1.append r2⟩
theorem scE_BadWorths : FnScope ["self", "name"] ["self", "name"] (defScope (inClass (topS 9) 0)) := ⟨rfl, rfl, rfl, by decide +kernel, rfl, by decide +kernel, by decide +kernel⟩
theorem ini_BadWorths (F : Fun K "__init__" "BadWorths.__init__" (inClass (topS 9) 0) f fd) (T : OexC K C) (no : PySem.W.findIn K (.ref C) "name" = some none) : FnOk P w K mg base CX0 1 f fd ["self", "name"] (spErr C "name") ∧ Binds K fd ["self", "name"] [] ∧ KBn K fd ["self", "name"] 1 ["name"] (fun us ws => us ++ ws) (fun vs zs => vs ++ zs) := by
  refine ⟨F.ok scE_BadWorths (fun vs H Q E h => ?_) (fun cdv A outer s H vs Q E hr h => ?_), F.binds (ps := ["self", "name"]) fun _ _ _ _ _ _ us hl => match us, hl with | [_, _], _ => rfl, ?_⟩
  · obtain ⟨a, y, rfl, _⟩ := h
    rfl
  · obtain ⟨a, y, rfl, ha, q⟩ := h
    refine ⟨_, pss_one (ps_ost (pv 0) (pv 1)), ?_⟩
    exact ⟨_, rfl, _, rfl, a, C, rfl, T, no, .inl ⟨ha, fun dx n1 n2 => q dx n1 n2⟩⟩
  · obtain ⟨oc, od, kV, doc, pm, an, cdv, ct, osl, rfl, lk, hcd⟩ := F.ex
    exact ⟨fun s us ws X l1 l2 => match us, ws, l1, l2 with | [_], [_], _, _ => .of_eq rfl, fun r1 r2 => r1.append r2⟩
theorem scE_NotOnce : FnScope ["self", "name"] ["self", "name"] (defScope (inClass (topS 10) 0)) := ⟨rfl, rfl, rfl, by decide +kernel, rfl, by decide +kernel, by decide +kernel⟩
theorem ini_NotOnce (F : Fun K "__init__" "NotOnce.__init__" (inClass (topS 10) 0) f fd) (T : OexC K C) (no : PySem.W.findIn K (.ref C) "name" = some none) : FnOk P w K mg base CX0 1 f fd ["self", "name"] (spErr C "name") ∧ Binds K fd ["self", "name"] [] ∧ KBn K fd ["self", "name"] 1 ["name"] (fun us ws => us ++ ws) (fun vs zs => vs ++ zs) := by
  refine ⟨F.ok scE_NotOnce (fun vs H Q E h => ?_) (fun cdv A outer s H vs Q E hr h => ?_), F.binds (ps := ["self", "name"]) fun _ _ _ _ _ _ us hl => match us, hl with | [_, _], _ => rfl, ?_⟩
  · obtain ⟨a, y, rfl, _⟩ := h
    rfl
  · obtain ⟨a, y, rfl, ha, q⟩ := h
    refine ⟨_, pss_one (ps_ost (pv 0) (pv 1)), ?_⟩
    exact ⟨_, rfl, _, rfl, a, C, rfl, T, no, .inl ⟨ha, fun dx n1 n2 => q dx n1 n2⟩⟩
  · obtain ⟨oc, od, kV, doc, pm, an, cdv, ct, osl, rfl, lk, hcd⟩ := F.ex
    exact ⟨fun s us ws X l1 l2 => match us, ws, l1, l2 with | [_], [_], _, _ => .of_eq rfl, fun r1 r2 => r1.append r2⟩
theorem scE_NoDivisor : FnScope ["self"] ["self"] (defScope (inClass (topS 11) 0)) := ⟨rfl, rfl, rfl, by decide +kernel, rfl, by decide +kernel, by decide +kernel⟩
theorem ini_NoDivisor (F : Fun K "__init__" "NoDivisor.__init__" (inClass (topS 11) 0) f fd) : FnOk P w K mg base CX0 1 f fd ["self"] spErr0 ∧ Binds K fd ["self"] [] := by
  refine ⟨F.ok scE_NoDivisor (fun vs H Q E h => ?_) (fun cdv A outer s H vs Q E hr h => ?_), F.binds (ps := ["self"]) fun _ _ _ _ _ _ us hl => match us, hl with | [_], _ => rfl⟩
  · obtain ⟨a, rfl, _⟩ := h
    rfl
  · obtain ⟨a, rfl, q⟩ := h
    exact ⟨_, pss_one ps_pass, q⟩
theorem scE_Overflow : FnScope ["self", "step", "worth"] ["self", "step", "worth"] (defScope (inClass (topS 12) 0)) := ⟨rfl, rfl, rfl, by decide +kernel, rfl, by decide +kernel, by decide +kernel⟩
theorem ini_Overflow (F : Fun K "__init__" "Overflow.__init__" (inClass (topS 12) 0) f fd) (T : OexC K C) (no : PySem.W.findIn K (.ref C) "step" = some none) (no2 : PySem.W.findIn K (.ref C) "worth" = some none) : FnOk P w K mg base CX0 1 f fd ["self", "step", "worth"] (spErr2 C "step" "worth") ∧ Binds K fd ["self", "step", "worth"] [] ∧
    KBn K fd ["self", "step", "worth"] 2 ["worth"] (fun us ws => us ++ ws) (fun vs zs => vs ++ zs) ∧ KBn K fd ["self", "step", "worth"] 1 ["worth", "step"] (fun us ws => us ++ ws.reverse) (fun vs zs => vs ++ zs.reverse) := by
  refine ⟨F.ok scE_Overflow (fun vs H Q E h => ?_) (fun cdv A outer s H vs Q E hr h => ?_), F.binds (ps := ["self", "step", "worth"]) fun _ _ _ _ _ _ us hl => match us, hl with | [_, _, _], _ => rfl, ?_, ?_⟩
  · obtain ⟨a, y, z, rfl, _⟩ := h
    rfl
  · obtain ⟨a, y, z, rfl, ha, q⟩ := h
    refine ⟨_, pss_cons (ps_ost (pv 0) (pv 1)) (pss_one (ps_ost (pv 0) (pv 2))), ?_⟩
    refine ⟨_, rfl, _, rfl, a, C, rfl, T, no, .inl ⟨ha, fun dx n1 n2 => ?_⟩⟩
    refine ⟨_, rfl, _, rfl, a, C, rfl, T, no2, .inr ⟨dx, _, upd_same, by rw [upd_ne n2]; exact upd_same, by show 1 ≤ 900; decide, ?_⟩⟩
    refine q dx _ n1 n2 (fun b ba bd => ?_) ?_ upd_same
    · rw [upd_ne bd, upd_ne ba, upd_ne bd]
    · rw [upd_ne (Ne.symm n2)]
      exact upd_same
  · obtain ⟨oc, od, kV, doc, pm, an, cdv, ct, osl, rfl, lk, hcd⟩ := F.ex
    exact ⟨fun s us ws X l1 l2 => match us, ws, l1, l2 with | [_, _], [_], _, _ => .of_eq rfl, fun r1 r2 => r1.append r2⟩
  · obtain ⟨oc, od, kV, doc, pm, an, cdv, ct, osl, rfl, lk, hcd⟩ := F.ex
    exact ⟨fun s us ws X l1 l2 => match us, ws, l1, l2 with | [_], [_, _], _, _ => .of_eq rfl, fun r1 r2 => r1.append (vals_rev r2)⟩
theorem scE_NotPlain : FnScope ["self", "step"] ["self", "step"] (defScope (inClass (topS 13) 0)) := ⟨rfl, rfl, rfl, by decide +kernel, rfl, by decide +kernel, by decide +kernel⟩
theorem ini_NotPlain (F : Fun K "__init__" "NotPlain.__init__" (inClass (topS 13) 0) f fd) (T : OexC K C) (no : PySem.W.findIn K (.ref C) "step" = some none) : FnOk P w K mg base CX0 1 f fd ["self", "step"] (spErr C "step") ∧ Binds K fd ["self", "step"] [] ∧ KBn K fd ["self", "step"] 1 ["step"] (fun us ws => us ++ ws) (fun vs zs => vs ++ zs) := by
  refine ⟨F.ok scE_NotPlain (fun vs H Q E h => ?_) (fun cdv A outer s H vs Q E hr h => ?_), F.binds (ps := ["self", "step"]) fun _ _ _ _ _ _ us hl => match us, hl with | [_, _], _ => rfl, ?_⟩
  · obtain ⟨a, y, rfl, _⟩ := h
    rfl
  · obtain ⟨a, y, rfl, ha, q⟩ := h
    refine ⟨_, pss_one (ps_ost (pv 0) (pv 1)), ?_⟩
    exact ⟨_, rfl, _, rfl, a, C, rfl, T, no, .inl ⟨ha, fun dx n1 n2 => q dx n1 n2⟩⟩
  · obtain ⟨oc, od, kV, doc, pm, an, cdv, ct, osl, rfl, lk, hcd⟩ := F.ex
    exact ⟨fun s us ws X l1 l2 => match us, ws, l1, l2 with | [_], [_], _, _ => .of_eq rfl, fun r1 r2 => r1.append r2⟩
theorem scE_Divides : FnScope ["self", "step"] ["self", "step"] (defScope (inClass (topS 14) 0)) := ⟨rfl, rfl, rfl, by decide +kernel, rfl, by decide +kernel, by decide +kernel⟩
theorem ini_Divides (F : Fun K "__init__" "Divides.__init__" (inClass (topS 14) 0) f fd) (T : OexC K C) (no : PySem.W.findIn K (.ref C) "step" = some none) : FnOk P w K mg base CX0 1 f fd ["self", "step"] (spErr C "step") ∧ Binds K fd ["self", "step"] [] ∧ KBn K fd ["self", "step"] 1 ["step"] (fun us ws => us ++ ws) (fun vs zs => vs ++ zs) := by
  refine ⟨F.ok scE_Divides (fun vs H Q E h => ?_) (fun cdv A outer s H vs Q E hr h => ?_), F.binds (ps := ["self", "step"]) fun _ _ _ _ _ _ us hl => match us, hl with | [_, _], _ => rfl, ?_⟩
  · obtain ⟨a, y, rfl, _⟩ := h
    rfl
  · obtain ⟨a, y, rfl, ha, q⟩ := h
    refine ⟨_, pss_one (ps_ost (pv 0) (pv 1)), ?_⟩
    exact ⟨_, rfl, _, rfl, a, C, rfl, T, no, .inl ⟨ha, fun dx n1 n2 => q dx n1 n2⟩⟩
  · obtain ⟨oc, od, kV, doc, pm, an, cdv, ct, osl, rfl, lk, hcd⟩ := F.ex
    exact ⟨fun s us ws X l1 l2 => match us, ws, l1, l2 with | [_], [_], _, _ => .of_eq rfl, fun r1 r2 => r1.append r2⟩
theorem scE_NotSteady : FnScope ["self", "step"] ["self", "step"] (defScope (inClass (topS 15) 0)) := ⟨rfl, rfl, rfl, by decide +kernel, rfl, by decide +kernel, by decide +kernel⟩
theorem ini_NotSteady (F : Fun K "__init__" "NotSteady.__init__" (inClass (topS 15) 0) f fd) (T : OexC K C) (no : PySem.W.findIn K (.ref C) "step" = some none) : FnOk P w K mg base CX0 1 f fd ["self", "step"] (spErr C "step") ∧ Binds K fd ["self", "step"] [] ∧ KBn K fd ["self", "step"] 1 ["step"] (fun us ws => us ++ ws) (fun vs zs => vs ++ zs) := by
  refine ⟨F.ok scE_NotSteady (fun vs H Q E h => ?_) (fun cdv A outer s H vs Q E hr h => ?_), F.binds (ps := ["self", "step"]) fun _ _ _ _ _ _ us hl => match us, hl with | [_, _], _ => rfl, ?_⟩
  · obtain ⟨a, y, rfl, _⟩ := h
    rfl
  · obtain ⟨a, y, rfl, ha, q⟩ := h
    refine ⟨_, pss_one (ps_ost (pv 0) (pv 1)), ?_⟩
    exact ⟨_, rfl, _, rfl, a, C, rfl, T, no, .inl ⟨ha, fun dx n1 n2 => q dx n1 n2⟩⟩
  · obtain ⟨oc, od, kV, doc, pm, an, cdv, ct, osl, rfl, lk, hcd⟩ := F.ex
    exact ⟨fun s us ws X l1 l2 => match us, ws, l1, l2 with | [_], [_], _, _ => .of_eq rfl, fun r1 r2 => r1.append r2⟩
theorem scE_NotASum : FnScope ["self", "step"] ["self", "step"] (defScope (inClass (topS 16) 0)) := ⟨rfl, rfl, rfl, by decide +kernel, rfl, by decide +kernel, by decide +kernel⟩
theorem ini_NotASum (F : Fun K "__init__" "NotASum.__init__" (inClass (topS 16) 0) f fd) (T : OexC K C) (no : PySem.W.findIn K (.ref C) "step" = some none) : FnOk P w K mg base CX0 1 f fd ["self", "step"] (spErr C "step") ∧ Binds K fd ["self", "step"] [] ∧ KBn K fd ["self", "step"] 1 ["step"] (fun us ws => us ++ ws) (fun vs zs => vs ++ zs) := by
  refine ⟨F.ok scE_NotASum (fun vs H Q E h => ?_) (fun cdv A outer s H vs Q E hr h => ?_), F.binds (ps := ["self", "step"]) fun _ _ _ _ _ _ us hl => match us, hl with | [_, _], _ => rfl, ?_⟩
  · obtain ⟨a, y, rfl, _⟩ := h
    rfl
  · obtain ⟨a, y, rfl, ha, q⟩ := h
    refine ⟨_, pss_one (ps_ost (pv 0) (pv 1)), ?_⟩
    exact ⟨_, rfl, _, rfl, a, C, rfl, T, no, .inl ⟨ha, fun dx n1 n2 => q dx n1 n2⟩⟩
  · obtain ⟨oc, od, kV, doc, pm, an, cdv, ct, osl, rfl, lk, hcd⟩ := F.ex
    exact ⟨fun s us ws X l1 l2 => match us, ws, l1, l2 with | [_], [_], _, _ => .of_eq rfl, fun r1 r2 => r1.append r2⟩
theorem scE_NotLinear : FnScope ["self", "step"] ["self", "step"] (defScope (inClass (topS 17) 0)) := ⟨rfl, rfl, rfl, by decide +kernel, rfl, by decide +kernel, by decide +kernel⟩
theorem ini_NotLinear (F : Fun K "__init__" "NotLinear.__init__" (inClass (topS 17) 0) f fd) (T : OexC K C) (no : PySem.W.findIn K (.ref C) "step" = some none) : FnOk P w K mg base CX0 1 f fd ["self", "step"] (spErr C "step") ∧ Binds K fd ["self", "step"] [] ∧ KBn K fd ["self", "step"] 1 ["step"] (fun us ws => us ++ ws) (fun vs zs => vs ++ zs) := by
  refine ⟨F.ok scE_NotLinear (fun vs H Q E h => ?_) (fun cdv A outer s H vs Q E hr h => ?_), F.binds (ps := ["self", "step"]) fun _ _ _ _ _ _ us hl => match us, hl with | [_, _], _ => rfl, ?_⟩
  · obtain ⟨a, y, rfl, _⟩ := h
    rfl
  · obtain ⟨a, y, rfl, ha, q⟩ := h
    refine ⟨_, pss_one (ps_ost (pv 0) (pv 1)), ?_⟩
    exact ⟨_, rfl, _, rfl, a, C, rfl, T, no, .inl ⟨ha, fun dx n1 n2 => q dx n1 n2⟩⟩
  · obtain ⟨oc, od, kV, doc, pm, an, cdv, ct, osl, rfl, lk, hcd⟩ := F.ex
    exact ⟨fun s us ws X l1 l2 => match us, ws, l1, l2 with | [_], [_], _, _ => .of_eq rfl, fun r1 r2 => r1.append r2⟩
theorem scE_CanOver : FnScope ["self", "step", "worths"] ["self", "step", "worths"] (defScope (inClass (topS 18) 0)) := ⟨rfl, rfl, rfl, by decide +kernel, rfl, by decide +kernel, by decide +kernel⟩
theorem ini_CanOver (F : Fun K "__init__" "CanOver.__init__" (inClass (topS 18) 0) f fd) (T : OexC K C) (no : PySem.W.findIn K (.ref C) "step" = some none) (no2 : PySem.W.findIn K (.ref C) "worths" = some none) : FnOk P w K mg base CX0 1 f fd ["self", "step", "worths"] (spErr2 C "step" "worths") ∧ Binds K fd ["self", "step", "worths"] [] ∧
    KBn K fd ["self", "step", "worths"] 2 ["worths"] (fun us ws => us ++ ws) (fun vs zs => vs ++ zs) ∧ KBn K fd ["self", "step", "worths"] 1 ["worths", "step"] (fun us ws => us ++ ws.reverse) (fun vs zs => vs ++ zs.reverse) := by
  refine ⟨F.ok scE_CanOver (fun vs H Q E h => ?_) (fun cdv A outer s H vs Q E hr h => ?_), F.binds (ps := ["self", "step", "worths"]) fun _ _ _ _ _ _ us hl => match us, hl with | [_, _, _], _ => rfl, ?_, ?_⟩
  · obtain ⟨a, y, z, rfl, _⟩ := h
    rfl
  · obtain ⟨a, y, z, rfl, ha, q⟩ := h
    refine ⟨_, pss_cons (ps_ost (pv 0) (pv 1)) (pss_one (ps_ost (pv 0) (pv 2))), ?_⟩
    refine ⟨_, rfl, _, rfl, a, C, rfl, T, no, .inl ⟨ha, fun dx n1 n2 => ?_⟩⟩
    refine ⟨_, rfl, _, rfl, a, C, rfl, T, no2, .inr ⟨dx, _, upd_same, by rw [upd_ne n2]; exact upd_same, by show 1 ≤ 900; decide, ?_⟩⟩
    refine q dx _ n1 n2 (fun b ba bd => ?_) ?_ upd_same
    · rw [upd_ne bd, upd_ne ba, upd_ne bd]
    · rw [upd_ne (Ne.symm n2)]
      exact upd_same
  · obtain ⟨oc, od, kV, doc, pm, an, cdv, ct, osl, rfl, lk, hcd⟩ := F.ex
    exact ⟨fun s us ws X l1 l2 => match us, ws, l1, l2 with | [_, _], [_], _, _ => .of_eq rfl, fun r1 r2 => r1.append r2⟩
  · obtain ⟨oc, od, kV, doc, pm, an, cdv, ct, osl, rfl, lk, hcd⟩ := F.ex
    exact ⟨fun s us ws X l1 l2 => match us, ws, l1, l2 with | [_], [_, _], _, _ => .of_eq rfl, fun r1 r2 => r1.append (vals_rev r2)⟩
theorem scE_ColumnsDiffer : FnScope ["self", "name"] ["self", "name"] (defScope (inClass (topS 19) 0)) := ⟨rfl, rfl, rfl, by decide +kernel, rfl, by decide +kernel, by decide +kernel⟩
theorem ini_ColumnsDiffer (F : Fun K "__init__" "ColumnsDiffer.__init__" (inClass (topS 19) 0) f fd) (T : OexC K C) (no : PySem.W.findIn K (.ref C) "name" = some none) : FnOk P w K mg base CX0 1 f fd ["self", "name"] (spErr C "name") ∧ Binds K fd ["self", "name"] [] ∧ KBn K fd ["self", "name"] 1 ["name"] (fun us ws => us ++ ws) (fun vs zs => vs ++ zs) := by
  refine ⟨F.ok scE_ColumnsDiffer (fun vs H Q E h => ?_) (fun cdv A outer s H vs Q E hr h => ?_), F.binds (ps := ["self", "name"]) fun _ _ _ _ _ _ us hl => match us, hl with | [_, _], _ => rfl, ?_⟩
  · obtain ⟨a, y, rfl, _⟩ := h
    rfl
  · obtain ⟨a, y, rfl, ha, q⟩ := h
    refine ⟨_, pss_one (ps_ost (pv 0) (pv 1)), ?_⟩
    exact ⟨_, rfl, _, rfl, a, C, rfl, T, no, .inl ⟨ha, fun dx n1 n2 => q dx n1 n2⟩⟩
  · obtain ⟨oc, od, kV, doc, pm, an, cdv, ct, osl, rfl, lk, hcd⟩ := F.ex
    exact ⟨fun s us ws X l1 l2 => match us, ws, l1, l2 with | [_], [_], _, _ => .of_eq rfl, fun r1 r2 => r1.append r2⟩
theorem scE_BadEntry : FnScope ["self", "index"] ["self", "index"] (defScope (inClass (topS 20) 0)) := ⟨rfl, rfl, rfl, by decide +kernel, rfl, by decide +kernel, by decide +kernel⟩
theorem ini_BadEntry (F : Fun K "__init__" "BadEntry.__init__" (inClass (topS 20) 0) f fd) (T : OexC K C) (no : PySem.W.findIn K (.ref C) "index" = some none) : FnOk P w K mg base CX0 1 f fd ["self", "index"] (spErr C "index") ∧ Binds K fd ["self", "index"] [] ∧ KBn K fd ["self", "index"] 1 ["index"] (fun us ws => us ++ ws) (fun vs zs => vs ++ zs) := by
  refine ⟨F.ok scE_BadEntry (fun vs H Q E h => ?_) (fun cdv A outer s H vs Q E hr h => ?_), F.binds (ps := ["self", "index"]) fun _ _ _ _ _ _ us hl => match us, hl with | [_, _], _ => rfl, ?_⟩
  · obtain ⟨a, y, rfl, _⟩ := h
    rfl
  · obtain ⟨a, y, rfl, ha, q⟩ := h
    refine ⟨_, pss_one (ps_ost (pv 0) (pv 1)), ?_⟩
    exact ⟨_, rfl, _, rfl, a, C, rfl, T, no, .inl ⟨ha, fun dx n1 n2 => q dx n1 n2⟩⟩
  · obtain ⟨oc, od, kV, doc, pm, an, cdv, ct, osl, rfl, lk, hcd⟩ := F.ex
    exact ⟨fun s us ws X l1 l2 => match us, ws, l1, l2 with | [_], [_], _, _ => .of_eq rfl, fun r1 r2 => r1.append r2⟩
theorem scE_Gaps : FnScope ["self", "way"] ["self", "way"] (defScope (inClass (topS 21) 0)) := ⟨rfl, rfl, rfl, by decide +kernel, rfl, by decide +kernel, by decide +kernel⟩
theorem ini_Gaps (F : Fun K "__init__" "Gaps.__init__" (inClass (topS 21) 0) f fd) (T : OexC K C) (no : PySem.W.findIn K (.ref C) "way" = some none) : FnOk P w K mg base CX0 1 f fd ["self", "way"] (spErr C "way") ∧ Binds K fd ["self", "way"] [] ∧ KBn K fd ["self", "way"] 1 ["way"] (fun us ws => us ++ ws) (fun vs zs => vs ++ zs) := by
  refine ⟨F.ok scE_Gaps (fun vs H Q E h => ?_) (fun cdv A outer s H vs Q E hr h => ?_), F.binds (ps := ["self", "way"]) fun _ _ _ _ _ _ us hl => match us, hl with | [_, _], _ => rfl, ?_⟩
  · obtain ⟨a, y, rfl, _⟩ := h
    rfl
  · obtain ⟨a, y, rfl, ha, q⟩ := h
    refine ⟨_, pss_one (ps_ost (pv 0) (pv 1)), ?_⟩
    exact ⟨_, rfl, _, rfl, a, C, rfl, T, no, .inl ⟨ha, fun dx n1 n2 => q dx n1 n2⟩⟩
  · obtain ⟨oc, od, kV, doc, pm, an, cdv, ct, osl, rfl, lk, hcd⟩ := F.ex
    exact ⟨fun s us ws X l1 l2 => match us, ws, l1, l2 with | [_], [_], _, _ => .of_eq rfl, fun r1 r2 => r1.append r2⟩
theorem scE_BadColumn : FnScope ["self", "column"] ["self", "column"] (defScope (inClass (topS 22) 0)) := ⟨rfl, rfl, rfl, by decide +kernel, rfl, by decide +kernel, by decide +kernel⟩
theorem ini_BadColumn (F : Fun K "__init__" "BadColumn.__init__" (inClass (topS 22) 0) f fd) (T : OexC K C) (no : PySem.W.findIn K (.ref C) "column" = some none) : FnOk P w K mg base CX0 1 f fd ["self", "column"] (spErr C "column") ∧ Binds K fd ["self", "column"] [] ∧ KBn K fd ["self", "column"] 1 ["column"] (fun us ws => us ++ ws) (fun vs zs => vs ++ zs) := by
  refine ⟨F.ok scE_BadColumn (fun vs H Q E h => ?_) (fun cdv A outer s H vs Q E hr h => ?_), F.binds (ps := ["self", "column"]) fun _ _ _ _ _ _ us hl => match us, hl with | [_, _], _ => rfl, ?_⟩
  · obtain ⟨a, y, rfl, _⟩ := h
    rfl
  · obtain ⟨a, y, rfl, ha, q⟩ := h
    refine ⟨_, pss_one (ps_ost (pv 0) (pv 1)), ?_⟩
    exact ⟨_, rfl, _, rfl, a, C, rfl, T, no, .inl ⟨ha, fun dx n1 n2 => q dx n1 n2⟩⟩
  · obtain ⟨oc, od, kV, doc, pm, an, cdv, ct, osl, rfl, lk, hcd⟩ := F.ex
    exact ⟨fun s us ws X l1 l2 => match us, ws, l1, l2 with | [_], [_], _, _ => .of_eq rfl, fun r1 r2 => r1.append r2⟩
theorem scE_BadText : FnScope ["self", "value"] ["self", "value"] (defScope (inClass (topS 23) 0)) := ⟨rfl, rfl, rfl, by decide +kernel, rfl, by decide +kernel, by decide +kernel⟩
theorem ini_BadText (F : Fun K "__init__" "BadText.__init__" (inClass (topS 23) 0) f fd) (T : OexC K C) (no : PySem.W.findIn K (.ref C) "value" = some none) : FnOk P w K mg base CX0 1 f fd ["self", "value"] (spErr C "value") ∧ Binds K fd ["self", "value"] [] ∧ KBn K fd ["self", "value"] 1 ["value"] (fun us ws => us ++ ws) (fun vs zs => vs ++ zs) := by
  refine ⟨F.ok scE_BadText (fun vs H Q E h => ?_) (fun cdv A outer s H vs Q E hr h => ?_), F.binds (ps := ["self", "value"]) fun _ _ _ _ _ _ us hl => match us, hl with | [_, _], _ => rfl, ?_⟩
  · obtain ⟨a, y, rfl, _⟩ := h
    rfl
  · obtain ⟨a, y, rfl, ha, q⟩ := h
    refine ⟨_, pss_one (ps_ost (pv 0) (pv 1)), ?_⟩
    exact ⟨_, rfl, _, rfl, a, C, rfl, T, no, .inl ⟨ha, fun dx n1 n2 => q dx n1 n2⟩⟩
  · obtain ⟨oc, od, kV, doc, pm, an, cdv, ct, osl, rfl, lk, hcd⟩ := F.ex
    exact ⟨fun s us ws X l1 l2 => match us, ws, l1, l2 with | [_], [_], _, _ => .of_eq rfl, fun r1 r2 => r1.append r2⟩
theorem scE_NotAFormula : FnScope ["self", "at"] ["self", "at"] (defScope (inClass (topS 24) 0)) := ⟨rfl, rfl, rfl, by decide +kernel, rfl, by decide +kernel, by decide +kernel⟩
theorem ini_NotAFormula (F : Fun K "__init__" "NotAFormula.__init__" (inClass (topS 24) 0) f fd) (T : OexC K C) (no : PySem.W.findIn K (.ref C) "at" = some none) : FnOk P w K mg base CX0 1 f fd ["self", "at"] (spErr C "at") ∧ Binds K fd ["self", "at"] [] ∧ KBn K fd ["self", "at"] 1 ["at"] (fun us ws => us ++ ws) (fun vs zs => vs ++ zs) := by
  refine ⟨F.ok scE_NotAFormula (fun vs H Q E h => ?_) (fun cdv A outer s H vs Q E hr h => ?_), F.binds (ps := ["self", "at"]) fun _ _ _ _ _ _ us hl => match us, hl with | [_, _], _ => rfl, ?_⟩
  · obtain ⟨a, y, rfl, _⟩ := h
    rfl
  · obtain ⟨a, y, rfl, ha, q⟩ := h
    refine ⟨_, pss_one (ps_ost (pv 0) (pv 1)), ?_⟩
    exact ⟨_, rfl, _, rfl, a, C, rfl, T, no, .inl ⟨ha, fun dx n1 n2 => q dx n1 n2⟩⟩
  · obtain ⟨oc, od, kV, doc, pm, an, cdv, ct, osl, rfl, lk, hcd⟩ := F.ex
    exact ⟨fun s us ws X l1 l2 => match us, ws, l1, l2 with | [_], [_], _, _ => .of_eq rfl, fun r1 r2 => r1.append r2⟩
theorem scE_Taken : FnScope ["self", "name"] ["self", "name"] (defScope (inClass (topS 25) 0)) := ⟨rfl, rfl, rfl, by decide +kernel, rfl, by decide +kernel, by decide +kernel⟩
theorem ini_Taken (F : Fun K "__init__" "Taken.__init__" (inClass (topS 25) 0) f fd) (T : OexC K C) (no : PySem.W.findIn K (.ref C) "name" = some none) : FnOk P w K mg base CX0 1 f fd ["self", "name"] (spErr C "name") ∧ Binds K fd ["self", "name"] [] ∧ KBn K fd ["self", "name"] 1 ["name"] (fun us ws => us ++ ws) (fun vs zs => vs ++ zs) := by
  refine ⟨F.ok scE_Taken (fun vs H Q E h => ?_) (fun cdv A outer s H vs Q E hr h => ?_), F.binds (ps := ["self", "name"]) fun _ _ _ _ _ _ us hl => match us, hl with | [_, _], _ => rfl, ?_⟩
  · obtain ⟨a, y, rfl, _⟩ := h
    rfl
  · obtain ⟨a, y, rfl, ha, q⟩ := h
    refine ⟨_, pss_one (ps_ost (pv 0) (pv 1)), ?_⟩
    exact ⟨_, rfl, _, rfl, a, C, rfl, T, no, .inl ⟨ha, fun dx n1 n2 => q dx n1 n2⟩⟩
  · obtain ⟨oc, od, kV, doc, pm, an, cdv, ct, osl, rfl, lk, hcd⟩ := F.ex
    exact ⟨fun s us ws X l1 l2 => match us, ws, l1, l2 with | [_], [_], _, _ => .of_eq rfl, fun r1 r2 => r1.append r2⟩
theorem scE_Unknown : FnScope ["self", "name"] ["self", "name"] (defScope (inClass (topS 26) 0)) := ⟨rfl, rfl, rfl, by decide +kernel, rfl, by decide +kernel, by decide +kernel⟩
theorem ini_Unknown (F : Fun K "__init__" "Unknown.__init__" (inClass (topS 26) 0) f fd) (T : OexC K C) (no : PySem.W.findIn K (.ref C) "name" = some none) : FnOk P w K mg base CX0 1 f fd ["self", "name"] (spErr C "name") ∧ Binds K fd ["self", "name"] [] ∧ KBn K fd ["self", "name"] 1 ["name"] (fun us ws => us ++ ws) (fun vs zs => vs ++ zs) := by
  refine ⟨F.ok scE_Unknown (fun vs H Q E h => ?_) (fun cdv A outer s H vs Q E hr h => ?_), F.binds (ps := ["self", "name"]) fun _ _ _ _ _ _ us hl => match us, hl with | [_, _], _ => rfl, ?_⟩
  · obtain ⟨a, y, rfl, _⟩ := h
    rfl
  · obtain ⟨a, y, rfl, ha, q⟩ := h
    refine ⟨_, pss_one (ps_ost (pv 0) (pv 1)), ?_⟩
    exact ⟨_, rfl, _, rfl, a, C, rfl, T, no, .inl ⟨ha, fun dx n1 n2 => q dx n1 n2⟩⟩
  · obtain ⟨oc, od, kV, doc, pm, an, cdv, ct, osl, rfl, lk, hcd⟩ := F.ex
    exact ⟨fun s us ws X l1 l2 => match us, ws, l1, l2 with | [_], [_], _, _ => .of_eq rfl, fun r1 r2 => r1.append r2⟩
theorem scE_InUse : FnScope ["self", "name"] ["self", "name"] (defScope (inClass (topS 27) 0)) := ⟨rfl, rfl, rfl, by decide +kernel, rfl, by decide +kernel, by decide +kernel⟩
theorem ini_InUse (F : Fun K "__init__" "InUse.__init__" (inClass (topS 27) 0) f fd) (T : OexC K C) (no : PySem.W.findIn K (.ref C) "name" = some none) : FnOk P w K mg base CX0 1 f fd ["self", "name"] (spErr C "name") ∧ Binds K fd ["self", "name"] [] ∧ KBn K fd ["self", "name"] 1 ["name"] (fun us ws => us ++ ws) (fun vs zs => vs ++ zs) := by
  refine ⟨F.ok scE_InUse (fun vs H Q E h => ?_) (fun cdv A outer s H vs Q E hr h => ?_), F.binds (ps := ["self", "name"]) fun _ _ _ _ _ _ us hl => match us, hl with | [_, _], _ => rfl, ?_⟩
  · obtain ⟨a, y, rfl, _⟩ := h
    rfl
  · obtain ⟨a, y, rfl, ha, q⟩ := h
    refine ⟨_, pss_one (ps_ost (pv 0) (pv 1)), ?_⟩
    exact ⟨_, rfl, _, rfl, a, C, rfl, T, no, .inl ⟨ha, fun dx n1 n2 => q dx n1 n2⟩⟩
  · obtain ⟨oc, od, kV, doc, pm, an, cdv, ct, osl, rfl, lk, hcd⟩ := F.ex
    exact ⟨fun s us ws X l1 l2 => match us, ws, l1, l2 with | [_], [_], _, _ => .of_eq rfl, fun r1 r2 => r1.append r2⟩
theorem scE_BadPromise : FnScope ["self", "told"] ["self", "told"] (defScope (inClass (topS 28) 0)) := ⟨rfl, rfl, rfl, by decide +kernel, rfl, by decide +kernel, by decide +kernel⟩
theorem ini_BadPromise (F : Fun K "__init__" "BadPromise.__init__" (inClass (topS 28) 0) f fd) (T : OexC K C) (no : PySem.W.findIn K (.ref C) "told" = some none) : FnOk P w K mg base CX0 1 f fd ["self", "told"] (spErr C "told") ∧ Binds K fd ["self", "told"] [] ∧ KBn K fd ["self", "told"] 1 ["told"] (fun us ws => us ++ ws) (fun vs zs => vs ++ zs) := by
  refine ⟨F.ok scE_BadPromise (fun vs H Q E h => ?_) (fun cdv A outer s H vs Q E hr h => ?_), F.binds (ps := ["self", "told"]) fun _ _ _ _ _ _ us hl => match us, hl with | [_, _], _ => rfl, ?_⟩
  · obtain ⟨a, y, rfl, _⟩ := h
    rfl
  · obtain ⟨a, y, rfl, ha, q⟩ := h
    refine ⟨_, pss_one (ps_ost (pv 0) (pv 1)), ?_⟩
    exact ⟨_, rfl, _, rfl, a, C, rfl, T, no, .inl ⟨ha, fun dx n1 n2 => q dx n1 n2⟩⟩
  · obtain ⟨oc, od, kV, doc, pm, an, cdv, ct, osl, rfl, lk, hcd⟩ := F.ex
    exact ⟨fun s us ws X l1 l2 => match us, ws, l1, l2 with | [_], [_], _, _ => .of_eq rfl, fun r1 r2 => r1.append r2⟩
theorem scE_Broken : FnScope ["self", "told", "worths"] ["self", "told", "worths"] (defScope (inClass (topS 29) 0)) := ⟨rfl, rfl, rfl, by decide +kernel, rfl, by decide +kernel, by decide +kernel⟩
theorem ini_Broken (F : Fun K "__init__" "Broken.__init__" (inClass (topS 29) 0) f fd) (T : OexC K C) (no : PySem.W.findIn K (.ref C) "told" = some none) (no2 : PySem.W.findIn K (.ref C) "worths" = some none) : FnOk P w K mg base CX0 1 f fd ["self", "told", "worths"] (spErr2 C "told" "worths") ∧ Binds K fd ["self", "told", "worths"] [] ∧
    KBn K fd ["self", "told", "worths"] 2 ["worths"] (fun us ws => us ++ ws) (fun vs zs => vs ++ zs) ∧ KBn K fd ["self", "told", "worths"] 1 ["worths", "told"] (fun us ws => us ++ ws.reverse) (fun vs zs => vs ++ zs.reverse) := by
  refine ⟨F.ok scE_Broken (fun vs H Q E h => ?_) (fun cdv A outer s H vs Q E hr h => ?_), F.binds (ps := ["self", "told", "worths"]) fun _ _ _ _ _ _ us hl => match us, hl with | [_, _, _], _ => rfl, ?_, ?_⟩
  · obtain ⟨a, y, z, rfl, _⟩ := h
    rfl
  · obtain ⟨a, y, z, rfl, ha, q⟩ := h
    refine ⟨_, pss_cons (ps_ost (pv 0) (pv 1)) (pss_one (ps_ost (pv 0) (pv 2))), ?_⟩
    refine ⟨_, rfl, _, rfl, a, C, rfl, T, no, .inl ⟨ha, fun dx n1 n2 => ?_⟩⟩
    refine ⟨_, rfl, _, rfl, a, C, rfl, T, no2, .inr ⟨dx, _, upd_same, by rw [upd_ne n2]; exact upd_same, by show 1 ≤ 900; decide, ?_⟩⟩
    refine q dx _ n1 n2 (fun b ba bd => ?_) ?_ upd_same
    · rw [upd_ne bd, upd_ne ba, upd_ne bd]
    · rw [upd_ne (Ne.symm n2)]
      exact upd_same
  · obtain ⟨oc, od, kV, doc, pm, an, cdv, ct, osl, rfl, lk, hcd⟩ := F.ex
    exact ⟨fun s us ws X l1 l2 => match us, ws, l1, l2 with | [_, _], [_], _, _ => .of_eq rfl, fun r1 r2 => r1.append r2⟩
  · obtain ⟨oc, od, kV, doc, pm, an, cdv, ct, osl, rfl, lk, hcd⟩ := F.ex
    exact ⟨fun s us ws X l1 l2 => match us, ws, l1, l2 with | [_], [_, _], _, _ => .of_eq rfl, fun r1 r2 => r1.append (vals_rev r2)⟩
end
end K00

set_option maxHeartbeats 0
/-! k00: what the top leaves; the end. -/
namespace K00
open PySem PySem.Spec PyProof.Rows L2 LamX NdefX Own
def dfn (x : Str) (i : Nat) : He.DefD := ⟨(x, none), x, x, defArgs (topS i), defBody (topS i), defScope (topS i), [], []⟩
def dMk (x m : Str) (i j : Nat) (pd : List He.Dv) (kd : List (Str × He.Dv)) : He.DefD := ⟨(x, some m), m, x ++ "." ++ m, defArgs (inClass (topS i) j), defBody (inClass (topS i) j), defScope (inClass (topS i) j), pd, kd⟩
def fnL : List He.DefD := [dMk "BadValue" "__init__" 2 0 [] [], dMk "TooFine" "__init__" 3 0 [] [], dMk "NoFigures" "__init__" 4 0 [] [], dMk "BadStep" "__init__" 5 0 [] [], dMk "WideColumn" "__init__" 6 0 [] [], dMk "TooWide" "__init__" 7 0 [] [], dMk "NoColumn" "__init__" 8 0 [] [], dMk "BadWorths" "__init__" 9 0 [] [], dMk "NotOnce" "__init__" 10 0 [] [], dMk "NoDivisor" "__init__" 11 0 [] [], dMk "Overflow" "__init__" 12 0 [] [], dMk "NotPlain" "__init__" 13 0 [] [], dMk "Divides" "__init__" 14 0 [] [], dMk "NotSteady" "__init__" 15 0 [] [], dMk "NotASum" "__init__" 16 0 [] [], dMk "NotLinear" "__init__" 17 0 [] [], dMk "CanOver" "__init__" 18 0 [] [], dMk "ColumnsDiffer" "__init__" 19 0 [] [], dMk "BadEntry" "__init__" 20 0 [] [], dMk "Gaps" "__init__" 21 0 [] [], dMk "BadColumn" "__init__" 22 0 [] [], dMk "BadText" "__init__" 23 0 [] [], dMk "NotAFormula" "__init__" 24 0 [] [], dMk "Taken" "__init__" 25 0 [] [], dMk "Unknown" "__init__" 26 0 [] [], dMk "InUse" "__init__" 27 0 [] [], dMk "BadPromise" "__init__" 28 0 [] [], dMk "Broken" "__init__" 29 0 [] [], dfn "_law_pen" 31, dfn "_law_draw" 32, dfn "_law_pick" 33, dfn "_law_alone" 34, dfn "_law_more" 35, dfn "_law_kinds" 36, dfn "_law_apart" 37, dfn "_law_raise" 38, dfn "_law_caught" 39, dfn "law" 40]
def psL : List He.DefD := []
def gloL : List Str := (["BadValue", "TooFine", "NoFigures", "BadStep", "WideColumn", "TooWide", "NoColumn", "BadWorths", "NotOnce", "NoDivisor", "Overflow", "NotPlain", "Divides", "NotSteady", "NotASum", "NotLinear", "CanOver", "ColumnsDiffer", "BadEntry", "Gaps", "BadColumn", "BadText", "NotAFormula", "Taken", "Unknown"] : List Str) ++ (["InUse", "BadPromise", "Broken", "FigureError", "_law_pen", "_law_draw", "_law_pick", "_law_alone", "_law_more", "_law_kinds", "_law_apart", "_law_raise", "_law_caught", "law"] : List Str)
def freeL : List Str := ["isinstance", "int", "bool", "len", "list", "range", "tuple", "all", "divmod", "min", "max", "str", "abs", "dict", "any", "ValueError"]
def moreL : List He.Fa := [He.Fa.meth "BadValue" "__init__", .noat "BadValue" "value", .meth "TooFine" "__init__", .noat "TooFine" "scale", .meth "NoFigures" "__init__", .meth "BadStep" "__init__", .noat "BadStep" "number", .meth "WideColumn" "__init__", .noat "WideColumn" "name", .meth "TooWide" "__init__", .noat "TooWide" "step", .meth "NoColumn" "__init__", .noat "NoColumn" "name", .meth "BadWorths" "__init__", .noat "BadWorths" "name", .meth "NotOnce" "__init__", .noat "NotOnce" "name", .meth "NoDivisor" "__init__", .meth "Overflow" "__init__", .noat "Overflow" "step", .noat "Overflow" "worth", .meth "NotPlain" "__init__", .noat "NotPlain" "step", .meth "Divides" "__init__", .noat "Divides" "step", .meth "NotSteady" "__init__", .noat "NotSteady" "step", .meth "NotASum" "__init__", .noat "NotASum" "step", .meth "NotLinear" "__init__", .noat "NotLinear" "step", .meth "CanOver" "__init__", .noat "CanOver" "step", .noat "CanOver" "worths", .meth "ColumnsDiffer" "__init__", .noat "ColumnsDiffer" "name", .meth "BadEntry" "__init__", .noat "BadEntry" "index", .meth "Gaps" "__init__", .noat "Gaps" "way", .meth "BadColumn" "__init__", .noat "BadColumn" "column", .meth "BadText" "__init__", .noat "BadText" "value", .meth "NotAFormula" "__init__", .noat "NotAFormula" "at", .meth "Taken" "__init__", .noat "Taken" "name", .meth "Unknown" "__init__", .noat "Unknown" "name", .meth "InUse" "__init__", .noat "InUse" "name", .meth "BadPromise" "__init__", .noat "BadPromise" "told", .meth "Broken" "__init__", .noat "Broken" "told", .noat "Broken" "worths"]
def faL : List He.Fa := gloL.map He.Fa.glo ++ freeL.map He.Fa.free ++ moreL
def tsL : List He.Tab := []
/-- isinstance by the class -/
def wisB (K : PySem.W.Frag) (W : Addr) : Bool := (decide (PySem.W.findIn K (.ref W) "__class__" = some (some (.builtin "object.__class__"))) && (decide (PySem.W.specialIn K (.builtin "object.__class__") "__get__" = some (some (.builtin "getset_descriptor.__get__"))) &&
  (decide (PySem.W.takesIn K (.builtin "object.__class__") = some true) && (decide (PySem.W.mroIn K W (.type "object") = some true) && ((tys.all fun T => decide (PySem.W.kitOne K (.type T) (.ref W) = some false)))))))
def exL (K : PySem.W.Frag) : Bool := (nmL.all fun n => oexB K (He.ga K n)) && ((nmL.all fun n => L2.xfB K (He.ga K n)) && (((List.range 28).all fun i => excB K (dE K i)) && (((List.range 28).all fun i => (List.range 28).all fun j => decide (PySem.W.kitOne K (.ref (dE K i)) (.ref (dE K j)) = some (decide (i = j)))) && (((List.range 28).all fun i => decide (PySem.W.kitOne K (.ref (dE K i)) (.ref (He.ga K "FigureError")) = some true)) && (((List.range 28).all fun i => decide (PySem.W.kitOne K (.ref (dE K i)) (.type "ValueError") = some true)) && (decide (PySem.W.exmOne K (.ref (He.ga K "NoDivisor")) (.ref (He.ga K "FigureError")) = some true) && (decide (PySem.W.exmOne K (.ref (He.ga K "BadStep")) (.ref (He.ga K "FigureError")) = some true) && (decide (PySem.W.exmOne K (.ref (He.ga K "CanOver")) (.ref (He.ga K "FigureError")) = some true) && (decide (PySem.W.exmOne K (.ref (He.ga K "Broken")) (.ref (He.ga K "FigureError")) = some true) && (decide (PySem.W.exmOne K (.ref (He.ga K "NoFigures")) (.ref (He.ga K "FigureError")) = some true)))))))))))
abbrev rowK : PySem.W.OpenRow := PySem.W.OpenLaw.row PySem.Challenge.rw_figurestay_k00_errors_made_by_hand
abbrev hkL : PySem.W.Hook := hookP 6 faL fnL tsL [] exL psL
def obL (s : PySem.W.SharedT) : AlP := obsP 6 faL fnL tsL [] exL psL (HandSHeadRun.getT s)
theorem obL_eq (s : PySem.W.SharedT) : obL s = hkL.obs s.abs := obsP_eq (HandSHeadRun.getT_eq s)
def looseL : List Str := (["FigureError", "BadValue", "TooFine", "NoFigures", "BadStep", "WideColumn", "TooWide", "NoColumn", "BadWorths", "NotOnce", "NoDivisor", "Overflow", "NotPlain", "Divides", "NotSteady", "NotASum", "NotLinear", "CanOver", "ColumnsDiffer", "BadEntry", "Gaps", "BadColumn", "BadText", "NotAFormula", "Taken"] : List Str) ++ (["Unknown", "InUse", "BadPromise", "Broken", "_law_pen", "_law_draw", "_law_pick", "_law_alone", "_law_more", "_law_kinds", "_law_apart", "_law_raise", "_law_caught"] : List Str)
end K00

/-! k00: what the top leaves; the end. -/
namespace K00
open PySem PySem.Spec PyProof.Rows L2 LamX NdefX Own
theorem runF (w : World) : HandSHeadRun.RunEq rowK (PySem.W.view rowK.prog [40]) hkL obL 12000 looseL (w.withFollow "special-get-raises" false) := by
  intro os
  kernel_rfl
theorem runT (w : World) : HandSHeadRun.RunEq rowK (PySem.W.view rowK.prog [40]) hkL obL 12000 looseL (w.withFollow "special-get-raises" true) := by
  intro os
  kernel_rfl
theorem runL (w : World) : HandSHeadRun.RunEq rowK (PySem.W.view rowK.prog [40]) hkL obL 12000 looseL w := PySem.W.byRow2 "special-get-raises" (P := fun w => HandSHeadRun.RunEq rowK (PySem.W.view rowK.prog [40]) hkL obL 12000 looseL w) runF runT w
end K00

/-! k00: what the top leaves; the end. -/
namespace K00
open PySem PySem.Spec PyProof.Rows L2 LamX NdefX Own
section
variable {P : Program} {w : World} {K : PySem.W.Frag} {mg : Str → Option Value} {h : Heap}
theorem gloF (X : K.In h) (G : h.Ns mainGlobals mg) (d : He.SaysD faL fnL K) {x : Str} (hx : x ∈ gloL) : mg x = some (.ref (He.ga K x)) :=
  He.glo_ok X G (d.facts (List.mem_append_left _ (List.mem_append_left _ (List.mem_map.mpr ⟨x, hx, rfl⟩))))
theorem freeF (X : K.In h) (G : h.Ns mainGlobals mg) (d : He.SaysD faL fnL K) {x : Str} (hx : x ∈ freeL) : mg x = none :=
  He.free_ok X G (d.facts (List.mem_append_left _ (List.mem_append_right _ (List.mem_map.mpr ⟨x, hx, rfl⟩))))
theorem moreF (d : He.SaysD faL fnL K) {f : He.Fa} (hf : f ∈ moreL) : f.ok K = true := d.facts (List.mem_append_right _ hf)
theorem law_at {fa : Addr} (X : K.In h) (G : h.Ns mainGlobals mg) (hfa : mg "law" = some (.ref fa)) (c : He.SaysX faL fnL tsL [] exL w h K) (cp : SaysP psL K) : LawAtS PySem.Challenge.rw_figurestay_k00_errors_made_by_hand w K CX0 6 63 "_law_script" mg fa h := by
  have d := c.t.d
  obtain ⟨oex, y⟩ := He.ba c.more
  obtain ⟨xf, y⟩ := He.ba y
  obtain ⟨isE, y⟩ := He.ba y
  obtain ⟨kitE, y⟩ := He.ba y
  obtain ⟨kitF, y⟩ := He.ba y
  obtain ⟨kitV, y⟩ := He.ba y
  obtain ⟨exmNoDivisor, y⟩ := He.ba y
  obtain ⟨exmBadStep, y⟩ := He.ba y
  obtain ⟨exmCanOver, y⟩ := He.ba y
  obtain ⟨exmBroken, exmNoFigures⟩ := He.ba y
  have mt_BadValue := He.meth_ok (moreF d (f := .meth "BadValue" "__init__") (List.mem_of_getElem? (i := 0) rfl))
  have no_BadValue_value := He.noat_ok (moreF d (f := .noat "BadValue" "value") (List.mem_of_getElem? (i := 1) rfl))
  obtain ⟨fd_BadValue, F0_BadValue⟩ := d.def_ 0 (d := dMk "BadValue" "__init__" 2 0 [] []) rfl
  have F_BadValue : Fun K "__init__" "BadValue.__init__" (inClass (topS 2) 0) _ fd_BadValue := fun_of F0_BadValue
  have mt_TooFine := He.meth_ok (moreF d (f := .meth "TooFine" "__init__") (List.mem_of_getElem? (i := 2) rfl))
  have no_TooFine_scale := He.noat_ok (moreF d (f := .noat "TooFine" "scale") (List.mem_of_getElem? (i := 3) rfl))
  obtain ⟨fd_TooFine, F0_TooFine⟩ := d.def_ 1 (d := dMk "TooFine" "__init__" 3 0 [] []) rfl
  have F_TooFine : Fun K "__init__" "TooFine.__init__" (inClass (topS 3) 0) _ fd_TooFine := fun_of F0_TooFine
  have mt_NoFigures := He.meth_ok (moreF d (f := .meth "NoFigures" "__init__") (List.mem_of_getElem? (i := 4) rfl))
  obtain ⟨fd_NoFigures, F0_NoFigures⟩ := d.def_ 2 (d := dMk "NoFigures" "__init__" 4 0 [] []) rfl
  have F_NoFigures : Fun K "__init__" "NoFigures.__init__" (inClass (topS 4) 0) _ fd_NoFigures := fun_of F0_NoFigures
  have mt_BadStep := He.meth_ok (moreF d (f := .meth "BadStep" "__init__") (List.mem_of_getElem? (i := 5) rfl))
  have no_BadStep_number := He.noat_ok (moreF d (f := .noat "BadStep" "number") (List.mem_of_getElem? (i := 6) rfl))
  obtain ⟨fd_BadStep, F0_BadStep⟩ := d.def_ 3 (d := dMk "BadStep" "__init__" 5 0 [] []) rfl
  have F_BadStep : Fun K "__init__" "BadStep.__init__" (inClass (topS 5) 0) _ fd_BadStep := fun_of F0_BadStep
  have mt_WideColumn := He.meth_ok (moreF d (f := .meth "WideColumn" "__init__") (List.mem_of_getElem? (i := 7) rfl))
  have no_WideColumn_name := He.noat_ok (moreF d (f := .noat "WideColumn" "name") (List.mem_of_getElem? (i := 8) rfl))
  obtain ⟨fd_WideColumn, F0_WideColumn⟩ := d.def_ 4 (d := dMk "WideColumn" "__init__" 6 0 [] []) rfl
  have F_WideColumn : Fun K "__init__" "WideColumn.__init__" (inClass (topS 6) 0) _ fd_WideColumn := fun_of F0_WideColumn
  have mt_TooWide := He.meth_ok (moreF d (f := .meth "TooWide" "__init__") (List.mem_of_getElem? (i := 9) rfl))
  have no_TooWide_step := He.noat_ok (moreF d (f := .noat "TooWide" "step") (List.mem_of_getElem? (i := 10) rfl))
  obtain ⟨fd_TooWide, F0_TooWide⟩ := d.def_ 5 (d := dMk "TooWide" "__init__" 7 0 [] []) rfl
  have F_TooWide : Fun K "__init__" "TooWide.__init__" (inClass (topS 7) 0) _ fd_TooWide := fun_of F0_TooWide
  have mt_NoColumn := He.meth_ok (moreF d (f := .meth "NoColumn" "__init__") (List.mem_of_getElem? (i := 11) rfl))
  have no_NoColumn_name := He.noat_ok (moreF d (f := .noat "NoColumn" "name") (List.mem_of_getElem? (i := 12) rfl))
  obtain ⟨fd_NoColumn, F0_NoColumn⟩ := d.def_ 6 (d := dMk "NoColumn" "__init__" 8 0 [] []) rfl
  have F_NoColumn : Fun K "__init__" "NoColumn.__init__" (inClass (topS 8) 0) _ fd_NoColumn := fun_of F0_NoColumn
  have mt_BadWorths := He.meth_ok (moreF d (f := .meth "BadWorths" "__init__") (List.mem_of_getElem? (i := 13) rfl))
  have no_BadWorths_name := He.noat_ok (moreF d (f := .noat "BadWorths" "name") (List.mem_of_getElem? (i := 14) rfl))
  obtain ⟨fd_BadWorths, F0_BadWorths⟩ := d.def_ 7 (d := dMk "BadWorths" "__init__" 9 0 [] []) rfl
  have F_BadWorths : Fun K "__init__" "BadWorths.__init__" (inClass (topS 9) 0) _ fd_BadWorths := fun_of F0_BadWorths
  have mt_NotOnce := He.meth_ok (moreF d (f := .meth "NotOnce" "__init__") (List.mem_of_getElem? (i := 15) rfl))
  have no_NotOnce_name := He.noat_ok (moreF d (f := .noat "NotOnce" "name") (List.mem_of_getElem? (i := 16) rfl))
  obtain ⟨fd_NotOnce, F0_NotOnce⟩ := d.def_ 8 (d := dMk "NotOnce" "__init__" 10 0 [] []) rfl
  have F_NotOnce : Fun K "__init__" "NotOnce.__init__" (inClass (topS 10) 0) _ fd_NotOnce := fun_of F0_NotOnce
  have mt_NoDivisor := He.meth_ok (moreF d (f := .meth "NoDivisor" "__init__") (List.mem_of_getElem? (i := 17) rfl))
  obtain ⟨fd_NoDivisor, F0_NoDivisor⟩ := d.def_ 9 (d := dMk "NoDivisor" "__init__" 11 0 [] []) rfl
  have F_NoDivisor : Fun K "__init__" "NoDivisor.__init__" (inClass (topS 11) 0) _ fd_NoDivisor := fun_of F0_NoDivisor
  have mt_Overflow := He.meth_ok (moreF d (f := .meth "Overflow" "__init__") (List.mem_of_getElem? (i := 18) rfl))
  have no_Overflow_step := He.noat_ok (moreF d (f := .noat "Overflow" "step") (List.mem_of_getElem? (i := 19) rfl))
  have no_Overflow_worth := He.noat_ok (moreF d (f := .noat "Overflow" "worth") (List.mem_of_getElem? (i := 20) rfl))
  obtain ⟨fd_Overflow, F0_Overflow⟩ := d.def_ 10 (d := dMk "Overflow" "__init__" 12 0 [] []) rfl
  have F_Overflow : Fun K "__init__" "Overflow.__init__" (inClass (topS 12) 0) _ fd_Overflow := fun_of F0_Overflow
  have mt_NotPlain := He.meth_ok (moreF d (f := .meth "NotPlain" "__init__") (List.mem_of_getElem? (i := 21) rfl))
  have no_NotPlain_step := He.noat_ok (moreF d (f := .noat "NotPlain" "step") (List.mem_of_getElem? (i := 22) rfl))
  obtain ⟨fd_NotPlain, F0_NotPlain⟩ := d.def_ 11 (d := dMk "NotPlain" "__init__" 13 0 [] []) rfl
  have F_NotPlain : Fun K "__init__" "NotPlain.__init__" (inClass (topS 13) 0) _ fd_NotPlain := fun_of F0_NotPlain
  have mt_Divides := He.meth_ok (moreF d (f := .meth "Divides" "__init__") (List.mem_of_getElem? (i := 23) rfl))
  have no_Divides_step := He.noat_ok (moreF d (f := .noat "Divides" "step") (List.mem_of_getElem? (i := 24) rfl))
  obtain ⟨fd_Divides, F0_Divides⟩ := d.def_ 12 (d := dMk "Divides" "__init__" 14 0 [] []) rfl
  have F_Divides : Fun K "__init__" "Divides.__init__" (inClass (topS 14) 0) _ fd_Divides := fun_of F0_Divides
  have mt_NotSteady := He.meth_ok (moreF d (f := .meth "NotSteady" "__init__") (List.mem_of_getElem? (i := 25) rfl))
  have no_NotSteady_step := He.noat_ok (moreF d (f := .noat "NotSteady" "step") (List.mem_of_getElem? (i := 26) rfl))
  obtain ⟨fd_NotSteady, F0_NotSteady⟩ := d.def_ 13 (d := dMk "NotSteady" "__init__" 15 0 [] []) rfl
  have F_NotSteady : Fun K "__init__" "NotSteady.__init__" (inClass (topS 15) 0) _ fd_NotSteady := fun_of F0_NotSteady
  have mt_NotASum := He.meth_ok (moreF d (f := .meth "NotASum" "__init__") (List.mem_of_getElem? (i := 27) rfl))
  have no_NotASum_step := He.noat_ok (moreF d (f := .noat "NotASum" "step") (List.mem_of_getElem? (i := 28) rfl))
  obtain ⟨fd_NotASum, F0_NotASum⟩ := d.def_ 14 (d := dMk "NotASum" "__init__" 16 0 [] []) rfl
  have F_NotASum : Fun K "__init__" "NotASum.__init__" (inClass (topS 16) 0) _ fd_NotASum := fun_of F0_NotASum
  have mt_NotLinear := He.meth_ok (moreF d (f := .meth "NotLinear" "__init__") (List.mem_of_getElem? (i := 29) rfl))
  have no_NotLinear_step := He.noat_ok (moreF d (f := .noat "NotLinear" "step") (List.mem_of_getElem? (i := 30) rfl))
  obtain ⟨fd_NotLinear, F0_NotLinear⟩ := d.def_ 15 (d := dMk "NotLinear" "__init__" 17 0 [] []) rfl
  have F_NotLinear : Fun K "__init__" "NotLinear.__init__" (inClass (topS 17) 0) _ fd_NotLinear := fun_of F0_NotLinear
  have mt_CanOver := He.meth_ok (moreF d (f := .meth "CanOver" "__init__") (List.mem_of_getElem? (i := 31) rfl))
  have no_CanOver_step := He.noat_ok (moreF d (f := .noat "CanOver" "step") (List.mem_of_getElem? (i := 32) rfl))
  have no_CanOver_worths := He.noat_ok (moreF d (f := .noat "CanOver" "worths") (List.mem_of_getElem? (i := 33) rfl))
  obtain ⟨fd_CanOver, F0_CanOver⟩ := d.def_ 16 (d := dMk "CanOver" "__init__" 18 0 [] []) rfl
  have F_CanOver : Fun K "__init__" "CanOver.__init__" (inClass (topS 18) 0) _ fd_CanOver := fun_of F0_CanOver
  have mt_ColumnsDiffer := He.meth_ok (moreF d (f := .meth "ColumnsDiffer" "__init__") (List.mem_of_getElem? (i := 34) rfl))
  have no_ColumnsDiffer_name := He.noat_ok (moreF d (f := .noat "ColumnsDiffer" "name") (List.mem_of_getElem? (i := 35) rfl))
  obtain ⟨fd_ColumnsDiffer, F0_ColumnsDiffer⟩ := d.def_ 17 (d := dMk "ColumnsDiffer" "__init__" 19 0 [] []) rfl
  have F_ColumnsDiffer : Fun K "__init__" "ColumnsDiffer.__init__" (inClass (topS 19) 0) _ fd_ColumnsDiffer := fun_of F0_ColumnsDiffer
  have mt_BadEntry := He.meth_ok (moreF d (f := .meth "BadEntry" "__init__") (List.mem_of_getElem? (i := 36) rfl))
  have no_BadEntry_index := He.noat_ok (moreF d (f := .noat "BadEntry" "index") (List.mem_of_getElem? (i := 37) rfl))
  obtain ⟨fd_BadEntry, F0_BadEntry⟩ := d.def_ 18 (d := dMk "BadEntry" "__init__" 20 0 [] []) rfl
  have F_BadEntry : Fun K "__init__" "BadEntry.__init__" (inClass (topS 20) 0) _ fd_BadEntry := fun_of F0_BadEntry
  have mt_Gaps := He.meth_ok (moreF d (f := .meth "Gaps" "__init__") (List.mem_of_getElem? (i := 38) rfl))
  have no_Gaps_way := He.noat_ok (moreF d (f := .noat "Gaps" "way") (List.mem_of_getElem? (i := 39) rfl))
  obtain ⟨fd_Gaps, F0_Gaps⟩ := d.def_ 19 (d := dMk "Gaps" "__init__" 21 0 [] []) rfl
  have F_Gaps : Fun K "__init__" "Gaps.__init__" (inClass (topS 21) 0) _ fd_Gaps := fun_of F0_Gaps
  have mt_BadColumn := He.meth_ok (moreF d (f := .meth "BadColumn" "__init__") (List.mem_of_getElem? (i := 40) rfl))
  have no_BadColumn_column := He.noat_ok (moreF d (f := .noat "BadColumn" "column") (List.mem_of_getElem? (i := 41) rfl))
  obtain ⟨fd_BadColumn, F0_BadColumn⟩ := d.def_ 20 (d := dMk "BadColumn" "__init__" 22 0 [] []) rfl
  have F_BadColumn : Fun K "__init__" "BadColumn.__init__" (inClass (topS 22) 0) _ fd_BadColumn := fun_of F0_BadColumn
  have mt_BadText := He.meth_ok (moreF d (f := .meth "BadText" "__init__") (List.mem_of_getElem? (i := 42) rfl))
  have no_BadText_value := He.noat_ok (moreF d (f := .noat "BadText" "value") (List.mem_of_getElem? (i := 43) rfl))
  obtain ⟨fd_BadText, F0_BadText⟩ := d.def_ 21 (d := dMk "BadText" "__init__" 23 0 [] []) rfl
  have F_BadText : Fun K "__init__" "BadText.__init__" (inClass (topS 23) 0) _ fd_BadText := fun_of F0_BadText
  have mt_NotAFormula := He.meth_ok (moreF d (f := .meth "NotAFormula" "__init__") (List.mem_of_getElem? (i := 44) rfl))
  have no_NotAFormula_at := He.noat_ok (moreF d (f := .noat "NotAFormula" "at") (List.mem_of_getElem? (i := 45) rfl))
  obtain ⟨fd_NotAFormula, F0_NotAFormula⟩ := d.def_ 22 (d := dMk "NotAFormula" "__init__" 24 0 [] []) rfl
  have F_NotAFormula : Fun K "__init__" "NotAFormula.__init__" (inClass (topS 24) 0) _ fd_NotAFormula := fun_of F0_NotAFormula
  have mt_Taken := He.meth_ok (moreF d (f := .meth "Taken" "__init__") (List.mem_of_getElem? (i := 46) rfl))
  have no_Taken_name := He.noat_ok (moreF d (f := .noat "Taken" "name") (List.mem_of_getElem? (i := 47) rfl))
  obtain ⟨fd_Taken, F0_Taken⟩ := d.def_ 23 (d := dMk "Taken" "__init__" 25 0 [] []) rfl
  have F_Taken : Fun K "__init__" "Taken.__init__" (inClass (topS 25) 0) _ fd_Taken := fun_of F0_Taken
  have mt_Unknown := He.meth_ok (moreF d (f := .meth "Unknown" "__init__") (List.mem_of_getElem? (i := 48) rfl))
  have no_Unknown_name := He.noat_ok (moreF d (f := .noat "Unknown" "name") (List.mem_of_getElem? (i := 49) rfl))
  obtain ⟨fd_Unknown, F0_Unknown⟩ := d.def_ 24 (d := dMk "Unknown" "__init__" 26 0 [] []) rfl
  have F_Unknown : Fun K "__init__" "Unknown.__init__" (inClass (topS 26) 0) _ fd_Unknown := fun_of F0_Unknown
  have mt_InUse := He.meth_ok (moreF d (f := .meth "InUse" "__init__") (List.mem_of_getElem? (i := 50) rfl))
  have no_InUse_name := He.noat_ok (moreF d (f := .noat "InUse" "name") (List.mem_of_getElem? (i := 51) rfl))
  obtain ⟨fd_InUse, F0_InUse⟩ := d.def_ 25 (d := dMk "InUse" "__init__" 27 0 [] []) rfl
  have F_InUse : Fun K "__init__" "InUse.__init__" (inClass (topS 27) 0) _ fd_InUse := fun_of F0_InUse
  have mt_BadPromise := He.meth_ok (moreF d (f := .meth "BadPromise" "__init__") (List.mem_of_getElem? (i := 52) rfl))
  have no_BadPromise_told := He.noat_ok (moreF d (f := .noat "BadPromise" "told") (List.mem_of_getElem? (i := 53) rfl))
  obtain ⟨fd_BadPromise, F0_BadPromise⟩ := d.def_ 26 (d := dMk "BadPromise" "__init__" 28 0 [] []) rfl
  have F_BadPromise : Fun K "__init__" "BadPromise.__init__" (inClass (topS 28) 0) _ fd_BadPromise := fun_of F0_BadPromise
  have mt_Broken := He.meth_ok (moreF d (f := .meth "Broken" "__init__") (List.mem_of_getElem? (i := 54) rfl))
  have no_Broken_told := He.noat_ok (moreF d (f := .noat "Broken" "told") (List.mem_of_getElem? (i := 55) rfl))
  have no_Broken_worths := He.noat_ok (moreF d (f := .noat "Broken" "worths") (List.mem_of_getElem? (i := 56) rfl))
  obtain ⟨fd_Broken, F0_Broken⟩ := d.def_ 27 (d := dMk "Broken" "__init__" 29 0 [] []) rfl
  have F_Broken : Fun K "__init__" "Broken.__init__" (inClass (topS 29) 0) _ fd_Broken := fun_of F0_Broken
  obtain ⟨fd__law_pen, F__law_pen⟩ := d.def_ 28 (d := dfn "_law_pen" 31) rfl
  have A__law_pen : At K mg "_law_pen" (topS 31) ["_law_script"] := at_of F__law_pen (gloF X G d (by decide +kernel)) fun _ _ _ _ _ _ us hl => match us, hl with | [_], _ => rfl
  obtain ⟨fd__law_draw, F__law_draw⟩ := d.def_ 29 (d := dfn "_law_draw" 32) rfl
  have A__law_draw : At K mg "_law_draw" (topS 32) ["_law_pen_here", "_law_many"] := at_of F__law_draw (gloF X G d (by decide +kernel)) fun _ _ _ _ _ _ us hl => match us, hl with | [_, _], _ => rfl
  obtain ⟨fd__law_pick, F__law_pick⟩ := d.def_ 30 (d := dfn "_law_pick" 33) rfl
  have A__law_pick : At K mg "_law_pick" (topS 33) ["_law_pen_here", "_law_items"] := at_of F__law_pick (gloF X G d (by decide +kernel)) fun _ _ _ _ _ _ us hl => match us, hl with | [_, _], _ => rfl
  obtain ⟨fd__law_alone, F__law_alone⟩ := d.def_ 31 (d := dfn "_law_alone" 34) rfl
  have A__law_alone : At K mg "_law_alone" (topS 34) ["_law_mine"] := at_of F__law_alone (gloF X G d (by decide +kernel)) fun _ _ _ _ _ _ us hl => match us, hl with | [_], _ => rfl
  obtain ⟨fd__law_more, F__law_more⟩ := d.def_ 32 (d := dfn "_law_more" 35) rfl
  have A__law_more : At K mg "_law_more" (topS 35) ["_law_mine", "_law_yours"] := at_of F__law_more (gloF X G d (by decide +kernel)) fun _ _ _ _ _ _ us hl => match us, hl with | [_, _], _ => rfl
  obtain ⟨fd__law_kinds, F__law_kinds⟩ := d.def_ 33 (d := dfn "_law_kinds" 36) rfl
  have A__law_kinds : At K mg "_law_kinds" (topS 36) ["_law_error"] := at_of F__law_kinds (gloF X G d (by decide +kernel)) fun _ _ _ _ _ _ us hl => match us, hl with | [_], _ => rfl
  obtain ⟨fd__law_apart, F__law_apart⟩ := d.def_ 34 (d := dfn "_law_apart" 37) rfl
  have A__law_apart : At K mg "_law_apart" (topS 37) ["_law_mine", "_law_yours"] := at_of F__law_apart (gloF X G d (by decide +kernel)) fun _ _ _ _ _ _ us hl => match us, hl with | [_, _], _ => rfl
  obtain ⟨fd__law_raise, F__law_raise⟩ := d.def_ 35 (d := dfn "_law_raise" 38) rfl
  have A__law_raise : At K mg "_law_raise" (topS 38) ["_law_which", "_law_mine"] := at_of F__law_raise (gloF X G d (by decide +kernel)) fun _ _ _ _ _ _ us hl => match us, hl with | [_, _], _ => rfl
  obtain ⟨fd__law_caught, F__law_caught⟩ := d.def_ 36 (d := dfn "_law_caught" 39) rfl
  have A__law_caught : At K mg "_law_caught" (topS 39) ["_law_which", "_law_mine"] := at_of F__law_caught (gloF X G d (by decide +kernel)) fun _ _ _ _ _ _ us hl => match us, hl with | [_, _], _ => rfl
  obtain ⟨fdL, FL⟩ := d.def_ 37 (d := dfn "law" 40) rfl
  have e := hfa.symm.trans (gloF X G d (x := "law") (by decide +kernel))
  cases e
  have FL' : Fun K "law" "law" sLaw _ fdL := fun_of FL
  have hL : ∀ (s : Shared) (u : Value), BindsTo s fdL ⟨[u], []⟩ [("_law_script", u)] := by
    obtain ⟨oc, od, kV, doc, pm, an, cdv, ct, osl, rfl, lk, hcd⟩ := FL'.ex
    exact fun s u => .of_eq rfl
  refine ⟨fdL, [], spLaw K, fun p hp => (by cases hp), fun p hp => (by cases hp), fun p hp => (by cases hp), hL, fun H a ns hl _ hT hs => ⟨a, ns, rfl, hs, hl, fun _ => rfl⟩, fun base XB GB TBs => ?_⟩
  · skip
    have B : Blt mg := { isi := freeF X G d (by decide +kernel), int := freeF X G d (by decide +kernel), bool := freeF X G d (by decide +kernel), len := freeF X G d (by decide +kernel), list := freeF X G d (by decide +kernel), range := freeF X G d (by decide +kernel), tuple := freeF X G d (by decide +kernel), all := freeF X G d (by decide +kernel), dm := freeF X G d (by decide +kernel), min := freeF X G d (by decide +kernel), max := freeF X G d (by decide +kernel), str := freeF X G d (by decide +kernel), abs := freeF X G d (by decide +kernel), dict := freeF X G d (by decide +kernel), any := freeF X G d (by decide +kernel) }
    have hV := freeF X G d (x := "ValueError") (by decide +kernel)
    have al : ∀ {p : Str → Bool}, nmL.all p = true → ∀ i, i < 28 → p (nmL.getD i "") = true := fun {p} h i hi => List.all_eq_true.mp h _ (by
      have e : nmL[i]? = some (nmL.getD i "") := by
        rw [List.getD_eq_getElem?_getD, List.getElem?_eq_getElem (show i < nmL.length from hi)]
        rfl
      exact List.mem_of_getElem? e)
    have ar : ∀ {p : Nat → Bool}, (List.range 28).all p = true → ∀ i, i < 28 → p i = true := fun {p} h i hi => List.all_eq_true.mp h i (List.mem_range.mpr hi)
    have bB_BadValue : ErB K mg "BadValue" (He.ga K "BadValue") := ⟨gloF X G d (by decide +kernel), oexB_ok (al oex 0 (by decide)), L2.xfB_ok (al xf 0 (by decide))⟩
    have E_BadValue : Er1 PySem.Challenge.rw_figurestay_k00_errors_made_by_hand.prog w K mg base "BadValue" "value" (He.ga K "BadValue") := ⟨bB_BadValue, no_BadValue_value, ⟨_, fd_BadValue, mt_BadValue.1, beq_iff_eq.mp mt_BadValue.fn, ini_BadValue F_BadValue bB_BadValue.oex no_BadValue_value⟩⟩
    have bB_TooFine : ErB K mg "TooFine" (He.ga K "TooFine") := ⟨gloF X G d (by decide +kernel), oexB_ok (al oex 1 (by decide)), L2.xfB_ok (al xf 1 (by decide))⟩
    have E_TooFine : Er1 PySem.Challenge.rw_figurestay_k00_errors_made_by_hand.prog w K mg base "TooFine" "scale" (He.ga K "TooFine") := ⟨bB_TooFine, no_TooFine_scale, ⟨_, fd_TooFine, mt_TooFine.1, beq_iff_eq.mp mt_TooFine.fn, ini_TooFine F_TooFine bB_TooFine.oex no_TooFine_scale⟩⟩
    have bB_NoFigures : ErB K mg "NoFigures" (He.ga K "NoFigures") := ⟨gloF X G d (by decide +kernel), oexB_ok (al oex 2 (by decide)), L2.xfB_ok (al xf 2 (by decide))⟩
    have E_NoFigures : Er0 PySem.Challenge.rw_figurestay_k00_errors_made_by_hand.prog w K mg base "NoFigures"  (He.ga K "NoFigures") := ⟨bB_NoFigures, ⟨_, fd_NoFigures, mt_NoFigures.1, beq_iff_eq.mp mt_NoFigures.fn, ini_NoFigures F_NoFigures⟩⟩
    have bB_BadStep : ErB K mg "BadStep" (He.ga K "BadStep") := ⟨gloF X G d (by decide +kernel), oexB_ok (al oex 3 (by decide)), L2.xfB_ok (al xf 3 (by decide))⟩
    have E_BadStep : Er1 PySem.Challenge.rw_figurestay_k00_errors_made_by_hand.prog w K mg base "BadStep" "number" (He.ga K "BadStep") := ⟨bB_BadStep, no_BadStep_number, ⟨_, fd_BadStep, mt_BadStep.1, beq_iff_eq.mp mt_BadStep.fn, ini_BadStep F_BadStep bB_BadStep.oex no_BadStep_number⟩⟩
    have bB_WideColumn : ErB K mg "WideColumn" (He.ga K "WideColumn") := ⟨gloF X G d (by decide +kernel), oexB_ok (al oex 4 (by decide)), L2.xfB_ok (al xf 4 (by decide))⟩
    have E_WideColumn : Er1 PySem.Challenge.rw_figurestay_k00_errors_made_by_hand.prog w K mg base "WideColumn" "name" (He.ga K "WideColumn") := ⟨bB_WideColumn, no_WideColumn_name, ⟨_, fd_WideColumn, mt_WideColumn.1, beq_iff_eq.mp mt_WideColumn.fn, ini_WideColumn F_WideColumn bB_WideColumn.oex no_WideColumn_name⟩⟩
    have bB_TooWide : ErB K mg "TooWide" (He.ga K "TooWide") := ⟨gloF X G d (by decide +kernel), oexB_ok (al oex 5 (by decide)), L2.xfB_ok (al xf 5 (by decide))⟩
    have E_TooWide : Er1 PySem.Challenge.rw_figurestay_k00_errors_made_by_hand.prog w K mg base "TooWide" "step" (He.ga K "TooWide") := ⟨bB_TooWide, no_TooWide_step, ⟨_, fd_TooWide, mt_TooWide.1, beq_iff_eq.mp mt_TooWide.fn, ini_TooWide F_TooWide bB_TooWide.oex no_TooWide_step⟩⟩
    have bB_NoColumn : ErB K mg "NoColumn" (He.ga K "NoColumn") := ⟨gloF X G d (by decide +kernel), oexB_ok (al oex 6 (by decide)), L2.xfB_ok (al xf 6 (by decide))⟩
    have E_NoColumn : Er1 PySem.Challenge.rw_figurestay_k00_errors_made_by_hand.prog w K mg base "NoColumn" "name" (He.ga K "NoColumn") := ⟨bB_NoColumn, no_NoColumn_name, ⟨_, fd_NoColumn, mt_NoColumn.1, beq_iff_eq.mp mt_NoColumn.fn, ini_NoColumn F_NoColumn bB_NoColumn.oex no_NoColumn_name⟩⟩
    have bB_BadWorths : ErB K mg "BadWorths" (He.ga K "BadWorths") := ⟨gloF X G d (by decide +kernel), oexB_ok (al oex 7 (by decide)), L2.xfB_ok (al xf 7 (by decide))⟩
    have E_BadWorths : Er1 PySem.Challenge.rw_figurestay_k00_errors_made_by_hand.prog w K mg base "BadWorths" "name" (He.ga K "BadWorths") := ⟨bB_BadWorths, no_BadWorths_name, ⟨_, fd_BadWorths, mt_BadWorths.1, beq_iff_eq.mp mt_BadWorths.fn, ini_BadWorths F_BadWorths bB_BadWorths.oex no_BadWorths_name⟩⟩
    have bB_NotOnce : ErB K mg "NotOnce" (He.ga K "NotOnce") := ⟨gloF X G d (by decide +kernel), oexB_ok (al oex 8 (by decide)), L2.xfB_ok (al xf 8 (by decide))⟩
    have E_NotOnce : Er1 PySem.Challenge.rw_figurestay_k00_errors_made_by_hand.prog w K mg base "NotOnce" "name" (He.ga K "NotOnce") := ⟨bB_NotOnce, no_NotOnce_name, ⟨_, fd_NotOnce, mt_NotOnce.1, beq_iff_eq.mp mt_NotOnce.fn, ini_NotOnce F_NotOnce bB_NotOnce.oex no_NotOnce_name⟩⟩
    have bB_NoDivisor : ErB K mg "NoDivisor" (He.ga K "NoDivisor") := ⟨gloF X G d (by decide +kernel), oexB_ok (al oex 9 (by decide)), L2.xfB_ok (al xf 9 (by decide))⟩
    have E_NoDivisor : Er0 PySem.Challenge.rw_figurestay_k00_errors_made_by_hand.prog w K mg base "NoDivisor"  (He.ga K "NoDivisor") := ⟨bB_NoDivisor, ⟨_, fd_NoDivisor, mt_NoDivisor.1, beq_iff_eq.mp mt_NoDivisor.fn, ini_NoDivisor F_NoDivisor⟩⟩
    have bB_Overflow : ErB K mg "Overflow" (He.ga K "Overflow") := ⟨gloF X G d (by decide +kernel), oexB_ok (al oex 10 (by decide)), L2.xfB_ok (al xf 10 (by decide))⟩
    have E_Overflow : Er2 PySem.Challenge.rw_figurestay_k00_errors_made_by_hand.prog w K mg base "Overflow" "step" "worth" (He.ga K "Overflow") := ⟨bB_Overflow, no_Overflow_step, no_Overflow_worth, ⟨_, fd_Overflow, mt_Overflow.1, beq_iff_eq.mp mt_Overflow.fn, ini_Overflow F_Overflow bB_Overflow.oex no_Overflow_step no_Overflow_worth⟩⟩
    have bB_NotPlain : ErB K mg "NotPlain" (He.ga K "NotPlain") := ⟨gloF X G d (by decide +kernel), oexB_ok (al oex 11 (by decide)), L2.xfB_ok (al xf 11 (by decide))⟩
    have E_NotPlain : Er1 PySem.Challenge.rw_figurestay_k00_errors_made_by_hand.prog w K mg base "NotPlain" "step" (He.ga K "NotPlain") := ⟨bB_NotPlain, no_NotPlain_step, ⟨_, fd_NotPlain, mt_NotPlain.1, beq_iff_eq.mp mt_NotPlain.fn, ini_NotPlain F_NotPlain bB_NotPlain.oex no_NotPlain_step⟩⟩
    have bB_Divides : ErB K mg "Divides" (He.ga K "Divides") := ⟨gloF X G d (by decide +kernel), oexB_ok (al oex 12 (by decide)), L2.xfB_ok (al xf 12 (by decide))⟩
    have E_Divides : Er1 PySem.Challenge.rw_figurestay_k00_errors_made_by_hand.prog w K mg base "Divides" "step" (He.ga K "Divides") := ⟨bB_Divides, no_Divides_step, ⟨_, fd_Divides, mt_Divides.1, beq_iff_eq.mp mt_Divides.fn, ini_Divides F_Divides bB_Divides.oex no_Divides_step⟩⟩
    have bB_NotSteady : ErB K mg "NotSteady" (He.ga K "NotSteady") := ⟨gloF X G d (by decide +kernel), oexB_ok (al oex 13 (by decide)), L2.xfB_ok (al xf 13 (by decide))⟩
    have E_NotSteady : Er1 PySem.Challenge.rw_figurestay_k00_errors_made_by_hand.prog w K mg base "NotSteady" "step" (He.ga K "NotSteady") := ⟨bB_NotSteady, no_NotSteady_step, ⟨_, fd_NotSteady, mt_NotSteady.1, beq_iff_eq.mp mt_NotSteady.fn, ini_NotSteady F_NotSteady bB_NotSteady.oex no_NotSteady_step⟩⟩
    have bB_NotASum : ErB K mg "NotASum" (He.ga K "NotASum") := ⟨gloF X G d (by decide +kernel), oexB_ok (al oex 14 (by decide)), L2.xfB_ok (al xf 14 (by decide))⟩
    have E_NotASum : Er1 PySem.Challenge.rw_figurestay_k00_errors_made_by_hand.prog w K mg base "NotASum" "step" (He.ga K "NotASum") := ⟨bB_NotASum, no_NotASum_step, ⟨_, fd_NotASum, mt_NotASum.1, beq_iff_eq.mp mt_NotASum.fn, ini_NotASum F_NotASum bB_NotASum.oex no_NotASum_step⟩⟩
    have bB_NotLinear : ErB K mg "NotLinear" (He.ga K "NotLinear") := ⟨gloF X G d (by decide +kernel), oexB_ok (al oex 15 (by decide)), L2.xfB_ok (al xf 15 (by decide))⟩
    have E_NotLinear : Er1 PySem.Challenge.rw_figurestay_k00_errors_made_by_hand.prog w K mg base "NotLinear" "step" (He.ga K "NotLinear") := ⟨bB_NotLinear, no_NotLinear_step, ⟨_, fd_NotLinear, mt_NotLinear.1, beq_iff_eq.mp mt_NotLinear.fn, ini_NotLinear F_NotLinear bB_NotLinear.oex no_NotLinear_step⟩⟩
    have bB_CanOver : ErB K mg "CanOver" (He.ga K "CanOver") := ⟨gloF X G d (by decide +kernel), oexB_ok (al oex 16 (by decide)), L2.xfB_ok (al xf 16 (by decide))⟩
    have E_CanOver : Er2 PySem.Challenge.rw_figurestay_k00_errors_made_by_hand.prog w K mg base "CanOver" "step" "worths" (He.ga K "CanOver") := ⟨bB_CanOver, no_CanOver_step, no_CanOver_worths, ⟨_, fd_CanOver, mt_CanOver.1, beq_iff_eq.mp mt_CanOver.fn, ini_CanOver F_CanOver bB_CanOver.oex no_CanOver_step no_CanOver_worths⟩⟩
    have bB_ColumnsDiffer : ErB K mg "ColumnsDiffer" (He.ga K "ColumnsDiffer") := ⟨gloF X G d (by decide +kernel), oexB_ok (al oex 17 (by decide)), L2.xfB_ok (al xf 17 (by decide))⟩
    have E_ColumnsDiffer : Er1 PySem.Challenge.rw_figurestay_k00_errors_made_by_hand.prog w K mg base "ColumnsDiffer" "name" (He.ga K "ColumnsDiffer") := ⟨bB_ColumnsDiffer, no_ColumnsDiffer_name, ⟨_, fd_ColumnsDiffer, mt_ColumnsDiffer.1, beq_iff_eq.mp mt_ColumnsDiffer.fn, ini_ColumnsDiffer F_ColumnsDiffer bB_ColumnsDiffer.oex no_ColumnsDiffer_name⟩⟩
    have bB_BadEntry : ErB K mg "BadEntry" (He.ga K "BadEntry") := ⟨gloF X G d (by decide +kernel), oexB_ok (al oex 18 (by decide)), L2.xfB_ok (al xf 18 (by decide))⟩
    have E_BadEntry : Er1 PySem.Challenge.rw_figurestay_k00_errors_made_by_hand.prog w K mg base "BadEntry" "index" (He.ga K "BadEntry") := ⟨bB_BadEntry, no_BadEntry_index, ⟨_, fd_BadEntry, mt_BadEntry.1, beq_iff_eq.mp mt_BadEntry.fn, ini_BadEntry F_BadEntry bB_BadEntry.oex no_BadEntry_index⟩⟩
    have bB_Gaps : ErB K mg "Gaps" (He.ga K "Gaps") := ⟨gloF X G d (by decide +kernel), oexB_ok (al oex 19 (by decide)), L2.xfB_ok (al xf 19 (by decide))⟩
    have E_Gaps : Er1 PySem.Challenge.rw_figurestay_k00_errors_made_by_hand.prog w K mg base "Gaps" "way" (He.ga K "Gaps") := ⟨bB_Gaps, no_Gaps_way, ⟨_, fd_Gaps, mt_Gaps.1, beq_iff_eq.mp mt_Gaps.fn, ini_Gaps F_Gaps bB_Gaps.oex no_Gaps_way⟩⟩
    have bB_BadColumn : ErB K mg "BadColumn" (He.ga K "BadColumn") := ⟨gloF X G d (by decide +kernel), oexB_ok (al oex 20 (by decide)), L2.xfB_ok (al xf 20 (by decide))⟩
    have E_BadColumn : Er1 PySem.Challenge.rw_figurestay_k00_errors_made_by_hand.prog w K mg base "BadColumn" "column" (He.ga K "BadColumn") := ⟨bB_BadColumn, no_BadColumn_column, ⟨_, fd_BadColumn, mt_BadColumn.1, beq_iff_eq.mp mt_BadColumn.fn, ini_BadColumn F_BadColumn bB_BadColumn.oex no_BadColumn_column⟩⟩
    have bB_BadText : ErB K mg "BadText" (He.ga K "BadText") := ⟨gloF X G d (by decide +kernel), oexB_ok (al oex 21 (by decide)), L2.xfB_ok (al xf 21 (by decide))⟩
    have E_BadText : Er1 PySem.Challenge.rw_figurestay_k00_errors_made_by_hand.prog w K mg base "BadText" "value" (He.ga K "BadText") := ⟨bB_BadText, no_BadText_value, ⟨_, fd_BadText, mt_BadText.1, beq_iff_eq.mp mt_BadText.fn, ini_BadText F_BadText bB_BadText.oex no_BadText_value⟩⟩
    have bB_NotAFormula : ErB K mg "NotAFormula" (He.ga K "NotAFormula") := ⟨gloF X G d (by decide +kernel), oexB_ok (al oex 22 (by decide)), L2.xfB_ok (al xf 22 (by decide))⟩
    have E_NotAFormula : Er1 PySem.Challenge.rw_figurestay_k00_errors_made_by_hand.prog w K mg base "NotAFormula" "at" (He.ga K "NotAFormula") := ⟨bB_NotAFormula, no_NotAFormula_at, ⟨_, fd_NotAFormula, mt_NotAFormula.1, beq_iff_eq.mp mt_NotAFormula.fn, ini_NotAFormula F_NotAFormula bB_NotAFormula.oex no_NotAFormula_at⟩⟩
    have bB_Taken : ErB K mg "Taken" (He.ga K "Taken") := ⟨gloF X G d (by decide +kernel), oexB_ok (al oex 23 (by decide)), L2.xfB_ok (al xf 23 (by decide))⟩
    have E_Taken : Er1 PySem.Challenge.rw_figurestay_k00_errors_made_by_hand.prog w K mg base "Taken" "name" (He.ga K "Taken") := ⟨bB_Taken, no_Taken_name, ⟨_, fd_Taken, mt_Taken.1, beq_iff_eq.mp mt_Taken.fn, ini_Taken F_Taken bB_Taken.oex no_Taken_name⟩⟩
    have bB_Unknown : ErB K mg "Unknown" (He.ga K "Unknown") := ⟨gloF X G d (by decide +kernel), oexB_ok (al oex 24 (by decide)), L2.xfB_ok (al xf 24 (by decide))⟩
    have E_Unknown : Er1 PySem.Challenge.rw_figurestay_k00_errors_made_by_hand.prog w K mg base "Unknown" "name" (He.ga K "Unknown") := ⟨bB_Unknown, no_Unknown_name, ⟨_, fd_Unknown, mt_Unknown.1, beq_iff_eq.mp mt_Unknown.fn, ini_Unknown F_Unknown bB_Unknown.oex no_Unknown_name⟩⟩
    have bB_InUse : ErB K mg "InUse" (He.ga K "InUse") := ⟨gloF X G d (by decide +kernel), oexB_ok (al oex 25 (by decide)), L2.xfB_ok (al xf 25 (by decide))⟩
    have E_InUse : Er1 PySem.Challenge.rw_figurestay_k00_errors_made_by_hand.prog w K mg base "InUse" "name" (He.ga K "InUse") := ⟨bB_InUse, no_InUse_name, ⟨_, fd_InUse, mt_InUse.1, beq_iff_eq.mp mt_InUse.fn, ini_InUse F_InUse bB_InUse.oex no_InUse_name⟩⟩
    have bB_BadPromise : ErB K mg "BadPromise" (He.ga K "BadPromise") := ⟨gloF X G d (by decide +kernel), oexB_ok (al oex 26 (by decide)), L2.xfB_ok (al xf 26 (by decide))⟩
    have E_BadPromise : Er1 PySem.Challenge.rw_figurestay_k00_errors_made_by_hand.prog w K mg base "BadPromise" "told" (He.ga K "BadPromise") := ⟨bB_BadPromise, no_BadPromise_told, ⟨_, fd_BadPromise, mt_BadPromise.1, beq_iff_eq.mp mt_BadPromise.fn, ini_BadPromise F_BadPromise bB_BadPromise.oex no_BadPromise_told⟩⟩
    have bB_Broken : ErB K mg "Broken" (He.ga K "Broken") := ⟨gloF X G d (by decide +kernel), oexB_ok (al oex 27 (by decide)), L2.xfB_ok (al xf 27 (by decide))⟩
    have E_Broken : Er2 PySem.Challenge.rw_figurestay_k00_errors_made_by_hand.prog w K mg base "Broken" "told" "worths" (He.ga K "Broken") := ⟨bB_Broken, no_Broken_told, no_Broken_worths, ⟨_, fd_Broken, mt_Broken.1, beq_iff_eq.mp mt_Broken.fn, ini_Broken F_Broken bB_Broken.oex no_Broken_told no_Broken_worths⟩⟩
    have R : Ers PySem.Challenge.rw_figurestay_k00_errors_made_by_hand.prog w K mg base := ⟨E_BadValue, E_TooFine, E_NoFigures, E_BadStep, E_WideColumn, E_TooWide, E_NoColumn, E_BadWorths, E_NotOnce, E_NoDivisor, E_Overflow, E_NotPlain, E_Divides, E_NotSteady, E_NotASum, E_NotLinear, E_CanOver, E_ColumnsDiffer, E_BadEntry, E_Gaps, E_BadColumn, E_BadText, E_NotAFormula, E_Taken, E_Unknown, E_InUse, E_BadPromise, E_Broken, gloF X G d (by decide +kernel), fun i hi => excB_ok (ar isE i hi), fun i j hi hj => of_decide_eq_true (ar (ar kitE i hi) j hj), fun i hi => of_decide_eq_true (ar kitF i hi), fun i hi => of_decide_eq_true (ar kitV i hi)⟩
    have XM : Exm K := ⟨of_decide_eq_true exmNoDivisor, of_decide_eq_true exmBadStep, of_decide_eq_true exmCanOver, of_decide_eq_true exmBroken, of_decide_eq_true exmNoFigures⟩
    have L0 := ok_begin (P := PySem.Challenge.rw_figurestay_k00_errors_made_by_hand.prog) (w := w) (base := base) A__law_pen B
    have L1 := drawn_of (ok_drawW (P := PySem.Challenge.rw_figurestay_k00_errors_made_by_hand.prog) (w := w) (base := base) A__law_draw B)
    have L2 := ok_pick A__law_pick B L1
    have L3 := ok_al A__law_alone R
    have L4 := ok_mo A__law_more R
    have L5 := ok_ki A__law_kinds B R
    have L6 := ok_ap A__law_apart B hV R L5
    have L7 := ok_ra A__law_raise R XM
    have L8 := ok_ca A__law_caught R.gF L7
    exact ok_law FL' B L0 L2 L3 L4 L6 L8
end
end K00
open PySem PySem.W PySem.Calls PyProof.Rows
theorem PySem.Challenge.cw_figurestay_k00_errors_made_by_hand_holds : PySem.Challenge.rw_figurestay_k00_errors_made_by_hand.Holds := by
  w_on; o_law
  refine HandSHeadRun.head_any (r := OpenLaw.row PySem.Challenge.rw_figurestay_k00_errors_made_by_hand) (q := view (OpenLaw.row PySem.Challenge.rw_figurestay_k00_errors_made_by_hand).prog [40]) (H := K00.hkL) (ob := K00.obL) (M := 12000) (loose := K00.looseL)
    (d := HandSHeadRun.topDef (OpenLaw.row PySem.Challenge.rw_figurestay_k00_errors_made_by_hand).prog 40) (kwd := []) K00.obL_eq
    (by kernel_rfl) (fun s => by kernel_rfl) K00.runL (by kernel_rfl) (by kernel_rfl) (by kernel_rfl) (by rfl) (by first | assumption | decide +kernel) (by decide +kernel) ⟨rfl, rfl, rfl, rfl, rfl, by decide +kernel⟩ ?hw ?hc
  case hw => w_witness2
  case hc =>
    refine LamX.walk_ofTsE (l := PySem.Challenge.rw_figurestay_k00_errors_made_by_hand) (n := 63) (k := 6) (x := "_law_script") (CX := fun _ => L2.CX0) rfl (by decide) (by kernel_rfl) ⟨rfl, by decide, by decide⟩ ?F (fun _ _ _ _ _ z => z)
    intro w mg fa h Y G hmg0
    obtain ⟨K, KX, c, cp⟩ := Y
    have hmg : mg ("law" : PySem.Str) = some (.ref fa) := by
      have e : (HandSHeadRun.topDef (OpenLaw.row PySem.Challenge.rw_figurestay_k00_errors_made_by_hand).prog 40).name = ("law" : PySem.Str) := by kernel_rfl
      rw [← e]
      exact hmg0
    exact ⟨K, KX, K00.law_at KX G hmg c cp⟩
