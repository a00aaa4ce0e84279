import PyProof.Rows.All
import Wide.All
import OpenK.AllK
import Wide.FinOn
import HandS.ForMost
import HandS.ForExc
import HandS.Wide
import HandS.WideBits
import HandS.IsInst
import HandS.ExcInit
import HandS.ExcField
import HandS.Nested
import HandS.Deep
import HandS.More
import HandS.Codes
import HandS.Lambda
import KE.KDflt
import KE.IntTextLaws
import HandS.ExcOwn
import HandS.WordsExc
import KE.KStateDown
import HandS.Head0
import HandS.Head1
import HandS.Head2
import HandS.HeadEnd
import HandS.HeadHook1
import HandS.HeadHook2
import HandS.HeadHook3
import HandS.HeadHook4
import HandS.HeadWalk
import KE.KOpsOwn
import HandS.OwnEq
import PyProof.Rows.RuleN_abs
import PyProof.InstNe
import PySem.Challenge.RW_figurestay_k50_whole_all_orders
import HandS.Property
import Wide.Once
import HandS.StrMore
import HandS.Text
import HandS.Iter
import PyProof.NeKinds
import HandS.TryOnly
import HandS.ExcIs
import KE.KExcIs
import HandS.TryMany
import HandS.SortKw
import KE.DataMinKey
import PyProof.SeqI3
import KE.SortKeyHeap
import HandS.SortRule
import HandS.Style
import HandS.Zip
import HandS.Conv
import HandS.SortInts
import PyProof.ListRange
import PyProof.LongRange
set_option Elab.async false
set_option linter.all false
set_option maxRecDepth 100000
set_option maxHeartbeats 4000000
/-! own layer, of no law: OWN -/
namespace Own
open PySem PySem.Spec PyProof.Rows L2
/-! ### heaps -/
/-- all but what stands at d is as it was -/
def Keep (d : Addr) (H H' : Hp) : Prop := ∀ b o, b ≠ d → H b = some o → H' b = some o
theorem Keep.refl {d : Addr} {H : Hp} : Keep d H H := fun _ _ _ e => e
theorem Keep.trans {d : Addr} {H H1 H2 : Hp} (a : Keep d H H1) (b : Keep d H1 H2) : Keep d H H2 := fun c o n e => b c o n (a c o n e)
theorem Keep.new {d p : Addr} {o : HO} {H : Hp} (h : H p = none) : Keep d H (upd H p o) := fun b u _ e => by
  rw [upd_ne (ne_of_none e h)]
  exact e
theorem Keep.at {d : Addr} {o : HO} {H : Hp} : Keep d H (upd H d o) := fun b u n e => by
  rw [upd_ne n]
  exact e
theorem Keep.same {d : Addr} {H H' : Hp} (s : Same H H') : Keep d H H' := fun b u _ e => s b u e
theorem same_new {H : Hp} {p : Addr} {o : HO} (h : H p = none) : Same H (upd H p o) := fun b u e => by
  rw [upd_ne (ne_of_none e h)]
  exact e
theorem ne_txt : ¬ (("cells" : Str) = "count") ∧ ¬ (("cells" : Str) = "left") ∧ ¬ (("count" : Str) = "left") ∧ ¬ (("count" : Str) = "cells") ∧ ¬ (("left" : Str) = "cells") ∧ ¬ (("left" : Str) = "count") := by decide +kernel
/-- what the pen's dict holds -/
def penK (p : Addr) (c l : Int) : List (Key × V) := [(Sum.inr "cells", V.ref p), (Sum.inr "count", V.int c), (Sum.inr "left", V.int l)]
theorem pen_cells (p : Addr) (c l : Int) : valV (penK p c l) (Sum.inr "cells" : Key) = some (.ref p) := valV_pos rfl
theorem pen_count (p : Addr) (c l : Int) : valV (penK p c l) (Sum.inr "count" : Key) = some (.int c) := by
  unfold penK
  rw [valV_neg (fun e => ne_txt.1 (Sum.inr.inj e)), valV_pos rfl]
theorem pen_left (p : Addr) (c l : Int) : valV (penK p c l) (Sum.inr "left" : Key) = some (.int l) := by
  unfold penK
  rw [valV_neg (fun e => ne_txt.2.1 (Sum.inr.inj e)), valV_neg (fun e => ne_txt.2.2.1 (Sum.inr.inj e)), valV_pos rfl]
theorem key_dec {a b : Str} (h : ¬ a = b) : decide ((Sum.inr a : Key) = Sum.inr b) = false := decide_eq_false fun e => h (Sum.inr.inj e)
theorem put_count (p : Addr) (c l c' : Int) : putK (penK p c l) (Sum.inr "count" : Key) (.int c') = penK p c' l := by
  unfold penK putK
  simp [key_dec ne_txt.1, key_dec ne_txt.2.2.1, key_dec ne_txt.2.2.2.2.2, ne_txt]
theorem put_left (p : Addr) (c l l' : Int) : putK (penK p c l) (Sum.inr "left" : Key) (.int l') = penK p c l' := by
  unfold penK putK
  simp [key_dec ne_txt.2.1, key_dec ne_txt.2.2.1, ne_txt]
/-- the pen stands at d: at most B draws were begun -/
structure Pen (H : Hp) (d : Addr) (B : Int) : Prop where
  ex : ∃ (p : Addr) (ns : List Int) (c l : Int), H d = some (.dK (penK p c l)) ∧ H p = some (.lst (ns.map V.int)) ∧ ns.length ≤ 63 ∧ 0 ≤ c ∧ c ≤ B
theorem Pen.mono {H : Hp} {d : Addr} {B B' : Int} (h : Pen H d B) (z : B ≤ B') : Pen H d B' := by
  obtain ⟨p, ns, c, l, a, b, e, f, g⟩ := h.ex
  exact ⟨p, ns, c, l, a, b, e, f, by omega⟩
theorem Pen.same {H H' : Hp} {d : Addr} {B : Int} (h : Pen H d B) (s : Same H H') : Pen H' d B := by
  obtain ⟨p, ns, c, l, a, b, e, f, g⟩ := h.ex
  exact ⟨p, ns, c, l, s _ _ a, s _ _ b, e, f, g⟩
end Own

/-! from L06 -/
namespace Own
open PySem PySem.Spec PyProof.Rows L2 LamX NdefX
/-- the integers that stand as defaults -/
def dInts : List Expr → List Int
  | .Constant (.int i) _ _ :: r => i :: dInts r
  | _ => []
/-- the tuple of defaults -/
def DfV (H : Hp) (dV : Value) (ds : List Int) : Prop := (ds = [] ∧ dV = .none) ∨ (ds ≠ [] ∧ ∃ T : Addr, dV = .ref T ∧ H T = some (.tup (ds.map V.int)))
def DfIn (h : Heap) (dV : Value) (us : List Value) : Prop := (us = [] ∧ dV = .none) ∨ (us ≠ [] ∧ ∃ T : Addr, dV = .ref T ∧ IsTup h T us.toArray)
/-- a lambda's words in F (its body apart), its defaults dV -/
abbrev lamFd (F : NF) (b : Expr) (dV doc pm ctv : Value) : FuncData := PySem.W.kdv_fn F.name F.qual F.params (.expr b) F.scope F.cl dV doc pm (.ref F.c) ctv
def LamO (f : Addr) (F : NF) (b : Expr) (dV : Value) : HO := .ext fun h => ∃ doc pm ctv : Value, h.get? f = some ({ cls := .type "function", data := .func (lamFd F b dV doc pm ctv) } : Obj)
/-- at f stands the lambda F, whose body is b -/
def LamAt (H : Hp) (f : Addr) (F : NF) (b : Expr) : Prop := ∃ dV : Value, H f = some (LamO f F b dV) ∧ DfV H dV (dInts F.params.defaults)
theorem lamO_ne {f : Addr} {F : NF} {b : Expr} {dV : Value} (ps : Array Value) : LamO f F b dV ≠ .tbl ps := fun z => by
  unfold LamO at z
  cases z
theorem LamAt.ext {H H' : Hp} {f : Addr} {F : NF} {b : Expr} (h : LamAt H f F b) (e : ExtN H H') : LamAt H' f F b := by
  obtain ⟨dV, h1, h2⟩ := h
  refine ⟨dV, e _ _ h1 lamO_ne, ?_⟩
  rcases h2 with z | ⟨n, T, z, q⟩
  · exact .inl z
  · exact .inr ⟨n, T, z, e _ _ q fun ps z => by cases z⟩
theorem lamO_at {P : Program} {w : World} {H : Hp} {h : Heap} {f : Addr} {F : NF} {b : Expr} (hok : HOk P w H h) (e : LamAt H f F b) :
    ∃ dV doc pm ctv : Value, h.get? f = some ({ cls := .type "function", data := .func (lamFd F b dV doc pm ctv) } : Obj) ∧ ∃ us : List Value, Vals ((dInts F.params.defaults).map V.int) us ∧ DfIn h dV us := by
  obtain ⟨dV, h1, h2⟩ := e
  obtain ⟨doc, pm, ctv, z⟩ := (hok f _ h1).1
  refine ⟨dV, doc, pm, ctv, z, ?_⟩
  rcases h2 with ⟨n, z⟩ | ⟨n, T, z, q⟩
  · rw [n]
    exact ⟨[], .nil, .inl ⟨rfl, z⟩⟩
  · obtain ⟨_, its, r, p⟩ := hok T _ q
    refine ⟨its, r, .inr ⟨fun z => ?_, T, z, p⟩⟩
    rw [z] at r
    cases hd : dInts F.params.defaults with
    | nil => exact n hd
    | cons a l =>
      rw [hd] at r
      cases r
section
variable {X : Cx} {pins : List (Addr × Obj)} {σ : L2.St} {H : Hp} {s : Shared}
theorem lam_laid {F : NF} {b : Expr} {dV doc pm ctv : Value} {t' : Nat} (I : Inv X pins σ H s) :
    Inv X pins σ (upd H s.heap.objs.size (LamO s.heap.objs.size F b dV)) { s with heap := s.heap.push ({ cls := .type "function", data := .func (lamFd F b dV doc pm ctv) } : Obj), toks := t' } := by
  have e : (s.heap.push ({ cls := .type "function", data := .func (lamFd F b dV doc pm ctv) } : Obj)).get? s.heap.objs.size = some ({ cls := .type "function", data := .func (lamFd F b dV doc pm ctv) } : Obj) := Heap.get?_push_size _ rfl
  exact I.laid (fun _ _ z => Heap.get?_push_of_some _ z) (Nat.le_refl _) ⟨⟨doc, pm, ctv, e⟩, ⟨_, e⟩, fun _ _ ⟨d, p, c, z⟩ k => ⟨d, p, c, k _ z⟩⟩
/-- the words of the lambda that X makes: c' its code object -/
abbrev lamF (X : Cx) (params : Arguments) (scope : Scope) (c' : Addr) : NF := ⟨"<lambda>", X.env.qual ++ "<lambda>", params, [], scope, cloFrom X.env.cells scope.names [], c'⟩
/-- a lambda made, its defaults laid, and known from now on -/
theorem lam_tail {T : List (Addr × Str)} {c P : Addr} {params : Arguments} {body : Expr} {scope : Scope} {pos : Pos} {fl : Nat} {dV : Value} {E Q : Value → Shared → Prop} (I : Inv X pins σ H s) (TB : TabB X.base X.mg c P) (hcode : X.env.code = .ref c)
    (hm : (P, X.env.qual ++ "<lambda>") ∈ T) (hu : ∀ p ∈ T, p.1 = P → p.2 = X.env.qual ++ "<lambda>") (hT : Tabs T H) (hfree : ∀ y ∈ scope.names, y.2 = .free → ∃ c, X.env.cells.lookup y.1 = some c)
    (k : ∀ (f c' : Addr) (H1 : Hp) (s' : Shared), Inv X pins σ H1 s' → ExtN H H1 → Tabs T H1 → H f = none → H1 f = some (LamO f (lamF X params scope c') body dV) → H1 c' = some (CodeO c' (X.env.qual ++ "<lambda>")) → Q (.ref f) s') :
    wpAny (model X.prog X.w) X.A (makeTail "<lambda>" (X.env.qual ++ "<lambda>") params (.expr body) scope X.env dV .none none pos fl) Q E s := by
  have hTP := hT (P, X.env.qual ++ "<lambda>") hm
  obtain ⟨ps, hP, trip, among⟩ := hTP
  have oP : s.heap.get? P = some { cls := .none, data := .fields ps } := I.hok P _ hP
  have bl := TB.bm.keeps I.bk
  have gl := I.mod.glob.keeps I.bk
  have cd := TB.code.keeps I.bk
  rcases hc : codeAmong pos ps.toList with _ | cv
  · refine PySem.W.kdv_makeTail (closure_ok hfree) I.ok.glob gl hcode cd oP trip hc TB.gP bl ?_
    intro c' ctv doc h' tk hx hge hlt hrec htb
    obtain ⟨c0, oc, vs, t, hc0, hoc, hdc, hvc⟩ := hrec
    obtain rfl : c0 = c' := (Value.ref.inj hc0).symm
    have fresh : H c0 = none := I.hok.fresh hge
    have I1 := inv_table (t' := tk) (q := X.env.qual ++ "<lambda>") (h' := h') I hP (fun b o n e => hx b o n e) htb hge ⟨oc, vs, t, hoc, hdc, hvc⟩
    generalize eH1 : upd (upd H P (.tbl (ps ++ #[rawInt pos.line, rawInt pos.col, .ref c0]))) c0 (CodeO c0 (X.env.qual ++ "<lambda>")) = H1 at I1
    have at1 : H1 c0 = some (CodeO c0 (X.env.qual ++ "<lambda>")) := by rw [← eH1]; exact upd_same
    have ext1 : ExtN H H1 := fun b o e n => by
      have b1 : b ≠ c0 := ne_of_none e fresh
      have b2 : b ≠ P := fun z => n ps (Option.some.inj (e.symm.trans (z ▸ hP)))
      rw [← eH1, upd_ne b1, upd_ne b2]
      exact e
    have tabs1 : Tabs T H1 := fun p hp => by
      by_cases hb : p.1 = P
      · have hq := hu p hp hb
        rw [hq, hb]
        refine ⟨ps ++ #[rawInt pos.line, rawInt pos.col, .ref c0], ?_, ?_, fun p' cv hcv => ?_⟩
        · rw [← eH1, upd_ne (ne_of_none hP fresh), upd_same]
        · rw [Array.toList_append]
          exact PySem.TriplesOk_snoc _ _ _ _ trip
        · rw [Array.toList_append] at hcv
          rcases among_app _ trip hcv with z | z
          · obtain ⟨c1, a1, a2⟩ := among p' cv z
            exact ⟨c1, a1, ext1 _ _ a2 codeO_ne⟩
          · exact ⟨c0, z, at1⟩
      · obtain ⟨qs, a1, a2, a3⟩ := hT p hp
        refine ⟨qs, ?_, a2, fun p' cv hcv => ?_⟩
        · rw [← eH1, upd_ne (ne_of_none a1 fresh), upd_ne hb]
          exact a1
        · obtain ⟨c1, b1, b2⟩ := a3 p' cv hcv
          exact ⟨c1, b1, ext1 _ _ b2 codeO_ne⟩
    have nf1 : H1 h'.objs.size = none := I1.hok.fresh (Nat.le_refl _)
    have I2 := lam_laid (F := lamF X params scope c0) (b := body) (dV := dV) (doc := doc) (pm := (X.mg "__name__").getD .none) (ctv := ctv) (t' := tk) I1
    have up : ∀ b o, H1 b = some o → upd H1 h'.objs.size (LamO h'.objs.size (lamF X params scope c0) body dV) b = some o := fun b o e => (upd_ne (ne_of_none e nf1)).trans e
    exact k _ c0 _ _ I2 (ext1.trans (ExtN.of up)) (tabs1.ext up) (I.hok.fresh (Nat.le_trans hge (Nat.le_of_lt hlt))) upd_same (up _ _ at1)
  · obtain ⟨c', rfl, at0⟩ := among pos cv hc
    refine PySem.W.kdv_makeTailHit (closure_ok hfree) I.ok.glob gl hcode cd oP trip hc bl ?_
    intro ctv doc h' tk hx hsz
    have I1 : Inv X pins σ H { s with heap := h', toks := tk } := I.kept hx
    have nf1 : H h'.objs.size = none := I1.hok.fresh (Nat.le_refl _)
    have I2 := lam_laid (F := lamF X params scope c') (b := body) (dV := dV) (doc := doc) (pm := (X.mg "__name__").getD .none) (ctv := ctv) (t' := tk) I1
    have up : ∀ b o, H b = some o → upd H h'.objs.size (LamO h'.objs.size (lamF X params scope c') body dV) b = some o := fun b o e => (upd_ne (ne_of_none e nf1)).trans e
    exact k _ c' _ _ I2 (ExtN.of up) (hT.ext up) nf1 upd_same (up _ _ at0)
/-- the reading of a lambda as a value -/
def tLamV (X : Cx) (T : List (Addr × Str)) (params : Arguments) (body : Expr) (scope : Scope) : TE := fun _ H Q => Tabs T H ∧ ∀ (f c' : Addr) (H1 : Hp), ExtN H H1 → Tabs T H1 → H f = none →
  LamAt H1 f (lamF X params scope c') body → H1 c' = some (CodeO c' (X.env.qual ++ "<lambda>")) → Q (.ref f) H1
theorem pe_lamV {T : List (Addr × Str)} {c P : Addr} {params : Arguments} {body : Expr} {scope : Scope} {pos : Pos} (TB : TabB X.base X.mg c P) (hcode : X.env.code = .ref c) (hm : (P, X.env.qual ++ "<lambda>") ∈ T)
    (hu : ∀ p ∈ T, p.1 = P → p.2 = X.env.qual ++ "<lambda>") (hdef : params.defaults = []) (hkd : params.kw_defaults = []) (hfr : ∀ y ∈ scope.names, y.2 = .free → X.env.scope.names.lookup y.1 = some .cell ∨ X.env.scope.names.lookup y.1 = some .free) :
    PE X (.Lambda params body scope pos) (tLamV X T params body scope) := by
  refine ⟨fun pins s σ H Q I h => PySem.W.kla_eval ?_ ?_⟩
  · rw [defaultsOf_eq, hdef, hkd]
    rfl
  rw [makeFunction_eq]
  simp only [List.zip_nil_right, List.filterMap_nil, List.isEmpty_nil, if_true, pure_bind]
  refine lam_tail I TB hcode hm hu h.1 (fun y hy e => ?_) fun f c' H1 s' I1 e1 t1 n1 a1 b1 => ⟨.ref f, H1, I1, rfl, h.2 f c' H1 e1 t1 n1 ⟨.none, a1, .inl ⟨by show dInts params.defaults = []; rw [hdef] <;> rfl, rfl⟩⟩ b1⟩
  rcases hfr y hy e with z | z
  · exact I.ok.has _ (.inl z)
  · exact I.ok.has _ (.inr z)
/-- .. with one integer as default -/
theorem pe_lamV1 {T : List (Addr × Str)} {c P : Addr} {params : Arguments} {body : Expr} {scope : Scope} {pos p1 : Pos} {i : Int} {j : Nat} (TB : TabB X.base X.mg c P) (hcode : X.env.code = .ref c) (hm : (P, X.env.qual ++ "<lambda>") ∈ T)
    (hu : ∀ p ∈ T, p.1 = P → p.2 = X.env.qual ++ "<lambda>") (hdef : params.defaults = [.Constant (.int i) j p1]) (hkd : params.kw_defaults = []) (hfr : ∀ y ∈ scope.names, y.2 = .free → X.env.scope.names.lookup y.1 = some .cell ∨ X.env.scope.names.lookup y.1 = some .free) :
    PE X (.Lambda params body scope pos) (tLamV X T params body scope) := by
  refine ⟨fun pins s σ H Q I h => PySem.W.kdv_lam (by rw [hdef]; rfl) hkd ?_⟩
  rw [hdef]
  refine PySem.W.kdv_all1 (thn ((pe_int (X := X) (i := i) (j := j) (pos := p1)).run pins s σ H (fun v H1 => v = .int i ∧ H1 = H) I ⟨rfl, rfl⟩) ?_)
  rintro u s1 ⟨v, H1, I1, r1, rfl, rfl⟩
  refine PySem.W.kdv_all0 ?_
  rw [makeFunction_eq]
  simp only [List.zip_nil_right, List.filterMap_nil, List.isEmpty_nil, List.isEmpty_cons, if_true, pure_bind, Bool.false_eq_true, if_false]
  refine wpAny_bind (wpAny_newTextTuple ?_)
  have nT : H1 s1.heap.objs.size = none := I1.hok.fresh (Nat.le_refl _)
  have I2 : Inv X pins σ (upd H1 s1.heap.objs.size (.tup [.int i])) { s1 with heap := s1.heap.push { cls := .type "tuple", data := .seq [u].toArray } } :=
    I1.laid (t' := s1.toks) (fun _ _ z => Heap.get?_push_of_some _ z) (Nat.le_refl _) ⟨by show 1 ≤ sizeLine; decide, [u], .cons r1 .nil, IsTup.new s1.heap _⟩
  have up : ∀ b o, H1 b = some o → upd H1 s1.heap.objs.size (HO.tup [V.int i]) b = some o := fun b o e => (upd_ne (ne_of_none e nT)).trans e
  refine lam_tail I2 TB hcode hm hu (h.1.ext up) (fun y hy e => ?_) fun f c' H2 s' I3 e1 t1 n1 a1 b1 => ⟨.ref f, H2, I3, rfl, h.2 f c' H2 ((ExtN.of up).trans e1) t1 ?_ ⟨_, a1, .inr ⟨?_, _, rfl, ?_⟩⟩ b1⟩
  · rcases hfr y hy e with z | z
    · exact I.ok.has _ (.inl z)
    · exact I.ok.has _ (.inr z)
  · cases q : H1 f with
    | none => rfl
    | some o => exact (Option.some_ne_none _ ((up _ _ q).symm.trans n1)).elim
  · show dInts params.defaults ≠ []
    rw [hdef]
    simp [dInts]
  · show H2 s1.heap.objs.size = some (.tup ((dInts params.defaults).map V.int))
    rw [hdef]
    exact e1 _ _ upd_same fun ps z => by cases z
end
/-! ### what a lambda promises -/
structure LOk (P : Program) (w : World) (K : PySem.W.Frag) (mg : Str → Option Value) (base : Heap) (CX : CXT) (k : Nat) (f : Addr) (F : NF) (b : Expr) (fr : List Str) (sp : List (Option V) → Hp → VK → XK → Prop) : Prop where
  run : ∀ (A : Around) (outer : List Env) (s : Shared) (H : Hp) (ws : List (Option V)) (Q : VK) (E : XK), Room k A → Env0 P w K mg base A outer s H → LamAt H f F b → H F.c = some (CodeO F.c F.qual) →
    CellsAt F.cl fr ws s.heap H → sp ws H Q E → codeAny (model P w) A (.call (.ref f) ⟨[], []⟩) (CR CX outer P w H s Q E) s
section
variable {CX : CXT} {P : Program} {w : World} {K : PySem.W.Frag} {mg : Str → Option Value} {base : Heap} {N ps fr : List Str} {F : NF} {b : Expr} {f : Addr} {k : Nat} {sp : List (Option V) → Hp → VK → XK → Prop}
theorem lok_of (S : NScope N ps fr F.scope) (hl : (dInts F.params.defaults).length = ps.length)
    (hb : ∀ (dV doc pm ctv : Value) (s : Shared) (us : List Value), us.length = ps.length → DfIn s.heap dV us → BindsTo s (lamFd F b dV doc pm ctv) ⟨[], []⟩ (ps.zip us))
    (hbody : ∀ (A : Around) (outer : List Env) (s : Shared) (H : Hp) (ws : List (Option V)) (Q : VK) (E : XK), Room k (A.deeper (envF F f s.heap.objs.size)) → ws.length = fr.length → sp ws H Q E →
      ∃ t, PE (ncx CX P w K mg base N F f A outer s H E) b t ∧ t (startF N ((dInts F.params.defaults).map V.int) ws) H Q) : LOk P w K mg base CX (k + 1) f F b fr sp := by
  refine ⟨fun A outer s H ws Q E hr e0 hf hc C hsp => ?_⟩
  have lim : s.heap.NoLimit := e0.mod.nolimit.keeps fun b o e => (e0.bs b o e).1
  obtain ⟨dV, doc, pm, ctv, ho, us, rus, hd⟩ := lamO_at e0.hok hf
  have hlu : us.length = ps.length := by rw [← rus.length, List.length_map, hl]
  refine PySem.W.kla_callFunE hr.depth ho rfl S.co S.gen rfl (codeO_at e0.hok hc) ?_
  refine hb dV doc pm ctv s us hlu hd _ _ _ _ ?_
  refine wpAny_newFunctionEnv S.nocell (fun ⟨n, v⟩ hy => S.par n (List.of_mem_zip hy).1) (fun h₁ hns hsb => ⟨lim.fresh _ hsb, ?_⟩) S.kind
  show codeAny _ _ (.expr b (envF F f s.heap.objs.size)) _ _
  obtain ⟨t, ht, hq⟩ := hbody A outer s H ws Q E (hr.deeper _) C.len hsp
  have old : ∀ b o, s.heap.get? b = some o → h₁.get? b = some o := fun b o e => hsb.extBut b o (Nat.ne_of_lt (Heap.lt_size e)) (Heap.get?_push_of_some _ e)
  have I := inv_startN (CX := CX) (N := N) (F := F) (f := f) (E := E) (us := us) (vs := (dInts F.params.defaults).map V.int) (tk := s.toks + (ps.zip us).length) S hr.hd e0 (by rw [List.length_map, hl]) rus C hns old
  refine PySem.W.kla_codeExpr (wpAny_mono (ht.run [] _ _ H Q I hq) (fun v s' q => ?_) fun e s' q => q)
  obtain ⟨x, H', J, rx, q⟩ := q
  exact ⟨x, H', J.os, J.bare, J.base, J.hok, rx, q⟩
end
end Own

/-! from M06 -/
namespace Own
open PySem PySem.Spec PyProof.Rows L2 LamX NdefX
section
variable {X : Cx} {pins : List (Addr × Obj)} {σ : L2.St} {H : Hp} {s : Shared} {cl : List (Str × Addr)} {fr : List Str} {ws : List (Option V)}
/-- what captured cells held at the entry they hold still -/
theorem cells_still (C : CellsAt cl fr ws X.s_0.heap X.H_0) (hx : ∀ b, b ∉ X.ex ∨ ∀ y, cl.lookup y ≠ some b) (I : Inv X pins σ H s) : CellsAt cl fr ws s.heap H := by
  have nx : ∀ {y c}, cl.lookup y = some c → c ∉ X.ex := fun {y c} e => (hx c).elim id fun z => absurd e (z y)
  have still : ∀ {y c v}, cl.lookup y = some c → X.s_0.heap.IsCell c v → s.heap.IsCell c v := fun {y c v} e ⟨o, ho, hd⟩ => by
    obtain ⟨sl, z⟩ := I.base.any ho (C.all y c e).1 (nx e)
    exact ⟨_, z, hd⟩
  constructor
  · exact C.len
  · intro y c e
    obtain ⟨n, v, z⟩ := C.all y c e
    obtain ⟨o, ho, _⟩ := id z
    exact ⟨I.base.free c o ho n (nx e), v, still e z⟩
  · exact C.inj
  · intro i y e
    obtain ⟨c, hc, hv⟩ := C.has i y e
    refine ⟨c, hc, fun v ev => ?_⟩
    obtain ⟨u, r, z⟩ := hv v ev
    exact ⟨u, r, still hc z⟩
/-- the call of a made lambda -/
theorem run_lam {CX : CXT} {k : Nat} {f : Addr} {F : NF} {b : Expr} {sp : List (Option V) → Hp → VK → XK → Prop} {Q : VK} {E : XK} (G : LOk X.prog X.w X.K X.mg X.base CX k f F b fr sp) (hr : Room k X.A) (hx : Passes CX X E) (I : Inv X pins σ H s)
    (hf : LamAt H f F b) (hc : H F.c = some (CodeO F.c F.qual)) (C : CellsAt F.cl fr ws s.heap H) (q : sp ws H Q E) : wpAny (model X.prog X.w) X.A (call (.ref f) []) (EP X pins σ Q) X.xe s := by
  refine wpAny_call (codeAny_mono (G.run _ _ _ _ _ _ _ hr I.env0 hf hc C q) fun r s' z => ?_)
  rcases r with e | fl
  · exact hx pins σ H s e s' I z
  · cases fl
    case ret u => exact I.after z
    all_goals exact False.elim z
/-- deed(), deed a name whose slot holds a lambda; what it captured is known at the entry of this very def -/
theorem pe_deed {CX : CXT} {k i : Nat} {f : Addr} {F : NF} {b : Expr} {sp : List (Option V) → Hp → VK → XK → Prop} {E : XK} {a : Str} {p1 p2 : Pos} (C : CellsAt F.cl fr ws X.s_0.heap X.H_0) (hex : X.ex = []) (G : LOk X.prog X.w X.K X.mg X.base CX k f F b fr sp) (hr : Room k X.A)
    (hx : Passes CX X E) (hN : X.N[i]? = some a) (hv : Vis X.env.scope a) (hd : (a == ("__debug__" : Str)) = false := by decide) (hcd : (a == ("__classdict__" : Str)) = false := by decide) :
    PE X (.Call (.Name a p1) [] [] p2) (fun σ H Q => σ[i]? = some (some (.ref f)) ∧ LamAt H f F b ∧ H F.c = some (CodeO F.c F.qual) ∧ sp ws H Q E) := by
  constructor
  intro pins s σ H Q I h
  obtain ⟨hs, hf, hc, q⟩ := h
  refine wpAny_Call_Name_kw (thn ((pe_var (pos := p1) hN hv hd hcd).run pins s σ H (fun v H1 => v = .ref f ∧ H1 = H) I ⟨.ref f, hs, rfl, rfl⟩) ?_)
  rintro u s1 ⟨v, H1, I1, r1, rfl, rfl⟩
  obtain rfl : u = Value.ref f := r1
  obtain ⟨dV, doc, pm, ctv, ho, _⟩ := lamO_at I1.hok hf
  refine PySem.W.callWith_F0 ⟨_, _, _, _, ho⟩ ?_
  exact run_lam G hr hx I1 hf hc (cells_still C (fun _ => .inl (by rw [hex]; simp)) I1) q
end
section
variable {X : Cx}
/-- a list comprehension's reading, the element's depending on the def's slots as the block begins -/
def tLcD (wi : TI) (g : TG) (te : L2.St → TE) (vs : List Nat) : TE := fun σ H Q => tLc wi g tYes (te σ) vs σ H Q
theorem pe_lcD {elt tg iter : Expr} {scope : Scope} {own : List (Str × Nat)} {pos : Pos} {wi : TI} {g : TG} {te : L2.St → TE} (hc : X.calm = true) (hN : X.N.Nodup) (hi : PI X tg iter wi) (ok : BlkOk X.N X.env.scope scope own)
    (hg : ∀ (s : Shared) (H : Hp) (C : Addr) (cl : List (Str × Addr)) (fp : List Addr), PG (X.blk s H scope (compEnvC scope cl C X.env) fp) tg g)
    (he : ∀ (pins : List (Addr × Obj)) (σ : L2.St) (s : Shared) (H : Hp) (C : Addr) (cl : List (Str × Addr)) (fp : List Addr), Inv X pins σ H s → (∀ b ∈ fp, FpOk X pins H b) → PE (X.blk s H scope (compEnvC scope cl C X.env) fp) elt (te σ))
    (hs : ∀ x, foldedSetIterable iter X.env x = pure x := by intro _; rfl) : PE X (.ListComp elt [⟨tg, iter, [], 0⟩] scope pos) (tLcD wi g te (own.map (·.2))) := by
  constructor
  intro pins s σ H Q I h
  have cap : ∀ y ∈ scope.names, y.2 = .free → ∃ c, X.env.cells.lookup y.1 = some c := fun y hy e => (ok.free y hy e).elim (fun z => I.ok.has _ (.inl z)) (fun z => I.ok.has _ (.inr z))
  rw [eval_ListComp]
  refine wpAny_comprehension_free (use := none) rfl hs (closure_ok cap) ok.kind (fun y hy e => (ok.uniq y hy).trans (congrArg some e)) ?_
  refine thn (hi.run pins s σ H _ I h) fun itr sA hA => thn hA fun _ sB hB => ?_
  obtain ⟨it, fp, tn, J, HB, rfl, IB, T, tB, fB, q⟩ := hB
  have nD : HB sB.heap.objs.size = none := IB.hok.fresh (Nat.le_refl _)
  obtain ⟨W, ⟨m0, w0⟩, turn⟩ := q _ nD
  refine wpAny_newObj_type (newEnv_comp ?_) (by show 0 ≤ sizeLine; decide)
  have inSz : ∀ b ∈ fp, b < sB.heap.objs.size := fun b hb => (T.obj _ _ tB b hb).elim fun _ z => Heap.lt_size z.1
  -- the new list stands
  generalize hsC : ({ sB with heap := sB.heap.push { cls := .type "list", data := .seq ([] : List Value).toArray } } : Shared) = sC
  have heapC : sC.heap = sB.heap.push { cls := .type "list", data := .seq ([] : List Value).toArray } := by subst hsC; rfl
  have toC : ∀ b o, sB.heap.get? b = some o → sC.heap.get? b = some o := fun b o z => by rw [heapC]; exact Heap.get?_push_of_some _ z
  generalize hD : sB.heap.objs.size = D at nD w0 turn inSz
  have IC : Inv X pins σ (upd HB D (.lst [])) sC := by
    have z := IB.laid (a := D) (o := .lst []) (t' := sB.toks) (h' := sC.heap) toC (Nat.le_of_eq hD) ⟨Nat.zero_le _, [], 0, .nil, by rw [heapC, ← hD]; exact Heap.get?_push_size _ rfl⟩
    subst hsC
    exact z
  generalize hHC : upd HB D (.lst []) = HC at IC w0
  have fC : ∀ b ∈ fp, FpOk X pins HC b ∧ b < sC.heap.objs.size := fun b hb => by
    have lt := inSz b hb
    refine ⟨⟨?_, (fB b hb).2⟩, ?_⟩
    · rw [← hHC, upd_ne (Nat.ne_of_lt lt)]
      exact (fB b hb).1
    · rw [heapC, Heap.size_push, hD]
      exact Nat.lt_succ_of_lt lt
  have tC : tn 0 sC.heap := T.keep _ _ _ tB fun b _ o z => toC b o z
  have blk := block_start IC ok hN fC
  generalize hcl : cellsFrom (sC.heap.objs.size + 1) scope.names (cloFrom X.env.cells scope.names []) = cells at blk ⊢
  have hgB := hg sC HC sC.heap.objs.size cells fp
  have heB := he pins σ sC HC sC.heap.objs.size cells fp IC (fun b hb => (fC b hb).1)
  have htB : PTs (X.blk sC HC scope (compEnvC scope cells sC.heap.objs.size X.env) fp) [] tYes := pts_nil
  show codeAny _ _ (.compStart (.ListComp elt [⟨tg, iter, [], 0⟩] scope pos) 0 (.ref it) (.ref D) (compEnvC scope cells sC.heap.objs.size X.env)) (compPost (model X.prog X.w) X.A X.xe none (EP X pins σ Q) (.ref D) sC.heap.objs.size) { sC with heap := pushCells (sC.heap.push { cls := .type "dict", data := .dict #[] }) scope.names }
  generalize hce : compEnvC scope cells sC.heap.objs.size X.env = ce at blk hgB heB htB ⊢
  have ceL : ce.locals = sC.heap.objs.size := by rw [← hce]; rfl
  generalize hsE : ({ sC with heap := pushCells (sC.heap.push { cls := .type "dict", data := .dict #[] }) scope.names } : Shared) = sE at blk ⊢
  have tE : tn 0 sE.heap := T.keep _ _ _ tC fun b _ o z => by rw [← hsE]; exact pushCells_keeps _ _ _ _ (Heap.get?_push_of_some _ z)
  -- the iterator's objects as the block sees them
  have seen : ∀ {σ' : L2.St} {H' : Hp} {s' : Shared}, Inv (X.blk sC HC scope ce fp) [] σ' H' s' → (∀ b ∈ fp, H' b = none) → ∀ b ∈ fp, FpOk (X.blk sC HC scope ce fp) [] H' b := fun {σ' H' s'} J' n b hb => by
    have z1 := J'.ok.exf b hb
    exact ⟨n b hb, z1.1, J'.ok.exfs b hb, .inl hb, z1.2, fun p hp => absurd (show p ∈ ([] : List (Addr × Obj)) ++ [] from hp) (by simp)⟩
  have whole : codeAny (model X.prog X.w) X.A (.compLoop (.ListComp elt [⟨tg, iter, [], 0⟩] scope pos) 0 (.ref it) (.ref D) ce) (compPost (model X.prog X.w) X.A X.xe none (EP X pins σ Q) (.ref D) sC.heap.objs.size) sE := by
    refine compLoop_any (fun n s' => ∃ (i : Nat) (H' : Hp), W i n H' ∧ (∀ b ∈ fp, H' b = none) ∧ tn i s'.heap ∧ Inv (X.blk sC HC scope ce fp) [] (wipe σ (own.map (·.2))) H' s') ?_ m0 ⟨0, HC, w0, fun b hb => (fC b hb).1.1, tE, blk⟩
    rintro n sF ⟨i, HF, wF, nF, tF, IF⟩
    rcases turn i n HF wF with ⟨hstop, hq⟩ | ⟨hgo, Nx, hNx, step⟩
    · have fin := T.done (X.blk sC HC scope ce fp) rfl rfl rfl hc i [] sF _ HF (fun _ _ => False) IF (seen IF nF) tF hstop
      refine thnF fin ?_
      rintro _ sG ⟨rfl, IG⟩
      have IX : Inv X pins σ HF sG := IC.call' (ch := fp) IG.os IG.base IG.hok IG.bare fun b hb => by
        obtain ⟨⟨_, a1, a2, a3, a4, a5⟩, _⟩ := fC b hb
        exact ⟨a3, a1, a4, a5⟩
      have free : HF sC.heap.objs.size = none := by
        have z : HF ce.locals = none := IG.free
        rw [← ceL]
        exact z
      obtain ⟨m, hn, _⟩ := IG.loc
      have hn : sG.heap.Ns ce.locals m := hn
      rw [ceL] at hn
      obtain ⟨f0, f1, f2, f3, f4, f5⟩ := IC.fpOk (H' := HF) (Nat.le_refl _) free
      exact ⟨m, hn, fun h2 sb => ⟨.ref D, HF, IX.turned (t' := sG.toks) (fun b o hb e => (sb.2 b hb).trans e) f0 f1 f3 f4 f5, rfl, hq⟩⟩
    · have nxt := T.item (X.blk sC HC scope ce fp) rfl rfl rfl hc i [] sF _ HF (fun _ _ => False) IF (seen IF nF) tF hgo
      refine thnF nxt ?_
      rintro _ sG ⟨u, rfl, hG⟩
      refine thnF hG ?_
      rintro _ sI ⟨x, HI, II, rI, yI, tI, nI⟩
      have pinned := II.pinned (seen II nI) (T.obj _ _ tI)
      refine thnF (hgB.run _ sI _ HI x u _ pinned rI (step x HI yI)) ?_
      rintro _ sJ ⟨σJ, HJ, IJ, hwJ, qJ⟩
      refine thnF (htB.run _ sJ σJ HJ _ IJ qJ) ?_
      rintro b sK ⟨HK, IK, qK⟩
      have again : ∀ {s' : Shared} {H' : Hp}, Inv (X.blk sC HC scope ce fp) ([] ++ pinsAt fp sI.heap) σJ H' s' → Nx H' → ∃ m, m < n ∧ ∃ (i : Nat) (H' : Hp), W i m H' ∧ (∀ b ∈ fp, H' b = none) ∧ tn i s'.heap ∧ Inv (X.blk sC HC scope ce fp) [] (wipe σ (own.map (·.2))) H' s' := fun {s' H'} J' hx => by
        obtain ⟨m', lt, w'⟩ := hNx H' hx
        have pn : ∀ b ∈ fp, ∀ o, sI.heap.get? b = some o → s'.heap.get? b = some o ∧ H' b = none := fun b hb o z => by
          have y := J'.pin (b, o) (List.mem_append_right _ (List.mem_append_right _ (mem_pinsAt hb z)))
          exact ⟨y.1, y.2.1⟩
        refine ⟨m', lt, i + 1, H', w', fun b hb => ?_, T.keep _ _ _ tI fun b hb o z => (pn b hb o z).1, ?_⟩
        · obtain ⟨o, z, _⟩ := T.obj _ _ tI b hb
          exact (pn b hb o z).2
        · refine (J'.unpinned (pins := [])).weak (by rw [← hwJ, wipe_length]) fun j v z => ?_
          rw [← hwJ] at z
          exact (wipe_some z).1
      cases b
      case false =>
        simp only [Bool.false_eq_true, if_false] at qK ⊢
        exact again IK qK
      case true =>
        simp only [if_true] at qK ⊢
        refine thnF (heB.run _ sK σJ HK _ IK qK) ?_
        rintro z sL ⟨y, HL, IL, rL, acc, hacc, hlen, hnx⟩
        exact app_ok (X := X.blk sC HC scope ce fp) IL hacc hlen rL fun sM IM => again IM hnx
  exact codeAny_compStart_list whole (T.self X.A 0 _ _ _ tE whole)
end
end Own

/-! from N06 -/
namespace Own
open PySem PySem.Spec PyProof.Rows L2 LamX NdefX
/-- a def of the text as its callers know it -/
structure DefOk (P : Program) (w : World) (K : PySem.W.Frag) (mg : Str → Option Value) (base : Heap) (CX : CXT) (x : Str) (k : Nat) (ps : List Str) (sp : Sp) : Prop where
  ex : ∃ (f : Addr) (fd : FuncData), FnOk P w K mg base CX k f fd ps sp ∧ mg x = some (.ref f) ∧ PySem.W.keepIn K (.ref f) = true ∧ Binds K fd ps []
/-- .. as the top has left it -/
structure At (K : PySem.W.Frag) (mg : Str → Option Value) (x : Str) (st : Stmt) (ps : List Str) : Prop where
  ex : ∃ (f : Addr) (fd : FuncData), Fun K x x st f fd ∧ mg x = some (.ref f) ∧ Binds K fd ps []
theorem At.ok {P : Program} {w : World} {K : PySem.W.Frag} {mg : Str → Option Value} {base : Heap} {CX : CXT} {x : Str} {st : Stmt} {k : Nat} {ps : List Str} {sp : Sp} (a : At K mg x st ps) (h : ∀ (f : Addr) (fd : FuncData), Fun K x x st f fd → FnOk P w K mg base CX k f fd ps sp) :
    DefOk P w K mg base CX x k ps sp := by
  obtain ⟨f, fd, F, g, b⟩ := a.ex
  exact ⟨f, fd, h f fd F, g, F.kp, b⟩
section
variable {X : Cx} {CX : CXT} {k j : Nat} {ps : List Str} {sp : Sp} {E : XK} {x : Str} {p pos : Pos} {e : Expr} {es : List Expr} {t : TA}
theorem pe_def (D : DefOk X.prog X.w X.K X.mg X.base CX x k ps sp) (hr : Room j X.A) (hj : k ≤ j) (hg : Gl X x) (hx : Passes CX X E) (ha : PA X (e :: es) t) (hdb : (x == ("__debug__" : Str)) = false := by decide)
    (he : starEach (e :: es) X.env = (false, eval e X.env) :: starEach es X.env := by rfl) (hpl : (backTo pos (starEach es X.env)).any (·.1) = false := by rfl) : PE X (.Call (.Name x p) (e :: es) [] pos) (tCall sp [] E t) := by
  obtain ⟨f, fd, F, g, kp, b⟩ := D.ex
  exact pe_call F (hr.mono hj) hg g kp b .nil hx ha hdb he hpl
theorem pe_def0 (D : DefOk X.prog X.w X.K X.mg X.base CX x k ps sp) (hr : Room j X.A) (hj : k ≤ j) (hg : Gl X x) (hx : Passes CX X E) (hdb : (x == ("__debug__" : Str)) = false := by decide) : PE X (.Call (.Name x p) [] [] pos) (tCall sp [] E tNil) := by
  obtain ⟨f, fd, F, g, kp, b⟩ := D.ex
  exact pe_call0 F (hr.mono hj) hg g kp b .nil hx hdb
end
/-- a def whose first argument is a lambda; sp: what it makes of the lambda's promise and of the other arguments -/
structure LamDef (P : Program) (w : World) (K : PySem.W.Frag) (mg : Str → Option Value) (base : Heap) (g : Addr) (k : Nat) (sp : (Hp → VK → XK → Prop) → List V → Hp → VK → Prop) : Prop where
  run : ∀ (A : Around) (outer : List Env) (s : Shared) (H : Hp) (us : List Value) (f : Addr) (vs : List V) (F : NF) (b : Expr) (fr : List Str) (ws : List (Option V)) (spl : List (Option V) → Hp → VK → XK → Prop) (kl : Nat) (Q : VK), Room k A → kl < k → Env0 P w K mg base A outer s H →
    Vals (.ref f :: vs) us → LOk P w K mg base (L2.CX P w) kl f F b fr spl → LamAt H f F b → H F.c = some (CodeO F.c F.qual) → CellsAt F.cl fr ws s.heap H → sp (spl ws) vs H Q →
    codeAny (model P w) A (.call (.ref g) ⟨us, []⟩) (CR CX0 outer P w H s Q E0) s
structure LamDefAt (P : Program) (w : World) (K : PySem.W.Frag) (mg : Str → Option Value) (base : Heap) (x : Str) (k : Nat) (sp : (Hp → VK → XK → Prop) → List V → Hp → VK → Prop) : Prop where
  ex : ∃ g : Addr, LamDef P w K mg base g k sp ∧ mg x = some (.ref g) ∧ PySem.W.keepIn K (.ref g) = true
/-- one of several lambdas: its words by its code object's address, its body, the captured names and their values, its promise -/
structure Lam where
  nf : Addr → NF
  b : Expr
  fr : List Str
  ws : List (Option V)
  sp : List (Option V) → Hp → VK → XK → Prop
def tLamCall {ι : Type} (L : ι → Lam) (sp : (Hp → VK → XK → Prop) → List V → Hp → VK → Prop) (t : TA) : TE := fun σ H Q => t σ H fun vs H1 => ∃ (i : ι) (f c' : Addr) (rest : List V), vs = .ref f :: rest ∧ LamAt H1 f ((L i).nf c') (L i).b ∧
  H1 ((L i).nf c').c = some (CodeO ((L i).nf c').c ((L i).nf c').qual) ∧ sp ((L i).sp (L i).ws) rest H1 Q
theorem pe_lamcall {ι : Type} {X : Cx} {L : ι → Lam} {k kl j : Nat} {sp : (Hp → VK → XK → Prop) → List V → Hp → VK → Prop} {x : Str} {p pos : Pos} {e : Expr} {es : List Expr} {t : TA} (D : LamDefAt X.prog X.w X.K X.mg X.base x k sp) (hkl : kl < k) (hr : Room j X.A) (hj : k ≤ j)
    (G : ∀ (i : ι) (f c' : Addr), LOk X.prog X.w X.K X.mg X.base (L2.CX X.prog X.w) kl f ((L i).nf c') (L i).b (L i).fr (L i).sp) (C : ∀ (i : ι) (c' : Addr), CellsAt ((L i).nf c').cl (L i).fr (L i).ws X.s_0.heap X.H_0) (hxc : ∀ (i : ι) (c' b : Addr), b ∉ X.ex ∨ ∀ y, ((L i).nf c').cl.lookup y ≠ some b)
    (hg : Gl X x) (ha : PA X (e :: es) t) (hdb : (x == ("__debug__" : Str)) = false := by decide) (he : starEach (e :: es) X.env = (false, eval e X.env) :: starEach es X.env := by rfl) (hpl : (backTo pos (starEach es X.env)).any (·.1) = false := by rfl) :
    PE X (.Call (.Name x p) (e :: es) [] pos) (tLamCall L sp t) := by
  obtain ⟨g, R, gm, kp⟩ := D.ex
  constructor
  intro pins s σ H Q I h
  refine wpAny_Call_Name_kw (ld_glob I hg gm ?_ hdb)
  refine PySem.W.callWith_K (h₀ := X.base) I.ok.mod.kin kp (thn (ha.run pos pins s σ H _ I h) ?_) he hpl
  rintro us s1 ⟨vs, H1, I1, r, i, f, c', rest, rfl, hf, hc, q⟩
  refine ⟨I1.kIn, wpAny_call (codeAny_mono (R.run X.A X.stack s1 H1 us f rest _ _ _ _ _ kl Q (hr.mono hj) hkl I1.env0 r (G i f c') hf hc (cells_still (C i c') (hxc i c') I1) q) fun z s' hz => ?_)⟩
  rcases z with er | fl
  · exact (show False from hz).elim
  · cases fl
    case ret u => exact I1.after hz
    all_goals exact False.elim hz
/-- what the def's own cells hold, told to a block that begins -/
theorem cells_blk {X : Cx} {pins : List (Addr × Obj)} {σ : L2.St} {H : Hp} {s : Shared} {scope : Scope} {fr : List Str} {js : List Nat} (I : Inv X pins σ H s) (hfree : ∀ y ∈ scope.names, y.2 = .free → X.env.scope.names.lookup y.1 = some .cell ∨ X.env.scope.names.lookup y.1 = some .free)
    (hfr : ∀ y ∈ fr, (y, NameKind.free) ∈ scope.names) (hjs : js.map (fun j => X.N[j]?) = fr.map some) : CellsAt (cloFrom X.env.cells scope.names []) fr (js.map (slotAt σ)) s.heap H := cells_of I (Caps.made I.ok hfree hfr hjs)
theorem cells_fp {X : Cx} {pins : List (Addr × Obj)} {σ : L2.St} {H : Hp} {s : Shared} {scope : Scope} {fp : List Addr} (I : Inv X pins σ H s) (hfree : ∀ y ∈ scope.names, y.2 = .free → X.env.scope.names.lookup y.1 = some .cell ∨ X.env.scope.names.lookup y.1 = some .free)
    (hfp : ∀ b ∈ fp, FpOk X pins H b) (b : Addr) : b ∉ fp ∨ ∀ y, (cloFrom X.env.cells scope.names []).lookup y ≠ some b := by
  by_cases hb : b ∈ fp
  · refine .inr fun y z => ?_
    have hf : ∀ y ∈ scope.names, y.2 = .free → ∃ c, X.env.cells.lookup y.1 = some c := fun y hy e => (hfree y hy e).elim (fun z => I.ok.has _ (.inl z)) fun z => I.ok.has _ (.inr z)
    exact (hfp b hb).2.2.2.2.1 y b (clo_cm hf z) rfl
  · exact .inl hb
end Own

/-! from S06 -/
namespace PySem.SeqAt
open AutoSeq1 (wpAny_loadPart')
open MeetsSeq
theorem own_str_dict0 (b : Str) (u : Tok) (l : Addr) (es : Array DictEntry) (ep : Nat) :
    Meets (Builtin.«str.__eq__» ⟨[.str b u, .ref l], []⟩) (fun _ R s => s.heap.get? l = some ({ cls := .type "dict", dict := none, data := .dict es ep, slots := #[] } : Obj) ∧ R (.ok (.ret .notImplemented)) s) :=
  .of_wp fun prog w A R s h => by
    obtain ⟨hp, g, d, tk, os⟩ := s
    obtain ⟨hl, h⟩ := h
    wp_walk using wpAny_loadPart' hl, wpAny_load hl
    exact ⟨_, rfl, h⟩
theorem own_dict_str0 (b : Str) (u : Tok) (l : Addr) (es : Array DictEntry) (ep : Nat) :
    Meets (Builtin.«dict.__eq__» ⟨[.ref l, .str b u], []⟩) (fun _ R s => s.heap.get? l = some ({ cls := .type "dict", dict := none, data := .dict es ep, slots := #[] } : Obj) ∧ R (.ok (.ret .notImplemented)) s) :=
  .of_wp fun prog w A R s h => by
    obtain ⟨hp, g, d, tk, os⟩ := s
    obtain ⟨hl, h⟩ := h
    have f1 := F.sub_str_dict
    wp_walk using wpAny_loadPart' hl, wpAny_load hl
    exact ⟨_, rfl, h⟩
theorem own_rc_str_dict {A : Around} {s : Shared} {l : Addr} {es : Array DictEntry} {ep : Nat} (b : Str) (u : Tok) (ho : s.heap.get? l = some ({ cls := .type "dict", dict := none, data := .dict es ep, slots := #[] } : Obj)) (hu : A.units < cLine) : RcAt A s (.str b u) (.ref l) false :=
  fun prog w E Q h => by
    refine rc_eq_decline_or (k := false) (typeIs_str s b u) ⟨_, ho, rfl⟩ (by decide) F.sub_dict_str F.slot_str_eq F.slot_dict_eq_refl ?_ ?_ ?_ (.inr hu) h
    · exact fun _ hq => call_meets F.slot_str_eq (typeIs_str s b u) F.entry_str_eq (F.args_str_eq_2 _ _) (own_str_dict0 b u l es ep) ⟨ho, hq⟩
    · exact fun _ hq => call_meets F.slot_dict_eq_refl ⟨_, ho, rfl⟩ F.entry_dict_eq (F.args_dict_eq_2 _ _) (own_dict_str0 b u l es ep) ⟨ho, hq⟩
    · exact fun _ hq => wpAny_of_eq (rfl : isSame (.str b u) (.ref l) = pure false) hq
theorem own_eq_str_dict {A : Around} {s : Shared} {l : Addr} {es : Array DictEntry} {ep : Nat} (b : Str) (u : Tok) (ho : s.heap.get? l = some ({ cls := .type "dict", dict := none, data := .dict es ep, slots := #[] } : Obj)) (hu : A.units < cLine) : EqAt A s (.str b u) (.ref l) false :=
  fun prog w E Q h => by
    unfold eqBool
    refine wpAny_holding (wpAny_ite_split (fun z => absurd (eq_of_beq z) nofun) fun _ => ?_)
    exact wpAny_bind (own_rc_str_dict b u ho hu prog w E _ (wpAny_truthy_bool h))
end PySem.SeqAt
namespace Own
open PySem PySem.Spec PyProof.Rows L2
/-- a value that is no text, and no number with a text's place -/
inductive NoTxt (H : Hp) : V → Prop where
  | non : NoTxt H .non
  | bl (b : Bool) : NoTxt H (.bl b)
  | int (i : Int) : NoTxt H (.int i)
  | lst {a : Addr} {xs : List V} (e : H a = some (.lst xs)) : NoTxt H (.ref a)
  | tup {a : Addr} {xs : List V} (e : H a = some (.tup xs)) : NoTxt H (.ref a)
  | dct {a : Addr} {kvs : List (Key × V)} (e : H a = some (.dK kvs)) : NoTxt H (.ref a)
theorem NoTxt.ne {X : Cx} {pins : List (Addr × Obj)} {σ : L2.St} {H : Hp} {s : Shared} {x : V} {v : Value} (I : Inv X pins σ H s) (h : NoTxt H x) (r : RelV x v) {A : Around} (hu : A.units < cLine) (z : Str) (t : Tok) : SeqAt.EqAt A s (.str z t) v false := by
  cases h with
  | non => cases r; exact SeqAt.EqAt.str_none z t
  | bl b => cases r; exact SeqAt.EqAt.str_bool z t b
  | int i =>
    obtain ⟨u, rfl⟩ := r
    exact SeqAt.EqAt.str_int z t i u
  | lst e =>
    cases r
    obtain ⟨its, _, pl, _⟩ := I.list (SqL.of e)
    exact SeqAt.EqAt.str_list z t pl.isList hu
  | tup e =>
    cases r
    obtain ⟨its, _, pl, _⟩ := I.tuple (SqT.of e)
    exact SeqAt.EqAt.str_tuple z t pl hu
  | dct e =>
    cases r
    obtain ⟨_, _, vs, _, ⟨⟨c, dd, da, sl⟩, es, ep, ho, hx, hd, _⟩⟩ := (show ObjOk X.prog X.w H s.heap _ (.dK _) from I.hok _ _ e)
    obtain ⟨rfl, rfl, rfl⟩ := hx
    obtain rfl : da = .dict es ep := hd
    exact SeqAt.own_eq_str_dict z t ho hu
def rNotInW (K : PySem.W.Frag) : R2 := fun x y H Q => ∃ (p : Addr) (zs : List Str), y = .ref p ∧ SqT K H p (zs.map V.str) ∧ NoTxt H x ∧ Q (.bl true) H
theorem op_notInW {X : Cx} (hu : X.A.units + 1 < cLine) : OpR X (compareOp .NotIn) (rNotInW X.K) := by
  intro pins s σ H x y v u Q I rx ry h
  obtain ⟨p, zs, rfl, hq, nt, q⟩ := h
  cases ry
  obtain ⟨its, r, pl, hz⟩ := I.tuple hq
  have txts : ∀ w ∈ its, ∃ (z : Str) (t : Tok), w = .str z t := fun w hw => by
    obtain ⟨i, hi⟩ := List.mem_iff_getElem?.mp hw
    have hlt : i < (zs.map V.str).length := by
      rw [Paired.length r]
      exact (List.getElem?_eq_some_iff.mp hi).1
    obtain ⟨u', h1, h2⟩ := r.get (List.getElem?_eq_getElem hlt)
    rw [hi] at h1
    cases h1
    rw [List.getElem_map] at h2
    obtain ⟨t, z⟩ := h2
    exact ⟨_, t, z⟩
  have hu0 : X.A.units < cLine := Nat.lt_of_le_of_lt (Nat.le_succ _) hu
  have hu' : X.A.in1.units < cLine := by first | exact hu0 | exact hu
  refine SeqAt.notIn_tupleAt (fun _ => false) pl (fun w hw => ?_) ⟨.bl _, H, I, rfl, ?_⟩
  · obtain ⟨z, t, rfl⟩ := txts w (by simpa using hw)
    exact nt.ne I rx hu' z t
  · have e : its.toArray.any (fun _ => false) = false := by simp
    rw [e]
    exact q
end Own


/-! from P06 -/
namespace Own
open PySem PySem.Spec PyProof.Rows L2
inductive Thing (H : Hp) : V → Prop where
  | non : Thing H .non
  | bl (b : Bool) : Thing H (.bl b)
  | int (i : Int) : Thing H (.int i)
  | str (z : Str) : Thing H (.str z)
  | lst {a : Addr} {xs : List V} (e : H a = some (.lst xs)) : Thing H (.ref a)
  | tup {a : Addr} {xs : List V} (e : H a = some (.tup xs)) : Thing H (.ref a)
  | dct {a : Addr} {kvs : List (Key × V)} (e : H a = some (.dK kvs)) : Thing H (.ref a)
theorem Thing.same {H H' : Hp} {x : V} (h : Thing H x) (s : Same H H') : Thing H' x := by
  cases h with
  | non => exact .non
  | bl b => exact .bl b
  | int i => exact .int i
  | str z => exact .str z
  | lst e => exact .lst (s _ _ e)
  | tup e => exact .tup (s _ _ e)
  | dct e => exact .dct (s _ _ e)
def isInt : V → Bool
  | .int _ => true
  | _ => false
def isBl : V → Bool
  | .bl _ => true
  | _ => false
/-- isinstance(x, int), isinstance(x, bool) -/
theorem Thing.isi {K : PySem.W.Frag} {H : Hp} {x : V} (h : Thing H x) : ∃ t : Value, TyX K H x t ∧ PySem.W.kitOne K t (.type "int") = some (isInt x || isBl x) ∧ PySem.W.kitOne K t (.type "bool") = some (isBl x) := by
  cases h with
  | non => exact ⟨_, .base .non, kit_ty (show kitB "NoneType" "int" = some false by decide +kernel), kit_ty (show kitB "NoneType" "bool" = some false by decide +kernel)⟩
  | bl b => exact ⟨_, .base (.bl b), kit_ty (show kitB "bool" "int" = some true by decide +kernel), kit_ty (show kitB "bool" "bool" = some true by decide +kernel)⟩
  | int i => exact ⟨_, .base (.int i), kit_ty (show kitB "int" "int" = some true by decide +kernel), kit_ty (show kitB "int" "bool" = some false by decide +kernel)⟩
  | str z => exact ⟨_, .base (.str z), kit_ty (show kitB "str" "int" = some false by decide +kernel), kit_ty (show kitB "str" "bool" = some false by decide +kernel)⟩
  | lst e => exact ⟨_, .base (.lst e), kit_ty (show kitB "list" "int" = some false by decide +kernel), kit_ty (show kitB "list" "bool" = some false by decide +kernel)⟩
  | tup e => exact ⟨_, .base (.tup e), kit_ty (show kitB "tuple" "int" = some false by decide +kernel), kit_ty (show kitB "tuple" "bool" = some false by decide +kernel)⟩
  | dct e => exact ⟨_, .base (.dK e), kit_ty (show kitB "dict" "int" = some false by decide +kernel), kit_ty (show kitB "dict" "bool" = some false by decide +kernel)⟩
theorem Thing.noTxt {H : Hp} {x : V} (h : Thing H x) : NoTxt H x ∨ ∃ z, x = .str z := by
  cases h with
  | non => exact .inl .non
  | bl b => exact .inl (.bl b)
  | int i => exact .inl (.int i)
  | str z => exact .inr ⟨z, rfl⟩
  | lst e => exact .inl (.lst e)
  | tup e => exact .inl (.tup e)
  | dct e => exact .inl (.dct e)
/-- what a written dict says at a text -/
def KGet (K : PySem.W.Frag) (d : Addr) (z : Str) (r : Option V) : Prop := ∃ ro : Option Value, PySem.W.nsIn K d z = some ro ∧ RelO r ro
section
variable {X : Cx} {d : Addr} {es : Array DictEntry} {n : Nat} {o e f : Expr} {apos cpos : Pos} {td ty tx : TE}
theorem pe_kget2 (D : KDict X.K X.w d es n) (ho : PE X o td) (he : PE X e ty) (hf : PE X f tx) (m : M2 X o "get" apos e f cpos) :
    PE X (.Call (.Attribute o "get" apos) [e, f] [] cpos) (fun σ H Q => td σ H fun x H1 => x = .ref d ∧ ty σ H1 fun y H2 => tx σ H2 fun z H3 => ∃ (t : Str) (r : Option V), y = .str t ∧ KGet X.K d t r ∧ Q (r.getD z) H3) := by
  constructor
  intro pins s σ H Q I h
  refine wpAny_Call_method m.base m.few m.line PySem.F.plainAttrs_dict PySem.F.slot_dict_get PySem.F.type_dict_get (thn (ho.run pins s σ H _ I h) ?_)
  rintro u s1 ⟨x, H1, I1, rx, rfl, q1⟩
  obtain rfl : u = Value.ref d := rx
  refine ⟨kd_type D I1, fun b q => ?_, ?_⟩
  · cases q
    exact ⟨_, I1.kIn _ _ D.at_, rfl⟩
  rw [m.trees]
  refine Calls.callWith_builtin rfl (Calls.evalArgs_plain (Calls.spliced_cons (thn (he.run pins s1 σ H1 _ I1 q1) ?_)))
  rintro iv s2 ⟨y, H2, I2, ry, q2⟩
  refine Calls.spliced_cons (thn (hf.run pins s2 σ H2 _ I2 q2) ?_)
  rintro fv s3 ⟨z, H3, I3, rz, t, r, rfl, ⟨ro, hk, rr⟩, q3⟩
  refine Calls.spliced_nil ?_
  obtain ⟨tk, rfl⟩ := ry
  show wpAny _ _ (call (.builtin "dict.get") [.ref d, .str t tk, fv]) _ _ _
  refine call_meetsIn PySem.F.slot_dict_get (kd_type D I3) PySem.F.entry_dict_get (PySem.F.args_dict_get_3 _ _ _) (meets_dict_get_default (strKind X.prog X.w) d (strKind_is X.prog X.w t tk) D.low fv) ⟨_, PySem.W.mapOf_K (prog := X.prog) I3.kIn D.at_ D.lit, ?_⟩
  rw [PySem.W.find_K D.at_ hk]
  refine ⟨r.getD z, H3, I3.tok _, ?_, q3⟩
  cases r with
  | none =>
    cases ro with
    | none => exact rz
    | some u => exact rr.elim
  | some v =>
    cases ro with
    | none => exact rr.elim
    | some u => exact rr
end
/-! ### an error class whose __init__ keeps one field -/
structure ErrC (P : Program) (w : World) (K : PySem.W.Frag) (mg : Str → Option Value) (base : Heap) (x fld : Str) (k : Nat) (C : Addr) (sp : Sp) : Prop where
  g : mg x = some (.ref C)
  oex : OexC K C
  ini : ∃ (fI : Addr) (fd : FuncData), PySem.W.findIn K (.ref C) "__init__" = some (some (.ref fI)) ∧ PySem.W.typeIn K (.ref fI) = some (.type "function") ∧ FnOk P w K mg base CX0 k fI fd ["self", fld] sp ∧ Binds K fd ["self", fld] []
  xf : XfC K C
  te : PySem.W.exmOne K (.ref C) (.ref C) = some true
  noV : PySem.W.findIn K (.ref C) fld = some none
def spErr (C : Addr) (fld : Str) : Sp := fun vs H Q _ => ∃ (a : Addr) (y : V), vs = [.ref a, y] ∧ H a = some (exo a C none) ∧ ∀ dx, H dx = none → dx ≠ a → Q .non (upd (upd H dx (exd dx [(fld, y)])) a (exo a C (some dx)))
/-- such an error leaves: its value x -/
def Bad (C : Addr) (fld : Str) (x : V) (H : Hp) (E : XK) : Prop := ∀ (d : Addr) (H' : Hp), Same H H' → H d = none → H' d = some (.xd [(fld, x)]) → E (.ref C) (some d) H'
theorem Bad.same {C : Addr} {fld : Str} {x : V} {H H1 : Hp} {E : XK} (h : Bad C fld x H E) (s : Same H H1) : Bad C fld x H1 E := fun d H' s' n e => h d H' (s.trans s') (s.free n) e
section
variable {X : Cx} {x fld : Str} {k j : Nat} {C : Addr} {e : Expr} {te : TE} {p pos : Pos}
theorem pmk_err (D : ErrC X.prog X.w X.K X.mg X.base x fld k C (spErr C fld)) (hr : Room j X.A) (hj : k + 1 ≤ j) (hg : Gl X x) (he : PE X e te) (hdb : (x == ("__debug__" : Str)) = false := by decide)
    (hst : starEach (e :: []) X.env = (false, eval e X.env) :: starEach [] X.env := by rfl) (hpl : (backTo pos (starEach [] X.env)).any (·.1) = false := by rfl) :
    PMk X (.Call (.Name x p) [e] [] pos) (tMkO C (spErr C fld) [] (tCons te tNil)) := by
  obtain ⟨fI, fd, iC, tI, F1, b⟩ := D.ini
  exact pmk_oex D.oex iC tI F1 (hr.mono hj) b .nil (fun _ _ _ _ _ _ _ z => z.elim) hg D.g (pa_cons he pa_nil hst) hdb hst hpl
end
/-- the end of such a making -/
theorem bad_mk {C : Addr} {fld : Str} {y : V} {H : Hp} {Q : XK} (h : Bad C fld y H Q) : [y].length ≤ 1000 ∧ ∀ a, H a = none → spErr C fld (.ref a :: ([y] ++ [])) (upd H a (exo a C none))
    (fun v H2 => v = .non ∧ ∃ (d : Addr) (fs : List (Str × V)), H2 a = some (exo a C (some d)) ∧ H2 d = some (exd d fs) ∧ H d = none ∧ Q (.ref C) (some d) (upd (del H2 a) d (.xd fs))) (fun _ _ _ => False) := by
  refine ⟨by show 1 ≤ 1000; decide, fun a na => ⟨a, y, rfl, upd_same, fun dx ndx ne => ⟨rfl, dx, [(fld, y)], upd_same, ?_, ?_, ?_⟩⟩⟩
  · rw [upd_ne ne, upd_same]
  · rw [upd_ne ne] at ndx
    exact ndx
  · have nd : H dx = none := by
      rw [upd_ne ne] at ndx
      exact ndx
    refine h dx _ (fun b o e => ?_) nd upd_same
    have b1 : b ≠ a := ne_of_none e na
    have b2 : b ≠ dx := ne_of_none e nd
    rw [upd_ne b2, del_ne b1, upd_ne b1, upd_ne b2, upd_ne b1]
    exact e
end Own

/-! from U06 -/
namespace Own
open PySem PySem.Spec PyProof.Rows L2
theorem op_mulS {X : Cx} : OpR X (binaryOp .Mult) (fun x y H Q => ∃ (z : Str) (n : Int), x = .str z ∧ y = .int n ∧ MulOk z n ∧ Q (.str (Txt.mul z n)) H) := by
  intro pins s σ H x y v u Q I rx ry h
  obtain ⟨z, n, rfl, rfl, ok, q⟩ := h
  obtain ⟨t, rfl⟩ := rx
  obtain ⟨t', rfl⟩ := ry
  exact SB.mul ok fun t2 k => ⟨.str _, H, I.tok _, ⟨_, rfl⟩, q⟩
theorem zeros_fold : ∀ (n : Nat) (acc : Array Nat), ((List.replicate n #[48]).foldl (· ++ ·) acc).toList = acc.toList ++ List.replicate n 48
  | 0, acc => by simp
  | n + 1, acc => by
    rw [List.replicate_succ, List.foldl_cons, zeros_fold n, Array.toList_append, List.replicate_succ, List.append_assoc]
    rfl
theorem zero_cps : ("0" : Str).cps = #[48] := by decide +kernel
theorem one_cps : ("1" : Str).cps = #[49] := by decide +kernel
theorem zeros (n : Nat) : (Txt.mul "0" (n : Int)).cps.toList = List.replicate n 48 := by
  unfold Txt.mul
  by_cases h0 : n = 0
  · subst h0
    rw [if_pos (by omega)]
    rfl
  · rw [if_neg (by omega)]
    by_cases h1 : n = 1
    · subst h1
      rw [if_pos (by simp), zero_cps]
      rfl
    · have e : ¬ (((n : Int) == 1 || ("0" : Str).length == 0) = true) := by
        have l : ("0" : Str).length = 1 := by decide +kernel
        rw [l]
        simp
        omega
      rw [if_neg e]
      show ((List.replicate (n : Int).toNat ("0" : Str).cps).foldl (· ++ ·) #[]).toList = _
      rw [zero_cps, Int.toNat_natCast, zeros_fold]
      rfl
/-- '1' + '0' * n -/
def tenS (n : Nat) : Str := ("1" : Str) ++ Txt.mul "0" (n : Int)
theorem tenS_list (n : Nat) : (tenS n).cps.toList = 49 :: List.replicate n 48 := by
  have e : (tenS n).cps = ("1" : Str).cps ++ (Txt.mul "0" (n : Int)).cps := rfl
  rw [e, Array.toList_append, zeros, one_cps]
  rfl
theorem tens_val : ∀ (n a : Nat), (List.replicate n 48).foldl (fun acc c => acc * 10 + (c - 48)) a = a * 10 ^ n
  | 0, a => by simp
  | n + 1, a => by
    rw [List.replicate_succ, List.foldl_cons, tens_val n]
    show (a * 10 + 0) * 10 ^ n = a * 10 ^ (n + 1)
    rw [Nat.add_zero, Nat.pow_succ, Nat.mul_assoc, Nat.mul_comm 10]
theorem str_len (x : Str) : x.length = x.cps.toList.length := by
  cases x
  rfl
theorem tenS_len (n : Nat) : (tenS n).length = n + 1 := by
  rw [str_len, tenS_list, List.length_cons, List.length_replicate]
theorem ten_text {n : Nat} (h : n ≤ 600) : PySem.intText? (tenS n) = some ((10 : Int) ^ n) := by
  have e := PySem.intText_digits (x := tenS n) (fun c hc => by
      rw [tenS_list] at hc
      rcases List.mem_cons.mp hc with rfl | hc
      · exact ⟨by decide, by decide⟩
      · have := (List.mem_replicate.mp hc).2
        omega) (by rw [tenS_list]; simp) (by rw [tenS_len]; omega)
  rw [e]
  have z : NumText.digitsVal (tenS n).cps.toList = 10 ^ n := by
    rw [tenS_list]
    unfold NumText.digitsVal
    rw [List.foldl_cons, tens_val]
    simp
  rw [z]
  simp
theorem mulOk0 {n : Nat} (h : n ≤ 600) : MulOk "0" (n : Int) := by
  have l : ("0" : Str).length = 1 := by decide +kernel
  refine ⟨?_, fun h1 h2 => ?_, fun h1 h2 => ?_⟩
  · rw [Bool.or_eq_false_iff]
    exact ⟨decide_eq_false (by omega), decide_eq_false (by omega)⟩
  · rw [l]
    have z := Int.le_ediv_of_mul_le (c := (n : Int)) (a := 1) (b := 2 ^ 63 - 1) (by omega) (by omega)
    omega
  · rw [l, Nat.one_mul, Int.toNat_natCast]
    exact decide_eq_false (by have := sizeLine_eq; omega)
end Own

/-! from V06 -/
namespace Own
theorem ten_pos (n : Nat) : (0 : Int) < (10 : Int) ^ n := Int.pow_pos (by decide)
theorem ten_mono {m n : Nat} (h : m ≤ n) : (10 : Int) ^ m ≤ (10 : Int) ^ n := by
  obtain ⟨k, rfl⟩ := Nat.le.dest h
  rw [Int.pow_add]
  have a := ten_pos m
  have b : (1 : Int) ≤ (10 : Int) ^ k := ten_pos k
  have := Int.mul_le_mul_of_nonneg_left b (Int.le_of_lt a)
  omega
theorem ten_nat (n : Nat) : ((10 : Int) ^ n).natAbs = 10 ^ n := by
  rw [Int.natAbs_pow]
  rfl
theorem ten_lt (n : Nat) : ((10 : Int) ^ n).natAbs < 2 ^ (4 * n + 1) := by
  rw [ten_nat, Nat.pow_succ, Nat.pow_mul]
  have a : 10 ^ n ≤ (2 ^ 4) ^ n := Nat.pow_le_pow_left (by decide) n
  have b : 0 < (2 ^ 4) ^ n := Nat.pow_pos (by decide)
  omega
theorem lt_two {i j : Int} {k : Nat} (h0 : 0 ≤ i) (h1 : i ≤ j) (h : j.natAbs < 2 ^ k) : i.natAbs < 2 ^ k := Nat.lt_of_le_of_lt (by omega) h
end Own

/-! from W06 -/
namespace Own
open PySem PySem.Spec PyProof.Rows L2
theorem merge_app : ∀ (kvs acc : List (Key × V)), ((acc ++ kvs).map (·.1)).Nodup → mergeK acc kvs = acc ++ kvs
  | [], acc, _ => by simp [mergeK]
  | p :: r, acc, h => by
    have hn : valV acc p.1 = none := by
      cases e : valV acc p.1 with
      | none => rfl
      | some v =>
        have m := valV_in e
        rw [List.map_append, List.nodup_append] at h
        exact absurd rfl (h.2.2 p.1 m p.1 (by simp))
    have z := merge_app r (acc ++ [p]) (by
      rw [List.append_assoc]
      exact h)
    show mergeK (putK acc p.1 p.2) r = acc ++ p :: r
    rw [putK_new _ hn, z, List.append_assoc]
    rfl
theorem merge_new {kvs : List (Key × V)} (h : (kvs.map (·.1)).Nodup) : mergeK [] kvs = kvs := merge_app kvs [] h
/-- a dict of texts -/
def txK (l : List (Str × V)) : List (Key × V) := l.map fun p => (Sum.inr p.1, p.2)
theorem txK_val : ∀ (l : List (Str × V)) (z : Str), valV (txK l) (Sum.inr z : Key) = l.lookup z
  | [], z => rfl
  | p :: r, z => by
    obtain ⟨a, v⟩ := p
    by_cases h : a = z
    · subst h
      rw [show txK ((a, v) :: r) = (Sum.inr a, v) :: txK r from rfl, valV_pos rfl]
      simp [List.lookup]
    · rw [show txK ((a, v) :: r) = (Sum.inr a, v) :: txK r from rfl, valV_neg (fun e => h (Sum.inr.inj e)), txK_val r z]
      have hb : (z == a) = false := by simpa using fun e : z = a => h e.symm
      simp [List.lookup, hb]
theorem DGet.tx {H : Hp} {a : Addr} {l : List (Str × V)} (z : Str) (e : H a = some (.dK (txK l))) : DGet H a (.str z) (l.lookup z) := by
  have q := DGet.k (k := (Sum.inr z : Key)) e
  rw [txK_val] at q
  exact q
end Own

/-! from Y06 -/
namespace Own
open PySem PySem.Spec PyProof.Rows L2
/-- a flat value's datum -/
def datV : V → PyData
  | .bl b => .bool b
  | .int i => .int i
  | .str z => .str z
  | _ => .none
def okF : V → Bool
  | .non => true
  | .bl _ => true
  | .int _ => true
  | .str z => PyData.strOk z
  | _ => false
/-- a value handed in that is equal to itself -/
inductive Odd (H : Hp) : V → Prop where
  | flat {x : V} (h : okF x = true) : Odd H x
  | lst {a : Addr} {xs : List V} (e : H a = some (.lst xs)) (f : xs.all okF = true) : Odd H (.ref a)
  | tup {a : Addr} {xs : List V} (e : H a = some (.tup xs)) (f : xs.all okF = true) : Odd H (.ref a)
  | dct {a : Addr} {kvs : List (Key × V)} (e : H a = some (.dK kvs)) (n : (kvs.map (·.1)).Nodup) (f : ∀ p ∈ kvs, flatB p.2 = true) : Odd H (.ref a)
theorem Odd.same {H H' : Hp} {x : V} (h : Odd H x) (s : Same H H') : Odd H' x := by
  cases h with
  | flat h => exact .flat h
  | lst e f => exact .lst (s _ _ e) f
  | tup e f => exact .tup (s _ _ e) f
  | dct e n f => exact .dct (s _ _ e) n f
theorem Odd.thing {H : Hp} {x : V} (h : Odd H x) : Thing H x := by
  cases h with
  | flat h =>
    cases x <;> first | exact .non | exact .bl _ | exact .int _ | exact .str _ | (simp [okF] at h)
  | lst e f => exact .lst e
  | tup e f => exact .tup e
  | dct e n f => exact .dct e
theorem dp_flat {K : PySem.W.Frag} {H : Hp} {x : V} (h : okF x = true) : Dp K H x (datV x) ∧ (datV x).canLay0 = true ∧ (datV x).depth = 0 := by
  cases x <;> first
    | exact ⟨.non, by simp [datV, PyData.canLay0], by simp [datV, PyData.depth]⟩
    | exact ⟨.bl _, by simp [datV, PyData.canLay0], by simp [datV, PyData.depth]⟩
    | exact ⟨.int _, by simp [datV, PyData.canLay0], by simp [datV, PyData.depth]⟩
    | exact ⟨.str _, by simpa [datV, PyData.canLay0, okF] using h, by simp [datV, PyData.depth]⟩
    | (simp [okF] at h)
theorem dp_flats {K : PySem.W.Frag} {H : Hp} : ∀ {xs : List V}, xs.all okF = true → DpAll K H xs (xs.map datV) ∧ PyData.canLayAll0 (xs.map datV) = true ∧ PyData.depthAll (xs.map datV) = 0
  | [], _ => ⟨.nil, by simp [PyData.canLayAll0], by simp [PyData.depthAll]⟩
  | x :: r, h => by
    rw [List.all_cons, Bool.and_eq_true] at h
    obtain ⟨a1, a2, a3⟩ := dp_flat (K := K) (H := H) h.1
    obtain ⟨b1, b2, b3⟩ := dp_flats (K := K) (H := H) h.2
    exact ⟨.cons a1 b1, by simp [PyData.canLayAll0, a2, b2], by simp [PyData.depthAll, a3, b3]⟩
/-- x == x of such a value: the three rules -/
theorem op_eqOdd {X : Cx} (hu : X.A.units + 64 < cLine) : OpR X (compareOp .Eq) (fun x y H Q => (∃ a b : Int, x = .int a ∧ y = .int b ∧ Q (.bl (decide (a = b))) H) ∨ (Odd H x ∧ y = x ∧ Q (.bl true) H)) := by
  intro pins s σ H x y v u Q I rx ry h
  rcases h with ⟨a, b, rfl, rfl, q⟩ | ⟨od, rfl, q⟩
  · refine op_eq pins s σ H _ _ v u Q I rx ry ⟨rfl, ?_⟩
    have e : decide (V.int a = V.int b) = decide (a = b) := by simp
    rw [e]
    exact q
  · cases od with
    | flat h =>
      obtain ⟨a1, a2, a3⟩ := dp_flat (K := X.K) (H := H) h
      have sh : SeqAt.shaped (datV y) = true := by
        unfold SeqAt.shaped
        rw [a2, a3]
        rfl
      refine op_eqD hu pins s σ H _ _ v u Q I rx ry ⟨_, _, a1, a1, sh, sh, ?_⟩
      rw [SeqAt.eqv_refl _ (SeqAt.canLay_of_shaped sh)]
      exact q
    | @lst a xs e f =>
      obtain ⟨a1, a2, a3⟩ := dp_flats (K := X.K) (H := H) f
      have sh : SeqAt.shaped (.list (xs.map datV)) = true := by
        unfold SeqAt.shaped
        simp [PyData.canLay0, PyData.depth, a2, a3]
      have d : Dp X.K H (.ref a) (.list (xs.map datV)) := .lst (SqL.of e) a1
      refine op_eqD hu pins s σ H _ _ v u Q I rx ry ⟨_, _, d, d, sh, sh, ?_⟩
      rw [SeqAt.eqv_refl _ (SeqAt.canLay_of_shaped sh)]
      exact q
    | @tup a xs e f =>
      obtain ⟨a1, a2, a3⟩ := dp_flats (K := X.K) (H := H) f
      have sh : SeqAt.shaped (.tuple (xs.map datV)) = true := by
        unfold SeqAt.shaped
        simp [PyData.canLay0, PyData.depth, a2, a3]
      have d : Dp X.K H (.ref a) (.tuple (xs.map datV)) := .tup (SqT.of e) a1
      refine op_eqD hu pins s σ H _ _ v u Q I rx ry ⟨_, _, d, d, sh, sh, ?_⟩
      rw [SeqAt.eqv_refl _ (SeqAt.canLay_of_shaped sh)]
      exact q
    | @dct a kvs e n f => exact op_eq_dict (by omega) pins s σ H _ _ v u Q I rx ry ⟨a, a, kvs, rfl, rfl, e, e, n, f, q⟩
end Own

/-! from AA06 -/
namespace Own
open PySem PySem.Spec PyProof.Rows L2 LamX NdefX
section
variable {X : Cx} {cl : List (Str × Addr)} {fr : List Str} {ws : List (Option V)}
/-- as pe_deed, what it may let out told by the slots -/
theorem pe_deedS {CX : CXT} {k i : Nat} {f : Addr} {F : NF} {b : Expr} {sp : List (Option V) → Hp → VK → XK → Prop} {E : L2.St → XK} {a : Str} {p1 p2 : Pos} (C : CellsAt F.cl fr ws X.s_0.heap X.H_0) (hex : X.ex = []) (G : LOk X.prog X.w X.K X.mg X.base CX k f F b fr sp) (hr : Room k X.A)
    (hx : ∀ σ, PassesAt CX X σ (E σ)) (hN : X.N[i]? = some a) (hv : Vis X.env.scope a) (hd : (a == ("__debug__" : Str)) = false := by decide) (hcd : (a == ("__classdict__" : Str)) = false := by decide) :
    PE X (.Call (.Name a p1) [] [] p2) (fun σ H Q => σ[i]? = some (some (.ref f)) ∧ LamAt H f F b ∧ H F.c = some (CodeO F.c F.qual) ∧ sp ws H Q (E σ)) := by
  constructor
  intro pins s σ H Q I h
  obtain ⟨hs, hf, hc, q⟩ := h
  refine wpAny_Call_Name_kw (thn ((pe_var (pos := p1) hN hv hd hcd).run pins s σ H (fun v H1 => v = .ref f ∧ H1 = H) I ⟨.ref f, hs, rfl, rfl⟩) ?_)
  rintro u s1 ⟨v, H1, I1, r1, rfl, rfl⟩
  obtain rfl : u = Value.ref f := r1
  obtain ⟨dV, doc, pm, ctv, ho, _⟩ := lamO_at I1.hok hf
  refine PySem.W.callWith_F0 ⟨_, _, _, _, ho⟩ ?_
  have C' := cells_still C (fun _ => .inl (by rw [hex]; simp)) I1
  refine wpAny_call (codeAny_mono (G.run _ _ _ _ _ _ _ hr I1.env0 hf hc C' q) fun r s' z => ?_)
  rcases r with e | fl
  · exact hx σ pins _ _ e s' I1 z
  · cases fl
    case ret u => exact I1.after z
    all_goals exact False.elim z
end
end Own

/-! from CC06 -/
namespace Own
open PySem PySem.Spec PyProof.Rows L2 LamX NdefX
/-- at q stands the pair of a lambda and v -/
def RowAt (H : Hp) (nf : Addr → NF) (b : Expr) (v : V) (q : Addr) : Prop := ∃ f c' : Addr, H q = some (.tup [.ref f, v]) ∧ LamAt H f (nf c') b ∧ H (nf c').c = some (CodeO (nf c').c (nf c').qual)
section
variable {H H' : Hp} {nf : Addr → NF} {b : Expr} {v x : V} {q r : Addr} {l : List V} {o : HO}
theorem RowAt.ext (h : RowAt H nf b v q) (e : ExtN H H') : RowAt H' nf b v q := by
  obtain ⟨f, c', h1, h2, h3⟩ := h
  exact ⟨f, c', e _ _ h1 (fun ps z => by cases z), h2.ext e, e _ _ h3 codeO_ne⟩
theorem LamAt.put {f : Addr} {F : NF} (h : LamAt H f F b) (hr : H r = some (.lst l)) : LamAt (upd H r o) f F b := by
  obtain ⟨dV, h1, h2⟩ := h
  have a : f ≠ r := ne_of h1 hr (by unfold LamO; intro z; cases z)
  refine ⟨dV, (upd_ne a).trans h1, ?_⟩
  rcases h2 with z | ⟨n, T, z, q⟩
  · exact .inl z
  · have a : T ≠ r := ne_of q hr (by intro z; cases z)
    exact .inr ⟨n, T, z, (upd_ne a).trans q⟩
theorem RowAt.put (h : RowAt H nf b v q) (hr : H r = some (.lst l)) : RowAt (upd H r o) nf b v q := by
  obtain ⟨f, c', h1, h2, h3⟩ := h
  have a : q ≠ r := ne_of h1 hr (by intro z; cases z)
  have c : (nf c').c ≠ r := ne_of h3 hr (by unfold CodeO; intro z; cases z)
  exact ⟨f, c', (upd_ne a).trans h1, h2.put hr, (upd_ne c).trans h3⟩
theorem Odd.ext (h : Odd H x) (e : ExtN H H') : Odd H' x := by
  cases h with
  | flat h => exact .flat h
  | lst e' f => exact .lst (e _ _ e' (fun ps z => by cases z)) f
  | tup e' f => exact .tup (e _ _ e' (fun ps z => by cases z)) f
  | dct e' n f => exact .dct (e _ _ e' (fun ps z => by cases z)) n f
theorem Odd.off (h : Odd H x) (n : H r = none) : x ≠ .ref r := by
  cases h with
  | flat h => intro z; rw [z] at h; cases h
  | lst e f => intro z; rw [V.ref.inj z, n] at e; cases e
  | tup e f => intro z; rw [V.ref.inj z, n] at e; cases e
  | dct e n' f => intro z; rw [V.ref.inj z, n] at e; cases e
theorem Odd.put (h : Odd H x) (n : x ≠ .ref r) : Odd (upd H r o) x := by
  cases h with
  | flat h => exact .flat h
  | lst e f => exact .lst ((upd_ne (fun z => n (by rw [z]))).trans e) f
  | tup e f => exact .tup ((upd_ne (fun z => n (by rw [z]))).trans e) f
  | dct e n' f => exact .dct ((upd_ne (fun z => n (by rw [z]))).trans e) n' f
theorem tabs_put {T : List (Addr × Str)} (h : Tabs T H) (hr : H r = some (.lst l)) : Tabs T (upd H r o) := fun p hp => by
  obtain ⟨ps, h1, h2, h3⟩ := h p hp
  have a : p.1 ≠ r := ne_of h1 hr (by intro z; cases z)
  refine ⟨ps, (upd_ne a).trans h1, h2, fun pos cv hc => ?_⟩
  obtain ⟨c, e1, e2⟩ := h3 pos cv hc
  have b : c ≠ r := ne_of e2 hr (by unfold CodeO; intro z; cases z)
  exact ⟨c, e1, (upd_ne b).trans e2⟩
theorem extN_new (h : H r = none) : ExtN H (upd H r o) := ExtN.of fun b u e => (upd_ne (ne_of_none e h)).trans e
theorem ExtN.same (s : Same H H') : ExtN H H' := ExtN.of s
end
theorem Pen_odd {d : Addr} {B : Int} (h : Pen H d B) (o : Odd H x) : x ≠ .ref d := by
  obtain ⟨p, ns, c, l, e, _⟩ := h.ex
  intro z
  rw [z] at o
  cases o with
  | flat h => cases h
  | lst e' f => rw [e] at e'; cases e'
  | tup e' f => rw [e] at e'; cases e'
  | dct e' n f =>
    rw [e] at e'
    cases e'
    have := f _ (List.mem_cons_self ..)
    cases this
theorem Odd.keep {d : Addr} (h : Odd H x) (n : x ≠ .ref d) (k : Keep d H H') : Odd H' x := by
  cases h with
  | flat h => exact .flat h
  | lst e f => exact .lst (k _ _ (fun z => n (by rw [z])) e) f
  | tup e f => exact .tup (k _ _ (fun z => n (by rw [z])) e) f
  | dct e n' f => exact .dct (k _ _ (fun z => n (by rw [z])) e) n' f
theorem tabs_keep {T : List (Addr × Str)} {d : Addr} {B : Int} (h : Tabs T H) (hp : Pen H d B) (k : Keep d H H') : Tabs T H' := fun p hq => by
  obtain ⟨pp, ns, cc, ll, ed, _⟩ := hp.ex
  obtain ⟨ps, h1, h2, h3⟩ := h p hq
  have a : p.1 ≠ d := ne_of h1 ed (by intro z; cases z)
  refine ⟨ps, k _ _ a h1, h2, fun pos cv hc => ?_⟩
  obtain ⟨c, e1, e2⟩ := h3 pos cv hc
  have b : c ≠ d := ne_of e2 ed (by unfold CodeO; intro z; cases z)
  exact ⟨c, e1, k _ _ b e2⟩
/-- a list at r of pairs of a lambda and a value; x, y: two odd values -/
structure Bag {ι : Type} (nf : ι → Addr → NF) (bf : ι → Expr) (H : Hp) (r : Addr) (R : List (ι × V × Addr)) (x y : V) : Prop where
  l : H r = some (.lst (R.map fun p => .ref p.2.2))
  rows : ∀ p ∈ R, RowAt H (nf p.1) (bf p.1) p.2.1 p.2.2
  ox : Odd H x
  oy : Odd H y
  xr : x ≠ .ref r
  yr : y ≠ .ref r
theorem Bag.ext {ι : Type} {nf : ι → Addr → NF} {bf : ι → Expr} {R : List (ι × V × Addr)} {y : V} (h : Bag nf bf H r R x y) (e : ExtN H H') : Bag nf bf H' r R x y :=
  ⟨e _ _ h.l (fun ps z => by cases z), fun p hp => (h.rows p hp).ext e, h.ox.ext e, h.oy.ext e, h.xr, h.yr⟩
theorem Bag.set {ι : Type} {nf : ι → Addr → NF} {bf : ι → Expr} {R : List (ι × V × Addr)} {y : V} {D : Addr} {zs : List V} (h : Bag nf bf H r R x y) (hD : H D = some (.lst zs)) (n : D ≠ r) (nx : x ≠ .ref D) (ny : y ≠ .ref D) : Bag nf bf (upd H D o) r R x y :=
  ⟨(upd_ne n.symm).trans h.l, fun p hp => (h.rows p hp).put hD, h.ox.put nx, h.oy.put ny, h.xr, h.yr⟩
theorem Bag.add {ι : Type} {nf : ι → Addr → NF} {bf : ι → Expr} {R : List (ι × V × Addr)} {y v : V} {H1 : Hp} {i : ι} {f c' q : Addr} (h : Bag nf bf H r R x y) (e : ExtN H H1) (a : LamAt H1 f (nf i c') (bf i)) (c : H1 (nf i c').c = some (CodeO (nf i c').c (nf i c').qual)) (nq : H1 q = none) :
    upd H1 q (.tup [.ref f, v]) r = some (.lst (R.map fun p => .ref p.2.2)) ∧ Bag nf bf (upd (upd H1 q (.tup [.ref f, v])) r (.lst (R.map (fun p => .ref p.2.2) ++ [.ref q]))) r (R ++ [(i, v, q)]) x y := by
  have g := (h.ext e).ext (extN_new (o := .tup [.ref f, v]) nq)
  have e2 := extN_new (o := HO.tup [.ref f, v]) nq
  refine ⟨g.l, by rw [upd_same, List.map_append]; rfl, fun p hp => ?_, g.ox.put g.xr, g.oy.put g.yr, g.xr, g.yr⟩
  rcases List.mem_append.mp hp with hp | hp
  · exact (g.rows p hp).put g.l
  · rw [List.mem_singleton.mp hp]
    exact RowAt.put ⟨f, c', upd_same, a.ext e2, e2 _ _ c codeO_ne⟩ g.l
/-- a def of the text and its code object -/
structure AtC (K : PySem.W.Frag) (mg : Str → Option Value) (x : Str) (st : Stmt) (ps : List Str) (c : Addr) : Prop where
  ex : ∃ (f : Addr) (oc : Value) (od : Option Addr) (kV doc pm : Value) (an : Option Addr) (ct : Value) (osl : Array (Option Value)), K.lookup f = some ⟨oc, od, .func (PySem.W.fnOf x x (defArgs st) (defBody st) (defScope st) .none kV doc pm an (.ref c) ct), osl⟩ ∧ PySem.W.codeIn K (.ref c) x = true ∧
    mg x = some (.ref f) ∧ PySem.W.keepIn K (.ref f) = true ∧ Binds K (PySem.W.fnOf x x (defArgs st) (defBody st) (defScope st) .none kV doc pm an (.ref c) ct) ps []
end Own

namespace Own
open PySem PySem.Spec PyProof.Rows L2 LamX NdefX
theorem log2_lt {n k : Nat} (h : n < 2 ^ k) (hk : 0 < k) : n.log2 < k := by
  by_cases h0 : n = 0
  · subst h0
    simpa using hk
  · exact (Nat.log2_lt h0).mpr h
theorem dm_ok {n d : Int} (h0 : 0 < d) (h : d.natAbs < 2 ^ 1000) : CDivP n d := by
  refine ⟨h0, ?_⟩
  have a := log2_lt h (by decide)
  unfold Builtin.divisionGoesByPylong
  have e : ¬ (d == 0) = true := by simp; omega
  have z : ¬ (d.natAbs.log2 / 30 + 1 > 300) := by omega
  simp only [e, Bool.false_eq_true, if_false]
  rw [decide_eq_false z]
  rfl
theorem up_two {n a b : Nat} (h : n < 2 ^ a) (l : a ≤ b) : n < 2 ^ b := Nat.lt_of_lt_of_le h (Nat.pow_le_pow_right (by decide) l)
theorem add_lt {i j : Int} {a : Nat} (hi : i.natAbs < 2 ^ a) (hj : j.natAbs < 2 ^ a) : (i + j).natAbs < 2 ^ (a + 1) := by
  rw [Nat.pow_succ]
  omega
end Own

namespace Own
open PySem PySem.Spec PyProof.Rows L2 LamX NdefX
/-- what the law leans on of an error's class -/
def oexB (K : PySem.W.Frag) (C : Addr) : Bool := (match K.lookup C with
  | some ⟨.type t, _, .cls cd, sl⟩ => decide (t = "type") && (cd.hasDict && (!cd.hasDel && ((match cd.mro with
    | .ref D :: bm => decide (D = C) && PySem.HandSPX.refsVE bm
    | _ => false) && (match sl.toList with
    | [_, _, _, _, some (.builtin n), _] => decide (n = "ValueError.__new__")
    | _ => false))))
  | _ => false) && (decide (PySem.W.findIn K (.ref C) "__setattr__" = some (some (.builtin "object.__setattr__"))) && (decide (PySem.W.subIn K (.ref C) (.type "BaseException") = some true) && (decide (PySem.W.typeIn K (.ref C) = some (.type "type")) && PySem.W.keepIn K (.ref C))))
theorem oexB_ok {K : PySem.W.Frag} {C : Addr} (h : oexB K C = true) : OexC K C := by
  obtain ⟨h0, h⟩ := He.ba h
  obtain ⟨h1, h⟩ := He.ba h
  obtain ⟨h2, h⟩ := He.ba h
  obtain ⟨h3, h4⟩ := He.ba h
  refine ⟨?_, of_decide_eq_true h1, of_decide_eq_true h2, of_decide_eq_true h3, h4⟩
  cases q : K.lookup C with
  | none => rw [q] at h0; cases h0
  | some o =>
    rw [q] at h0
    obtain ⟨oc, od, dt, ⟨sl⟩⟩ := o
    cases oc with
    | type t =>
      cases dt with
      | cls cd =>
        obtain ⟨nm, bs, mro, ns, qn, hd, sn, sub, ab, col, del⟩ := cd
        obtain ⟨a1, a⟩ := He.ba h0
        obtain ⟨a2, a⟩ := He.ba a
        obtain ⟨a3, a⟩ := He.ba a
        obtain ⟨a4, a5⟩ := He.ba a
        have e1 : t = "type" := of_decide_eq_true a1
        have e2 : hd = true := a2
        have e3 : del = false := by
          have z : (!del) = true := a3
          simpa using z
        subst e1 e2 e3
        cases mro with
        | nil => cases a4
        | cons m bm =>
          cases m with
          | ref D =>
            obtain ⟨b1, b2⟩ := He.ba (show (decide (D = C) && PySem.HandSPX.refsVE bm) = true from a4)
            have e4 : D = C := of_decide_eq_true b1
            subst e4
            match sl, a5 with
            | [k0, k1, k2, k3, some (.builtin n), k5], z =>
              have e5 : n = "ValueError.__new__" := of_decide_eq_true z
              subst e5
              exact ⟨_, _, _, _, _, _, _, _, _, _, _, _, _, _, _, rfl, b2⟩
          | _ => cases a4
      | _ => cases h0
    | _ => cases dt <;> cases h0
def isTup (K : PySem.W.Frag) (a : Addr) : Bool := match K.lookup a with
  | some ⟨.type c, _, _, _⟩ => decide (c = "tuple")
  | _ => false
theorem isTup_ok {K : PySem.W.Frag} {a : Addr} (h : isTup K a = true) : ∃ o : Obj, K.lookup a = some o ∧ o.cls = .type "tuple" := by
  unfold isTup at h
  cases q : K.lookup a with
  | none => rw [q] at h; cases h
  | some o =>
    rw [q] at h
    obtain ⟨oc, od, dt, sl⟩ := o
    cases oc with
    | type c => exact ⟨_, rfl, congrArg Value.type (of_decide_eq_true h)⟩
    | _ => cases h
section
variable {P : Program} {w : World} {K : PySem.W.Frag} {mg : Str → Option Value} {h : Heap}
theorem fun_of {x qual : Str} {st : Stmt} {f : Addr} {fd : FuncData} (F : FunD K x qual (defArgs st) (defBody st) (defScope st) [] [] f fd) : Fun K x qual st f fd := by
  obtain ⟨oc, od, dV, kV, doc, pm, an, cdv, ct, osl, rfl, lk, hcd, hD, _⟩ := F.ex
  rcases hD with ⟨_, rfl⟩ | ⟨n, _⟩
  · exact ⟨⟨oc, od, kV, doc, pm, an, cdv, ct, osl, rfl, lk, hcd⟩, F.kp⟩
  · exact absurd rfl n
theorem at_of {x : Str} {st : Stmt} {ps : List Str} {f : Addr} {fd : FuncData} (F : FunD K x x (defArgs st) (defBody st) (defScope st) [] [] f fd) (g : mg x = some (.ref f))
    (b : ∀ (kV doc pm : Value) (an : Option Addr) (cdv ct : Value) (us : List Value), us.length = ps.length → bindArgs (PySem.W.fnOf x x (defArgs st) (defBody st) (defScope st) .none kV doc pm an cdv ct) ⟨us, []⟩ = pure (ps.zip us)) : At K mg x st ps :=
  ⟨f, fd, fun_of F, g, (fun_of F).binds b⟩
end
end Own
namespace Own
/-- built-in names that no module takes -/
structure Blt (mg : PySem.Str → Option PySem.Value) : Prop where
  isi : mg "isinstance" = none
  int : mg "int" = none
  bool : mg "bool" = none
  len : mg "len" = none
  list : mg "list" = none
  range : mg "range" = none
  tuple : mg "tuple" = none
  all : mg "all" = none
  dm : mg "divmod" = none
  min : mg "min" = none
  max : mg "max" = none
  str : mg "str" = none
  abs : mg "abs" = none
  dict : mg "dict" = none
  any : mg "any" = none
end Own

/-! own layer, of no law: OWNQ: a pen with any names for its cells, its count and what is left. -/
namespace Own
open PySem PySem.Spec PyProof.Rows L2 LamX NdefX
def penG (a b c : Str) (p : Addr) (m l : Int) : List (Key × V) := [(Sum.inr a, V.ref p), (Sum.inr b, V.int m), (Sum.inr c, V.int l)]
/-- the three names are unlike -/
def Un3 (a b c : Str) : Prop := ¬ a = b ∧ ¬ a = c ∧ ¬ b = c
section
variable {a b c : Str} {p d : Addr} {m l m' l' : Int} {H H' : Hp} {B B' : Int}
theorem gpen_a (u : Un3 a b c) (h : H d = some (.dK (penG a b c p m l))) : DGet H d (V.str a) (some (.ref p)) := by
  have z := DGet.k (k := (Sum.inr a : Key)) h
  have e : valV (penG a b c p m l) (Sum.inr a : Key) = some (.ref p) := valV_pos rfl
  rw [e] at z
  exact z
theorem gpen_b (u : Un3 a b c) (h : H d = some (.dK (penG a b c p m l))) : DGet H d (V.str b) (some (.int m)) := by
  have z := DGet.k (k := (Sum.inr b : Key)) h
  have e : valV (penG a b c p m l) (Sum.inr b : Key) = some (.int m) := by
    unfold penG
    rw [valV_neg (fun e => u.1 (Sum.inr.inj e)), valV_pos rfl]
  rw [e] at z
  exact z
theorem gpen_c (u : Un3 a b c) (h : H d = some (.dK (penG a b c p m l))) : DGet H d (V.str c) (some (.int l)) := by
  have z := DGet.k (k := (Sum.inr c : Key)) h
  have e : valV (penG a b c p m l) (Sum.inr c : Key) = some (.int l) := by
    unfold penG
    rw [valV_neg (fun e => u.2.1 (Sum.inr.inj e)), valV_neg (fun e => u.2.2 (Sum.inr.inj e)), valV_pos rfl]
  rw [e] at z
  exact z
theorem ppen_b (u : Un3 a b c) (h : H d = some (.dK (penG a b c p m l))) : DPut H d (V.str b) (.int m') (upd H d (.dK (penG a b c p m' l))) := by
  have z := DPut.k (k := (Sum.inr b : Key)) (v := .int m') h (by show 3 < sizeLine; decide)
  have e : putK (penG a b c p m l) (Sum.inr b : Key) (.int m') = penG a b c p m' l := by
    unfold penG putK
    simp [key_dec u.1, key_dec (show ¬ c = b from fun e => u.2.2 e.symm), u.1, u.2.2, show ¬ c = b from fun e => u.2.2 e.symm]
  rw [e] at z
  exact z
theorem ppen_c (u : Un3 a b c) (h : H d = some (.dK (penG a b c p m l))) : DPut H d (V.str c) (.int l') (upd H d (.dK (penG a b c p m l'))) := by
  have z := DPut.k (k := (Sum.inr c : Key)) (v := .int l') h (by show 3 < sizeLine; decide)
  have e : putK (penG a b c p m l) (Sum.inr c : Key) (.int l') = penG a b c p m l' := by
    unfold penG putK
    simp [key_dec u.2.1, key_dec u.2.2, u.2.1, u.2.2]
  rw [e] at z
  exact z
/-- the pen stands at d: at most B draws were begun -/
structure PenG (a b c : Str) (H : Hp) (d : Addr) (B : Int) : Prop where
  ex : ∃ (p : Addr) (ns : List Int) (m l : Int), H d = some (.dK (penG a b c p m l)) ∧ H p = some (.lst (ns.map V.int)) ∧ ns.length ≤ 63 ∧ 0 ≤ m ∧ m ≤ B
theorem PenG.mono (h : PenG a b c H d B) (z : B ≤ B') : PenG a b c H d B' := by
  obtain ⟨p, ns, m, l, e1, e2, e3, f, g⟩ := h.ex
  exact ⟨p, ns, m, l, e1, e2, e3, f, by omega⟩
theorem PenG.same (h : PenG a b c H d B) (s : Same H H') : PenG a b c H' d B := by
  obtain ⟨p, ns, m, l, e1, e2, e3, f, g⟩ := h.ex
  exact ⟨p, ns, m, l, s _ _ e1, s _ _ e2, e3, f, g⟩
theorem PenG.at_ (h : PenG a b c H d B) : ∃ kvs, H d = some (.dK kvs) ∧ ∃ q ∈ kvs, flatB q.2 = false := by
  obtain ⟨p, ns, m, l, e, _⟩ := h.ex
  exact ⟨_, e, _, List.mem_cons_self, rfl⟩
theorem PenG.odd {x : V} (h : PenG a b c H d B) (o : Odd H x) : x ≠ .ref d := by
  obtain ⟨kvs, e, q, hq, f⟩ := h.at_
  intro z
  rw [z] at o
  cases o with
  | flat h => cases h
  | lst e' f => rw [e] at e'; cases e'
  | tup e' f => rw [e] at e'; cases e'
  | dct e' n g =>
    rw [e] at e'
    cases e'
    rw [g _ hq] at f
    cases f
theorem tabs_keepG {T : List (Addr × Str)} (h : Tabs T H) (hp : PenG a b c H d B) (k : Keep d H H') : Tabs T H' := fun p hq => by
  obtain ⟨kvs, ed, _⟩ := hp.at_
  obtain ⟨ps, h1, h2, h3⟩ := h p hq
  have a : p.1 ≠ d := ne_of h1 ed (by intro z; cases z)
  refine ⟨ps, k _ _ a h1, h2, fun pos cv hc => ?_⟩
  obtain ⟨c, e1, e2⟩ := h3 pos cv hc
  have b : c ≠ d := ne_of e2 ed (by unfold CodeO; intro z; cases z)
  exact ⟨c, e1, k _ _ b e2⟩
end
/-- the dict that begins a pen, written out -/
theorem merge_pen {a b c : Str} (u : Un3 a b c) (p : Addr) (m l : Int) : mergeK [] [(Sum.inr a, V.ref p), (Sum.inr b, V.int m), (Sum.inr c, V.int l)] = penG a b c p m l := by
  unfold mergeK
  rw [List.foldl_cons, putK_new _ valV_nil, List.foldl_cons, putK_new _ (by
    rw [List.nil_append, valV_neg (fun e => u.1 (Sum.inr.inj e)), valV_nil]), List.foldl_cons, putK_new _ (by
    show valV [_, _] _ = none
    rw [valV_neg (fun e => u.2.1 (Sum.inr.inj e)), valV_neg (fun e => u.2.2 (Sum.inr.inj e)), valV_nil])]
  rfl
theorem cut63 (xs : List V) (h : xs.length ≤ 63) : cutV xs none (some 63) = xs := by
  unfold cutV
  rw [HT.sIx_none, show HT.sIx xs.length xs.length (some 63) = min 63 xs.length from HT.sIx_nat xs.length xs.length 63, List.drop_zero, Nat.min_eq_right h, Nat.sub_zero, List.take_length]
theorem neG_nil {xs : List Int} : PyData.eqv (.list (xs.map PyData.int)) (.list []) = decide (xs = []) := by
  cases xs with
  | nil => rfl
  | cons a r => rfl
theorem dpG_ints {K : PySem.W.Frag} {H : Hp} : ∀ ns : List Int, DpAll K H (ns.map V.int) (ns.map PyData.int)
  | [] => .nil
  | a :: r => .cons (.int a) (dpG_ints r)
theorem layG_ints : ∀ ns : List Int, PyData.canLayAll0 (ns.map PyData.int) = true
  | [] => by simp only [List.map_nil, PyData.canLayAll0]
  | a :: r => by simp only [List.map_cons, PyData.canLayAll0, PyData.canLay0, layG_ints r, Bool.and_self]
theorem depG_ints : ∀ ns : List Int, PyData.depthAll (ns.map PyData.int) ≤ 1
  | [] => by simp [PyData.depthAll]
  | a :: r => by
    have z := depG_ints r
    simp only [List.map_cons, PyData.depthAll, PyData.depth]
    omega
theorem shG_ints (ns : List Int) : SeqAt.shaped (.list (ns.map PyData.int)) = true := by
  have a := layG_ints ns
  have b := depG_ints ns
  have z : (PyData.list (ns.map PyData.int)).depth ≤ 64 := by
    simp only [PyData.depth]
    omega
  unfold SeqAt.shaped
  rw [Bool.and_eq_true]
  exact ⟨by simpa [PyData.canLay0] using a, decide_eq_true z⟩
end Own

/-! own layer, of no law: OWNY: what drawing keeps, the pen's list among it. -/
namespace Own
open PySem PySem.Spec PyProof.Rows L2 LamX NdefX
/-- all but the pen's dict is as it was; its list is the same one -/
structure KeepG (a b c : Str) (d : Addr) (H H' : Hp) : Prop where
  k : ∀ x o, x ≠ d → H x = some o → H' x = some o
  c : ∀ p m l, H d = some (.dK (penG a b c p m l)) → ∃ m' l', H' d = some (.dK (penG a b c p m' l'))
instance {a b c : Str} {d : Addr} {H H' : Hp} : CoeFun (KeepG a b c d H H') (fun _ => ∀ x o, x ≠ d → H x = some o → H' x = some o) := ⟨KeepG.k⟩
section
variable {a b c : Str} {d p x : Addr} {o : HO} {H H' H1 H2 : Hp} {m l m' l' : Int}
theorem penG_inj {p p' : Addr} {m m' l l' : Int} (h : penG a b c p m l = penG a b c p' m' l') : p = p' := by
  unfold penG at h
  have z := (List.cons.inj h).1
  exact V.ref.inj (Prod.mk.inj z).2
theorem KeepG.refl : KeepG a b c d H H := ⟨fun _ _ _ e => e, fun _ m l e => ⟨m, l, e⟩⟩
theorem KeepG.trans (h : KeepG a b c d H H1) (k : KeepG a b c d H1 H2) : KeepG a b c d H H2 :=
  ⟨fun x o n e => k.k x o n (h.k x o n e), fun p m l e => by
    obtain ⟨m1, l1, e1⟩ := h.c p m l e
    exact k.c p m1 l1 e1⟩
theorem KeepG.same (s : Same H H') : KeepG a b c d H H' := ⟨fun x o _ e => s x o e, fun p m l e => ⟨m, l, s _ _ e⟩⟩
theorem KeepG.new (h : H p = none) : KeepG a b c d H (upd H p o) := KeepG.same (same_new h)
theorem KeepG.put (hd : H d = some (.dK (penG a b c p m l))) : KeepG a b c d H (upd H d (.dK (penG a b c p m' l'))) :=
  ⟨fun x o n e => (upd_ne n).trans e, fun p' m1 l1 e => by
    have z := e.symm.trans hd
    have y := penG_inj (HO.dK.inj (Option.some.inj z))
    rw [y]
    exact ⟨m', l', upd_same⟩⟩
/-- x is not the pen's list -/
def OffG (a b c : Str) (H : Hp) (d x : Addr) : Prop := ∀ p m l, H d = some (.dK (penG a b c p m l)) → p ≠ x
theorem OffG.of {B : Int} (hp : PenG a b c H d B) (h : H x = none) : OffG a b c H d x := fun p m l e => by
  obtain ⟨p0, ns, m0, l0, e0, e1, _⟩ := hp.ex
  have y := penG_inj (HO.dK.inj (Option.some.inj (e.symm.trans e0)))
  rw [y]
  exact ne_of_none e1 h
theorem OffG.keep {B : Int} (h : OffG a b c H d x) (hp : PenG a b c H d B) (k : KeepG a b c d H H') : OffG a b c H' d x := fun p m l e => by
  obtain ⟨p0, ns, m0, l0, e0, _⟩ := hp.ex
  obtain ⟨m1, l1, e1⟩ := k.c p0 m0 l0 e0
  have y := penG_inj (HO.dK.inj (Option.some.inj (e.symm.trans e1)))
  rw [y]
  exact h p0 m0 l0 e0
theorem OffG.at_ {y : Addr} (h : OffG a b c H d x) (n : d ≠ y) : OffG a b c (upd H y o) d x := fun p m l e => h p m l ((upd_ne n).symm.trans e)
/-- a list that is not the pen's is stored anew -/
theorem PenG.put {B : Int} {xs : List V} (hp : PenG a b c H d B) (hx : H x = some (.lst xs)) (f : OffG a b c H d x) : PenG a b c (upd H x o) d B := by
  obtain ⟨p, ns, m, l, e1, e2, e3, e4, e5⟩ := hp.ex
  have n1 : d ≠ x := ne_of e1 hx (by intro z; cases z)
  exact ⟨p, ns, m, l, (upd_ne n1).trans e1, (upd_ne (f p m l e1)).trans e2, e3, e4, e5⟩
theorem PenG.ne_lst {B : Int} {xs : List V} (hp : PenG a b c H d B) (hx : H x = some (.lst xs)) : d ≠ x := by
  obtain ⟨p, ns, m, l, e1, _⟩ := hp.ex
  exact ne_of e1 hx (by intro z; cases z)
/-- .. and over what was not there at first -/
theorem KeepG.over (k : KeepG a b c d H H') (n : H x = none) : KeepG a b c d H (upd H' x o) :=
  ⟨fun y u m e => (upd_ne (ne_of_none e n)).trans (k.k y u m e), fun p m l e => by
    obtain ⟨m1, l1, e1⟩ := k.c p m l e
    exact ⟨m1, l1, (upd_ne (ne_of_none e n)).trans e1⟩⟩
theorem KeepG.lst {B : Int} {xs : List V} (k : KeepG a b c d H H') (hp : PenG a b c H d B) (h : H x = some (.lst xs)) : H' x = some (.lst xs) := k.k _ _ (hp.ne_lst h).symm h
end
end Own

/-! own layer, of no law: OWN2: operators by an own class. -/
namespace Own
open PySem PySem.Spec PyProof.Rows L2 LamX NdefX
section
variable {X : Cx} {pins : List (Addr × Obj)} {σ : L2.St} {H : Hp} {s : Shared}
theorem back_of {Q : VK} {A : Around} {c : Sem Value} (h : wpAny (model X.prog X.w) A c (EP X pins σ Q) X.xe s) : wpAny (model X.prog X.w) A c (PySem.W.CmpBack (EP X pins σ Q)) X.xe s := by
  refine wpAny_mono h (fun v s' q => ?_) fun _ _ e => e
  obtain ⟨y, H', I', r, q'⟩ := q
  cases v with
  | notImplemented => cases y <;> first | exact (nomatch r) | (obtain ⟨_, z⟩ := r; cases z)
  | _ => exact ⟨y, H', I', r, q'⟩
variable {CX : CXT} {n : Nat} {C f : Addr} {fd : FuncData} {ps : List Str} {sp : Sp} {E : XK} {op : Operator}
/-- x op y, both of the class at C, whose own method takes them -/
theorem op_own (F : FnOk X.prog X.w X.K X.mg X.base CX n f fd ps sp) (hr : Room n X.A) (hc : PySem.W.selfFirst X.K C = true) (hs : PySem.W.findIn X.K (.ref C) (PySem.dunder op.info.2) = some (some (.ref f))) (hf : PySem.W.isFn X.K (.ref f) = true) (hb : Binds X.K fd ps []) (hx : Passes CX X E) :
    OpR X (binaryOp op) (fun x y H Q => ∃ a b dx dy fs gs, x = V.ref a ∧ y = V.ref b ∧ H a = some (.ins C dx fs) ∧ H b = some (.ins C dy gs) ∧ sp [.ref a, .ref b] H Q E) := by
  intro pins s σ H x y v u Q I rx ry h
  obtain ⟨a, b, dx, dy, fs, gs, rfl, rfl, ha, hb', q⟩ := h
  cases rx
  cases ry
  obtain ⟨mA, J, _⟩ := ins_get I.hok ha
  obtain ⟨mB, J', _⟩ := ins_get I.hok hb'
  obtain ⟨od, J, _⟩ := J.look
  obtain ⟨od', J', _⟩ := J'.look
  obtain ⟨m, hF⟩ := I.fr
  exact PySem.W.binop_K hF I.ok.mod.kin J J'.type hc hs hf (back_of (run_fn F hr hb .nil hx I (.cons (show L2.RelV (V.ref a) (Value.ref a) from rfl) (.cons (show L2.RelV (V.ref b) (Value.ref b) from rfl) .nil)) q))
/-- -x of the class at C -/
theorem un_own (F : FnOk X.prog X.w X.K X.mg X.base CX n f fd ps sp) (hr : Room n X.A) (hs : PySem.W.findIn X.K (.ref C) "__neg__" = some (some (.ref f))) (hf : PySem.W.isFn X.K (.ref f) = true) (hb : Binds X.K fd ps []) (hx : Passes CX X E) :
    UnR X (unaryOp .USub) (fun x H Q => ∃ a dx fs, x = V.ref a ∧ H a = some (.ins C dx fs) ∧ sp [.ref a] H Q E) := by
  intro pins s σ H x v Q I rx h
  obtain ⟨a, dx, fs, rfl, ha, q⟩ := h
  cases rx
  obtain ⟨mA, J, _⟩ := ins_get I.hok ha
  obtain ⟨od, J, _⟩ := J.look
  obtain ⟨m, hF⟩ := I.fr
  exact PySem.W.ksp_neg hF I.ok.mod.kin J hs hf (run_fn F hr hb .nil hx I (.cons (show L2.RelV (V.ref a) (Value.ref a) from rfl) .nil) q)
end
end Own

/-! own layer, of no law: OWN3: an own class and a built-in value, on either side. -/
namespace Own
open PySem PySem.Spec PySem.Calls PyProof.Rows
section
variable {prog : Program} {w : World} {A : Around} {E : Value → Shared → Prop} {s : Shared} {K : PySem.W.Frag} {x C f : Addr} {ox : Obj} {od : Option Obj} {T : String}
open PySem.W in
/-- own op built-in -/
theorem own_left {op : Operator} {b : Value} {r : Bool} {back ours : Option Value} {Q : Value → Shared → Prop} (KX : K.In s.heap) (J : InstAt s.heap x ox C od) (tb : Looks (model prog w) s.heap (typeOf b) (.type T)) (one : selfFirst K C = true)
    (me : findIn K (.ref C) (PySem.dunder op.info.2) = some (some (.ref f))) (fn : isFn K (.ref f) = true) (mr : findIn K (.ref C) (dunderR op.info.2) = some ours) (mp : ours = none ∨ ∃ g : Addr, ours = some (.ref g))
    (slot : fillsNumberSlot (.type T) op.info.2 = pure r) (their : typeLookup (.type T) (dunderR op.info.2) = pure back) (nosub : subIn K (.type T) (.ref C) = some false)
    (go : wpAny (model prog w) A (call (.ref f) [.ref x, b]) (PySem.W.CmpBack Q) E s) : wpAny (model prog w) A (binaryOp op (.ref x) b) Q E s := by
  obtain ⟨cd, tl, c1, c2⟩ := ksp_first one
  obtain ⟨sy, nm, e⟩ : ∃ sy nm, op.info = (sy, nm) := ⟨_, _, rfl⟩
  rw [e] at me mr slot their
  have did := ksp_try KX J me fn go
  obtain ⟨hp, gs, dr, tk, os⟩ := s
  have q1 : Looks (model prog w) hp (typeOf (.ref x)) (.ref C) := J.type
  have q3 : Looks (model prog w) hp (fillsNumberSlot (.ref C) nm) true := fills_K KX c1 c2 me
  have q4 : Looks (model prog w) hp (fillsNumberSlot (.type T) nm) r := Looks.of_pure slot
  have q5 : Looks (model prog w) hp (isSubtype (.type T) (.ref C)) false := looks_subIn KX nosub
  have q6 : Looks (model prog w) hp (numberSlotInPython (.ref C) nm) true := ksp_inPy KX me mr mp
  have q7 : Looks (model prog w) hp (numberSlotInPython (.type T) nm) false := Looks.of_pure rfl
  have q8 : Looks (model prog w) hp (typeLookup (.type T) (dunderR nm)) back := Looks.of_pure their
  have ne : (Value.ref C == Value.type T) = false := by rw [beq_eq_false_iff_ne]; intro z; cases z
  unfold binaryOp
  rw [e]
  dsimp only
  refine wpAny_holding (wpAny_bind ?_)
  unfold binaryOp1
  refine wpAny_bind (q1.at (wpAny_bind (tb.at (wpAny_bind (q3.at ?_)))))
  rw [ne]
  simp only [Bool.false_eq_true, if_false]
  cases r
  · ksp_lk
    refine wpAny_mono did (fun u s' z => ?_) fun _ _ z => z
    obtain ⟨v, rfl, hv⟩ := z
    ksp_lk
    exact hv
  · ksp_lk
    refine wpAny_mono did (fun u s' z => ?_) fun _ _ z => z
    obtain ⟨v, rfl, hv⟩ := z
    ksp_lk
    exact hv
open PySem.W in
/-- built-in op own: the built-in's own slot stands off, the class's reflected method takes them -/
theorem own_right {op : Operator} {a : Value} {l : Bool} {Q : Value → Shared → Prop} (KX : K.In s.heap) (J : InstAt s.heap x ox C od) (ta : ∀ s' : Shared, (∀ b o, s.heap.get? b = some o → s'.heap.get? b = some o) → Looks (model prog w) s'.heap (typeOf a) (.type T)) (one : selfFirst K C = true)
    (mr : findIn K (.ref C) (dunderR op.info.2) = some (some (.ref f))) (fn : isFn K (.ref f) = true) (fills : ∀ h : Heap, K.In h → Looks (model prog w) h (fillsNumberSlot (.ref C) op.info.2) true)
    (slot : fillsNumberSlot (.type T) op.info.2 = pure l) (nosub : subIn K (.ref C) (.type T) = some false)
    (off : l = true → ∀ {R : Option Value → Shared → Prop} {s' : Shared}, (∀ b o, s.heap.get? b = some o → s'.heap.get? b = some o) → (∀ t : Tok, R none { s' with toks := t }) → wpAny (model prog w) A (tryMethod a (PySem.dunder op.info.2) (.ref x)) R E s')
    (go : ∀ t : Tok, wpAny (model prog w) A (call (.ref f) [.ref x, a]) (PySem.W.CmpBack Q) E { s with toks := t }) : wpAny (model prog w) A (binaryOp op a (.ref x)) Q E s := by
  obtain ⟨sy, nm, e⟩ : ∃ sy nm, op.info = (sy, nm) := ⟨_, _, rfl⟩
  rw [e] at mr slot fills off
  have did : ∀ t : Tok, wpAny (model prog w) A (tryMethod (.ref x) (dunderR nm) a) (fun u s' => ∃ v, u = some v ∧ Q v s') E { s with toks := t } := fun t => ksp_try (s := { s with toks := t }) KX J mr fn (go t)
  have here := ta s fun _ _ z => z
  have q3 := fills s.heap KX
  obtain ⟨hp, gs, dr, tk, os⟩ := s
  have q1 : Looks (model prog w) hp (typeOf (.ref x)) (.ref C) := J.type
  have q2 : Looks (model prog w) hp (typeOf a) (.type T) := here
  have q4 : Looks (model prog w) hp (fillsNumberSlot (.type T) nm) l := Looks.of_pure slot
  have q5 : Looks (model prog w) hp (isSubtype (.ref C) (.type T)) false := looks_subIn KX nosub
  have q6 : Looks (model prog w) hp (fillsNumberSlot (.ref C) nm) true := q3
  have q7 : Looks (model prog w) hp (numberSlotInPython (.type T) nm) false := Looks.of_pure rfl
  have ne : (Value.type T == Value.ref C) = false := by rw [beq_eq_false_iff_ne]; intro z; cases z
  unfold binaryOp
  rw [e]
  dsimp only
  refine wpAny_holding (wpAny_bind ?_)
  unfold binaryOp1
  refine wpAny_bind (q2.at (wpAny_bind (q1.at (wpAny_bind (q4.at ?_)))))
  rw [ne]
  simp only [Bool.false_eq_true, if_false]
  refine wpAny_bind (q6.at ?_)
  cases l
  · ksp_lk
    refine wpAny_mono (did tk) (fun u s' z => ?_) fun _ _ z => z
    obtain ⟨v, rfl, hv⟩ := z
    ksp_lk
    exact hv
  · ksp_lk
    refine off rfl (fun _ _ z => z) fun t => ?_
    ksp_lk
    refine wpAny_mono (did t) (fun u s' z => ?_) fun _ _ z => z
    obtain ⟨v, rfl, hv⟩ := z
    ksp_lk
    exact hv
end
end Own

/-! own layer, of no law: OWN4. -/
namespace Own
open PySem PySem.Spec PySem.Calls PyProof.Rows AutoSeq1
def tys : List String := ["NoneType", "bool", "int", "str", "list", "tuple", "dict"]
theorem fill_add : ∀ T ∈ tys, fillsNumberSlot (.type T) "add" = pure (T == "int" || T == "bool") := by
  intro T hT
  simp only [tys, List.mem_cons, List.not_mem_nil, or_false] at hT
  rcases hT with rfl | rfl | rfl | rfl | rfl | rfl | rfl <;> kernel_rfl
theorem fill_sub : ∀ T ∈ tys, fillsNumberSlot (.type T) "sub" = pure (T == "int" || T == "bool") := by
  intro T hT
  simp only [tys, List.mem_cons, List.not_mem_nil, or_false] at hT
  rcases hT with rfl | rfl | rfl | rfl | rfl | rfl | rfl <;> kernel_rfl
theorem fill_mul : ∀ T ∈ tys, fillsNumberSlot (.type T) "mul" = pure (T == "int" || T == "bool") := by
  intro T hT
  simp only [tys, List.mem_cons, List.not_mem_nil, or_false] at hT
  rcases hT with rfl | rfl | rfl | rfl | rfl | rfl | rfl <;> kernel_rfl
theorem refl_add : ∀ T ∈ tys, typeLookup (.type T) (dunderR "add") = pure (if (T == "int" || T == "bool") = true then some (.builtin "int.__radd__") else none) := by
  intro T hT
  simp only [tys, List.mem_cons, List.not_mem_nil, or_false] at hT
  rcases hT with rfl | rfl | rfl | rfl | rfl | rfl | rfl <;> (rw [typeLookup_type, builtinLookup_eq_fast]; kernel_rfl)
theorem refl_sub : ∀ T ∈ tys, typeLookup (.type T) (dunderR "sub") = pure (if (T == "int" || T == "bool") = true then some (.builtin "int.__rsub__") else none) := by
  intro T hT
  simp only [tys, List.mem_cons, List.not_mem_nil, or_false] at hT
  rcases hT with rfl | rfl | rfl | rfl | rfl | rfl | rfl <;> (rw [typeLookup_type, builtinLookup_eq_fast]; kernel_rfl)
theorem refl_mul : ∀ T ∈ tys, typeLookup (.type T) (dunderR "mul") = pure (if (T == "int" || T == "bool") = true then some (.builtin "int.__rmul__") else if T == "str" then some (.builtin "str.__rmul__") else if T == "list" then some (.builtin "list.__rmul__") else if T == "tuple" then some (.builtin "tuple.__rmul__") else none) := by
  intro T hT
  simp only [tys, List.mem_cons, List.not_mem_nil, or_false] at hT
  rcases hT with rfl | rfl | rfl | rfl | rfl | rfl | rfl <;> (rw [typeLookup_type, builtinLookup_eq_fast]; kernel_rfl)
/-- an int's own slot stands off an object that is no int -/
theorem off_meets {nm : String} {x : Addr} {v : Value} {i : Int} {g : Int → Int → Sem Fin} (hv : (∃ t, v = .int i t) ∨ ∃ b, v = .bool b) : Meets (Builtin.Int.intBinary nm g false ⟨[v, .ref x], []⟩) (fun _ R s => ∃ o, s.heap.get? x = some o ∧ o.data = .plain ∧ R (.ok (.ret .notImplemented)) s) := by
  intro prog w A R s h
  obtain ⟨o, e, d, q⟩ := h
  obtain ⟨hp, gs, dr, tk, os⟩ := s
  rcases hv with ⟨t, rfl⟩ | ⟨b, rfl⟩
  · unfold Builtin.Int.intBinary
    wp_walk using wpAny_loadPart' e
    rw [d]
    exact wpAny_pure (wpAny_bind (wpAny_rule (wpAny_pure q)))
  · unfold Builtin.Int.intBinary
    wp_walk using wpAny_loadPart' e
    rw [d]
    exact wpAny_pure (wpAny_bind (wpAny_rule (wpAny_pure q)))
section
variable {prog : Program} {w : World} {A : Around} {E : Value → Shared → Prop} {s : Shared} {x : Addr} {o : Obj} {v : Value} {i : Int}
/-- .. so its method gives none -/
theorem off_try {T id : String} {nm : String} {nb : String} {g : Int → Int → Sem PySem.Fin} {R : Option Value → Shared → Prop} (hv : (∃ t, v = .int i t) ∨ ∃ b, v = .bool b) (ho : s.heap.get? x = some o) (hd : o.data = .plain) (hT : s.TypeIs v T) (slot : Slot T (dunder nm) id)
    (entry : entryFor table id = some (Builtin.Int.intBinary nb g false)) (args : argsOk id ⟨[v, .ref x], []⟩) (h : R none s) : wpAny (model prog w) A (tryMethod v (dunder nm) (.ref x)) R E s := by
  unfold tryMethod
  exact wpAny_bind (wpAny_callSpecial?_slot hT slot (call_meets slot hT entry args (off_meets hv) ⟨o, ho, hd, wpAny_pure h⟩))
theorem off_add {R : Option Value → Shared → Prop} (ho : s.heap.get? x = some o) (hd : o.data = .plain) (h : R none s) : (∀ t, v = .int i t → wpAny (model prog w) A (tryMethod v (dunder "add") (.ref x)) R E s) ∧ (∀ b, v = .bool b → wpAny (model prog w) A (tryMethod v (dunder "add") (.ref x)) R E s) := by
  refine ⟨fun t e => ?_, fun b e => ?_⟩
  · exact off_try (T := "int") (i := i) (.inl ⟨t, e⟩) ho hd (by rw [e]; exact rfl) F.slot_int_add F.entry_int_add (F.args_int_add_2 _ _) h
  · exact off_try (T := "bool") (i := i) (.inr ⟨b, e⟩) ho hd (by rw [e]; exact rfl) F.slot_bool_add F.entry_int_add (F.args_int_add_2 _ _) h
end
end Own

/-! own layer, of no law: OWN5: rules for an own class's operators with what is handed in. -/
namespace Own
open PySem PySem.Spec PyProof.Rows L2 LamX NdefX
/-- what an operator's built-in slots say -/
structure OpB (op : Operator) : Prop where
  fill : ∀ T ∈ tys, fillsNumberSlot (.type T) op.info.2 = pure (T == "int" || T == "bool")
  back : ∀ T ∈ tys, ∃ r, typeLookup (.type T) (dunderR op.info.2) = pure r
  off : ∀ {prog : Program} {w : World} {A : Around} {E : Value → Shared → Prop} {s : Shared} {x : Addr} {o : Obj} {v : Value} {i : Int} {R : Option Value → Shared → Prop}, s.heap.get? x = some o → o.data = .plain → ((∃ t, v = .int i t) ∨ ∃ b, v = .bool b) → R none s →
    wpAny (model prog w) A (tryMethod v (PySem.dunder op.info.2) (.ref x)) R E s
theorem opb_add : OpB .Add := ⟨fill_add, fun T h => ⟨_, refl_add T h⟩, fun {prog w A E s x o v i R} ho hd hv h => by
  rcases hv with ⟨t, e⟩ | ⟨b, e⟩
  · exact off_try (T := "int") (i := i) (.inl ⟨t, e⟩) ho hd (by rw [e]; exact rfl) F.slot_int_add F.entry_int_add (F.args_int_add_2 _ _) h
  · exact off_try (T := "bool") (i := i) (.inr ⟨b, e⟩) ho hd (by rw [e]; exact rfl) F.slot_bool_add F.entry_int_add (F.args_int_add_2 _ _) h⟩
theorem opb_sub : OpB .Sub := ⟨fill_sub, fun T h => ⟨_, refl_sub T h⟩, fun {prog w A E s x o v i R} ho hd hv h => by
  rcases hv with ⟨t, e⟩ | ⟨b, e⟩
  · exact off_try (T := "int") (i := i) (.inl ⟨t, e⟩) ho hd (by rw [e]; exact rfl) F.slot_int_sub F.entry_int_sub (F.args_int_sub_2 _ _) h
  · exact off_try (T := "bool") (i := i) (.inr ⟨b, e⟩) ho hd (by rw [e]; exact rfl) F.slot_bool_sub F.entry_int_sub (F.args_int_sub_2 _ _) h⟩
theorem opb_mul : OpB .Mult := ⟨fill_mul, fun T h => ⟨_, refl_mul T h⟩, fun {prog w A E s x o v i R} ho hd hv h => by
  rcases hv with ⟨t, e⟩ | ⟨b, e⟩
  · exact off_try (T := "int") (i := i) (.inl ⟨t, e⟩) ho hd (by rw [e]; exact rfl) F.slot_int_mul F.entry_int_mul (F.args_int_mul_2 _ _) h
  · exact off_try (T := "bool") (i := i) (.inr ⟨b, e⟩) ho hd (by rw [e]; exact rfl) F.slot_bool_mul F.entry_int_mul (F.args_int_mul_2 _ _) h⟩
section
variable {X : Cx} {pins : List (Addr × Obj)} {σ : L2.St} {H : Hp} {s : Shared}
/-- of which built-in type a thing is -/
theorem thing_ty {x : V} {v : Value} (I : Inv X pins σ H s) (t : Thing H x) (r : RelV x v) : ∃ T ∈ tys, PySem.W.Looks (model X.prog X.w) s.heap (typeOf v) (.type T) ∧ ((T == "int" || T == "bool") = true → ∃ i : Int, (∃ t, v = .int i t) ∨ ∃ b, v = .bool b) := by
  cases t with
  | non =>
    obtain rfl : v = .none := r
    exact ⟨"NoneType", by simp [tys], .of_pure rfl, fun z => absurd z (by decide)⟩
  | bl b =>
    obtain rfl : v = .bool b := r
    exact ⟨"bool", by simp [tys], .of_pure rfl, fun _ => ⟨0, .inr ⟨b, rfl⟩⟩⟩
  | int i =>
    obtain ⟨t, rfl⟩ := r
    exact ⟨"int", by simp [tys], .of_pure rfl, fun _ => ⟨i, .inl ⟨t, rfl⟩⟩⟩
  | str z =>
    obtain ⟨t, rfl⟩ := r
    exact ⟨"str", by simp [tys], .of_pure rfl, fun z => absurd z (by decide)⟩
  | @lst a xs e =>
    obtain rfl : v = .ref a := r
    obtain ⟨_, its, n, _, ho⟩ := I.hok a _ e
    exact ⟨"list", by simp [tys], fun A Q E s' k q => wpAny_typeOf_ref (k _ _ ho) q, fun z => absurd z (by decide)⟩
  | @tup a xs e =>
    obtain rfl : v = .ref a := r
    obtain ⟨_, its, _, o, ho, hc, _⟩ := I.hok a _ e
    exact ⟨"tuple", by simp [tys], fun A Q E s' k q => wpAny_typeOf_ref (k _ _ ho) (by rw [hc]; exact q), fun z => absurd z (by decide)⟩
  | @dct a kvs e =>
    obtain rfl : v = .ref a := r
    obtain ⟨_, _, vs, _, o, es, ep, ho, hc, _⟩ := I.hok a _ e
    exact ⟨"dict", by simp [tys], fun A Q E s' k q => wpAny_typeOf_ref (k _ _ ho) (by rw [hc.1]; exact q), fun z => absurd z (by decide)⟩
variable {CX : CXT} {n : Nat} {C f g : Addr} {fd : FuncData} {ps : List Str} {sp : Sp} {E : XK} {op : Operator}
/-- own op thing -/
theorem op_ownL (B : OpB op) (F : FnOk X.prog X.w X.K X.mg X.base CX n f fd ps sp) (hr : Room n X.A) (hc : PySem.W.selfFirst X.K C = true) (hs : PySem.W.findIn X.K (.ref C) (PySem.dunder op.info.2) = some (some (.ref f))) (hf : PySem.W.isFn X.K (.ref f) = true)
    (hm : PySem.W.findIn X.K (.ref C) (dunderR op.info.2) = some (some (.ref g))) (hsub : ∀ T ∈ tys, PySem.W.subIn X.K (.type T) (.ref C) = some false) (hb : Binds X.K fd ps []) (hx : Passes CX X E) :
    OpR X (binaryOp op) (fun x y H Q => ∃ a dx fs, x = V.ref a ∧ H a = some (.ins C dx fs) ∧ Thing H y ∧ sp [.ref a, y] H Q E) := by
  intro pins s σ H x y v u Q I rx ry h
  obtain ⟨a, dx, fs, rfl, ha, ty, q⟩ := h
  cases rx
  obtain ⟨mA, J, _⟩ := ins_get I.hok ha
  obtain ⟨od, J, _⟩ := J.look
  obtain ⟨T, hT, lk, _⟩ := thing_ty I ty ry
  obtain ⟨r, hbk⟩ := B.back T hT
  exact own_left I.kIn J lk hc hs hf hm (.inr ⟨g, rfl⟩) (B.fill T hT) hbk (hsub T hT) (back_of (run_fn F hr hb .nil hx I (.cons (show L2.RelV (V.ref a) (Value.ref a) from rfl) (.cons ry .nil)) q))
/-- thing op own -/
theorem op_ownR (B : OpB op) (F : FnOk X.prog X.w X.K X.mg X.base CX n f fd ps sp) (hr : Room n X.A) (hc : PySem.W.selfFirst X.K C = true) (hs : PySem.W.findIn X.K (.ref C) (PySem.dunder op.info.2) = some (some (.ref g))) (hf : PySem.W.isFn X.K (.ref f) = true)
    (hm : PySem.W.findIn X.K (.ref C) (dunderR op.info.2) = some (some (.ref f))) (hsub : ∀ T ∈ tys, PySem.W.subIn X.K (.ref C) (.type T) = some false) (hb : Binds X.K fd ps []) (hx : Passes CX X E) :
    OpR X (binaryOp op) (fun x y H Q => ∃ b dy fs, y = V.ref b ∧ H b = some (.ins C dy fs) ∧ Thing H x ∧ sp [.ref b, x] H Q E) := by
  intro pins s σ H x y v u Q I rx ry h
  obtain ⟨b, dy, fs, rfl, hb', tx, q⟩ := h
  cases ry
  obtain ⟨mB, J, _⟩ := ins_get I.hok hb'
  obtain ⟨od, J, _⟩ := J.look
  obtain ⟨T, hT, lk, num⟩ := thing_ty I tx rx
  obtain ⟨cd, tl, c1, c2⟩ := PySem.W.ksp_first hc
  refine own_right I.kIn J (fun s' k => lk.keeps k) hc hm hf (fun h K' => PySem.W.fills_K K' c1 c2 hs) (B.fill T hT) (hsub T hT) (fun z R s' k hR => ?_) fun t => ?_
  · obtain ⟨i, hi⟩ := num z
    obtain ⟨_, _, _, ho, _⟩ := I.hok b _ hb'
    exact B.off (k _ _ ho) rfl hi (hR s'.toks)
  · exact back_of (run_fn F hr hb .nil hx (I.tok t) (.cons (show L2.RelV (V.ref b) (Value.ref b) from rfl) (.cons rx .nil)) q)
end
end Own

/-! own layer, of no law: OWN6: == and abs of an own class. -/
namespace Own
open PySem PySem.Spec PyProof.Rows L2 LamX NdefX
section
variable {X : Cx} {pins : List (Addr × Obj)} {σ : L2.St} {H : Hp} {s : Shared}
variable {CX : CXT} {n : Nat} {C f : Addr} {fd : FuncData} {ps : List Str} {sp : Sp} {E : XK}
/-- own == anything -/
theorem op_ownEq (F : FnOk X.prog X.w X.K X.mg X.base CX n f fd ps sp) (hr : Room n X.A) (hs : PySem.W.findIn X.K (.ref C) "__eq__" = some (some (.ref f))) (hf : PySem.W.isFn X.K (.ref f) = true) (hsub : ∀ T ∈ tys, PySem.W.subIn X.K (.type T) (.ref C) = some false) (hb : Binds X.K fd ps []) (hx : Passes CX X E) :
    OpR X (compareOp .Eq) (fun x y H Q => ∃ a dx fs, x = V.ref a ∧ H a = some (.ins C dx fs) ∧ ((∃ b dy gs, y = V.ref b ∧ H b = some (.ins C dy gs)) ∨ Thing H y) ∧ sp [.ref a, y] H Q E) := by
  intro pins s σ H x y v u Q I rx ry h
  obtain ⟨a, dx, fs, rfl, ha, ty, q⟩ := h
  cases rx
  obtain ⟨mA, J, _⟩ := ins_get I.hok ha
  obtain ⟨od, J, _⟩ := J.look
  obtain ⟨m, hF⟩ := I.fr
  have un : X.A.units < cLine := by
    have := hr.units
    omega
  show wpAny (model X.prog X.w) X.A (richCompare .Eq (.ref a) u) (EP X pins σ Q) X.xe s
  have call := back_of (run_fn F hr hb .nil hx I (.cons (show L2.RelV (V.ref a) (Value.ref a) from rfl) (.cons ry .nil)) q)
  rcases ty with ⟨b, dy, gs, rfl, hb'⟩ | ty
  · cases ry
    obtain ⟨mB, J', _⟩ := ins_get I.hok hb'
    obtain ⟨od', J', _⟩ := J'.look
    exact PySem.W.cmp_K (op := .Eq) (tb := .ref C) un hF I.ok.mod.kin J J'.type (by simp [PySem.W.notFirst]) hs hf call
  · obtain ⟨T, hT, lk, _⟩ := thing_ty I ty ry
    exact PySem.W.cmp_K (op := .Eq) (tb := .type T) un hF I.ok.mod.kin J lk (by unfold PySem.W.notFirst; rw [hsub T hT]; simp) hs hf call
/-- abs(own) -/
theorem call_absOwn (F : FnOk X.prog X.w X.K X.mg X.base CX n f fd ps sp) (hr : Room (n + 1) X.A) (hs : PySem.W.findIn X.K (.ref C) "__abs__" = some (some (.ref f))) (hf : PySem.W.isFn X.K (.ref f) = true) (hb : Binds X.K fd ps []) (hx : Passes CX X E) :
    CallR X (.builtin "abs") (fun xs H Q => ∃ a dx fs, xs = [V.ref a] ∧ H a = some (.ins C dx fs) ∧ sp [.ref a] H Q E) := by
  intro pins s σ H xs us Q I rs h
  obtain ⟨a, dx, fs, rfl, ha, q⟩ := h
  obtain ⟨u, rfl, rx⟩ := vals1 rs
  cases rx
  obtain ⟨mA, J, _⟩ := ins_get I.hok ha
  obtain ⟨od, J, _⟩ := J.look
  have A1 : Room n X.A.in1 := hr.in1
  refine PySem.Calls.call_function_entry kind_abs plain_abs entry_abs (args_abs _) ?_
  unfold Builtin.«abs»
  refine wpAny_bind (m := oneArg "abs" _) (wpAny_pure ?_)
  refine wpAny_bind (m := callSpecial? (.ref a) (Str.ofString "__abs__")) (PySem.W.special_fn I.kIn J hs (beq_iff_eq.mp hf) ?_)
  have e0 : Env0 X.prog X.w X.K X.mg X.base X.A.in1 X.stack s H := by
    have e := I.env0
    exact ⟨e.frames, e.mod, e.bs, e.bsz, e.funs, e.frf, e.hok, e.bare⟩
  have r1 : Vals [V.ref a] [Value.ref a] := .cons (show L2.RelV (V.ref a) (Value.ref a) from rfl) .nil
  have hl := F.len _ _ _ _ q
  refine wpAny_call (codeAny_mono (F.run X.A.in1 X.stack s H ⟨[.ref a], []⟩ [.ref a] [.ref a] Q E A1 e0 (by
    have z := hb s [.ref a] I.kIn (by simpa using hl)
    simpa using z) r1 q) fun r s' hq => ?_)
  cases r with
  | error e => exact hx pins σ H s e s' I hq
  | ok fl =>
    cases fl with
    | ret w => exact wpAny_pure ⟨_, rfl, I.after hq⟩
    | next => exact False.elim hq
    | brk => exact False.elim hq
    | cont => exact False.elim hq
end
end Own

/-! own layer, of no law: OWN7: != of an own class that has == alone. -/
namespace Own
open PySem PySem.Spec PySem.Calls PyProof.Rows
section
variable {prog : Program} {w : World} {A : Around} {E : Value → Shared → Prop} {s : Shared} {K : PySem.W.Frag} {x C f : Addr} {ox : Obj} {od : Option Obj}
open PySem.W in
theorem ne_body {b : Value} {Q : Fin → Shared → Prop} (un : A.units < cLine) (KX : K.In s.heap) (J : InstAt s.heap x ox C od) (eq : findIn K (.ref C) "__eq__" = some (some (.ref f))) (fn : isFn K (.ref f) = true)
    (go : wpAny (model prog w) A (call (.ref f) [.ref x, b]) (fun v s' => ∃ c, v = .bool c ∧ Q (.done (.ret (.bool (!c)))) s') E s) : wpAny (model prog w) A (Builtin.«object.__ne__» ⟨[.ref x, b], []⟩) Q E s := by
  unfold Builtin.«object.__ne__»
  refine wpAny_bind (m := slotArgs "__ne__" 1 _) (wpAny_pure ?_)
  dsimp only
  refine wpAny_bind (wpAny_cRoomFor un ?_)
  refine wpAny_bind (m := callSpecialIfBound? (.ref x) (Str.ofString "__eq__") [b]) (ifBound_K KX J eq fn (wpAny_mono go (fun v s' z => ?_) fun _ _ e => e))
  obtain ⟨c, rfl, q⟩ := z
  exact wpAny_bind (wpAny_truthy_bool (wpAny_pure q))
theorem ne_args (a b : Value) : argsOk "object.__ne__" ⟨[a, b], []⟩ := F.cmpArgs_ne a b
theorem ne_bind (self : Value) : bindSpecial (.builtin "object.__ne__") self = pure (.builtin "object.__ne__", [self]) :=
  (Slot.of (T := "object") (name := "__ne__") (owner := "object") (n := "__ne__") (by rw [typeLookup_type, builtinLookup_eq_fast]; kernel_rfl) (by decide +kernel) (by decide +kernel) (by decide +kernel) (.inl (by decide +kernel)) (by rw [isSubtype_type]; kernel_rfl)).bind self
open PySem.W in
theorem ne_try {b : Value} {Q : Option Value → Shared → Prop} (un : A.units + 1 < cLine) (KX : K.In s.heap) (J : InstAt s.heap x ox C od) (ne : findIn K (.ref C) "__ne__" = some (some (.builtin "object.__ne__"))) (obj : subIn K (.ref C) (.type "object") = some true) (eq : findIn K (.ref C) "__eq__" = some (some (.ref f))) (fn : isFn K (.ref f) = true)
    (go : wpAny (model prog w) A.in1 (call (.ref f) [.ref x, b]) (fun v s' => ∃ c, v = .bool c ∧ Q (some (.bool (!c))) s') E s) : wpAny (model prog w) A (tryCompare (.ref x) "__ne__" b) Q E s := by
  have isO : Looks (model prog w) s.heap (isInstance (.ref x) (.type "object")) true := J.type.andThen (looks_subIn KX obj)
  have run : wpAny (model prog w) A (call (.builtin "object.__ne__") [.ref x, b]) (fun v s' => ∃ c : Bool, v = .bool c ∧ Q (some (.bool c)) s') E s := by
    refine wpAny_call (codeAny_call_builtin (by decide +kernel) F.cmpEntry_ne (check_slot F.cmpKind_ne F.cmpSplit_ne isO (ne_args _ _) (ne_body (A := A.in1) (by exact un) KX J eq fn (wpAny_mono go (fun v s' z => ?_) fun _ _ e => e))))
    obtain ⟨c, rfl, q⟩ := z
    exact ⟨c, rfl, ⟨!c, rfl, q⟩⟩
  have fin : wpAny (model prog w) A (call (.builtin "object.__ne__") ([.ref x] ++ [b]) >>= fun v => pure (some v)) (fun r s' => ∃ c : Bool, r = some (.bool c) ∧ Q (some (.bool c)) s') E s := wpAny_bind (wpAny_mono run (fun v s' z => by
    obtain ⟨c, rfl, q⟩ := z
    exact wpAny_pure ⟨c, rfl, q⟩) fun _ _ e => e)
  have whole : wpAny (model prog w) A (callSpecialIfBound? (.ref x) "__ne__" [b]) (fun r s' => ∃ c : Bool, r = some (.bool c) ∧ Q (some (.bool c)) s') E s := by
    simp only [callSpecialIfBound?, bindSpecialIfBound?]
    refine wpAny_holding (wpAny_bind (wpAny_bind (wpAny_bind (J.type.here ((looks_findIn KX ne).here ?_)))))
    refine wpAny_bind (wpAny_askSetting (wpAny_ite ?_))
    split
    · rw [ne_bind]
      exact wpAny_bind (wpAny_pure (wpAny_pure fin))
    · rw [ne_bind]
      exact wpAny_tryCatch (wpAny_bind (wpAny_pure (wpAny_pure fin)))
  unfold tryCompare
  refine wpAny_bind (wpAny_mono whole (fun r s' z => ?_) fun _ _ e => e)
  obtain ⟨c, rfl, q⟩ := z
  exact wpAny_pure q
open PySem.W in
/-- own != b -/
theorem own_ne {b tb : Value} {Q : Value → Shared → Prop} (un : A.units + 1 < cLine) (KX : K.In s.heap) (J : InstAt s.heap x ox C od) (lk : Looks (model prog w) s.heap (typeOf b) tb) (nf : notFirst K C tb = true) (ne : findIn K (.ref C) "__ne__" = some (some (.builtin "object.__ne__"))) (obj : subIn K (.ref C) (.type "object") = some true)
    (eq : findIn K (.ref C) "__eq__" = some (some (.ref f))) (fn : isFn K (.ref f) = true) (go : wpAny (model prog w) A.in1 (call (.ref f) [.ref x, b]) (fun v s' => ∃ c, v = .bool c ∧ Q (.bool (!c)) s') E s) : wpAny (model prog w) A (richCompare .NotEq (.ref x) b) Q E s := by
  have one : wpAny (model prog w) A (tryCompare (.ref x) "__ne__" b) (fun r s' => ∃ v, r = some v ∧ Q v s') E s := ne_try un KX J ne obj eq fn (wpAny_mono go (fun v s' z => by
    obtain ⟨c, rfl, q⟩ := z
    exact ⟨c, rfl, _, rfl, q⟩) fun _ _ e => e)
  unfold richCompare
  simp only [oneThing_ref]
  refine wpAny_holding (wpAny_bind (wpAny_cRoomFor (Nat.lt_of_succ_lt un) ?_))
  refine wpAny_bind (J.type.here (wpAny_bind (lk.here ?_)))
  split
  · rename_i hd
    have sb : subIn K tb (.ref C) = some false := by
      unfold notFirst at nf
      rcases Bool.or_eq_true_iff.mp nf with z | z
      · rw [beq_iff_eq.mp z] at hd
        simp at hd
      · exact beq_iff_eq.mp z
    refine wpAny_bind ((looks_subIn KX sb).here ?_)
    rw [if_neg Bool.false_ne_true]
    refine wpAny_bind (wpAny_mono one (fun r s' z => ?_) fun _ _ z => z)
    obtain ⟨v, rfl, hv⟩ := z
    exact wpAny_pure hv
  · refine wpAny_bind (wpAny_pure ?_)
    rw [if_neg Bool.false_ne_true]
    refine wpAny_bind (wpAny_mono one (fun r s' z => ?_) fun _ _ z => z)
    obtain ⟨v, rfl, hv⟩ := z
    exact wpAny_pure hv
end
end Own

/-! own layer, of no law: OWN8: the rule of !=. -/
namespace Own
open PySem PySem.Spec PyProof.Rows L2 LamX NdefX
section
variable {X : Cx} {pins : List (Addr × Obj)} {σ : L2.St} {H : Hp} {s : Shared}
variable {CX : CXT} {n : Nat} {C f : Addr} {fd : FuncData} {ps : List Str} {sp : Sp} {E : XK}
/-- a def's run one call deeper -/
theorem run_in1 {us : List Value} {vs : List V} {Q : VK} {R : Value → Shared → Prop} (F : FnOk X.prog X.w X.K X.mg X.base CX n f fd ps sp) (hr : Room (n + 1) X.A) (hb : Binds X.K fd ps []) (hx : Passes CX X E) (I : Inv X pins σ H s) (r : Vals vs us) (q : sp vs H Q E)
    (k : ∀ v s', EP X pins σ Q v s' → R v s') : wpAny (model X.prog X.w) X.A.in1 (call (.ref f) us) R X.xe s := by
  have e0 : Env0 X.prog X.w X.K X.mg X.base X.A.in1 X.stack s H := by
    have e := I.env0
    exact ⟨e.frames, e.mod, e.bs, e.bsz, e.funs, e.frf, e.hok, e.bare⟩
  have hl := F.len _ _ _ _ q
  have bt : BindsTo s fd ⟨us, []⟩ (ps.zip us) := by
    have z := hb s us I.kIn (by rw [List.append_nil, ← r.length]; exact hl)
    rw [List.append_nil] at z
    exact z
  refine wpAny_call (codeAny_mono (F.run X.A.in1 X.stack s H ⟨us, []⟩ us vs Q E hr.in1 e0 bt r q) fun r s' hq => ?_)
  cases r with
  | error e => exact hx pins σ H s e s' I hq
  | ok fl =>
    cases fl with
    | ret w => exact k _ _ (I.after hq)
    | next => exact False.elim hq
    | brk => exact False.elim hq
    | cont => exact False.elim hq
/-- own != anything -/
theorem op_ownNe (F : FnOk X.prog X.w X.K X.mg X.base CX n f fd ps sp) (hr : Room (n + 1) X.A) (ne : PySem.W.findIn X.K (.ref C) "__ne__" = some (some (.builtin "object.__ne__"))) (obj : PySem.W.subIn X.K (.ref C) (.type "object") = some true) (hs : PySem.W.findIn X.K (.ref C) "__eq__" = some (some (.ref f))) (hf : PySem.W.isFn X.K (.ref f) = true)
    (hsub : ∀ T ∈ tys, PySem.W.subIn X.K (.type T) (.ref C) = some false) (hb : Binds X.K fd ps []) (hx : Passes CX X E) :
    OpR X (compareOp .NotEq) (fun x y H Q => ∃ a dx fs, x = V.ref a ∧ H a = some (.ins C dx fs) ∧ ((∃ b dy gs, y = V.ref b ∧ H b = some (.ins C dy gs)) ∨ Thing H y) ∧ sp [.ref a, y] H (fun v H' => ∃ c, v = .bl c ∧ Q (.bl (!c)) H') E) := by
  intro pins s σ H x y v u Q I rx ry h
  obtain ⟨a, dx, fs, rfl, ha, ty, q⟩ := h
  cases rx
  obtain ⟨mA, J, _⟩ := ins_get I.hok ha
  obtain ⟨od, J, _⟩ := J.look
  have un : X.A.units + 1 < cLine := by
    have := hr.un
    omega
  show wpAny (model X.prog X.w) X.A (richCompare .NotEq (.ref a) u) (EP X pins σ Q) X.xe s
  have go : wpAny (model X.prog X.w) X.A.in1 (call (.ref f) [.ref a, u]) (fun v s' => ∃ c, v = .bool c ∧ EP X pins σ Q (.bool (!c)) s') X.xe s := run_in1 F hr hb hx I (.cons (show L2.RelV (V.ref a) (Value.ref a) from rfl) (.cons ry .nil)) q fun v s' z => by
    obtain ⟨z, H', I', rz, c, rfl, q'⟩ := z
    obtain rfl : v = .bool c := rz
    exact ⟨c, rfl, .bl (!c), H', I', rfl, q'⟩
  rcases ty with ⟨b, dy, gs, rfl, hb'⟩ | ty
  · cases ry
    obtain ⟨mB, J', _⟩ := ins_get I.hok hb'
    obtain ⟨od', J', _⟩ := J'.look
    exact own_ne un I.kIn J J'.type (by simp [PySem.W.notFirst]) ne obj hs hf go
  · obtain ⟨T, hT, lk, _⟩ := thing_ty I ty ry
    exact own_ne un I.kIn J lk (by unfold PySem.W.notFirst; rw [hsub T hT]; simp) ne obj hs hf go
end
end Own

/-! own layer, of no law: OWN9: an attribute as one of several targets. -/
namespace Own
open PySem PySem.Spec PyProof.Rows L2 LamX NdefX
section
variable {X : Cx} {o : Expr} {ta : TE} {f : Str} {pos : Pos}
def gFld (K : PySem.W.Frag) (ta : TE) (f : Str) : TG := fun y σ H Q => ta σ H fun x H2 => ∃ a C dx fs, x = V.ref a ∧ H2 a = some (.ins C dx fs) ∧ Cls K C ∧ NoAttr K C f ∧ fs.length < 1000 ∧ Q σ (upd H2 a (.ins C dx (putF f y fs)))
theorem pg_fld (ha : PE X o ta) : PG X (.Attribute o f pos) (gFld X.K ta f) := by
  refine ⟨fun pins s σ H v u Q I r h => ?_⟩
  have e : assign (.Attribute o f pos) X.env u = (do
      let ov ← holding [u] (eval o X.env)
      standAt pos.atName
      holding [u, ov] (setAttr ov f u)
      PySem.release [u, ov] []) := rfl
  rw [e]
  refine wpAny_bind (wpAny_holding (thn (ha.run pins s σ H _ I h) fun ov s1 z => ?_))
  obtain ⟨x, H1, I1, rx, a, C, dx, fs, rfl, ea, c, n, l, q⟩ := z
  obtain rfl : ov = Value.ref a := rx
  refine wpAny_bind (wpAny_standAt (wpAny_bind (wpAny_holding (setattr_ok I1 ea c n l r fun s3 I3 => ?_))))
  exact wpAny_release ⟨σ, _, I3, q⟩
end
end Own

/-! k50: the pen's defs. -/
namespace K50
open PySem PySem.Spec PyProof.Rows L2 LamX NdefX Own
def topS (i : Nat) : Stmt := PySem.Challenge.pw_figurestay_k50_whole_all_orders.main.body.getD i (.Pass ⟨0, 0, 0, 0⟩)
abbrev sBegin : Stmt := topS 50
abbrev sDraw : Stmt := topS 51
abbrev sPick : Stmt := topS 52
abbrev sGreat : Stmt := topS 53
theorem un3 : Un3 "cells" "at" "left" := by unfold Un3; decide +kernel
abbrev Pen (H : Hp) (d : Addr) (B : Int) : Prop := PenG "cells" "at" "left" H d B
abbrev KeepP (d : Addr) (H H' : Hp) : Prop := KeepG "cells" "at" "left" d H H'
abbrev penK (p : Addr) (c l : Int) : List (Key × V) := penG "cells" "at" "left" p c l
section
variable {P : Program} {w : World} {K : PySem.W.Frag} {mg : Str → Option Value} {base : Heap} {C : Addr}
theorem scBegin : FnScope ["_law_script"] ["_law_script"] (defScope sBegin) := ⟨rfl, rfl, rfl, by decide +kernel, rfl, by decide +kernel, by decide +kernel⟩
theorem scDraw : FnScope ["_law_pen_here", "_law_span", "_law_digit", "_law_at", "_law_cell", "_law_mash"] ["_law_pen_here", "_law_span"] (defScope sDraw) := ⟨rfl, rfl, rfl, by decide +kernel, rfl, by decide +kernel, by decide +kernel⟩
/-- draw(pen, n): an int from 0 to n - 1; the pen has begun one draw more -/
def spDraw : Sp := fun vs H Q _ => ∃ (d : Addr) (n B : Int), vs = [.ref d, .int n] ∧ Pen H d B ∧ B ≤ 1000000000 ∧ 0 < n ∧ n ≤ 100000000 ∧
  ∀ (v : Int) (H' : Hp), 0 ≤ v → v < n → KeepP d H H' → Pen H' d (B + 1) → Q (.int v) H'
theorem ok_draw (A : At K mg "_law_draw" sDraw ["_law_pen_here", "_law_span"]) (T : Blt mg) : DefOk P w K mg base CX0 "_law_draw" 1 ["_law_pen_here", "_law_span"] spDraw := by
  refine A.ok fun f fd F => F.ok scDraw (fun vs H Q E h => ?_) (fun cdv A outer s H vs Q E hr h => ?_)
  · obtain ⟨d, n, B, rfl, _⟩ := h
    rfl
  · obtain ⟨d, n, B, rfl, hp, hB, h0, h1, q⟩ := h
    have hu := hu_of hr
    have nd := scDraw.nd
    refine ⟨_, pss_cons (ps_if (pt_cmpR op_ge (pe_dget hu (pv 0) pe_str (fun _ _ => rfl)) (pv 1) (nomark _)) (pss_cons (ps_set (i := 2) nd rfl (.inl rfl) (pe_op op_mod (pe_callTy call_int1 (by rfl) T.int (by decide +kernel) (pa_cons (pe_dget hu (pv 0) pe_str (fun _ _ => rfl)) pa_nil)) (pv 1))) (pss_cons (ps_dput hu (pv 0) pe_str (pe_op op_fdiv (pe_dget hu (pv 0) pe_str (fun _ _ => rfl)) (pv 1)) rfl) (pss_one (ps_ret (pv 2))))) pss_nil)
      (pss_cons (ps_set (i := 3) nd rfl (.inl rfl) (pe_dget hu (pv 0) pe_str (fun _ _ => rfl)))
      (pss_cons (ps_dput hu (pv 0) pe_str (pe_op op_add (pv 3) pe_int) rfl)
      (pss_cons (ps_set (i := 4) nd rfl (.inl rfl) (pe_op op_add (pe_op op_mul pe_int (pv 3)) pe_int))
      (C8.pss_cut (ps_if (pt_cmpR (op_neD hr.units) (pe_dget hu (pv 0) pe_str (fun _ _ => rfl)) (pe_lst pa_nil) (nomark _)) (pss_one (ps_set (i := 4) nd rfl (.inl rfl) (pe_ix ix_list (pe_dget hu (pv 0) pe_str (fun _ _ => rfl)) (pe_op op_mod (pe_callTy call_int1 (by rfl) T.int (by decide +kernel) (pa_cons (pv 3) pa_nil)) (pe_callB call_len_seq (by rfl) T.len PySem.boot_len (pa_cons (pe_dget hu (pv 0) pe_str (fun _ _ => rfl)) pa_nil))) (fun _ _ => rfl)))) pss_nil)
      (C8.pss_cut (ps_if (PW.pt (pw_and (pt_cmpR op_lt (pv 3) (pe_callB call_len_seq (by rfl) T.len PySem.boot_len (pa_cons (pe_dget hu (pv 0) pe_str (fun _ _ => rfl)) pa_nil)) (nomark _)) (pw_and1 (pt_cmpR op_ge (pv 4) (pe_op op_pow pe_int pe_int) (nomark _))))) (pss_cons (ps_dput hu (pv 0) pe_str (pe_op op_fdiv (pe_op op_sub (pv 4) (pe_op op_pow pe_int pe_int)) (pv 1)) rfl) (pss_one (ps_ret (pe_op op_mod (pe_callTy call_int1 (by rfl) T.int (by decide +kernel) (pa_cons (pe_op op_sub (pv 4) (pe_op op_pow pe_int pe_int)) pa_nil)) (pv 1))))) pss_nil)
      (pss_cons (ps_set (i := 5) nd rfl (.inl rfl) (pe_op op_add (pe_op op_mul (pe_op op_mod (pe_callTy call_int1 (by rfl) T.int (by decide +kernel) (pa_cons (pv 4) pa_nil)) pe_int) pe_int) (pe_op op_mul (pe_op op_mul pe_int (pv 3)) (pv 3))))
      (pss_cons (ps_set (i := 5) nd rfl (.inl rfl) (pe_op op_mod (pe_callTy call_int1 (by rfl) T.int (by decide +kernel) (pa_cons (pe_op op_add (pe_op op_add (pv 5) (pe_op op_mul pe_int (pv 3))) pe_int) pa_nil)) pe_int))
      (pss_cons (ps_set (i := 5) nd rfl (.inl rfl) (pe_op op_mod (pe_callTy call_int1 (by rfl) T.int (by decide +kernel) (pa_cons (pe_op op_add (pe_op op_mul (pv 5) (pe_op op_add (pv 5) pe_int)) (pe_op op_mul pe_int (pv 3))) pa_nil)) pe_int))
      (pss_one (ps_ret (pe_op op_mod (pe_callTy call_int1 (by rfl) T.int (by decide +kernel) (pa_cons (pe_op op_fdiv (pe_op op_mod (pe_callTy call_int1 (by rfl) T.int (by decide +kernel) (pa_cons (pe_op op_add (pe_op op_mul (pv 5) (pv 5)) (pe_op op_mul pe_int (pv 5))) pa_nil)) pe_int) pe_int) pa_nil)) (pv 1)))))))))))), ?_⟩
    obtain ⟨p, ns, c, l, hd, hps, hns, hc0, hcB⟩ := hp.ex
    have npd : p ≠ d := ne_of hps hd (by intro z; cases z)
    have n0 : n ≠ 0 := by omega
    have nB : n < 1073741824 := by omega
    have pn : ∀ {H' : Hp} {c' l' : Int}, H' p = some (.lst (ns.map V.int)) → H' d = some (.dK (penK p c' l')) → 0 ≤ c' → c' ≤ B + 1 → Pen H' d (B + 1) := fun {H' c' l'} a b e g => ⟨p, ns, c', l', b, a, hns, e, g⟩
    refine ⟨_, rfl, d, .int l, rfl, gpen_c un3 hd, _, rfl, l, n, rfl, rfl, _, rfl, ite2 (fun hln => ?_) (fun hln => ?_)⟩
    · refine ⟨_, rfl, d, .int l, rfl, gpen_c un3 hd, .inl ⟨l, rfl, _, rfl, l, n, rfl, rfl, h0, ?_⟩⟩
      refine ⟨_, rfl, d, .int l, rfl, gpen_c un3 hd, _, rfl, l, n, rfl, rfl, ⟨h0, nB⟩, _, rfl, d, _, rfl, ppen_c un3 hd, ?_⟩
      refine ⟨_, rfl, ?_⟩
      exact q _ _ (Int.emod_nonneg _ n0) (Int.emod_lt_of_pos _ h0) (KeepG.put hd) (pn (by rw [upd_ne npd]; exact hps) upd_same hc0 (by omega))
    · refine ⟨_, rfl, d, .int c, rfl, gpen_b un3 hd, ?_⟩
      refine ⟨_, rfl, _, _, rfl, rfl, _, rfl, d, _, rfl, ppen_b un3 hd, ?_⟩
      refine ⟨_, rfl, _, c, rfl, rfl, .inl ⟨by decide, by decide⟩, _, _, rfl, rfl, ?_⟩
      generalize eH1 : upd H d (.dK (penK p (c + 1) l)) = H1
      have hd1 : H1 d = some (.dK (penK p (c + 1) l)) := by rw [← eH1]; exact upd_same
      have hp1 : H1 p = some (.lst (ns.map V.int)) := by rw [← eH1, upd_ne npd]; exact hps
      have k1 : KeepP d H H1 := by rw [← eH1]; exact KeepG.put hd
      refine ⟨fun σ H2 => (∃ x : Int, σ = [some (.ref d), some (.int n), none, some (.int c), some (.int x), none]) ∧ H2 d = some (.dK (penK p (c + 1) l)) ∧ H2 p = some (.lst (ns.map V.int)) ∧ KeepP d H H2, ?_, ?_⟩
      · refine ⟨_, rfl, d, .ref p, rfl, gpen_a un3 hd1, Nat.zero_le _, fun e ne => ?_⟩
        have he1 : ∀ {b o}, H1 b = some o → (upd H1 e (.lst [])) b = some o := fun {b o} z => by rw [upd_ne (ne_of_none z ne)]; exact z
        refine ⟨.list (ns.map PyData.int), .list [], .lst (SqL.of (he1 hp1)) (dpG_ints _), .lst (SqL.of upd_same) .nil, shG_ints _, shG_ints [], _, rfl, ?_⟩
        rw [neG_nil]
        generalize eH2 : upd H1 e (.lst []) = H2
        have hd2 : H2 d = some (.dK (penK p (c + 1) l)) := by rw [← eH2]; exact he1 hd1
        have hp2 : H2 p = some (.lst (ns.map V.int)) := by rw [← eH2]; exact he1 hp1
        have k2 : KeepP d H H2 := by rw [← eH2]; exact k1.trans (KeepG.new ne)
        refine ite2 (fun hne => ?_) (fun hne => ?_)
        · have hn0 : 0 < ns.length := by
            cases ns with
            | nil => simp at hne
            | cons a r => exact Nat.zero_lt_succ _
          have hpos : (0 : Int) < ((ns.map V.int).length : Int) := by rw [List.length_map]; omega
          obtain ⟨j, hj⟩ : ∃ j : Nat, c % ((ns.map V.int).length : Int) = (j : Int) := ⟨(c % ((ns.map V.int).length : Int)).toNat, (Int.toNat_of_nonneg (Int.emod_nonneg _ (by omega))).symm⟩
          have hjl : j < ns.length := by
            have z := Int.emod_lt_of_pos c hpos
            rw [hj, List.length_map] at z
            omega
          refine ⟨_, rfl, d, .ref p, rfl, gpen_a un3 hd2, _, rfl, .inl ⟨c, rfl, _, rfl, d, .ref p, rfl, gpen_a un3 hd2, p, _, rfl, .inl (SqL.of hp2), _, _, rfl, rfl, hpos, p, _, _, .int (ns[j]'hjl), rfl, rfl, SqL.of hp2, L2.at_of hj (by rw [List.getElem?_map, List.getElem?_eq_getElem hjl]; rfl), ?_⟩⟩
          exact ⟨⟨_, rfl⟩, hd2, hp2, k2⟩
        · exact ⟨⟨_, rfl⟩, hd2, hp2, k2⟩
      · rintro σ2 H2 ⟨⟨x, rfl⟩, hd2, hp2, k2⟩
        refine ⟨fun σ H3 => σ = [some (.ref d), some (.int n), none, some (.int c), some (.int x), none] ∧ H3 = H2, ?_, ?_⟩
        · refine ⟨_, rfl, _, rfl, d, .ref p, rfl, gpen_a un3 hd2, p, _, rfl, .inl (SqL.of hp2), _, _, rfl, rfl, _, rfl, ite2 (fun _ => ?_) (fun _ => ⟨rfl, rfl⟩)⟩
          refine ⟨_, rfl, _, _, rfl, rfl, ⟨by decide, by decide, by decide⟩, _, _, rfl, rfl, _, rfl, ite2 (fun _ => ?_) (fun _ => ⟨rfl, rfl⟩)⟩
          refine ⟨_, rfl, _, _, rfl, rfl, ⟨by decide, by decide, by decide⟩, _, _, rfl, rfl, _, rfl, _, _, rfl, rfl, ⟨h0, nB⟩, _, rfl, d, _, rfl, ppen_c un3 hd2, ?_⟩
          refine ⟨_, rfl, _, _, rfl, rfl, ⟨by decide, by decide, by decide⟩, _, _, rfl, rfl, .inl ⟨_, rfl, _, rfl, _, _, rfl, rfl, h0, ?_⟩⟩
          exact q _ _ (Int.emod_nonneg _ n0) (Int.emod_lt_of_pos _ h0) (k2.trans (KeepG.put hd2)) (pn (by rw [upd_ne npd]; exact hp2) upd_same (by omega) (by omega))
        · rintro σ3 H3 ⟨rfl, rfl⟩
          have hc64 : -(2 ^ 64) < c ∧ c < 2 ^ 64 := ⟨by omega, by omega⟩
          have sm : ∀ {y : Int}, 0 ≤ y → y < 2147483648 → -(2 ^ 64) < y ∧ y < 2 ^ 64 := fun a b => ⟨by omega, by omega⟩
          refine ⟨_, rfl, .inl ⟨x, rfl, _, _, rfl, rfl, (show (0 : Int) < 2147482361 by decide), _, _, rfl, rfl, .inr ⟨by decide, by decide⟩, ?_⟩⟩
          refine ⟨_, rfl, _, c, rfl, rfl, .inl ⟨by decide, by decide⟩, _, rfl, _, c, rfl, rfl, .inr hc64, _, _, rfl, rfl, ?_⟩
          refine ⟨_, rfl, _, rfl, _, c, rfl, rfl, .inl ⟨by decide, by decide⟩, _, _, rfl, rfl, _, _, rfl, rfl, .inl ⟨_, rfl, _, _, rfl, rfl, (show (0 : Int) < 2147482409 by decide), ?_⟩⟩
          dsimp only
          generalize x % 2147482361 * 45533 + 33521 * c * c = y1
          have a1 := Int.emod_lt_of_pos (y1 + 131 * c + 37) (show (0 : Int) < 2147482409 by decide)
          have a2 := Int.emod_nonneg (y1 + 131 * c + 37) (show (2147482409 : Int) ≠ 0 by decide)
          generalize (y1 + 131 * c + 37) % 2147482409 = y2 at a1 a2
          refine ⟨_, rfl, _, rfl, y2, _, rfl, rfl, y2, _, rfl, rfl, .inl (sm a2 (by omega)), _, rfl, _, c, rfl, rfl, .inl ⟨by decide, by decide⟩, _, _, rfl, rfl, .inl ⟨_, rfl, _, _, rfl, rfl, (show (0 : Int) < 2147482501 by decide), ?_⟩⟩
          dsimp only
          have c1 := Int.emod_lt_of_pos (y2 * (y2 + 70429) + 5 * c) (show (0 : Int) < 2147482501 by decide)
          have c2 := Int.emod_nonneg (y2 * (y2 + 70429) + 5 * c) (show (2147482501 : Int) ≠ 0 by decide)
          generalize (y2 * (y2 + 70429) + 5 * c) % 2147482501 = y4 at c1 c2
          refine ⟨_, rfl, _, rfl, y4, y4, rfl, rfl, .inl (sm c2 (by omega)), _, rfl, _, y4, rfl, rfl, .inl ⟨by decide, by decide⟩, _, _, rfl, rfl, .inl ⟨_, rfl, _, _, rfl, rfl, (show (0 : Int) < 2147482573 by decide), _, _, rfl, rfl, ⟨(show (0 : Int) < 32 by decide), (show (32 : Int) < 1073741824 by decide)⟩, .inl ⟨_, rfl, _, rfl, _, n, rfl, rfl, h0, ?_⟩⟩⟩
          exact q _ _ (Int.emod_nonneg _ n0) (Int.emod_lt_of_pos _ h0) k2 (pn hp2 hd2 (by omega) (by omega))
def spBegin (K : PySem.W.Frag) : Sp := fun vs H Q _ => ∃ (a : Addr) (ns : List Int), vs = [.ref a] ∧ SqL K H a (ns.map V.int) ∧ ns.length ≤ 63 ∧ ∀ (d : Addr) (H' : Hp), H d = none → Same H H' → Pen H' d 0 → Q (.ref d) H'
theorem ok_begin (A : At K mg "_law_pen" sBegin ["_law_script"]) (T : Blt mg) : DefOk P w K mg base CX0 "_law_pen" 1 ["_law_script"] (spBegin K) := by
  refine A.ok fun f fd F => F.ok scBegin (fun vs H Q E h => ?_) (fun cdv A outer s H vs Q E hr h => ?_)
  · obtain ⟨a, ns, rfl, _⟩ := h
    rfl
  · obtain ⟨a, ns, rfl, hS, hl, q⟩ := h
    refine ⟨_, pss_one (ps_ret (pe_disp (pps_cons pe_str (pe_callTy call_list_of (by rfl) T.list (by decide +kernel) (pa_cons (pe_slice sl_list (pv 0) po_none (po_some pe_int)) pa_nil)) (pps_cons pe_str pe_int (pps_cons pe_str pe_int pps_nil))) (by rfl) (by rfl) (fun z => by cases z) (by decide))), ?_⟩
    intro d hd
    have s0 : Same H (upd H d (.dK [])) := same_new hd
    refine ⟨_, rfl, 63, rfl, a, _, rfl, s0.seq hS, fun c hc => ?_⟩
    rw [cut63 _ (by rw [List.length_map]; exact hl)]
    have s1 : Same H (upd (upd H d (.dK [])) c (.lst (ns.map V.int))) := s0.trans (same_new hc)
    refine ⟨c, _, rfl, .inl (SqL.of upd_same), fun p hp => ?_⟩
    have s2 : Same (upd (upd H d (.dK [])) c (.lst (ns.map V.int))) (upd (upd (upd H d (.dK [])) c (.lst (ns.map V.int))) p (.lst (ns.map V.int))) := same_new hp
    have hdd : upd (upd (upd H d (.dK [])) c (.lst (ns.map V.int))) p (.lst (ns.map V.int)) d = some (.dK []) := s2 _ _ (same_new hc _ _ upd_same)
    have npd : p ≠ d := fun z => by
      rw [z] at hp
      have := same_new (o := .lst (ns.map V.int)) hc _ _ (upd_same (H := H) (a := d) (o := .dK []))
      rw [hp] at this
      cases this
    refine ⟨hdd, [(Sum.inr "cells", .ref p), (Sum.inr "at", .int 0), (Sum.inr "left", .int 0)], rfl, by show 3 ≤ 15; decide, ?_⟩
    rw [merge_pen un3]
    refine q d _ hd (fun b o e => ?_) ⟨p, ns, 0, 0, upd_same, ?_, hl, by omega, by omega⟩
    · rw [upd_ne (ne_of_none e hd)]
      exact s2 _ _ (s1 _ _ e)
    · rw [upd_ne npd]
      exact upd_same
theorem scPick : FnScope ["_law_pen_here", "_law_menu"] ["_law_pen_here", "_law_menu"] (defScope sPick) := ⟨rfl, rfl, rfl, by decide +kernel, rfl, by decide +kernel, by decide +kernel⟩
def spPick : Sp := fun vs H Q _ => ∃ (d a : Addr) (xs : List V) (B : Int), vs = [.ref d, .ref a] ∧ H a = some (.lst xs) ∧ xs ≠ [] ∧ xs.length ≤ 1000 ∧ Pen H d B ∧ B ≤ 1000000000 ∧ ∀ (x : V) (H' : Hp), x ∈ xs → KeepP d H H' → Pen H' d (B + 1) → Q x H'
theorem ok_pick (A : At K mg "_law_pick" sPick ["_law_pen_here", "_law_menu"]) (T : Blt mg) (D : DefOk P w K mg base CX0 "_law_draw" 1 ["_law_pen_here", "_law_span"] spDraw) : DefOk P w K mg base CX0 "_law_pick" 2 ["_law_pen_here", "_law_menu"] spPick := by
  refine A.ok fun f fd F => F.ok scPick (fun vs H Q E h => ?_) (fun cdv A outer s H vs Q E hr h => ?_)
  · obtain ⟨d, a, xs, B, rfl, _⟩ := h
    rfl
  · obtain ⟨d, a, xs, B, rfl, ha, hne, hl, hp, hB, q⟩ := h
    refine ⟨_, pss_one (ps_ret (pe_ix ix_list (pv 1) (pe_def D hr (by decide) (by rfl) pass0 (pa_cons (pv 0) (pa_cons (pe_callB call_len_seq (by rfl) T.len PySem.boot_len (pa_cons (pv 1) pa_nil)) pa_nil))) (fun _ _ => rfl))), ?_⟩
    have h0 : 0 < xs.length := List.length_pos_iff.mpr hne
    refine ⟨_, rfl, _, rfl, _, rfl, a, xs, rfl, .inl (SqL.of ha), d, (xs.length : Int), B, rfl, hp, hB, by omega, by omega, fun v H' h1 h2 kp hp' => ?_⟩
    have nad : a ≠ d := by
      obtain ⟨p, ns, c, l, e, _⟩ := hp.ex
      exact ne_of ha e (by intro z; cases z)
    obtain ⟨j, rfl⟩ : ∃ j : Nat, v = (j : Int) := ⟨v.toNat, (Int.toNat_of_nonneg h1).symm⟩
    have hj : j < xs.length := by omega
    exact ⟨a, xs, _, xs[j], rfl, rfl, SqL.of (kp _ _ nad ha), atI_nat (List.getElem?_eq_getElem hj), q _ _ (List.getElem_mem hj) kp hp'⟩
theorem scGreat : FnScope ["_law_pen_here", "_law_figures", "_law_found", "_law_go"] ["_law_pen_here", "_law_figures"] (defScope sGreat) := ⟨rfl, rfl, rfl, by decide +kernel, rfl, by decide +kernel, by decide +kernel⟩
def spGreat : Sp := fun vs H Q _ => ∃ (d : Addr) (M : Nat) (B : Int), vs = [.ref d, .int M] ∧ 7 ≤ M ∧ M ≤ 100 ∧ Pen H d B ∧ B ≤ 900000000 ∧ ∀ (v : Int) (H' : Hp), 0 ≤ v → v < (10 : Int) ^ M → KeepP d H H' → Pen H' d (B + 200) → Q (.int v) H'
theorem ok_great (A : At K mg "_law_great" sGreat ["_law_pen_here", "_law_figures"]) (T : Blt mg) (D : DefOk P w K mg base CX0 "_law_draw" 1 ["_law_pen_here", "_law_span"] spDraw) : DefOk P w K mg base CX0 "_law_great" 2 ["_law_pen_here", "_law_figures"] spGreat := by
  refine A.ok fun f fd F => F.ok scGreat (fun vs H Q E h => ?_) (fun cdv A outer s H vs Q E hr h => ?_)
  · obtain ⟨d, M, B, rfl, _⟩ := h
    rfl
  · obtain ⟨d, M, B, rfl, hM0, hM, hp, hB, q⟩ := h
    have nd := scGreat.nd
    refine ⟨_, pss_cons (ps_set (i := 2) nd rfl (.inl rfl) pe_int)
      (pss_cons (ps_for PassesOwn.never rfl (pi_range1 (by rfl) T.range (pa_cons (pe_op op_add pe_int (pe_def D hr (by decide) (by rfl) pass0 (pa_cons (pv 0) (pa_cons (pe_op op_fdiv (pv 1) pe_int) pa_nil)))) pa_nil)) (pg_name (i := 3) nd rfl (.inl rfl)) (pss_one (ps_set (i := 2) nd rfl (.inl rfl) (pe_op op_add (pe_op op_mul (pv 2) (pe_op op_pow pe_int pe_int)) (pe_def D hr (by decide) (by rfl) pass0 (pa_cons (pv 0) (pa_cons (pe_op op_pow pe_int pe_int) pa_nil)))))))
      (pss_one (ps_ret (pv 2)))), ?_⟩
    have hq : 1 ≤ (M : Int) / 7 ∧ 7 * ((M : Int) / 7) ≤ M := by omega
    refine ⟨_, rfl, _, rfl, _, _, rfl, rfl, ⟨by decide, by decide⟩, d, (M : Int) / 7, B, rfl, hp, by omega, by omega, by omega, fun m H1 m0 m1 k1 p1 => ⟨_, _, rfl, rfl, ?_⟩⟩
    refine ⟨1 + m, rfl, by omega, by omega, for_range (lo := 0) (n := (1 + m).toNat) (fun i σ H' => (∃ (v : Int) (y : Option V), σ = [some (.ref d), some (.int M), some (.int v), y] ∧ 0 ≤ v ∧ v < (10 : Int) ^ (7 * i)) ∧ KeepP d H H' ∧ Pen H' d (B + 1 + i)) ⟨⟨0, none, rfl, by omega, by decide⟩, k1, p1.mono (by omega)⟩ ?_ ?_⟩
    · rintro i σ H' hi ⟨⟨v, y, rfl, v0, v1⟩, kk, pp⟩
      dsimp only [gName, List.set]
      refine ⟨_, rfl, _, _, rfl, rfl, ⟨by decide, by decide, by decide⟩, _, _, rfl, rfl, .inr ⟨by decide, by decide⟩, _, rfl, _, _, rfl, rfl, ⟨by decide, by decide, by decide⟩, d, 10 ^ 7, _, rfl, pp, by omega, by decide, by decide, fun x H2 x0 x1 k2 p2 => ⟨_, _, rfl, rfl, ?_⟩⟩
      have e : (10 : Int) ^ 7 = 10000000 := by decide
      have e' : (10 : Int) ^ (Int.toNat 7) = 10000000 := by decide
      rw [e] at x1
      rw [e']
      refine ⟨⟨_, _, rfl, by omega, ?_⟩, kk.trans k2, p2.mono (by omega)⟩
      rw [show 7 * (i + 1) = 7 * i + 7 by omega, Int.pow_add, e]
      generalize (10 : Int) ^ (7 * i) = T at v1 ⊢
      omega
    · rintro σ H' ⟨⟨v, y, rfl, v0, v1⟩, kk, pp⟩
      exact ⟨_, rfl, q v H' v0 (Int.lt_of_lt_of_le v1 (ten_mono (by omega))) kk (pp.mono (by omega))⟩
end
end K50

/-! k50: the program's checks, powers of ten. -/
namespace K50
open PySem PySem.Spec PyProof.Rows L2 LamX NdefX Own
abbrev pInt : Stmt := topS 8
abbrev pWhole : Stmt := topS 9
abbrev pNInt : Stmt := topS 10
abbrev pNWhole : Stmt := topS 11
abbrev pTenTo : Stmt := topS 12
section
variable {P : Program} {w : World} {K : PySem.W.Frag} {mg : Str → Option Value} {base : Heap} {C aT : Addr}
theorem scpInt : FnScope ["value"] ["value"] (defScope pInt) := ⟨rfl, rfl, rfl, by decide +kernel, rfl, by decide +kernel, by decide +kernel⟩
def spIsInt : Sp := fun vs H Q _ => ∃ x : V, vs = [x] ∧ Thing H x ∧ Q (.bl (Own.isInt x)) H
theorem ok_isInt (A : At K mg "is_an_integer" pInt ["value"]) (T : Blt mg) : DefOk P w K mg base CX0 "is_an_integer" 1 ["value"] spIsInt := by
  refine A.ok fun f fd F => F.ok scpInt (fun vs H Q E h => ?_) (fun cdv A outer s H vs Q E hr h => ?_)
  · obtain ⟨x, rfl, _⟩ := h
    rfl
  · obtain ⟨x, rfl, th, q⟩ := h
    refine ⟨_, pss_one (ps_ret (pe_and (pe_callB call_isi (by rfl) T.isi (by decide +kernel) (pa_cons (pv 0) (pa_cons (pe_bltn (v := .ty "int") (by rfl) T.int (by decide +kernel) rfl) pa_nil)))
      (pe_one (pe_not (pe_callB call_isi (by rfl) T.isi (by decide +kernel) (pa_cons (pv 0) (pa_cons (pe_bltn (v := .ty "bool") (by rfl) T.bool (by decide +kernel) rfl) pa_nil))))))), ?_⟩
    obtain ⟨t, ht, h1, h2⟩ := th.isi (K := K)
    have hb : isBl x = true → Own.isInt x = false := by cases x <;> simp [Own.isInt, isBl]
    refine ⟨_, rfl, x, .ty "int", t, _, _, rfl, .ty _, ht, h1, _, rfl, ite2 (fun e => ?_) (fun e => ?_)⟩
    · refine ⟨_, rfl, x, .ty "bool", t, _, _, rfl, .ty _, ht, h2, _, rfl, ?_⟩
      have z : (!isBl x) = Own.isInt x := by cases e1 : Own.isInt x <;> cases e2 : isBl x <;> simp_all
      rw [z]
      exact q
    · have z : false = Own.isInt x := by cases e1 : Own.isInt x <;> cases e2 : isBl x <;> simp_all
      rw [z]
      exact q
/-- an integer from 0 on -/
def isWh : V → Bool
  | .int i => decide (0 ≤ i)
  | _ => false
theorem scpWhole : FnScope ["value"] ["value"] (defScope pWhole) := ⟨rfl, rfl, rfl, by decide +kernel, rfl, by decide +kernel, by decide +kernel⟩
def spIsWh : Sp := fun vs H Q _ => ∃ x : V, vs = [x] ∧ Thing H x ∧ Q (.bl (isWh x)) H
theorem ok_isWh (A : At K mg "is_whole_number" pWhole ["value"]) (D : DefOk P w K mg base CX0 "is_an_integer" 1 ["value"] spIsInt) : DefOk P w K mg base CX0 "is_whole_number" 2 ["value"] spIsWh := by
  refine A.ok fun f fd F => F.ok scpWhole (fun vs H Q E h => ?_) (fun cdv A outer s H vs Q E hr h => ?_)
  · obtain ⟨x, rfl, _⟩ := h
    rfl
  · obtain ⟨x, rfl, th, q⟩ := h
    refine ⟨_, pss_one (ps_ret (pe_and (pe_def D hr (by decide) (by rfl) pass0 (pa_cons (pv 0) pa_nil)) (pe_one (pe_cmpR op_ge (pv 0) pe_int (nomark _))))), ?_⟩
    refine ⟨_, rfl, x, rfl, th, _, rfl, ite2 (fun e => ?_) (fun e => ?_)⟩
    · cases x <;> first | (exact ⟨_, rfl, _, _, rfl, rfl, q⟩) | (simp [Own.isInt] at e)
    · have z : isWh x = false := by cases x <;> first | rfl | (simp [Own.isInt] at e)
      rw [z] at q
      exact q
theorem scpNInt : FnScope ["value"] ["value"] (defScope pNInt) := ⟨rfl, rfl, rfl, by decide +kernel, rfl, by decide +kernel, by decide +kernel⟩
def spNInt (C : Addr) : Sp := fun vs H Q E => ∃ x : V, vs = [x] ∧ Thing H x ∧ (Own.isInt x = true → Q .non H) ∧ (Own.isInt x = false → Bad C "value" x H E)
theorem ok_nInt (A : At K mg "need_integer" pNInt ["value"]) (T : ErrC P w K mg base "BadValue" "value" 1 C (spErr C "value")) (D : DefOk P w K mg base CX0 "is_an_integer" 1 ["value"] spIsInt) : DefOk P w K mg base (L2.CX P w) "need_integer" 3 ["value"] (spNInt C) := by
  refine A.ok fun f fd F => F.okX scpNInt (fun vs H Q E h => ?_) (fun cdv A outer s H vs Q E hr h => ?_)
  · obtain ⟨x, rfl, _⟩ := h
    rfl
  · obtain ⟨x, rfl, th, q1, q2⟩ := h
    refine ⟨_, pss_one (ps_if (pt_not (pt_val (pe_def D hr (by decide) (by rfl) pass0 (pa_cons (pv 0) pa_nil)))) (pss_one (ps_raise rfl (takes_of rfl rfl rfl rfl) (pmk_err T hr (by decide) (by rfl) (pv 0)))) pss_nil), ?_⟩
    refine ⟨_, rfl, x, rfl, th, _, rfl, ite2 (fun e => ?_) (fun e => ?_)⟩
    · exact ⟨_, rfl, bad_mk (q2 (by simpa using e))⟩
    · exact q1 (by simpa using e)
theorem scpNWh : FnScope ["value"] ["value"] (defScope pNWhole) := ⟨rfl, rfl, rfl, by decide +kernel, rfl, by decide +kernel, by decide +kernel⟩
def spNWh (C : Addr) : Sp := fun vs H Q E => ∃ x : V, vs = [x] ∧ Thing H x ∧ (isWh x = true → Q .non H) ∧ (isWh x = false → Bad C "value" x H E)
theorem ok_nWh (A : At K mg "need_whole_number" pNWhole ["value"]) (T : ErrC P w K mg base "BadValue" "value" 1 C (spErr C "value")) (D : DefOk P w K mg base CX0 "is_whole_number" 2 ["value"] spIsWh) : DefOk P w K mg base (L2.CX P w) "need_whole_number" 3 ["value"] (spNWh C) := by
  refine A.ok fun f fd F => F.okX scpNWh (fun vs H Q E h => ?_) (fun cdv A outer s H vs Q E hr h => ?_)
  · obtain ⟨x, rfl, _⟩ := h
    rfl
  · obtain ⟨x, rfl, th, q1, q2⟩ := h
    refine ⟨_, pss_one (ps_if (pt_not (pt_val (pe_def D hr (by decide) (by rfl) pass0 (pa_cons (pv 0) pa_nil)))) (pss_one (ps_raise rfl (takes_of rfl rfl rfl rfl) (pmk_err T hr (by decide) (by rfl) (pv 0)))) pss_nil), ?_⟩
    refine ⟨_, rfl, x, rfl, th, _, rfl, ite2 (fun e => ?_) (fun e => ?_)⟩
    · exact ⟨_, rfl, bad_mk (q2 (by simpa using e))⟩
    · exact q1 (by simpa using e)
/-! ### ten_to: a table below sixteen, then halves -/
def tensL : List Int := (List.range 16).map fun i => (10 : Int) ^ i
theorem scTenTo : FnScope ["places", "half"] ["places"] (defScope pTenTo) := ⟨rfl, rfl, rfl, by decide +kernel, rfl, by decide +kernel, by decide +kernel⟩
def spTenTo (k : Nat) : Sp := fun vs H Q _ => ∃ n : Nat, vs = [.int n] ∧ n < 16 * 2 ^ k ∧ Q (.int ((10 : Int) ^ n)) H
theorem bot_of {x : Str} {st : Stmt} {ps : List Str} (A : At K mg x st ps) : DefOk P w K mg base CX0 x 0 ps (fun _ _ _ _ => False) :=
  A.ok fun f fd F => ⟨fun _ _ _ _ h => h.elim, fun _ _ _ _ _ _ _ _ _ _ _ _ _ h => h.elim⟩
theorem tens_at {n : Nat} (h : n < 16) : atI (tensL.map V.int) (n : Int) = some (.int ((10 : Int) ^ n)) := by
  refine atI_nat ?_
  rw [List.getElem?_map]
  unfold tensL
  rw [List.getElem?_map, List.getElem?_range h]
  rfl
theorem tens_len : ((tensL.map V.int).length : Int) = 16 := by decide +kernel
theorem tenTo_step {k N : Nat} {spD : Sp} (A : At K mg "ten_to" pTenTo ["places"]) (T : Blt mg) (gT : mg "TENS" = some (.ref aT)) (tens : ∀ H : Hp, SqT K H aT (tensL.map V.int)) (hN : N ≤ 4096) (D : DefOk P w K mg base CX0 "ten_to" k ["places"] spD)
    (h : ∀ (n : Nat) (H : Hp) (Q : VK) (E : XK), 16 ≤ n → n < N → Q (.int ((10 : Int) ^ (n / 2))) H → spD [.int ((n / 2 : Nat) : Int)] H Q E) : DefOk P w K mg base CX0 "ten_to" (k + 1) ["places"] (fun vs H Q _ => ∃ n : Nat, vs = [.int n] ∧ n < N ∧ Q (.int ((10 : Int) ^ n)) H) := by
  refine A.ok fun f fd F => F.ok scTenTo (fun vs H Q E h => ?_) (fun cdv A outer s H vs Q E hr hq => ?_)
  · obtain ⟨n, rfl, _⟩ := h
    rfl
  · obtain ⟨n, rfl, hn, q⟩ := hq
    have nd := scTenTo.nd
    refine ⟨_, pss_cons (ps_if (pt_cmpR op_lt (pv 0) (pe_callB call_len_seq (by rfl) T.len PySem.boot_len (pa_cons (pe_glob (v := .ref aT) (by rfl) gT rfl) pa_nil)) (nomark _)) (pss_one (ps_ret (pe_ix ix_tup (pe_glob (v := .ref aT) (by rfl) gT rfl) (pv 0) (fun _ _ => rfl)))) pss_nil)
      (pss_cons (ps_set (i := 1) nd rfl (.inl rfl) (pe_def (E := E0) D hr (Nat.le_refl _) (by rfl) pass0 (pa_cons (pe_op op_fdiv (pv 0) pe_int) pa_nil)))
      (pss_cons (ps_if (pt_cmpR op_eq (pe_op op_mod (pv 0) pe_int) pe_int (nomark _)) (pss_one (ps_ret (pe_op op_mulW (pe_op op_mulW (pv 1) (pv 1)) pe_int))) pss_nil)
      (pss_one (ps_ret (pe_op op_mulW (pv 1) (pv 1)))))), ?_⟩
    refine ⟨_, rfl, aT, _, rfl, .inr (tens H), _, _, rfl, rfl, _, rfl, ite2 (fun e => ?_) (fun e => ?_)⟩
    · have hl : n < 16 := by
        have z := of_decide_eq_true e
        rw [tens_len] at z
        omega
      exact ⟨_, rfl, aT, _, _, _, rfl, rfl, tens H, tens_at hl, q⟩
    · have hg : 16 ≤ n := by
        have z : ¬ ((n : Int) < ((tensL.map V.int).length : Int)) := fun z => e (decide_eq_true z)
        rw [tens_len] at z
        omega
      refine ⟨_, rfl, _, _, rfl, rfl, ⟨by decide, by decide⟩, ?_⟩
      have e2 : (n : Int) / 2 = ((n / 2 : Nat) : Int) := by omega
      dsimp only
      rw [e2]
      refine h n H _ _ hg hn ?_
      have b := ten_lt (n / 2)
      have b2 : ((10 : Int) ^ (n / 2) * (10 : Int) ^ (n / 2)).natAbs < 2 ^ (4 * (n / 2) + 1 + (4 * (n / 2) + 1)) := wide_lt b b
      refine ⟨_, rfl, _, _, rfl, rfl, (show (0 : Int) < 2 by decide), rfl, _, rfl, ite2 (fun e => ?_) (fun e => ?_)⟩
      · have ho : (n : Int) % 2 = 1 := by simpa using e
        refine ⟨_, rfl, _, rfl, _, _, rfl, rfl, wide_mul b b (by omega) (by omega) (by omega), _, _, rfl, rfl, wide_mul b2 (show ((10 : Int)).natAbs < 2 ^ 4 by decide) (by omega) (by decide) (by omega), ?_⟩
        have ex : (10 : Int) ^ (n / 2) * (10 : Int) ^ (n / 2) * 10 = (10 : Int) ^ n := by
          rw [← Int.pow_add, ← Int.pow_succ]
          congr 1
          omega
        show Q (.int ((10 : Int) ^ (n / 2) * (10 : Int) ^ (n / 2) * 10)) H
        rw [ex]
        exact q
      · have ho : (n : Int) % 2 ≠ 1 := by simpa using e
        refine ⟨_, rfl, _, rfl, _, _, rfl, rfl, wide_mul b b (by omega) (by omega) (by omega), ?_⟩
        have ex : (10 : Int) ^ (n / 2) * (10 : Int) ^ (n / 2) = (10 : Int) ^ n := by
          rw [← Int.pow_add]
          congr 1
          omega
        show Q (.int ((10 : Int) ^ (n / 2) * (10 : Int) ^ (n / 2))) H
        rw [ex]
        exact q
theorem ok_tenTo (A : At K mg "ten_to" pTenTo ["places"]) (T : Blt mg) (gT : mg "TENS" = some (.ref aT)) (tens : ∀ H : Hp, SqT K H aT (tensL.map V.int)) : ∀ k : Nat, k ≤ 8 → DefOk P w K mg base CX0 "ten_to" (k + 1) ["places"] (spTenTo k)
  | 0, _ => tenTo_step A T gT tens (by decide) (bot_of A) fun n H Q E h1 h2 _ => absurd h1 (by omega)
  | k + 1, hk => by
    have le : 16 * 2 ^ (k + 1) ≤ 4096 := by
      have := Nat.pow_le_pow_right (show 0 < 2 by decide) hk
      omega
    refine tenTo_step A T gT tens le (ok_tenTo A T gT tens k (by omega)) fun n H Q E h1 h2 q => ⟨n / 2, rfl, ?_, q⟩
    rw [Nat.pow_succ] at h2
    omega
end
end K50

/-! own layer, of no law: OWNW: the nine ways, their mathematics. -/
namespace Own
open PySem PySem.Spec PyProof.Rows L2 LamX NdefX
def waysL : List Str := ["floor", "ceiling", "cut", "away", "halfup", "halfdown", "halfeven", "halfaway", "halfcut"]
def mirrL : List (Str × Str) := [("floor", "ceiling"), ("ceiling", "floor"), ("halfup", "halfdown"), ("halfdown", "halfup")]
def halvL : List (Str × Str) := [("halfup", "ceiling"), ("halfdown", "floor"), ("halfeven", "even"), ("halfaway", "away"), ("halfcut", "cut")]
def baseUp (w : Str) (b : Int) : Bool := if w = "even" then decide (b % 2 = 1) else if w = "cut" then decide (b < 0) else if w = "away" then decide (0 ≤ b) else decide (w = "ceiling")
def goesUp (w : Str) (b p : Int) : Bool := match halvL.lookup w with
  | some h => if p = 0 then baseUp h b else decide (0 < p)
  | none => baseUp w b
def near (n d : Int) (w : Str) : Int := if n % d = 0 then n / d else if goesUp w (n / d) (2 * (n % d) - d) = true then n / d + 1 else n / d
def mirr (w : Str) : Str := (mirrL.lookup w).getD w
theorem dec_int (a b : Int) : decide (V.int a = V.int b) = decide (a = b) := by simp
theorem dec_str (a b : Str) : decide (V.str a = V.str b) = decide (a = b) := by simp
/-- what the walk asks of the top: the names of built-ins are free; the tables -/
structure Txt (P : Program) (w : World) (K : PySem.W.Frag) (mg : Str → Option Value) (base : Heap) (C aW aM aH : Addr) (eM : Array DictEntry) (nM : Nat) (eH : Array DictEntry) (nH : Nat) : Prop where
  isi : mg "isinstance" = none
  int : mg "int" = none
  bool : mg "bool" = none
  len : mg "len" = none
  list : mg "list" = none
  range : mg "range" = none
  tuple : mg "tuple" = none
  all : mg "all" = none
  dm : mg "divmod" = none
  err : ErrC P w K mg base "BadValue" "value" 1 C (spErr C "value")
  gW : mg "WAYS" = some (.ref aW)
  ways : ∀ H : Hp, SqT K H aW (waysL.map V.str)
  gM : mg "MIRRORS" = some (.ref aM)
  dM : KDict K w aM eM nM
  mirr : ∀ z ∈ waysL, KGet K aM z ((mirrL.lookup z).map V.str)
  gH : mg "HALVES" = some (.ref aH)
  dH : KDict K w aH eH nH
  halv : ∀ z ∈ waysL, KGet K aH z ((halvL.lookup z).map V.str)
def isWay : V → Bool
  | .str z => decide (z ∈ waysL)
  | _ => false
theorem isWay_str {x : V} (h : isWay x = true) : ∃ z ∈ waysL, x = .str z := by
  cases x with
  | str z => exact ⟨z, by simpa [isWay] using h, rfl⟩
  | _ => simp [isWay] at h
theorem way_cases {z : Str} (h : z ∈ waysL) : z = "floor" ∨ z = "ceiling" ∨ z = "cut" ∨ z = "away" ∨ z = "halfup" ∨ z = "halfdown" ∨ z = "halfeven" ∨ z = "halfaway" ∨ z = "halfcut" := by
  simpa [waysL] using h
def baseK (z : Str) : Nat := if z = "even" then 0 else if z = "cut" then 1 else if z = "away" then 2 else if z = "ceiling" then 3 else 4
def kUp : Nat → Int → Bool
  | 0, b => decide (b % 2 = 1)
  | 1, b => decide (b < 0)
  | 2, b => decide (0 ≤ b)
  | 3, _ => true
  | _, _ => false
theorem base_k (z : Str) (b : Int) : baseUp z b = kUp (baseK z) b := by
  unfold baseUp baseK
  by_cases h1 : z = "even"
  · rw [if_pos h1, if_pos h1]
    rfl
  rw [if_neg h1, if_neg h1]
  by_cases h2 : z = "cut"
  · rw [if_pos h2, if_pos h2]
    rfl
  rw [if_neg h2, if_neg h2]
  by_cases h3 : z = "away"
  · rw [if_pos h3, if_pos h3]
    rfl
  rw [if_neg h3, if_neg h3]
  by_cases h4 : z = "ceiling"
  · rw [if_pos h4, decide_eq_true h4]
    rfl
  · rw [if_neg h4, decide_eq_false h4]
    rfl
theorem goes_none {z : Str} {k : Nat} (h : halvL.lookup z = none) (hk : baseK z = k) (b p : Int) : goesUp z b p = kUp k b := by
  unfold goesUp
  rw [h, ← hk]
  exact base_k z b
theorem goes_some {z y : Str} {k : Nat} (h : halvL.lookup z = some y) (hk : baseK y = k) (b p : Int) : goesUp z b p = if p = 0 then kUp k b else decide (0 < p) := by
  unfold goesUp
  rw [h, ← hk, ← base_k]
theorem mirr_of {z y : Str} (h : (mirrL.lookup z).getD z = y) : mirr z = y := h
theorem goes_mirr {z : Str} (hz : z ∈ waysL) (b p : Int) : goesUp (mirr z) (-b - 1) (-p) = !goesUp z b p := by
  rcases way_cases hz with rfl | rfl | rfl | rfl | rfl | rfl | rfl | rfl | rfl
  · rw [mirr_of (y := "ceiling") (by decide +kernel), goes_none (k := 3) (by decide +kernel) (by decide +kernel), goes_none (k := 4) (by decide +kernel) (by decide +kernel)]
    rfl
  · rw [mirr_of (y := "floor") (by decide +kernel), goes_none (k := 4) (by decide +kernel) (by decide +kernel), goes_none (k := 3) (by decide +kernel) (by decide +kernel)]
    rfl
  · rw [mirr_of (y := "cut") (by decide +kernel), goes_none (k := 1) (by decide +kernel) (by decide +kernel), goes_none (k := 1) (by decide +kernel) (by decide +kernel)]
    show decide (-b - 1 < 0) = !decide (b < 0)
    by_cases h : b < 0
    · rw [decide_eq_true h, decide_eq_false (by omega)]; rfl
    · rw [decide_eq_false h, decide_eq_true (by omega)]; rfl
  · rw [mirr_of (y := "away") (by decide +kernel), goes_none (k := 2) (by decide +kernel) (by decide +kernel), goes_none (k := 2) (by decide +kernel) (by decide +kernel)]
    show decide (0 ≤ -b - 1) = !decide (0 ≤ b)
    by_cases h : 0 ≤ b
    · rw [decide_eq_true h, decide_eq_false (by omega)]; rfl
    · rw [decide_eq_false h, decide_eq_true (by omega)]; rfl
  · rw [mirr_of (y := "halfdown") (by decide +kernel), goes_some (k := 4) (y := "floor") (by decide +kernel) (by decide +kernel), goes_some (k := 3) (y := "ceiling") (by decide +kernel) (by decide +kernel)]
    by_cases h : p = 0
    · rw [if_pos h, if_pos (by omega)]; rfl
    · rw [if_neg h, if_neg (by omega)]
      by_cases h : 0 < p
      · rw [decide_eq_true h, decide_eq_false (by omega)]; rfl
      · rw [decide_eq_false h, decide_eq_true (by omega)]; rfl
  · rw [mirr_of (y := "halfup") (by decide +kernel), goes_some (k := 3) (y := "ceiling") (by decide +kernel) (by decide +kernel), goes_some (k := 4) (y := "floor") (by decide +kernel) (by decide +kernel)]
    by_cases h : p = 0
    · rw [if_pos h, if_pos (by omega)]; rfl
    · rw [if_neg h, if_neg (by omega)]
      by_cases h : 0 < p
      · rw [decide_eq_true h, decide_eq_false (by omega)]; rfl
      · rw [decide_eq_false h, decide_eq_true (by omega)]; rfl
  · rw [mirr_of (y := "halfeven") (by decide +kernel), goes_some (k := 0) (y := "even") (by decide +kernel) (by decide +kernel), goes_some (k := 0) (y := "even") (by decide +kernel) (by decide +kernel)]
    by_cases h : p = 0
    · rw [if_pos h, if_pos (by omega)]
      show decide ((-b - 1) % 2 = 1) = !decide (b % 2 = 1)
      by_cases h : b % 2 = 1
      · rw [decide_eq_true h, decide_eq_false (by omega)]; rfl
      · rw [decide_eq_false h, decide_eq_true (by omega)]; rfl
    · rw [if_neg h, if_neg (by omega)]
      by_cases h : 0 < p
      · rw [decide_eq_true h, decide_eq_false (by omega)]; rfl
      · rw [decide_eq_false h, decide_eq_true (by omega)]; rfl
  · rw [mirr_of (y := "halfaway") (by decide +kernel), goes_some (k := 2) (y := "away") (by decide +kernel) (by decide +kernel), goes_some (k := 2) (y := "away") (by decide +kernel) (by decide +kernel)]
    by_cases h : p = 0
    · rw [if_pos h, if_pos (by omega)]
      show decide (0 ≤ -b - 1) = !decide (0 ≤ b)
      by_cases h : 0 ≤ b
      · rw [decide_eq_true h, decide_eq_false (by omega)]; rfl
      · rw [decide_eq_false h, decide_eq_true (by omega)]; rfl
    · rw [if_neg h, if_neg (by omega)]
      by_cases h : 0 < p
      · rw [decide_eq_true h, decide_eq_false (by omega)]; rfl
      · rw [decide_eq_false h, decide_eq_true (by omega)]; rfl
  · rw [mirr_of (y := "halfcut") (by decide +kernel), goes_some (k := 1) (y := "cut") (by decide +kernel) (by decide +kernel), goes_some (k := 1) (y := "cut") (by decide +kernel) (by decide +kernel)]
    by_cases h : p = 0
    · rw [if_pos h, if_pos (by omega)]
      show decide (-b - 1 < 0) = !decide (b < 0)
      by_cases h : b < 0
      · rw [decide_eq_true h, decide_eq_false (by omega)]; rfl
      · rw [decide_eq_false h, decide_eq_true (by omega)]; rfl
    · rw [if_neg h, if_neg (by omega)]
      by_cases h : 0 < p
      · rw [decide_eq_true h, decide_eq_false (by omega)]; rfl
      · rw [decide_eq_false h, decide_eq_true (by omega)]; rfl
theorem mirr_mem {z : Str} (hz : z ∈ waysL) : mirr z ∈ waysL := by
  rcases way_cases hz with rfl | rfl | rfl | rfl | rfl | rfl | rfl | rfl | rfl <;> decide +kernel
theorem near_mirr {n d : Int} {z : Str} (h0 : 0 < d) (hz : z ∈ waysL) : near (-n) d (mirr z) = -near n d z := by
  have r0 := Int.emod_nonneg n (show d ≠ 0 by omega)
  have r1 := Int.emod_lt_of_pos n h0
  have em := Int.emod_add_mul_ediv n d
  unfold near
  by_cases h : n % d = 0
  · have e1 : (-n) % d = 0 := Int.emod_eq_zero_of_dvd ((Int.dvd_neg).mpr (Int.dvd_of_emod_eq_zero h))
    rw [if_pos h, if_pos e1, Int.neg_ediv_of_dvd (Int.dvd_of_emod_eq_zero h)]
  · have e3 : -n = (d - n % d) + d * (-(n / d) - 1) := by
      rw [Int.mul_sub, Int.mul_neg]
      omega
    have e1 : (-n) % d = d - n % d := by
      rw [e3, Int.add_mul_emod_self_left, Int.emod_eq_of_lt (by omega) (by omega)]
    have e2 : (-n) / d = -(n / d) - 1 := by
      rw [e3, Int.add_mul_ediv_left _ _ (by omega), Int.ediv_eq_zero_of_lt (by omega) (by omega)]
      omega
    rw [if_neg h, e1, e2, if_neg (by omega)]
    have e4 : 2 * (d - n % d) - d = -(2 * (n % d) - d) := by omega
    rw [e4, goes_mirr hz]
    cases goesUp z (n / d) (2 * (n % d) - d)
    · show (if true = true then -(n / d) - 1 + 1 else _) = -(if false = true then _ else n / d)
      rw [if_pos rfl, if_neg (by decide)]
      omega
    · show (if false = true then _ else -(n / d) - 1) = -(if true = true then n / d + 1 else _)
      rw [if_pos rfl, if_neg (by decide)]
      omega
end Own

/-! own layer, of no law: OWNE: an error class whose __init__ keeps nothing. -/
namespace Own
open PySem PySem.Spec PyProof.Rows L2 LamX NdefX
section
variable {X : Cx}
theorem del_new {H : Hp} {a : Addr} {o : HO} (h : H a = none) : del (upd H a o) a = H := by
  funext b
  by_cases e : b = a
  · rw [e, del_same, h]
  · rw [del_ne e, upd_ne e]
theorem mk_endN {pins : List (Addr × Obj)} {σ : L2.St} {H1 H2 : Hp} {Q : XK} {hp hp2 h2 : Heap} {g1 g2 : Array GenState} {d1 d2 : Drawn} {t1 t2 : Nat} {os1 os2 : OsState} {a C : Addr} (T : Raises X (.ref C)) (I1 : Inv X pins σ H1 ⟨hp, g1, d1, t1, os1⟩)
    (ha : hp.objs.size ≤ a) (k : ∀ b o, hp.get? b = some o → hp2.get? b = some o) (un : Un (frs X.stack) [] (upd H1 a (exo a C none)) H2 hp2 h2) (hok : HOk X.prog X.w H2 h2) (ho : os2 = os1) (hb : AllBare g2)
    (ea : H2 a = some (exo a C none)) (q : Q (.ref C) none (del H2 a)) : MkP X pins σ Q (.ref a) ⟨h2, g2, d2, t2, os2⟩ := by
  obtain ⟨t0, hoe⟩ := exo_at hok ea
  have hn : H1 a = none := I1.hok.fresh ha
  obtain ⟨G, g1', g2'⟩ := restrict h2 fun b => decide (b ≠ a)
  have gk : ∀ b, b ≠ a → G.get? b = h2.get? b := fun b hb => g1' b (decide_eq_true hb)
  have ge : G.get? a = none := g2' a (by simp)
  have nha : ∀ {b : Addr} {o : Obj}, hp.get? b = some o → b ≠ a := fun {b o} z => Nat.ne_of_lt (Nat.lt_of_lt_of_le (Heap.lt_size z) ha)
  have up : ∀ {b : Addr}, b ≠ a → H1 b = none → upd H1 a (exo a C none) b = none := fun {b} hb n => by rw [upd_ne hb]; exact n
  have U : Un (frs X.stack) [] H1 (del H2 a) hp G := {
    keep := fun b o z n hf hx => by
      rw [gk b (nha z)]
      exact un.keep b o (k b o z) (up (nha z) n) hf hx
    slot := fun b o z n hf hx => by
      rw [gk b (nha z)]
      exact un.slot b o (k b o z) (up (nha z) n) hf hx
    free := fun b o z n hx => by
      rw [del_ne (nha z)]
      exact un.free b o (k b o z) (up (nha z) n) hx
    there := fun b o z hx => by
      rw [gk b (nha z)]
      exact un.there b o (k b o z) hx
    tups := fun b xs z => by
      rw [del_ne (ne_of_none z hn)]
      exact un.tups b xs (by rw [upd_ne (ne_of_none z hn)]; exact z)
    frzs := fun b o v z => by
      rw [del_ne (ne_of_none z hn)]
      exact un.frzs b o v (by rw [upd_ne (ne_of_none z hn)]; exact z)
    tbls := fun b ps z => by
      rw [del_ne (ne_of_none z hn)]
      exact un.tbls b ps (by rw [upd_ne (ne_of_none z hn)]; exact z) }
  have hok3 : HOk X.prog X.w (del H2 a) G := fun b o z => by
    have hba : b ≠ a := fun e => by
      rw [e, del_same] at z
      cases z
    rw [del_ne hba] at z
    have noa : ∀ {c : Addr}, H2 c = some (.own b) → c ≠ a := fun {c} hc => at_ne ea hc exo_own
    exact (hok b o z).stay (fun c v hc y => by
        have hca : c ≠ a := by
          rcases hc with hc | hc
          · rw [hc]
            exact hba
          · exact noa hc
        rw [gk c hca]
        exact y)
      (fun c hc => by rw [del_ne (noa hc)]; exact hc) (fun c xs hc => by rw [del_ne (at_ne ea hc exo_tup)]; exact hc)
  have J : Inv X pins σ (del H2 a) ⟨G, g2, d2, t2, os2⟩ := I1.call' (ch := []) ho U hok3 hb (fun b z => absurd z (by simp))
  refine ⟨a, _, _, ⟨G, g2, d2, t2, os2⟩, _, .ref C, none, rfl, J, fun b o z => ?_, ge, hoe, ⟨rfl, rfl⟩, rfl, rfl, del_same, rfl, hb, T, q⟩
  by_cases hba : b = a
  · rw [hba, ge] at z
    cases z
  · exact (gk b hba).symm.trans z
/-- C(), an own error class whose __init__ takes self alone and does nothing -/
theorem pmk_oex0 {x : Str} {C fI : Addr} {k : Nat} {fd : FuncData} {sp : Sp} {p pos : Pos} (T : OexC X.K C) (iC : PySem.W.findIn X.K (.ref C) "__init__" = some (some (.ref fI))) (tI : PySem.W.typeIn X.K (.ref fI) = some (.type "function"))
    (F1 : FnOk X.prog X.w X.K X.mg X.base CX0 k fI fd ["self"] sp) (hr : Room (k + 1) X.A) (hb : Binds X.K fd ["self"] []) (hg : Gl X x) (hm : X.mg x = some (.ref C)) (hdb : (x == ("__debug__" : Str)) = false := by decide) :
    PMk X (.Call (.Name x p) [] [] pos) (fun _ H Q => ∀ a, H a = none → sp [.ref a] (upd H a (exo a C none)) (fun v H2 => v = .non ∧ H2 a = some (exo a C none) ∧ Q (.ref C) none (del H2 a)) (fun _ _ _ => False)) := by
  intro pins s σ H Q I h
  obtain ⟨nm, q, N, bs, bm, sn, sub, ab, col, dd, k0, k1, k2, k3, k5, hC, hbm⟩ := T.cls
  refine wpAny_Call_Name_kw (ld_glob I hg hm ?_ hdb)
  refine PySem.W.callWith_K0 I.kIn T.kC ?_
  show wpAny _ _ (call (.ref C) []) _ _ _
  obtain ⟨hp, g, dr, tk, os⟩ := s
  have hsz : hp.objs.size ≤ hp.objs.size + 1 := Nat.le_succ _
  have hq := h (hp.objs.size + 1) (I.hok.fresh hsz)
  have kk : ∀ b o, hp.get? b = some o → ((hp.push (PySem.W.kdv_tup [])).push (PySem.HandSPX.excO C hp.objs.size)).get? b = some o := fun b o e => Heap.get?_push_of_some _ (Heap.get?_push_of_some _ e)
  have hget : ((hp.push (PySem.W.kdv_tup [])).push (PySem.HandSPX.excO C hp.objs.size)).get? (hp.objs.size + 1) = some (PySem.HandSPX.excO C hp.objs.size) := by heap_get
  have I2 : Inv X pins σ (upd H (hp.objs.size + 1) (exo (hp.objs.size + 1) C none)) ⟨(hp.push (PySem.W.kdv_tup [])).push (PySem.HandSPX.excO C hp.objs.size), g, dr, tk, os⟩ :=
    I.laid (t' := tk) (a := hp.objs.size + 1) (o := exo (hp.objs.size + 1) C none) (h' := (hp.push (PySem.W.kdv_tup [])).push (PySem.HandSPX.excO C hp.objs.size)) kk hsz (exo_ok hget)
  have r2 : Vals [V.ref (hp.objs.size + 1)] [Value.ref (hp.objs.size + 1)] := .cons rfl .nil
  refine wpAny_call (PySem.HandSPX.call_own F.excBase_ValueError (fun Y => PySem.HandSPX.refsVE_contains Y bm hbm) (I.kIn _ _ hC) (PySem.W.looks_findIn I.kIn iC) (fun self => PySem.W.bind_fn I.kIn self tI) (by show 0 ≤ sizeLine; exact Nat.zero_le _)
    (codeAny_mono (F1.run _ X.stack _ _ ⟨[Value.ref (hp.objs.size + 1)], []⟩ [Value.ref (hp.objs.size + 1)] _ _ (fun _ _ _ => False) (hr.make C [] []) (I2.env0.make C [] []) (hb _ [Value.ref (hp.objs.size + 1)] I2.kIn rfl) r2 hq) fun r s' hq' => ?_))
  cases r with
  | error er => exact False.elim hq'
  | ok fl =>
    cases fl with
    | ret u =>
      obtain ⟨v, H2, os2, bare2, un2, hok2, rv, ev, ea, q2⟩ := hq'
      subst ev
      obtain ⟨h2, g2, d2, t2, os'⟩ := s'
      exact ⟨rv, mk_endN (raises_own T.exC T.tyC) I hsz kk un2 hok2 os2 bare2 ea q2⟩
    | next => exact False.elim hq'
    | brk => exact False.elim hq'
    | cont => exact False.elim hq'
end
/-- an error class without fields -/
structure ErrN (P : Program) (w : World) (K : PySem.W.Frag) (mg : Str → Option Value) (base : Heap) (x : Str) (C : Addr) : Prop where
  g : mg x = some (.ref C)
  oex : OexC K C
  ini : ∃ (fI : Addr) (fd : FuncData), PySem.W.findIn K (.ref C) "__init__" = some (some (.ref fI)) ∧ PySem.W.typeIn K (.ref fI) = some (.type "function") ∧ FnOk P w K mg base CX0 1 fI fd ["self"] (fun vs H Q _ => ∃ a : Addr, vs = [.ref a] ∧ Q .non H) ∧ Binds K fd ["self"] []
section
variable {X : Cx} {x : Str} {j : Nat} {C : Addr} {p pos : Pos}
theorem pmk_errN (D : ErrN X.prog X.w X.K X.mg X.base x C) (hr : Room j X.A) (hj : 2 ≤ j) (hg : Gl X x) (hdb : (x == ("__debug__" : Str)) = false := by decide) : PMk X (.Call (.Name x p) [] [] pos) (fun _ H Q => Q (.ref C) none H) := by
  obtain ⟨fI, fd, iC, tI, F1, b⟩ := D.ini
  intro pins s σ H Q I h
  exact pmk_oex0 D.oex iC tI F1 (hr.mono hj) b hg D.g hdb pins s σ H Q I fun a na => ⟨a, rfl, rfl, upd_same, by rw [del_new na]; exact h⟩
end
end Own

/-! own layer, of no law: OWNN: rounding as a fraction's. -/
namespace Own
open PySem PySem.Spec PyProof.Rows L2 LamX NdefX
theorem near_lo {n d : Int} (t : Str) : n / d ≤ near n d t := by
  unfold near
  split
  · exact Int.le_refl _
  · split <;> omega
theorem near_hi {n d : Int} (t : Str) : near n d t ≤ n / d + 1 := by
  unfold near
  split
  · omega
  · split <;> omega
theorem near_mul {k d : Int} (h : 0 < d) (t : Str) : near (k * d) d t = k := by
  unfold near
  rw [if_pos (Int.mul_emod_left k d), Int.mul_ediv_cancel _ (by omega)]
theorem goes_up_mono {z : Str} {b p p' : Int} (h : p ≤ p') (g : goesUp z b p = true) : goesUp z b p' = true := by
  unfold goesUp at g ⊢
  cases e : halvL.lookup z with
  | none =>
    rw [e] at g
    exact g
  | some y =>
    rw [e] at g
    dsimp only at g ⊢
    by_cases h1 : p = 0
    · rw [if_pos h1] at g
      by_cases h2 : p' = 0
      · rw [if_pos h2]
        exact g
      · rw [if_neg h2]
        exact decide_eq_true (by omega)
    · rw [if_neg h1] at g
      have h3 : 0 < p := of_decide_eq_true g
      rw [if_neg (by omega)]
      exact decide_eq_true (by omega)
/-- what goesUp asks of p is its sign alone -/
theorem goes_scale {z : Str} {b p c : Int} (hc : 0 < c) : goesUp z b (p * c) = goesUp z b p := by
  unfold goesUp
  cases e : halvL.lookup z with
  | none => rfl
  | some y =>
    dsimp only
    by_cases h : p = 0
    · subst h
      simp
    · have h1 : p * c ≠ 0 := Int.mul_ne_zero h (by omega)
      rw [if_neg h, if_neg h1]
      by_cases h2 : 0 < p
      · rw [decide_eq_true h2, decide_eq_true (Int.mul_pos h2 hc)]
      · have h3 : p * c < 0 := Int.mul_neg_of_neg_of_pos (by omega) hc
        rw [decide_eq_false h2, decide_eq_false (by omega)]
theorem near_scale {n d c : Int} (hd : 0 < d) (hc : 0 < c) (t : Str) : near (n * c) (d * c) t = near n d t := by
  have e1 : n * c / (d * c) = n / d := Int.mul_ediv_mul_of_pos_left n d hc
  have e2 : n * c % (d * c) = n % d * c := by
    rw [Int.emod_def, e1, Int.emod_def, Int.sub_mul]
    congr 1
    simp only [Int.mul_assoc, Int.mul_comm, Int.mul_left_comm]
  unfold near
  rw [e1, e2]
  by_cases h : n % d = 0
  · rw [if_pos h, if_pos (by rw [h, Int.zero_mul])]
  · rw [if_neg h, if_neg (Int.mul_ne_zero h (by omega))]
    have e3 : 2 * (n % d * c) - d * c = (2 * (n % d) - d) * c := by rw [Int.sub_mul, Int.mul_assoc]
    rw [e3, goes_scale hc]
/-- it hangs on the fraction alone -/
theorem near_ratio {n d n' d' : Int} (hd : 0 < d) (hd' : 0 < d') (h : n * d' = n' * d) (t : Str) : near n d t = near n' d' t := by
  rw [← near_scale (n := n) (d := d) hd hd' t, h, Int.mul_comm d d', near_scale hd' hd t]
theorem near_mono0 {n n' d : Int} (hd : 0 < d) (h : n ≤ n') (t : Str) : near n d t ≤ near n' d t := by
  have a : n / d ≤ n' / d := Int.ediv_le_ediv hd h
  by_cases e : n / d = n' / d
  · have r0 := Int.emod_nonneg n (show d ≠ 0 by omega)
    have r1 := Int.emod_lt_of_pos n hd
    have m := Int.emod_add_mul_ediv n d
    have m' := Int.emod_add_mul_ediv n' d
    rw [← e] at m'
    have hr : n % d ≤ n' % d := by omega
    by_cases h0 : n % d = 0
    · have z : near n d t = n / d := by
        unfold near
        rw [if_pos h0]
      rw [z, e]
      exact near_lo t
    · have hx : ¬ n' % d = 0 := by omega
      unfold near
      rw [if_neg h0, if_neg hx, ← e]
      by_cases g : goesUp t (n / d) (2 * (n % d) - d) = true
      · rw [if_pos g, if_pos (goes_up_mono (by omega) g)]
        exact Int.le_refl _
      · rw [if_neg g]
        split <;> omega
  · have z1 := near_hi (n := n) (d := d) t
    have z2 := near_lo (n := n') (d := d) t
    omega
theorem near_mono {n d n' d' : Int} (hd : 0 < d) (hd' : 0 < d') (h : n * d' ≤ n' * d) (t : Str) : near n d t ≤ near n' d' t := by
  rw [← near_scale (n := n) (d := d) hd hd' t, ← near_scale (n := n') (d := d') hd' hd t, Int.mul_comm d' d]
  exact near_mono0 (Int.mul_pos hd hd') h t
theorem near_nat {n d : Int} (hd : 0 < d) (t : Str) : (near n d t).natAbs ≤ n.natAbs + 1 := by
  have a := near_lo (n := n) (d := d) t
  have b := near_hi (n := n) (d := d) t
  have c := Int.natAbs_ediv_le_natAbs n d
  omega
/-- what a rounded number keeps to -/
def absZ (u : Int) : Int := if u < 0 then -u else u
def keepP (off : Int) (nr fr : Bool) : List (Str × V) := [("floor", .bl (decide (off < 0))), ("ceiling", .bl (decide (off > 0))), ("cut", .bl nr), ("away", .bl fr)]
def keepH (off : Int) (nr fr ev : Bool) : List (Str × V) := [("halfup", .bl (decide (off > 0))), ("halfdown", .bl (decide (off < 0))), ("halfeven", .bl ev), ("halfaway", .bl fr), ("halfcut", .bl nr)]
theorem keep_ok {n d : Int} (h0 : 0 < d) (hr : n % d ≠ 0) {z : Str} (hz : z ∈ waysL) : absZ (near n d z * d - n) < d ∧
    (∀ v, (keepP (near n d z * d - n) (decide (absZ (near n d z) * d < absZ n)) (decide (absZ (near n d z) * d > absZ n))).lookup z = some v → v = .bl true) ∧
    ((keepP (near n d z * d - n) (decide (absZ (near n d z) * d < absZ n)) (decide (absZ (near n d z) * d > absZ n))).lookup z = none → (2 * absZ (near n d z * d - n) ≠ d → 2 * absZ (near n d z * d - n) < d) ∧
      (2 * absZ (near n d z * d - n) = d → (keepH (near n d z * d - n) (decide (absZ (near n d z) * d < absZ n)) (decide (absZ (near n d z) * d > absZ n)) (decide (near n d z % 2 = 0))).lookup z = some (.bl true))) := by
  have r0 := Int.emod_nonneg n (show d ≠ 0 by omega)
  have r1 := Int.emod_lt_of_pos n h0
  have em := Int.emod_add_mul_ediv n d
  have eu : near n d z = if goesUp z (n / d) (2 * (n % d) - d) = true then n / d + 1 else n / d := by
    unfold near
    rw [if_neg hr]
  rw [eu]
  generalize n / d = q at em ⊢
  generalize n % d = r at hr r0 r1 em ⊢
  have em2 : q * d = n - r := by rw [Int.mul_comm]; omega
  have e1 : (q + 1) * d = n - r + d := by rw [Int.add_mul, em2, Int.one_mul]
  have e2 : -q * d = r - n := by rw [Int.neg_mul, em2]; omega
  have e3 : -(q + 1) * d = r - n - d := by rw [Int.neg_mul, e1]; omega
  have sg : (0 ≤ q ∧ 0 < n) ∨ (q < 0 ∧ n < 0) := by
    by_cases h : 0 ≤ q
    · have := Int.mul_nonneg h (Int.le_of_lt h0)
      exact .inl ⟨h, by omega⟩
    · have h2 : (q + 1) * d ≤ 0 := by
        have := Int.mul_nonneg (show 0 ≤ -(q + 1) by omega) (Int.le_of_lt h0)
        rw [Int.neg_mul] at this
        omega
      exact .inr ⟨by omega, by omega⟩
  -- the four numbers, up or not
  have up1 : ∀ b : Bool, (if b = true then q + 1 else q) * d - n = if b = true then d - r else -r := fun b => by cases b <;> simp <;> omega
  have up2 : ∀ b : Bool, absZ (if b = true then d - r else -r) = if b = true then d - r else r := fun b => by
    unfold absZ
    cases b <;> simp <;> omega
  have up3 : ∀ b : Bool, decide (absZ (if b = true then q + 1 else q) * d < absZ n) = (if b = true then decide (q < 0) else decide (0 ≤ q)) ∧ decide (absZ (if b = true then q + 1 else q) * d > absZ n) = (if b = true then decide (0 ≤ q) else decide (q < 0)) := fun b => by
    unfold absZ
    rcases sg with ⟨a, c⟩ | ⟨a, c⟩
    · cases b
      · simp only [Bool.false_eq_true, if_false]
        rw [if_neg (by omega), if_neg (by omega), em2, decide_eq_true (show n - r < n by omega), decide_eq_false (show ¬ n - r > n by omega), decide_eq_true a, decide_eq_false (by omega)]
        exact ⟨rfl, rfl⟩
      · simp only [if_true]
        rw [if_neg (by omega), if_neg (by omega), e1, decide_eq_false (show ¬ n - r + d < n by omega), decide_eq_true (show n - r + d > n by omega), decide_eq_true a, decide_eq_false (by omega)]
        exact ⟨rfl, rfl⟩
    · cases b
      · simp only [Bool.false_eq_true, if_false]
        rw [if_pos a, if_pos c, e2, decide_eq_false (show ¬ r - n < -n by omega), decide_eq_true (show r - n > -n by omega), decide_eq_true a, decide_eq_false (by omega)]
        exact ⟨rfl, rfl⟩
      · simp only [if_true]
        have e4 : (if q + 1 < 0 then -(q + 1) else q + 1) * d = r - n - d := by
          split
          · exact e3
          · have : q + 1 = 0 := by omega
            rw [this] at e1 ⊢
            omega
        rw [if_pos c, e4, decide_eq_true (show r - n - d < -n by omega), decide_eq_false (show ¬ r - n - d > -n by omega), decide_eq_true a, decide_eq_false (by omega)]
        exact ⟨rfl, rfl⟩
  generalize hb : goesUp z q (2 * r - d) = b
  rw [up1, (up3 b).1, (up3 b).2, up2]
  clear up1 up2 up3 eu e1 e2 e3 em em2
  refine ⟨by cases b <;> simp <;> omega, ?_⟩
  rcases way_cases hz with rfl | rfl | rfl | rfl | rfl | rfl | rfl | rfl | rfl
  · rw [goes_none (k := 4) (by decide +kernel) (by decide +kernel)] at hb
    subst hb
    refine ⟨fun v e => ?_, fun e => by cases (show some _ = none from e)⟩
    have e' := Option.some.inj e
    rw [← e']
    simp [kUp]
    omega
  · rw [goes_none (k := 3) (by decide +kernel) (by decide +kernel)] at hb
    subst hb
    refine ⟨fun v e => ?_, fun e => by cases (show some _ = none from e)⟩
    have e' := Option.some.inj e
    rw [← e']
    simp [kUp]
    omega
  · rw [goes_none (k := 1) (by decide +kernel) (by decide +kernel)] at hb
    subst hb
    refine ⟨fun v e => ?_, fun e => by cases (show some _ = none from e)⟩
    have e' := Option.some.inj e
    rw [← e']
    rcases sg with ⟨a, c⟩ | ⟨a, c⟩
    all_goals (simp [kUp] <;> omega)
  · rw [goes_none (k := 2) (by decide +kernel) (by decide +kernel)] at hb
    subst hb
    refine ⟨fun v e => ?_, fun e => by cases (show some _ = none from e)⟩
    have e' := Option.some.inj e
    rw [← e']
    rcases sg with ⟨a, c⟩ | ⟨a, c⟩
    all_goals (simp [kUp] <;> omega)
  · rw [goes_some (y := "ceiling") (k := 3) (by decide +kernel) (by decide +kernel)] at hb
    refine ⟨fun v e => (by cases (show none = some v from e)), fun _ => ⟨fun hn => ?_, fun he => ?_⟩⟩
    · by_cases g : 2 * r - d = 0
      · exact absurd (show 2 * (if b = true then d - r else r) = d by cases b <;> simp <;> omega) hn
      · rw [if_neg g] at hb
        subst hb
        by_cases g2 : 0 < 2 * r - d
        · rw [decide_eq_true g2, if_pos rfl]
          omega
        · rw [decide_eq_false g2, if_neg (by decide)]
          omega
    · have g : 2 * r - d = 0 := by cases b <;> simp at he <;> omega
      rw [if_pos g] at hb
      subst hb
      refine congrArg some (congrArg V.bl ?_)
      simp only [kUp]
      rcases sg with ⟨a, c⟩ | ⟨a, c⟩
      all_goals (simp <;> (repeat split) <;> omega)
  · rw [goes_some (y := "floor") (k := 4) (by decide +kernel) (by decide +kernel)] at hb
    refine ⟨fun v e => (by cases (show none = some v from e)), fun _ => ⟨fun hn => ?_, fun he => ?_⟩⟩
    · by_cases g : 2 * r - d = 0
      · exact absurd (show 2 * (if b = true then d - r else r) = d by cases b <;> simp <;> omega) hn
      · rw [if_neg g] at hb
        subst hb
        by_cases g2 : 0 < 2 * r - d
        · rw [decide_eq_true g2, if_pos rfl]
          omega
        · rw [decide_eq_false g2, if_neg (by decide)]
          omega
    · have g : 2 * r - d = 0 := by cases b <;> simp at he <;> omega
      rw [if_pos g] at hb
      subst hb
      refine congrArg some (congrArg V.bl ?_)
      simp only [kUp]
      rcases sg with ⟨a, c⟩ | ⟨a, c⟩
      all_goals (simp <;> (repeat split) <;> omega)
  · rw [goes_some (y := "even") (k := 0) (by decide +kernel) (by decide +kernel)] at hb
    refine ⟨fun v e => (by cases (show none = some v from e)), fun _ => ⟨fun hn => ?_, fun he => ?_⟩⟩
    · by_cases g : 2 * r - d = 0
      · exact absurd (show 2 * (if b = true then d - r else r) = d by cases b <;> simp <;> omega) hn
      · rw [if_neg g] at hb
        subst hb
        by_cases g2 : 0 < 2 * r - d
        · rw [decide_eq_true g2, if_pos rfl]
          omega
        · rw [decide_eq_false g2, if_neg (by decide)]
          omega
    · have g : 2 * r - d = 0 := by cases b <;> simp at he <;> omega
      rw [if_pos g] at hb
      subst hb
      refine congrArg some (congrArg V.bl ?_)
      simp only [kUp]
      rcases sg with ⟨a, c⟩ | ⟨a, c⟩
      all_goals (simp <;> (repeat split) <;> omega)
  · rw [goes_some (y := "away") (k := 2) (by decide +kernel) (by decide +kernel)] at hb
    refine ⟨fun v e => (by cases (show none = some v from e)), fun _ => ⟨fun hn => ?_, fun he => ?_⟩⟩
    · by_cases g : 2 * r - d = 0
      · exact absurd (show 2 * (if b = true then d - r else r) = d by cases b <;> simp <;> omega) hn
      · rw [if_neg g] at hb
        subst hb
        by_cases g2 : 0 < 2 * r - d
        · rw [decide_eq_true g2, if_pos rfl]
          omega
        · rw [decide_eq_false g2, if_neg (by decide)]
          omega
    · have g : 2 * r - d = 0 := by cases b <;> simp at he <;> omega
      rw [if_pos g] at hb
      subst hb
      refine congrArg some (congrArg V.bl ?_)
      simp only [kUp]
      rcases sg with ⟨a, c⟩ | ⟨a, c⟩
      all_goals (simp <;> (repeat split) <;> omega)
  · rw [goes_some (y := "cut") (k := 1) (by decide +kernel) (by decide +kernel)] at hb
    refine ⟨fun v e => (by cases (show none = some v from e)), fun _ => ⟨fun hn => ?_, fun he => ?_⟩⟩
    · by_cases g : 2 * r - d = 0
      · exact absurd (show 2 * (if b = true then d - r else r) = d by cases b <;> simp <;> omega) hn
      · rw [if_neg g] at hb
        subst hb
        by_cases g2 : 0 < 2 * r - d
        · rw [decide_eq_true g2, if_pos rfl]
          omega
        · rw [decide_eq_false g2, if_neg (by decide)]
          omega
    · have g : 2 * r - d = 0 := by cases b <;> simp at he <;> omega
      rw [if_pos g] at hb
      subst hb
      refine congrArg some (congrArg V.bl ?_)
      simp only [kUp]
      rcases sg with ⟨a, c⟩ | ⟨a, c⟩
      all_goals (simp <;> (repeat split) <;> omega)
end Own

/-! own layer, of no law: OWNS: running totals that are rounded at each step. -/
namespace Own
open PySem PySem.Spec PyProof.Rows L2 LamX NdefX
/-- the running total behind one entry of x parts: U parts are a unit -/
def stp (U x : Int) (t : Str) (s : Int) : Int := near (s * U + x) U t
/-- behind so many of them -/
def run (U x : Int) (t : Str) : Nat → Int → Int
  | 0, s => s
  | n + 1, s => run U x t n (stp U x t s)
theorem run_snoc (U x : Int) (t : Str) : ∀ (n : Nat) (s : Int), run U x t (n + 1) s = stp U x t (run U x t n s)
  | 0, _ => rfl
  | n + 1, s => run_snoc U x t n (stp U x t s)
theorem run_add (U x : Int) (t : Str) : ∀ (m n : Nat) (s : Int), run U x t (m + n) s = run U x t n (run U x t m s)
  | 0, n, s => by rw [Nat.zero_add]; rfl
  | m + 1, n, s => by
    rw [show m + 1 + n = (m + n) + 1 by omega]
    exact run_add U x t m n (stp U x t s)
/-- whether what an entry adds hangs on the total -/
def looseL1 : List Str := ["cut", "away"]
def looseL2 : List Str := ["halfeven", "halfaway", "halfcut"]
def isLoose (U x : Int) (t : Str) : Bool := (decide (t ∈ looseL1) && decide (x % U ≠ 0)) || (decide (t ∈ looseL2) && decide (2 * (x % U) = U))
section
variable {U x s : Int} {t : Str}
theorem stp_div (h : 0 < U) : (s * U + x) / U = s + x / U := by
  rw [Int.add_comm (s * U) x, Int.add_mul_ediv_right _ _ (by omega)]
  omega
theorem stp_mod : (s * U + x) % U = x % U := by
  rw [Int.add_comm (s * U) x, Int.add_mul_emod_self_right]
theorem stp_eq (h : 0 < U) : stp U x t s = if x % U = 0 then s + x / U else if goesUp t (s + x / U) (2 * (x % U) - U) = true then s + x / U + 1 else s + x / U := by
  unfold stp near
  rw [stp_mod, stp_div h]
/-- one that is not loose adds its own rounded worth -/
theorem stp_tight (h : 0 < U) (ht : t ∈ waysL) (n : isLoose U x t = false) : stp U x t s = s + near x U t := by
  rw [stp_eq h]
  unfold near
  by_cases r : x % U = 0
  · rw [if_pos r, if_pos r]
  rw [if_neg r, if_neg r]
  have tie : t ∈ looseL2 → 2 * (x % U) - U ≠ 0 := fun m z => by
    unfold isLoose at n
    rw [decide_eq_true m, decide_eq_true (show 2 * (x % U) = U by omega)] at n
    simp at n
  have same : goesUp t (s + x / U) (2 * (x % U) - U) = goesUp t (x / U) (2 * (x % U) - U) := by
    have big : 2 * (x % U) = U ∨ 2 * (x % U) - U ≠ 0 := by omega
    rcases way_cases ht with rfl | rfl | rfl | rfl | rfl | rfl | rfl | rfl | rfl
    · rw [goes_none (k := 4) (by decide +kernel) (by decide +kernel), goes_none (k := 4) (by decide +kernel) (by decide +kernel)]; rfl
    · rw [goes_none (k := 3) (by decide +kernel) (by decide +kernel), goes_none (k := 3) (by decide +kernel) (by decide +kernel)]; rfl
    · exfalso
      have e : isLoose U x "cut" = true := by
        unfold isLoose
        rw [decide_eq_true (show ("cut" : Str) ∈ looseL1 by decide +kernel), decide_eq_true r]
        rfl
      rw [e] at n
      cases n
    · exfalso
      have e : isLoose U x "away" = true := by
        unfold isLoose
        rw [decide_eq_true (show ("away" : Str) ∈ looseL1 by decide +kernel), decide_eq_true r]
        rfl
      rw [e] at n
      cases n
    · rw [goes_some (k := 3) (y := "ceiling") (by decide +kernel) (by decide +kernel), goes_some (k := 3) (y := "ceiling") (by decide +kernel) (by decide +kernel)]; rfl
    · rw [goes_some (k := 4) (y := "floor") (by decide +kernel) (by decide +kernel), goes_some (k := 4) (y := "floor") (by decide +kernel) (by decide +kernel)]; rfl
    all_goals have z : 2 * (x % U) - U ≠ 0 := tie (by decide +kernel)
    · rw [goes_some (k := 0) (y := "even") (by decide +kernel) (by decide +kernel), goes_some (k := 0) (y := "even") (by decide +kernel) (by decide +kernel), if_neg z, if_neg z]
    · rw [goes_some (k := 2) (y := "away") (by decide +kernel) (by decide +kernel), goes_some (k := 2) (y := "away") (by decide +kernel) (by decide +kernel), if_neg z, if_neg z]
    · rw [goes_some (k := 1) (y := "cut") (by decide +kernel) (by decide +kernel), goes_some (k := 1) (y := "cut") (by decide +kernel) (by decide +kernel), if_neg z, if_neg z]
  rw [same]
  split <;> omega
theorem run_tight (h : 0 < U) (ht : t ∈ waysL) (n : isLoose U x t = false) : ∀ (m : Nat) (s : Int), run U x t m s = s + near x U t * m
  | 0, s => by show s = _; simp
  | m + 1, s => by
    rw [run_snoc, run_tight h ht n m s, stp_tight h ht n]
    rw [show ((m + 1 : Nat) : Int) = (m : Int) + 1 by omega, Int.mul_add, Int.mul_one]
    omega
/-! ### halfeven -/
theorem loose_even (l : isLoose U x "halfeven" = true) : 2 * (x % U) = U := by
  unfold isLoose at l
  by_cases z : 2 * (x % U) = U
  · exact z
  · rw [decide_eq_false z, decide_eq_false (show ¬ ("halfeven" : Str) ∈ looseL1 by decide +kernel)] at l
    simp at l
theorem stp_even (h : 0 < U) (l : isLoose U x "halfeven" = true) (s : Int) : stp U x "halfeven" s = s + x / U + (s + x / U) % 2 := by
  have z := loose_even l
  rw [stp_eq h, if_neg (by omega), goes_some (k := 0) (y := "even") (by decide +kernel) (by decide +kernel), if_pos (show 2 * (x % U) - U = 0 by omega)]
  show (if decide ((s + x / U) % 2 = 1) = true then _ else _) = _
  by_cases e : (s + x / U) % 2 = 1
  · rw [if_pos (decide_eq_true e)]
    omega
  · rw [if_neg (fun y => e (of_decide_eq_true y))]
    omega
theorem run_even (h : 0 < U) (l : isLoose U x "halfeven" = true) : ∀ (m : Nat) (s : Int), run U x "halfeven" (m + 1) s = s + x / U + (s + x / U) % 2 + (x / U + x / U % 2) * m ∧ run U x "halfeven" (m + 1) s % 2 = 0
  | 0, s => by
    have e : run U x "halfeven" (0 + 1) s = s + x / U + (s + x / U) % 2 := stp_even h l s
    rw [e]
    refine ⟨by simp, by omega⟩
  | m + 1, s => by
    obtain ⟨a, b⟩ := run_even h l m s
    rw [run_snoc, stp_even h l]
    have e : (x / U + x / U % 2) * ((m + 1 : Nat) : Int) = (x / U + x / U % 2) * (m : Int) + (x / U + x / U % 2) := by
      rw [show ((m + 1 : Nat) : Int) = (m : Int) + 1 by omega, Int.mul_add, Int.mul_one]
    rw [e]
    generalize run U x "halfeven" (m + 1) s = r at a b
    generalize (x / U + x / U % 2) * (m : Int) = y at a
    refine ⟨by omega, by omega⟩
/-! ### cut, away, halfaway, halfcut -/
/-- what such an entry adds, ahead of where the total would be if it were rounded down -/
def addS (F : Int) (t : Str) (ahead : Int) : Int := if decide (0 ≤ ahead) = decide (t = "cut" ∨ t = "halfcut") then F else F + 1
theorem addS_cong {F a b : Int} {t : Str} (h : 0 ≤ a ↔ 0 ≤ b) : addS F t a = addS F t b := by
  unfold addS
  rw [decide_eq_decide.mpr h]
theorem stp_side (h : 0 < U) (ht : t ∈ waysL) (l : isLoose U x t = true) (ne : t ≠ "halfeven") (s : Int) : stp U x t s = s + addS (x / U) t (s + x / U) := by
  have r : x % U ≠ 0 := by
    intro z
    unfold isLoose at l
    rw [z] at l
    simp at l
    omega
  rw [stp_eq h, if_neg r]
  generalize x / U = F
  have fin : ∀ (up : Bool), up = !decide (decide (0 ≤ s + F) = decide (t = "cut" ∨ t = "halfcut")) → (if up = true then s + F + 1 else s + F) = s + addS F t (s + F) := fun up e => by
    unfold addS
    by_cases c : decide (0 ≤ s + F) = decide (t = "cut" ∨ t = "halfcut")
    · rw [if_pos c, e, decide_eq_true c, if_neg (by decide)]
    · rw [if_neg c, e, decide_eq_false c, if_pos (by decide)]
      omega
  have bool : ∀ a b : Bool, (!decide (a = b)) = (a != b) := by decide
  have neg : decide (s + F < 0) = !decide (0 ≤ s + F) := by
    by_cases c : s + F < 0
    · rw [decide_eq_true c, decide_eq_false (by omega)]; rfl
    · rw [decide_eq_false c, decide_eq_true (by omega)]; rfl
  have half : t ∈ looseL2 → 2 * (x % U) - U = 0 := fun m => by
    have n1 : ¬ t ∈ looseL1 := by
      intro y
      simp only [looseL1, looseL2, List.mem_cons, List.not_mem_nil, or_false] at y m
      rcases y with rfl | rfl <;> revert m <;> decide +kernel
    unfold isLoose at l
    rw [decide_eq_false n1] at l
    by_cases z : 2 * (x % U) = U
    · omega
    · rw [decide_eq_false z] at l
      simp at l
  have none : ¬ t ∈ looseL1 → ¬ t ∈ looseL2 → False := fun a b => by
    unfold isLoose at l
    rw [decide_eq_false a, decide_eq_false b] at l
    simp at l
  refine fin _ ?_
  rw [bool]
  rcases way_cases ht with rfl | rfl | rfl | rfl | rfl | rfl | rfl | rfl | rfl
  · exact (none (by decide +kernel) (by decide +kernel)).elim
  · exact (none (by decide +kernel) (by decide +kernel)).elim
  · rw [goes_none (k := 1) (by decide +kernel) (by decide +kernel)]
    show decide (s + F < 0) = _
    rw [neg, decide_eq_true (show ("cut" : Str) = "cut" ∨ ("cut" : Str) = "halfcut" from .inl rfl)]
    cases decide (0 ≤ s + F) <;> rfl
  · rw [goes_none (k := 2) (by decide +kernel) (by decide +kernel)]
    show decide (0 ≤ s + F) = _
    rw [decide_eq_false (show ¬ (("away" : Str) = "cut" ∨ ("away" : Str) = "halfcut") by decide +kernel)]
    cases decide (0 ≤ s + F) <;> rfl
  · exact (none (by decide +kernel) (by decide +kernel)).elim
  · exact (none (by decide +kernel) (by decide +kernel)).elim
  · exact absurd rfl ne
  · rw [goes_some (k := 2) (y := "away") (by decide +kernel) (by decide +kernel), if_pos (half (by decide +kernel))]
    show decide (0 ≤ s + F) = _
    rw [decide_eq_false (show ¬ (("halfaway" : Str) = "cut" ∨ ("halfaway" : Str) = "halfcut") by decide +kernel)]
    cases decide (0 ≤ s + F) <;> rfl
  · rw [goes_some (k := 1) (y := "cut") (by decide +kernel) (by decide +kernel), if_pos (half (by decide +kernel))]
    show decide (s + F < 0) = _
    rw [neg, decide_eq_true (show ("halfcut" : Str) = "cut" ∨ ("halfcut" : Str) = "halfcut" from .inr rfl)]
    cases decide (0 ≤ s + F) <;> rfl
/-- how many steps stay on one side -/
def sideN (ahead added times : Int) : Int :=
  if 0 ≤ ahead then (if 0 ≤ added then times else ahead / (-added) + 1) else (if added ≤ 0 then times else (added - 1 - ahead) / added)
theorem side_pos {ahead added times : Int} (h : 0 < times) : 0 < sideN ahead added times := by
  unfold sideN
  split
  · split
    · exact h
    · have := Int.ediv_nonneg (show 0 ≤ ahead by assumption) (show 0 ≤ -added by omega)
      omega
  · split
    · exact h
    · have a0 : 0 < added := by omega
      have e : (added - 1 - ahead) = (-1 - ahead) + 1 * added := by omega
      rw [e, Int.add_mul_ediv_right _ _ (by omega)]
      have := Int.ediv_nonneg (show 0 ≤ -1 - ahead by omega) (show 0 ≤ added by omega)
      omega
/-- so many steps as sideN tells, each adds the same -/
theorem side_stays {ahead added times : Int} {j : Nat} (h : (j : Int) < sideN ahead added times) : (0 ≤ ahead + added * j ↔ 0 ≤ ahead) := by
  unfold sideN at h
  have j0 : (0 : Int) ≤ j := by omega
  split at h
  · rename_i a
    split at h
    · rename_i b
      have := Int.mul_nonneg b j0
      constructor <;> intro _ <;> omega
    · rename_i b
      have z : (j : Int) ≤ ahead / (-added) := by omega
      have y := (Int.le_ediv_iff_mul_le (show 0 < -added by omega)).mp z
      rw [Int.mul_neg, Int.mul_comm] at y
      constructor <;> intro _ <;> omega
  · rename_i a
    split at h
    · rename_i b
      have := Int.mul_nonneg (show 0 ≤ -added by omega) j0
      rw [Int.neg_mul] at this
      constructor <;> intro _ <;> omega
    · rename_i b
      have z : (j : Int) + 1 ≤ (added - 1 - ahead) / added := by omega
      have y := (Int.le_ediv_iff_mul_le (show 0 < added by omega)).mp z
      rw [Int.add_mul, Int.one_mul, Int.mul_comm] at y
      constructor <;> intro _ <;> omega
theorem run_side (h : 0 < U) (ht : t ∈ waysL) (l : isLoose U x t = true) (ne : t ≠ "halfeven") (s : Int) : ∀ m : Nat, ((m : Int) ≤ sideN (s + x / U) (addS (x / U) t (s + x / U)) m ∨ ∃ T, (m : Int) ≤ sideN (s + x / U) (addS (x / U) t (s + x / U)) T) →
    run U x t m s = s + addS (x / U) t (s + x / U) * m
  | 0, _ => by show s = _; simp
  | m + 1, hm => by
    have hT : ∃ T, ((m + 1 : Nat) : Int) ≤ sideN (s + x / U) (addS (x / U) t (s + x / U)) T := hm.elim (fun z => ⟨_, z⟩) id
    obtain ⟨T, hT⟩ := hT
    have ih := run_side h ht l ne s m (.inr ⟨T, by omega⟩)
    rw [run_snoc, ih, stp_side h ht l ne]
    have st := side_stays (j := m) (show (m : Int) < sideN (s + x / U) (addS (x / U) t (s + x / U)) T by omega)
    have e : addS (x / U) t (s + addS (x / U) t (s + x / U) * (m : Int) + x / U) = addS (x / U) t (s + x / U) := addS_cong (by
      rw [show s + addS (x / U) t (s + x / U) * (m : Int) + x / U = s + x / U + addS (x / U) t (s + x / U) * (m : Int) by omega]
      exact st)
    rw [e, show ((m + 1 : Nat) : Int) = (m : Int) + 1 by omega, Int.mul_add, Int.mul_one]
    omega
end
end Own

/-! own layer, of no law: OWNP: properties of the program's classes, told by the top. -/
namespace Own
open PySem PySem.Spec PyProof.Rows L2 LamX NdefX
/-- the getter of a property: (class, its name) -/
def pgA (K : PySem.W.Frag) (p : Str × Option Str) : Addr := match PySem.W.findIn K (.ref (He.ga K p.1)) (p.2.getD "") with
  | some (some (.ref q)) => (match PySem.W.recIn K q "property" with
    | some (.ref g :: _) => g
    | _ => 0)
  | _ => 0
def fnWA (K : PySem.W.Frag) (a : Addr) : He.FnW := match K.lookup a with
  | some ⟨_, _, .func fd, _⟩ => some (fd.name, fd.qualname, fd.params, fd.body, fd.scope, fd.globals, fd.closure, fd.builtins)
  | _ => none
def okA (K : PySem.W.Frag) (a : Addr) (q : Str) : Bool := PySem.W.keepIn K (.ref a) && (match K.lookup a with
  | some ⟨_, _, .func fd, _⟩ => PySem.W.codeIn K fd.code q && (He.dflB K fd.defaults [] && He.kwdB K fd.kwdefaults [])
  | _ => false)
def propB (K : PySem.W.Frag) (p : Str × Option Str) (q : Str) : Bool := (match PySem.W.findIn K (.ref (He.ga K p.1)) (p.2.getD "") with
  | some (some (.ref r)) => decide (PySem.W.specialIn K (.ref r) "__get__" = some (some (.builtin "property.__get__"))) && (decide (PySem.W.takesIn K (.ref r) = some true) && (match PySem.W.recIn K r "property" with
    | some (.ref _ :: _) => true
    | _ => false))
  | _ => false) && okA K (pgA K p) q
theorem funD_at {K : PySem.W.Frag} {a : Addr} {d : He.DefD} (e : fnWA K a = d.val) (c : okA K a d.qual = true) : ∃ fd, FunD K d.name d.qual d.params d.body d.scope [] [] a fd := by
  obtain ⟨kp, c2⟩ := He.ba c
  unfold fnWA at e
  cases q : K.lookup a with
  | none =>
    rw [q] at c2
    cases c2
  | some o =>
    obtain ⟨oc, od, dt, osl⟩ := o
    rw [q] at c2 e
    cases dt with
    | func fd =>
      obtain ⟨n1, n2, n3, n4, n5, n6, n7, n8, n9, n10, n11, n12, n13, n14, n15⟩ := fd
      have e2 : (some (n1, n2, n3, n4, n5, n6, n7, n15) : He.FnW) = some (d.name, d.qual, d.params, .stmts d.body, d.scope, mainGlobals, [], builtinsNs) := e
      simp only [Option.some.injEq, Prod.mk.injEq] at e2
      obtain ⟨h1, h2, h3, h4, h5, h6, h7, h8⟩ := e2
      subst h1 h2 h3 h4 h5 h6 h7 h8
      have c3 : (PySem.W.codeIn K n13 d.qual && (He.dflB K n8 [] && He.kwdB K n9 [])) = true := c2
      obtain ⟨k1, k2⟩ := He.ba c3
      obtain ⟨k3, k4⟩ := He.ba k2
      exact ⟨_, ⟨oc, od, n8, n9, n10, n11, n12, n13, n14, osl, rfl, q, k1, He.dflB_ok k3, He.kwdB_ok k4⟩, kp⟩
    | _ => cases c2
theorem prop_ok {K : PySem.W.Frag} {C f : Str} {q : Str} (h : propB K (C, some f) q = true) : (∃ p, PropOf K (He.ga K C) f p (pgA K (C, some f))) ∧ okA K (pgA K (C, some f)) q = true := by
  obtain ⟨h1, h2⟩ := He.ba h
  refine ⟨?_, h2⟩
  have h1 : (match PySem.W.findIn K (.ref (He.ga K C)) f with
    | some (some (.ref r)) => decide (PySem.W.specialIn K (.ref r) "__get__" = some (some (.builtin "property.__get__"))) && (decide (PySem.W.takesIn K (.ref r) = some true) && (match PySem.W.recIn K r "property" with
      | some (.ref _ :: _) => true
      | _ => false))
    | _ => false) = true := h1
  have e : pgA K (C, some f) = (match PySem.W.findIn K (.ref (He.ga K C)) f with
    | some (some (.ref q)) => (match PySem.W.recIn K q "property" with
      | some (.ref g :: _) => g
      | _ => 0)
    | _ => 0) := rfl
  cases a : PySem.W.findIn K (.ref (He.ga K C)) f with
  | none => rw [a] at h1; cases h1
  | some a1 =>
    cases a1 with
    | none => rw [a] at h1; cases h1
    | some v =>
      cases v with
      | ref r =>
        rw [a] at h1 e
        obtain ⟨b1, b2⟩ := He.ba h1
        obtain ⟨b2, b3⟩ := He.ba b2
        have b3 : (match PySem.W.recIn K r "property" with
          | some (.ref _ :: _) => true
          | _ => false) = true := b3
        have e : pgA K (C, some f) = (match PySem.W.recIn K r "property" with
          | some (.ref g :: _) => g
          | _ => 0) := e
        refine ⟨r, a, of_decide_eq_true b1, of_decide_eq_true b2, ?_⟩
        cases c : PySem.W.recIn K r "property" with
        | none => rw [c] at b3; cases b3
        | some l =>
          cases l with
          | nil => rw [c] at b3; cases b3
          | cons x rest =>
            cases x with
            | ref g =>
              rw [c] at e
              have e : pgA K (C, some f) = g := e
              rw [e]
              exact ⟨rest, rfl⟩
            | _ => rw [c] at b3; cases b3
      | _ => rw [a] at h1; cases h1
/-- what is told: the getters' texts besides -/
structure SaysP (ps : List He.DefD) (K : PySem.W.Frag) : Prop where
  g : ps.map (fun d => fnWA K (pgA K d.at_)) = ps.map He.DefD.val
theorem SaysP.at_ {ps : List He.DefD} {K : PySem.W.Frag} (c : SaysP ps K) (i : Nat) {d : He.DefD} (h : ps[i]? = some d) : fnWA K (pgA K d.at_) = d.val := by
  have e : (ps.map fun d => fnWA K (pgA K d.at_))[i]? = (ps.map He.DefD.val)[i]? := by rw [c.g]
  rw [List.getElem?_map, List.getElem?_map, h] at e
  exact Option.some.inj e
abbrev AlP : Type := He.AlX × List He.FnW
def obsP (n : Nat) (fa : List He.Fa) (fn : List He.DefD) (ts : List He.Tab) (tf : List He.Defn) (ex : PySem.W.Frag → Bool) (ps : List He.DefD) (g : Addr → Option Obj) : AlP :=
  (He.obsX n fa fn ts tf ex g, ps.map fun d => fnWA (He.frT g (He.asD g n)) (pgA (He.frT g (He.asD g n)) d.at_))
def valP (fn : List He.DefD) (ts : List He.Tab) (ps : List He.DefD) (w : World) : AlP := (He.valX fn ts w, ps.map He.DefD.val)
def hookP (n : Nat) (fa : List He.Fa) (fn : List He.DefD) (ts : List He.Tab) (tf : List He.Defn) (ex : PySem.W.Frag → Bool) (ps : List He.DefD) : PySem.W.Hook where
  α := AlP
  obs := fun s => obsP n fa fn ts tf ex ps s.heap.get?
  val := fun w => valP fn ts ps w
  says := fun w h => ∃ K : PySem.W.Frag, K.In h ∧ He.SaysX fa fn ts tf ex w h K ∧ SaysP ps K
  of := fun _ _ e => ⟨_, He.frT_in, He.saysX_of (congrArg (fun z : AlP => z.1) e), ⟨congrArg (fun z : AlP => z.2) e⟩⟩
  keeps := fun _ _ _ ⟨K, hK, c, d⟩ k => ⟨K, PySem.W.Frag.In.keeps hK k, ⟨c.t, c.more, c.hd, c.out, fun p hp => k _ _ (c.empty p hp)⟩, d⟩
theorem obsP_eq {n : Nat} {fa : List He.Fa} {fn : List He.DefD} {ts : List He.Tab} {tf : List He.Defn} {ex : PySem.W.Frag → Bool} {ps : List He.DefD} {g : Addr → Option Obj} {s : Shared} (h : ∀ a, g a = s.heap.get? a) : obsP n fa fn ts tf ex ps g = (hookP n fa fn ts tf ex ps).obs s := by
  have e : g = s.heap.get? := funext h
  rw [e] <;> rfl
end Own

set_option maxHeartbeats 0
/-! k50: what the top leaves; the end. -/
namespace K50
open PySem PySem.Spec PyProof.Rows L2 LamX NdefX Own
def nm0 : Str × Option Str := ("_most_within", none)
def dfn (x : Str) (i : Nat) : He.DefD := ⟨(x, none), x, x, defArgs (topS i), defBody (topS i), defScope (topS i), [], []⟩
def dMk (x m : Str) (i j : Nat) (pd : List He.Dv) (kd : List (Str × He.Dv)) : He.DefD := ⟨(x, some m), m, x ++ "." ++ m, defArgs (inClass (topS i) j), defBody (inClass (topS i) j), defScope (inClass (topS i) j), pd, kd⟩
def fnL : List He.DefD := [dMk "BadValue" "__init__" 2 0 [] [], dMk "TooFine" "__init__" 3 0 [] [], dMk "BadEntry" "__init__" 4 0 [] [], dMk "Gaps" "__init__" 5 0 [] [], dMk "Worth" "__init__" 15 0 [.int 0] [], dMk "Worth" "__eq__" 15 1 [] [], dMk "Worth" "__add__" 15 4 [] [], dMk "Worth" "__sub__" 15 6 [] [], dMk "Worth" "__neg__" 15 10 [] [], dMk "Worth" "sign" 15 13 [] [], dMk "Worth" "units_at" 15 14 [] [], dMk "Entry" "__init__" 30 0 [] [], dfn "is_an_integer" 8, dfn "is_whole_number" 9, dfn "need_integer" 10, dfn "need_whole_number" 11, dfn "ten_to" 12, dfn "digits_of" 13, dfn "without_zeros" 16, dfn "parted" 17, dfn "as_worth" 18, dfn "need_worth" 19, dfn "need_way" 23, dfn "nearest_units" 24, dfn "_goes_up" 25, dfn "rounded" 26, dfn "need_entries" 31, dfn "entries_in_units" 32, dfn "total_behind" 33, dfn "_times_on_side" 34, dfn "tally_range" 36, dfn "order_for" 37, dfn "_range_of" 38, dfn "_sum_of" 39, dfn "_base_of" 40, dfn "_range_by_halves" 41, dfn "_greatest_of" 42, dfn "_first_side" 43, dfn "_order_by_halves" 45, dfn "_order_of_greatest" 46, dfn "_order_between" 47, dfn "_total_in" 48, dfn "_law_pen" 50, dfn "_law_draw" 51, dfn "_law_pick" 52, dfn "_law_great" 53, dfn "_law_signed" 54, dfn "_law_ways" 55, dfn "_law_tens" 56, dfn "_law_rounded" 57, dfn "_law_own" 58, dfn "_law_same" 59, dfn "_law_units" 60, dfn "_law_run_at" 61, dfn "_law_is_order" 62, dfn "_law_totals" 63, dfn "_law_entries" 64, dfn "_law_told_right" 65, dfn "_most_within" 44, dfn "law" 66]
def psL : List He.DefD := []
def gloL : List Str := (["BadValue", "TooFine", "BadEntry", "Gaps", "Worth", "Entry", "WAYS", "TENS", "LOOSE_AT_HALF", "LOOSE_IN_ALL", "HALVES", "is_an_integer", "is_whole_number", "need_integer", "need_whole_number", "ten_to", "digits_of", "without_zeros", "parted", "as_worth", "need_worth", "need_way", "nearest_units", "_goes_up", "rounded"] : List Str) ++ (["need_entries", "entries_in_units", "total_behind", "_times_on_side", "tally_range", "order_for", "_range_of", "_sum_of", "_base_of", "_range_by_halves", "_greatest_of", "_first_side", "_order_by_halves", "_order_of_greatest", "_order_between", "_total_in", "_law_pen", "_law_draw", "_law_pick", "_law_great", "_law_signed", "_law_ways", "_law_tens", "_law_rounded", "_law_own"] : List Str) ++ (["_law_same", "_law_units", "_law_run_at", "_law_is_order", "_law_totals", "_law_entries", "_law_told_right", "_most_within", "law"] : List Str)
def freeL : List Str := ["isinstance", "int", "bool", "len", "list", "range", "tuple", "all", "divmod", "min", "max", "str", "abs", "dict", "any", "enumerate", "sum", "sorted", "zip"]
def moreL : List He.Fa := [He.Fa.exm "BadValue" "BadValue" true, .meth "BadValue" "__init__", .noat "BadValue" "value", .keep "BadValue", .exm "TooFine" "TooFine" true, .meth "TooFine" "__init__", .noat "TooFine" "scale", .keep "TooFine", .exm "BadEntry" "BadEntry" true, .meth "BadEntry" "__init__", .noat "BadEntry" "index", .keep "BadEntry", .exm "Gaps" "Gaps" true, .meth "Gaps" "__init__", .noat "Gaps" "way", .keep "Gaps", .cls "Worth", .mkr "Worth", .noat "Worth" "units", .noat "Worth" "scale", .noat "Worth" "floor", .noat "Worth" "more", .meth "Worth" "__eq__", .meth "Worth" "__add__", .meth "Worth" "__sub__", .meth "Worth" "__neg__", .meth "Worth" "sign", .meth "Worth" "units_at", .cls "Entry", .mkr "Entry", .noat "Entry" "times", .noat "Entry" "floor", .noat "Entry" "alone", .noat "Entry" "side", .noat "Entry" "is_loose"]
def faL : List He.Fa := gloL.map He.Fa.glo ++ freeL.map He.Fa.free ++ moreL
def tsL : List He.Tab := [(fun K => He.ga K "HALVES", ["halfup", "halfdown", "halfeven", "halfaway", "halfcut"])]
/-- what a dict of the top says at the ways -/
def getB (K : PySem.W.Frag) (a : Addr) (l : List (Str × Str)) : Bool := waysL.all fun z => match PySem.W.nsIn K a z with
  | some none => (l.lookup z).isNone
  | some (some u) => (match l.lookup z with
    | some y => He.relB (.str y) u
    | none => false)
  | none => false
theorem getB_ok {K : PySem.W.Frag} {a : Addr} {l : List (Str × Str)} (h : getB K a l = true) {z : Str} (hz : z ∈ waysL) : KGet K a z ((l.lookup z).map V.str) := by
  have h1 := List.all_eq_true.mp h z hz
  cases q : PySem.W.nsIn K a z with
  | none => rw [q] at h1; cases h1
  | some ro =>
    rw [q] at h1
    refine ⟨ro, q, ?_⟩
    cases ro with
    | none =>
      cases e : l.lookup z with
      | none => exact trivial
      | some y => rw [e] at h1; cases h1
    | some u =>
      cases e : l.lookup z with
      | none => rw [e] at h1; cases h1
      | some y =>
        rw [e] at h1
        exact He.relB_ok h1
/-- isinstance by the class -/
def wisB (K : PySem.W.Frag) (W : Addr) : Bool := (decide (PySem.W.findIn K (.ref W) "__class__" = some (some (.builtin "object.__class__"))) && (decide (PySem.W.specialIn K (.builtin "object.__class__") "__get__" = some (some (.builtin "getset_descriptor.__get__"))) &&
  (decide (PySem.W.takesIn K (.builtin "object.__class__") = some true) && (decide (PySem.W.mroIn K W (.type "object") = some true) && ((tys.all fun T => decide (PySem.W.kitOne K (.type T) (.ref W) = some false)))))))
def exL (K : PySem.W.Frag) : Bool := oexB K (He.ga K "BadValue") && (L2.xfB K (He.ga K "BadValue") && (oexB K (He.ga K "TooFine") && (L2.xfB K (He.ga K "TooFine") && (oexB K (He.ga K "BadEntry") && (L2.xfB K (He.ga K "BadEntry") && (oexB K (He.ga K "Gaps") && (L2.xfB K (He.ga K "Gaps") && (He.tupB K "WAYS" (waysL.map He.Dv.str) && (He.tupB K "TENS" (tensL.map He.Dv.int) && (He.tupB K "LOOSE_AT_HALF" (looseL2.map He.Dv.str) && (He.tupB K "LOOSE_IN_ALL" (looseL1.map He.Dv.str) && (getB K (He.ga K "HALVES") halvL && (wisB K (He.ga K "Worth") && ((tys.all fun T => decide (PySem.W.subIn K (.type T) (.ref (He.ga K "Worth")) = some false)) && (PySem.W.selfFirst K (He.ga K "Worth") && (decide (PySem.W.kitAny K (.ref (He.ga K "Worth")) [.type "list", .type "tuple"] = some false)))))))))))))))))
abbrev rowK : PySem.W.OpenRow := PySem.W.OpenLaw.row PySem.Challenge.rw_figurestay_k50_whole_all_orders
abbrev hkL : PySem.W.Hook := hookP 6 faL fnL tsL [nm0] exL psL
def obL (s : PySem.W.SharedT) : AlP := obsP 6 faL fnL tsL [nm0] exL psL (HandSHeadRun.getT s)
theorem obL_eq (s : PySem.W.SharedT) : obL s = hkL.obs s.abs := obsP_eq (HandSHeadRun.getT_eq s)
def looseL : List Str := (["FigureError", "BadValue", "TooFine", "BadEntry", "Gaps", "Worth", "Entry", "WAYS", "TENS", "LOOSE_AT_HALF", "LOOSE_IN_ALL", "HALVES", "is_an_integer", "is_whole_number", "need_integer", "need_whole_number", "ten_to", "digits_of", "without_zeros", "parted", "as_worth", "need_worth", "need_way", "nearest_units", "_goes_up"] : List Str) ++ (["rounded", "need_entries", "entries_in_units", "total_behind", "_times_on_side", "tally_range", "order_for", "_range_of", "_sum_of", "_base_of", "_range_by_halves", "_greatest_of", "_first_side", "_order_by_halves", "_order_of_greatest", "_order_between", "_total_in", "_law_pen", "_law_draw", "_law_pick", "_law_great", "_law_signed", "_law_ways", "_law_tens", "_law_rounded"] : List Str) ++ (["_law_own", "_law_same", "_law_units", "_law_run_at", "_law_is_order", "_law_totals", "_law_entries", "_law_told_right", "_most_within"] : List Str)
end K50

/-! k50: what the top leaves; the end. -/
namespace K50
open PySem PySem.Spec PyProof.Rows L2 LamX NdefX Own
theorem runF (w : World) : HandSHeadRun.RunEq rowK (PySem.W.view rowK.prog [66]) hkL obL 12000 looseL (w.withFollow "special-get-raises" false) := by
  intro os
  kernel_rfl
theorem runT (w : World) : HandSHeadRun.RunEq rowK (PySem.W.view rowK.prog [66]) hkL obL 12000 looseL (w.withFollow "special-get-raises" true) := by
  intro os
  kernel_rfl
theorem runW (w : World) : HandSHeadRun.RunEq rowK (PySem.W.view rowK.prog [66]) hkL obL 12000 looseL w := PySem.W.byRow2 "special-get-raises" (P := fun w => HandSHeadRun.RunEq rowK (PySem.W.view rowK.prog [66]) hkL obL 12000 looseL w) runF runT w
end K50

set_option maxHeartbeats 4000000
/-! k50: without_zeros. -/
namespace K50
open PySem PySem.Spec PyProof.Rows L2 LamX NdefX Own
abbrev pWz : Stmt := topS 16
/-- u' at the scale s' is u at s, at its own scale -/
structure IsLow (u : Int) (s : Nat) (u' : Int) (s' : Nat) : Prop where
  le : s' ≤ s
  eq : u = u' * (10 : Int) ^ (s - s')
  own : s' = 0 ∨ u' % 10 ≠ 0
theorem low_step {u u' : Int} {s s' st : Nat} (h1 : s' ≤ s) (h2 : st ≤ s') (e : u = u' * (10 : Int) ^ (s - s')) (d : (10 : Int) ^ st ∣ u') : u = u' / (10 : Int) ^ st * (10 : Int) ^ (s - (s' - st)) := by
  obtain ⟨c, rfl⟩ := d
  have p : (10 : Int) ^ st ≠ 0 := Int.ne_of_gt (ten_pos st)
  rw [Int.mul_ediv_cancel_left _ p, e]
  have z : s - (s' - st) = st + (s - s') := by omega
  rw [z, Int.pow_add, Int.mul_comm ((10 : Int) ^ st) c, Int.mul_assoc]
theorem dvd_step {u' : Int} {st : Nat} (d : (10 : Int) ^ st ∣ u') (n : ¬ (10 : Int) ^ (2 * st) ∣ u') : ¬ (10 : Int) ^ st ∣ u' / (10 : Int) ^ st := by
  obtain ⟨c, rfl⟩ := d
  have p : (10 : Int) ^ st ≠ 0 := Int.ne_of_gt (ten_pos st)
  rw [Int.mul_ediv_cancel_left _ p]
  rintro ⟨k, rfl⟩
  refine n ⟨k, ?_⟩
  have z : 2 * st = st + st := by omega
  rw [z, Int.pow_add, Int.mul_assoc]
/-- what the halving steps leave -/
def Half (u' : Int) (s' st : Nat) : Prop := (st = 0 ∧ (s' = 0 ∨ u' % 10 ≠ 0)) ∨ ((∃ j, st = 2 ^ j) ∧ ¬ (2 * st ≤ s' ∧ (10 : Int) ^ (2 * st) ∣ u'))
theorem half_next {u' : Int} {s' st : Nat} (hp : ∃ j, st = 2 ^ j) (n : ¬ (st ≤ s' ∧ (10 : Int) ^ st ∣ u')) : Half u' s' (st / 2) := by
  obtain ⟨j, rfl⟩ := hp
  cases j with
  | zero =>
    refine .inl ⟨rfl, ?_⟩
    by_cases h : s' = 0
    · exact .inl h
    · refine .inr fun z => n ⟨by simp; omega, ?_⟩
      simpa using Int.dvd_of_emod_eq_zero z
  | succ j =>
    have e : 2 ^ (j + 1) / 2 = 2 ^ j := by rw [Nat.pow_succ]; omega
    refine .inr ⟨⟨j, e⟩, ?_⟩
    rw [e]
    have e2 : 2 * 2 ^ j = 2 ^ (j + 1) := by rw [Nat.pow_succ]; omega
    rw [e2]
    exact n
section
variable {P : Program} {w : World} {K : PySem.W.Frag} {mg : Str → Option Value} {base : Heap}
theorem scWz : FnScope ["units", "scale", "step", "block"] ["units", "scale"] (defScope pWz) := ⟨rfl, rfl, rfl, by decide +kernel, rfl, by decide +kernel, by decide +kernel⟩
def spWz : Sp := fun vs H Q _ => ∃ (u : Int) (s : Nat), vs = [.int u, .int s] ∧ s < 2000 ∧ ∀ (u' : Int) (s' : Nat) (p : Addr), IsLow u s u' s' → H p = none → Q (.ref p) (upd H p (.tup [.int u', .int s']))
theorem ok_wz (A : At K mg "without_zeros" pWz ["units", "scale"]) (D : DefOk P w K mg base CX0 "ten_to" 9 ["places"] (spTenTo 8)) : DefOk P w K mg base CX0 "without_zeros" 10 ["units", "scale"] spWz := by
  refine A.ok fun f fd F => F.ok scWz (fun vs H Q E h => ?_) (fun cdv A outer s0 H vs Q E hr h => ?_)
  · obtain ⟨u, s, rfl, _⟩ := h
    rfl
  · obtain ⟨u, s, rfl, hs, q⟩ := h
    have nd := scWz.nd
    refine ⟨_, pss_cons (ps_if (PW.pt (pw_or (pt_cmpR op_eq (pv 1) pe_int (nomark _)) (pw_or1 (pt_cmpR op_ne (pe_op op_mod (pv 0) pe_int) pe_int (nomark _))))) (pss_one (ps_ret (pe_tup (pa_cons (pv 0) (pa_cons (pv 1) pa_nil))))) pss_nil)
      (pss_cons (ps_if (pt_cmpR op_eq (pv 0) pe_int (nomark _)) (pss_one (ps_ret (pe_tup (pa_cons pe_int (pa_cons pe_int pa_nil))))) pss_nil)
      (pss_cons (ps_set (i := 2) nd rfl (.inl rfl) pe_int)
      (pss_cons (ps_while PassesOwn.never (pt_cmpR op_le (pe_op op_mul (pv 2) pe_int) (pv 1) (nomark _)) (pss_one (ps_set (i := 2) nd rfl (.inl rfl) (pe_op op_mul (pv 2) pe_int))))
      (pss_cons (ps_while PassesOwn.never (pt_cmpR op_gt (pv 2) pe_int (nomark _)) (pss_cons (ps_set (i := 3) nd rfl (.inl rfl) (pe_def D hr (by decide) (by rfl) pass0 (pa_cons (pv 2) pa_nil)))
        (pss_cons (ps_if (PW.pt (pw_and (pt_cmpR op_le (pv 2) (pv 1) (nomark _)) (pw_and1 (pt_cmpR op_eq (pe_op op_mod (pv 0) (pv 3)) pe_int (nomark _)))))
          (pss_one (ps_par (i := 0) (j := 1) (by rfl) nd rfl rfl (by decide) rfl rfl (pa_cons (pe_op op_fdivW (pv 0) (pv 3)) (pa_cons (pe_op op_sub (pv 1) (pv 2)) pa_nil)) (by rfl))) pss_nil)
        (pss_one (ps_set (i := 2) nd rfl (.inl rfl) (pe_op op_fdiv (pv 2) pe_int))))))
      (pss_one (ps_ret (pe_tup (pa_cons (pv 0) (pa_cons (pv 1) pa_nil))))))))), ?_⟩
    refine ⟨_, rfl, rfl, _, rfl, ite2 (fun e => iteT ?_) (fun e => ?_)⟩
    · have h0 : s = 0 := by simpa using e
      subst h0
      exact ⟨_, rfl, _, rfl, by show 2 ≤ sizeLine; decide, fun p np => q u 0 p ⟨Nat.le_refl _, by simp, .inl rfl⟩ np⟩
    have hs0 : s ≠ 0 := by simpa using e
    refine ⟨_, rfl, _, _, rfl, rfl, (show (0 : Int) < 10 by decide), rfl, _, rfl, ite2 (fun e => ?_) (fun e => ?_)⟩
    · have h0 : u % 10 ≠ 0 := by simpa using e
      exact ⟨_, rfl, _, rfl, by show 2 ≤ sizeLine; decide, fun p np => q u s p ⟨Nat.le_refl _, by simp, .inr h0⟩ np⟩
    refine ⟨_, rfl, rfl, _, rfl, ite2 (fun e => ?_) (fun e => ?_)⟩
    · have h0 : u = 0 := by simpa using e
      exact ⟨by show 2 ≤ sizeLine; decide, fun p np => q 0 0 p ⟨Nat.zero_le _, by rw [h0]; simp, .inl rfl⟩ np⟩
    dsimp only [gName, List.set]
    refine ⟨fun m σ H' => H' = H ∧ ∃ j : Nat, σ = [some (.int u), some (.int s), some (.int ((2 ^ j : Nat) : Int)), none] ∧ 2 ^ j ≤ s ∧ m = s - 2 ^ j, ⟨_, rfl, 0, rfl, by simp; omega, rfl⟩, ?_⟩
    rintro m σ H1 ⟨rfl, j, rfl, hj, rfl⟩
    have jp : 0 < 2 ^ j := Nat.pow_pos (by decide)
    refine ⟨_, rfl, _, _, rfl, rfl, .inr ⟨by decide, by decide⟩, _, rfl, _, _, rfl, rfl, _, rfl, ite2 (fun e => ?_) (fun e => ?_)⟩
    · have hle : ((2 ^ j : Nat) : Int) * 2 ≤ (s : Int) := of_decide_eq_true e
      refine ⟨fun σ' H' => H' = H1 ∧ σ' = [some (.int u), some (.int s), some (.int ((2 ^ (j + 1) : Nat) : Int)), none], fun σ' H' z => ⟨s - 2 ^ (j + 1), ?_, z.1, j + 1, z.2, ?_, rfl⟩, ?_⟩
      · rw [Nat.pow_succ]
        omega
      · rw [Nat.pow_succ]
        omega
      · refine ⟨_, rfl, _, _, rfl, rfl, .inr ⟨by decide, by decide⟩, rfl, ?_⟩
        have e2 : ((2 ^ j : Nat) : Int) * 2 = ((2 ^ (j + 1) : Nat) : Int) := by
          rw [Nat.pow_succ]
          omega
        dsimp only [gName, List.set]
        rw [e2]
    have hgt : ¬ ((2 ^ j : Nat) : Int) * 2 ≤ (s : Int) := fun z => e (decide_eq_true z)
    refine ⟨fun m σ H' => H' = H1 ∧ ∃ (u' : Int) (s' st : Nat) (bl : Option V), σ = [some (.int u'), some (.int s'), some (.int st), bl] ∧ m = st ∧ st < 2000 ∧ s' ≤ s ∧ u = u' * (10 : Int) ^ (s - s') ∧ Half u' s' st, ⟨_, rfl, u, s, 2 ^ j, none, rfl, rfl, by omega, Nat.le_refl _, by simp, .inr ⟨⟨j, rfl⟩, fun z => by omega⟩⟩, ?_⟩
    rintro m σ H2 ⟨rfl, u', s', st, bl, rfl, hm, hst, hle, eu, hf⟩
    have hm := hm.symm
    subst hm
    refine ⟨_, rfl, _, _, rfl, rfl, _, rfl, ite2 (fun e => ?_) (fun e => ?_)⟩
    · have h0 : 0 < st := by
        have z : (0 : Int) < (st : Int) := of_decide_eq_true e
        omega
      obtain ⟨hp, hn⟩ : (∃ j, st = 2 ^ j) ∧ ¬ (2 * st ≤ s' ∧ (10 : Int) ^ (2 * st) ∣ u') := by
        rcases hf with ⟨z, _⟩ | z
        · omega
        · exact z
      refine ⟨fun σ' H' => H' = H2 ∧ ∃ (u2 : Int) (s2 : Nat) (bl : Option V), σ' = [some (.int u2), some (.int s2), some (.int ((st / 2 : Nat) : Int)), bl] ∧ s2 ≤ s ∧ u = u2 * (10 : Int) ^ (s - s2) ∧ Half u2 s2 (st / 2), fun σ' H' ⟨z1, u2, s2, bl, z2, z3, z4, z5⟩ => ⟨st / 2, by omega, z1, u2, s2, st / 2, bl, z2, rfl, by omega, z3, z4, z5⟩, ?_⟩
      have e2 : (st : Int) / 2 = ((st / 2 : Nat) : Int) := by omega
      have tp := ten_pos st
      refine ⟨_, rfl, st, rfl, by show st < 16 * 2 ^ 8; omega, ?_⟩
      refine ⟨_, rfl, _, rfl, _, _, rfl, rfl, _, rfl, ite2 (fun e => ?_) (fun e => ?_)⟩
      · have l1 : st ≤ s' := by
          have z : (st : Int) ≤ (s' : Int) := of_decide_eq_true e
          omega
        refine ⟨_, rfl, _, rfl, _, _, rfl, rfl, tp, rfl, _, rfl, ite2 (fun e => ?_) (fun e => ?_)⟩
        · have d1 : (10 : Int) ^ st ∣ u' := Int.dvd_of_emod_eq_zero (by simpa using e)
          refine ⟨_, rfl, _, rfl, _, _, rfl, rfl, wide_div tp (ten_lt st) (by omega) (by omega), _, rfl, _, rfl, _, _, rfl, rfl, _, _, rfl, ?_⟩
          refine ⟨_, rfl, _, _, rfl, rfl, ⟨by decide, by decide⟩, ?_⟩
          dsimp only [gName, List.set]
          rw [e2]
          have e3 : (s' : Int) - (st : Int) = ((s' - st : Nat) : Int) := by omega
          rw [e3]
          refine ⟨rfl, u' / (10 : Int) ^ st, s' - st, some (.int ((10 : Int) ^ st)), rfl, by omega, low_step hle l1 eu d1, half_next hp fun z => ?_⟩
          by_cases l2 : 2 * st ≤ s'
          · exact dvd_step d1 (fun d2 => hn ⟨l2, d2⟩) z.2
          · omega
        · refine ⟨_, rfl, _, _, rfl, rfl, ⟨by decide, by decide⟩, ?_⟩
          dsimp only [gName, List.set]
          rw [e2]
          have nd1 : ¬ (10 : Int) ^ st ∣ u' := fun z => e (decide_eq_true (by show V.int (u' % (10 : Int) ^ st) = V.int 0; rw [Int.emod_eq_zero_of_dvd z]))
          exact ⟨rfl, u', s', some (.int ((10 : Int) ^ st)), rfl, hle, eu, half_next hp fun z => nd1 z.2⟩
      · have l1 : ¬ st ≤ s' := fun z => e (decide_eq_true (by omega))
        refine ⟨_, rfl, _, _, rfl, rfl, ⟨by decide, by decide⟩, ?_⟩
        dsimp only [gName, List.set]
        rw [e2]
        exact ⟨rfl, u', s', some (.int ((10 : Int) ^ st)), rfl, hle, eu, half_next hp fun z => l1 z.1⟩
    · have h0 : st = 0 := by
        have z : ¬ (0 : Int) < (st : Int) := fun z => e (decide_eq_true z)
        omega
      have own : s' = 0 ∨ u' % 10 ≠ 0 := by
        rcases hf with ⟨_, z⟩ | ⟨⟨j, z⟩, _⟩
        · exact z
        · have := Nat.pow_pos (n := j) (show 0 < 2 by decide)
          omega
      exact ⟨_, rfl, _, rfl, by show 2 ≤ sizeLine; decide, fun p np => q u' s' p ⟨hle, eu, own⟩ np⟩
end
end K50

/-! own layer, of no law: a number told as what is ahead of the point and the digits behind it -/
namespace Own
open PySem PySem.Spec PyProof.Rows L2 LamX NdefX
/-- ahead of the point -/
def wFl (u : Int) (s : Nat) : Int := if s = 0 then u else u / (10 : Int) ^ s
/-- the digits behind it -/
def wMo (u : Int) (s : Nat) : Str := if s = 0 then "" else Txt.zfill (Str.ofString (toString (u % (10 : Int) ^ s))) (s : Int)
def wRow (u : Int) (s : Nat) : List (Str × V) := [("units", .int u), ("scale", .int s), ("floor", .int (wFl u s)), ("more", .str (wMo u s))]
theorem wNe : (("scale" : Str) == "units") = false ∧ (("floor" : Str) == "units") = false ∧ (("floor" : Str) == "scale") = false ∧ (("more" : Str) == "units") = false ∧ (("more" : Str) == "scale") = false ∧ (("more" : Str) == "floor") = false := by decide +kernel
theorem wLk_u (u : Int) (s : Nat) : (wRow u s).lookup ("units" : Str) = some (.int u) := by simp [wRow, List.lookup]
theorem wLk_s (u : Int) (s : Nat) : (wRow u s).lookup ("scale" : Str) = some (.int s) := by simp [wRow, List.lookup, wNe]
theorem wLk_f (u : Int) (s : Nat) : (wRow u s).lookup ("floor" : Str) = some (.int (wFl u s)) := by simp [wRow, List.lookup, wNe]
theorem wLk_m (u : Int) (s : Nat) : (wRow u s).lookup ("more" : Str) = some (.str (wMo u s)) := by simp [wRow, List.lookup, wNe]
theorem wLk_no {m : Str} (u : Int) (s : Nat) (h1 : (m == "units") = false) (h2 : (m == "scale") = false) (h3 : (m == "floor") = false := by decide +kernel) (h4 : (m == "more") = false := by decide +kernel) : (wRow u s).lookup m = none := by simp [wRow, List.lookup, h1, h2, h3, h4]
theorem put4 (a b c d : V) : putF "more" d (putF "floor" c (putF "scale" b (putF "units" a []))) = ([("units", a), ("scale", b), ("floor", c), ("more", d)] : List (Str × V)) := by
  have e1 : ¬ (("units" : Str) = "scale") := by decide +kernel
  have e2 : ¬ (("units" : Str) = "floor") := by decide +kernel
  have e3 : ¬ (("units" : Str) = "more") := by decide +kernel
  have e4 : ¬ (("scale" : Str) = "floor") := by decide +kernel
  have e5 : ¬ (("scale" : Str) = "more") := by decide +kernel
  have e6 : ¬ (("floor" : Str) = "more") := by decide +kernel
  simp [putF, e1, e2, e3, e4, e5, e6]
/-! ### the digits -/
theorem numL_cons (n : Nat) : ∃ c l, TL.numL n = c :: l ∧ 48 ≤ c ∧ c ≤ 57 := by
  cases h : TL.numL n with
  | nil => exact absurd h (TL.numL_ne n)
  | cons c l =>
    have z := TL.numL_digits n c (by rw [h]; exact List.mem_cons_self ..)
    exact ⟨c, l, rfl, z.1, z.2⟩
theorem zf_list (n s : Nat) : (Txt.zfill (Str.ofString (toString (n : Int))) (s : Int)).cps.toList = List.replicate (s - (TL.numL n).length) 48 ++ TL.numL n := by
  have e : (Str.ofString (toString (n : Int))).cps.toList = TL.numL n := TL.tl_num n
  have l : (Str.ofString (toString (n : Int))).length = (TL.numL n).length := by rw [TL.len_tl]; exact congrArg List.length e
  generalize Str.ofString (toString (n : Int)) = x at e l
  unfold Txt.zfill
  by_cases h : (s : Int) ≤ (x.length : Int)
  · rw [if_pos h, e, show s - (TL.numL n).length = 0 by omega]
    rfl
  · rw [if_neg h]
    obtain ⟨c, r, ec, h1, h2⟩ := numL_cons n
    have hd : x.cps[0]? = some c := by
      rw [← Array.getElem?_toList, e, ec]
      rfl
    unfold zfilled
    rw [hd]
    split
    · rename_i z
      have := Option.some.inj z
      omega
    · rename_i z
      have := Option.some.inj z
      omega
    · rw [PyProof.Rows.padded_list, e, l]
      simp
theorem val_zeros : ∀ (k : Nat) (l : List Nat), NumText.digitsVal (List.replicate k 48 ++ l) = NumText.digitsVal l
  | 0, l => rfl
  | k + 1, l => by
    show NumText.digitsVal (48 :: (List.replicate k 48 ++ l)) = _
    exact val_zeros k l
theorem ten_nc (s : Nat) : ((10 : Int) ^ s) = ((10 ^ s : Nat) : Int) := by simp
theorem wMod (u : Int) (s : Nat) : ∃ n : Nat, u % (10 : Int) ^ s = (n : Int) ∧ n < 10 ^ s := by
  have p : 0 < 10 ^ s := Nat.pow_pos (by decide)
  rw [ten_nc]
  have a := Int.emod_nonneg u (show ((10 ^ s : Nat) : Int) ≠ 0 by omega)
  have b := Int.emod_lt_of_pos u (show (0 : Int) < ((10 ^ s : Nat) : Int) by omega)
  exact ⟨(u % ((10 ^ s : Nat) : Int)).toNat, by omega, by omega⟩
theorem wMo_list {u : Int} {s n : Nat} (h : s ≠ 0) (e : u % (10 : Int) ^ s = (n : Int)) : (wMo u s).cps.toList = List.replicate (s - (TL.numL n).length) 48 ++ TL.numL n := by
  unfold wMo
  rw [if_neg h, e]
  exact zf_list n s
theorem wMo_zero (u : Int) : (wMo u 0).cps.toList = [] := by
  have e : wMo u 0 = "" := by
    unfold wMo
    rw [if_pos rfl]
  rw [e]
  rfl
theorem wMo_len (u : Int) (s : Nat) : (wMo u s).cps.toList.length = s := by
  by_cases h : s = 0
  · subst h
    rw [wMo_zero]
    rfl
  · obtain ⟨n, e, l⟩ := wMod u s
    rw [wMo_list h e, List.length_append, List.length_replicate]
    have := TL.numL_len (Nat.pos_of_ne_zero h) l
    omega
theorem w_inj {u u2 : Int} {s s2 : Nat} (h1 : wFl u s = wFl u2 s2) (h2 : wMo u s = wMo u2 s2) : u = u2 ∧ s = s2 := by
  have e : s = s2 := by
    have a := wMo_len u s
    have b := wMo_len u2 s2
    rw [h2] at a
    omega
  subst e
  refine ⟨?_, rfl⟩
  by_cases h : s = 0
  · subst h
    exact h1
  · obtain ⟨n, e, l⟩ := wMod u s
    obtain ⟨n2, e2, l2⟩ := wMod u2 s
    have a := wMo_list h e
    have b := wMo_list h e2
    rw [h2, b] at a
    have v := congrArg NumText.digitsVal a
    rw [val_zeros, val_zeros, TL.numL_val, TL.numL_val] at v
    unfold wFl at h1
    rw [if_neg h, if_neg h] at h1
    have d1 := Int.mul_ediv_add_emod u ((10 : Int) ^ s)
    have d2 := Int.mul_ediv_add_emod u2 ((10 : Int) ^ s)
    rw [← d1, ← d2, h1, e, e2, v]
theorem w_ok (u : Int) (s : Nat) : PyData.strOk (wMo u s) = true := by
  have all : ∀ c ∈ (wMo u s).cps.toList, c < 0x110000 := fun c hc => by
    by_cases h : s = 0
    · subst h
      rw [wMo_zero] at hc
      cases hc
    · obtain ⟨n, e, l⟩ := wMod u s
      rw [wMo_list h e] at hc
      rcases List.mem_append.mp hc with z | z
      · rw [(List.mem_replicate.mp z).2]
        decide
      · have := TL.numL_digits n c z
        omega
  unfold PyData.strOk
  rw [Array.all_eq_true_iff_forall_mem]
  intro c hc
  exact decide_eq_true (all c (Array.mem_toList_iff.mpr hc))
/-- the two halves as data -/
theorem w_dp {K : PySem.W.Frag} {H : Hp} {a : Addr} {i : Int} {t : Str} (e : H a = some (.tup [.int i, .str t])) : Dp K H (.ref a) (.tuple [.int i, .str t]) := .tup (SqT.of e) (.cons (.int i) (.cons (.str t) .nil))
theorem w_sh (u : Int) (s : Nat) : SeqAt.shaped (.tuple [.int (wFl u s), .str (wMo u s)]) = true := by
  unfold SeqAt.shaped
  simp [PyData.canLay0, PyData.canLayAll0, PyData.depth, PyData.depthAll, w_ok]
theorem w_eqv (u u2 : Int) (s s2 : Nat) : PyData.eqv (.tuple [.int (wFl u s), .str (wMo u s)]) (.tuple [.int (wFl u2 s2), .str (wMo u2 s2)]) = (decide (u = u2) && decide (s = s2)) := by
  simp only [PyData.eqv, PyData.eqvAll, Bool.and_true]
  by_cases h : u = u2 ∧ s = s2
  · obtain ⟨rfl, rfl⟩ := h
    simp
  · have r : (decide (u = u2) && decide (s = s2)) = false := by
      rw [← Bool.decide_and]
      exact decide_eq_false h
    rw [r]
    have n : ¬ (wFl u s = wFl u2 s2 ∧ wMo u s = wMo u2 s2) := fun z => h (w_inj z.1 z.2)
    by_cases h1 : wFl u s = wFl u2 s2
    · have h2 : wMo u s ≠ wMo u2 s2 := fun z => n ⟨h1, z⟩
      rw [beq_false_of_ne h2, Bool.and_false]
    · rw [beq_false_of_ne h1, Bool.false_and]
/-- a list of statements that is never come to -/
theorem pss_dead {X : Cx} {ss : List Stmt} : PSs X ss (fun _ _ _ => False) := ⟨fun _ _ _ _ _ _ h => h.elim⟩
theorem dm_wide {n d : Int} (h0 : 0 < d) (h : d.natAbs < 2 ^ 9000) : CDivP n d := by
  refine ⟨h0, ?_⟩
  have a := log2_lt h (by decide)
  unfold Builtin.divisionGoesByPylong
  have e : ¬ (d == 0) = true := by simp; omega
  have z : ¬ (d.natAbs.log2 / 30 + 1 > 300) := by omega
  simp only [e, Bool.false_eq_true, if_false]
  rw [decide_eq_false z]
  rfl
end Own

/-! k50: digits_of, parted. -/
namespace K50
open PySem PySem.Spec PyProof.Rows L2 LamX NdefX Own
abbrev pDig : Stmt := topS 13
abbrev pPart : Stmt := topS 17
section
variable {P : Program} {w : World} {K : PySem.W.Frag} {mg : Str → Option Value} {base : Heap}
theorem scDig : FnScope ["number", "places", "ahead", "behind"] ["number"] (defScope pDig) := ⟨rfl, rfl, rfl, by decide +kernel, rfl, by decide +kernel, by decide +kernel⟩
/-- a number of few digits -/
def spDig : Sp := fun vs H Q _ => ∃ n : Nat, vs = [.int n] ∧ n < 10 ^ 500 ∧ Q (.str (Str.ofString (toString (n : Int)))) H
theorem small_log {n : Nat} (h : n < 10 ^ 500) : n.log2 < 1700 := log2_lt (Nat.lt_of_lt_of_le h (by decide +kernel)) (by decide)
theorem ok_dig (A : At K mg "digits_of" pDig ["number"]) (B : Blt mg) : DefOk P w K mg base CX0 "digits_of" 1 ["number"] spDig := by
  refine A.ok fun f fd F => F.ok scDig (fun vs H Q E h => ?_) (fun cdv A outer s0 H vs Q E hr h => ?_)
  · obtain ⟨n, rfl, _⟩ := h
    rfl
  · obtain ⟨n, rfl, hn, q⟩ := h
    have nd := scDig.nd
    refine ⟨_, pss_cons (ps_if (pt_cmpR op_lt (pe_bits (pv 0)) pe_int (nomark _)) (pss_one (ps_ret (pe_callTy call_str_int (by rfl) B.str (by decide +kernel) (pa_cons (pv 0) pa_nil)))) pss_nil) pss_dead, ?_⟩
    have lg := small_log hn
    have bits : Builtin.Int.intBits (n : Int) ≤ 1700 := by
      unfold Builtin.Int.intBits
      split
      · omega
      · have e : (n : Int).natAbs = n := by omega
        rw [e]
        omega
    refine ⟨_, rfl, n, rfl, _, _, rfl, rfl, _, rfl, ite2 (fun _ => ?_) (fun e => ?_)⟩
    · refine ⟨_, rfl, n, rfl, ?_, q⟩
      have e : (n : Int).natAbs = n := by omega
      rw [e]
      omega
    · exact absurd (decide_eq_true (by omega)) e
theorem scPart : FnScope ["units", "scale", "floor", "more"] ["units", "scale"] (defScope pPart) := ⟨rfl, rfl, rfl, by decide +kernel, rfl, by decide +kernel, by decide +kernel⟩
def spPart : Sp := fun vs H Q _ => ∃ (u : Int) (s : Nat), vs = [.int u, .int s] ∧ s < 500 ∧ ∀ (p : Addr) (H' : Hp), Same H H' → H' p = some (.tup [.int (wFl u s), .str (wMo u s)]) → Q (.ref p) H'
theorem ok_part (A : At K mg "parted" pPart ["units", "scale"]) (B : Blt mg) (D1 : DefOk P w K mg base CX0 "ten_to" 9 ["places"] (spTenTo 8)) (D2 : DefOk P w K mg base CX0 "digits_of" 1 ["number"] spDig) : DefOk P w K mg base CX0 "parted" 10 ["units", "scale"] spPart := by
  refine A.ok fun f fd F => F.ok scPart (fun vs H Q E h => ?_) (fun cdv A outer s0 H vs Q E hr h => ?_)
  · obtain ⟨u, s, rfl, _⟩ := h
    rfl
  · obtain ⟨u, s, rfl, hs, q⟩ := h
    have nd := scPart.nd
    refine ⟨_, pss_cons (ps_if (pt_cmpR op_eq (pv 1) pe_int (nomark _)) (pss_one (ps_ret (pe_tup (pa_cons (pv 0) (pa_cons pe_str pa_nil))))) pss_nil)
      (pss_cons (ps_asg (pe_callB call_divmodW (by rfl) B.dm (by decide +kernel) (pa_cons (pv 0) (pa_cons (pe_def D1 hr (by decide) (by rfl) pass0 (pa_cons (pv 1) pa_nil)) pa_nil))) (pg_tup rfl (pgs_cons (pg_name (i := 2) nd rfl (.inl rfl)) (pgs_cons (pg_name (i := 3) nd rfl (.inl rfl)) pgs_nil))))
      (pss_one (ps_ret (pe_tup (pa_cons (pv 2) (pa_cons (pe_bm PySem.F.plainAttrs_str PySem.F.slot_str_zfill PySem.F.type_str_zfill mt_zfill (pe_def D2 hr (by decide) (by rfl) pass0 (pa_cons (pv 3) pa_nil)) (pa_cons (pv 1) pa_nil)) pa_nil)))))), ?_⟩
    refine ⟨_, rfl, rfl, _, rfl, ite2 (fun e => ?_) (fun e => ?_)⟩
    · have h0 : s = 0 := by simpa using e
      subst h0
      refine ⟨_, rfl, by show 2 ≤ sizeLine; decide, fun p np => q p _ (same_new np) ?_⟩
      rw [upd_same]
      unfold wFl wMo
      rw [if_pos rfl, if_pos rfl]
    · have h0 : s ≠ 0 := by simpa using e
      refine ⟨_, rfl, _, rfl, s, rfl, by show s < 16 * 2 ^ 8; omega, _, _, rfl, dm_wide (ten_pos s) (up_two (ten_lt s) (by omega)), fun p hp => ?_⟩
      obtain ⟨n, en, hn⟩ := wMod u s
      have s1 : Same H (upd H p (.tup [.int (u / (10 : Int) ^ s), .int (u % (10 : Int) ^ s)])) := same_new hp
      refine ⟨p, _, rfl, SqT.of upd_same, rfl, _, _, rfl, _, _, rfl, rfl, ?_⟩
      have e1 : wFl u s = u / (10 : Int) ^ s := by
        unfold wFl
        rw [if_neg h0]
      have e2 : wMo u s = Txt.zfill (Str.ofString (toString (n : Int))) (s : Int) := by
        unfold wMo
        rw [if_neg h0, en]
      rw [en] at s1 ⊢
      dsimp only [gName, List.set]
      refine ⟨_, rfl, _, rfl, n, rfl, Nat.lt_of_lt_of_le hn (Nat.pow_le_pow_right (by decide) (by omega)), rfl, _, rfl, _, _, rfl, rfl, padOk_of (by omega) (by omega), by show 2 ≤ sizeLine; decide, fun p2 np2 => ?_⟩
      refine q p2 _ (s1.trans (same_new np2)) ?_
      rw [upd_same, e1, e2]
end
end K50

/-! k50: the class Worth. -/
namespace K50
open PySem PySem.Spec PyProof.Rows L2 LamX NdefX Own
abbrev wI (i : Nat) : Stmt := inClass (topS 15) i
section
variable {P : Program} {w : World} {K : PySem.W.Frag} {mg : Str → Option Value} {base : Heap} {C W : Addr}
/-- what the class is -/
structure WorthC (K : PySem.W.Frag) (mg : Str → Option Value) (W : Addr) : Prop where
  g : mg "Worth" = some (.ref W)
  cls : Cls K W
  nu : NoAttr K W "units"
  ns : NoAttr K W "scale"
  nf : NoAttr K W "floor"
  nm : NoAttr K W "more"
/-- a Worth stands at a: u units at the scale s -/
def WAt (W : Addr) (H : Hp) (a : Addr) (u : Int) (s : Nat) : Prop := ∃ dx, H a = some (.ins W dx (wRow u s))
theorem scWI : FnScope ["self", "units", "scale"] ["self", "units", "scale"] (defScope (wI 0)) := ⟨rfl, rfl, rfl, by decide +kernel, rfl, by decide +kernel, by decide +kernel⟩
/-- __init__ -/
def spWI (C W : Addr) : Sp := fun vs H Q E => ∃ (a dx : Addr) (x y : V), vs = [.ref a, x, y] ∧ H a = some (.ins W dx []) ∧ Thing H x ∧ Thing H y ∧ (Own.isInt x = false → Bad C "value" x H E) ∧ (Own.isInt x = true → isWh y = false → Bad C "value" y H E) ∧
  ∀ (u : Int) (s : Nat), x = .int u → y = .int s → s < 500 ∧ ∀ (u' : Int) (s' : Nat) (H' : Hp), IsLow u s u' s' → Keep a H H' → H' a = some (.ins W dx (wRow u' s')) → Q .non H'
theorem isWh_nat {y : V} (h : isWh y = true) : ∃ s : Nat, y = .int s := by
  cases y with
  | int i =>
    have z : 0 ≤ i := of_decide_eq_true h
    exact ⟨i.toNat, by rw [Int.toNat_of_nonneg z]⟩
  | _ => cases h
theorem ok_wI {f : Addr} {fd : FuncData} {dvs : List V} (F : FunD K "__init__" "Worth.__init__" (defArgs (wI 0)) (defBody (wI 0)) (defScope (wI 0)) dvs [] f fd) (T : WorthC K mg W) (D1 : DefOk P w K mg base (L2.CX P w) "need_integer" 3 ["value"] (spNInt C)) (D2 : DefOk P w K mg base (L2.CX P w) "need_whole_number" 3 ["value"] (spNWh C))
    (D3 : DefOk P w K mg base CX0 "without_zeros" 10 ["units", "scale"] spWz) (D4 : DefOk P w K mg base CX0 "parted" 10 ["units", "scale"] spPart) : FnOk P w K mg base (L2.CX P w) 11 f fd ["self", "units", "scale"] (spWI C W) := by
  refine F.ok scWI (fun vs H Q E h => ?_) (fun cdv A outer s0 H vs Q E hr h => ?_)
  · obtain ⟨a, dx, x, y, rfl, _⟩ := h
    rfl
  · obtain ⟨a, dx, x, y, rfl, ha, tx, ty, q1, q2, q3⟩ := h
    refine ⟨_, pss_cons (ps_expr (pe_def (E := E) D1 hr (by decide) (by rfl) (passes_call (takes_of rfl rfl rfl rfl) fun _ _ _ _ z => z) (pa_cons (pv 1) pa_nil)))
      (pss_cons (ps_expr (pe_def (E := E) D2 hr (by decide) (by rfl) (passes_call (takes_of rfl rfl rfl rfl) fun _ _ _ _ z => z) (pa_cons (pv 2) pa_nil)))
      (pss_cons (ps_asg (pe_def D3 hr (by decide) (by rfl) pass0 (pa_cons (pv 1) (pa_cons (pv 2) pa_nil))) (pg_tup rfl (pgs_cons (pg_fld (pv 0)) (pgs_cons (pg_fld (pv 0)) pgs_nil))))
      (pss_one (ps_asg (pe_def D4 hr (by decide) (by rfl) pass0 (pa_cons (pe_fld (pv 0) (by rfl)) (pa_cons (pe_fld (pv 0) (by rfl)) pa_nil))) (pg_tup rfl (pgs_cons (pg_fld (pv 0)) (pgs_cons (pg_fld (pv 0)) pgs_nil))))))), ?_⟩
    refine ⟨_, rfl, x, rfl, tx, fun hx => ?_, q1⟩
    refine ⟨_, rfl, y, rfl, ty, fun hy => ?_, q2 hx⟩
    obtain ⟨s, rfl⟩ := isWh_nat hy
    obtain ⟨u, rfl⟩ : ∃ u, x = .int u := by
      cases x <;> first | exact ⟨_, rfl⟩ | (simp [Own.isInt] at hx)
    obtain ⟨hs, q⟩ := q3 u s rfl rfl
    refine ⟨_, rfl, _, rfl, u, s, rfl, by omega, fun u' s' p lw np => ?_⟩
    have na : a ≠ p := ne_of_none ha np
    have ha1 : upd H p (.tup [.int u', .int s']) a = some (.ins W dx []) := (upd_ne na).trans ha
    refine ⟨p, _, rfl, SqT.of upd_same, rfl, _, _, rfl, ⟨_, rfl, a, W, dx, [], rfl, ha1, T.cls, T.nu, by decide, ?_⟩⟩
    refine ⟨_, _, rfl, ⟨_, rfl, a, W, dx, _, rfl, upd_same, T.cls, T.ns, by show 1 < 1000; decide, ?_⟩⟩
    refine ⟨rfl, ?_⟩
    rw [upd_upd]
    have k1 : Keep a H (upd (upd H p (.tup [.int u', .int s'])) a (.ins W dx (putF "scale" (.int s') (putF "units" (.int u') [])))) := (Keep.new np).trans Keep.at
    have ha2 : upd (upd H p (.tup [.int u', .int s'])) a (.ins W dx (putF "scale" (.int s') (putF "units" (.int u') []))) a = some (.ins W dx (putF "scale" (.int s') (putF "units" (.int u') []))) := upd_same
    generalize upd (upd H p (.tup [.int u', .int s'])) a (.ins W dx (putF "scale" (.int s') (putF "units" (.int u') []))) = H1 at k1 ha2 ⊢
    have e0 : ¬ (("units" : Str) = "scale") := by decide +kernel
    have e1 : (putF "scale" (.int s') (putF "units" (.int u') []) : List (Str × V)).lookup ("units" : Str) = some (V.int u') := by simp [putF, e0, List.lookup]
    have e2 : (putF "scale" (.int s') (putF "units" (.int u') []) : List (Str × V)).lookup ("scale" : Str) = some (V.int s') := by simp [putF, e0, List.lookup, wNe]
    have le := lw.le
    refine ⟨_, rfl, a, W, dx, _, .int u', rfl, ha2, T.cls, T.nu, e1, _, rfl, a, W, dx, _, .int s', rfl, ha2, T.cls, T.ns, e2, u', s', rfl, by omega, fun p2 H2 s2 h2 => ?_⟩
    have ha3 := s2 _ _ ha2
    have n2 : a ≠ p2 := ne_of ha3 h2 (by intro z; cases z)
    refine ⟨p2, _, rfl, SqT.of h2, rfl, _, _, rfl, ⟨_, rfl, a, W, dx, _, rfl, ha3, T.cls, T.nf, by show 2 < 1000; decide, ?_⟩⟩
    refine ⟨_, _, rfl, ⟨_, rfl, a, W, dx, _, rfl, upd_same, T.cls, T.nm, by show 3 < 1000; decide, ?_⟩⟩
    refine ⟨rfl, ?_⟩
    rw [upd_upd, put4]
    exact q u' s' _ lw ((k1.trans (Keep.same s2)).trans Keep.at) upd_same
end
end K50

/-! k50: Worths made; as_worth, units_at, sign. -/
namespace Own
open PySem PySem.Spec PyProof.Rows L2 LamX NdefX
theorem Thing.tyx {K : PySem.W.Frag} {H : Hp} {x : V} (h : Thing H x) : ∃ T ∈ tys, TyX K H x (.type T) := by
  cases h with
  | non => exact ⟨"NoneType", by simp [tys], .base .non⟩
  | bl b => exact ⟨"bool", by simp [tys], .base (.bl b)⟩
  | int i => exact ⟨"int", by simp [tys], .base (.int i)⟩
  | str z => exact ⟨"str", by simp [tys], .base (.str z)⟩
  | lst e => exact ⟨"list", by simp [tys], .base (.lst e)⟩
  | tup e => exact ⟨"tuple", by simp [tys], .base (.tup e)⟩
  | dct e => exact ⟨"dict", by simp [tys], .base (.dK e)⟩
end Own
namespace K50
open PySem PySem.Spec PyProof.Rows L2 LamX NdefX Own
abbrev pAsW : Stmt := topS 18
section
variable {P : Program} {w : World} {K : PySem.W.Frag} {mg : Str → Option Value} {base : Heap} {C W : Addr}
/-- isinstance by the class -/
structure WIs (K : PySem.W.Frag) (W : Addr) : Prop where
  ha : PySem.W.findIn K (.ref W) "__class__" = some (some (.builtin "object.__class__"))
  hn : PySem.W.specialIn K (.builtin "object.__class__") "__get__" = some (some (.builtin "getset_descriptor.__get__"))
  ht : PySem.W.takesIn K (.builtin "object.__class__") = some true
  hm : PySem.W.mroIn K W (.type "object") = some true
  no : ∀ T ∈ tys, PySem.W.kitOne K (.type T) (.ref W) = some false
/-- how the class is called -/
structure WMk (P : Program) (w : World) (K : PySem.W.Frag) (mg : Str → Option Value) (base : Heap) (C W : Addr) : Prop where
  ex : ∃ (fI : Addr) (fd : FuncData), Mk K W fI ∧ FnOk P w K mg base (L2.CX P w) 11 fI fd ["self", "units", "scale"] (spWI C W) ∧ Binds K fd ["self", "units", "scale"] [] ∧ ∃ ds, Vals [V.int 0] ds ∧ Binds K fd ["self", "units", "scale"] ds
theorem WAt.same {H H' : Hp} {a : Addr} {u : Int} {s : Nat} (h : WAt W H a u s) (z : Same H H') : WAt W H' a u s := by
  obtain ⟨dx, e⟩ := h
  exact ⟨dx, z _ _ e⟩
/-- what the call Worth(x, y) gives -/
def spWorth (C W : Addr) : Sp := fun vs H Q E => ∃ x y : V, vs = [x, y] ∧ Thing H x ∧ Thing H y ∧ (Own.isInt x = false → Bad C "value" x H E) ∧ (Own.isInt x = true → isWh y = false → Bad C "value" y H E) ∧
  ∀ (u : Int) (s : Nat), x = .int u → y = .int s → s < 500 ∧ ∀ (u' : Int) (s' : Nat) (a : Addr) (H' : Hp), IsLow u s u' s' → Same H H' → H a = none → WAt W H' a u' s' → Q (.ref a) H'
theorem worth_make {vs : List V} {H : Hp} {Q : VK} {E : XK} (h : spWorth C W vs H Q E) (a dx : Addr) (na : H a = none) (nd : H dx = none) (ne : dx ≠ a) : spWI C W (.ref a :: vs) (upd (upd H dx (.own a)) a (.ins W dx [])) (fun v H2 => v = .non ∧ Q (.ref a) H2) E := by
  obtain ⟨x, y, rfl, tx, ty, q1, q2, q3⟩ := h
  have na1 : upd H dx (.own a) a = none := (upd_ne ne.symm).trans na
  have s1 : Same H (upd (upd H dx (.own a)) a (.ins W dx [])) := (same_new nd).trans (same_new na1)
  refine ⟨a, dx, x, y, rfl, upd_same, tx.same s1, ty.same s1, fun z => (q1 z).same s1, fun z1 z2 => (q2 z1 z2).same s1, fun u s e1 e2 => ?_⟩
  obtain ⟨hs, q⟩ := q3 u s e1 e2
  refine ⟨hs, fun u' s' H' lw kp ha => ⟨rfl, q u' s' a H' lw (fun b o e => ?_) na ⟨dx, ha⟩⟩⟩
  have ba : b ≠ a := ne_of_none e na
  exact kp _ _ ba (s1 _ _ e)
section
variable {X : Cx} {k : Nat} {E : XK} {x : Str} {p pos : Pos} {e1 e2 : Expr} {t : TA}
/-- Worth(e1, e2) -/
theorem pe_worth (M : WMk X.prog X.w X.K X.mg X.base C W) (T : WorthC X.K X.mg W) (hr : Room k X.A) (hk : 12 ≤ k) (hg : Gl X "Worth") (hx : Passes (L2.CX X.prog X.w) X E) (ha : PA X [e1, e2] t)
    (he : starEach [e1, e2] X.env = (false, eval e1 X.env) :: starEach [e2] X.env := by rfl) (hpl : (backTo pos (starEach [e2] X.env)).any (·.1) = false := by rfl) : PE X (.Call (.Name "Worth" p) [e1, e2] [] pos) (tCall (spWorth C W) [] E t) := by
  obtain ⟨fI, fd, mk, F, b2, _⟩ := M.ex
  constructor
  intro pins s σ H Q I h
  refine wpAny_Call_Name_kw (ld_glob I hg T.g ?_ (by decide))
  refine PySem.W.callWith_K (h₀ := X.base) I.ok.mod.kin mk.kp (thn (ha.run pos pins s σ H _ I h) ?_) he hpl
  rintro us s1 ⟨vs, H1, I1, r, q⟩
  refine ⟨I1.kIn, run_make mk F (hr.mono hk) b2 .nil hx I1 r fun a dx na nd ne => ?_⟩
  rw [List.append_nil] at q ⊢
  exact worth_make q a dx na nd ne
/-- Worth(e1) -/
theorem pe_worth1 (M : WMk X.prog X.w X.K X.mg X.base C W) (T : WorthC X.K X.mg W) (hr : Room k X.A) (hk : 12 ≤ k) (hg : Gl X "Worth") (hx : Passes (L2.CX X.prog X.w) X E) {te : TE} (ha : PE X e1 te)
    (he : starEach [e1] X.env = (false, eval e1 X.env) :: starEach [] X.env := by rfl) (hpl : (backTo pos (starEach [] X.env)).any (·.1) = false := by rfl) : PE X (.Call (.Name "Worth" p) [e1] [] pos) (fun σ H Q => tCons te tNil σ H fun vs H1 => ∃ v, vs = [v] ∧ spWorth C W [v, .int 0] H1 Q E) := by
  obtain ⟨fI, fd, mk, F, _, ds, rd, b1⟩ := M.ex
  constructor
  intro pins s σ H Q I h
  refine wpAny_Call_Name_kw (ld_glob I hg T.g ?_ (by decide))
  refine PySem.W.callWith_K (h₀ := X.base) I.ok.mod.kin mk.kp (thn ((pa_cons ha pa_nil he).run pos pins s σ H (fun vs H1 => ∃ v, vs = [v] ∧ spWorth C W [v, .int 0] H1 Q E) I h) ?_) he hpl
  rintro us s1 ⟨vs, H1, I1, r, v, rfl, q⟩
  exact ⟨I1.kIn, run_make mk F (hr.mono hk) b1 rd hx I1 r fun a dx na nd ne => worth_make q a dx na nd ne⟩
end
/-! ### as_worth -/
theorem scAsW : FnScope ["value"] ["value"] (defScope pAsW) := ⟨rfl, rfl, rfl, by decide +kernel, rfl, by decide +kernel, by decide +kernel⟩
/-- a Worth as it is; an integer at the scale 0; anything else refused -/
def spAsW (C W : Addr) : Sp := fun vs H Q E => ∃ x : V, vs = [x] ∧ ((∃ (a : Addr) (u : Int) (s : Nat), x = .ref a ∧ WAt W H a u s ∧ Q (.ref a) H) ∨
  (Thing H x ∧ (Own.isInt x = false → Bad C "value" x H E) ∧ ∀ (u : Int) (a : Addr) (H' : Hp), x = .int u → Same H H' → H a = none → WAt W H' a u 0 → Q (.ref a) H'))
theorem low0 {u u' : Int} {s' : Nat} (h : IsLow u 0 u' s') : u' = u ∧ s' = 0 := by
  have a := h.le
  have z : s' = 0 := by omega
  subst z
  have e := h.eq
  simp at e
  exact ⟨e.symm, rfl⟩
theorem ok_asW (A : At K mg "as_worth" pAsW ["value"]) (B : Blt mg) (T : WorthC K mg W) (I : WIs K W) (M : WMk P w K mg base C W) : DefOk P w K mg base (L2.CX P w) "as_worth" 13 ["value"] (spAsW C W) := by
  refine A.ok fun f fd F => F.okX scAsW (fun vs H Q E h => ?_) (fun cdv A outer s H vs Q E hr h => ?_)
  · obtain ⟨x, rfl, _⟩ := h
    rfl
  · obtain ⟨x, rfl, h⟩ := h
    refine ⟨_, pss_one (ps_ret (pe_ifExp (pt_val (pe_callB call_isi (by rfl) B.isi (by decide +kernel) (pa_cons (pv 0) (pa_cons (pe_glob (v := .ref W) (by rfl) T.g rfl) pa_nil)))) (pv 0)
      (pe_worth1 (E := E) M T hr (by decide) (by rfl) (passes_call (takes_of rfl rfl rfl rfl) fun _ _ _ _ z => z) (pv 0)))), ?_⟩
    rcases h with ⟨a, u, s', rfl, wa, q⟩ | ⟨th, q1, q2⟩
    · obtain ⟨dx, ea⟩ := id wa
      refine ⟨_, rfl, _, _, _, _, true, rfl, .own W, .base (.ins ea T.cls I.ha I.hn I.ht I.hm), by unfold PySem.W.kitOne; rw [if_pos (by simp)], _, rfl, iteT ⟨_, rfl, q⟩⟩
    · obtain ⟨ty, hty, tx⟩ := th.tyx (K := K)
      refine ⟨_, rfl, _, _, _, _, false, rfl, .own W, tx, I.no ty hty, _, rfl, iteF ⟨_, rfl, _, rfl, _, _, rfl, th, .int 0, q1, (fun _ z => absurd z (by decide)), fun u s e1 e2 => ?_⟩⟩
      have e3 : (0 : Int) = (s : Int) := V.int.inj e2
      obtain rfl : s = 0 := by omega
      refine ⟨by decide, fun u' s' a H' lw sm na wa => ?_⟩
      obtain ⟨rfl, rfl⟩ := low0 lw
      exact q2 _ a H' e1 sm na wa
end
end K50

/-! k50: units_at, sign, +. -/
namespace K50
open PySem PySem.Spec PyProof.Rows L2 LamX NdefX Own
section
variable {P : Program} {w : World} {K : PySem.W.Frag} {mg : Str → Option Value} {base : Heap} {C C2 W : Addr}
theorem scUat : FnScope ["self", "scale"] ["self", "scale"] (defScope (wI 14)) := ⟨rfl, rfl, rfl, by decide +kernel, rfl, by decide +kernel, by decide +kernel⟩
/-- units_at, at a scale that the worth has -/
def spUat (W : Addr) : Sp := fun vs H Q _ => ∃ (a : Addr) (u : Int) (s n : Nat), vs = [.ref a, .int n] ∧ WAt W H a u s ∧ s ≤ n ∧ n < 500 ∧ u.natAbs < 2 ^ 90000 ∧ Q (.int (u * (10 : Int) ^ (n - s))) H
theorem lk_u (u : Int) (s : Nat) : (wRow u s).lookup ("units" : Str) = some (.int u) := wLk_u u s
theorem lk_s (u : Int) (s : Nat) : (wRow u s).lookup ("scale" : Str) = some (.int s) := wLk_s u s
theorem ok_uat {f : Addr} {fd : FuncData} (F : Fun K "units_at" "Worth.units_at" (wI 14) f fd) (T : WorthC K mg W) (T2 : ErrC P w K mg base "TooFine" "scale" 1 C2 (spErr C2 "scale")) (D1 : DefOk P w K mg base (L2.CX P w) "need_whole_number" 3 ["value"] (spNWh C)) (D2 : DefOk P w K mg base CX0 "ten_to" 9 ["places"] (spTenTo 8)) :
    FnOk P w K mg base (L2.CX P w) 10 f fd ["self", "scale"] (spUat W) := by
  refine F.okX scUat (fun vs H Q E h => ?_) (fun cdv A outer s0 H vs Q E hr h => ?_)
  · obtain ⟨a, u, s, n, rfl, _⟩ := h
    rfl
  · obtain ⟨a, u, s, n, rfl, ⟨dx, ea⟩, hle, hn, hu, q⟩ := h
    refine ⟨_, pss_cons (ps_expr (pe_def (E := E) D1 hr (by decide) (by rfl) (passes_call (takes_of rfl rfl rfl rfl) fun _ _ _ _ z => z) (pa_cons (pv 1) pa_nil)))
      (pss_cons (ps_if (pt_cmpR op_lt (pv 1) (pe_fld (pv 0) (by rfl)) (nomark _)) (pss_one (ps_raise rfl (takes_of rfl rfl rfl rfl) (pmk_err T2 hr (by decide) (by rfl) (pe_fld (pv 0) (by rfl))))) pss_nil)
      (pss_one (ps_ret (pe_op op_mulW (pe_fld (pv 0) (by rfl)) (pe_def (E := E) D2 hr (by decide) (by rfl) pass0 (pa_cons (pe_op op_sub (pv 1) (pe_fld (pv 0) (by rfl))) pa_nil)))))), ?_⟩
    refine ⟨_, rfl, .int n, rfl, .int _, fun _ => ?_, fun z => ?_⟩
    · refine ⟨_, rfl, _, rfl, a, W, dx, _, .int s, rfl, ea, T.cls, T.ns, lk_s _ _, _, _, rfl, rfl, _, rfl, ite2 (fun e => ?_) (fun e => ?_)⟩
      · have z : (n : Int) < (s : Int) := of_decide_eq_true e
        omega
      · refine ⟨_, rfl, a, W, dx, _, .int u, rfl, ea, T.cls, T.nu, lk_u _ _, _, rfl, _, rfl, a, W, dx, _, .int s, rfl, ea, T.cls, T.ns, lk_s _ _, _, _, rfl, rfl, ?_⟩
        have e2 : (n : Int) - (s : Int) = ((n - s : Nat) : Int) := by omega
        dsimp only
        rw [e2]
        exact ⟨n - s, rfl, by omega, _, _, rfl, rfl, wide_mul hu (ten_lt (n - s)) (by decide) (by omega) (by omega), q⟩
    · have z' : isWh (.int (n : Int)) = true := by
        show decide (0 ≤ (n : Int)) = true
        exact decide_eq_true (by omega)
      rw [z'] at z
      cases z
end
end K50

/-! k50: sums and differences of Worths. -/
namespace K50
open PySem PySem.Spec PyProof.Rows L2 LamX NdefX Own
section
variable {P : Program} {w : World} {K : PySem.W.Frag} {mg : Str → Option Value} {base : Heap} {C C2 W : Addr}
/-- a method by its name -/
structure WMeth (P : Program) (w : World) (K : PySem.W.Frag) (mg : Str → Option Value) (base : Heap) (W : Addr) (m : Str) (k : Nat) (ps : List Str) (sp : Sp) : Prop where
  ex : ∃ (f : Addr) (fd : FuncData), Meth K W m f ∧ FnOk P w K mg base (L2.CX P w) k f fd ps sp ∧ Binds K fd ps []
/-- u units at the scale s, told at the scale n -/
def at_ (u : Int) (s n : Nat) : Int := u * (10 : Int) ^ (n - s)
/-- what a new worth of v units at n is told as -/
def Gives (W : Addr) (H : Hp) (v : Int) (n : Nat) (Q : VK) : Prop := ∀ (u' : Int) (s' : Nat) (p : Addr) (H' : Hp), IsLow v n u' s' → Same H H' → H p = none → WAt W H' p u' s' → Q (.ref p) H'
def Small (u : Int) (s : Nat) : Prop := s < 250 ∧ u.natAbs < 2 ^ 40000
/-- self op other, other a worth, an integer or refused -/
def spBin (C W : Addr) (f : Int → Int → Int) : Sp := fun vs H Q E => ∃ (a : Addr) (u : Int) (s : Nat) (y : V), vs = [.ref a, y] ∧ WAt W H a u s ∧ Small u s ∧
  ((∃ (b : Addr) (u2 : Int) (s2 : Nat), y = .ref b ∧ WAt W H b u2 s2 ∧ Small u2 s2 ∧ Gives W H (f (at_ u s (max s s2)) (at_ u2 s2 (max s s2))) (max s s2) Q) ∨
    (Thing H y ∧ (Own.isInt y = false → Bad C "value" y H E) ∧ ∀ n : Int, y = .int n → Small n 0 ∧ Gives W H (f (at_ u s s) (at_ n 0 s)) s Q))
theorem Gives.same {H H' : Hp} {v : Int} {n : Nat} {Q : VK} (h : Gives W H v n Q) (s : Same H H') : Gives W H' v n Q := fun u' s' p H2 lw s2 np wp => h u' s' p H2 lw (s.trans s2) (s.free np) wp
theorem lk_m {m : Str} (u : Int) (s : Nat) (h1 : (m == "units") = false) (h2 : (m == "scale") = false) (h3 : (m == "floor") = false := by decide +kernel) (h4 : (m == "more") = false := by decide +kernel) : (wRow u s).lookup m = none := wLk_no u s h1 h2 h3 h4
theorem at_lt {u : Int} {s n : Nat} (h : u.natAbs < 2 ^ 40000) (hn : n < 500) : (at_ u s n).natAbs < 2 ^ 50000 := up_two (wide_lt h (ten_lt (n - s))) (by omega)
theorem scAdd : FnScope ["self", "other", "scale"] ["self", "other"] (defScope (wI 4)) := ⟨rfl, rfl, rfl, by decide +kernel, rfl, by decide +kernel, by decide +kernel⟩
theorem max_if (s s2 : Nat) : (if ((s2 : Nat) : Int) > ((s : Nat) : Int) then ((s2 : Nat) : Int) else ((s : Nat) : Int)) = ((max s s2 : Nat) : Int) := by
  by_cases h : s < s2
  · rw [if_pos (by omega)]
    omega
  · rw [if_neg (by omega)]
    omega
theorem ok_add {g : Addr} {fd : FuncData} (F : Fun K "__add__" "Worth.__add__" (wI 4) g fd) (B : Blt mg) (T : WorthC K mg W) (M : WMk P w K mg base C W) (D1 : DefOk P w K mg base (L2.CX P w) "as_worth" 13 ["value"] (spAsW C W)) (D2 : WMeth P w K mg base W "units_at" 10 ["self", "scale"] (spUat W)) :
    FnOk P w K mg base (L2.CX P w) 14 g fd ["self", "other"] (spBin C W (· + ·)) := by
  refine F.okX scAdd (fun vs H Q E h => ?_) (fun cdv A outer s0 H vs Q E hr h => ?_)
  · obtain ⟨a, u, s, y, rfl, _⟩ := h
    rfl
  · obtain ⟨a, u, s, y, rfl, wa, sm, h⟩ := h
    obtain ⟨fU, fdU, mU, FU, bU⟩ := D2.ex
    have nd := scAdd.nd
    refine ⟨_, C8.pss_cut (ps_set (i := 1) nd rfl (.inl rfl) (pe_def (E := E) D1 hr (by decide) (by rfl) (passes_call (takes_of rfl rfl rfl rfl) fun _ _ _ _ z => z) (pa_cons (pv 1) pa_nil)))
      (pss_cons (ps_set (i := 2) nd rfl (.inl rfl) (pe_callB (call_max2 rfl) (by rfl) B.max (by decide +kernel) (pa_cons (pe_fld (pv 0) (by rfl)) (pa_cons (pe_fld (pv 1) (by rfl)) pa_nil))))
      (pss_one (ps_ret (pe_worth (E := E) M T hr (by decide) (by rfl) (passes_call (takes_of rfl rfl rfl rfl) fun _ _ _ _ z => z)
        (pa_cons (pe_op op_add (pe_meth (E := E) (pv 0) T.cls mU FU (hr.mono (by decide)) bU .nil (passes_call (takes_of rfl rfl rfl rfl) fun _ _ _ _ z => z) (pa_cons (pv 2) pa_nil))
          (pe_meth (E := E) (pv 1) T.cls mU FU (hr.mono (by decide)) bU .nil (passes_call (takes_of rfl rfl rfl rfl) fun _ _ _ _ z => z) (pa_cons (pv 2) pa_nil))) (pa_cons (pv 2) pa_nil)))))), ?_⟩
    refine ⟨fun σ H1 => ∃ (b : Addr) (u2 : Int) (s2 : Nat), σ = [some (.ref a), some (.ref b), none] ∧ WAt W H1 a u s ∧ WAt W H1 b u2 s2 ∧ Small u2 s2 ∧ Gives W H1 (at_ u s (max s s2) + at_ u2 s2 (max s s2)) (max s s2) Q, ?_, ?_⟩
    · refine ⟨_, rfl, y, rfl, ?_⟩
      rcases h with ⟨b, u2, s2, rfl, wb, sm2, gv⟩ | ⟨th, bad, hn⟩
      · exact .inl ⟨b, u2, s2, rfl, wb, b, u2, s2, rfl, wa, wb, sm2, gv⟩
      · refine .inr ⟨th, bad, fun n p H' e sm' np wp => ⟨p, n, 0, rfl, wa.same sm', wp, (hn n e).1, ?_⟩⟩
        rw [show max s 0 = s by omega]
        exact (hn n e).2.same sm'
    · rintro σ H1 ⟨b, u2, s2, rfl, ⟨dx, ea⟩, ⟨dy, eb⟩, sm2, gv⟩
      refine ⟨_, rfl, a, W, dx, _, .int s, rfl, ea, T.cls, T.ns, lk_s _ _, _, rfl, b, W, dy, _, .int s2, rfl, eb, T.cls, T.ns, lk_s _ _, _, _, rfl, ?_⟩
      dsimp only [gName, List.set]
      rw [max_if]
      have m1 : max s s2 < 500 := by
        have := sm.1
        have := sm2.1
        omega
      refine ⟨_, rfl, a, dx, _, rfl, ea, lk_m _ _ (by decide +kernel) (by decide +kernel), _, rfl, a, u, s, max s s2, rfl, ⟨dx, ea⟩, by omega, m1, up_two sm.2 (by decide), ?_⟩
      refine ⟨_, rfl, b, dy, _, rfl, eb, lk_m _ _ (by decide +kernel) (by decide +kernel), _, rfl, b, u2, s2, max s s2, rfl, ⟨dy, eb⟩, by omega, m1, up_two sm2.2 (by decide), ?_⟩
      refine ⟨_, _, rfl, rfl, _, rfl, .int _, .int _, rfl, .int _, .int _, (fun z => by cases z), (fun _ z => ?_), fun U S e1 e2 => ?_⟩
      · have z' : isWh (.int ((max s s2 : Nat) : Int)) = true := by
          show decide (0 ≤ ((max s s2 : Nat) : Int)) = true
          exact decide_eq_true (by omega)
        rw [z'] at z
        cases z
      · have e3 : ((max s s2 : Nat) : Int) = (S : Int) := V.int.inj e2
        obtain rfl : S = max s s2 := by omega
        have e4 := V.int.inj e1
        rw [← e4]
        exact ⟨m1, fun u' s' p H' lw sm' np wp => gv u' s' p H' lw sm' np wp⟩
end
end K50

/-! k50: the other operators of Worths. -/
namespace K50
open PySem PySem.Spec PyProof.Rows L2 LamX NdefX Own
section
variable {P : Program} {w : World} {K : PySem.W.Frag} {mg : Str → Option Value} {base : Heap} {C C2 W : Addr}
theorem scSub : FnScope ["self", "other", "scale"] ["self", "other"] (defScope (wI 6)) := ⟨rfl, rfl, rfl, by decide +kernel, rfl, by decide +kernel, by decide +kernel⟩
theorem ok_sub {g : Addr} {fd : FuncData} (F : Fun K "__sub__" "Worth.__sub__" (wI 6) g fd) (B : Blt mg) (T : WorthC K mg W) (M : WMk P w K mg base C W) (D1 : DefOk P w K mg base (L2.CX P w) "as_worth" 13 ["value"] (spAsW C W)) (D2 : WMeth P w K mg base W "units_at" 10 ["self", "scale"] (spUat W)) :
    FnOk P w K mg base (L2.CX P w) 14 g fd ["self", "other"] (spBin C W (· - ·)) := by
  refine F.okX scSub (fun vs H Q E h => ?_) (fun cdv A outer s0 H vs Q E hr h => ?_)
  · obtain ⟨a, u, s, y, rfl, _⟩ := h
    rfl
  · obtain ⟨a, u, s, y, rfl, wa, sm, h⟩ := h
    obtain ⟨fU, fdU, mU, FU, bU⟩ := D2.ex
    have nd := scSub.nd
    refine ⟨_, C8.pss_cut (ps_set (i := 1) nd rfl (.inl rfl) (pe_def (E := E) D1 hr (by decide) (by rfl) (passes_call (takes_of rfl rfl rfl rfl) fun _ _ _ _ z => z) (pa_cons (pv 1) pa_nil)))
      (pss_cons (ps_set (i := 2) nd rfl (.inl rfl) (pe_callB (call_max2 rfl) (by rfl) B.max (by decide +kernel) (pa_cons (pe_fld (pv 0) (by rfl)) (pa_cons (pe_fld (pv 1) (by rfl)) pa_nil))))
      (pss_one (ps_ret (pe_worth (E := E) M T hr (by decide) (by rfl) (passes_call (takes_of rfl rfl rfl rfl) fun _ _ _ _ z => z)
        (pa_cons (pe_op op_sub (pe_meth (E := E) (pv 0) T.cls mU FU (hr.mono (by decide)) bU .nil (passes_call (takes_of rfl rfl rfl rfl) fun _ _ _ _ z => z) (pa_cons (pv 2) pa_nil))
          (pe_meth (E := E) (pv 1) T.cls mU FU (hr.mono (by decide)) bU .nil (passes_call (takes_of rfl rfl rfl rfl) fun _ _ _ _ z => z) (pa_cons (pv 2) pa_nil))) (pa_cons (pv 2) pa_nil)))))), ?_⟩
    refine ⟨fun σ H1 => ∃ (b : Addr) (u2 : Int) (s2 : Nat), σ = [some (.ref a), some (.ref b), none] ∧ WAt W H1 a u s ∧ WAt W H1 b u2 s2 ∧ Small u2 s2 ∧ Gives W H1 (at_ u s (max s s2) - at_ u2 s2 (max s s2)) (max s s2) Q, ?_, ?_⟩
    · refine ⟨_, rfl, y, rfl, ?_⟩
      rcases h with ⟨b, u2, s2, rfl, wb, sm2, gv⟩ | ⟨th, bad, hn⟩
      · exact .inl ⟨b, u2, s2, rfl, wb, b, u2, s2, rfl, wa, wb, sm2, gv⟩
      · refine .inr ⟨th, bad, fun n p H' e sm' np wp => ⟨p, n, 0, rfl, wa.same sm', wp, (hn n e).1, ?_⟩⟩
        rw [show max s 0 = s by omega]
        exact (hn n e).2.same sm'
    · rintro σ H1 ⟨b, u2, s2, rfl, ⟨dx, ea⟩, ⟨dy, eb⟩, sm2, gv⟩
      refine ⟨_, rfl, a, W, dx, _, .int s, rfl, ea, T.cls, T.ns, lk_s _ _, _, rfl, b, W, dy, _, .int s2, rfl, eb, T.cls, T.ns, lk_s _ _, _, _, rfl, ?_⟩
      dsimp only [gName, List.set]
      rw [max_if]
      have m1 : max s s2 < 500 := by
        have := sm.1
        have := sm2.1
        omega
      refine ⟨_, rfl, a, dx, _, rfl, ea, lk_m _ _ (by decide +kernel) (by decide +kernel), _, rfl, a, u, s, max s s2, rfl, ⟨dx, ea⟩, by omega, m1, up_two sm.2 (by decide), ?_⟩
      refine ⟨_, rfl, b, dy, _, rfl, eb, lk_m _ _ (by decide +kernel) (by decide +kernel), _, rfl, b, u2, s2, max s s2, rfl, ⟨dy, eb⟩, by omega, m1, up_two sm2.2 (by decide), ?_⟩
      refine ⟨_, _, rfl, rfl, _, rfl, .int _, .int _, rfl, .int _, .int _, (fun z => by cases z), (fun _ z => ?_), fun U S e1 e2 => ?_⟩
      · have z' : isWh (.int ((max s s2 : Nat) : Int)) = true := by
          show decide (0 ≤ ((max s s2 : Nat) : Int)) = true
          exact decide_eq_true (by omega)
        rw [z'] at z
        cases z
      · have e3 : ((max s s2 : Nat) : Int) = (S : Int) := V.int.inj e2
        obtain rfl : S = max s s2 := by omega
        have e4 := V.int.inj e1
        rw [← e4]
        exact ⟨m1, fun u' s' p H' lw sm' np wp => gv u' s' p H' lw sm' np wp⟩
/-- other op self, other no worth -/
def spRef (C W : Addr) (f : Int → Int → Int) : Sp := fun vs H Q E => ∃ (a : Addr) (u : Int) (s : Nat) (y : V), vs = [.ref a, y] ∧ WAt W H a u s ∧ Small u s ∧ Thing H y ∧ (Own.isInt y = false → Bad C "value" y H E) ∧ ∀ n : Int, y = .int n → Small n 0 ∧ Gives W H (f (at_ n 0 s) (at_ u s s)) s Q
theorem scRadd : FnScope ["self", "other"] ["self", "other"] (defScope (wI 5)) := ⟨rfl, rfl, rfl, by decide +kernel, rfl, by decide +kernel, by decide +kernel⟩
/-- the class's own operator -/
structure WOp (P : Program) (w : World) (K : PySem.W.Frag) (mg : Str → Option Value) (base : Heap) (W : Addr) (op : Operator) (k : Nat) (sp : Sp) : Prop where
  ex : ∃ (f : Addr) (fd : FuncData), PySem.W.selfFirst K W = true ∧ PySem.W.findIn K (.ref W) (PySem.dunder op.info.2) = some (some (.ref f)) ∧ PySem.W.isFn K (.ref f) = true ∧ FnOk P w K mg base (L2.CX P w) k f fd ["self", "other"] sp ∧ Binds K fd ["self", "other"] []
theorem ok_radd {g : Addr} {fd : FuncData} (F : Fun K "__radd__" "Worth.__radd__" (wI 5) g fd) (D1 : DefOk P w K mg base (L2.CX P w) "as_worth" 13 ["value"] (spAsW C W)) (D2 : WOp P w K mg base W .Add 14 (spBin C W (· + ·))) :
    FnOk P w K mg base (L2.CX P w) 15 g fd ["self", "other"] (spRef C W (· + ·)) := by
  refine F.okX scRadd (fun vs H Q E h => ?_) (fun cdv A outer s0 H vs Q E hr h => ?_)
  · obtain ⟨a, u, s, y, rfl, _⟩ := h
    rfl
  · obtain ⟨a, u, s, y, rfl, wa, sm, th, bad, hn⟩ := h
    obtain ⟨fA, fdA, c1, c2, c3, FA, bA⟩ := D2.ex
    refine ⟨_, pss_one (ps_ret (pe_op (op_own (op := .Add) (E := E) FA hr c1 c2 c3 bA (passes_call (takes_of rfl rfl rfl rfl) fun _ _ _ _ z => z)) (pe_def (E := E) D1 hr (by decide) (by rfl) (passes_call (takes_of rfl rfl rfl rfl) fun _ _ _ _ z => z) (pa_cons (pv 1) pa_nil)) (pv 0))), ?_⟩
    refine ⟨_, rfl, y, rfl, .inr ⟨th, bad, fun n p H' e sm' np wp => ?_⟩⟩
    obtain ⟨sn, gv⟩ := hn n e
    obtain ⟨dx, ea⟩ := wa.same sm'
    obtain ⟨dp, ep⟩ := id wp
    refine ⟨_, rfl, p, a, dp, dx, _, _, rfl, rfl, ep, ea, p, n, 0, .ref a, rfl, wp, sn, .inl ⟨a, u, s, rfl, ⟨dx, ea⟩, sm, ?_⟩⟩
    rw [show max 0 s = s by omega]
    exact gv.same sm'
theorem scRsub : FnScope ["self", "other"] ["self", "other"] (defScope (wI 7)) := ⟨rfl, rfl, rfl, by decide +kernel, rfl, by decide +kernel, by decide +kernel⟩
theorem ok_rsub {g : Addr} {fd : FuncData} (F : Fun K "__rsub__" "Worth.__rsub__" (wI 7) g fd) (D1 : DefOk P w K mg base (L2.CX P w) "as_worth" 13 ["value"] (spAsW C W)) (D2 : WOp P w K mg base W .Sub 14 (spBin C W (· - ·))) :
    FnOk P w K mg base (L2.CX P w) 15 g fd ["self", "other"] (spRef C W (· - ·)) := by
  refine F.okX scRsub (fun vs H Q E h => ?_) (fun cdv A outer s0 H vs Q E hr h => ?_)
  · obtain ⟨a, u, s, y, rfl, _⟩ := h
    rfl
  · obtain ⟨a, u, s, y, rfl, wa, sm, th, bad, hn⟩ := h
    obtain ⟨fA, fdA, c1, c2, c3, FA, bA⟩ := D2.ex
    refine ⟨_, pss_one (ps_ret (pe_op (op_own (op := .Sub) (E := E) FA hr c1 c2 c3 bA (passes_call (takes_of rfl rfl rfl rfl) fun _ _ _ _ z => z)) (pe_def (E := E) D1 hr (by decide) (by rfl) (passes_call (takes_of rfl rfl rfl rfl) fun _ _ _ _ z => z) (pa_cons (pv 1) pa_nil)) (pv 0))), ?_⟩
    refine ⟨_, rfl, y, rfl, .inr ⟨th, bad, fun n p H' e sm' np wp => ?_⟩⟩
    obtain ⟨sn, gv⟩ := hn n e
    obtain ⟨dx, ea⟩ := wa.same sm'
    obtain ⟨dp, ep⟩ := id wp
    refine ⟨_, rfl, p, a, dp, dx, _, _, rfl, rfl, ep, ea, p, n, 0, .ref a, rfl, wp, sn, .inl ⟨a, u, s, rfl, ⟨dx, ea⟩, sm, ?_⟩⟩
    rw [show max 0 s = s by omega]
    exact gv.same sm'
end
end K50

/-! k50: products, negatives, sizes, signs, equality of Worths. -/
namespace K50
open PySem PySem.Spec PyProof.Rows L2 LamX NdefX Own
section
variable {P : Program} {w : World} {K : PySem.W.Frag} {mg : Str → Option Value} {base : Heap} {C C2 W : Addr}
theorem isWh_cast (n : Nat) : isWh (.int (n : Int)) = true := by
  show decide (0 ≤ (n : Int)) = true
  exact decide_eq_true (by omega)
/-- a new worth of v units at n -/
theorem worth_of {H : Hp} {v : Int} {n : Nat} {Q : VK} {E : XK} (hn : n < 500) (gv : Gives W H v n Q) : spWorth C W [.int v, .int n] H Q E := by
  refine ⟨.int v, .int n, rfl, .int _, .int _, (fun z => by cases z), (fun _ z => ?_), fun U S e1 e2 => ?_⟩
  · rw [isWh_cast] at z
    cases z
  · have e3 : (n : Int) = (S : Int) := V.int.inj e2
    obtain rfl : S = n := by omega
    rw [← V.int.inj e1]
    exact ⟨hn, gv⟩
theorem scMul : FnScope ["self", "other"] ["self", "other"] (defScope (wI 8)) := ⟨rfl, rfl, rfl, by decide +kernel, rfl, by decide +kernel, by decide +kernel⟩
def spMulW (C W : Addr) : Sp := fun vs H Q E => ∃ (a : Addr) (u : Int) (s : Nat) (y : V), vs = [.ref a, y] ∧ WAt W H a u s ∧ Small u s ∧
  ((∃ (b : Addr) (u2 : Int) (s2 : Nat), y = .ref b ∧ WAt W H b u2 s2 ∧ Small u2 s2 ∧ Gives W H (u * u2) (s + s2) Q) ∨ (Thing H y ∧ (Own.isInt y = false → Bad C "value" y H E) ∧ ∀ n : Int, y = .int n → Small n 0 ∧ Gives W H (u * n) s Q))
theorem ok_mul {g : Addr} {fd : FuncData} (F : Fun K "__mul__" "Worth.__mul__" (wI 8) g fd) (T : WorthC K mg W) (M : WMk P w K mg base C W) (D1 : DefOk P w K mg base (L2.CX P w) "as_worth" 13 ["value"] (spAsW C W)) :
    FnOk P w K mg base (L2.CX P w) 14 g fd ["self", "other"] (spMulW C W) := by
  refine F.okX scMul (fun vs H Q E h => ?_) (fun cdv A outer s0 H vs Q E hr h => ?_)
  · obtain ⟨a, u, s, y, rfl, _⟩ := h
    rfl
  · obtain ⟨a, u, s, y, rfl, wa, sm, h⟩ := h
    have nd := scMul.nd
    refine ⟨_, C8.pss_cut (ps_set (i := 1) nd rfl (.inl rfl) (pe_def (E := E) D1 hr (by decide) (by rfl) (passes_call (takes_of rfl rfl rfl rfl) fun _ _ _ _ z => z) (pa_cons (pv 1) pa_nil)))
      (pss_one (ps_ret (pe_worth (E := E) M T hr (by decide) (by rfl) (passes_call (takes_of rfl rfl rfl rfl) fun _ _ _ _ z => z)
        (pa_cons (pe_op op_mulW (pe_fld (pv 0) (by rfl)) (pe_fld (pv 1) (by rfl))) (pa_cons (pe_op op_add (pe_fld (pv 0) (by rfl)) (pe_fld (pv 1) (by rfl))) pa_nil))))), ?_⟩
    refine ⟨fun σ H1 => ∃ (b : Addr) (u2 : Int) (s2 : Nat), σ = [some (.ref a), some (.ref b)] ∧ WAt W H1 a u s ∧ WAt W H1 b u2 s2 ∧ Small u2 s2 ∧ Gives W H1 (u * u2) (s + s2) Q, ?_, ?_⟩
    · refine ⟨_, rfl, y, rfl, ?_⟩
      rcases h with ⟨b, u2, s2, rfl, wb, sm2, gv⟩ | ⟨th, bad, hn⟩
      · exact .inl ⟨b, u2, s2, rfl, wb, b, u2, s2, rfl, wa, wb, sm2, gv⟩
      · exact .inr ⟨th, bad, fun n p H' e sm' np wp => ⟨p, n, 0, rfl, wa.same sm', wp, (hn n e).1, (hn n e).2.same sm'⟩⟩
    · rintro σ H1 ⟨b, u2, s2, rfl, ⟨dx, ea⟩, ⟨dy, eb⟩, sm2, gv⟩
      refine ⟨_, rfl, a, W, dx, _, .int u, rfl, ea, T.cls, T.nu, lk_u _ _, _, rfl, b, W, dy, _, .int u2, rfl, eb, T.cls, T.nu, lk_u _ _, _, _, rfl, rfl, wide_mul sm.2 sm2.2 (by decide) (by decide) (by decide), ?_⟩
      refine ⟨_, rfl, a, W, dx, _, .int s, rfl, ea, T.cls, T.ns, lk_s _ _, _, rfl, b, W, dy, _, .int s2, rfl, eb, T.cls, T.ns, lk_s _ _, _, _, rfl, rfl, ?_⟩
      have e2 : (s : Int) + (s2 : Int) = ((s + s2 : Nat) : Int) := by omega
      dsimp only
      rw [e2]
      have l1 := sm.1
      have l2 := sm2.1
      exact worth_of (by omega) gv
theorem scRmul : FnScope ["self", "other"] ["self", "other"] (defScope (wI 9)) := ⟨rfl, rfl, rfl, by decide +kernel, rfl, by decide +kernel, by decide +kernel⟩
def spRmul (C W : Addr) : Sp := fun vs H Q E => ∃ (a : Addr) (u : Int) (s : Nat) (y : V), vs = [.ref a, y] ∧ WAt W H a u s ∧ Small u s ∧ Thing H y ∧ (Own.isInt y = false → Bad C "value" y H E) ∧ ∀ n : Int, y = .int n → Small n 0 ∧ Gives W H (n * u) s Q
theorem ok_rmul {g : Addr} {fd : FuncData} (F : Fun K "__rmul__" "Worth.__rmul__" (wI 9) g fd) (D1 : DefOk P w K mg base (L2.CX P w) "as_worth" 13 ["value"] (spAsW C W)) (D2 : WOp P w K mg base W .Mult 14 (spMulW C W)) :
    FnOk P w K mg base (L2.CX P w) 15 g fd ["self", "other"] (spRmul C W) := by
  refine F.okX scRmul (fun vs H Q E h => ?_) (fun cdv A outer s0 H vs Q E hr h => ?_)
  · obtain ⟨a, u, s, y, rfl, _⟩ := h
    rfl
  · obtain ⟨a, u, s, y, rfl, wa, sm, th, bad, hn⟩ := h
    obtain ⟨fA, fdA, c1, c2, c3, FA, bA⟩ := D2.ex
    refine ⟨_, pss_one (ps_ret (pe_op (op_own (op := .Mult) (E := E) FA hr c1 c2 c3 bA (passes_call (takes_of rfl rfl rfl rfl) fun _ _ _ _ z => z)) (pe_def (E := E) D1 hr (by decide) (by rfl) (passes_call (takes_of rfl rfl rfl rfl) fun _ _ _ _ z => z) (pa_cons (pv 1) pa_nil)) (pv 0))), ?_⟩
    refine ⟨_, rfl, y, rfl, .inr ⟨th, bad, fun n p H' e sm' np wp => ?_⟩⟩
    obtain ⟨sn, gv⟩ := hn n e
    obtain ⟨dx, ea⟩ := wa.same sm'
    obtain ⟨dp, ep⟩ := id wp
    refine ⟨_, rfl, p, a, dp, dx, _, _, rfl, rfl, ep, ea, p, n, 0, .ref a, rfl, wp, sn, .inl ⟨a, u, s, rfl, ⟨dx, ea⟩, sm, ?_⟩⟩
    rw [show 0 + s = s by omega]
    exact gv.same sm'
theorem scNeg : FnScope ["self"] ["self"] (defScope (wI 10)) := ⟨rfl, rfl, rfl, by decide +kernel, rfl, by decide +kernel, by decide +kernel⟩
def spUn (W : Addr) (f : Int → Int) : Sp := fun vs H Q _ => ∃ (a : Addr) (u : Int) (s : Nat), vs = [.ref a] ∧ WAt W H a u s ∧ Small u s ∧ Gives W H (f u) s Q
theorem ok_neg {g : Addr} {fd : FuncData} (F : Fun K "__neg__" "Worth.__neg__" (wI 10) g fd) (T : WorthC K mg W) (M : WMk P w K mg base C W) : FnOk P w K mg base (L2.CX P w) 13 g fd ["self"] (spUn W fun u => -u) := by
  refine F.okX scNeg (fun vs H Q E h => ?_) (fun cdv A outer s0 H vs Q E hr h => ?_)
  · obtain ⟨a, u, s, rfl, _⟩ := h
    rfl
  · obtain ⟨a, u, s, rfl, ⟨dx, ea⟩, sm, gv⟩ := h
    refine ⟨_, pss_one (ps_ret (pe_worth (E := E) M T hr (by decide) (by rfl) (passes_call (takes_of rfl rfl rfl rfl) fun _ _ _ _ z => z) (pa_cons (pe_un un_neg (pe_fld (pv 0) (by rfl))) (pa_cons (pe_fld (pv 0) (by rfl)) pa_nil)))), ?_⟩
    refine ⟨_, rfl, a, W, dx, _, .int u, rfl, ea, T.cls, T.nu, lk_u _ _, u, rfl, _, rfl, a, W, dx, _, .int s, rfl, ea, T.cls, T.ns, lk_s _ _, ?_⟩
    have l1 := sm.1
    exact worth_of (by omega) gv
theorem scAbs : FnScope ["self"] ["self"] (defScope (wI 11)) := ⟨rfl, rfl, rfl, by decide +kernel, rfl, by decide +kernel, by decide +kernel⟩
theorem ok_abs {g : Addr} {fd : FuncData} (F : Fun K "__abs__" "Worth.__abs__" (wI 11) g fd) (B : Blt mg) (T : WorthC K mg W) (M : WMk P w K mg base C W) : FnOk P w K mg base (L2.CX P w) 13 g fd ["self"] (spUn W fun u => if u < 0 then -u else u) := by
  refine F.okX scAbs (fun vs H Q E h => ?_) (fun cdv A outer s0 H vs Q E hr h => ?_)
  · obtain ⟨a, u, s, rfl, _⟩ := h
    rfl
  · obtain ⟨a, u, s, rfl, ⟨dx, ea⟩, sm, gv⟩ := h
    refine ⟨_, pss_one (ps_ret (pe_worth (E := E) M T hr (by decide) (by rfl) (passes_call (takes_of rfl rfl rfl rfl) fun _ _ _ _ z => z) (pa_cons (pe_callB call_abs (by rfl) B.abs (by decide +kernel) (pa_cons (pe_fld (pv 0) (by rfl)) pa_nil)) (pa_cons (pe_fld (pv 0) (by rfl)) pa_nil)))), ?_⟩
    refine ⟨_, rfl, a, W, dx, _, .int u, rfl, ea, T.cls, T.nu, lk_u _ _, u, rfl, _, rfl, a, W, dx, _, .int s, rfl, ea, T.cls, T.ns, lk_s _ _, ?_⟩
    have l1 := sm.1
    exact worth_of (by omega) gv
theorem scSgn : FnScope ["self"] ["self"] (defScope (wI 13)) := ⟨rfl, rfl, rfl, by decide +kernel, rfl, by decide +kernel, by decide +kernel⟩
def sgn (u : Int) : Int := if u = 0 then 0 else if 0 < u then 1 else -1
def spSgn (W : Addr) : Sp := fun vs H Q _ => ∃ (a : Addr) (u : Int) (s : Nat), vs = [.ref a] ∧ WAt W H a u s ∧ Q (.int (sgn u)) H
theorem ok_sgn {g : Addr} {fd : FuncData} (F : Fun K "sign" "Worth.sign" (wI 13) g fd) (T : WorthC K mg W) : FnOk P w K mg base (L2.CX P w) 1 g fd ["self"] (spSgn W) := by
  refine F.okX scSgn (fun vs H Q E h => ?_) (fun cdv A outer s0 H vs Q E hr h => ?_)
  · obtain ⟨a, u, s, rfl, _⟩ := h
    rfl
  · obtain ⟨a, u, s, rfl, ⟨dx, ea⟩, q⟩ := h
    refine ⟨_, pss_cons (ps_if (pt_cmpR op_eq (pe_fld (pv 0) (by rfl)) pe_int (nomark _)) (pss_one (ps_ret pe_int)) pss_nil)
      (pss_one (ps_ret (pe_ifExp (pt_cmpR op_gt (pe_fld (pv 0) (by rfl)) pe_int (nomark _)) pe_int (pe_un un_neg pe_int)))), ?_⟩
    unfold sgn at q
    refine ⟨_, rfl, a, W, dx, _, .int u, rfl, ea, T.cls, T.nu, lk_u _ _, rfl, _, rfl, ite2 (fun e => ?_) (fun e => ?_)⟩
    · have h0 : u = 0 := by simpa using e
      rw [if_pos h0] at q
      exact q
    · have h0 : u ≠ 0 := by simpa using e
      rw [if_neg h0] at q
      refine ⟨_, rfl, a, W, dx, _, .int u, rfl, ea, T.cls, T.nu, lk_u _ _, _, _, rfl, rfl, _, rfl, ite2 (fun e => ?_) (fun e => ?_)⟩
      · rw [if_pos (of_decide_eq_true e)] at q
        exact q
      · rw [if_neg (fun z => e (decide_eq_true z))] at q
        exact ⟨_, rfl, q⟩
end
end K50

/-! k50: == of Worths, compare. -/
namespace K50
open PySem PySem.Spec PyProof.Rows L2 LamX NdefX Own
abbrev pNeedW : Stmt := topS 19
section
variable {P : Program} {w : World} {K : PySem.W.Frag} {mg : Str → Option Value} {base : Heap} {C C2 W : Addr}
theorem scEq : FnScope ["self", "other"] ["self", "other"] (defScope (wI 1)) := ⟨rfl, rfl, rfl, by decide +kernel, rfl, by decide +kernel, by decide +kernel⟩
def spEqW (W : Addr) : Sp := fun vs H Q _ => ∃ (a : Addr) (u : Int) (s : Nat) (y : V), vs = [.ref a, y] ∧ WAt W H a u s ∧ ((∃ (b : Addr) (u2 : Int) (s2 : Nat), y = .ref b ∧ WAt W H b u2 s2 ∧ ∀ H', Same H H' → Q (.bl (decide (u = u2) && decide (s = s2))) H') ∨ (Thing H y ∧ Q (.bl false) H))
theorem ok_eq {g : Addr} {fd : FuncData} (F : Fun K "__eq__" "Worth.__eq__" (wI 1) g fd) (B : Blt mg) (T : WorthC K mg W) (I : WIs K W) : FnOk P w K mg base (L2.CX P w) 1 g fd ["self", "other"] (spEqW W) := by
  refine F.okX scEq (fun vs H Q E h => ?_) (fun cdv A outer s0 H vs Q E hr h => ?_)
  · obtain ⟨a, u, s, y, rfl, _⟩ := h
    rfl
  · obtain ⟨a, u, s, y, rfl, ⟨dx, ea⟩, h⟩ := h
    refine ⟨_, pss_cons (ps_if (pt_not (pt_val (pe_callB call_isi (by rfl) B.isi (by decide +kernel) (pa_cons (pv 1) (pa_cons (pe_glob (v := .ref W) (by rfl) T.g rfl) pa_nil))))) (pss_one (ps_ret pe_bl)) pss_nil)
      (pss_one (ps_ret (pe_cmpR (op_eqD hr.units) (pe_tup (pa_cons (pe_fld (pv 0) (by rfl)) (pa_cons (pe_fld (pv 0) (by rfl)) pa_nil))) (pe_tup (pa_cons (pe_fld (pv 1) (by rfl)) (pa_cons (pe_fld (pv 1) (by rfl)) pa_nil))) (nomark _)))), ?_⟩
    rcases h with ⟨b, u2, s2, rfl, ⟨dy, eb⟩, q⟩ | ⟨th, q⟩
    · refine ⟨_, rfl, _, _, _, _, true, rfl, .own W, .base (.ins eb T.cls I.ha I.hn I.ht I.hm), by unfold PySem.W.kitOne; rw [if_pos (by simp)], _, rfl, iteF ?_⟩
      refine ⟨_, rfl, a, W, dx, _, .int (wFl u s), rfl, ea, T.cls, T.nf, wLk_f u s, _, rfl, a, W, dx, _, .str (wMo u s), rfl, ea, T.cls, T.nm, wLk_m u s, by show 2 ≤ sizeLine; decide, fun p np => ?_⟩
      have s1 := same_new (o := HO.tup [.int (wFl u s), .str (wMo u s)]) np
      have e1 : upd H p (.tup [.int (wFl u s), .str (wMo u s)]) p = some (.tup [.int (wFl u s), .str (wMo u s)]) := upd_same
      generalize upd H p (.tup [.int (wFl u s), .str (wMo u s)]) = H1 at s1 e1 ⊢
      have eb1 := s1 _ _ eb
      refine ⟨_, rfl, b, W, dy, _, .int (wFl u2 s2), rfl, eb1, T.cls, T.nf, wLk_f u2 s2, _, rfl, b, W, dy, _, .str (wMo u2 s2), rfl, eb1, T.cls, T.nm, wLk_m u2 s2, by show 2 ≤ sizeLine; decide, fun p2 np2 => ?_⟩
      have s2' := same_new (o := HO.tup [.int (wFl u2 s2), .str (wMo u2 s2)]) np2
      refine ⟨_, _, w_dp (s2' _ _ e1), w_dp upd_same, w_sh u s, w_sh u2 s2, ?_⟩
      rw [w_eqv]
      exact q _ (s1.trans s2')
    · obtain ⟨ty, hty, tx⟩ := th.tyx (K := K)
      exact ⟨_, rfl, _, _, _, _, false, rfl, .own W, tx, I.no ty hty, _, rfl, iteT q⟩
theorem scNeedW : FnScope ["value"] ["value"] (defScope pNeedW) := ⟨rfl, rfl, rfl, by decide +kernel, rfl, by decide +kernel, by decide +kernel⟩
def spNeedW (C W : Addr) : Sp := fun vs H Q E => ∃ x : V, vs = [x] ∧ ((∃ (a : Addr) (u : Int) (s : Nat), x = .ref a ∧ WAt W H a u s ∧ Q .non H) ∨ (Thing H x ∧ Bad C "value" x H E))
theorem ok_needW (A : At K mg "need_worth" pNeedW ["value"]) (B : Blt mg) (T : WorthC K mg W) (I : WIs K W) (TE : ErrC P w K mg base "BadValue" "value" 1 C (spErr C "value")) : DefOk P w K mg base (L2.CX P w) "need_worth" 3 ["value"] (spNeedW C W) := by
  refine A.ok fun f fd F => F.okX scNeedW (fun vs H Q E h => ?_) (fun cdv A outer s H vs Q E hr h => ?_)
  · obtain ⟨x, rfl, _⟩ := h
    rfl
  · obtain ⟨x, rfl, h⟩ := h
    refine ⟨_, pss_one (ps_if (pt_not (pt_val (pe_callB call_isi (by rfl) B.isi (by decide +kernel) (pa_cons (pv 0) (pa_cons (pe_glob (v := .ref W) (by rfl) T.g rfl) pa_nil))))) (pss_one (ps_raise rfl (takes_of rfl rfl rfl rfl) (pmk_err TE hr (by decide) (by rfl) (pv 0)))) pss_nil), ?_⟩
    rcases h with ⟨a, u, s', rfl, ⟨dx, ea⟩, q⟩ | ⟨th, bad⟩
    · exact ⟨_, rfl, _, _, _, _, true, rfl, .own W, .base (.ins ea T.cls I.ha I.hn I.ht I.hm), by unfold PySem.W.kitOne; rw [if_pos (by simp)], _, rfl, iteF q⟩
    · obtain ⟨ty, hty, tx⟩ := th.tyx (K := K)
      exact ⟨_, rfl, _, _, _, _, false, rfl, .own W, tx, I.no ty hty, _, rfl, iteT ⟨_, rfl, bad_mk bad⟩⟩
theorem sgn_mul {u : Int} {n : Nat} : sgn (u * (10 : Int) ^ n) = sgn u := by
  have p := ten_pos n
  unfold sgn
  by_cases h : u = 0
  · subst h
    simp
  · have h1 : u * (10 : Int) ^ n ≠ 0 := Int.mul_ne_zero h (by omega)
    rw [if_neg h, if_neg h1]
    by_cases h2 : 0 < u
    · rw [if_pos h2, if_pos (Int.mul_pos h2 p)]
    · have h3 : u * (10 : Int) ^ n < 0 := Int.mul_neg_of_neg_of_pos (by omega) p
      rw [if_neg h2, if_neg (by omega)]
end
end K50

/-! k50: the program's ways. -/
namespace K50
open PySem PySem.Spec PyProof.Rows L2 LamX NdefX Own
abbrev sNWay : Stmt := topS 23
abbrev sGoes : Stmt := topS 25
abbrev sNear : Stmt := topS 24
abbrev sWays : Stmt := topS 55
/-- what the walk asks of the top: the names of built-ins are free; the tables -/
structure Tx8 (P : Program) (w : World) (K : PySem.W.Frag) (mg : Str → Option Value) (base : Heap) (C aW aH : Addr) (eH : Array DictEntry) (nH : Nat) : Prop where
  isi : mg "isinstance" = none
  int : mg "int" = none
  bool : mg "bool" = none
  len : mg "len" = none
  list : mg "list" = none
  range : mg "range" = none
  tuple : mg "tuple" = none
  all : mg "all" = none
  dm : mg "divmod" = none
  err : ErrC P w K mg base "BadValue" "value" 1 C (spErr C "value")
  gW : mg "WAYS" = some (.ref aW)
  ways : ∀ H : Hp, SqT K H aW (waysL.map V.str)
  gH : mg "HALVES" = some (.ref aH)
  dH : KDict K w aH eH nH
  halv : ∀ z ∈ waysL, KGet K aH z ((halvL.lookup z).map V.str)
section
variable {P : Program} {w : World} {K : PySem.W.Frag} {mg : Str → Option Value} {base : Heap} {C aW aH : Addr} {eH : Array DictEntry} {nH : Nat}
theorem scNWay : FnScope ["value"] ["value"] (defScope sNWay) := ⟨rfl, rfl, rfl, by decide +kernel, rfl, by decide +kernel, by decide +kernel⟩
def spNWay (C : Addr) : Sp := fun vs H Q E => ∃ x : V, vs = [x] ∧ Thing H x ∧ (isWay x = true → Q .non H) ∧ (isWay x = false → Bad C "value" x H E)
theorem ok_nWay (A : At K mg "need_way" sNWay ["value"]) (T : Tx8 P w K mg base C aW aH eH nH) : DefOk P w K mg base (L2.CX P w) "need_way" 3 ["value"] (spNWay C) := by
  refine A.ok fun f fd F => F.okX scNWay (fun vs H Q E h => ?_) (fun cdv A outer s H vs Q E hr h => ?_)
  · obtain ⟨x, rfl, _⟩ := h
    rfl
  · obtain ⟨x, rfl, th, q1, q2⟩ := h
    refine ⟨_, pss_one (ps_if (pt_cmpR (OpR.or op_notIn_seq (op_notInW (hu_of hr))) (pv 0) (pe_glob (v := .ref aW) (by rfl) T.gW rfl) (by rfl)) (pss_one (ps_raise rfl (takes_of rfl rfl rfl rfl) (pmk_err T.err hr (by decide) (by rfl) (pv 0)))) pss_nil), ?_⟩
    rcases th.noTxt with nt | ⟨z, rfl⟩
    · have hw : isWay x = false := by cases nt <;> rfl
      exact ⟨_, rfl, .inr ⟨aW, waysL, rfl, T.ways H, nt, _, rfl, iteT ⟨_, rfl, bad_mk (q2 hw)⟩⟩⟩
    · refine ⟨_, rfl, .inl ⟨aW, _, rfl, .inr (T.ways H), rfl, by decide +kernel, _, rfl, ?_⟩⟩
      have e : inV (.str z) (waysL.map V.str) = decide (z ∈ waysL) := by
        unfold inV
        rw [List.any_map]
        have : ∀ l : List Str, (l.any ((fun y => eqV y (.str z)) ∘ V.str)) = decide (z ∈ l) := by
          intro l
          induction l with
          | nil => rfl
          | cons a r ih =>
            rw [List.any_cons, ih]
            show (a == z || decide (z ∈ r)) = decide (z ∈ a :: r)
            by_cases h : a = z
            · subst h
              simp
            · have h' : ¬ z = a := fun e => h e.symm
              simp [h, h']
        exact this waysL
      show if (if true = true then !inV (.str z) (waysL.map V.str) else inV (.str z) (waysL.map V.str)) = true then _ else _
      rw [if_pos rfl, e]
      refine ite2 (fun e => ?_) (fun e => ?_)
      · exact ⟨_, rfl, bad_mk (q2 (by simpa [isWay] using e))⟩
      · exact q1 (by simpa [isWay] using e)
theorem scGoes : FnScope ["way", "below", "past_half"] ["way", "below", "past_half"] (defScope sGoes) := ⟨rfl, rfl, rfl, by decide +kernel, rfl, by decide +kernel, by decide +kernel⟩
def spGoes : Sp := fun vs H Q _ => ∃ (z : Str) (b p : Int), vs = [.str z, .int b, .int p] ∧ z ∈ waysL ∧ Q (.bl (goesUp z b p)) H
theorem ok_goes (A : At K mg "_goes_up" sGoes ["way", "below", "past_half"]) (T : Tx8 P w K mg base C aW aH eH nH) : DefOk P w K mg base CX0 "_goes_up" 1 ["way", "below", "past_half"] spGoes := by
  refine A.ok fun f fd F => F.ok scGoes (fun vs H Q E h => ?_) (fun cdv A outer s H vs Q E hr h => ?_)
  · obtain ⟨z, b, p, rfl, _⟩ := h
    rfl
  · obtain ⟨z, b, p, rfl, hz, q⟩ := h
    have nd := scGoes.nd
    refine ⟨_, C8.pss_cut (ps_if (pt_cmpR (op_in_kd T.dH) (pv 0) (pe_glob (v := .ref aH) (by rfl) T.gH rfl) (by rfl))
        (pss_cons (ps_if (pt_cmpR op_ne (pv 2) pe_int (nomark _)) (pss_one (ps_ret (pe_cmpR op_gt (pv 2) pe_int (nomark _)))) pss_nil)
        (pss_one (ps_set (i := 0) nd rfl (.inl rfl) (pe_ix ix_kdict (pe_glob (v := .ref aH) (by rfl) T.gH rfl) (pv 0) (fun _ _ => rfl))))) pss_nil)
      (pss_cons (ps_if (pt_cmpR op_eq (pv 0) pe_str (nomark _)) (pss_one (ps_ret (pe_cmpR op_eq (pe_op op_mod (pv 1) pe_int) pe_int (nomark _)))) pss_nil)
      (pss_cons (ps_if (pt_cmpR op_eq (pv 0) pe_str (nomark _)) (pss_one (ps_ret (pe_cmpR op_lt (pv 1) pe_int (nomark _)))) pss_nil)
      (pss_cons (ps_if (pt_cmpR op_eq (pv 0) pe_str (nomark _)) (pss_one (ps_ret (pe_cmpR op_ge (pv 1) pe_int (nomark _)))) pss_nil)
      (pss_one (ps_ret (pe_cmpR op_eq (pv 0) pe_str (nomark _))))))), ?_⟩
    -- what a way says that is none of the nearer ones
    have tail : ∀ y : Str, (if y = "even" then (decide (V.int (b % 2) = V.int 1)) else if y = "cut" then decide (b < 0) else if y = "away" then decide (0 ≤ b) else decide (V.str y = V.str "ceiling")) = baseUp y b := fun y => by
      unfold baseUp
      rw [Own.dec_int, Own.dec_str]
    refine ⟨fun σ H' => ∃ y : Str, σ = [some (.str y), some (.int b), some (.int p)] ∧ H' = H ∧ baseUp y b = goesUp z b p, ?_, ?_⟩
    · obtain ⟨ro, hk, hr'⟩ := T.halv z hz
      refine ⟨_, rfl, z, ro, rfl, rfl, hk, _, rfl, ?_⟩
      cases hl : halvL.lookup z with
      | none =>
        rw [hl] at hr'
        have e : ro = none := by
          cases ro with
          | none => rfl
          | some u => exact hr'.elim
        subst e
        refine iteF ⟨z, rfl, rfl, ?_⟩
        unfold goesUp
        rw [hl]
      | some y =>
        rw [hl] at hr'
        obtain ⟨u, rfl⟩ : ∃ u, ro = some u := by
          cases ro with
          | none => exact hr'.elim
          | some u => exact ⟨u, rfl⟩
        refine iteT ?_
        refine ⟨_, rfl, rfl, _, rfl, ite2 (fun e => ?_) (fun e => ?_)⟩
        · have hp : p ≠ 0 := by simpa using e
          refine ⟨_, rfl, _, _, rfl, rfl, ?_⟩
          have g : goesUp z b p = decide (0 < p) := by
            unfold goesUp
            rw [hl]
            exact if_neg hp
          show Q (.bl (decide (0 < p))) H
          rw [← g]
          exact q
        · have hp : p = 0 := by simpa using e
          refine ⟨_, rfl, aH, z, .str y, rfl, rfl, ⟨eH, nH, u, T.dH.at_, T.dH.lit, hk, hr'⟩, y, rfl, rfl, ?_⟩
          unfold goesUp
          rw [hl]
          exact (if_pos hp).symm
    · rintro σ H' ⟨y, rfl, rfl, hy⟩
      rw [← hy, ← tail y] at q
      refine ⟨_, rfl, rfl, _, rfl, ite2 (fun e => ?_) (fun e => ?_)⟩
      · have e' : y = "even" := V.str.inj (of_decide_eq_true e)
        rw [if_pos e'] at q
        exact ⟨_, rfl, _, _, rfl, rfl, (show (0 : Int) < 2 by decide), rfl, q⟩
      · have e' : ¬ y = "even" := fun z => e (by rw [z]; simp)
        rw [if_neg e'] at q
        refine ⟨_, rfl, rfl, _, rfl, ite2 (fun e => ?_) (fun e => ?_)⟩
        · have e' : y = "cut" := V.str.inj (of_decide_eq_true e)
          rw [if_pos e'] at q
          exact ⟨_, rfl, _, _, rfl, rfl, q⟩
        · have e' : ¬ y = "cut" := fun z => e (by rw [z]; simp)
          rw [if_neg e'] at q
          refine ⟨_, rfl, rfl, _, rfl, ite2 (fun e => ?_) (fun e => ?_)⟩
          · have e' : y = "away" := V.str.inj (of_decide_eq_true e)
            rw [if_pos e'] at q
            exact ⟨_, rfl, _, _, rfl, rfl, q⟩
          · have e' : ¬ y = "away" := fun z => e (by rw [z]; simp)
            rw [if_neg e'] at q
            exact ⟨_, rfl, rfl, q⟩
theorem scNear : FnScope ["number", "divisor", "way", "below", "left"] ["number", "divisor", "way"] (defScope sNear) := ⟨rfl, rfl, rfl, by decide +kernel, rfl, by decide +kernel, by decide +kernel⟩
def spNear : Sp := fun vs H Q _ => ∃ (n d : Int) (z : Str), vs = [.int n, .int d, .str z] ∧ 0 < d ∧ d.natAbs < 2 ^ 1000 ∧ z ∈ waysL ∧ ∀ H', Same H H' → Q (.int (near n d z)) H'
theorem ok_near (A : At K mg "nearest_units" sNear ["number", "divisor", "way"]) (T : Tx8 P w K mg base C aW aH eH nH) (D : DefOk P w K mg base CX0 "_goes_up" 1 ["way", "below", "past_half"] spGoes) : DefOk P w K mg base CX0 "nearest_units" 2 ["number", "divisor", "way"] spNear := by
  refine A.ok fun f fd F => F.ok scNear (fun vs H Q E h => ?_) (fun cdv A outer s H vs Q E hr h => ?_)
  · obtain ⟨n, d, z, rfl, _⟩ := h
    rfl
  · obtain ⟨n, d, z, rfl, h0, hb, hz, q⟩ := h
    have nd := scNear.nd
    refine ⟨_, pss_cons (ps_asg (pe_callB call_divmodW (by rfl) T.dm (by decide +kernel) (pa_cons (pv 0) (pa_cons (pv 1) pa_nil))) (pg_tup rfl (pgs_cons (pg_name (i := 3) nd rfl (.inl rfl)) (pgs_cons (pg_name (i := 4) nd rfl (.inl rfl)) pgs_nil))))
      (pss_cons (ps_if (PW.pt (pw_and (pt_cmpR op_ne (pv 4) pe_int (nomark _)) (pw_and1 (pt_val (pe_def D hr (by decide) (by rfl) pass0 (pa_cons (pv 2) (pa_cons (pv 3) (pa_cons (pe_op op_sub (pe_op op_mul pe_int (pv 4)) (pv 1)) pa_nil))))))))
        (pss_one (ps_ret (pe_op op_add (pv 3) pe_int))) pss_nil)
      (pss_one (ps_ret (pv 3)))), ?_⟩
    refine ⟨_, rfl, _, rfl, n, d, rfl, dm_ok h0 hb, fun p hp => ?_⟩
    have sm : Same H (upd H p (.tup [.int (n / d), .int (n % d)])) := same_new hp
    refine ⟨p, _, rfl, SqT.of upd_same, rfl, _, _, rfl, _, _, rfl, rfl, ?_⟩
    refine ⟨_, rfl, rfl, _, rfl, ite2 (fun e => ?_) (fun e => ?_)⟩
    · have hne : n % d ≠ 0 := by simpa using e
      refine ⟨_, rfl, _, rfl, _, rfl, _, _, rfl, rfl, .inl ⟨by decide, by decide⟩, _, rfl, _, _, rfl, rfl, z, _, _, rfl, hz, _, rfl, ite2 (fun e => ?_) (fun e => ?_)⟩
      · refine ⟨_, rfl, _, _, rfl, rfl, ?_⟩
        have r : near n d z = n / d + 1 := by
          unfold near
          rw [if_neg hne, if_pos e]
        have q' := q _ sm
        rw [r] at q'
        exact q'
      · refine ⟨_, rfl, ?_⟩
        have r : near n d z = n / d := by
          unfold near
          rw [if_neg hne, if_neg e]
        have q' := q _ sm
        rw [r] at q'
        exact q'
    · have he : n % d = 0 := by simpa using e
      refine iteF ⟨_, rfl, ?_⟩
      have r : near n d z = n / d := by
        unfold near
        rw [if_pos he]
      have q' := q _ sm
      rw [r] at q'
      exact q'
theorem scWays : FnScope [] [] (defScope sWays) := ⟨rfl, rfl, rfl, by decide +kernel, rfl, by decide +kernel, by decide +kernel⟩
def spWays : Sp := fun vs H Q _ => vs = [] ∧ ∀ p, H p = none → Q (.ref p) (upd H p (.lst (waysL.map V.str)))
theorem ok_ways (A : At K mg "_law_ways" sWays []) : DefOk P w K mg base CX0 "_law_ways" 1 [] spWays := by
  refine A.ok fun f fd F => F.ok scWays (fun vs H Q E h => by rw [h.1] <;> rfl) (fun cdv A outer s H vs Q E hr h => ?_)
  obtain ⟨rfl, q⟩ := h
  refine ⟨_, pss_one (ps_ret (pe_lst (pa_cons pe_str (pa_cons pe_str (pa_cons pe_str (pa_cons pe_str (pa_cons pe_str (pa_cons pe_str (pa_cons pe_str (pa_cons pe_str (pa_cons pe_str pa_nil))))))))))), ?_⟩
  exact ⟨by show 9 ≤ sizeLine; decide, q⟩
end
end K50

/-! k50: rounded, rounded_quotient. -/
namespace K50
open PySem PySem.Spec PyProof.Rows L2 LamX NdefX Own
abbrev pRnd : Stmt := topS 26
/-- u units at s, rounded to n by t: how many units at n -/
def rnd (u : Int) (s n : Nat) (t : Str) : Int := if s ≤ n then u * (10 : Int) ^ (n - s) else near u ((10 : Int) ^ (s - n)) t
def absI (u : Int) : Int := if u < 0 then -u else u
def quo (u1 : Int) (s1 : Nat) (u2 : Int) (s2 n : Nat) (t : Str) : Int := near (u1 * sgn u2 * (10 : Int) ^ (n + s2 - s1)) (absI u2 * (10 : Int) ^ (s1 - (n + s2))) t
section
variable {P : Program} {w : World} {K : PySem.W.Frag} {mg : Str → Option Value} {base : Heap} {C CN W : Addr}
theorem scRnd : FnScope ["worth", "scale", "way"] ["worth", "scale", "way"] (defScope pRnd) := ⟨rfl, rfl, rfl, by decide +kernel, rfl, by decide +kernel, by decide +kernel⟩
/-- what comes of a new or old worth of v units at n -/
def Comes (W : Addr) (H : Hp) (v : Int) (n : Nat) (Q : VK) : Prop := ∀ (p : Addr) (u' : Int) (s' : Nat) (H' : Hp), Same H H' → WAt W H' p u' s' → IsLow v n u' s' → Q (.ref p) H'
def spRnd (C W : Addr) : Sp := fun vs H Q E => ∃ x y z : V, vs = [x, y, z] ∧ ((Thing H x ∧ Bad C "value" x H E) ∨ ∃ (a : Addr) (u : Int) (s : Nat), x = .ref a ∧ WAt W H a u s ∧ s ≤ 240 ∧ (s = 0 ∨ u % 10 ≠ 0) ∧
  ((Thing H y ∧ isWh y = false ∧ Bad C "value" y H E) ∨ ∃ n : Nat, y = .int n ∧ n < 500 ∧ ((Thing H z ∧ isWay z = false ∧ Bad C "value" z H E) ∨ ∃ t ∈ waysL, z = .str t ∧ Comes W H (rnd u s n t) n Q)))
theorem isWh_no {n : Nat} {p : Prop} (z : isWh (.int (n : Int)) = false) : p := by
  rw [isWh_cast] at z
  cases z
theorem isWay_ok {t : Str} (ht : t ∈ waysL) : isWay (.str t) = true := decide_eq_true ht
theorem ok_rnd (A : At K mg "rounded" pRnd ["worth", "scale", "way"]) (T : WorthC K mg W) (M : WMk P w K mg base C W) (D1 : DefOk P w K mg base (L2.CX P w) "need_worth" 3 ["value"] (spNeedW C W)) (D2 : DefOk P w K mg base (L2.CX P w) "need_whole_number" 3 ["value"] (spNWh C))
    (D3 : DefOk P w K mg base (L2.CX P w) "need_way" 3 ["value"] (spNWay C)) (D4 : DefOk P w K mg base CX0 "ten_to" 9 ["places"] (spTenTo 8)) (D5 : DefOk P w K mg base CX0 "nearest_units" 2 ["number", "divisor", "way"] spNear) :
    DefOk P w K mg base (L2.CX P w) "rounded" 13 ["worth", "scale", "way"] (spRnd C W) := by
  refine A.ok fun f fd F => F.okX scRnd (fun vs H Q E h => ?_) (fun cdv A outer s0 H vs Q E hr h => ?_)
  · obtain ⟨x, y, z, rfl, _⟩ := h
    rfl
  · obtain ⟨x, y, z, rfl, h⟩ := h
    refine ⟨_, pss_cons (ps_expr (pe_def (E := E) D1 hr (by decide) (by rfl) (passes_call (takes_of rfl rfl rfl rfl) fun _ _ _ _ z => z) (pa_cons (pv 0) pa_nil)))
      (pss_cons (ps_expr (pe_def (E := E) D2 hr (by decide) (by rfl) (passes_call (takes_of rfl rfl rfl rfl) fun _ _ _ _ z => z) (pa_cons (pv 1) pa_nil)))
      (pss_cons (ps_expr (pe_def (E := E) D3 hr (by decide) (by rfl) (passes_call (takes_of rfl rfl rfl rfl) fun _ _ _ _ z => z) (pa_cons (pv 2) pa_nil)))
      (pss_cons (ps_if (pt_cmpR op_le (pe_fld (pv 0) (by rfl)) (pv 1) (nomark _)) (pss_one (ps_ret (pv 0))) pss_nil)
      (pss_one (ps_ret (pe_worth (C := C) (E := E) M T hr (by decide) (by rfl) (passes_call (takes_of rfl rfl rfl rfl) fun _ _ _ _ z => z) (pa_cons (pe_def D5 hr (by decide) (by rfl) pass0 (pa_cons (pe_fld (pv 0) (by rfl)) (pa_cons (pe_def D4 hr (by decide) (by rfl) pass0 (pa_cons (pe_op op_sub (pe_fld (pv 0) (by rfl)) (pv 1)) pa_nil)) (pa_cons (pv 2) pa_nil)))) (pa_cons (pv 1) pa_nil)))))))), ?_⟩
    rcases h with ⟨th, bad⟩ | ⟨a, u, s, rfl, wa, hs, ow, h⟩
    · exact ⟨_, rfl, x, rfl, .inr ⟨th, bad⟩⟩
    refine ⟨_, rfl, _, rfl, .inl ⟨a, u, s, rfl, wa, ?_⟩⟩
    rcases h with ⟨th, hy, bad⟩ | ⟨n, rfl, hn, h⟩
    · exact ⟨_, rfl, y, rfl, th, fun z => absurd (z.symm.trans hy) (by decide), fun _ => bad⟩
    refine ⟨_, rfl, .int n, rfl, .int _, fun _ => ?_, fun z => isWh_no z⟩
    rcases h with ⟨th, hz, bad⟩ | ⟨t, ht, rfl, q⟩
    · exact ⟨_, rfl, z, rfl, th, fun e => absurd (e.symm.trans hz) (by decide), fun _ => bad⟩
    refine ⟨_, rfl, .str t, rfl, .str _, fun _ => ?_, fun e => absurd ((isWay_ok ht).symm.trans e) (by decide)⟩
    obtain ⟨dx, ea⟩ := id wa
    refine ⟨_, rfl, a, W, dx, _, .int s, rfl, ea, T.cls, T.ns, lk_s _ _, _, rfl, _, _, rfl, rfl, _, rfl, ite2 (fun e => ?_) (fun e => ?_)⟩
    · have z : (s : Int) ≤ (n : Int) := of_decide_eq_true e
      refine ⟨_, rfl, q a u s H (fun _ _ e => e) wa ⟨by omega, ?_, ow⟩⟩
      unfold rnd
      rw [if_pos (by omega)]
    · have z : ¬ (s : Int) ≤ (n : Int) := fun y => e (decide_eq_true y)
      have g : (s : Int) - (n : Int) = ((s - n : Nat) : Int) := by omega
      refine ⟨_, rfl, a, W, dx, _, .int u, rfl, ea, T.cls, T.nu, lk_u _ _, _, rfl, a, W, dx, _, .int s, rfl, ea, T.cls, T.ns, lk_s _ _, _, rfl, _, _, rfl, rfl, ?_⟩
      dsimp only
      rw [g]
      refine ⟨s - n, rfl, by omega, _, rfl, u, _, t, rfl, ten_pos _, up_two (ten_lt (s - n)) (by omega), ht, fun H1 sm => ⟨_, rfl, worth_of (by omega) fun u' s' p H2 lw sm2 np wp => q p u' s' H2 (sm.trans sm2) wp ?_⟩⟩
      unfold rnd
      rw [if_neg (by omega)]
      exact lw
end
end K50

/-! k50: the class Entry. -/
namespace K50
open PySem PySem.Spec PyProof.Rows L2 LamX NdefX Own
theorem low_uniq {u : Int} {s : Nat} {u1 u2 : Int} {s1 s2 : Nat} (a : IsLow u s u1 s1) (b : IsLow u s u2 s2) (h : s1 ≤ s2) : u1 = u2 ∧ s1 = s2 := by
  have p := ten_pos (s - s2)
  have e : u1 * (10 : Int) ^ (s2 - s1) = u2 := by
    have z := a.eq.symm.trans b.eq
    have le := b.le
    have e2 : s - s1 = (s2 - s1) + (s - s2) := by omega
    rw [e2, Int.pow_add, ← Int.mul_assoc] at z
    exact Int.eq_of_mul_eq_mul_right (by omega) z
  by_cases hs : s1 = s2
  · subst hs
    simp at e
    exact ⟨e, rfl⟩
  · exfalso
    rcases b.own with z | z
    · omega
    · refine z ?_
      rw [← e]
      have e3 : s2 - s1 = (s2 - s1 - 1) + 1 := by omega
      rw [e3, Int.pow_succ, ← Int.mul_assoc]
      exact Int.mul_emod_left _ _
theorem low_eq {u : Int} {s : Nat} {u1 u2 : Int} {s1 s2 : Nat} (a : IsLow u s u1 s1) (b : IsLow u s u2 s2) : u1 = u2 ∧ s1 = s2 := by
  rcases Nat.le_total s1 s2 with h | h
  · exact low_uniq a b h
  · obtain ⟨x, y⟩ := low_uniq b a h
    exact ⟨x.symm, y.symm⟩
/-- told with more places -/
theorem low_up {v u : Int} {k s m : Nat} (h : IsLow v k u s) (l : k ≤ m) : IsLow (v * (10 : Int) ^ (m - k)) m u s := by
  have le := h.le
  refine ⟨by omega, ?_, h.own⟩
  rw [h.eq, Int.mul_assoc, ← Int.pow_add]
  congr 2
  omega
theorem low_at {v u : Int} {k s m : Nat} (h : IsLow v k u s) (l : k ≤ m) {y : Int} (e : v * (10 : Int) ^ (m - k) = y) : IsLow y m u s := by
  rw [← e]
  exact low_up h l
/-- equal just if told the same -/
theorem low_same {v1 v2 u1 u2 : Int} {m s1 s2 : Nat} (a : IsLow v1 m u1 s1) (b : IsLow v2 m u2 s2) : (decide (u1 = u2) && decide (s1 = s2)) = decide (v1 = v2) := by
  by_cases h : v1 = v2
  · subst h
    obtain ⟨e1, e2⟩ := low_eq a b
    rw [decide_eq_true e1, decide_eq_true e2, decide_eq_true rfl]
    rfl
  · rw [decide_eq_false h, ← Bool.decide_and]
    refine decide_eq_false fun z => h ?_
    rw [a.eq, b.eq, z.1, z.2]
theorem low_zero_iff {v u : Int} {m s : Nat} (h : IsLow v m u s) : (u = 0 ↔ v = 0) := by
  have p := ten_pos (m - s)
  rw [h.eq]
  constructor
  · intro z
    rw [z, Int.zero_mul]
  · intro z
    rcases Int.mul_eq_zero.mp z with y | y
    · exact y
    · omega
theorem low_nat {v u : Int} {m s : Nat} (h : IsLow v m u s) : u.natAbs ≤ v.natAbs := by
  have p := ten_pos (m - s)
  rw [h.eq, Int.natAbs_mul]
  exact Nat.le_mul_of_pos_right _ (by omega)
theorem low_sgn {v u : Int} {m s : Nat} (h : IsLow v m u s) : sgn u = sgn v := by
  rw [h.eq]
  exact sgn_mul.symm
/-- rounded to n: what so many parts come to -/
theorem rnd_low {x u : Int} {m n s : Nat} (h : IsLow x m u s) (l : n ≤ m) (t : Str) : rnd u s n t = near x ((10 : Int) ^ (m - n)) t := by
  have le := h.le
  unfold rnd
  by_cases c : s ≤ n
  · rw [if_pos c, h.eq, show m - s = (n - s) + (m - n) by omega, Int.pow_add, ← Int.mul_assoc, near_mul (ten_pos _)]
  · rw [if_neg c]
    refine near_ratio (ten_pos _) (ten_pos _) ?_ t
    rw [h.eq, Int.mul_assoc, ← Int.pow_add]
    congr 2
    omega
theorem near_fl {n d : Int} : near n d "floor" = n / d := by
  unfold near
  split
  · rfl
  · rw [goes_none (k := 4) (by decide +kernel) (by decide +kernel)]
    rw [if_neg (by show ¬ false = true; decide)]
abbrev enI (i : Nat) : Stmt := inClass (topS 30) i
/-- an operator of Worths -/
structure EntryC (K : PySem.W.Frag) (mg : Str → Option Value) (En : Addr) : Prop where
  g : mg "Entry" = some (.ref En)
  cls : Cls K En
  n1 : NoAttr K En "times"
  n2 : NoAttr K En "floor"
  n3 : NoAttr K En "alone"
  n4 : NoAttr K En "side"
  n5 : NoAttr K En "is_loose"
def eRow (tm F A sg : Int) (L : Bool) : List (Str × V) := [("times", .int tm), ("floor", .int F), ("alone", .int A), ("side", .int sg), ("is_loose", .bl L)]
theorem eNe : (("floor" : Str) == "times") = false ∧ (("alone" : Str) == "times") = false ∧ (("alone" : Str) == "floor") = false ∧ (("side" : Str) == "times") = false ∧ (("side" : Str) == "floor") = false ∧ (("side" : Str) == "alone") = false ∧
  (("is_loose" : Str) == "times") = false ∧ (("is_loose" : Str) == "floor") = false ∧ (("is_loose" : Str) == "alone") = false ∧ (("is_loose" : Str) == "side") = false := by decide +kernel
section
variable (tm F A sg : Int) (L : Bool)
theorem eLk_t : (eRow tm F A sg L).lookup ("times" : Str) = some (.int tm) := by simp [eRow, List.lookup]
theorem eLk_f : (eRow tm F A sg L).lookup ("floor" : Str) = some (.int F) := by simp [eRow, List.lookup, eNe]
theorem eLk_a : (eRow tm F A sg L).lookup ("alone" : Str) = some (.int A) := by simp [eRow, List.lookup, eNe]
theorem eLk_s : (eRow tm F A sg L).lookup ("side" : Str) = some (.int sg) := by simp [eRow, List.lookup, eNe]
theorem eLk_l : (eRow tm F A sg L).lookup ("is_loose" : Str) = some (.bl L) := by simp [eRow, List.lookup, eNe]
theorem put5 (a b c d e : V) : putF "is_loose" e (putF "side" d (putF "alone" c (putF "floor" b (putF "times" a [])))) = ([("times", a), ("floor", b), ("alone", c), ("side", d), ("is_loose", e)] : List (Str × V)) := by
  have h1 : ¬ (("times" : Str) = "floor") := by decide +kernel
  have h2 : ¬ (("times" : Str) = "alone") := by decide +kernel
  have h3 : ¬ (("times" : Str) = "side") := by decide +kernel
  have h4 : ¬ (("times" : Str) = "is_loose") := by decide +kernel
  have h5 : ¬ (("floor" : Str) = "alone") := by decide +kernel
  have h6 : ¬ (("floor" : Str) = "side") := by decide +kernel
  have h7 : ¬ (("floor" : Str) = "is_loose") := by decide +kernel
  have h8 : ¬ (("alone" : Str) = "side") := by decide +kernel
  have h9 : ¬ (("alone" : Str) = "is_loose") := by decide +kernel
  have h10 : ¬ (("side" : Str) = "is_loose") := by decide +kernel
  simp [putF, h1, h2, h3, h4, h5, h6, h7, h8, h9, h10]
end
/-- an Entry stands at a: tm times x parts, of which 10 ^ p are a unit -/
def EnAt (En : Addr) (H : Hp) (a : Addr) (tm x : Int) (p : Nat) (t : Str) : Prop := ∃ dx, H a = some (.ins En dx (eRow tm (x / (10 : Int) ^ p) (near x ((10 : Int) ^ p) t) (sgn x) (isLoose ((10 : Int) ^ p) x t)))
theorem EnAt.same {En a : Addr} {H H' : Hp} {tm x : Int} {p : Nat} {t : Str} (h : EnAt En H a tm x p t) (z : Same H H') : EnAt En H' a tm x p t := by
  obtain ⟨dx, e⟩ := h
  exact ⟨dx, z _ _ e⟩
end K50

/-! k50: an Entry made. -/
namespace K50
open PySem PySem.Spec PyProof.Rows L2 LamX NdefX Own
theorem inV_txt (z : Str) (l : List Str) : inV (.str z) (l.map V.str) = decide (z ∈ l) := by
  unfold inV
  rw [List.any_map]
  induction l with
  | nil => rfl
  | cons a r ih =>
    rw [List.any_cons, ih]
    show (a == z || decide (z ∈ r)) = decide (z ∈ a :: r)
    by_cases h : a = z
    · subst h
      simp
    · have h' : ¬ z = a := fun e => h e.symm
      simp [h, h']
/-- how two Worths are compared -/
structure WEq (P : Program) (w : World) (K : PySem.W.Frag) (mg : Str → Option Value) (base : Heap) (W f : Addr) (fd : FuncData) : Prop where
  at_ : PySem.W.findIn K (.ref W) "__eq__" = some (some (.ref f))
  isf : PySem.W.isFn K (.ref f) = true
  fn : FnOk P w K mg base (L2.CX P w) 1 f fd ["self", "other"] (spEqW W)
  bd : Binds K fd ["self", "other"] []
  sub : ∀ T ∈ tys, PySem.W.subIn K (.type T) (.ref W) = some false
/-- the tuples of ways -/
structure LooseT (K : PySem.W.Frag) (mg : Str → Option Value) (a1 a2 : Addr) : Prop where
  g1 : mg "LOOSE_IN_ALL" = some (.ref a1)
  g2 : mg "LOOSE_AT_HALF" = some (.ref a2)
  t1 : ∀ H : Hp, SqT K H a1 (looseL1.map V.str)
  t2 : ∀ H : Hp, SqT K H a2 (looseL2.map V.str)
theorem WAt.keep {W a b : Addr} {H H' : Hp} {u : Int} {s : Nat} (h : WAt W H b u s) (n : b ≠ a) (k : Keep a H H') : WAt W H' b u s := by
  obtain ⟨dx, e⟩ := h
  exact ⟨dx, k _ _ n e⟩
theorem WAt.off {W a b En dx : Addr} {H : Hp} {u : Int} {s : Nat} (h : WAt W H b u s) (e : H a = some (.ins En dx [])) : b ≠ a := by
  obtain ⟨d, z⟩ := h
  rintro rfl
  rw [e] at z
  cases z
theorem part_mod {x U : Int} : x - x / U * U = x % U := by
  have := Int.mul_ediv_add_emod x U
  rw [Int.mul_comm] at this
  omega
section
variable {P : Program} {w : World} {K : PySem.W.Frag} {mg : Str → Option Value} {base : Heap} {C W En fq aL1 aL2 : Addr} {fdq : FuncData}
theorem scEI : FnScope ["self", "worth", "times", "scale", "way", "below", "left"] ["self", "worth", "times", "scale", "way"] (defScope (enI 0)) := ⟨rfl, rfl, rfl, by decide +kernel, rfl, by decide +kernel, by decide +kernel⟩
/-- __init__, of a worth and its times -/
def spEI (W En : Addr) : Sp := fun vs H Q _ => ∃ (a dx wa : Addr) (u : Int) (s n m : Nat) (x tm : Int) (t : Str), vs = [.ref a, .ref wa, .int tm, .int n, .str t] ∧ H a = some (.ins En dx []) ∧ WAt W H wa u s ∧ IsLow x m u s ∧ n ≤ m ∧ m ≤ 200 ∧ x.natAbs < 2 ^ 2000 ∧ t ∈ waysL ∧
  ∀ H', Keep a H H' → H' a = some (.ins En dx (eRow tm (x / (10 : Int) ^ (m - n)) (near x ((10 : Int) ^ (m - n)) t) (sgn x) (isLoose ((10 : Int) ^ (m - n)) x t))) → Q .non H'
theorem ok_eI {f : Addr} {fd : FuncData} (F : Fun K "__init__" "Entry.__init__" (enI 0) f fd) (TE : EntryC K mg En) (T : WorthC K mg W) (M : WMk P w K mg base C W) (L : LooseT K mg aL1 aL2) (WE : WEq P w K mg base W fq fdq) (DR : DefOk P w K mg base (L2.CX P w) "rounded" 13 ["worth", "scale", "way"] (spRnd C W))
    (D2 : WMeth P w K mg base W "units_at" 10 ["self", "scale"] (spUat W)) (D3 : WMeth P w K mg base W "sign" 1 ["self"] (spSgn W)) (OS : WOp P w K mg base W .Sub 14 (spBin C W (· - ·))) (OA : WOp P w K mg base W .Add 14 (spBin C W (· + ·))) :
    FnOk P w K mg base (L2.CX P w) 16 f fd ["self", "worth", "times", "scale", "way"] (spEI W En) := by
  refine F.okX scEI (fun vs H Q E h => ?_) (fun cdv A outer s0 H vs Q E hr h => ?_)
  · obtain ⟨a, dx, wa, u, s, n, m, x, tm, t, rfl, _⟩ := h
    rfl
  · obtain ⟨a, dx, wa, u, s, n, m, x, tm, t, rfl, ha, hw, lx, hn, hm, hx, ht, q⟩ := h
    have nd := scEI.nd
    obtain ⟨fU, fdU, mU, FU, bU⟩ := D2.ex
    obtain ⟨fG, fdG, mG, FG, bG⟩ := D3.ex
    obtain ⟨fS, fdS, S1, S2, S3, FS, bS⟩ := OS.ex
    obtain ⟨fA, fdA, A1, A2, A3, FA, bA⟩ := OA.ex
    refine ⟨_, pss_cons (ps_set (i := 5) nd rfl (.inl rfl) (pe_def (E := E) DR hr (by decide) (by rfl) (passes_call (takes_of rfl rfl rfl rfl) fun _ _ _ _ z => z) (pa_cons (pv 1) (pa_cons (pv 3) (pa_cons pe_str pa_nil)))))
      (pss_cons (ps_fld (pv 0) (pv 2) rfl)
      (pss_cons (ps_fld (pv 0) (pe_meth (E := E) (pv 5) T.cls mU FU (hr.mono (by decide)) bU .nil (passes_call (takes_of rfl rfl rfl rfl) fun _ _ _ _ z => z) (pa_cons (pv 3) pa_nil)) rfl)
      (pss_cons (ps_fld (pv 0) (pe_meth (E := E) (pe_def (E := E) DR hr (by decide) (by rfl) (passes_call (takes_of rfl rfl rfl rfl) fun _ _ _ _ z => z) (pa_cons (pv 1) (pa_cons (pv 3) (pa_cons (pv 4) pa_nil)))) T.cls mU FU (hr.mono (by decide)) bU .nil (passes_call (takes_of rfl rfl rfl rfl) fun _ _ _ _ z => z) (pa_cons (pv 3) pa_nil)) rfl)
      (pss_cons (ps_fld (pv 0) (pe_meth0 (E := E) (pv 1) T.cls mG FG (hr.mono (by decide)) bG .nil (passes_call (takes_of rfl rfl rfl rfl) fun _ _ _ _ z => z)) rfl)
      (pss_cons (ps_set (i := 6) nd rfl (.inl rfl) (pe_op (op_own (op := .Sub) (E := E) FS (hr.mono (by decide)) S1 S2 S3 bS (passes_call (takes_of rfl rfl rfl rfl) fun _ _ _ _ z => z)) (pv 1) (pv 5)))
      (pss_one (ps_fld (pv 0) (pe_or (pe_and (pe_cmpR op_in_seq (pv 4) (pe_glob (v := .ref aL1) (by rfl) L.g1 rfl) (by rfl)) (pe_one (pe_cmpR op_ne (pe_fld (pv 6) (by rfl)) pe_int (nomark _)))) (pe_one (pe_and (pe_cmpR op_in_seq (pv 4) (pe_glob (v := .ref aL2) (by rfl) L.g2 rfl) (by rfl)) (pe_one (pe_cmpR (op_ownEq (E := E) WE.fn (hr.mono (by decide)) WE.at_ WE.isf WE.sub WE.bd (passes_call (takes_of rfl rfl rfl rfl) fun _ _ _ _ z => z)) (pe_op (op_own (op := .Add) (E := E) FA (hr.mono (by decide)) A1 A2 A3 bA (passes_call (takes_of rfl rfl rfl rfl) fun _ _ _ _ z => z)) (pv 6) (pv 6)) (pe_worth (C := C) (E := E) M T hr (by decide) (by rfl) (passes_call (takes_of rfl rfl rfl rfl) fun _ _ _ _ z => z) (pa_cons pe_int (pa_cons (pv 3) pa_nil))) (nomark _)))))) rfl))))))), ?_⟩
    have le := lx.le
    have hs : s ≤ 240 := by omega
    have bu : u.natAbs < 2 ^ 2000 := Nat.lt_of_le_of_lt (low_nat lx) hx
    have sm : Small u s := ⟨by omega, up_two bu (by decide)⟩
    have U0 := ten_pos (m - n)
    have nw := hw.off ha
    generalize hU : (10 : Int) ^ (m - n) = U at q U0
    refine ⟨_, rfl, _, rfl, .ref wa, .int n, .str "floor", rfl, .inr ⟨wa, u, s, rfl, hw, hs, lx.own, .inr ⟨n, rfl, by omega, .inr ⟨"floor", by decide +kernel, rfl, fun b ub sb H1 s1 wb lb => ?_⟩⟩⟩⟩
    rw [rnd_low lx hn, hU, near_fl] at lb
    dsimp only [gName, List.set]
    have ha1 := s1 _ _ ha
    have nb := wb.off ha1
    have bF : (x / U).natAbs < 2 ^ 2001 := by
      have := near_nat (n := x) U0 "floor"
      rw [near_fl] at this
      have e : (2 : Nat) ^ 2001 = 2 ^ 2000 * 2 := Nat.pow_succ ..
      omega
    have bub : ub.natAbs < 2 ^ 2001 := Nat.lt_of_le_of_lt (low_nat lb) bF
    have lsb := lb.le
    -- times
    refine ⟨_, rfl, _, rfl, a, En, dx, [], rfl, ha1, TE.cls, TE.n1, by decide, ?_⟩
    have k2 : Keep a H (upd H1 a (.ins En dx (putF "times" (.int tm) []))) := (Keep.same s1).trans Keep.at
    have k12 : Keep a H1 (upd H1 a (.ins En dx (putF "times" (.int tm) []))) := Keep.at
    have ha2 : upd H1 a (.ins En dx (putF "times" (.int tm) [])) a = some (.ins En dx (putF "times" (.int tm) [])) := upd_same
    generalize upd H1 a (.ins En dx (putF "times" (.int tm) [])) = H2 at k2 k12 ha2 ⊢
    have wa2 := hw.keep nw k2
    have wb2 := wb.keep nb k12
    obtain ⟨db, eb⟩ := id wb2
    -- floor
    refine ⟨_, rfl, b, db, _, rfl, eb, lk_m _ _ (by decide +kernel) (by decide +kernel), _, rfl, b, ub, sb, n, rfl, wb2, lsb, by omega, up_two bub (by decide), ?_⟩
    refine ⟨_, rfl, a, En, dx, _, rfl, ha2, TE.cls, TE.n2, by show 1 < 1000; decide, ?_⟩
    rw [show ub * (10 : Int) ^ (n - sb) = x / U from lb.eq.symm]
    have k23 : Keep a H2 (upd H2 a (.ins En dx (putF "floor" (.int (x / U)) (putF "times" (.int tm) [])))) := Keep.at
    have ha3 : upd H2 a (.ins En dx (putF "floor" (.int (x / U)) (putF "times" (.int tm) []))) a = some (.ins En dx (putF "floor" (.int (x / U)) (putF "times" (.int tm) []))) := upd_same
    generalize upd H2 a (.ins En dx (putF "floor" (.int (x / U)) (putF "times" (.int tm) []))) = H3 at k23 ha3 ⊢
    have k3 := k2.trans k23
    have wa3 := wa2.keep nw k23
    have wb3 := wb2.keep nb k23
    -- alone
    refine ⟨_, rfl, _, rfl, _, rfl, .ref wa, .int n, .str t, rfl, .inr ⟨wa, u, s, rfl, wa3, hs, lx.own, .inr ⟨n, rfl, by omega, .inr ⟨t, ht, rfl, fun c uc sc H4 s4 wc lc => ?_⟩⟩⟩⟩
    rw [rnd_low lx hn, hU] at lc
    have bA : (near x U t).natAbs < 2 ^ 2001 := by
      have := near_nat (n := x) U0 t
      have e : (2 : Nat) ^ 2001 = 2 ^ 2000 * 2 := Nat.pow_succ ..
      omega
    obtain ⟨dc, ec⟩ := id wc
    refine ⟨c, dc, _, rfl, ec, lk_m _ _ (by decide +kernel) (by decide +kernel), _, rfl, c, uc, sc, n, rfl, wc, lc.le, by omega, up_two (Nat.lt_of_le_of_lt (low_nat lc) bA) (by decide), ?_⟩
    have ha4 := s4 _ _ ha3
    refine ⟨_, rfl, a, En, dx, _, rfl, ha4, TE.cls, TE.n3, by show 2 < 1000; decide, ?_⟩
    rw [show uc * (10 : Int) ^ (n - sc) = near x U t from lc.eq.symm]
    have k45 : Keep a H4 (upd H4 a (.ins En dx (putF "alone" (.int (near x U t)) (putF "floor" (.int (x / U)) (putF "times" (.int tm) []))))) := Keep.at
    have ha5 : upd H4 a (.ins En dx (putF "alone" (.int (near x U t)) (putF "floor" (.int (x / U)) (putF "times" (.int tm) [])))) a = some (.ins En dx (putF "alone" (.int (near x U t)) (putF "floor" (.int (x / U)) (putF "times" (.int tm) [])))) := upd_same
    generalize upd H4 a (.ins En dx (putF "alone" (.int (near x U t)) (putF "floor" (.int (x / U)) (putF "times" (.int tm) [])))) = H5 at k45 ha5 ⊢
    have k5 := (k3.trans (Keep.same s4)).trans k45
    have wa5 := (wa3.same s4).keep nw k45
    have wb5 := (wb3.same s4).keep nb k45
    obtain ⟨dw, ew⟩ := id wa5
    -- side
    refine ⟨_, rfl, wa, dw, _, rfl, ew, lk_m _ _ (by decide +kernel) (by decide +kernel), wa, u, s, rfl, wa5, ?_⟩
    refine ⟨_, rfl, a, En, dx, _, rfl, ha5, TE.cls, TE.n4, by show 3 < 1000; decide, ?_⟩
    rw [low_sgn lx]
    have k56 : Keep a H5 (upd H5 a (.ins En dx (putF "side" (.int (sgn x)) (putF "alone" (.int (near x U t)) (putF "floor" (.int (x / U)) (putF "times" (.int tm) [])))))) := Keep.at
    have ha6 : upd H5 a (.ins En dx (putF "side" (.int (sgn x)) (putF "alone" (.int (near x U t)) (putF "floor" (.int (x / U)) (putF "times" (.int tm) []))))) a = some (.ins En dx (putF "side" (.int (sgn x)) (putF "alone" (.int (near x U t)) (putF "floor" (.int (x / U)) (putF "times" (.int tm) []))))) := upd_same
    generalize upd H5 a (.ins En dx (putF "side" (.int (sgn x)) (putF "alone" (.int (near x U t)) (putF "floor" (.int (x / U)) (putF "times" (.int tm) []))))) = H6 at k56 ha6 ⊢
    have k6 := k5.trans k56
    have wa6 := wa5.keep nw k56
    have wb6 := wb5.keep nb k56
    obtain ⟨d1, e1⟩ := id wa6
    obtain ⟨d2, e2⟩ := id wb6
    -- left
    refine ⟨_, rfl, _, rfl, wa, b, d1, d2, _, _, rfl, rfl, e1, e2, wa, u, s, .ref b, rfl, wa6, sm, .inl ⟨b, ub, sb, rfl, wb6, ⟨by omega, up_two bub (by decide)⟩, fun u3 s3 p3 H7 l3 s7 _ w3 => ?_⟩⟩
    dsimp only [gName, List.set]
    have M1 : max s sb ≤ m := by omega
    have l3 : IsLow (x % U) m u3 s3 := low_at l3 M1 (by
      have a1 : at_ u s (max s sb) * (10 : Int) ^ (m - max s sb) = x := by
        unfold at_
        rw [Int.mul_assoc, ← Int.pow_add, lx.eq]
        congr 2
        omega
      have a2 : at_ ub sb (max s sb) * (10 : Int) ^ (m - max s sb) = x / U * U := by
        unfold at_
        rw [Int.mul_assoc, ← Int.pow_add, lb.eq, ← hU, Int.mul_assoc, ← Int.pow_add]
        congr 2
        omega
      rw [Int.sub_mul, a1, a2, part_mod])
    have r0 := Int.emod_nonneg x (show U ≠ 0 by omega)
    have r1 := Int.emod_lt_of_pos x U0
    have bU : U.natAbs < 2 ^ 2000 := by
      rw [← hU]
      exact up_two (ten_lt (m - n)) (by omega)
    have b3 : u3.natAbs < 2 ^ 2000 := Nat.lt_of_le_of_lt (low_nat l3) (by omega)
    have le3 := l3.le
    -- loose
    refine ⟨_, rfl, aL1, looseL1.map V.str, rfl, .inr (L.t1 _), rfl, by decide +kernel, _, rfl, ?_⟩
    rw [show (if false = true then !inV (V.str t) (looseL1.map V.str) else inV (V.str t) (looseL1.map V.str)) = decide (t ∈ looseL1) from inV_txt t looseL1]
    have z3 := low_zero_iff l3
    by_cases m1 : t ∈ looseL1
    · have m2 : ¬ t ∈ looseL2 := by
        intro y
        simp only [looseL1, looseL2, List.mem_cons, List.not_mem_nil, or_false] at y m1
        rcases m1 with rfl | rfl <;> revert y <;> decide +kernel
      rw [decide_eq_true m1]
      obtain ⟨d3, e3⟩ := id w3
      refine iteT ⟨_, rfl, p3, W, d3, _, .int u3, rfl, e3, T.cls, T.nu, lk_u _ _, rfl, ?_⟩
      refine ⟨_, rfl, ite2 (fun g => ?_) (fun g => ?_)⟩
      · have z : x % U ≠ 0 := fun y => by
          have y' := z3.mpr y
          simp [y'] at g
        have eL : isLoose U x t = true := by
          unfold isLoose
          rw [decide_eq_true m1, decide_eq_true z]
          rfl
        refine ⟨_, rfl, a, En, dx, _, rfl, s7 _ _ ha6, TE.cls, TE.n5, by show 4 < 1000; decide, ?_⟩
        rw [put5]
        exact q _ ((k6.trans (Keep.same s7)).trans Keep.at) (by rw [eL]; exact upd_same)
      · have z : x % U = 0 := z3.mp (by
          by_cases y : u3 = 0
          · exact y
          · exact absurd (by simp [y]) g)
        have eL : isLoose U x t = false := by
          unfold isLoose
          rw [decide_eq_false m2, z]
          simp
        refine ⟨_, rfl, aL2, looseL2.map V.str, rfl, .inr (L.t2 _), rfl, by decide +kernel, _, rfl, ?_⟩
        rw [show (if false = true then !inV (V.str t) (looseL2.map V.str) else inV (V.str t) (looseL2.map V.str)) = decide (t ∈ looseL2) from inV_txt t looseL2, decide_eq_false m2]
        refine iteF ?_
        refine ⟨_, rfl, a, En, dx, _, rfl, s7 _ _ ha6, TE.cls, TE.n5, by show 4 < 1000; decide, ?_⟩
        rw [put5]
        exact q _ ((k6.trans (Keep.same s7)).trans Keep.at) (by rw [eL]; exact upd_same)
    · rw [decide_eq_false m1]
      refine iteF ⟨_, rfl, iteF ⟨_, rfl, aL2, looseL2.map V.str, rfl, .inr (L.t2 _), rfl, by decide +kernel, _, rfl, ?_⟩⟩
      rw [show (if false = true then !inV (V.str t) (looseL2.map V.str) else inV (V.str t) (looseL2.map V.str)) = decide (t ∈ looseL2) from inV_txt t looseL2]
      by_cases m2 : t ∈ looseL2
      · rw [decide_eq_true m2]
        refine iteT ?_
        obtain ⟨d3, e3⟩ := id w3
        refine ⟨_, rfl, _, rfl, p3, p3, d3, d3, _, _, rfl, rfl, e3, e3, p3, u3, s3, .ref p3, rfl, w3, ⟨by omega, up_two b3 (by decide)⟩, .inl ⟨p3, u3, s3, rfl, w3, ⟨by omega, up_two b3 (by decide)⟩, fun u4 s4' p4 H8 l4 s8 _ w4 => ?_⟩⟩
        have l4 : IsLow (2 * (x % U)) m u4 s4' := low_at l4 (by omega) (by
          have a1 : at_ u3 s3 (max s3 s3) * (10 : Int) ^ (m - max s3 s3) = x % U := by
            unfold at_
            rw [Int.mul_assoc, ← Int.pow_add, l3.eq]
            congr 2
            omega
          rw [Int.add_mul, a1]
          omega)
        refine ⟨_, rfl, ?_⟩
        dsimp only [tNil]
        rw [List.append_nil]
        refine worth_of (C := C) (v := 1) (n := n) (by omega) fun u5 s5 p5 H9 l5 s9 _ w5 => ?_
        have l5 : IsLow U m u5 s5 := low_at l5 hn (by rw [Int.one_mul, hU])
        have w4' := w4.same s9
        obtain ⟨d4, e4⟩ := id w4'
        obtain ⟨d5, e5⟩ := id w5
        refine ⟨p4, d4, _, rfl, e4, .inl ⟨p5, d5, _, rfl, e5⟩, p4, u4, s4', .ref p5, rfl, w4', .inl ⟨p5, u5, s5, rfl, w5, fun Hx sx => ?_⟩⟩
        have eL : isLoose U x t = (decide (u4 = u5) && decide (s4' = s5)) := by
          rw [low_same l4 l5]
          unfold isLoose
          rw [decide_eq_false m1, decide_eq_true m2]
          rfl
        have s79 := ((s7.trans s8).trans s9).trans sx
        refine ⟨_, rfl, a, En, dx, _, rfl, s79 _ _ ha6, TE.cls, TE.n5, by show 4 < 1000; decide, ?_⟩
        rw [put5]
        exact q _ ((k6.trans (Keep.same s79)).trans Keep.at) (by rw [eL]; exact upd_same)
      · rw [decide_eq_false m2]
        have eL : isLoose U x t = false := by
          unfold isLoose
          rw [decide_eq_false m1, decide_eq_false m2]
          rfl
        refine iteF ?_
        refine ⟨_, rfl, a, En, dx, _, rfl, s7 _ _ ha6, TE.cls, TE.n5, by show 4 < 1000; decide, ?_⟩
        rw [put5]
        exact q _ ((k6.trans (Keep.same s7)).trans Keep.at) (by rw [eL]; exact upd_same)
end
end K50

/-! k50: rows of entries. -/
namespace Own
open PySem PySem.Spec PyProof.Rows L2 LamX NdefX
/-- for over enumerate of a list that stands -/
theorem for_enum {K : PySem.W.Frag} {a : Addr} {xs : List V} {g : TG} {tb : TS} {D : Ends} {σ : L2.St} {H : Hp} (Pv : Nat → L2.St → Hp → Prop) (h0 : Pv 0 σ H) (hl : ∀ i σ H, i ≤ xs.length → Pv i σ H → SqL K H a xs)
    (hs : ∀ i x σ H T, xs[i]? = some x → Pv i σ H → H T = none → g (.ref T) σ (upd H T (.tup [.int (i : Nat), x])) fun σ2 H2 => tb { D with nx := Pv (i + 1), ct := Pv (i + 1), bk := D.nx } σ2 H2) (hd : ∀ σ H, Pv xs.length σ H → D.nx σ H) :
    ∃ W : Nat → Nat → L2.St → Hp → Prop, (∃ m, W 0 m σ H) ∧ ∀ i m σ H, W i m σ H →
      ((Ite K a).stop i H ∧ D.nx σ H) ∨ ((Ite K a).go i H ∧ ∃ N : L2.St → Hp → Prop, (∀ σ' H', N σ' H' → ∃ m', m' < m ∧ W (i + 1) m' σ' H') ∧ ∀ x H', (Ite K a).yld i H x H' → g x σ H' fun σ2 H2 => tb { D with nx := N, ct := N, bk := D.nx } σ2 H2) := by
  refine ⟨fun i m σ H => m = xs.length - i ∧ i ≤ xs.length ∧ Pv i σ H, ⟨xs.length, by simp, Nat.zero_le _, h0⟩, ?_⟩
  rintro i m σ H ⟨rfl, hi, p⟩
  have q := hl i σ H hi p
  by_cases hlt : i < xs.length
  · refine .inr ⟨⟨xs, xs[i], q, by simp [hlt]⟩, Pv (i + 1), fun σ' H' p' => ⟨xs.length - (i + 1), by omega, rfl, hlt, p'⟩, fun x H' y => ?_⟩
    obtain ⟨T, x, rfl, nT, rfl, z⟩ := y
    exact hs i x σ H T (z xs q) p nT
  · have e : i = xs.length := by omega
    subst e
    exact .inl ⟨⟨xs, q, Nat.le_refl _⟩, hd σ H p⟩
/-- two rows side by side -/
inductive Ents {β : Type} (R : V → β → Prop) : List V → List β → Prop where
  | nil : Ents R [] []
  | cons {x : V} {e : β} {xs : List V} {es : List β} : R x e → Ents R xs es → Ents R (x :: xs) (e :: es)
section
variable {β : Type} {R R' : V → β → Prop} {xs : List V} {es : List β}
theorem Ents.mono (h : Ents R xs es) (f : ∀ x e, R x e → R' x e) : Ents R' xs es := by
  induction h with
  | nil => exact .nil
  | cons r _ ih => exact .cons (f _ _ r) ih
theorem Ents.len (h : Ents R xs es) : xs.length = es.length := by
  induction h with
  | nil => rfl
  | cons _ _ ih => rw [List.length_cons, List.length_cons, ih]
theorem Ents.app {ys : List V} {fs : List β} (h : Ents R xs es) (k : Ents R ys fs) : Ents R (xs ++ ys) (es ++ fs) := by
  induction h with
  | nil => exact k
  | cons r _ ih => exact .cons r ih
theorem Ents.snoc {x : V} {e : β} (h : Ents R xs es) (r : R x e) : Ents R (xs ++ [x]) (es ++ [e]) := h.app (.cons r .nil)
theorem Ents.get (h : Ents R xs es) : ∀ {i : Nat} {x : V}, xs[i]? = some x → ∃ e, es[i]? = some e ∧ R x e := by
  induction h with
  | nil => intro i x z; simp at z
  | cons r _ ih =>
    intro i x z
    cases i with
    | zero =>
      have z' := Option.some.inj z
      subst z'
      exact ⟨_, rfl, r⟩
    | succ i => exact ih z
end
end Own
namespace K50
open PySem PySem.Spec PyProof.Rows L2 LamX NdefX Own
abbrev pNE : Stmt := topS 31
abbrev pIU : Stmt := topS 32
/-- how the class is called -/
structure EMk (P : Program) (w : World) (K : PySem.W.Frag) (mg : Str → Option Value) (base : Heap) (W En : Addr) : Prop where
  ex : ∃ (fI : Addr) (fd : FuncData), Mk K En fI ∧ FnOk P w K mg base (L2.CX P w) 16 fI fd ["self", "worth", "times", "scale", "way"] (spEI W En) ∧ Binds K fd ["self", "worth", "times", "scale", "way"] []
section
variable {P : Program} {w : World} {K : PySem.W.Frag} {mg : Str → Option Value} {base : Heap} {C CB W En : Addr}
/-- what the call Entry(worth, times, scale, way) gives -/
def spEntry (W En : Addr) : Sp := fun vs H Q _ => ∃ (wa : Addr) (u : Int) (s n m : Nat) (x tm : Int) (t : Str), vs = [.ref wa, .int tm, .int n, .str t] ∧ WAt W H wa u s ∧ IsLow x m u s ∧ n ≤ m ∧ m ≤ 200 ∧ x.natAbs < 2 ^ 2000 ∧ t ∈ waysL ∧
  ∀ (a : Addr) (H' : Hp), Same H H' → H a = none → EnAt En H' a tm x (m - n) t → Q (.ref a) H'
theorem entry_make {vs : List V} {H : Hp} {Q : VK} {E : XK} (h : spEntry W En vs H Q E) (a dx : Addr) (na : H a = none) (nd : H dx = none) (ne : dx ≠ a) : spEI W En (.ref a :: vs) (upd (upd H dx (.own a)) a (.ins En dx [])) (fun v H2 => v = .non ∧ Q (.ref a) H2) E := by
  obtain ⟨wa, u, s, n, m, x, tm, t, rfl, hw, lx, hn, hm, hx, ht, q⟩ := h
  have na1 : upd H dx (.own a) a = none := (upd_ne ne.symm).trans na
  have s1 : Same H (upd (upd H dx (.own a)) a (.ins En dx [])) := (same_new nd).trans (same_new na1)
  refine ⟨a, dx, wa, u, s, n, m, x, tm, t, rfl, upd_same, hw.same s1, lx, hn, hm, hx, ht, fun H' kp ha => ⟨rfl, q a H' (fun b o e => ?_) na ⟨dx, ha⟩⟩⟩
  exact kp _ _ (ne_of_none e na) (s1 _ _ e)
section
variable {X : Cx} {k : Nat} {E : XK} {p pos : Pos} {e1 e2 e3 e4 : Expr} {t : TA}
theorem pe_entry (M : EMk X.prog X.w X.K X.mg X.base W En) (T : EntryC X.K X.mg En) (hr : Room k X.A) (hk : 17 ≤ k) (hg : Gl X "Entry") (hx : Passes (L2.CX X.prog X.w) X E) (ha : PA X [e1, e2, e3, e4] t)
    (he : starEach [e1, e2, e3, e4] X.env = (false, eval e1 X.env) :: starEach [e2, e3, e4] X.env := by rfl) (hpl : (backTo pos (starEach [e2, e3, e4] X.env)).any (·.1) = false := by rfl) : PE X (.Call (.Name "Entry" p) [e1, e2, e3, e4] [] pos) (tCall (spEntry W En) [] E t) := by
  obtain ⟨fI, fd, mk, F, b2⟩ := M.ex
  constructor
  intro pins s σ H Q I h
  refine wpAny_Call_Name_kw (ld_glob I hg T.g ?_ (by decide))
  refine PySem.W.callWith_K (h₀ := X.base) I.ok.mod.kin mk.kp (thn (ha.run pos pins s σ H _ I h) ?_) he hpl
  rintro us s1 ⟨vs, H1, I1, r, q⟩
  refine ⟨I1.kIn, run_make mk F (hr.mono hk) b2 .nil hx I1 r fun a dx na nd ne => ?_⟩
  rw [List.append_nil] at q ⊢
  exact entry_make q a dx na nd ne
end
/-! ### need_entries -/
theorem kit_tup {K : PySem.W.Frag} : PySem.W.kitAny K (.type "tuple") [.type "list", .type "tuple"] = some true :=
  kitAny_cons (b := false) (kit_ty (show kitB "tuple" "list" = some false by decide +kernel)) (fun _ => kitAny_cons (b := true) (kit_ty (show kitB "tuple" "tuple" = some true by decide +kernel)) (fun z => nomatch z) (fun _ => rfl)) (fun z => nomatch z)
theorem scNE : FnScope ["entries", "scale", "way", "index", "told"] ["entries", "scale", "way"] (defScope pNE) := ⟨rfl, rfl, rfl, by decide +kernel, rfl, by decide +kernel, by decide +kernel⟩
/-- a pair of a worth of x parts, at m places, and its times -/
def PairAt (W : Addr) (m : Nat) (H : Hp) (r : V) (e : Int × Nat) : Prop := ∃ (q wa : Addr) (u : Int) (s : Nat), r = .ref q ∧ H q = some (.tup [.ref wa, .int (e.2 : Nat)]) ∧ WAt W H wa u s ∧ IsLow e.1 m u s
theorem PairAt.same {m : Nat} {H H' : Hp} {r : V} {e : Int × Nat} (h : PairAt W m H r e) (z : Same H H') : PairAt W m H' r e := by
  obtain ⟨q, wa, u, s, e1, e2, e3, e4⟩ := h
  exact ⟨q, wa, u, s, e1, z _ _ e2, e3.same z, e4⟩
/-- a list of such pairs -/
def PairsAt (W : Addr) (m : Nat) (H : Hp) (l : Addr) (es : List (Int × Nat)) : Prop := ∃ rs : List V, H l = some (.lst rs) ∧ Ents (PairAt W m H) rs es
theorem PairsAt.same {m : Nat} {H H' : Hp} {l : Addr} {es : List (Int × Nat)} (h : PairsAt W m H l es) (z : Same H H') : PairsAt W m H' l es := by
  obtain ⟨rs, e1, e2⟩ := h
  exact ⟨rs, z _ _ e1, e2.mono fun _ _ r => r.same z⟩
def spNE (W : Addr) : Sp := fun vs H Q _ => ∃ (l : Addr) (es : List (Int × Nat)) (n m : Nat) (t : Str), vs = [.ref l, .int n, .str t] ∧ PairsAt W m H l es ∧ t ∈ waysL ∧ ∀ H', Same H H' → Q .non H'
theorem ok_nE (A : At K mg "need_entries" pNE ["entries", "scale", "way"]) (B : Blt mg) (mE : mg "enumerate" = none) (T : WorthC K mg W) (I : WIs K W) (TB : ErrC P w K mg base "BadEntry" "index" 1 CB (spErr CB "index")) (DI : DefOk P w K mg base CX0 "is_whole_number" 2 ["value"] spIsWh)
    (DW : DefOk P w K mg base (L2.CX P w) "need_whole_number" 3 ["value"] (spNWh C)) (DY : DefOk P w K mg base (L2.CX P w) "need_way" 3 ["value"] (spNWay C)) : DefOk P w K mg base (L2.CX P w) "need_entries" 4 ["entries", "scale", "way"] (spNE W) := by
  refine A.ok fun f fd F => F.okX scNE (fun vs H Q E h => ?_) (fun cdv A outer s0 H vs Q E hr h => ?_)
  · obtain ⟨l, es, n, m, t, rfl, _⟩ := h
    rfl
  · obtain ⟨l, es, n, m, t, rfl, ⟨rs, hl, hE⟩, ht, q⟩ := h
    have nd := scNE.nd
    refine ⟨_, pss_cons (ps_for (passes_of rfl) rfl (pi_enum (by rfl) mE (pa_cons (pv 0) pa_nil)) (pg_tup rfl (pgs_cons (pg_name (i := 3) nd rfl (.inl rfl)) (pgs_cons (pg_name (i := 4) nd rfl (.inl rfl)) pgs_nil))) (pss_cons (ps_if (PW.pt (pw_or (pt_not (pt_val (pe_callB call_isiT (by rfl) B.isi (by decide +kernel) (pa_cons (pv 4) (pa_cons (pe_tup (pa_cons (pe_bltn (v := .ty "list") (by rfl) B.list (by decide +kernel) rfl) (pa_cons (pe_bltn (v := .ty "tuple") (by rfl) B.tuple (by decide +kernel) rfl) pa_nil))) pa_nil))))) (pw_or1 (pt_cmpR op_ne (pe_callB call_len_seq (by rfl) B.len PySem.boot_len (pa_cons (pv 4) pa_nil)) pe_int (nomark _))))) (pss_one (ps_raise rfl (takes_of rfl rfl rfl rfl) (pmk_err TB hr (by decide) (by rfl) (pv 3)))) pss_nil) (pss_one (ps_if (PW.pt (pw_or (pt_not (pt_val (pe_callB call_isi (by rfl) B.isi (by decide +kernel) (pa_cons (pe_ix ix_tup (pv 4) pe_int (fun _ _ => rfl)) (pa_cons (pe_glob (v := .ref W) (by rfl) T.g rfl) pa_nil))))) (pw_or1 (pt_not (pt_val (pe_def DI hr (by decide) (by rfl) pass0 (pa_cons (pe_ix ix_tup (pv 4) pe_int (fun _ _ => rfl)) pa_nil))))))) (pss_one (ps_raise rfl (takes_of rfl rfl rfl rfl) (pmk_err TB hr (by decide) (by rfl) (pv 3)))) pss_nil))))
      (pss_cons (ps_expr (pe_def (E := E) DW hr (by decide) (by rfl) (passes_call (takes_of rfl rfl rfl rfl) fun _ _ _ _ z => z) (pa_cons (pv 1) pa_nil)))
      (pss_one (ps_expr (pe_def (E := E) DY hr (by decide) (by rfl) (passes_call (takes_of rfl rfl rfl rfl) fun _ _ _ _ z => z) (pa_cons (pv 2) pa_nil))))), ?_⟩
    refine ⟨_, rfl, l, rs, rfl, SqL.of hl, for_enum (K := K) (xs := rs) (fun i σ H' => (∃ y3 y4 : Option V, σ = [some (.ref l), some (.int n), some (.str t), y3, y4]) ∧ Same H H') ⟨⟨_, _, rfl⟩, Same.refl _⟩ (fun i σ H' _ z => SqL.of (z.2 _ _ hl)) ?_ ?_⟩
    · rintro i x σ H1 T0 hx ⟨⟨y3, y4, rfl⟩, s1⟩ nT
      obtain ⟨e, he, r⟩ := hE.get hx
      have s2 := same_new (o := HO.tup [.int (i : Nat), x]) nT
      obtain ⟨qa, wa, u, s, rfl, eq, hw, lw⟩ := r.same (s1.trans s2)
      refine ⟨T0, _, rfl, SqT.of upd_same, rfl, _, _, rfl, _, _, rfl, rfl, ?_⟩
      have s12 := s1.trans s2
      generalize upd H1 T0 (.tup [.int (i : Nat), .ref qa]) = H2 at s12 eq hw ⊢
      clear s2
      dsimp only [gName, List.set]
      refine ⟨_, rfl, by show 2 ≤ sizeLine; decide, fun p np => ?_⟩
      have s3 := same_new (o := HO.tup [.ty "list", .ty "tuple"]) np
      refine ⟨.ref qa, p, [.ty "list", .ty "tuple"], .type "tuple", [.type "list", .type "tuple"], true, rfl, upd_same, .cons (.ty _) (.cons (.ty _) .nil), .base (.tup (s3 _ _ eq)), kit_tup, _, rfl, iteF ?_⟩
      have eq := s3 _ _ eq
      have hw := hw.same s3
      have s13 := s12.trans s3
      generalize upd H2 p (.tup [.ty "list", .ty "tuple"]) = H3 at s13 eq hw ⊢
      clear s3 np
      refine ⟨_, rfl, qa, [.ref wa, .int (e.2 : Nat)], rfl, .inr (SqT.of eq), rfl, _, rfl, ite2 (fun z => absurd z (by simp)) (fun _ => ?_)⟩
      obtain ⟨dw, ew⟩ := id hw
      refine ⟨_, rfl, qa, _, 0, _, rfl, rfl, SqT.of eq, rfl, _, _, _, _, true, rfl, .own W, .base (.ins ew T.cls I.ha I.hn I.ht I.hm), by unfold PySem.W.kitOne; rw [if_pos (by simp)], _, rfl, iteF ?_⟩
      refine ⟨_, rfl, qa, _, 1, _, rfl, rfl, SqT.of eq, rfl, .int (e.2 : Nat), rfl, .int _, ?_⟩
      rw [isWh_cast]
      exact ⟨_, rfl, iteF ⟨⟨_, _, rfl⟩, s13⟩⟩
    · rintro σ H1 ⟨⟨y3, y4, rfl⟩, s1⟩
      refine ⟨_, rfl, .int n, rfl, .int _, fun _ => ?_, fun z => isWh_no z⟩
      exact ⟨_, rfl, .str t, rfl, .str _, fun _ => q H1 s1, fun e => absurd ((isWay_ok ht).symm.trans e) (by decide)⟩
end
end K50

/-! k50: entries in units; the total behind one. -/
namespace Own
open PySem PySem.Spec PyProof.Rows L2 LamX NdefX
theorem div_nat {x U : Int} (h : 0 < U) : (x / U).natAbs ≤ x.natAbs + 1 := by
  have e : near x U "floor" = x / U := by
    unfold near
    split
    · rfl
    · rw [goes_none (k := 4) (by decide +kernel) (by decide +kernel)]
      rw [if_neg (by show ¬ false = true; decide)]
  have := near_nat (n := x) h "floor"
  rw [e] at this
  exact this
theorem stp_nat {U x s : Int} (t : Str) (h : 0 < U) : (stp U x t s).natAbs ≤ s.natAbs + (x.natAbs + 2) := by
  have a := div_nat (x := x) h
  rw [stp_eq h]
  split
  · omega
  · split <;> omega
theorem run_nat {U x : Int} (t : Str) (h : 0 < U) : ∀ (m : Nat) (s : Int), (run U x t m s).natAbs ≤ s.natAbs + m * (x.natAbs + 2)
  | 0, s => by show s.natAbs ≤ _; omega
  | m + 1, s => by
    rw [run_snoc, Nat.succ_mul]
    have a := stp_nat (x := x) (s := run U x t m s) t h
    have b := run_nat (x := x) t h m s
    omega
theorem mul_nat {a b i j : Nat} (h : a < 2 ^ i) (k : b < 2 ^ j) : a * b < 2 ^ (i + j) := by
  rw [Nat.pow_add]
  exact Nat.mul_lt_mul'' h k
theorem add_two {a b i : Nat} (h : a < 2 ^ i) (k : b < 2 ^ i) : a + b < 2 ^ (i + 1) := by
  rw [Nat.pow_succ]
  omega
end Own
namespace K50
open PySem PySem.Spec PyProof.Rows L2 LamX NdefX Own
def lcScope : Expr → Scope
  | .ListComp _ _ s _ => s
  | _ => ⟨.function, [], false, false, []⟩
def retE : Stmt → Expr
  | .Return (some e) _ => e
  | _ => .Constant .none 0 ⟨0, 0, 0, 0⟩
abbrev nIU : List Str := ["entries", "scale", "way", "worth", "times"]
theorem blkIU : BlkOk nIU (defScope pIU) (lcScope (retE ((defBody pIU).getD 0 (.Pass ⟨0, 0, 0, 0⟩)))) [("worth", 3), ("times", 4)] := blkOk_by (by decide +kernel)
section
variable {P : Program} {w : World} {K : PySem.W.Frag} {mg : Str → Option Value} {base : Heap} {C W En : Addr}
theorem scIU : FnScope ["entries", "scale", "way", "worth", "times"] ["entries", "scale", "way"] (defScope pIU) := ⟨rfl, rfl, rfl, by decide +kernel, rfl, by decide +kernel, by decide +kernel⟩
/-- an Entry of such a pair -/
def RowEn (En : Addr) (p : Nat) (t : Str) (H : Hp) (r : V) (e : Int × Nat) : Prop := ∃ a : Addr, r = .ref a ∧ EnAt En H a (e.2 : Nat) e.1 p t
theorem RowEn.same {p : Nat} {t : Str} {H H' : Hp} {r : V} {e : Int × Nat} (h : RowEn En p t H r e) (z : Same H H') : RowEn En p t H' r e := by
  obtain ⟨a, e1, e2⟩ := h
  exact ⟨a, e1, e2.same z⟩
theorem RowEn.put {p : Nat} {t : Str} {H : Hp} {r : V} {e : Int × Nat} {D : Addr} {l : List V} {o : HO} (h : RowEn En p t H r e) (hD : H D = some (.lst l)) : RowEn En p t (upd H D o) r e := by
  obtain ⟨a, e1, dx, e2⟩ := h
  exact ⟨a, e1, dx, (upd_ne (ne_of e2 hD (by intro z; cases z))).trans e2⟩
def spIU (W En : Addr) : Sp := fun vs H Q _ => ∃ (l : Addr) (es : List (Int × Nat)) (n m : Nat) (t : Str), vs = [.ref l, .int n, .str t] ∧ PairsAt W m H l es ∧ n ≤ m ∧ m ≤ 200 ∧ es.length ≤ 1000 ∧ (∀ e ∈ es, e.1.natAbs < 2 ^ 300) ∧ t ∈ waysL ∧
  ∀ (D : Addr) (rs : List V) (H' : Hp), Same H H' → H' D = some (.lst rs) → Ents (RowEn En (m - n) t H') rs es → Q (.ref D) H'
theorem ok_iU (A : At K mg "entries_in_units" pIU ["entries", "scale", "way"]) (TE : EntryC K mg En) (ME : EMk P w K mg base W En) : DefOk P w K mg base (L2.CX P w) "entries_in_units" 18 ["entries", "scale", "way"] (spIU W En) := by
  refine A.ok fun f fd F => F.okX scIU (fun vs H Q E h => ?_) (fun cdv A outer s0 H vs Q E hr h => ?_)
  · obtain ⟨l, es, n, m, t, rfl, _⟩ := h
    rfl
  · obtain ⟨l, es, n, m, t, rfl, ⟨rs, hl, hE⟩, hn, hm, hlen, hb, ht, q⟩ := h
    have nd := scIU.nd
    refine ⟨_, pss_one (ps_ret (pe_lc (g := gTup K 2 (gCons (gName 3) (gCons (gName 4) gNil))) (own := [("worth", 3), ("times", 4)]) (te := tCall (spEntry W En) [] E0 (tCons (tVar 3) (tCons (tVar 4) (tCons (tVar 1) (tCons (tVar 2) tNil))))) rfl nd (pi_list (pv 0)) blkIU (fun _ _ _ _ _ => by exact (pg_tup rfl (pgs_cons (pg_name (i := 3) nd rfl (.inl rfl)) (pgs_cons (pg_name (i := 4) nd rfl (.inl rfl)) pgs_nil)))) (fun _ _ _ _ _ => pts_nil) (fun _ _ _ _ _ => (pe_entry (W := W) (E := E0) ME TE hr (by decide) (by rfl) passL (pa_cons (pv 3) (pa_cons (pv 4) (pa_cons (pv 1) (pa_cons (pv 2) pa_nil)))))))), ?_⟩
    have len := hE.len
    refine ⟨_, rfl, l, rfl, ⟨_, SqL.of hl⟩, fun D nD => lc_list (K := K) (xs := rs) (fun i H' => Same H H' ∧ H D = none ∧ ∃ acc, H' D = some (.lst acc) ∧ Ents (RowEn En (m - n) t H') acc (es.take i)) ⟨same_new nD, nD, [], upd_same, by rw [List.take_zero]; exact .nil⟩ (fun i H' _ z => SqL.of (z.1 _ _ hl)) ?_ ?_⟩
    · rintro i x H1 hx ⟨s1, nD, acc, hD, hA⟩
      obtain ⟨e, he, r⟩ := hE.get hx
      obtain ⟨qa, wa, u, s, rfl, eq, hw, lw⟩ := r.same s1
      refine ⟨qa, _, rfl, SqT.of eq, rfl, _, _, rfl, _, _, rfl, rfl, rfl, ?_⟩
      unfold tYes
      dsimp only
      rw [if_pos rfl]
      have hi : i < es.length := (List.getElem?_eq_some_iff.mp he).1
      have he' : e ∈ es := List.mem_of_getElem? he
      refine ⟨_, rfl, _, rfl, _, rfl, _, rfl, wa, u, s, n, m, e.1, (e.2 : Nat), t, rfl, hw, lw, hn, hm, up_two (hb e he') (by decide), ht, fun a H2 s2 na hen => ⟨acc, s2 _ _ hD, ?_, ?_, nD, acc ++ [.ref a], upd_same, ?_⟩⟩
      · have := hA.len
        have := sizeLine_eq
        rw [List.length_take] at *
        omega
      · intro b o eb
        have z := s2 _ _ (s1 _ _ eb)
        rw [upd_ne (ne_of_none eb nD)]
        exact z
      · rw [show es.take (i + 1) = es.take i ++ [e] by rw [List.take_succ, he]; rfl]
        refine Ents.snoc (hA.mono fun x' e' r' => (r'.same s2).put (s2 _ _ hD)) ?_
        exact RowEn.put ⟨a, rfl, hen⟩ (s2 _ _ hD)
    · rintro H1 ⟨s1, nD, acc, hD, hA⟩
      rw [show es.take rs.length = es by rw [len]; exact List.take_length] at hA
      exact q D acc H1 s1 hD hA
end
end K50

/-! own layer, of no law: OWNV: != of lists whose parts are compared by an own class; a target that takes lists and tuples. -/
namespace Own
open PySem PySem.SeqAt GQ
open AutoSeq1 SeqRoads2
open MeetsSeq3 MeetsSeq2 MeetsSeq
section
variable {prog : Program} {w : World} {A : Around} {R : Result → Shared → Prop}
theorem ne_steps (p q : Addr) (M : Nat) (J : Nat → Shared → Prop) (step : ListI prog w A (fun e z => R (.error e) z) p q M J) (last : ∀ z, J M z → R (.ok (.ret (.bool false))) z) (left : Nat) :
    ∀ j : Nat, M - j = left → j ≤ M → ∀ z, J j z → wpAny (model prog w) A.in1 (Builtin.«list.__eq__.loop» ⟨[.ref p, .ref q, rawInt j, rawInt 3], []⟩) (FinOf prog w A R) (fun e z => R (.error e) z) z := by
  induction left with
  | zero =>
    intro j hj hM z hz
    obtain ⟨us, vs, m, m2, up, uq, zu, zv, _⟩ := step _ _ hz
    have jM : j = M := by omega
    have done : R (.ok (.ret (.bool false))) z := last z (jM ▸ hz)
    obtain ⟨hp, g, d, tk, os⟩ := z
    wp_walk using wpAny_loadPart' up, wpAny_loadPart' uq
    have nu : us[((j : Nat) : Int).toNat]? = none := by simp; omega
    have nv : vs[((j : Nat) : Int).toNat]? = none := by simp; omega
    rw [nu, nv]
    wp_walk using wpAny_loadPart' up, wpAny_loadPart' uq
    show R (.ok (.ret (.bool (us.size != vs.size)))) _
    rw [zu, zv]
    simpa using done
  | succ left more =>
    intro j hj hM z hz
    obtain ⟨us, vs, m, m2, up, uq, zu, zv, turn⟩ := step _ _ hz
    have ju : j < us.size := by omega
    have jv : j < vs.size := by omega
    have tj := turn ju jv
    obtain ⟨hp, g, d, tk, os⟩ := z
    wp_walk using wpAny_loadPart' up, wpAny_loadPart' uq
    have nu : us[((j : Nat) : Int).toNat]? = some us[j] := by simp [ju]
    have nv : vs[((j : Nat) : Int).toNat]? = some vs[j] := by simp [jv]
    have nx : ((j : Int) + 1) = ((j + 1 : Nat) : Int) := by omega
    rw [nu, nv]
    refine wpAny_bind (wpAny_mono tj (fun b z2 y => ?_) fun _ _ x => x)
    obtain ⟨rfl, y⟩ := y
    have rest := more (j + 1) (by omega) (by omega) z2 y
    obtain ⟨hp2, g2, d2, tk2, os2⟩ := z2
    wp_walk
    rw [nx]
    exact ⟨plainId_quiet plain_eq_loop _, codeAny_builtin entry_eq_loop (by rw [Around.under_plainId plain_eq_loop _]; exact rest)⟩
theorem ne_rows (p q : Addr) (M : Nat) (J : Nat → Shared → Prop) (step : ListI prog w A (fun e z => R (.error e) z) p q M J) (last : ∀ z, J M z → R (.ok (.ret (.bool false))) z) {z : Shared} (hz : J 0 z) :
    wpAny (model prog w) A.in1 (Builtin.«list.__ne__» ⟨[.ref p, .ref q], []⟩) (FinOf prog w A R) (fun e z => R (.error e) z) z := by
  obtain ⟨us, vs, m, m2, up, uq, zu, zv, _⟩ := step _ _ hz
  have rest := ne_steps (A := A) (R := R) p q M J step last _ 0 rfl (Nat.zero_le _) z hz
  obtain ⟨hp, g, d, tk, os⟩ := z
  have sb := AutoSeq1.sub_list_list
  have even : ¬ (us.size != vs.size) = true := by simp [zu, zv]
  wp_walk using wpAny_loadPart' up, wpAny_loadPart' uq
  exact ⟨plainId_quiet plain_eq_loop _, codeAny_builtin entry_eq_loop (by rw [Around.under_plainId plain_eq_loop _]; exact rest)⟩
end
section
variable {prog : Program} {w : World} {A : Around} {E : Value → Shared → Prop}
theorem ne_lists {p q : Addr} {M : Nat} {Q : Value → Shared → Prop} {z : Shared} (hu : A.units < cLine) (J : Nat → Shared → Prop) (step : ListI prog w A E p q M J) (last : ∀ z, J M z → Q (.bool false) z) (hz : J 0 z) :
    wpAny (model prog w) A (richCompare .NotEq (.ref p) (.ref q)) Q E z := by
  obtain ⟨us, vs, m, m2, up, uq, _, _, _⟩ := step _ _ hz
  refine wpAny_richCompare_same_room (op := .NotEq) ⟨_, up, rfl⟩ ⟨_, uq, rfl⟩ F.slot_list_ne (call_here F.slot_list_ne ⟨_, up, rfl⟩ F.entry_list_ne (F.args_list_ne_2 _ _) ?_) hu
  exact ne_rows (R := wants (fun v z => v ≠ .notImplemented ∧ Q v z) E) p q M J step (fun z y => ⟨(fun x => nomatch x), last z y⟩) hz
end
end Own
namespace Own
open PySem PySem.Spec PyProof.Rows L2 LamX NdefX
section
variable {X : Cx} {n : Nat} {D : Eqv}
/-- lists whose parts are alike, compared by != -/
theorem op_neL (hD : Mon D) (h : EqG X n D) (hr : Room (n + 1) X.A) : OpR X (compareOp .NotEq) (fun x y H Q => DList D x y H ∧ ∀ H', Ext H H' → Q (.bl false) H') := by
  intro pins s σ H x y v u Q I rx ry hy
  obtain ⟨⟨a, b, xs, ys, rfl, rfl, ha, hb, pr⟩, q⟩ := hy
  cases rx
  cases ry
  have sb : L2.Sub X (n + 1) X.A := ⟨hr, rfl⟩
  show wpAny (model X.prog X.w) X.A (richCompare .NotEq (.ref a) (.ref b)) (EP X pins σ Q) X.xe s
  refine wpAny_mono (ne_lists (Q := fun v z => v = .bool false ∧ LoopI X pins σ H z) (M := xs.length) sb.room.units0 (fun _ z => LoopI X pins σ H z) (fun i z y => ?_) (fun z y => ⟨rfl, y⟩) ⟨H, I, Ext.rfl'⟩) (fun r z y => ?_) fun _ _ x => x
  · obtain ⟨H1, I1, e1⟩ := id y
    obtain ⟨z1, is1, k1, r1, g1⟩ := I1.hok a _ (e1 _ _ ha)
    obtain ⟨z2, is2, k2, r2, g2⟩ := I1.hok b _ (e1 _ _ hb)
    refine ⟨is1.toArray, is2.toArray, k1, k2, g1, g2, by rw [List.size_toArray, ← r1.length], by rw [List.size_toArray, ← r2.length, ← pr.1], fun h1 h2 => ?_⟩
    exact turnG hD h sb pr r1 r2 i h1 h2 z y
  · obtain ⟨rfl, H', I', e⟩ := y
    exact ⟨.bl false, H', I', rfl, q H' e⟩
/-- a, b = x where x is a list or a tuple -/
def gSq (K : PySem.W.Frag) (m : Nat) (t : TGs) : TG := fun v σ H Q => gTup K m t v σ H Q ∨ gLst K m t v σ H Q
theorem pg_sq {pos : Pos} {es : List Expr} {k m : Nat} {t : TGs} (hc : X.calm = true) (h : PGs X es t) (hn : (assignEach es X.env).length = m := by rfl) (hst : (assignEach es X.env).findIdx? (·.1) = none := by rfl) : PG X (.Tuple es k pos) (gSq X.K m t) := by
  refine ⟨fun ps z τ G v u Q I r w2 => ?_⟩
  rcases w2 with y | y
  · exact (pg_tup (k := k) (pos := pos) hc h hn hst).run ps z τ G v u Q I r y
  · exact (pg_lst (k := k) (pos := pos) hc h hn hst).run ps z τ G v u Q I r y
end
end Own

/-! k50: entries of any kind, and what is refused. -/
namespace K50
open PySem PySem.Spec PyProof.Rows L2 LamX NdefX Own
section
variable {P : Program} {w : World} {K : PySem.W.Frag} {mg : Str → Option Value} {base : Heap} {C CB W En : Addr}
theorem kit_lst {K : PySem.W.Frag} : PySem.W.kitAny K (.type "list") [.type "list", .type "tuple"] = some true :=
  kitAny_cons (b := true) (kit_ty (show kitB "list" "list" = some true by decide +kernel)) (fun z => nomatch z) (fun _ => rfl)
theorem kit_int {K : PySem.W.Frag} : PySem.W.kitAny K (.type "int") [.type "list", .type "tuple"] = some false :=
  kitAny_cons (b := false) (kit_ty (show kitB "int" "list" = some false by decide +kernel)) (fun _ => kitAny_cons (b := false) (kit_ty (show kitB "int" "tuple" = some false by decide +kernel)) (fun _ => rfl) (fun z => nomatch z)) (fun z => nomatch z)
theorem kit_non {K : PySem.W.Frag} : PySem.W.kitAny K (.type "NoneType") [.type "list", .type "tuple"] = some false :=
  kitAny_cons (b := false) (kit_ty (show kitB "NoneType" "list" = some false by decide +kernel)) (fun _ => kitAny_cons (b := false) (kit_ty (show kitB "NoneType" "tuple" = some false by decide +kernel)) (fun _ => rfl) (fun z => nomatch z)) (fun z => nomatch z)
/-- a pair or a list of a worth of x parts, at m places, and its times -/
def ItemAt (W : Addr) (m : Nat) (H : Hp) (r : V) (e : Int × Nat) : Prop := ∃ (q wa : Addr) (u : Int) (s : Nat), r = .ref q ∧ (H q = some (.tup [.ref wa, .int (e.2 : Nat)]) ∨ H q = some (.lst [.ref wa, .int (e.2 : Nat)])) ∧ WAt W H wa u s ∧ IsLow e.1 m u s
theorem ItemAt.same {m : Nat} {H H' : Hp} {r : V} {e : Int × Nat} (h : ItemAt W m H r e) (z : Same H H') : ItemAt W m H' r e := by
  obtain ⟨q, wa, u, s, e1, e2, e3, e4⟩ := h
  exact ⟨q, wa, u, s, e1, e2.imp (z _ _) (z _ _), e3.same z, e4⟩
/-- what is no entry -/
inductive BadItem (W : Addr) (H : Hp) : V → Prop where
  | non : BadItem W H .non
  | int (i : Int) : BadItem W H (.int i)
  | worth {a : Addr} {u : Int} {s : Nat} (h : WAt W H a u s) : BadItem W H (.ref a)
  | size {q : Addr} {xs : List V} (h : H q = some (.tup xs)) (n : xs.length ≠ 2) : BadItem W H (.ref q)
  | first {q : Addr} {x y : V} (h : H q = some (.tup [x, y])) (t : okF x = true) : BadItem W H (.ref q)
  | times {q wa : Addr} {u : Int} {s : Nat} {y : V} (h : H q = some (.tup [.ref wa, y])) (hw : WAt W H wa u s) (t : okF y = true) (n : isWh y = false) : BadItem W H (.ref q)
theorem BadItem.same {H H' : Hp} {v : V} (h : BadItem W H v) (z : Same H H') : BadItem W H' v := by
  cases h with
  | non => exact .non
  | int i => exact .int i
  | worth h => exact .worth (h.same z)
  | size h n => exact .size (z _ _ h) n
  | first h t => exact .first (z _ _ h) t
  | times h hw t n => exact .times (z _ _ h) (hw.same z) t n
def spNE2 (C CB W : Addr) : Sp := fun vs H Q E => ∃ (l : Addr) (x y : V) (pre post : List V) (es : List (Int × Nat)) (m : Nat), vs = [.ref l, x, y] ∧ H l = some (.lst (pre ++ post)) ∧ Ents (ItemAt W m H) pre es ∧ Thing H x ∧ Thing H y ∧
  ((∃ (v : V) (rest : List V), post = v :: rest ∧ BadItem W H v ∧ Bad CB "index" (.int (pre.length : Nat)) H E) ∨ (post = [] ∧ (isWh x = false → Bad C "value" x H E) ∧ (isWh x = true → isWay y = false → Bad C "value" y H E) ∧ (isWh x = true → isWay y = true → ∀ H', Same H H' → Q .non H')))
theorem ok_nE2 (A : At K mg "need_entries" pNE ["entries", "scale", "way"]) (B : Blt mg) (mE : mg "enumerate" = none) (T : WorthC K mg W) (I : WIs K W) (kW : PySem.W.kitAny K (.ref W) [.type "list", .type "tuple"] = some false) (TB : ErrC P w K mg base "BadEntry" "index" 1 CB (spErr CB "index")) (DI : DefOk P w K mg base CX0 "is_whole_number" 2 ["value"] spIsWh)
    (DW : DefOk P w K mg base (L2.CX P w) "need_whole_number" 3 ["value"] (spNWh C)) (DY : DefOk P w K mg base (L2.CX P w) "need_way" 3 ["value"] (spNWay C)) : DefOk P w K mg base (L2.CX P w) "need_entries" 4 ["entries", "scale", "way"] (spNE2 C CB W) := by
  refine A.ok fun f fd F => F.okX scNE (fun vs H Q E h => ?_) (fun cdv A outer s0 H vs Q E hr h => ?_)
  · obtain ⟨l, x, y, pre, post, es, m, rfl, _⟩ := h
    rfl
  · obtain ⟨l, sx, sy, pre, post, es, m, rfl, hl, hE, tx, ty, h⟩ := h
    have nd := scNE.nd
    refine ⟨_, pss_cons (ps_for (passes_of rfl) rfl (pi_enum (by rfl) mE (pa_cons (pv 0) pa_nil)) (pg_tup rfl (pgs_cons (pg_name (i := 3) nd rfl (.inl rfl)) (pgs_cons (pg_name (i := 4) nd rfl (.inl rfl)) pgs_nil))) (pss_cons (ps_if (PW.pt (pw_or (pt_not (pt_val (pe_callB call_isiT (by rfl) B.isi (by decide +kernel) (pa_cons (pv 4) (pa_cons (pe_tup (pa_cons (pe_bltn (v := .ty "list") (by rfl) B.list (by decide +kernel) rfl) (pa_cons (pe_bltn (v := .ty "tuple") (by rfl) B.tuple (by decide +kernel) rfl) pa_nil))) pa_nil))))) (pw_or1 (pt_cmpR op_ne (pe_callB call_len_seq (by rfl) B.len PySem.boot_len (pa_cons (pv 4) pa_nil)) pe_int (nomark _))))) (pss_one (ps_raise rfl (takes_of rfl rfl rfl rfl) (pmk_err TB hr (by decide) (by rfl) (pv 3)))) pss_nil) (pss_one (ps_if (PW.pt (pw_or (pt_not (pt_val (pe_callB call_isi (by rfl) B.isi (by decide +kernel) (pa_cons (pe_ix ix_seq (pv 4) pe_int (fun _ _ => rfl)) (pa_cons (pe_glob (v := .ref W) (by rfl) T.g rfl) pa_nil))))) (pw_or1 (pt_not (pt_val (pe_def DI hr (by decide) (by rfl) pass0 (pa_cons (pe_ix ix_seq (pv 4) pe_int (fun _ _ => rfl)) pa_nil))))))) (pss_one (ps_raise rfl (takes_of rfl rfl rfl rfl) (pmk_err TB hr (by decide) (by rfl) (pv 3)))) pss_nil))))
      (pss_cons (ps_expr (pe_def (E := E) DW hr (by decide) (by rfl) (passes_call (takes_of rfl rfl rfl rfl) fun _ _ _ _ z => z) (pa_cons (pv 1) pa_nil)))
      (pss_one (ps_expr (pe_def (E := E) DY hr (by decide) (by rfl) (passes_call (takes_of rfl rfl rfl rfl) fun _ _ _ _ z => z) (pa_cons (pv 2) pa_nil))))), ?_⟩
    refine ⟨_, rfl, l, pre ++ post, rfl, SqL.of hl, for_enum (K := K) (xs := pre ++ post) (fun i σ H' => (∃ y3 y4 : Option V, σ = [some (.ref l), some sx, some sy, y3, y4]) ∧ Same H H' ∧ i ≤ pre.length) ⟨⟨_, _, rfl⟩, Same.refl _, Nat.zero_le _⟩ (fun i σ H' _ z => SqL.of (z.2.1 _ _ hl)) ?_ ?_⟩
    · rintro i x σ H1 T0 hx ⟨⟨y3, y4, rfl⟩, s1, hi⟩ nT
      have s2 := same_new (o := HO.tup [.int (i : Nat), x]) nT
      refine ⟨T0, _, rfl, SqT.of upd_same, rfl, _, _, rfl, _, _, rfl, rfl, ?_⟩
      have s12 := s1.trans s2
      generalize upd H1 T0 (.tup [.int (i : Nat), x]) = H2 at s12 ⊢
      clear s2
      dsimp only [gName, List.set]
      refine ⟨_, rfl, by show 2 ≤ sizeLine; decide, fun p np => ?_⟩
      have s3 := same_new (o := HO.tup [.ty "list", .ty "tuple"]) np
      have ep : upd H2 p (.tup [.ty "list", .ty "tuple"]) p = some (.tup [.ty "list", .ty "tuple"]) := upd_same
      have s13 := s12.trans s3
      generalize upd H2 p (.tup [.ty "list", .ty "tuple"]) = H3 at s13 ep ⊢
      clear s3 np
      by_cases hp : i < pre.length
      · rw [List.getElem?_append_left hp] at hx
        obtain ⟨e, he, r⟩ := hE.get hx
        obtain ⟨qa, wa, u, s, rfl, eq, hw, lw⟩ := r.same s13
        obtain ⟨dw, ew⟩ := id hw
        rcases eq with eq | eq
        · refine ⟨.ref qa, p, [.ty "list", .ty "tuple"], .type "tuple", [.type "list", .type "tuple"], true, rfl, ep, .cons (.ty _) (.cons (.ty _) .nil), .base (.tup eq), kit_tup, _, rfl, iteF ?_⟩
          refine ⟨_, rfl, qa, [.ref wa, .int (e.2 : Nat)], rfl, .inr (SqT.of eq), rfl, _, rfl, ite2 (fun z => absurd z (by simp)) (fun _ => ?_)⟩
          refine ⟨_, rfl, .inr (.inl ⟨qa, _, 0, _, rfl, rfl, SqT.of eq, rfl, _, _, _, _, true, rfl, .own W, .base (.ins ew T.cls I.ha I.hn I.ht I.hm), by unfold PySem.W.kitOne; rw [if_pos (by simp)], _, rfl, iteF ?_⟩)⟩
          refine ⟨_, rfl, .inr (.inl ⟨qa, _, 1, _, rfl, rfl, SqT.of eq, rfl, .int (e.2 : Nat), rfl, .int _, ?_⟩)⟩
          rw [isWh_cast]
          exact ⟨_, rfl, iteF ⟨⟨_, _, rfl⟩, s13, hp⟩⟩
        · refine ⟨.ref qa, p, [.ty "list", .ty "tuple"], .type "list", [.type "list", .type "tuple"], true, rfl, ep, .cons (.ty _) (.cons (.ty _) .nil), .base (.lst eq), kit_lst, _, rfl, iteF ?_⟩
          refine ⟨_, rfl, qa, [.ref wa, .int (e.2 : Nat)], rfl, .inl (SqL.of eq), rfl, _, rfl, ite2 (fun z => absurd z (by simp)) (fun _ => ?_)⟩
          refine ⟨_, rfl, .inl ⟨qa, _, 0, _, rfl, rfl, SqL.of eq, rfl, _, _, _, _, true, rfl, .own W, .base (.ins ew T.cls I.ha I.hn I.ht I.hm), by unfold PySem.W.kitOne; rw [if_pos (by simp)], _, rfl, iteF ?_⟩⟩
          refine ⟨_, rfl, .inl ⟨qa, _, 1, _, rfl, rfl, SqL.of eq, rfl, .int (e.2 : Nat), rfl, .int _, ?_⟩⟩
          rw [isWh_cast]
          exact ⟨_, rfl, iteF ⟨⟨_, _, rfl⟩, s13, hp⟩⟩
      · obtain rfl : i = pre.length := by omega
        rw [List.getElem?_append_right (Nat.le_refl _), Nat.sub_self] at hx
        rcases h with ⟨v, rest, rfl, bi, bad⟩ | ⟨rfl, _⟩
        · obtain rfl : v = x := by simpa using hx
          have bad := bad.same s13
          cases bi.same s13 with
          | non => exact ⟨.non, p, [.ty "list", .ty "tuple"], .type "NoneType", [.type "list", .type "tuple"], false, rfl, ep, .cons (.ty _) (.cons (.ty _) .nil), .base .non, kit_non, _, rfl, iteT ⟨_, rfl, bad_mk bad⟩⟩
          | int i => exact ⟨.int i, p, [.ty "list", .ty "tuple"], .type "int", [.type "list", .type "tuple"], false, rfl, ep, .cons (.ty _) (.cons (.ty _) .nil), .base (.int i), kit_int, _, rfl, iteT ⟨_, rfl, bad_mk bad⟩⟩
          | worth hw =>
            obtain ⟨dw, ew⟩ := hw
            exact ⟨_, p, [.ty "list", .ty "tuple"], .ref W, [.type "list", .type "tuple"], false, rfl, ep, .cons (.ty _) (.cons (.ty _) .nil), .base (.ins ew T.cls I.ha I.hn I.ht I.hm), kW, _, rfl, iteT ⟨_, rfl, bad_mk bad⟩⟩
          | @size qq zs eq n =>
            refine ⟨_, p, [.ty "list", .ty "tuple"], .type "tuple", [.type "list", .type "tuple"], true, rfl, ep, .cons (.ty _) (.cons (.ty _) .nil), .base (.tup eq), kit_tup, _, rfl, iteF ?_⟩
            have k : ¬ V.int ((zs.length : Nat) : Int) = V.int 2 := fun y => n (by have := V.int.inj y; omega)
            exact ⟨_, rfl, _, _, rfl, .inr (SqT.of eq), rfl, _, rfl, ite2 (fun z => ⟨_, rfl, bad_mk bad⟩) (fun z => absurd (show (!decide (V.int ((zs.length : Nat) : Int) = V.int 2)) = true by rw [decide_eq_false k]; rfl) z)⟩
          | first eq t =>
            refine ⟨_, p, [.ty "list", .ty "tuple"], .type "tuple", [.type "list", .type "tuple"], true, rfl, ep, .cons (.ty _) (.cons (.ty _) .nil), .base (.tup eq), kit_tup, _, rfl, iteF ?_⟩
            refine ⟨_, rfl, _, _, rfl, .inr (SqT.of eq), rfl, _, rfl, ite2 (fun z => absurd z (by simp)) (fun _ => ?_)⟩
            obtain ⟨ty', hty, tx'⟩ := (Odd.flat (H := H3) t).thing.tyx (K := K)
            exact ⟨_, rfl, .inr (.inl ⟨_, _, 0, _, rfl, rfl, SqT.of eq, rfl, _, _, _, _, false, rfl, .own W, tx', I.no ty' hty, _, rfl, iteT ⟨_, rfl, bad_mk bad⟩⟩)⟩
          | times eq hw t n =>
            obtain ⟨dw, ew⟩ := hw
            refine ⟨_, p, [.ty "list", .ty "tuple"], .type "tuple", [.type "list", .type "tuple"], true, rfl, ep, .cons (.ty _) (.cons (.ty _) .nil), .base (.tup eq), kit_tup, _, rfl, iteF ?_⟩
            refine ⟨_, rfl, _, _, rfl, .inr (SqT.of eq), rfl, _, rfl, ite2 (fun z => absurd z (by simp)) (fun _ => ?_)⟩
            refine ⟨_, rfl, .inr (.inl ⟨_, _, 0, _, rfl, rfl, SqT.of eq, rfl, _, _, _, _, true, rfl, .own W, .base (.ins ew T.cls I.ha I.hn I.ht I.hm), by unfold PySem.W.kitOne; rw [if_pos (by simp)], _, rfl, iteF ?_⟩)⟩
            refine ⟨_, rfl, .inr (.inl ⟨_, _, 1, _, rfl, rfl, SqT.of eq, rfl, _, rfl, (Odd.flat (H := H3) t).thing, ?_⟩)⟩
            rw [n]
            exact ⟨_, rfl, iteT ⟨_, rfl, bad_mk bad⟩⟩
        · simp at hx
    · rintro σ H1 ⟨⟨y3, y4, rfl⟩, s1, hi⟩
      rcases h with ⟨v, rest, rfl, _⟩ | ⟨rfl, q1, q2, q3⟩
      · rw [List.length_append, List.length_cons] at hi
        omega
      refine ⟨_, rfl, sx, rfl, tx.same s1, fun hx => ?_, fun hx => (q1 hx).same s1⟩
      exact ⟨_, rfl, sy, rfl, ty.same s1, fun hy => q3 hx hy H1 s1, fun hy => (q2 hx hy).same s1⟩
end
end K50

/-! k50: entries of any kind in units; the total of rounded entries. -/
namespace K50
open PySem PySem.Spec PyProof.Rows L2 LamX NdefX Own
section
variable {P : Program} {w : World} {K : PySem.W.Frag} {mg : Str → Option Value} {base : Heap} {C CB W En : Addr}
def spIU2 (W En : Addr) : Sp := fun vs H Q _ => ∃ (l : Addr) (xs : List V) (es : List (Int × Nat)) (n m : Nat) (t : Str), vs = [.ref l, .int n, .str t] ∧ H l = some (.lst xs) ∧ Ents (ItemAt W m H) xs es ∧ n ≤ m ∧ m ≤ 200 ∧ es.length ≤ 1000 ∧ (∀ e ∈ es, e.1.natAbs < 2 ^ 300) ∧ t ∈ waysL ∧
  ∀ (D : Addr) (rs : List V) (H' : Hp), Same H H' → H' D = some (.lst rs) → Ents (RowEn En (m - n) t H') rs es → Q (.ref D) H'
theorem ok_iU2 (A : At K mg "entries_in_units" pIU ["entries", "scale", "way"]) (TE : EntryC K mg En) (ME : EMk P w K mg base W En) : DefOk P w K mg base (L2.CX P w) "entries_in_units" 18 ["entries", "scale", "way"] (spIU2 W En) := by
  refine A.ok fun f fd F => F.okX scIU (fun vs H Q E h => ?_) (fun cdv A outer s0 H vs Q E hr h => ?_)
  · obtain ⟨l, xs, es, n, m, t, rfl, _⟩ := h
    rfl
  · obtain ⟨l, rs, es, n, m, t, rfl, hl, hE, hn, hm, hlen, hb, ht, q⟩ := h
    have nd := scIU.nd
    refine ⟨_, pss_one (ps_ret (pe_lc (g := gSq K 2 (gCons (gName 3) (gCons (gName 4) gNil))) (own := [("worth", 3), ("times", 4)]) (te := tCall (spEntry W En) [] E0 (tCons (tVar 3) (tCons (tVar 4) (tCons (tVar 1) (tCons (tVar 2) tNil))))) rfl nd (pi_list (pv 0)) blkIU (fun _ _ _ _ _ => by exact (pg_sq rfl (pgs_cons (pg_name (i := 3) nd rfl (.inl rfl)) (pgs_cons (pg_name (i := 4) nd rfl (.inl rfl)) pgs_nil)))) (fun _ _ _ _ _ => pts_nil) (fun _ _ _ _ _ => (pe_entry (W := W) (E := E0) ME TE hr (by decide) (by rfl) passL (pa_cons (pv 3) (pa_cons (pv 4) (pa_cons (pv 1) (pa_cons (pv 2) pa_nil)))))))), ?_⟩
    have len := hE.len
    refine ⟨_, rfl, l, rfl, ⟨_, SqL.of hl⟩, fun D nD => lc_list (K := K) (xs := rs) (fun i H' => Same H H' ∧ H D = none ∧ ∃ acc, H' D = some (.lst acc) ∧ Ents (RowEn En (m - n) t H') acc (es.take i)) ⟨same_new nD, nD, [], upd_same, by rw [List.take_zero]; exact .nil⟩ (fun i H' _ z => SqL.of (z.1 _ _ hl)) ?_ ?_⟩
    · rintro i x H1 hx ⟨s1, nD, acc, hD, hA⟩
      obtain ⟨e, he, r⟩ := hE.get hx
      obtain ⟨qa, wa, u, s, rfl, eq, hw, lw⟩ := r.same s1
      have hi : i < es.length := (List.getElem?_eq_some_iff.mp he).1
      have he' : e ∈ es := List.mem_of_getElem? he
      have fin : ∀ (a : Addr) (H2 : Hp), Same H1 H2 → EnAt En H2 a (e.2 : Nat) e.1 (m - n) t → ∃ acc, H2 D = some (.lst acc) ∧ acc.length < sizeLine ∧ Same H (upd H2 D (.lst (acc ++ [.ref a]))) ∧ H D = none ∧ ∃ acc', upd H2 D (.lst (acc ++ [.ref a])) D = some (.lst acc') ∧ Ents (RowEn En (m - n) t (upd H2 D (.lst (acc ++ [.ref a])))) acc' (es.take (i + 1)) := by
        intro a H2 s2 hen
        refine ⟨acc, s2 _ _ hD, ?_, ?_, nD, acc ++ [.ref a], upd_same, ?_⟩
        · have := hA.len
          have := sizeLine_eq
          rw [List.length_take] at *
          omega
        · intro b o eb
          have z := s2 _ _ (s1 _ _ eb)
          rw [upd_ne (ne_of_none eb nD)]
          exact z
        · rw [show es.take (i + 1) = es.take i ++ [e] by rw [List.take_succ, he]; rfl]
          refine Ents.snoc (hA.mono fun x' e' r' => (r'.same s2).put (s2 _ _ hD)) ?_
          exact RowEn.put ⟨a, rfl, hen⟩ (s2 _ _ hD)
      rcases eq with eq | eq
      · refine .inl ⟨qa, _, rfl, SqT.of eq, rfl, _, _, rfl, _, _, rfl, rfl, rfl, ?_⟩
        unfold tYes
        dsimp only
        rw [if_pos rfl]
        exact ⟨_, rfl, _, rfl, _, rfl, _, rfl, wa, u, s, n, m, e.1, (e.2 : Nat), t, rfl, hw, lw, hn, hm, up_two (hb e he') (by decide), ht, fun a H2 s2 na hen => fin a H2 s2 hen⟩
      · refine .inr ⟨qa, _, rfl, SqL.of eq, rfl, _, _, rfl, _, _, rfl, rfl, rfl, ?_⟩
        unfold tYes
        dsimp only
        rw [if_pos rfl]
        exact ⟨_, rfl, _, rfl, _, rfl, _, rfl, wa, u, s, n, m, e.1, (e.2 : Nat), t, rfl, hw, lw, hn, hm, up_two (hb e he') (by decide), ht, fun a H2 s2 na hen => fin a H2 s2 hen⟩
    · rintro H1 ⟨s1, nD, acc, hD, hA⟩
      rw [show es.take rs.length = es by rw [len]; exact List.take_length] at hA
      exact q D acc H1 s1 hD hA
end
end K50

/-! own layer, of no law: OWNU: what rounding comes to, way by way. -/
namespace Own
open PySem PySem.Spec PyProof.Rows L2 LamX NdefX
theorem low_neg {n d : Int} (h : 0 < d) (r : n % d ≠ 0) : (n / d < 0 ↔ n < 0) ∧ (0 ≤ n / d ↔ ¬ n < 0) := by
  have e := Int.emod_add_mul_ediv n d
  have r0 := Int.emod_nonneg n (show d ≠ 0 by omega)
  have r1 := Int.emod_lt_of_pos n h
  have a : n / d < 0 → n < 0 := fun z => Int.lt_of_not_ge fun y => by
    have := Int.ediv_nonneg y (Int.le_of_lt h)
    omega
  have b : 0 ≤ n / d → ¬ n < 0 := fun z => by
    have y := Int.mul_nonneg (Int.le_of_lt h) z
    omega
  constructor
  · exact ⟨a, fun z => Int.lt_of_not_ge fun y => b y z⟩
  · exact ⟨b, fun z => Int.le_of_not_gt fun y => z (a y)⟩
theorem near_zero {n d : Int} {t : Str} (r : n % d = 0) : near n d t = n / d := by
  unfold near
  rw [if_pos r]
theorem near_up {n d : Int} {t : Str} (r : n % d ≠ 0) : near n d t = n / d + (if goesUp t (n / d) (2 * (n % d) - d) = true then 1 else 0) := by
  unfold near
  rw [if_neg r]
  split <;> omega
theorem near_down {n d : Int} : near n d "floor" = n / d := by
  by_cases r : n % d = 0
  · exact near_zero r
  · rw [near_up r, goes_none (k := 4) (by decide +kernel) (by decide +kernel)]
    show n / d + (if false = true then 1 else 0) = n / d
    rw [if_neg (by decide)]
    omega
theorem near_ceil {n d : Int} (r : n % d ≠ 0) : near n d "ceiling" = n / d + 1 := by
  rw [near_up r, goes_none (k := 3) (by decide +kernel) (by decide +kernel)]
  rfl
/-- 1 where the two are alike, as int() tells it -/
def alk (a b : Bool) : Int := if (decide (a = b)) = true then 1 else 0
theorem near_side {n d : Int} {t : Str} (h : 0 < d) (r : n % d ≠ 0) (ht : t = "cut" ∨ t = "away") : near n d t = n / d + alk (decide (n < 0)) (decide (t = "cut")) := by
  obtain ⟨a, b⟩ := low_neg h r
  rw [near_up r]
  rcases ht with rfl | rfl
  · rw [goes_none (k := 1) (by decide +kernel) (by decide +kernel), decide_eq_true (rfl : ("cut" : Str) = "cut")]
    show n / d + (if decide (n / d < 0) = true then 1 else 0) = _
    rw [decide_eq_decide.mpr a]
    unfold alk
    cases decide (n < 0) <;> rfl
  · rw [goes_none (k := 2) (by decide +kernel) (by decide +kernel), decide_eq_false (show ¬ ("away" : Str) = "cut" by decide +kernel)]
    show n / d + (if decide (0 ≤ n / d) = true then 1 else 0) = _
    rw [decide_eq_decide.mpr b]
    unfold alk
    by_cases z : n < 0
    · rw [decide_eq_true z, decide_eq_false (fun y => y z)]
      rfl
    · rw [decide_eq_false z, decide_eq_true z]
      rfl
theorem near_off {n d : Int} {t : Str} (r : n % d ≠ 0) (ht : t ∈ waysL) (h1 : t ≠ "floor") (h2 : t ≠ "ceiling") (h3 : ¬ (t = "cut" ∨ t = "away")) (p : 2 * (n % d) ≠ d) : near n d t = n / d + (if decide (2 * (n % d) > d) = true then 1 else 0) := by
  obtain ⟨y, hy⟩ : ∃ y, halvL.lookup t = some y := by
    rcases way_cases ht with rfl | rfl | rfl | rfl | rfl | rfl | rfl | rfl | rfl
    · exact absurd rfl h1
    · exact absurd rfl h2
    · exact absurd (.inl rfl) h3
    · exact absurd (.inr rfl) h3
    all_goals exact ⟨_, rfl⟩
  rw [near_up r, goes_some (k := baseK y) hy rfl, if_neg (show ¬ 2 * (n % d) - d = 0 by omega), decide_eq_decide.mpr (show 0 < 2 * (n % d) - d ↔ 2 * (n % d) > d by omega)]
theorem near_even {n d : Int} (r : n % d ≠ 0) (p : 2 * (n % d) = d) : near n d "halfeven" = n / d + n / d % 2 := by
  rw [near_up r, goes_some (k := 0) (y := "even") (by decide +kernel) (by decide +kernel), if_pos (show 2 * (n % d) - d = 0 by omega)]
  show n / d + (if decide (n / d % 2 = 1) = true then 1 else 0) = _
  by_cases y : n / d % 2 = 1
  · rw [decide_eq_true y, if_pos rfl]
    omega
  · rw [decide_eq_false y, if_neg (by decide)]
    omega
theorem near_updn {n d : Int} {t : Str} (r : n % d ≠ 0) (p : 2 * (n % d) = d) (ht : t = "halfup" ∨ t = "halfdown") : near n d t = n / d + (if decide (t = "halfup") = true then 1 else 0) := by
  have z : 2 * (n % d) - d = 0 := by omega
  rw [near_up r]
  rcases ht with rfl | rfl
  · rw [goes_some (k := 3) (y := "ceiling") (by decide +kernel) (by decide +kernel), if_pos z, decide_eq_true (rfl : ("halfup" : Str) = "halfup")]
    rfl
  · rw [goes_some (k := 4) (y := "floor") (by decide +kernel) (by decide +kernel), if_pos z, decide_eq_false (show ¬ ("halfdown" : Str) = "halfup" by decide +kernel)]
    rfl
theorem near_tied {n d : Int} {t : Str} (h : 0 < d) (r : n % d ≠ 0) (p : 2 * (n % d) = d) (ht : t = "halfcut" ∨ t = "halfaway") : near n d t = n / d + alk (decide (n < 0)) (decide (t = "halfcut")) := by
  obtain ⟨a, b⟩ := low_neg h r
  have z : 2 * (n % d) - d = 0 := by omega
  rw [near_up r]
  rcases ht with rfl | rfl
  · rw [goes_some (k := 1) (y := "cut") (by decide +kernel) (by decide +kernel), if_pos z, decide_eq_true (rfl : ("halfcut" : Str) = "halfcut")]
    show n / d + (if decide (n / d < 0) = true then 1 else 0) = _
    rw [decide_eq_decide.mpr a]
    unfold alk
    cases decide (n < 0) <;> rfl
  · rw [goes_some (k := 2) (y := "away") (by decide +kernel) (by decide +kernel), if_pos z, decide_eq_false (show ¬ ("halfaway" : Str) = "halfcut" by decide +kernel)]
    show n / d + (if decide (0 ≤ n / d) = true then 1 else 0) = _
    rw [decide_eq_decide.mpr b]
    unfold alk
    by_cases z : n < 0
    · rw [decide_eq_true z, decide_eq_false (fun y => y z)]
      rfl
    · rw [decide_eq_false z, decide_eq_true z]
      rfl
theorem last_two {t : Str} (ht : t ∈ waysL) (h1 : t ≠ "floor") (h2 : t ≠ "ceiling") (h3 : ¬ (t = "cut" ∨ t = "away")) (h4 : t ≠ "halfeven") (h5 : ¬ (t = "halfup" ∨ t = "halfdown")) : t = "halfcut" ∨ t = "halfaway" := by
  rcases way_cases ht with rfl | rfl | rfl | rfl | rfl | rfl | rfl | rfl | rfl
  · exact absurd rfl h1
  · exact absurd rfl h2
  · exact absurd (.inl rfl) h3
  · exact absurd (.inr rfl) h3
  · exact absurd (.inl rfl) h5
  · exact absurd (.inr rfl) h5
  · exact absurd rfl h4
  · exact .inr rfl
  · exact .inl rfl
/-- single entries, one behind the other -/
def runL (U : Int) (t : Str) (xs : List Int) (s : Int) : Int := xs.foldl (fun s x => stp U x t s) s
theorem runL_app (U : Int) (t : Str) (xs ys : List Int) (s : Int) : runL U t (xs ++ ys) s = runL U t ys (runL U t xs s) := by
  unfold runL
  rw [List.foldl_append]
theorem runL_rep (U x : Int) (t : Str) : ∀ (k : Nat) (s : Int), runL U t (List.replicate k x) s = run U x t k s
  | 0, _ => rfl
  | k + 1, s => runL_rep U x t k (stp U x t s)
theorem stp_zero {U s : Int} {t : Str} (h : 0 < U) : stp U 0 t s = s := by
  rw [stp_eq h, Int.zero_emod, if_pos rfl, Int.zero_ediv]
  omega
theorem run_zero {U : Int} {t : Str} (h : 0 < U) : ∀ (k : Nat) (s : Int), run U 0 t k s = s
  | 0, _ => rfl
  | k + 1, s => by
    show run U 0 t k (stp U 0 t s) = s
    rw [stp_zero h]
    exact run_zero h k s
end Own

/-! own layer, of no law: OWNG: how far a running total is from the total of what is rounded alone. -/
namespace Own
open PySem PySem.Spec PyProof.Rows L2 LamX NdefX
theorem dm_of {x U q r : Int} (h : 0 < U) (e : x = q * U + r) (h0 : 0 ≤ r) (h1 : r < U) : x / U = q ∧ x % U = r :=
  (Int.ediv_emod_unique h).mpr ⟨by rw [e, Int.mul_comm q U]; omega, h0, h1⟩
/-- the running total less what is added alone, from s on -/
def gapS (U : Int) (t : Str) (xs : List Int) (s : Int) : Int := runL U t xs s - s - (xs.map fun x => near x U t).sum
theorem gapS_nil (U : Int) (t : Str) (s : Int) : gapS U t [] s = 0 := by
  show s - s - 0 = 0
  omega
theorem gapS_cons (U : Int) (t : Str) (x : Int) (xs : List Int) (s : Int) : gapS U t (x :: xs) s = (stp U x t s - s - near x U t) + gapS U t xs (stp U x t s) := by
  unfold gapS
  rw [List.map_cons, List.sum_cons]
  show runL U t xs (stp U x t s) - s - _ = _
  omega
theorem runL_cons (U : Int) (t : Str) (x : Int) (xs : List Int) (s : Int) : runL U t (x :: xs) s = runL U t xs (stp U x t s) := rfl
theorem gapS_app (U : Int) (t : Str) : ∀ (xs ys : List Int) (s : Int), gapS U t (xs ++ ys) s = gapS U t xs s + gapS U t ys (runL U t xs s)
  | [], ys, s => by
    rw [gapS_nil]
    show gapS U t ys s = 0 + gapS U t ys s
    omega
  | x :: xs, ys, s => by
    rw [List.cons_append, gapS_cons, gapS_cons, gapS_app U t xs ys, runL_cons]
    omega
/-- what is kept from step to step -/
theorem gap_inv {U : Int} {t : Str} (Φ : Nat → Int → Int → Prop) : ∀ (xs : List Int) (k : Nat) (g s : Int), (∀ k g s x, x ∈ xs → Φ k g s → Φ (k + 1) (g + (stp U x t s - s - near x U t)) (stp U x t s)) → Φ k g s → Φ (k + xs.length) (g + gapS U t xs s) (runL U t xs s)
  | [], k, g, s, _, h => by
    rw [gapS_nil, Int.add_zero]
    exact h
  | x :: xs, k, g, s, st, h => by
    have z := gap_inv Φ xs (k + 1) _ _ (fun k g s y hy => st k g s y (List.mem_cons_of_mem _ hy)) (st k g s x (List.mem_cons_self ..) h)
    rw [gapS_cons, runL_cons]
    rw [show k + (x :: xs).length = k + 1 + xs.length by rw [List.length_cons]; omega]
    rw [show g + (stp U x t s - s - near x U t + gapS U t xs (stp U x t s)) = g + (stp U x t s - s - near x U t) + gapS U t xs (stp U x t s) by omega]
    exact z
def flatW : List Str := ["floor", "ceiling", "halfup", "halfdown"]
theorem near_stp (x U : Int) (t : Str) : near x U t = stp U x t 0 := by
  unfold stp
  rw [Int.zero_mul, Int.zero_add]
theorem loose_no {U x : Int} {t : Str} (h : t ∈ flatW) : isLoose U x t = false := by
  unfold isLoose
  have a : ¬ t ∈ looseL1 := by
    simp only [flatW, List.mem_cons, List.not_mem_nil, or_false] at h
    rcases h with rfl | rfl | rfl | rfl <;> decide +kernel
  have b : ¬ t ∈ looseL2 := by
    simp only [flatW, List.mem_cons, List.not_mem_nil, or_false] at h
    rcases h with rfl | rfl | rfl | rfl <;> decide +kernel
  rw [decide_eq_false a, decide_eq_false b]
  rfl
theorem loose_1 {U x : Int} {t : Str} (h : t ∈ looseL1) : isLoose U x t = decide (x % U ≠ 0) := by
  unfold isLoose
  have b : ¬ t ∈ looseL2 := by
    simp only [looseL1, List.mem_cons, List.not_mem_nil, or_false] at h
    rcases h with rfl | rfl <;> decide +kernel
  rw [decide_eq_true h, decide_eq_false b]
  simp
theorem loose_2 {U x : Int} {t : Str} (h : t ∈ looseL2) : isLoose U x t = decide (2 * (x % U) = U) := by
  unfold isLoose
  have b : ¬ t ∈ looseL1 := by
    simp only [looseL2, List.mem_cons, List.not_mem_nil, or_false] at h
    rcases h with rfl | rfl | rfl <;> decide +kernel
  rw [decide_eq_true h, decide_eq_false b]
  simp
section
variable {U x s : Int} {t : Str}
/-- what one step gains -/
theorem gain_tight (h : 0 < U) (ht : t ∈ waysL) (n : isLoose U x t = false) : stp U x t s - s - near x U t = 0 := by
  rw [stp_tight h ht n]
  omega
theorem near_evenL (h : 0 < U) (l : isLoose U x "halfeven" = true) : near x U "halfeven" = x / U + x / U % 2 := by
  rw [near_stp, stp_even h l, Int.zero_add]
theorem near_sideL (h : 0 < U) (ht : t ∈ waysL) (l : isLoose U x t = true) (ne : t ≠ "halfeven") : near x U t = addS (x / U) t (x / U) := by
  rw [near_stp, stp_side h ht l ne, Int.zero_add, Int.zero_add]
def cutW : List Str := ["cut", "halfcut"]
def awayW : List Str := ["away", "halfaway"]
theorem addS_cut {F a : Int} (h : t ∈ cutW) : addS F t a = if 0 ≤ a then F else F + 1 := by
  have e : t = "cut" ∨ t = "halfcut" := by simpa [cutW] using h
  unfold addS
  by_cases z : 0 ≤ a
  · simp [z, e]
  · simp [z, e]
theorem addS_away {F a : Int} (h : t ∈ awayW) : addS F t a = if 0 ≤ a then F + 1 else F := by
  have e : ¬ (t = "cut" ∨ t = "halfcut") := by
    simp only [awayW, List.mem_cons, List.not_mem_nil, or_false] at h
    rcases h with rfl | rfl <;> decide +kernel
  unfold addS
  by_cases z : 0 ≤ a
  · simp [z, e]
  · simp [z, e]
theorem cut_way (h : t ∈ cutW) : t ∈ waysL ∧ t ≠ "halfeven" := by
  simp only [cutW, List.mem_cons, List.not_mem_nil, or_false] at h
  rcases h with rfl | rfl <;> exact ⟨by decide +kernel, by decide +kernel⟩
theorem away_way (h : t ∈ awayW) : t ∈ waysL ∧ t ≠ "halfeven" := by
  simp only [awayW, List.mem_cons, List.not_mem_nil, or_false] at h
  rcases h with rfl | rfl <;> exact ⟨by decide +kernel, by decide +kernel⟩
theorem ways_parts (h : t ∈ waysL) : t ∈ flatW ∨ t = "halfeven" ∨ t ∈ cutW ∨ t ∈ awayW := by
  rcases way_cases h with rfl | rfl | rfl | rfl | rfl | rfl | rfl | rfl | rfl
  · exact .inl (by decide +kernel)
  · exact .inl (by decide +kernel)
  · exact .inr (.inr (.inl (by decide +kernel)))
  · exact .inr (.inr (.inr (by decide +kernel)))
  · exact .inl (by decide +kernel)
  · exact .inl (by decide +kernel)
  · exact .inr (.inl rfl)
  · exact .inr (.inr (.inr (by decide +kernel)))
  · exact .inr (.inr (.inl (by decide +kernel)))
/-- the figures that a unit of the way takes: P units at most -/
def shareOf (t : Str) (P : Int) : Int := P + if t = "halfcut" then 1 else 0
theorem near_small (hU : 1 < U) {P : Int} (hP : 0 < P) (h : t ∈ cutW) (h1 : -(P * U - 1) ≤ x) (h2 : x ≤ P * U - 1) : -(shareOf t P - 1) ≤ near x U t ∧ near x U t ≤ shareOf t P - 1 := by
  have U0 : 0 < U := by omega
  have em := Int.emod_add_mul_ediv x U
  have r0 := Int.emod_nonneg x (show U ≠ 0 by omega)
  have r1 := Int.emod_lt_of_pos x U0
  have qu : x / U ≤ P - 1 := by
    have z : x / U < P := Int.ediv_lt_of_lt_mul U0 (by omega)
    omega
  have ql : -P ≤ x / U := by
    refine (Int.le_ediv_iff_mul_le U0).mpr ?_
    rw [Int.neg_mul]
    omega
  have lo := near_lo (n := x) (d := U) t
  have hi := near_hi (n := x) (d := U) t
  have e : t = "cut" ∨ t = "halfcut" := by simpa [cutW] using h
  unfold shareOf
  rcases e with rfl | rfl
  · rw [if_neg (by decide +kernel)]
    by_cases r : x % U = 0
    · rw [near_zero r]
      refine ⟨?_, by omega⟩
      have nz : x / U ≠ -P := fun z => by
        rw [z, r, Int.mul_neg, Int.mul_comm] at em
        omega
      omega
    · have l : isLoose U x "cut" = true := by rw [loose_1 (by decide +kernel)]; exact decide_eq_true r
      rw [near_sideL U0 (by decide +kernel) l (by decide +kernel), addS_cut (by decide +kernel)]
      split <;> omega
  · rw [if_pos rfl]
    omega
end
/-! ### no gap is greater -/
section
variable {U P : Int} {t : Str}
theorem gap_flat (h : 0 < U) (ht : t ∈ flatW) (xs : List Int) (s : Int) : gapS U t xs s = 0 := by
  have hw : t ∈ waysL := by
    simp only [flatW, List.mem_cons, List.not_mem_nil, or_false] at ht
    rcases ht with rfl | rfl | rfl | rfl <;> decide +kernel
  have z := gap_inv (U := U) (t := t) (fun _ g _ => g = 0) xs 0 0 s (fun k g s x _ hg => by
    try dsimp only at hg ⊢
    rw [gain_tight h hw (loose_no ht)]
    omega) rfl
  try dsimp only at z
  omega
theorem gap_even (h : 0 < U) (xs : List Int) : 2 * gapS U "halfeven" xs 0 ≤ xs.length ∧ -(xs.length : Int) ≤ 2 * gapS U "halfeven" xs 0 := by
  have z := gap_inv (U := U) (t := "halfeven") (fun k g s => 2 * g + s % 2 ≤ k ∧ s % 2 - 2 * g ≤ k) xs 0 0 0 (fun k g s x _ hg => by
    try dsimp only at hg ⊢
    by_cases l : isLoose U x "halfeven" = true
    · rw [stp_even h l, near_evenL h l]
      omega
    · have l : isLoose U x "halfeven" = false := by simpa using l
      rw [gain_tight h (by decide +kernel) l]
      omega) (by simp)
  try dsimp only at z
  omega
/-- .. where all parts are less than a unit -/
theorem gap_even0 (h : 0 < U) (xs : List Int) (hx : ∀ x ∈ xs, 0 ≤ x ∧ x < U) : 0 ≤ gapS U "halfeven" xs 0 := by
  have z := gap_inv (U := U) (t := "halfeven") (fun k g s => 0 ≤ g) xs 0 0 0 (fun k g s x m hg => by
    try dsimp only at hg ⊢
    obtain ⟨x0, x1⟩ := hx x m
    have q : x / U = 0 := Int.ediv_eq_zero_of_lt x0 x1
    by_cases l : isLoose U x "halfeven" = true
    · rw [stp_even h l, near_evenL h l, q]
      omega
    · have l : isLoose U x "halfeven" = false := by simpa using l
      rw [gain_tight h (by decide +kernel) l]
      omega) (by simp)
  try dsimp only at z
  omega
theorem gap_side0 (h : 0 < U) (ht : t ∈ cutW ∨ t ∈ awayW) (xs : List Int) (hx : ∀ x ∈ xs, 0 ≤ x) : gapS U t xs 0 = 0 := by
  have hw : t ∈ waysL ∧ t ≠ "halfeven" := ht.elim cut_way away_way
  have z := gap_inv (U := U) (t := t) (fun k g s => g = 0 ∧ 0 ≤ s) xs 0 0 0 (fun k g s x m hg => by
    try dsimp only at hg ⊢
    have q : 0 ≤ x / U := Int.ediv_nonneg (hx x m) (by omega)
    by_cases l : isLoose U x t = true
    · rw [near_sideL h hw.1 l hw.2, stp_side h hw.1 l hw.2]
      rcases ht with ht | ht
      · rw [addS_cut ht, addS_cut ht, if_pos q, if_pos (by omega)]
        omega
      · rw [addS_away ht, addS_away ht, if_pos q, if_pos (by omega)]
        omega
    · have l : isLoose U x t = false := by simpa using l
      have e := near_lo (n := x) (d := U) t
      rw [stp_tight h hw.1 l]
      omega) ⟨rfl, by omega⟩
  try dsimp only at z
  omega
theorem gap_away (h : 0 < U) (ht : t ∈ awayW) (xs : List Int) (ne : xs ≠ []) : gapS U t xs 0 ≤ xs.length - 1 ∧ -((xs.length : Int) - 1) ≤ gapS U t xs 0 := by
  have hw := away_way ht
  have z := gap_inv (U := U) (t := t) (fun k g s => (k = 0 → g = 0 ∧ s = 0) ∧ (0 < k → g ≤ k - 1 ∧ -((k : Int) - 1) ≤ g)) xs 0 0 0 (fun k g s x m hg => by
    try dsimp only at hg ⊢
    refine ⟨fun z => by omega, fun _ => ?_⟩
    by_cases l : isLoose U x t = true
    · rw [near_sideL h hw.1 l hw.2, stp_side h hw.1 l hw.2, addS_away ht, addS_away ht]
      by_cases k0 : k = 0
      · obtain ⟨rfl, rfl⟩ := hg.1 k0
        rw [Int.zero_add]
        omega
      · have := hg.2 (by omega)
        split <;> split <;> omega
    · have l : isLoose U x t = false := by simpa using l
      rw [gain_tight h hw.1 l]
      by_cases k0 : k = 0
      · obtain ⟨rfl, rfl⟩ := hg.1 k0
        omega
      · have := hg.2 (by omega)
        omega) ⟨fun _ => ⟨rfl, rfl⟩, fun z => by omega⟩
  try dsimp only at z
  have l : 0 < xs.length := List.length_pos_iff.mpr ne
  have := z.2 (by omega)
  omega
theorem gap_cut (hU : 1 < U) (hP : 0 < P) (ht : t ∈ cutW) (xs : List Int) (hx : ∀ x ∈ xs, -(P * U - 1) ≤ x ∧ x ≤ P * U - 1) :
    gapS U t xs 0 ≤ xs.length + -(xs.length : Int) / shareOf t P ∧ -((xs.length : Int) + -(xs.length : Int) / shareOf t P) ≤ gapS U t xs 0 := by
  have hw := cut_way ht
  have h : 0 < U := by omega
  have S0 : 0 < shareOf t P := by unfold shareOf; split <;> omega
  generalize hM : shareOf t P = S at S0
  have z := gap_inv (U := U) (t := t) (fun k g s => (0 ≤ S * (k - g) - k ∧ 0 ≤ S * (k - g) - k + s) ∧ (0 ≤ S * (k + g) - k ∧ 0 ≤ S * (k + g) - k - s)) xs 0 0 0 (fun k g s x m hg => by
    try dsimp only at hg ⊢
    obtain ⟨n1, n2⟩ := near_small hU hP ht (hx x m).1 (hx x m).2
    rw [hM] at n1 n2
    have kk : ((k + 1 : Nat) : Int) = (k : Int) + 1 := by omega
    have A0 : S * ((k : Int) + 1 - (g + 0)) = S * ((k : Int) - g) + S := by rw [show (k : Int) + 1 - (g + 0) = ((k : Int) - g) + 1 by omega, Int.mul_add, Int.mul_one]
    have A1 : S * ((k : Int) + 1 - (g + 1)) = S * ((k : Int) - g) := by rw [show (k : Int) + 1 - (g + 1) = ((k : Int) - g) by omega]
    have A2 : S * ((k : Int) + 1 - (g + -1)) = S * ((k : Int) - g) + 2 * S := by rw [show (k : Int) + 1 - (g + -1) = ((k : Int) - g) + 2 by omega, Int.mul_add, Int.mul_comm S 2]
    have B0 : S * ((k : Int) + 1 + (g + 0)) = S * ((k : Int) + g) + S := by rw [show (k : Int) + 1 + (g + 0) = ((k : Int) + g) + 1 by omega, Int.mul_add, Int.mul_one]
    have B1 : S * ((k : Int) + 1 + (g + 1)) = S * ((k : Int) + g) + 2 * S := by rw [show (k : Int) + 1 + (g + 1) = ((k : Int) + g) + 2 by omega, Int.mul_add, Int.mul_comm S 2]
    have B2 : S * ((k : Int) + 1 + (g + -1)) = S * ((k : Int) + g) := by rw [show (k : Int) + 1 + (g + -1) = ((k : Int) + g) by omega]
    generalize S * ((k : Int) - g) = a at *
    generalize S * ((k : Int) + g) = b at *
    rw [kk]
    by_cases l : isLoose U x t = true
    · rw [near_sideL h hw.1 l hw.2, addS_cut ht] at n1 n2
      rw [near_sideL h hw.1 l hw.2, stp_side h hw.1 l hw.2, addS_cut ht, addS_cut ht]
      by_cases c1 : 0 ≤ x / U
      · rw [if_pos c1] at n1 n2 ⊢
        by_cases c2 : 0 ≤ s + x / U
        · rw [if_pos c2, show s + x / U - s - x / U = 0 by omega, A0, B0]
          omega
        · rw [if_neg c2, show s + (x / U + 1) - s - x / U = 1 by omega, A1, B1]
          omega
      · rw [if_neg c1] at n1 n2 ⊢
        by_cases c2 : 0 ≤ s + x / U
        · rw [if_pos c2, show s + x / U - s - (x / U + 1) = -1 by omega, A2, B2]
          omega
        · rw [if_neg c2, show s + (x / U + 1) - s - (x / U + 1) = 0 by omega, A0, B0]
          omega
    · have l : isLoose U x t = false := by simpa using l
      rw [gain_tight h hw.1 l, stp_tight h hw.1 l, A0, B0]
      omega) (by simp)
  try dsimp only at z
  obtain ⟨⟨z1, _⟩, ⟨z2, _⟩⟩ := z
  rw [Int.zero_add, Nat.zero_add] at z1 z2
  generalize gapS U t xs 0 = g at z1 z2 ⊢
  have e1 : g - (xs.length : Int) ≤ -(xs.length : Int) / S := by
    refine (Int.le_ediv_iff_mul_le S0).mpr ?_
    rw [Int.mul_comm]
    have : S * (g - (xs.length : Int)) = -(S * ((xs.length : Int) - g)) := by rw [← Int.mul_neg]; congr 1; omega
    omega
  have e2 : -g - (xs.length : Int) ≤ -(xs.length : Int) / S := by
    refine (Int.le_ediv_iff_mul_le S0).mpr ?_
    rw [Int.mul_comm]
    have : S * (-g - (xs.length : Int)) = -(S * ((xs.length : Int) + g)) := by rw [← Int.mul_neg]; congr 1; omega
    omega
  omega
end
end Own

/-! own layer, of no law: OWO1: running totals over all orders: how far they reach. -/
namespace Own
open PySem PySem.Spec PyProof.Rows L2 LamX NdefX
/-! ### sums over entries -/
def wsum (f : Int → Int) : List (Int × Nat) → Int
  | [] => 0
  | e :: r => f e.1 * e.2 + wsum f r
theorem wsum_app (f : Int → Int) : ∀ es fs : List (Int × Nat), wsum f (es ++ fs) = wsum f es + wsum f fs
  | [], fs => by simp [wsum]
  | e :: r, fs => by
    show f e.1 * e.2 + wsum f (r ++ fs) = f e.1 * e.2 + wsum f r + wsum f fs
    rw [wsum_app f r fs]
    omega
theorem wsum_perm (f : Int → Int) {es fs : List (Int × Nat)} (h : List.Perm es fs) : wsum f es = wsum f fs := by
  induction h with
  | nil => rfl
  | cons x _ ih => show _ + _ = _ + _; rw [ih]
  | swap x y l => show _ + (_ + _) = _ + (_ + _); omega
  | trans _ _ a b => exact a.trans b
/-- one entry each -/
def ones (ys : List Int) : List (Int × Nat) := ys.map fun y => (y, 1)
theorem wsum_ones_nil (f : Int → Int) : wsum f (ones []) = 0 := rfl
theorem wsum_ones (f : Int → Int) (y : Int) (ys : List Int) : wsum f (ones (y :: ys)) = f y + wsum f (ones ys) := by
  show f y * ((1 : Nat) : Int) + wsum f (ones ys) = _
  omega
/-! ### how many of some sizes are within a room -/
/-- n of the sizes are taken, which come to c -/
inductive Ch : List (Int × Nat) → Int → Int → Prop where
  | nil : Ch [] 0 0
  | more {s : Int} {k : Nat} {l : List (Int × Nat)} {n c : Int} (j : Int) (h0 : 0 ≤ j) (h1 : j ≤ k) (r : Ch l n c) : Ch ((s, k) :: l) (j + n) (j * s + c)
theorem Ch.to {s : Int} {k : Nat} {l : List (Int × Nat)} {n c n' c' : Int} (j : Int) (h0 : 0 ≤ j) (h1 : j ≤ k) (r : Ch l n c) (e1 : n' = j + n) (e2 : c' = j * s + c) : Ch ((s, k) :: l) n' c' := by
  rw [e1, e2]
  exact .more j h0 h1 r
theorem Ch.zero : ∀ l : List (Int × Nat), Ch l 0 0
  | [] => .nil
  | (s, k) :: l => .to 0 (Int.le_refl _) (by omega) (Ch.zero l) (by omega) (by omega)
theorem Ch.pos {l : List (Int × Nat)} {n c : Int} (h : Ch l n c) : 0 ≤ n ∧ ((∀ e ∈ l, 0 ≤ e.1) → 0 ≤ c) := by
  induction h with
  | nil => exact ⟨Int.le_refl _, fun _ => Int.le_refl _⟩
  | @more s k l n c j h0 h1 r ih =>
    refine ⟨by omega, fun hl => ?_⟩
    have a := ih.2 fun e he => hl e (List.mem_cons_of_mem _ he)
    have b := Int.mul_nonneg h0 (show 0 ≤ s from hl (s, k) List.mem_cons_self)
    omega
theorem Ch.perm {l l' : List (Int × Nat)} (p : List.Perm l l') : ∀ {n c : Int}, Ch l n c → Ch l' n c := by
  induction p with
  | nil => exact fun h => h
  | cons x _ ih =>
    intro n c h
    cases h with
    | more j h0 h1 r => exact .more j h0 h1 (ih r)
  | swap x y l =>
    intro n c h
    cases h with
    | more j h0 h1 r =>
      cases r with
      | more i g0 g1 r => exact .to i g0 g1 (.more j h0 h1 r) (by omega) (by omega)
  | trans _ _ a b => exact fun h => b (a h)
/-- a size told in two parts -/
theorem Ch.join {s : Int} {a b : Nat} {l : List (Int × Nat)} {n c : Int} : Ch ((s, a) :: (s, b) :: l) n c ↔ Ch ((s, a + b) :: l) n c := by
  constructor
  · intro h
    cases h with
    | more j h0 h1 r =>
      cases r with
      | more i g0 g1 r => exact .to (j + i) (by omega) (by omega) r (by omega) (by rw [Int.add_mul]; omega)
  · intro h
    cases h with
    | more j h0 h1 r =>
      by_cases z : j ≤ a
      · exact .to j h0 z (.more 0 (by omega) (by omega) r) (by omega) (by omega)
      · refine .to (a : Int) (by omega) (by omega) (.more (j - a) (by omega) (by omega) r) (by omega) ?_
        rw [Int.sub_mul]
        omega
/-- with one size in front -/
theorem Ch.cons_iff {x : Int × Nat} {l l' : List (Int × Nat)} (h : ∀ n c, Ch l n c ↔ Ch l' n c) (n c : Int) : Ch (x :: l) n c ↔ Ch (x :: l') n c := by
  constructor
  · intro z
    cases z with
    | more j h0 h1 r => exact .more j h0 h1 ((h _ _).mp r)
  · intro z
    cases z with
    | more j h0 h1 r => exact .more j h0 h1 ((h _ _).mpr r)
/-- the most of the sizes that are within a room -/
def Mst (l : List (Int × Nat)) (r m : Int) : Prop := (r < 0 → m = 0) ∧ (0 ≤ r → (∃ c, c ≤ r ∧ Ch l m c) ∧ ∀ n c, Ch l n c → c ≤ r → n ≤ m)
theorem Mst.one {l : List (Int × Nat)} {r m m' : Int} (a : Mst l r m) (b : Mst l r m') : m = m' := by
  by_cases z : 0 ≤ r
  · obtain ⟨⟨c, h1, h2⟩, h3⟩ := a.2 z
    obtain ⟨⟨c', g1, g2⟩, g3⟩ := b.2 z
    have := h3 _ _ g2 g1
    have := g3 _ _ h2 h1
    omega
  · rw [a.1 (by omega), b.1 (by omega)]
theorem Mst.pos {l : List (Int × Nat)} {r m : Int} (a : Mst l r m) : 0 ≤ m := by
  by_cases z : 0 ≤ r
  · obtain ⟨⟨c, h1, h2⟩, _⟩ := a.2 z
    exact h2.pos.1
  · rw [a.1 (by omega)]
    exact Int.le_refl _
theorem Mst.iff {l l' : List (Int × Nat)} {r m : Int} (h : ∀ n c, Ch l n c ↔ Ch l' n c) : Mst l r m ↔ Mst l' r m := by
  constructor
  · intro a
    refine ⟨a.1, fun z => ?_⟩
    obtain ⟨⟨c, h1, h2⟩, h3⟩ := a.2 z
    exact ⟨⟨c, h1, (h _ _).mp h2⟩, fun n c x y => h3 n c ((h _ _).mpr x) y⟩
  · intro a
    refine ⟨a.1, fun z => ?_⟩
    obtain ⟨⟨c, h1, h2⟩, h3⟩ := a.2 z
    exact ⟨⟨c, h1, (h _ _).mpr h2⟩, fun n c x y => h3 n c ((h _ _).mp x) y⟩
/-- the least sizes first -/
def gre : List (Int × Nat) → Int → Int
  | [], _ => 0
  | (s, k) :: l, r => (if s = 0 then (k : Int) else min (k : Int) (r / s)) + gre l (r - (if s = 0 then (k : Int) else min (k : Int) (r / s)) * s)
def Rise : List (Int × Nat) → Prop
  | [] => True
  | (s, k) :: l => (∀ e ∈ l, s ≤ e.1) ∧ Rise l
theorem fit_le {s r : Int} {k : Nat} (hs : 0 ≤ s) (hr : 0 ≤ r) : 0 ≤ (if s = 0 then (k : Int) else min (k : Int) (r / s)) ∧ (if s = 0 then (k : Int) else min (k : Int) (r / s)) ≤ k ∧ (if s = 0 then (k : Int) else min (k : Int) (r / s)) * s ≤ r ∧
    ((if s = 0 then (k : Int) else min (k : Int) (r / s)) < k → 0 < s ∧ r - (if s = 0 then (k : Int) else min (k : Int) (r / s)) * s < s) := by
  by_cases z : s = 0
  · rw [if_pos z]
    exact ⟨by omega, Int.le_refl _, by rw [z, Int.mul_zero]; exact hr, fun y => absurd y (Int.lt_irrefl _)⟩
  · rw [if_neg z]
    have s0 : 0 < s := by omega
    have d0 := Int.ediv_nonneg hr hs
    have e := Int.emod_add_mul_ediv r s
    have r0 := Int.emod_nonneg r z
    have r1 := Int.emod_lt_of_pos r s0
    have dm : r / s * s ≤ r := by rw [Int.mul_comm]; omega
    by_cases y : (k : Int) ≤ r / s
    · rw [Int.min_eq_left y]
      have := Int.mul_le_mul_of_nonneg_right y hs
      exact ⟨by omega, Int.le_refl _, by omega, fun w => absurd w (Int.lt_irrefl _)⟩
    · rw [Int.min_eq_right (by omega)]
      exact ⟨d0, by omega, dm, fun _ => ⟨s0, by rw [Int.mul_comm]; omega⟩⟩
theorem gre_ch : ∀ (l : List (Int × Nat)) (r : Int), (∀ e ∈ l, 0 ≤ e.1) → 0 ≤ r → ∃ c, c ≤ r ∧ Ch l (gre l r) c
  | [], r, _, hr => ⟨0, hr, .nil⟩
  | (s, k) :: l, r, hl, hr => by
    obtain ⟨f0, f1, f2, _⟩ := fit_le (k := k) (show 0 ≤ s from hl (s, k) List.mem_cons_self) hr
    unfold gre
    generalize (if s = 0 then (k : Int) else min (k : Int) (r / s)) = f at f0 f1 f2 ⊢
    obtain ⟨c, hc, h⟩ := gre_ch l (r - f * s) (fun e he => hl e (List.mem_cons_of_mem _ he)) (by omega)
    exact ⟨f * s + c, by omega, .more f f0 f1 h⟩
theorem gre_most : ∀ (l : List (Int × Nat)) (s0 r d n c : Int), Rise l → (∀ e ∈ l, s0 ≤ e.1) → 0 ≤ s0 → 0 ≤ r → 0 ≤ d → Ch l n c → c ≤ r + d * s0 → n ≤ gre l r + d
  | [], s0, r, d, n, c, _, _, _, _, hd, h, _ => by
    cases h
    show 0 ≤ 0 + d
    omega
  | (s, k) :: l, s0, r, d, n, c, hR, hl, h0, hr, hd, h, hc => by
    have ss : s0 ≤ s := hl (s, k) List.mem_cons_self
    obtain ⟨f0, f1, f2, f3⟩ := fit_le (k := k) (show 0 ≤ s by omega) hr
    unfold gre
    generalize (if s = 0 then (k : Int) else min (k : Int) (r / s)) = f at f0 f1 f2 f3 ⊢
    have dd : d * s0 ≤ d * s := Int.mul_le_mul_of_nonneg_left ss hd
    cases h with
    | @more _ _ _ n' c' j j0 j1 t =>
      by_cases z : j ≤ f
      · have e : (f - j + d) * s = f * s - j * s + d * s := by rw [Int.add_mul, Int.sub_mul]
        have := gre_most l s (r - f * s) (f - j + d) n' c' hR.2 hR.1 (by omega) (by omega) (by omega) t (by omega)
        omega
      · obtain ⟨g0, g1⟩ := f3 (by omega)
        have e : (d - (j - f)) * s = d * s - (j * s - f * s) := by rw [Int.sub_mul, Int.sub_mul]
        have cp := t.pos.2 fun e he => Int.le_trans (by omega) (hR.1 e he)
        have dj : 0 ≤ d - (j - f) := by
          refine Int.le_of_not_gt fun y => ?_
          have : (d - (j - f)) * s ≤ -1 * s := Int.mul_le_mul_of_nonneg_right (by omega) (by omega)
          omega
        have := gre_most l s (r - f * s) (d - (j - f)) n' c' hR.2 hR.1 (by omega) (by omega) dj t (by omega)
        omega
theorem gre_is {l : List (Int × Nat)} {r : Int} (hR : Rise l) (hl : ∀ e ∈ l, 0 ≤ e.1) (hr : 0 ≤ r) : Mst l r (gre l r) :=
  ⟨fun z => absurd z (by omega), fun _ => ⟨gre_ch l r hl hr, fun n c h hc => by
    have := gre_most l 0 r 0 n c hR hl (Int.le_refl _) hr (Int.le_refl _) h (by omega)
    omega⟩⟩
/-- behind one size that does not fit whole none fits -/
theorem gre_out {s r : Int} (h0 : 0 ≤ r) (h1 : r < s) : ∀ l : List (Int × Nat), (∀ e ∈ l, s ≤ e.1) → gre l r = 0
  | [], _ => rfl
  | (a, k) :: l, h => by
    have ha : s ≤ a := h (a, k) List.mem_cons_self
    unfold gre
    have z : a ≠ 0 := by omega
    rw [if_neg z, Int.ediv_eq_zero_of_lt h0 (by omega), Int.min_eq_right (by omega), Int.zero_mul, Int.sub_zero, gre_out h0 h1 l fun e he => h e (List.mem_cons_of_mem _ he)]
    rfl
/-- the most of some sizes, in any order -/
theorem gre_perm {l l' : List (Int × Nat)} {r : Int} (hp : List.Perm l l') (hR : Rise l') (hl : ∀ e ∈ l, 0 ≤ e.1) (hr : 0 ≤ r) : Mst l r (gre l' r) :=
  (Mst.iff fun n c => ⟨Ch.perm hp, Ch.perm hp.symm⟩).mpr (gre_is hR (fun e he => hl e (hp.symm.subset he)) hr)
end Own

/-! own layer, of no law: OWNX: isinstance of a caught error with a field; a def called with a lambda written there. -/
namespace Own
open PySem PySem.Spec PyProof.Rows L2 LamX NdefX
/-- isinstance(e, c), e the exception with a dict that the suite holds -/
theorem call_isED {X : Cx} {a D : Addr} {oe : Obj} {cls : Value} {d : Option Addr} {pn : List (Addr × Obj)} (C : ExcC X.K D) (hz : Zc cls d oe) (hf : ∃ vs, oe.data = .fields vs) : CallR (X.suite a ((a, oe) :: pn)) (.builtin "isinstance")
    (fun xs H Q => ∃ (c : V) (cv : Value) (b : Bool) (dd : Addr) (fs : List (Str × V)), xs = [.ref a, c] ∧ cls = .ref D ∧ d = some dd ∧ H dd = some (.xd fs) ∧ ClsV c cv ∧ PySem.W.kitOne X.K (.ref D) cv = some b ∧ Q (.bl b) H) := by
  intro pins s σ H xs us Q I r h
  obtain ⟨c, cv, b, dd, fs, rfl, rfl, rfl, ea, hcv, e, q⟩ := h
  obtain ⟨u1, u2, rfl, r1, r2⟩ := vals2 r
  have ec := hcv.eq r2
  subst ec
  cases (show u1 = Value.ref a from r1)
  obtain ⟨hget, _⟩ := I.pin (a, oe) (List.mem_append.mpr (.inl List.mem_cons_self))
  obtain ⟨vs, hv⟩ := hf
  have hx : ObjOk X.prog X.w H s.heap dd (.xd fs) := I.hok dd _ ea
  obtain ⟨mA, hns, hr⟩ := hx
  obtain ⟨od, ho, hl⟩ := lookIn_ns hns
  have J : PySem.W.InstAt s.heap a oe D (some od) := ⟨hget, hz.1, by unfold PySem.W.notCls; rw [hv] <;> rfl, by rw [hz.2]; exact ho⟩
  obtain ⟨cd, hc, _⟩ := PySem.W.any_some C.hd
  exact PySem.W.kia_one (PySem.W.kitx_exc (by rw [hc]; rfl) C.hg C.hk C.hs C.ha C.hn C.ht C.hm) I.kIn J e (fun z => nomatch z) fun tk => ⟨.bl b, H, I.kept (t' := tk) fun _ _ z => z, rfl, q⟩
/-- x(lambda: ..), the lambda without parameters -/
def tLamDir (X : Cx) (T : List (Addr × Str)) (params : Arguments) (body : Expr) (scope : Scope) (js : List Nat) (sp : (Hp → VK → XK → Prop) → List V → Hp → VK → Prop) (spl : List (Option V) → Hp → VK → XK → Prop) : TE :=
  fun σ H Q => tCons (tLamV X T params body scope) tNil σ H fun vs H1 => ∃ f c' : Addr, vs = [.ref f] ∧ LamAt H1 f (lamF X params scope c') body ∧ H1 c' = some (CodeO c' (X.env.qual ++ "<lambda>")) ∧ sp (spl (js.map (slotAt σ))) [] H1 Q
theorem pe_lamdir {X : Cx} {T : List (Addr × Str)} {params : Arguments} {body : Expr} {scope : Scope} {js : List Nat} {fr : List Str} {k kl j : Nat} {sp : (Hp → VK → XK → Prop) → List V → Hp → VK → Prop} {spl : List (Option V) → Hp → VK → XK → Prop} {x : Str} {p pos lpos : Pos}
    (D : LamDefAt X.prog X.w X.K X.mg X.base x k sp) (hkl : kl < k) (hr : Room j X.A) (hj : k ≤ j) (G : ∀ (f c' : Addr), LOk X.prog X.w X.K X.mg X.base (L2.CX X.prog X.w) kl f (lamF X params scope c') body fr spl)
    (hl : PE X (.Lambda params body scope lpos) (tLamV X T params body scope))
    (hfree : ∀ y ∈ scope.names, y.2 = .free → X.env.scope.names.lookup y.1 = some .cell ∨ X.env.scope.names.lookup y.1 = some .free) (hfr : ∀ y ∈ fr, (y, NameKind.free) ∈ scope.names) (hjs : js.map (fun j => X.N[j]?) = fr.map some)
    (hg : Gl X x) (hdb : (x == ("__debug__" : Str)) = false := by decide) (he : starEach [.Lambda params body scope lpos] X.env = (false, eval (.Lambda params body scope lpos) X.env) :: starEach [] X.env := by rfl) (hpl : (backTo pos (starEach [] X.env)).any (·.1) = false := by rfl) :
    PE X (.Call (.Name x p) [.Lambda params body scope lpos] [] pos) (tLamDir X T params body scope js sp spl) := by
  obtain ⟨g, R, gm, kp⟩ := D.ex
  have ha := pa_cons hl pa_nil
  constructor
  intro pins s σ H Q I h
  refine wpAny_Call_Name_kw (ld_glob I hg gm ?_ hdb)
  refine PySem.W.callWith_K (h₀ := X.base) I.ok.mod.kin kp (thn (ha.run pos pins s σ H _ I h) ?_) he hpl
  rintro us s1 ⟨vs, H1, I1, r, f, c', rfl, hf, hc, q⟩
  refine ⟨I1.kIn, wpAny_call (codeAny_mono (R.run X.A X.stack s1 H1 us f [] _ _ _ _ _ kl Q (hr.mono hj) hkl I1.env0 r (G f c') hf hc (cells_blk I1 hfree hfr hjs) q) fun z s' hz => ?_)⟩
  rcases z with er | fl
  · exact (show False from hz).elim
  · cases fl
    case ret u => exact I1.after hz
    all_goals exact False.elim hz
/-- x is flat, or an object -/
def Selfy (x : V) : Prop := flatV x = true ∨ ∃ a, x = .ref a
theorem Odd.selfy {H : Hp} {x : V} (h : Odd H x) : Selfy x := by
  cases h with
  | flat h => exact .inl (by cases x <;> first | rfl | (simp [okF] at h))
  | lst e f => exact .inr ⟨_, rfl⟩
  | tup e f => exact .inr ⟨_, rfl⟩
  | dct e n f => exact .inr ⟨_, rfl⟩
theorem eqV_self {x : V} (h : flatV x = true) : eqV x x = true := by
  cases x <;> first | (cases h; done) | rfl | (simp [eqV]; done)
theorem selfy_at {A : Around} {s : Shared} {x : V} {u v : Value} (h : Selfy x) (ru : RelV x u) (rv : RelV x v) : SeqAt.EqAt A s u v true := by
  rcases h with h | ⟨a, rfl⟩
  · have z := eqAt_V (A := A) (s := s) ru rv h h
    rw [eqV_self h] at z
    exact z
  · cases (show u = Value.ref a from ru)
    cases (show v = Value.ref a from rv)
    exact SeqAt.EqAt.same _
/-- [x] == [x], [x] != [x] -/
def rOne (K : PySem.W.Frag) (b : Bool) : R2 := fun x y H Q => ∃ (l m : Addr) (z : V), x = .ref l ∧ y = .ref m ∧ SqL K H l [z] ∧ SqL K H m [z] ∧ Selfy z ∧ Q (.bl b) H
section
variable {X : Cx}
theorem one_at {pins : List (Addr × Obj)} {σ : L2.St} {H : Hp} {s : Shared} {l m : Addr} {z : V} (I : Inv X pins σ H s) (h1 : SqL X.K H l [z]) (h2 : SqL X.K H m [z]) (hz : Selfy z) : ∃ i1 i2 : Value, s.heap.IsList l #[i1] ∧ s.heap.IsList m #[i2] ∧ ∀ A : Around, SeqAt.EqAt A s i1 i2 true := by
  obtain ⟨its1, r1, l1, _⟩ := I.list h1
  obtain ⟨its2, r2, l2, _⟩ := I.list h2
  obtain ⟨v1, rfl, q1⟩ := r1.one
  obtain ⟨v2, rfl, q2⟩ := r2.one
  exact ⟨v1, v2, l1.isList, l2.isList, fun A => selfy_at hz q1 q2⟩
theorem op_eqOne (hu : X.A.units + 64 < cLine) : OpR X (compareOp .Eq) (rOne X.K true) := by
  intro pins s σ H x y v u Q I rx ry h
  obtain ⟨l, m, z, rfl, rfl, h1, h2, hz, q⟩ := h
  cases (show v = Value.ref l from rx)
  cases (show u = Value.ref m from ry)
  obtain ⟨i1, i2, e1, e2, at_⟩ := one_at I h1 h2 hz
  have := SeqAt.RcAt.lists (A := X.A) (e := fun _ => true) e1 e2 rfl (by omega) (fun j j1 j2 => by
    have a : j = 0 := by have : j < 1 := j1; omega
    subst a
    exact at_ _)
  exact this X.prog X.w _ _ ⟨.bl true, H, I, rfl, q⟩
theorem op_neOne (hu : X.A.units + 64 < cLine) : OpR X (compareOp .NotEq) (rOne X.K false) := by
  intro pins s σ H x y v u Q I rx ry h
  obtain ⟨l, m, z, rfl, rfl, h1, h2, hz, q⟩ := h
  cases (show v = Value.ref l from rx)
  cases (show u = Value.ref m from ry)
  obtain ⟨i1, i2, e1, e2, at_⟩ := one_at I h1 h2 hz
  have := SeqAt.RcNeAt.lists (A := X.A) (e := fun _ => true) e1 e2 rfl (by omega) (fun j j1 j2 => by
    have a : j = 0 := by have : j < 1 := j1; omega
    subst a
    exact at_ _)
  exact this X.prog X.w _ _ ⟨.bl false, H, I, rfl, q⟩
end
end Own

/-! own layer, of no law: OWNK: a try with any number of except clauses that have a name. -/
namespace Own
open PySem PySem.Spec PyProof.Rows L2
/-- a clause: the class that it names, the slot of its name, what its suite asks -/
structure Cl where
  c : Value
  i : Nat
  ts : Addr → Value → Option Addr → TS
/-- the wish of the clauses, one behind the other -/
def wEach (K : PySem.W.Frag) (Wout : WX) (D : Ends) : List Cl → WX
  | [] => Wout
  | q :: r => wAs K q.c q.i q.ts (wEach K Wout D r) D
/-- the clauses as they are written, beside what they ask -/
inductive ClsOk (X : Cx) : List ExceptHandler → List Cl → Prop
  | none : ClsOk X [] []
  | more {x n : Str} {q : Cl} {b : Stmt} {bs : List Stmt} {p p' : Pos} {hds : List ExceptHandler} {l : List Cl} (named : Names X x q.c) (slot : X.N[q.i]? = some n) (loc : X.env.kindOf n = some .local)
      (su : ∀ (a : Addr) (o : Obj) (cls : Value) (d : Option Addr) (pn : List (Addr × Obj)), Zc cls d o → (∃ vs, o.data = .fields vs) → PSs (X.suite a ((a, o) :: pn)) (b :: bs) (q.ts a cls d)) (rest : ClsOk X hds l) :
      ClsOk X (.ExceptHandler (some (.Name x p)) (some n) (b :: bs) p' :: hds) (q :: l)
/-- the exception at a is caught: sI is the state without it, s the one with it -/
structure Caught (X : Cx) (pins : List (Addr × Obj)) (σ : L2.St) (H : Hp) (sI s : Shared) (B : Heap) (a : Addr) (cls : Value) (d : Option Addr) : Prop where
  I : Inv X pins σ H sI
  nb : ∀ b o, sI.heap.get? b = some o → b ∉ frs X.stack → B.get? b = some o
  up : sI.heap.UpToSlots s.heap
  fl : HandSPX.FlyingZ B (X.env :: X.outer) a (Zc cls d) s.heap
  na : H a = none
  os : s.os = sI.os
  ag : AllBare s.gens
section
variable {X : Cx} {pins : List (Addr × Obj)} {σ : L2.St} {H : Hp} {sI s : Shared} {B : Heap} {a : Addr} {cls : Value} {d : Option Addr}
theorem Caught.inv (c : Caught X pins σ H sI s B a cls d) : Inv X pins σ H s := c.I.landed c.nb c.fl.1 c.up c.os c.ag
theorem Caught.on (c : Caught X pins σ H sI s B a cls d) {h' : Heap} (f : HandSPX.FlyingZ B (X.env :: X.outer) a (Zc cls d) h') (u : s.heap.UpToSlots h') : Caught X pins σ H sI { s with heap := h' } B a cls d :=
  ⟨c.I, c.nb, c.up.trans u, f, c.na, c.os, c.ag⟩
/-- the record of the exception, and the state of a suite -/
theorem Caught.record (c : Caught X pins σ H sI s B a cls d) (hf : X.env.frame = some X.env.locals) : ∃ o : Obj, s.heap.get? a = some o ∧ Zc cls d o ∧ (∃ vs, o.data = .fields vs) ∧ Inv (X.suite a ((a, o) :: (X.pn ++ pins))) [] σ H s := by
  obtain ⟨o, vs, eo, z, dt⟩ := c.fl.there
  have off : a ∉ frs (X.env :: X.outer) := fun hm => by
    obtain ⟨_, o2, e2, hn⟩ := c.fl.2.2.1.mem hm
    rw [eo] at e2
    obtain rfl := Option.some.inj e2
    exact hn _ dt
  have n1 : a ≠ X.env.locals := by
    intro z
    refine off (List.mem_filterMap.mpr ⟨X.env, List.mem_cons_self, ?_⟩)
    rw [hf, z]
  have n2 : a ∉ X.fs := by
    intro hm
    obtain ⟨e, he, q⟩ := List.mem_filterMap.mp hm
    exact off (List.mem_filterMap.mpr ⟨e, List.mem_cons_of_mem _ he, q⟩)
  exact ⟨o, eo, z, ⟨vs, dt⟩, c.inv.suite eo dt c.na n1 n2⟩
/-- no clause is left: it goes on -/
theorem caught_out {D : Ends} {W : WX} (hs : X.stack = X.env :: X.outer) (hf : X.env.frame = some X.env.locals) (tk : Takes X W) (c : Caught X pins σ H sI s B a cls d) (w : W cls d σ H) :
    wpAny (model X.prog X.w) X.A (handleBy (.ref a) X.env []) (SP X pins D) X.xe s := by
  refine wpAny_handleBy_nil ?_
  have air := c.fl
  obtain ⟨_, _, _, o, vs, T, _, _, eo, _, dt, tb, _⟩ := c.fl
  unfold PySem.passOn
  refine wpAny_bind (wpAny_field eo dt tb ?_)
  rw [if_neg (show ¬ ((Value.ref T == Value.none) = true) by simp)]
  have z : wpAny (model X.prog X.w) X.A (setFlight (.ref a) X.env.frame) (fun _ t => wpAny (model X.prog X.w) X.A (throw (.ref a) : Sem Flow) (SP X pins D) X.xe t) X.xe s := by
    rw [hf]
    refine HandSPX.setFlight_upZ air fun h' held u => wpAny_throw (tk _ _ ⟨a, B, sI, pins, σ, H, cls, d, rfl, c.I, c.nb, c.up.trans u, ?_, c.na, c.os, c.ag, w⟩)
    rw [hs]
    exact .inr (.inr held)
  first
    | exact wpAny_bind z
    | exact wpAny_bind (wpAny_pure (wpAny_bind z))
/-- the suite of a clause with a name, its name gone behind it -/
theorem caught_suite {D : Ends} {n : Str} {q : Cl} {b : Stmt} {bs : List Stmt} {p' : Pos} (hf : X.env.frame = some X.env.locals) (hN : X.N.Nodup) (slot : X.N[q.i]? = some n) (loc : X.env.kindOf n = some .local)
    (su : ∀ (a : Addr) (o : Obj) (cls : Value) (d : Option Addr) (pn : List (Addr × Obj)), Zc cls d o → (∃ vs, o.data = .fields vs) → PSs (X.suite a ((a, o) :: pn)) (b :: bs) (q.ts a cls d)) (c : Caught X pins σ H sI s B a cls d)
    (h : q.ts a cls d { nx := fun σ' H' => D.nx (σ'.set q.i none) H', rt := D.rt, bk := fun σ' H' => D.bk (σ'.set q.i none) H', ct := fun σ' H' => D.ct (σ'.set q.i none) H' } (σ.set q.i (some (.ref a))) H) :
    codeAny (model X.prog X.w) (X.A.mark (some (.ref a))) (.handlers (.ref a) [.ExceptHandler none (some n) (b :: bs) p'] X.env) (fun r s2 => match r with
      | .ok f => wpAny (model X.prog X.w) X.A (do bindName X.env n .none; unbindBehindTheSuite X.env n p') (fun _ s3 => SP X pins D f s3) X.xe s2
      | .error x => cameBackBy (model X.prog X.w) X.A X.env X.xe x s2) s := by
  have ok := c.I.ok
  refine codeAny_handlers_suite_as (HandSPX.lands_againZ c.fl fun h4 f4 u4 => ?_)
  obtain ⟨o, _, z, dt, S⟩ := (c.on f4 u4).record hf
  refine store_ok (X := X.suite a ((a, o) :: (X.pn ++ pins))) (v := .ref a) S hN slot (.inl loc) rfl (fun s5 S5 => ?_) (.inr loc)
  refine wpAny_mono ((su a o cls d _ z dt).run [] s5 _ H _ S5 h) (fun f s6 g => ?_) fun _ _ y => y.elim
  cases f with
  | ret u =>
    obtain ⟨v, σ6, H6, S6, r, g⟩ := g
    exact gone_ok (S6.unsuite ok) hN slot loc fun s7 J => ⟨v, _, _, J, r, g⟩
  | next =>
    obtain ⟨σ6, H6, S6, g⟩ := g
    exact gone_ok (S6.unsuite ok) hN slot loc fun s7 J => ⟨_, _, J, g⟩
  | cont =>
    obtain ⟨σ6, H6, S6, g⟩ := g
    exact gone_ok (S6.unsuite ok) hN slot loc fun s7 J => ⟨_, _, J, g⟩
  | brk =>
    obtain ⟨σ6, H6, S6, g⟩ := g
    exact gone_ok (S6.unsuite ok) hN slot loc fun s7 J => ⟨_, _, J, g⟩
/-- the clauses, one behind the other -/
theorem caught_each {D : Ends} {W : WX} (hs : X.stack = X.env :: X.outer) (hf : X.env.frame = some X.env.locals) (hN : X.N.Nodup) (tk : Takes X W) {hds : List ExceptHandler} {l : List Cl} (k : ClsOk X hds l)
    (c : Caught X pins σ H sI s B a cls d) (w : wEach X.K W D l cls d σ H) : wpAny (model X.prog X.w) X.A (handleBy (.ref a) X.env hds) (SP X pins D) X.xe s := by
  induction k with
  | none => exact caught_out hs hf tk c w
  | @more x n q b bs p p' hds l named slot loc su rest ih =>
    obtain ⟨yes, hyes, w1, w0⟩ := w
    obtain ⟨o, eo, z, _, S⟩ := c.record hf
    refine wpAny_handleBy_cons (codeAny_handlers_test ?_) (fun q => nomatch q)
    have look : PySem.W.Looks (model X.prog X.w) s.heap (typeOf (.ref a)) cls := fun A Q E t k y => wpAny_typeOf_ref (k _ _ eo) (by rw [z.1]; exact y)
    have meets := PySem.W.exm_one (M := model X.prog X.w) (c.inv.kIn) look hyes
    have asked : ∀ {Q E : Value → Shared → Prop}, Q q.c s → wpAny (model X.prog X.w) (X.A.mark (some (.ref a))) (eval (.Name x p) X.env) Q E s := fun {Q E} y => by
      obtain ⟨hg, nd, hm | ⟨hm, hv, nn⟩⟩ := named
      · exact ld_glob (X := X.suite a ((a, o) :: (X.pn ++ pins))) S hg hm y nd
      · exact ld_blt (X := X.suite a ((a, o) :: (X.pn ++ pins))) S hg hm hv y nn nd
    refine asked (meets.here ?_)
    cases yes with
    | false => exact ih (w0 rfl)
    | true => exact caught_suite hf hN slot loc su c (w1 rfl a c.na)
end
/-- try: body, except x as n: suite, except y as m: suite, .. -/
theorem ps_try_each {X : Cx} {body : List Stmt} {h0 : ExceptHandler} {hds : List ExceptHandler} {l : List Cl} {pos : Pos} {tb : WX → TS} {Wout : WX} (hs : X.stack = X.env :: X.outer) (hf : X.env.frame = some X.env.locals) (hN : X.N.Nodup) (tk : Takes X Wout)
    (hb : ∀ (W : WX) (pn : List (Addr × Obj)) (xe : Value → Shared → Prop), Takes (X.tr pn xe) W → PassesOwn (model X.prog X.w) X.A X.env xe → PSs (X.tr pn xe) body (tb W)) (k : ClsOk X (h0 :: hds) l) :
    PS X (.Try body (h0 :: hds) [] [] pos) (fun D σ H => tb (wEach X.K Wout D l) D σ H) := by
  constructor
  intro pins s σ H D I h
  have ok := I.ok
  refine wpAny_Try_except (wpAny_mono ((hb (wEach X.K Wout D l) (X.pn ++ pins) _ ?_ PassesOwn.looking).run [] s σ H D (I.toTry _) h) ?_ fun e t z => z)
  · rintro u t ⟨a, B, sI, pins', σ', H', cls, d, rfl, J, nb, up, sky, na, os, ag, w⟩
    rw [show (X.tr (X.pn ++ pins) _).stack = X.env :: X.outer from hs] at sky
    refine Sky.land Zc.steady (by rw [ok.frames, hs]) hf sky fun h3 f3 u3 => ?_
    exact caught_each hs hf hN tk k ⟨J.ofTry ok, nb, up.trans u3, f3, na, os, ag⟩ w
  · intro f t g
    cases f with
    | ret u =>
      obtain ⟨v, σ', H', J, r, g⟩ := g
      exact ⟨v, σ', H', J.ofTry ok, r, g⟩
    | next =>
      obtain ⟨σ', H', J, g⟩ := g
      exact wpAny_execs_nil ⟨σ', H', J.ofTry ok, g⟩
    | cont =>
      obtain ⟨σ', H', J, g⟩ := g
      exact ⟨σ', H', J.ofTry ok, g⟩
    | brk =>
      obtain ⟨σ', H', J, g⟩ := g
      exact ⟨σ', H', J.ofTry ok, g⟩
end Own

namespace Own
open PySem PySem.Spec PyProof.Rows L2
/-- two tuples of the same values, whatever these are -/
def rTwo (K : PySem.W.Frag) (b : Bool) : R2 := fun x y H Q => ∃ (l m : Addr) (zs : List V), x = .ref l ∧ y = .ref m ∧ SqT K H l zs ∧ SqT K H m zs ∧ (∀ z ∈ zs, Selfy z) ∧ Q (.bl b) H
section
variable {X : Cx}
theorem vals_alike {A : Around} {s : Shared} {zs : List V} {us ws : List Value} (h : ∀ z ∈ zs, Selfy z) (ru : Vals zs us) (rw' : Vals zs ws) : ∀ (j : Nat) (h1 : j < us.toArray.size) (h2 : j < ws.toArray.size), SeqAt.EqAt A s us.toArray[j] ws.toArray[j] true := by
  intro j h1 h2
  have l1 := ru.length
  have l2 := rw'.length
  simp only [List.size_toArray] at h1 h2
  simp only [List.getElem_toArray]
  have hz : j < zs.length := by omega
  obtain ⟨a, ea, ra⟩ := ru.get (List.getElem?_eq_getElem hz)
  obtain ⟨b, eb, rb⟩ := rw'.get (List.getElem?_eq_getElem hz)
  rw [(List.getElem?_eq_some_iff.mp ea).2, (List.getElem?_eq_some_iff.mp eb).2]
  exact selfy_at (h _ (List.getElem_mem hz)) ra rb
theorem op_eqTwo (hu : X.A.units + 64 < cLine) : OpR X (compareOp .Eq) (rTwo X.K true) := by
  intro pins s σ H x y v u Q I rx ry h
  obtain ⟨l, m, zs, rfl, rfl, h1, h2, hz, q⟩ := h
  cases (show v = Value.ref l from rx)
  cases (show u = Value.ref m from ry)
  obtain ⟨us, r1, t1, _⟩ := I.tuple h1
  obtain ⟨ws, r2, t2, _⟩ := I.tuple h2
  have := SeqAt.RcAt.tuples (A := X.A) (e := fun _ => true) t1 t2 (by omega) (vals_alike hz r1 r2)
  have e : ((List.range (min us.toArray.size ws.toArray.size)).all (fun _ => true) && us.toArray.size == ws.toArray.size) = true := by
    have l1 := r1.length
    have l2 := r2.length
    simp
    omega
  rw [e] at this
  exact this X.prog X.w _ _ ⟨.bl true, H, I, rfl, q⟩
theorem op_neTwo (hu : X.A.units + 64 < cLine) : OpR X (compareOp .NotEq) (rTwo X.K false) := by
  intro pins s σ H x y v u Q I rx ry h
  obtain ⟨l, m, zs, rfl, rfl, h1, h2, hz, q⟩ := h
  cases (show v = Value.ref l from rx)
  cases (show u = Value.ref m from ry)
  obtain ⟨us, r1, t1, _⟩ := I.tuple h1
  obtain ⟨ws, r2, t2, _⟩ := I.tuple h2
  have := SeqAt.RcNeAt.tuples (A := X.A) (e := fun _ => true) t1 t2 (by omega) (vals_alike hz r1 r2)
  have e : (!((List.range (min us.toArray.size ws.toArray.size)).all (fun _ => true) && us.toArray.size == ws.toArray.size)) = false := by
    have l1 := r1.length
    have l2 := r2.length
    simp
    omega
  rw [e] at this
  exact this X.prog X.w _ _ ⟨.bl false, H, I, rfl, q⟩
end
/-! ### called with what may be refused: two kinds of error -/
/-- told back: nothing, or the value of the one error or of the other behind its word -/
def spTold2 (C1 C2 : Addr) (f1 f2 t1 t2 : Str) : (Hp → VK → XK → Prop) → List V → Hp → VK → Prop := fun tl rest H Q => rest = [] ∧ ∀ (p : Addr) (H0 : Hp), Same H H0 → H0 p = some (.tup []) →
  (((∀ (Q' : VK) (E' : XK), (∀ (v : V) (H1 : Hp), Same H0 H1 → Q' v H1) → tl H0 Q' E') ∧ ∀ H1, Same H0 H1 → Q (.ref p) H1) ∨
  (∃ v : V, (∀ (Q' : VK) (E' : XK), Bad C1 f1 v H0 E' → tl H0 Q' E') ∧ ∀ (r : Addr) (H1 : Hp), Same H0 H1 → H1 r = some (.tup [.str t1, v]) → Q (.ref r) H1) ∨
  (∃ v : V, (∀ (Q' : VK) (E' : XK), Bad C2 f2 v H0 E' → tl H0 Q' E') ∧ ∀ (r : Addr) (H1 : Hp), Same H0 H1 → H1 r = some (.tup [.str t2, v]) → Q (.ref r) H1))
end Own

/-! own layer, of no law: OWO2: the least and the greatest running total over all orders: none is beyond. -/
namespace Own
open PySem PySem.Spec PyProof.Rows L2 LamX NdefX
/-! ### what an entry brings -/
def bsE (U : Int) (t : Str) (x : Int) : Int := if isLoose U x t = true then x / U else near x U t
def evE (U : Int) (t : Str) (x : Int) : Int := if (isLoose U x t && decide (x / U % 2 = 0)) = true then 1 else 0
def odE (U : Int) (t : Str) (x : Int) : Int := if (isLoose U x t && decide (x / U % 2 = 1)) = true then 1 else 0
def kyE (U : Int) (t : Str) (x : Int) : Int := if (!isLoose U x t && decide (near x U t % 2 = 1)) = true then 1 else 0
/-- whether it is one of those that come first -/
def inL (dn : Bool) (U x : Int) : Bool := decide (decide (x / U < 0) = dn)
def lfE (dn : Bool) (U : Int) (t : Str) (x : Int) : Int := if (inL dn U x && isLoose U x t) = true then 1 else 0
def vlE (U : Int) (t : Str) (x : Int) : Int := if isLoose U x t = true then x / U + 1 else near x U t
def rmE (dn : Bool) (U : Int) (t : Str) (x : Int) : Int := if inL dn U x = true then (if dn = true then -vlE U t x else vlE U t x) else 0
def szE (dn : Bool) (U x : Int) : Int := if dn = true then x / U + 1 else -(x / U) - 1
def csC (dn : Bool) (U : Int) (t : Str) (x : Int) : Bool := isLoose U x t && !inL dn U x
def csOf (dn : Bool) (U : Int) (t : Str) (es : List (Int × Nat)) : List (Int × Nat) := (es.filter fun e => csC dn U t e.1).map fun e => (szE dn U e.1, e.2)
def roomR (dn : Bool) (U : Int) (t : Str) (es : List (Int × Nat)) : Int := wsum (rmE dn U t) es - (if dn = true then 0 else 1)
/-- the greatest running total, by [29] -/
def Hi (dn : Bool) (U : Int) (t : Str) (es : List (Int × Nat)) (h : Int) : Prop := ∃ m, Mst (csOf dn U t es) (roomR dn U t es) m ∧ h = wsum (bsE U t) es + wsum (lfE dn U t) es + m
theorem Hi.one {dn : Bool} {U : Int} {t : Str} {es : List (Int × Nat)} {h h' : Int} (a : Hi dn U t es h) (b : Hi dn U t es h') : h = h' := by
  obtain ⟨m, h1, h2⟩ := a
  obtain ⟨m', g1, g2⟩ := b
  rw [h2, g2, h1.one g1]
section
variable {U x s : Int} {t : Str} {dn : Bool}
theorem cs_cons (e : Int × Nat) (es : List (Int × Nat)) : csOf dn U t (e :: es) = if csC dn U t e.1 = true then (szE dn U e.1, e.2) :: csOf dn U t es else csOf dn U t es := by
  unfold csOf
  rw [List.filter_cons]
  split <;> rfl
theorem cs_ones (y : Int) (ys : List Int) : csOf dn U t (ones (y :: ys)) = if csC dn U t y = true then (szE dn U y, 1) :: csOf dn U t (ones ys) else csOf dn U t (ones ys) := cs_cons _ _
theorem cs_perm {es fs : List (Int × Nat)} (h : List.Perm es fs) : List.Perm (csOf dn U t es) (csOf dn U t fs) := (h.filter _).map _
theorem near_two : near x U t = x / U ∨ near x U t = x / U + 1 := by
  unfold near
  split
  · exact .inl rfl
  · split
    · exact .inr rfl
    · exact .inl rfl
theorem inL_pos : inL true U x = decide (x / U < 0) := by
  unfold inL
  by_cases h : x / U < 0 <;> simp [h]
theorem inL_neg : inL false U x = decide (0 ≤ x / U) := by
  unfold inL
  by_cases h : x / U < 0
  · rw [decide_eq_true h]
    simp
    omega
  · rw [decide_eq_false h]
    simp
    omega
/-- of the sizes none is below what is told -/
theorem cs_low (hU : 0 < U) {es : List (Int × Nat)} : ∀ e ∈ csOf dn U t es, (if dn = true then (1 : Int) else 0) ≤ e.1 := by
  intro e he
  obtain ⟨q, hq, rfl⟩ := List.mem_map.mp he
  have c := (List.mem_filter.mp hq).2
  show _ ≤ szE dn U q.1
  unfold csC at c
  cases dn with
  | true =>
    rw [inL_pos] at c
    have : ¬ q.1 / U < 0 := by
      intro z
      rw [decide_eq_true z] at c
      simp at c
    show (1 : Int) ≤ q.1 / U + 1
    omega
  | false =>
    rw [inL_neg] at c
    have : ¬ 0 ≤ q.1 / U := by
      intro z
      rw [decide_eq_true z] at c
      simp at c
    show (0 : Int) ≤ -(q.1 / U) - 1
    omega
/-! ### cut, halfcut -/
theorem cut_run (hU : 0 < U) (ht : t ∈ cutW) : ∀ (ys : List Int) (s N P : Int), P ≤ N → P - N ≤ s → ∃ p c u : Int, Ch (csOf true U t (ones ys)) p c ∧ 0 ≤ u ∧ runL U t ys s = s + wsum (bsE U t) (ones ys) + (wsum (lfE true U t) (ones ys) - u) + p ∧ P + c ≤ N + wsum (rmE true U t) (ones ys) + u
  | [], s, N, P, h1, h2 => ⟨0, 0, 0, .nil, Int.le_refl _, by rw [wsum_ones_nil, wsum_ones_nil]; show s = _; omega, by rw [wsum_ones_nil]; omega⟩
  | x :: ys, s, N, P, h1, h2 => by
    obtain ⟨hw, hne⟩ := cut_way ht
    rw [runL_cons, wsum_ones, wsum_ones, wsum_ones, cs_ones]
    by_cases l : isLoose U x t = true
    · have st := stp_side hU hw l hne s
      rw [addS_cut ht] at st
      have b : bsE U t x = x / U := by unfold bsE; rw [if_pos l]
      have v : vlE U t x = x / U + 1 := by unfold vlE; rw [if_pos l]
      by_cases f : x / U < 0
      · have i : inL true U x = true := by rw [inL_pos, decide_eq_true f]
        have lf : lfE true U t x = 1 := by unfold lfE; rw [i, l]; rfl
        have rm : rmE true U t x = -(x / U + 1) := by unfold rmE; rw [if_pos i, if_pos rfl, v]
        have cc : csC true U t x = false := by unfold csC; rw [i]; simp
        rw [if_neg (by rw [cc]; decide)]
        by_cases g : 0 ≤ s + x / U
        · rw [if_pos g] at st
          obtain ⟨p, c, u, a1, a2, a3, a4⟩ := cut_run hU ht ys (stp U x t s) (N - x / U) P (by omega) (by omega)
          exact ⟨p, c, u + 1, a1, by omega, by omega, by omega⟩
        · rw [if_neg g] at st
          obtain ⟨p, c, u, a1, a2, a3, a4⟩ := cut_run hU ht ys (stp U x t s) (N - (x / U + 1)) P (by omega) (by omega)
          exact ⟨p, c, u, a1, by omega, by omega, by omega⟩
      · have i : inL true U x = false := by rw [inL_pos, decide_eq_false f]
        have lf : lfE true U t x = 0 := by unfold lfE; rw [i]; rfl
        have rm : rmE true U t x = 0 := by unfold rmE; rw [i]; rfl
        have cc : csC true U t x = true := by unfold csC; rw [i, l]; rfl
        rw [if_pos cc]
        have sz : szE true U x = x / U + 1 := rfl
        by_cases g : 0 ≤ s + x / U
        · rw [if_pos g] at st
          obtain ⟨p, c, u, a1, a2, a3, a4⟩ := cut_run hU ht ys (stp U x t s) N P h1 (by omega)
          exact ⟨p, c, u, .to 0 (Int.le_refl _) (by decide) a1 (by omega) (by omega), by omega, by omega, by omega⟩
        · rw [if_neg g] at st
          obtain ⟨p, c, u, a1, a2, a3, a4⟩ := cut_run hU ht ys (stp U x t s) N (P + (x / U + 1)) (by omega) (by omega)
          exact ⟨1 + p, (x / U + 1) + c, u, .to 1 (by decide) (by decide) a1 rfl (by omega), by omega, by omega, by omega⟩
    · have l' : isLoose U x t = false := eq_false_of_ne_true l
      have st := stp_tight (s := s) hU hw l'
      have b : bsE U t x = near x U t := by unfold bsE; rw [if_neg l]
      have v : vlE U t x = near x U t := by unfold vlE; rw [if_neg l]
      have lf : lfE true U t x = 0 := by unfold lfE; rw [l']; simp
      have cc : csC true U t x = false := by unfold csC; rw [l']; rfl
      rw [if_neg (by rw [cc]; decide)]
      have two := near_two (x := x) (U := U) (t := t)
      by_cases f : x / U < 0
      · have i : inL true U x = true := by rw [inL_pos, decide_eq_true f]
        have rm : rmE true U t x = -near x U t := by unfold rmE; rw [if_pos i, if_pos rfl, v]
        obtain ⟨p, c, u, a1, a2, a3, a4⟩ := cut_run hU ht ys (stp U x t s) (N - near x U t) P (by omega) (by omega)
        exact ⟨p, c, u, a1, by omega, by omega, by omega⟩
      · have i : inL true U x = false := by rw [inL_pos, decide_eq_false f]
        have rm : rmE true U t x = 0 := by unfold rmE; rw [i]; rfl
        obtain ⟨p, c, u, a1, a2, a3, a4⟩ := cut_run hU ht ys (stp U x t s) N P h1 (by omega)
        exact ⟨p, c, u, a1, by omega, by omega, by omega⟩
/-- one of the sizes is put back -/
theorem Ch.less {l : List (Int × Nat)} {n c : Int} (h : Ch l n c) : (∀ e ∈ l, 1 ≤ e.1) → 0 < n → ∃ c', c' ≤ c - 1 ∧ Ch l (n - 1) c' := by
  induction h with
  | nil => exact fun _ z => absurd z (by omega)
  | @more s k l n c j h0 h1 r ih =>
    intro hl hn
    have hs : 1 ≤ s := hl (s, k) List.mem_cons_self
    by_cases z : 0 < j
    · have e : (j - 1) * s = j * s - 1 * s := Int.sub_mul j 1 s
      exact ⟨(j - 1) * s + c, by omega, .to (j - 1) (by omega) (by omega) r (by omega) rfl⟩
    · obtain ⟨c', a, b⟩ := ih (fun e he => hl e (List.mem_cons_of_mem _ he)) (by omega)
      exact ⟨j * s + c', by omega, .to j h0 h1 b (by omega) rfl⟩
theorem Ch.drop {l : List (Int × Nat)} (hl : ∀ e ∈ l, 1 ≤ e.1) : ∀ (u : Nat) {n c r : Int}, Ch l n c → c ≤ r + u → 0 ≤ r → ∃ n' c', Ch l n' c' ∧ n - u ≤ n' ∧ c' ≤ r
  | 0, n, c, r, h, hc, _ => ⟨n, c, h, by omega, by omega⟩
  | u + 1, n, c, r, h, hc, hr => by
    by_cases z : 0 < n
    · obtain ⟨c1, a, b⟩ := h.less hl z
      obtain ⟨n', c', q1, q2, q3⟩ := Ch.drop hl u b (show c1 ≤ r + u by omega) hr
      exact ⟨n', c', q1, by omega, q3⟩
    · have := h.pos.1
      exact ⟨0, 0, Ch.zero l, by omega, hr⟩
theorem wsum_ones_ge {f : Int → Int} {b : Int} (h : ∀ x, 0 ≤ f x) : ∀ ys : List Int, 0 ≤ wsum f (ones ys)
  | [] => Int.le_refl _
  | y :: ys => by
    rw [wsum_ones]
    have := h y
    have := wsum_ones_ge (b := b) h ys
    omega
theorem rm_pos_cut (hU : 0 < U) : 0 ≤ rmE true U t x := by
  unfold rmE
  split
  · rename_i i
    rw [inL_pos] at i
    have f := of_decide_eq_true i
    rw [if_pos rfl]
    unfold vlE
    have two := near_two (x := x) (U := U) (t := t)
    split <;> omega
  · exact Int.le_refl _
theorem cut_high (hU : 0 < U) (ht : t ∈ cutW) {ys : List Int} {h : Int} (H : Hi true U t (ones ys) h) : runL U t ys 0 ≤ h := by
  obtain ⟨m, M, rfl⟩ := H
  obtain ⟨p, c, u, a1, a2, a3, a4⟩ := cut_run hU ht ys 0 0 0 (Int.le_refl _) (by omega)
  have e : roomR true U t (ones ys) = wsum (rmE true U t) (ones ys) := by
    show wsum (rmE true U t) (ones ys) - 0 = _
    omega
  rw [e] at M
  have r0 := wsum_ones_ge (b := 0) (fun x => rm_pos_cut (t := t) (x := x) hU) ys
  obtain ⟨n', c', q1, q2, q3⟩ := Ch.drop (fun e he => cs_low (dn := true) hU e he) u.toNat (r := wsum (rmE true U t) (ones ys)) a1 (by omega) r0
  have := (M.2 r0).2 n' c' q1 q3
  omega
/-! ### away, halfaway -/
theorem away_run (hU : 0 < U) (ht : t ∈ awayW) : ∀ (ys : List Int) (s N P : Int), s ≤ N - P → ∃ p c u : Int, Ch (csOf false U t (ones ys)) p c ∧ 0 ≤ u ∧ runL U t ys s = s + wsum (bsE U t) (ones ys) + (wsum (lfE false U t) (ones ys) - u) + p ∧ ((p = 0 ∧ c = 0) ∨ P + c + 1 ≤ N + wsum (rmE false U t) (ones ys) - u) ∧ 0 ≤ wsum (rmE false U t) (ones ys) - u
  | [], s, N, P, h1 => ⟨0, 0, 0, .nil, Int.le_refl _, by rw [wsum_ones_nil, wsum_ones_nil]; show s = _; omega, .inl ⟨rfl, rfl⟩, by rw [wsum_ones_nil]; omega⟩
  | x :: ys, s, N, P, h1 => by
    obtain ⟨hw, hne⟩ := away_way ht
    rw [runL_cons, wsum_ones, wsum_ones, wsum_ones, cs_ones]
    by_cases l : isLoose U x t = true
    · have st := stp_side hU hw l hne s
      rw [addS_away ht] at st
      have b : bsE U t x = x / U := by unfold bsE; rw [if_pos l]
      have v : vlE U t x = x / U + 1 := by unfold vlE; rw [if_pos l]
      by_cases f : 0 ≤ x / U
      · have i : inL false U x = true := by rw [inL_neg, decide_eq_true f]
        have lf : lfE false U t x = 1 := by unfold lfE; rw [i, l]; rfl
        have rm : rmE false U t x = x / U + 1 := by unfold rmE; rw [if_pos i, if_neg (by decide), v]
        have cc : csC false U t x = false := by unfold csC; rw [i]; simp
        rw [if_neg (by rw [cc]; decide)]
        by_cases g : 0 ≤ s + x / U
        · rw [if_pos g] at st
          obtain ⟨p, c, u, a1, a2, a3, a4, a5⟩ := away_run hU ht ys (stp U x t s) (N + (x / U + 1)) P (by omega)
          exact ⟨p, c, u, a1, by omega, by omega, a4.imp id fun _ => by omega, by omega⟩
        · rw [if_neg g] at st
          obtain ⟨p, c, u, a1, a2, a3, a4, a5⟩ := away_run hU ht ys (stp U x t s) (N + x / U) P (by omega)
          exact ⟨p, c, u + 1, a1, by omega, by omega, a4.imp id fun _ => by omega, by omega⟩
      · have i : inL false U x = false := by rw [inL_neg, decide_eq_false f]
        have lf : lfE false U t x = 0 := by unfold lfE; rw [i]; rfl
        have rm : rmE false U t x = 0 := by unfold rmE; rw [i]; rfl
        have cc : csC false U t x = true := by unfold csC; rw [i, l]; rfl
        rw [if_pos cc]
        have sz : szE false U x = -(x / U) - 1 := rfl
        by_cases g : 0 ≤ s + x / U
        · rw [if_pos g] at st
          obtain ⟨p, c, u, a1, a2, a3, a4, a5⟩ := away_run hU ht ys (stp U x t s) N (P + (-(x / U) - 1)) (by omega)
          have c0 := a1.pos
          refine ⟨1 + p, (-(x / U) - 1) + c, u, .to 1 (by decide) (by decide) a1 rfl (by omega), by omega, by omega, .inr ?_, by omega⟩
          rcases a4 with ⟨rfl, rfl⟩ | a4
          · omega
          · omega
        · rw [if_neg g] at st
          obtain ⟨p, c, u, a1, a2, a3, a4, a5⟩ := away_run hU ht ys (stp U x t s) N P (by omega)
          exact ⟨p, c, u, .to 0 (Int.le_refl _) (by decide) a1 (by omega) (by omega), by omega, by omega, a4.imp id fun _ => by omega, by omega⟩
    · have l' : isLoose U x t = false := eq_false_of_ne_true l
      have st := stp_tight (s := s) hU hw l'
      have b : bsE U t x = near x U t := by unfold bsE; rw [if_neg l]
      have v : vlE U t x = near x U t := by unfold vlE; rw [if_neg l]
      have lf : lfE false U t x = 0 := by unfold lfE; rw [l']; simp
      have cc : csC false U t x = false := by unfold csC; rw [l']; rfl
      rw [if_neg (by rw [cc]; decide)]
      have two := near_two (x := x) (U := U) (t := t)
      by_cases f : 0 ≤ x / U
      · have i : inL false U x = true := by rw [inL_neg, decide_eq_true f]
        have rm : rmE false U t x = near x U t := by unfold rmE; rw [if_pos i, if_neg (by decide), v]
        obtain ⟨p, c, u, a1, a2, a3, a4, a5⟩ := away_run hU ht ys (stp U x t s) (N + near x U t) P (by omega)
        exact ⟨p, c, u, a1, by omega, by omega, a4.imp id fun _ => by omega, by omega⟩
      · have i : inL false U x = false := by rw [inL_neg, decide_eq_false f]
        have rm : rmE false U t x = 0 := by unfold rmE; rw [i]; rfl
        obtain ⟨p, c, u, a1, a2, a3, a4, a5⟩ := away_run hU ht ys (stp U x t s) N P (by omega)
        exact ⟨p, c, u, a1, by omega, by omega, a4.imp id fun _ => by omega, by omega⟩
theorem away_high (hU : 0 < U) (ht : t ∈ awayW) {ys : List Int} {h : Int} (H : Hi false U t (ones ys) h) : runL U t ys 0 ≤ h := by
  obtain ⟨m, M, rfl⟩ := H
  obtain ⟨p, c, u, a1, a2, a3, a4, a5⟩ := away_run hU ht ys 0 0 0 (by omega)
  have e : roomR false U t (ones ys) = wsum (rmE false U t) (ones ys) - 1 := rfl
  rw [e] at M
  have m0 := M.pos
  rcases a4 with ⟨rfl, rfl⟩ | a4
  · omega
  · have c0 := a1.pos.2 fun e he => cs_low (dn := false) hU e he
    have := (M.2 (by omega)).2 p c a1 (by omega)
    omega
/-! ### halfeven -/
theorem two_bits {a : Int} : a % 2 = 0 ∨ a % 2 = 1 := by omega
theorem even_run (hU : 0 < U) : ∀ (ys : List Int) (s : Int), ∃ le uo : Int, 0 ≤ le ∧ le ≤ wsum (evE U "halfeven") (ones ys) ∧ 0 ≤ uo ∧ uo ≤ wsum (odE U "halfeven") (ones ys) ∧
    runL U "halfeven" ys s = s + wsum (bsE U "halfeven") (ones ys) + le + wsum (odE U "halfeven") (ones ys) - uo ∧ le + uo + runL U "halfeven" ys s % 2 ≤ wsum (kyE U "halfeven") (ones ys) + s % 2
  | [], s => ⟨0, 0, Int.le_refl _, Int.le_refl _, Int.le_refl _, Int.le_refl _, by rw [wsum_ones_nil, wsum_ones_nil]; show s = _; omega, by rw [wsum_ones_nil]; show 0 + 0 + s % 2 ≤ _; omega⟩
  | x :: ys, s => by
    rw [runL_cons, wsum_ones, wsum_ones, wsum_ones, wsum_ones]
    by_cases l : isLoose U x "halfeven" = true
    · have st := stp_even hU l s
      have b : bsE U "halfeven" x = x / U := by unfold bsE; rw [if_pos l]
      have ky : kyE U "halfeven" x = 0 := by unfold kyE; rw [l]; rfl
      have ev : evE U "halfeven" x = if x / U % 2 = 0 then 1 else 0 := by unfold evE; rw [l]; simp
      have od : odE U "halfeven" x = if x / U % 2 = 1 then 1 else 0 := by unfold odE; rw [l]; simp
      obtain ⟨le, uo, a1, a2, a3, a4, a5, a6⟩ := even_run hU ys (stp U x "halfeven" s)
      generalize runL U "halfeven" ys (stp U x "halfeven" s) = R at a5 a6 ⊢
      generalize stp U x "halfeven" s = S at *
      generalize x / U = F at *
      rw [b, ky]
      by_cases f : F % 2 = 0
      · rw [if_pos f] at ev
        rw [if_neg (by omega)] at od
        rw [ev, od]
        by_cases g : s % 2 = 0
        · exact ⟨le, uo, a1, by omega, a3, by omega, by omega, by omega⟩
        · exact ⟨le + 1, uo, by omega, by omega, a3, by omega, by omega, by omega⟩
      · rw [if_neg f] at ev
        rw [if_pos (by omega)] at od
        rw [ev, od]
        by_cases g : s % 2 = 0
        · exact ⟨le, uo, a1, by omega, a3, by omega, by omega, by omega⟩
        · exact ⟨le, uo + 1, a1, by omega, by omega, by omega, by omega, by omega⟩
    · have l' : isLoose U x "halfeven" = false := eq_false_of_ne_true l
      have st := stp_tight (s := s) hU (show ("halfeven" : Str) ∈ waysL by decide +kernel) l'
      have b : bsE U "halfeven" x = near x U "halfeven" := by unfold bsE; rw [if_neg l]
      have ky : kyE U "halfeven" x = if near x U "halfeven" % 2 = 1 then 1 else 0 := by unfold kyE; rw [l']; simp
      have ev : evE U "halfeven" x = 0 := by unfold evE; rw [l']; rfl
      have od : odE U "halfeven" x = 0 := by unfold odE; rw [l']; rfl
      obtain ⟨le, uo, a1, a2, a3, a4, a5, a6⟩ := even_run hU ys (stp U x "halfeven" s)
      generalize runL U "halfeven" ys (stp U x "halfeven" s) = R at a5 a6 ⊢
      generalize stp U x "halfeven" s = S at *
      generalize near x U "halfeven" = F at *
      rw [b, ky, ev, od]
      refine ⟨le, uo, a1, by omega, a3, by omega, by omega, ?_⟩
      split <;> omega
/-! ### the others -/
theorem flat_run (hU : 0 < U) (ht : t ∈ flatW) : ∀ (ys : List Int) (s : Int), runL U t ys s = s + wsum (bsE U t) (ones ys)
  | [], s => by
    rw [wsum_ones_nil]
    show s = _
    omega
  | x :: ys, s => by
    have hw : t ∈ waysL := by
      simp only [flatW, List.mem_cons, List.not_mem_nil, or_false] at ht
      rcases ht with rfl | rfl | rfl | rfl <;> decide +kernel
    have l := loose_no (U := U) (x := x) ht
    have st := stp_tight (s := s) hU hw l
    have b : bsE U t x = near x U t := by unfold bsE; rw [l]; rfl
    rw [runL_cons, wsum_ones, flat_run hU ht ys, st, b]
    omega
/-! ### the negatives -/
theorem mirr_self (ht : t ∈ cutW ∨ t ∈ awayW) : mirr t = t := by
  rcases ht with h | h
  · simp only [cutW, List.mem_cons, List.not_mem_nil, or_false] at h
    rcases h with rfl | rfl <;> decide +kernel
  · simp only [awayW, List.mem_cons, List.not_mem_nil, or_false] at h
    rcases h with rfl | rfl <;> decide +kernel
theorem neg_dm (hU : 0 < U) (r : x % U ≠ 0) : -x / U = -(x / U) - 1 ∧ -x % U = U - x % U := by
  have e := Int.emod_add_mul_ediv x U
  have r0 := Int.emod_nonneg x (show U ≠ 0 by omega)
  have r1 := Int.emod_lt_of_pos x hU
  exact dm_of hU (q := -(x / U) - 1) (r := U - x % U) (by rw [Int.sub_mul, Int.neg_mul, Int.mul_comm (x / U)]; omega) (by omega) (by omega)
theorem near_neg (hU : 0 < U) (hw : t ∈ waysL) (ht : t ∈ cutW ∨ t ∈ awayW) : near (-x) U t = -near x U t := by
  by_cases r : x % U = 0
  · have e := Int.emod_add_mul_ediv x U
    have := dm_of (x := -x) (q := -(x / U)) (r := 0) hU (by rw [Int.neg_mul, Int.mul_comm (x / U)]; omega) (Int.le_refl _) hU
    rw [near_zero r, near_zero this.2, this.1]
  · obtain ⟨e1, e2⟩ := neg_dm hU r
    have r1 := Int.emod_lt_of_pos x hU
    have g := goes_mirr hw (x / U) (2 * (x % U) - U)
    rw [mirr_self ht] at g
    rw [near_up r, near_up (by rw [e2]; omega), e1, e2, show 2 * (U - x % U) - U = -(2 * (x % U) - U) by omega, g]
    cases goesUp t (x / U) (2 * (x % U) - U)
    · show -(x / U) - 1 + 1 = -(x / U + 0)
      omega
    · show -(x / U) - 1 + 0 = -(x / U + 1)
      omega
def negs (ys : List Int) : List Int := ys.map fun y => -y
theorem run_neg (hU : 0 < U) (hw : t ∈ waysL) (ht : t ∈ cutW ∨ t ∈ awayW) : ∀ (ys : List Int) (s : Int), runL U t (negs ys) (-s) = -runL U t ys s
  | [], s => rfl
  | y :: ys, s => by
    show runL U t (negs ys) (stp U (-y) t (-s)) = -runL U t ys (stp U y t s)
    have e : stp U (-y) t (-s) = -stp U y t s := by
      show near (-s * U + -y) U t = -near (s * U + y) U t
      rw [show -s * U + -y = -(s * U + y) by rw [Int.neg_mul]; omega]
      exact near_neg hU hw ht
    rw [e, run_neg hU hw ht ys]
/-- the entries with their signs changed -/
def mir (es : List (Int × Nat)) : List (Int × Nat) := es.map fun e => (-e.1, e.2)
theorem mir_ones (ys : List Int) : mir (ones ys) = ones (negs ys) := by
  unfold mir ones negs
  rw [List.map_map, List.map_map]
  rfl
/-! ### the range -/
/-- the least and the greatest one -/
def Ends (U : Int) (t : Str) (es : List (Int × Nat)) (lo hi : Int) : Prop :=
  (t = "halfeven" → lo = wsum (bsE U t) es + wsum (odE U t) es - min (wsum (odE U t) es) (wsum (kyE U t) es) ∧ hi = wsum (bsE U t) es + wsum (odE U t) es + min (wsum (evE U t) es) (wsum (kyE U t) es)) ∧
  (t ∈ cutW → Hi true U t es hi ∧ Hi true U t (mir es) (-lo)) ∧ (t ∈ awayW → Hi false U t es hi ∧ Hi false U t (mir es) (-lo)) ∧ (t ∈ flatW → lo = wsum (bsE U t) es ∧ hi = wsum (bsE U t) es)
theorem Ends.one {es : List (Int × Nat)} {lo hi lo' hi' : Int} (ht : t ∈ waysL) (a : Ends U t es lo hi) (b : Ends U t es lo' hi') : lo = lo' ∧ hi = hi' := by
  obtain ⟨a1, a2, a3, a4⟩ := a
  obtain ⟨b1, b2, b3, b4⟩ := b
  rcases ways_parts ht with h | h | h | h
  · obtain ⟨x1, x2⟩ := a4 h
    obtain ⟨y1, y2⟩ := b4 h
    exact ⟨x1.trans y1.symm, x2.trans y2.symm⟩
  · obtain ⟨x1, x2⟩ := a1 h
    obtain ⟨y1, y2⟩ := b1 h
    exact ⟨x1.trans y1.symm, x2.trans y2.symm⟩
  · obtain ⟨x1, x2⟩ := a2 h
    obtain ⟨y1, y2⟩ := b2 h
    have := x2.one y2
    exact ⟨by omega, x1.one y1⟩
  · obtain ⟨x1, x2⟩ := a3 h
    obtain ⟨y1, y2⟩ := b3 h
    have := x2.one y2
    exact ⟨by omega, x1.one y1⟩
/-- entries of the same weight -/
structure Alike (U : Int) (t : Str) (es fs : List (Int × Nat)) : Prop where
  w : ∀ f : Int → Int, wsum f es = wsum f fs
  c : ∀ (dn : Bool) (n c : Int), Ch (csOf dn U t es) n c ↔ Ch (csOf dn U t fs) n c
theorem Alike.perm {es fs : List (Int × Nat)} (h : List.Perm es fs) : Alike U t es fs := ⟨fun f => wsum_perm f h, fun dn n c => ⟨Ch.perm (cs_perm h), Ch.perm (cs_perm h.symm)⟩⟩
theorem Alike.trans {es fs gs : List (Int × Nat)} (a : Alike U t es fs) (b : Alike U t fs gs) : Alike U t es gs := ⟨fun f => (a.w f).trans (b.w f), fun dn n c => (a.c dn n c).trans (b.c dn n c)⟩
theorem Alike.symm {es fs : List (Int × Nat)} (a : Alike U t es fs) : Alike U t fs es := ⟨fun f => (a.w f).symm, fun dn n c => (a.c dn n c).symm⟩
theorem Alike.cons {es fs : List (Int × Nat)} (a : Alike U t es fs) (e : Int × Nat) : Alike U t (e :: es) (e :: fs) := by
  refine ⟨fun f => ?_, fun dn n c => ?_⟩
  · show _ + _ = _ + _
    rw [a.w f]
  · rw [cs_cons, cs_cons]
    split
    · exact Ch.cons_iff (a.c dn) n c
    · exact a.c dn n c
theorem Alike.join {x : Int} {a b : Nat} {es : List (Int × Nat)} : Alike U t ((x, a) :: (x, b) :: es) ((x, a + b) :: es) := by
  refine ⟨fun f => ?_, fun dn n c => ?_⟩
  · show f x * (a : Int) + (f x * (b : Int) + wsum f es) = f x * ((a + b : Nat) : Int) + wsum f es
    rw [Int.natCast_add, Int.mul_add]
    omega
  · rw [cs_cons, cs_cons, cs_cons]
    by_cases h : csC dn U t x = true
    · rw [if_pos h, if_pos h, if_pos h]
      exact Ch.join
    · rw [if_neg h, if_neg h, if_neg h]
theorem Hi.alike {es fs : List (Int × Nat)} {h : Int} (a : Alike U t es fs) (H : Hi dn U t es h) : Hi dn U t fs h := by
  obtain ⟨m, M, e⟩ := H
  refine ⟨m, ?_, by rw [← a.w, ← a.w]; exact e⟩
  have r : roomR dn U t fs = roomR dn U t es := by
    unfold roomR
    rw [a.w]
  rw [r]
  exact (Mst.iff (a.c dn)).mp M
theorem Alike.of_mir {es fs : List (Int × Nat)} (p : List.Perm es fs) : Alike U t (mir es) (mir fs) := Alike.perm (p.map _)
theorem Ends.alike {es fs : List (Int × Nat)} {lo hi : Int} (a : Alike U t es fs) (b : Alike U t (mir es) (mir fs)) (h : Ends U t es lo hi) : Ends U t fs lo hi := by
  obtain ⟨a1, a2, a3, a4⟩ := h
  refine ⟨fun z => ?_, fun z => ⟨(a2 z).1.alike a, (a2 z).2.alike b⟩, fun z => ⟨(a3 z).1.alike a, (a3 z).2.alike b⟩, fun z => ?_⟩
  · rw [← a.w, ← a.w, ← a.w, ← a.w]
    exact a1 z
  · rw [← a.w]
    exact a4 z
/-- no order is beyond -/
theorem ends_hold (hU : 0 < U) (ht : t ∈ waysL) {ys zs : List Int} (p : List.Perm ys zs) {lo hi : Int} (h : Ends U t (ones ys) lo hi) : lo ≤ runL U t zs 0 ∧ runL U t zs 0 ≤ hi := by
  have q : List.Perm (ones ys) (ones zs) := p.map _
  obtain ⟨a1, a2, a3, a4⟩ := h.alike (Alike.perm q) (Alike.of_mir q)
  rcases ways_parts ht with f | f | f | f
  · obtain ⟨x1, x2⟩ := a4 f
    rw [flat_run hU f, x1, x2]
    omega
  · subst f
    obtain ⟨x1, x2⟩ := a1 rfl
    obtain ⟨le, uo, b1, b2, b3, b4, b5, b6⟩ := even_run hU zs 0
    have r := Int.emod_nonneg (runL U "halfeven" zs 0) (show (2 : Int) ≠ 0 by decide)
    rw [Int.min_def] at x1 x2
    split at x1 <;> split at x2 <;> omega
  · obtain ⟨x1, x2⟩ := a2 f
    refine ⟨?_, cut_high hU f x1⟩
    rw [mir_ones] at x2
    have := cut_high hU f x2
    have e := run_neg hU ht (.inl f) zs 0
    rw [show (-0 : Int) = 0 from rfl] at e
    omega
  · obtain ⟨x1, x2⟩ := a3 f
    refine ⟨?_, away_high hU f x1⟩
    rw [mir_ones] at x2
    have := away_high hU f x2
    have e := run_neg hU ht (.inr f) zs 0
    rw [show (-0 : Int) = 0 from rfl] at e
    omega
end
end Own

/-! own layer, of no law: OWNJ: min(xs, key=lambda x: x[0]), max likewise. -/
namespace Own
open PySem PySem.Spec PyProof.Rows L2 LamX NdefX
/-- a lambda of one name that gives the name's first part -/
structure FstL (F : NF) (b : Expr) (x : Str) : Prop where
  S : NScope [x] [x] [] F.scope
  eb : ∃ (p1 p2 p3 : Pos) (j : Nat), b = .Subscript (.Name x p1) (.Constant (.int 0) j p2) p3
  nd : (x == ("__debug__" : Str)) = false
  df : dInts F.params.defaults = []
  bind : ∀ (doc pm ctv : Value) (s : Shared) (u : Value), BindsTo s (lamFd F b .none doc pm ctv) ⟨[u], []⟩ [(x, u)]
theorem first_run {P : Program} {w : World} {A : Around} {s : Shared} {F : NF} {b : Expr} {doc pm ctv : Value} {f t : Addr} {x : Str} {items : Array Value} {it : Value} {Q E : Value → Shared → Prop} (hd : A.depth < recursionLimit)
    (ho : s.heap.get? f = some ({ cls := .type "function", data := .func (lamFd F b .none doc pm ctv) } : Obj)) (hc : s.heap.CodeRec (.ref F.c) F.qual) (lim : s.heap.NoLimit) (L : FstL F b x)
    (ht : IsTup s.heap t items) (h0 : items[0]? = some it) (hQ : ∀ h' tk, s.toks ≤ tk → (∀ b o, s.heap.get? b = some o → h'.get? b = some o) → Q it { s with heap := h', toks := tk }) : wpAny (model P w) A (call (.ref f) [.ref t]) Q E s := by
  refine wpAny_call (PySem.W.kla_callFunE hd ho rfl L.S.co L.S.gen rfl hc ?_)
  refine L.bind doc pm ctv s (.ref t) _ _ _ _ ?_
  refine wpAny_newFunctionEnv L.S.nocell (fun ⟨n, v⟩ hy => ?_) (fun h1 hns hsb => ⟨lim.fresh _ hsb, ?_⟩) L.S.kind
  · have e := List.mem_singleton.mp hy
    have e1 : n = x := congrArg Prod.fst e
    subst e1
    exact L.S.par _ (List.mem_singleton.mpr rfl)
  show codeAny _ _ (.expr b (envF F f s.heap.objs.size)) _ _
  have old : ∀ b o, s.heap.get? b = some o → h1.get? b = some o := fun b o e => hsb.extBut b o (Nat.ne_of_lt (Heap.lt_size e)) (Heap.get?_push_of_some _ e)
  obtain ⟨p1, p2, p3, j, eb⟩ := L.eb
  rw [eb]
  have t1 : IsTup h1 t items := by
    obtain ⟨o, z1, z2⟩ := ht
    exact ⟨o, old _ _ z1, z2⟩
  have kx : (envF F f s.heap.objs.size).kindOf x = some .local := L.S.par _ (List.mem_singleton.mpr rfl)
  refine PySem.W.kla_codeExpr (Subscript_ (wpAny_Name (wpAny_loadName_local L.S.kind kx hns (v := .ref t) ?_ ?_) L.nd))
  · simp
  refine wpAny_Constant_int ?_
  have sz : 0 < items.size := (Array.getElem?_eq_some_iff.mp h0).1
  refine subscriptTail_builtinR (x := it) t1.typeIs PySem.F.slot_tuple_getitem.lookup (getItem_tuple (j := 0) t1 (by decide) (by decide) ?_ h0 ⟨rfl, ?_⟩)
  · unfold seqIndex?
    simp [sz]
  · exact hQ _ _ (by show s.toks ≤ s.toks + 1 + 1; omega) old
/-- the key of a row -/
def KeyAt (H : Hp) (y : V) (k : Int) : Prop := ∃ (t : Addr) (r : List V), y = .ref t ∧ H t = some (.tup (.int k :: r))
/-- min or max by the first part: what is least, or greatest -/
def rBestKey (up : Bool) (F : NF) (b : Expr) (x : Str) : List V → List V → Hp → VK → Prop := fun vs zs H Q => ∃ (a f : Addr) (xs : List V) (ks : List Int), vs = [.ref a] ∧ zs = [.ref f] ∧ H a = some (.lst xs) ∧ LamAt H f F b ∧ H F.c = some (CodeO F.c F.qual) ∧ FstL F b x ∧ xs.length = ks.length ∧ 0 < xs.length ∧
  (∀ (i : Nat) (y : V) (k : Int), xs[i]? = some y → ks[i]? = some k → KeyAt H y k) ∧ ∀ (i : Nat) (y : V) (k : Int), xs[i]? = some y → ks[i]? = some k → (∀ k' ∈ ks, if up = true then k' ≤ k else k ≤ k') → Q y H
section
variable {X : Cx} {F : NF} {b : Expr} {x : Str}
theorem key_list {pins : List (Addr × Obj)} {σ : L2.St} {H : Hp} {s : Shared} {xs : List V} {ks : List Int} {its : List Value} (I : Inv X pins σ H s) (rv : Vals xs its) (hk : ∀ (i : Nat) (y : V) (k : Int), xs[i]? = some y → ks[i]? = some k → KeyAt H y k) {i : Nat} {v : Value} (hl : xs.length = ks.length) (hi : its[i]? = some v) :
    ∃ (k : Int) (t : Addr) (items : Array Value) (tok : Tok), ks[i]? = some k ∧ v = .ref t ∧ IsTup s.heap t items ∧ items[0]? = some (.int k tok) := by
  have li : i < its.length := (List.getElem?_eq_some_iff.mp hi).1
  have lx : i < xs.length := by rw [rv.length]; exact li
  have lk : i < ks.length := by omega
  obtain ⟨u, eu, ru⟩ := rv.get (List.getElem?_eq_getElem lx)
  obtain ⟨t, r, e1, e2⟩ := hk i _ _ (List.getElem?_eq_getElem lx) (List.getElem?_eq_getElem lk)
  rw [e1] at ru
  obtain rfl : u = Value.ref t := ru
  obtain ⟨ws, r2, t2, _⟩ := I.tuple (SqT.of e2)
  cases r2 with
  | cons h0 _ =>
    obtain ⟨tok, rfl⟩ := h0
    exact ⟨_, t, _, tok, List.getElem?_eq_getElem lk, (Option.some.inj (hi.symm.trans eu)), t2, rfl⟩
theorem best_run (up : Bool) {op : CmpOp} (hop : op = if up = true then .Gt else .Lt) (hc : X.calm = true) (hr : Room 1 X.A) {pins : List (Addr × Obj)} {s : Shared} {σ : L2.St} {H : Hp} {a f : Addr} {xs : List V} {ks : List Int} {its : List Value} (I : Inv X pins σ H s) (ha : H a = some (.lst xs)) (hf : LamAt H f F b) (hcd : H F.c = some (CodeO F.c F.qual)) (L : FstL F b x) (hl : xs.length = ks.length)
    (hk : ∀ (i : Nat) (y : V) (k : Int), xs[i]? = some y → ks[i]? = some k → KeyAt H y k) (rv : Vals xs its) (hli : s.heap.IsList a its.toArray) {Sx : Addr} (hS : Sx = s.heap.objs.size + 1) (key : Nat → Int) (hkey : ∀ i, i < ks.length → ks[i]? = some (key i)) :
    ∃ J : Shared → Prop, KeyRun X.prog X.w X.A.in1 (.ref f) op Sx [s.heap.objs.size] (fun a b => b = a) its.toArray.size (fun i v => its.toArray[i]? = some v) (fun i s' => s'.heap.IsListIter s.heap.objs.size a i ∧ s'.heap.IsList a its.toArray) J (fun i v _ => ∃ tok, v = .int (key i) tok) (if up = true then fun i j => decide (key i > key j) else fun i j => decide (key i < key j)) ∧
      J s ∧ (∀ s', J s' → ∀ h' tk, s'.toks ≤ tk → (∀ b o, b < s.heap.objs.size → s'.heap.get? b = some o → h'.get? b = some o) → J { s' with heap := h', toks := tk }) ∧ ∀ s', J s' → ∃ h' tk, s' = { s with heap := h', toks := tk } ∧ s.toks ≤ tk ∧ ∀ b o, s.heap.get? b = some o → h'.get? b = some o := by
  refine ⟨fun s' => ∃ h' tk, s' = { s with heap := h', toks := tk } ∧ s.toks ≤ tk ∧ ∀ b o, s.heap.get? b = some o → h'.get? b = some o, ?_, ⟨_, _, rfl, Nat.le_refl _, fun _ _ e => e⟩, ?_, fun _ h => h⟩
  · obtain ⟨dV, doc, pm, ctv, ho, us0, ru0, df0⟩ := lamO_at I.hok hf
    rw [L.df] at ru0
    cases ru0
    obtain rfl : dV = .none := by
      rcases df0 with ⟨_, z⟩ | ⟨n, _⟩
      · exact z
      · exact (n rfl).elim
    have lim0 := I.ok.mod.nolimit
    have cr := codeO_at I.hok hcd
    refine ⟨?_, ?_, ?_, ?_⟩
    · rintro s1 s2 ⟨h1, tk1, rfl, l1, k1⟩ m
      refine ⟨s2.heap, s2.toks, ?_, Nat.le_trans l1 m.toks, fun b o e => m.heap b o (fun hb => ?_) (k1 b o e)⟩
      · have e1 := m.gens
        have e2 := m.drawn
        have e3 := m.os
        cases s2
        simp only at e1 e2 e3
        subst e1 e2 e3
        rfl
      · have lt := Heap.lt_size e
        simp only [List.mem_cons, List.not_mem_nil, or_false] at hb
        rcases hb with z | z
        · exact Nat.lt_irrefl _ (Nat.lt_of_le_of_lt (Nat.le_succ _) (by rw [z, hS] at lt; exact lt))
        · exact Nat.lt_irrefl _ (by rw [z] at lt; exact lt)
    · exact fun i k s1 s2 h _ => h
    · rintro i v s1 o Q E hi hP ⟨h1, tk1, rfl, l1, k1⟩ hst hSo hQ
      have hi' : its[i]? = some v := by simpa using hP
      obtain ⟨k, t, items, tok, ek, rfl, tt, e0⟩ := key_list I rv hk hl hi'
      have ek2 : key i = k := by
        have lt : i < ks.length := (List.getElem?_eq_some_iff.mp ek).1
        exact Option.some.inj ((hkey i lt).symm.trans ek)
      subst ek2
      refine first_run (s := { s with heap := h1, toks := tk1 }) (hr.depth) (k1 _ _ ho) ?_ ?_ L (items := items) ?_ e0 fun h2 tk2 l2 k2 => ?_
      · obtain ⟨c0, oc, vs, tq, z1, z2, z3⟩ := cr
        exact ⟨c0, oc, vs, tq, z1, k1 _ _ z2, z3⟩
      · exact lim0.keeps fun b o e => k1 _ _ (I.env0.bs b o e).1
      · obtain ⟨o2, z1, z2⟩ := tt
        exact ⟨o2, k1 _ _ z1, z2⟩
      · refine hQ _ _ ⟨h2, tk2, rfl, Nat.le_trans l1 l2, fun b o e => k2 b o (k1 b o e)⟩ ⟨hst.1.at fun o e => k2 _ o e, hst.2.at fun o e => k2 _ o e⟩ (k2 _ _ hSo) ⟨tok, rfl⟩ fun j k' h => h
    · rintro i j ki kj s1 Q E _ ⟨t1, rfl⟩ ⟨t2, rfl⟩ q
      rw [hop]
      cases up with
      | true => exact gt_int q
      | false => exact lt_int q
  · rintro s1 ⟨h1, tk1, rfl, l1, k1⟩ h' tk l2 k2
    exact ⟨h', tk, rfl, Nat.le_trans l1 l2, fun b o e => k2 b o (Heap.lt_size e) (k1 b o e)⟩
theorem cr_bestKey (up : Bool) {id : String} (hid : id = if up = true then "max" else "min") (hc : X.calm = true) (hr : Room 1 X.A) : CallRK X (.builtin id) [Str.ofString "key"] (rBestKey up F b x) := by
  intro pins s σ H vs zs us ws Q I r rz h
  obtain ⟨a, f, xs, ks, rfl, rfl, ha, hf, hcd, L, hl, h0, hk, q⟩ := h
  obtain rfl := Vals.ref1 r
  obtain ⟨w1, rfl, e1⟩ := vals1 rz
  obtain rfl : w1 = Value.ref f := e1
  obtain ⟨its, rv, hli0, _⟩ := I.list (SqL.of ha)
  have hli := hli0.isList
  have hn : its.toArray.size = ks.length := by rw [List.size_toArray, ← rv.length, hl]
  have hkey : ∀ i, i < ks.length → ks[i]? = some ((fun i => ks.getD i 0) i) := fun i hi => by
    show ks[i]? = some (ks.getD i 0)
    rw [List.getD_eq_getElem?_getD, List.getElem?_eq_getElem hi]
    rfl
  generalize hkf : (fun i => ks.getD i 0) = key at hkey
  have lt_a : a < s.heap.objs.size := by
    obtain ⟨o, z, _⟩ := hli
    exact Heap.lt_size z
  have hsz : (s.heap.push ({ cls := .type "list_iterator", data := .fields #[.ref a, .int 0 0] } : Obj)).objs.size = s.heap.objs.size + 1 := by simp [Heap.push]
  have done : ∀ (bi : Nat) (v : Value) (s' : Shared) (J : Shared → Prop), (∀ s', J s' → ∃ h' tk, s' = { s with heap := h', toks := tk } ∧ s.toks ≤ tk ∧ ∀ b o, s.heap.get? b = some o → h'.get? b = some o) → bi < ks.length → (∀ j, j < ks.length → if up = true then key j ≤ key bi else key bi ≤ key j) → its.toArray[bi]? = some v → J s' → EP X pins σ Q v s' := by
    intro bi v s' J hJ hb best hv hj
    obtain ⟨h', tk, rfl, l, kp⟩ := hJ s' hj
    have lx : bi < xs.length := by omega
    obtain ⟨u, eu, ru⟩ := rv.get (List.getElem?_eq_getElem lx)
    have hv' : its[bi]? = some v := by simpa using hv
    obtain rfl : v = u := Option.some.inj (hv'.symm.trans eu)
    refine ⟨xs[bi], H, I.kept (t' := tk) kp, ru, q bi _ (key bi) (List.getElem?_eq_getElem lx) (hkey bi hb) fun k' hk' => ?_⟩
    obtain ⟨j, hj2⟩ := List.getElem?_of_mem hk'
    have lj : j < ks.length := (List.getElem?_eq_some_iff.mp hj2).1
    have ej : key j = k' := Option.some.inj ((hkey j lj).symm.trans hj2)
    rw [← ej]
    exact best j lj
  have hh := I.ok.hd hc
  obtain ⟨J, KR, Js, Jm, Je⟩ := best_run up (op := if up = true then .Gt else .Lt) rfl hc hr I ha hf hcd L hl hk rv hli (Sx := s.heap.objs.size + 1) rfl key hkey
  have p0 : (0 : Nat) < its.toArray.size := by rw [hn]; omega
  have Js2 : J { s with heap := s.heap.push ({ cls := .type "list_iterator", data := .fields #[.ref a, .int 0 0] } : Obj) } := Jm s Js _ s.toks (Nat.le_refl _) fun b o _ e => Heap.get?_push_of_some _ e
  show wpAny _ _ (call (.builtin id) [.ref a] [(Str.ofString "key", .ref f)]) _ _ _
  cases up with
  | false =>
    obtain rfl : id = "min" := hid
    refine call_min_walkK (wpAny_pyIter_list hli ⟨s.heap.objs.size, [s.heap.objs.size, a], [s.heap.objs.size], _, its.toArray.size, _, _, J, _, _, rfl, (Walks.list (A := X.A.in1) hh s.heap.objs.size a (Nat.ne_of_lt lt_a) its.toArray).toS, ⟨⟨_, Heap.get?_push_size _ rfl, rfl, rfl⟩, hli.push _⟩, fun b hb => ?_, p0, by rw [hsz]; exact KR, Js2, fun v s' hv hj => ?_⟩)
    · rw [hsz]
      simp only [List.mem_cons, List.not_mem_nil, or_false] at hb
      rcases hb with rfl | rfl
      · exact Nat.lt_succ_self _
      · exact Nat.lt_succ_of_lt lt_a
    · have ab := PySem.argBest_lt key (its.toArray.size - 1)
      exact done _ v s' J Je (by have := ab.1; omega) (fun j hj => ab.2 j (by omega)) hv hj
  | true =>
    obtain rfl : id = "max" := hid
    refine call_max_walkK (wpAny_pyIter_list hli ⟨s.heap.objs.size, [s.heap.objs.size, a], [s.heap.objs.size], _, its.toArray.size, _, _, J, _, _, rfl, (Walks.list (A := X.A.in1) hh s.heap.objs.size a (Nat.ne_of_lt lt_a) its.toArray).toS, ⟨⟨_, Heap.get?_push_size _ rfl, rfl, rfl⟩, hli.push _⟩, fun b hb => ?_, p0, by rw [hsz]; exact KR, Js2, fun v s' hv hj => ?_⟩)
    · rw [hsz]
      simp only [List.mem_cons, List.not_mem_nil, or_false] at hb
      rcases hb with rfl | rfl
      · exact Nat.lt_succ_self _
      · exact Nat.lt_succ_of_lt lt_a
    · have ab := PySem.argBest_gt key (its.toArray.size - 1)
      exact done _ v s' J Je (by have := ab.1; omega) (fun j hj => ab.2 j (by omega)) hv hj
end
end Own

/-! own layer, of no law: OWN18: sorted(xs, key=lambda x: x[0]) of rows. -/
namespace Own
open PySem PySem.Spec PyProof.Rows L2 LamX NdefX
def rSortBy (F : NF) (b : Expr) (x : Str) : List V → List V → Hp → VK → Prop := fun vs zs H Q => ∃ (a f : Addr) (β : Type) (val : β → V) (key : β → Int) (es : List β), vs = [.ref a] ∧ zs = [.ref f] ∧ H a = some (.lst (es.map val)) ∧ LamAt H f F b ∧ H F.c = some (CodeO F.c F.qual) ∧ FstL F b x ∧
  (∀ e ∈ es, KeyAt H (val e) (key e)) ∧ ∀ (fs : List β) (p : Addr), List.Perm es fs → List.Pairwise (fun e g => key e ≤ key g) fs → H p = none → Q (.ref p) (upd H p (.lst (fs.map val)))
section
variable {β : Type} {val : β → V}
theorem each_vals : ∀ {es : List β} {us : List Value}, Vals (es.map val) us → PySem.W.EachIs (fun u (e : β) => RelV (val e) u) us es
  | [], _, .nil => .nil
  | _ :: _, _, .cons r t => .cons r (each_vals t)
theorem vals_each : ∀ {us : List Value} {es : List β}, PySem.W.EachIs (fun u (e : β) => RelV (val e) u) us es → Vals (es.map val) us
  | _, _, .nil => .nil
  | _, _, .cons r t => .cons r (vals_each t)
end
section
variable {X : Cx} {F : NF} {b : Expr} {x : Str}
theorem cr_sortBy (hr : Room 1 X.A) : CallRK X (.builtin "sorted") [Str.ofString "key"] (rSortBy F b x) := by
  intro pins s σ H vs zs us ws Q I r rz h
  obtain ⟨a, f, β, val, key, es, rfl, rfl, ha, hf, hcd, L, hk, q⟩ := h
  obtain rfl := Vals.ref1 r
  obtain ⟨w1, rfl, e1⟩ := vals1 rz
  obtain rfl : w1 = Value.ref f := e1
  obtain ⟨its, rv, hli0, hlen⟩ := I.list (SqL.of ha)
  have hli := hli0.isList
  obtain ⟨dV, doc, pm, ctv, ho, us0, ru0, df0⟩ := lamO_at I.hok hf
  rw [L.df] at ru0
  cases ru0
  obtain rfl : dV = .none := by
    rcases df0 with ⟨_, z⟩ | ⟨n, _⟩
    · exact z
    · exact (n rfl).elim
  have lim0 := I.ok.mod.nolimit
  have cr := codeO_at I.hok hcd
  rw [List.length_map] at hlen
  show wpAny _ _ (call (.builtin "sorted") [.ref a] [(Str.ofString "key", .ref f)]) _ _ _
  refine PySem.W.sorted_key_data (b := false) (fun e : β => .int (key e)) hli (each_vals rv) (PySem.W.AllAlike.of fun _ _ => by simp [PySem.W.alike]) (.inr fun d hd => ?_) hlen (fun e _ => ?_) (PyProof.Rows.ksk_s1 _ _) (fun _ => PyProof.Rows.ksk_l1 _ _) (fun _ => PyProof.Rows.ksk_t1 _ _) (fun v e hR he h tk kp => ?_) fun out c h' tk kp fr nl hol hE => ?_
  · obtain ⟨e, _, rfl⟩ := List.mem_map.mp hd
    constructor
    · intro z
      cases z
    · intro xs z
      cases z
  · have := hr.units
    show X.A.units + 2 + 0 < cLine
    omega
  · obtain ⟨t, rr, e1, e2⟩ := hk e he
    rw [e1] at hR
    obtain rfl : v = Value.ref t := hR
    obtain ⟨items, ri, ti, _⟩ := I.tuple (SqT.of e2)
    obtain ⟨u0, tl, rfl⟩ : ∃ u0 tl, items = u0 :: tl := by
      cases ri with
      | cons h0 _ => exact ⟨_, _, rfl⟩
    cases ri with
    | cons h0 _ =>
      obtain ⟨tok, rfl⟩ := h0
      refine first_run (s := { s with heap := h, toks := tk }) (items := (Value.int (key e) tok :: tl).toArray) (it := .int (key e) tok) (hr.depth) (kp _ _ ho) ?_ ?_ L ?_ rfl fun h2 tk2 l2 k2 => ⟨h2, tk2, rfl, k2, .int _ _⟩
      · obtain ⟨c0, oc, vs, tq, z1, z2, z3⟩ := cr
        exact ⟨c0, oc, vs, tq, z1, kp _ _ z2, z3⟩
      · exact lim0.keeps fun b o e => kp _ _ (I.env0.bs b o e).1
      · obtain ⟨o2, z1, z2⟩ := ti
        exact ⟨o2, kp _ _ z1, z2⟩
  · rw [PySem.W.dataLe_int] at hE
    have pm' : List.Perm es (es.mergeSort fun a b => decide (key a ≤ key b)) := (List.mergeSort_perm _ _).symm
    have tr : ∀ a b c : β, decide (key a ≤ key b) = true → decide (key b ≤ key c) = true → decide (key a ≤ key c) = true := fun a b c h1 h2 => decide_eq_true (Int.le_trans (of_decide_eq_true h1) (of_decide_eq_true h2))
    have tot : ∀ a b : β, (decide (key a ≤ key b) || decide (key b ≤ key a)) = true := fun a b => by
      rcases Int.le_total (key a) (key b) with z | z
      · rw [decide_eq_true z]; rfl
      · rw [decide_eq_true z, Bool.or_true]
    have pw : List.Pairwise (fun e g : β => key e ≤ key g) (es.mergeSort fun a b => decide (key a ≤ key b)) :=
      (List.pairwise_mergeSort (le := fun a b : β => decide (key a ≤ key b)) tr tot es).imp fun h => of_decide_eq_true h
    have rv2 := vals_each hE
    exact ⟨.ref (s.heap.objs.size + 1), _, I.laid (a := s.heap.objs.size + 1) (o := .lst ((es.mergeSort fun a b => decide (key a ≤ key b)).map val)) (t' := tk) (h' := h') kp (Nat.le_succ _) ⟨by rw [List.length_map, List.length_mergeSort]; exact hlen, out, c, rv2, nl⟩, rfl, q _ _ pm' pw (I.hok.fresh (Nat.le_succ _))⟩
/-- F, b and x are told by the reading -/
theorem cr_sortE (hr : Room 1 X.A) : CallRK X (.builtin "sorted") [Str.ofString "key"] (fun vs zs H Q => ∃ (F : NF) (b : Expr) (x : Str), rSortBy F b x vs zs H Q) := by
  intro pins s σ H vs zs us ws Q I r rz h
  obtain ⟨F, b, x, h⟩ := h
  exact cr_sortBy hr pins s σ H vs zs us ws Q I r rz h
end
end Own

/-! k50: the program: sums over entries. -/
namespace K50
open PySem PySem.Spec PyProof.Rows L2 LamX NdefX Own
abbrev pSo : Stmt := topS 39
abbrev pBo : Stmt := topS 40
abbrev pRh : Stmt := topS 41
abbrev pFs : Stmt := topS 43
def junkE : Expr := .Constant .none 0 ⟨0, 0, 0, 0⟩
def asgV : Stmt → Expr
  | .Assign _ e _ => e
  | _ => junkE
def argN (i : Nat) : Expr → Expr
  | .Call _ l _ _ => l.getD i junkE
  | .List l _ => l.getD i junkE
  | .BinOp _ _ r _ => r
  | .Compare a _ _ _ => a
  | _ => junkE
abbrev inD (s : Stmt) (i : Nat) : Stmt := (defBody s).getD i (.Pass ⟨0, 0, 0, 0⟩)
theorem blkSo : BlkOk ["pairs", "units", "times"] (defScope pSo) (lcScope (argN 0 (retE (inD pSo 0)))) [("units", 1), ("times", 2)] := blkOk_by (by decide +kernel)
theorem blkBo : BlkOk ["entries", "entry"] (defScope pBo) (lcScope (argN 0 (retE (inD pBo 0)))) [("entry", 1)] := blkOk_by (by decide +kernel)
abbrev nRh : List Str := ["entries", "even", "odd", "turning", "base", "entry"]
theorem blkR1 : BlkOk nRh (defScope pRh) (lcScope (argN 0 (asgV (inD pRh 0)))) [("entry", 5)] := blkOk_by (by decide +kernel)
theorem blkR2 : BlkOk nRh (defScope pRh) (lcScope (argN 0 (asgV (inD pRh 1)))) [("entry", 5)] := blkOk_by (by decide +kernel)
theorem blkR3 : BlkOk nRh (defScope pRh) (lcScope (argN 0 (asgV (inD pRh 2)))) [("entry", 5)] := blkOk_by (by decide +kernel)
/-- a comprehension over rows that stand for data: what is kept, and what is made of it -/
theorem lc_ent {β γ : Type} {K : PySem.W.Frag} {a D : Addr} {rs : List V} {es : List β} {R : Hp → V → β → Prop} {S : Hp → V → γ → Prop} {out : β → γ} {cnd : β → Bool} {g : TG} {tt : TT} {te : TE} {vs : List Nat} {σ : L2.St} {H1 : Hp} {Qd : Hp → Prop}
    (hl : H1 a = some (.lst rs)) (hE : Ents (R H1) rs es) (nD : H1 D = none) (hlen : es.length ≤ 1000)
    (Rm : ∀ H H' x e, R H x e → Same H H' → R H' x e) (Sm : ∀ H H' x e, S H x e → Same H H' → S H' x e) (Sp : ∀ H x e (o : HO) (l : List V), S H x e → H D = some (.lst l) → S (upd H D o) x e)
    (step : ∀ x e H' (Nx : V → Hp → Prop) (No : Hp → Prop), e ∈ es → Same H1 H' → R H' x e → (cnd e = true → ∀ y H2, Same H' H2 → S H2 y (out e) → Nx y H2) → (cnd e = false → No H') →
      g x (wipe σ vs) H' fun σ2 H2 => wipe σ2 vs = wipe σ vs ∧ tt σ2 H2 fun b H3 => if b = true then te σ2 H3 Nx else No H3)
    (q : ∀ H' ys, Same H1 H' → H' D = some (.lst ys) → Ents (S H') ys ((es.filter cnd).map out) → Qd H') :
    ∃ W : Nat → Nat → Hp → Prop, (∃ m, W 0 m (upd H1 D (.lst []))) ∧ ∀ i m H, W i m H →
      ((Itl K a).stop i H ∧ Qd H) ∨ ((Itl K a).go i H ∧ ∃ Nx : Hp → Prop, (∀ H', Nx H' → ∃ m', m' < m ∧ W (i + 1) m' H') ∧ ∀ x H', (Itl K a).yld i H x H' → g x (wipe σ vs) H' fun σ2 H2 => wipe σ2 vs = wipe σ vs ∧ tt σ2 H2 fun b H3 =>
        if b = true then te σ2 H3 fun y H4 => ∃ acc, H4 D = some (.lst acc) ∧ acc.length < sizeLine ∧ Nx (upd H4 D (.lst (acc ++ [y]))) else Nx H3) := by
  have len := hE.len
  have small : ∀ i, ((es.take i).filter cnd).length ≤ 1000 := fun i => by
    have := List.length_filter_le cnd (es.take i)
    rw [List.length_take] at this
    omega
  refine lc_list (fun i H' => Same H1 H' ∧ ∃ ys, H' D = some (.lst ys) ∧ Ents (S H') ys (((es.take i).filter cnd).map out)) ⟨same_new nD, [], upd_same, by rw [List.take_zero]; exact .nil⟩ (fun i H' _ z => SqL.of (z.1 _ _ hl)) ?_ ?_
  · rintro i x H' hx ⟨s1, ys, hD, hA⟩
    obtain ⟨e, he, r⟩ := hE.get hx
    have tk : es.take (i + 1) = es.take i ++ [e] := by rw [List.take_succ, he]; rfl
    refine step x e H' _ _ (List.mem_of_getElem? he) s1 (Rm _ _ _ _ r s1) (fun hc y H2 s2 hs => ?_) fun hc => ⟨s1, ys, hD, ?_⟩
    · have hD2 := s2 _ _ hD
      refine ⟨ys, hD2, ?_, ?_, ys ++ [y], upd_same, ?_⟩
      · have h1 := hA.len
        rw [List.length_map] at h1
        have := small i
        have := sizeLine_eq
        omega
      · intro b u eb
        rw [upd_ne (ne_of_none eb nD)]
        exact s2 _ _ (s1 _ _ eb)
      · rw [tk, List.filter_append, List.filter_cons, hc, if_pos rfl, List.map_append]
        exact Ents.snoc (hA.mono fun _ _ z => Sp _ _ _ _ _ (Sm _ _ _ _ z s2) hD2) (Sp _ _ _ _ _ hs hD2)
    · rw [tk, List.filter_append, List.filter_cons, hc, if_neg (by decide), List.filter_nil, List.append_nil]
      exact hA
  · rintro H' ⟨s1, ys, hD, hA⟩
    rw [show es.take rs.length = es by rw [len]; exact List.take_length] at hA
    exact q H' ys s1 hD hA
/-- a row of two integers -/
def RowI (H : Hp) (r : V) (e : Int × Int) : Prop := ∃ a, r = .ref a ∧ H a = some (.tup [.int e.1, .int e.2])
theorem RowI.same {H H' : Hp} {r : V} {e : Int × Int} (h : RowI H r e) (z : Same H H') : RowI H' r e := by
  obtain ⟨a, e1, e2⟩ := h
  exact ⟨a, e1, z _ _ e2⟩
theorem RowI.put {H : Hp} {r : V} {e : Int × Int} {D : Addr} {l : List V} {o : HO} (h : RowI H r e) (hD : H D = some (.lst l)) : RowI (upd H D o) r e := by
  obtain ⟨a, e1, e2⟩ := h
  exact ⟨a, e1, (upd_ne (ne_of e2 hD (by intro z; cases z))).trans e2⟩
/-- an integer -/
def IsI (_ : Hp) (r : V) (n : Int) : Prop := r = .int n
theorem ents_int {H : Hp} : ∀ {ys : List V} {ns : List Int}, Ents (IsI H) ys ns → ys = ns.map V.int
  | _, _, .nil => rfl
  | _, _, .cons r t => by rw [r, ents_int t]; rfl
theorem ents_self {H : Hp} {R : Hp → V → Int × Nat → Prop} : True := trivial
/-- sums -/
def sumK2 (ps : List (Int × Int)) : Int := (ps.map fun p => p.1 * p.2).sum
theorem sum2_w (f : Int → Int) : ∀ es : List (Int × Nat), sumK2 (es.map fun e => (f e.1, (e.2 : Int))) = wsum f es
  | [] => rfl
  | e :: r => by
    show (f e.1 * (e.2 : Int) :: _).sum = _
    rw [List.sum_cons]
    show f e.1 * (e.2 : Int) + sumK2 (r.map fun e => (f e.1, (e.2 : Int))) = _
    rw [sum2_w f r]
    rfl
theorem sumT_w (c : Int → Bool) : ∀ es : List (Int × Nat), ((es.filter fun e => c e.1).map fun e => (e.2 : Int)).sum = wsum (fun x => if c x = true then 1 else 0) es
  | [] => rfl
  | e :: r => by
    show _ = (if c e.1 = true then (1 : Int) else 0) * (e.2 : Int) + _
    rw [List.filter_cons, ← sumT_w c r]
    by_cases h : c e.1 = true
    · rw [if_pos h, if_pos h, List.map_cons, List.sum_cons]
      omega
    · rw [if_neg h, if_neg h]
      omega
section
variable {P : Program} {w : World} {K : PySem.W.Frag} {mg : Str → Option Value} {base : Heap} {C CB W En : Addr}
theorem scSo : FnScope ["pairs", "units", "times"] ["pairs"] (defScope pSo) := ⟨rfl, rfl, rfl, by decide +kernel, rfl, by decide +kernel, by decide +kernel⟩
def spSo : Sp := fun vs H Q _ => ∃ (l : Addr) (xs : List V) (ps : List (Int × Int)), vs = [.ref l] ∧ H l = some (.lst xs) ∧ Ents (RowI H) xs ps ∧ ps.length ≤ 1000 ∧ (∀ p ∈ ps, p.1.natAbs < 2 ^ 400 ∧ p.2.natAbs < 2 ^ 300) ∧ ∀ H', Same H H' → Q (.int (sumK2 ps)) H'
theorem ok_so (A : At K mg "_sum_of" pSo ["pairs"]) (mS : mg "sum" = none) : DefOk P w K mg base CX0 "_sum_of" 1 ["pairs"] spSo := by
  refine A.ok fun f fd F => F.ok scSo (fun vs H Q E h => ?_) (fun cdv A outer s0 H vs Q E hr h => ?_)
  · obtain ⟨l, xs, ps, rfl, _⟩ := h
    rfl
  · obtain ⟨l, xs, ps, rfl, hl, hE, hlen, hb, q⟩ := h
    have nd := scSo.nd
    refine ⟨_, pss_one (ps_ret (pe_callB (cr_sum rfl) (by rfl) mS PyProof.Rows.boot_sum (pa_cons (pe_lc (g := gTup K 2 (gCons (gName 1) (gCons (gName 2) gNil))) (own := [("units", 1), ("times", 2)]) (te := tOp (rI CMulW fun i j => .int (i * j)) (tVar 1) (tVar 2)) rfl nd (pi_list (pv 0)) blkSo (fun _ _ _ _ _ => by exact (pg_tup rfl (pgs_cons (pg_name (i := 1) nd rfl (.inl rfl)) (pgs_cons (pg_name (i := 2) nd rfl (.inl rfl)) pgs_nil)))) (fun _ _ _ _ _ => pts_nil) (fun _ _ _ _ _ => (pe_op op_mulW (pv 1) (pv 2)))) pa_nil))), ?_⟩
    refine ⟨_, rfl, l, rfl, ⟨_, SqL.of hl⟩, fun D nD => lc_ent (R := RowI) (S := IsI) (cnd := fun _ => true) (out := fun p => p.1 * p.2) hl hE nD hlen (fun _ _ _ _ h z => h.same z) (fun _ _ _ _ h _ => h) (fun _ _ _ _ _ h _ => h) (fun x e H' Nx No he s1 hr nx no => ?_) fun H' ys s1 hD hA => ?_⟩
    · obtain ⟨a, rfl, ea⟩ := hr
      obtain ⟨b1, b2⟩ := hb e he
      refine ⟨a, _, rfl, SqT.of ea, rfl, _, _, rfl, _, _, rfl, rfl, ?_⟩
      dsimp only [gName, List.set]
      refine ⟨rfl, ?_⟩
      unfold tYes
      dsimp only
      rw [if_pos rfl]
      exact ⟨_, rfl, _, rfl, _, _, rfl, rfl, wide_mul b1 b2 (by decide) (by decide) (by decide), nx rfl _ _ (fun _ _ z => z) rfl⟩
    · have e := ents_int hA
      subst e
      refine ⟨D, _, rfl, SqL.of hD, ?_⟩
      rw [show (ps.filter fun _ => true) = ps by rw [List.filter_eq_self]; exact fun _ _ => rfl]
      exact q H' s1
end
end K50

/-! k50: the program: what entries come to. -/
namespace K50
open PySem PySem.Spec PyProof.Rows L2 LamX NdefX Own
section
variable {P : Program} {w : World} {K : PySem.W.Frag} {mg : Str → Option Value} {base : Heap} {C CB W En : Addr}
/-- a list of entries -/
structure EnL (En : Addr) (H : Hp) (l : Addr) (es : List (Int × Nat)) (p : Nat) (t : Str) : Prop where
  ex : ∃ xs, H l = some (.lst xs) ∧ Ents (RowEn En p t H) xs es
  len : es.length ≤ 1000
  bd : ∀ e ∈ es, e.1.natAbs < 2 ^ 300 ∧ e.2 < 2 ^ 300
theorem EnL.same {H H' : Hp} {l : Addr} {es : List (Int × Nat)} {p : Nat} {t : Str} (h : EnL En H l es p t) (s : Same H H') : EnL En H' l es p t := by
  obtain ⟨xs, e1, e2⟩ := h.ex
  exact ⟨⟨xs, s _ _ e1, e2.mono fun _ _ z => z.same s⟩, h.len, h.bd⟩
theorem div_b {x U : Int} (hU : 0 < U) (h : x.natAbs < 2 ^ 300) : (x / U).natAbs < 2 ^ 302 := by
  have := div_nat (x := x) hU
  have e : (2 : Nat) ^ 302 = 2 ^ 300 * 4 := by decide +kernel
  omega
theorem near_b {x U : Int} (hU : 0 < U) (h : x.natAbs < 2 ^ 300) (t : Str) : (near x U t).natAbs < 2 ^ 302 := by
  have := near_nat (n := x) hU t
  have e : (2 : Nat) ^ 302 = 2 ^ 300 * 4 := by decide +kernel
  omega
theorem bs_b {x U : Int} (hU : 0 < U) (h : x.natAbs < 2 ^ 300) (t : Str) : (bsE U t x).natAbs < 2 ^ 400 := by
  have a := div_b hU h
  have b := near_b hU h t
  have e : (2 : Nat) ^ 302 ≤ 2 ^ 400 := Nat.pow_le_pow_right (by decide) (by decide)
  unfold bsE
  split <;> omega
theorem scBo : FnScope ["entries", "entry"] ["entries"] (defScope pBo) := ⟨rfl, rfl, rfl, by decide +kernel, rfl, by decide +kernel, by decide +kernel⟩
def spBo (En : Addr) : Sp := fun vs H Q _ => ∃ (l : Addr) (es : List (Int × Nat)) (p : Nat) (t : Str), vs = [.ref l] ∧ EnL En H l es p t ∧ ∀ H', Same H H' → Q (.int (wsum (bsE ((10 : Int) ^ p) t) es)) H'
theorem ok_bo (A : At K mg "_base_of" pBo ["entries"]) (TE : EntryC K mg En) (Ds : DefOk P w K mg base CX0 "_sum_of" 1 ["pairs"] spSo) : DefOk P w K mg base CX0 "_base_of" 2 ["entries"] (spBo En) := by
  refine A.ok fun f fd F => F.ok scBo (fun vs H Q E h => ?_) (fun cdv A outer s0 H vs Q E hr h => ?_)
  · obtain ⟨l, es, p, t, rfl, _⟩ := h
    rfl
  · obtain ⟨l, es, p, t, rfl, hL, q⟩ := h
    obtain ⟨⟨xs, hl, hE⟩, hlen, hb⟩ := hL
    have nd := scBo.nd
    have U0 := ten_pos p
    refine ⟨_, pss_one (ps_ret (pe_def Ds hr (by decide) (by rfl) pass0 (pa_cons (pe_lc (own := [("entry", 1)]) (te := tTup (tCons (tIf (tB (tFld K (tVar 1) "is_loose")) (tFld K (tVar 1) "floor") (tFld K (tVar 1) "alone")) (tCons (tFld K (tVar 1) "times") tNil))) rfl nd (pi_list (pv 0)) blkBo (fun _ _ _ _ _ => (pg_name (i := 1) nd rfl (.inl rfl))) (fun _ _ _ _ _ => pts_nil) (fun _ _ _ _ _ => (pe_tup (pa_cons (pe_ifExp (pt_val (pe_fld (pv 1) (by rfl))) (pe_fld (pv 1) (by rfl)) (pe_fld (pv 1) (by rfl))) (pa_cons (pe_fld (pv 1) (by rfl)) pa_nil))))) pa_nil))), ?_⟩
    refine ⟨_, rfl, l, rfl, ⟨_, SqL.of hl⟩, fun D nD => lc_ent (R := RowEn En p t) (S := RowI) (cnd := fun _ => true) (out := fun e => (bsE ((10 : Int) ^ p) t e.1, (e.2 : Int))) hl hE nD hlen (fun _ _ _ _ h z => h.same z) (fun _ _ _ _ h z => h.same z) (fun _ _ _ _ _ h hD => h.put hD) (fun r e H' Nx No he s1 hr nx no => ?_) fun H' ys s1 hD hA => ?_⟩
    · obtain ⟨a, rfl, dx, ea⟩ := hr
      have fin := nx rfl
      obtain ⟨x, k⟩ := e
      dsimp only at ea fin
      generalize (10 : Int) ^ p = U at ea fin
      dsimp only [gName, List.set]
      refine ⟨rfl, ?_⟩
      unfold tYes
      dsimp only
      rw [if_pos rfl]
      refine ⟨_, rfl, a, En, dx, _, .bl (isLoose U x t), rfl, ea, TE.cls, TE.n5, eLk_l _ _ _ _ _, _, rfl, ?_⟩
      have last : ∀ v : Int, v = bsE U t x → ∀ q, H' q = none → Nx (.ref q) (upd H' q (.tup [.int v, .int (k : Nat)])) := fun v hv q nq => fin _ _ (same_new nq) ⟨q, rfl, by rw [← hv]; exact upd_same⟩
      cases hL : isLoose U x t with
      | true =>
        refine iteT ⟨_, rfl, a, En, dx, _, .int (x / U), rfl, ea, TE.cls, TE.n2, eLk_f _ _ _ _ _, _, rfl, a, En, dx, _, .int (k : Nat), rfl, ea, TE.cls, TE.n1, eLk_t _ _ _ _ _, by show 2 ≤ sizeLine; decide, fun q nq => last _ ?_ q nq⟩
        unfold bsE
        rw [hL]
        rfl
      | false =>
        refine iteF ⟨_, rfl, a, En, dx, _, .int (near x U t), rfl, ea, TE.cls, TE.n3, eLk_a _ _ _ _ _, _, rfl, a, En, dx, _, .int (k : Nat), rfl, ea, TE.cls, TE.n1, eLk_t _ _ _ _ _, by show 2 ≤ sizeLine; decide, fun q nq => last _ ?_ q nq⟩
        unfold bsE
        rw [hL]
        rfl
    · rw [show (es.filter fun _ => true) = es by rw [List.filter_eq_self]; exact fun _ _ => rfl] at hA
      refine ⟨D, ys, _, rfl, hD, hA, by rw [List.length_map]; exact hlen, fun z hz => ?_, fun H2 s2 => ?_⟩
      · obtain ⟨e, he, rfl⟩ := List.mem_map.mp hz
        obtain ⟨b1, b2⟩ := hb e he
        exact ⟨bs_b U0 b1 t, by show ((e.2 : Nat) : Int).natAbs < 2 ^ 300; omega⟩
      · rw [sum2_w]
        exact q H2 (s1.trans s2)
theorem scRh : FnScope nRh ["entries"] (defScope pRh) := ⟨rfl, rfl, rfl, by decide +kernel, rfl, by decide +kernel, by decide +kernel⟩
theorem min_if (i j : Int) : (if j < i then j else i) = min i j := by
  rw [Int.min_def]
  split <;> split <;> omega
def spRh (En : Addr) : Sp := fun vs H Q _ => ∃ (l : Addr) (es : List (Int × Nat)) (p : Nat), vs = [.ref l] ∧ EnL En H l es p "halfeven" ∧ ∀ (r : Addr) (lo hi : Int) (H' : Hp), Ends ((10 : Int) ^ p) "halfeven" es lo hi → Same H H' → H' r = some (.tup [.int lo, .int hi]) → Q (.ref r) H'
theorem ok_rh (A : At K mg "_range_by_halves" pRh ["entries"]) (B : Blt mg) (mS : mg "sum" = none) (TE : EntryC K mg En) (Db : DefOk P w K mg base CX0 "_base_of" 2 ["entries"] (spBo En)) : DefOk P w K mg base CX0 "_range_by_halves" 3 ["entries"] (spRh En) := by
  refine A.ok fun f fd F => F.ok scRh (fun vs H Q E h => ?_) (fun cdv A outer s0 H vs Q E hr h => ?_)
  · obtain ⟨l, es, p, rfl, _⟩ := h
    rfl
  · obtain ⟨l, es, p, rfl, hL, q⟩ := h
    obtain ⟨⟨xs, hl0, hE0⟩, hlen, hb⟩ := id hL
    have nd := scRh.nd
    have U0 := ten_pos p
    refine ⟨_, pss_cons (ps_set (i := 1) nd rfl (.inl rfl) (pe_callB (cr_sum rfl) (by rfl) mS PyProof.Rows.boot_sum (pa_cons (pe_lc (own := [("entry", 5)]) (tt := tAnd (tB (tFld K (tVar 5) "is_loose")) (tTest (tOp rEq (tOp (rI (fun _ j => 0 < j) fun i j => .int (i % j)) (tFld K (tVar 5) "floor") (tC (.int 2))) (tC (.int 0))))) (te := (tFld K (tVar 5) "times")) rfl nd (pi_list (pv 0)) blkR1 (fun _ _ _ _ _ => (pg_name (i := 5) nd rfl (.inl rfl))) (fun _ _ _ _ _ => (pts_one (PW.pt (pw_and (pt_val (pe_fld (pv 5) (by rfl))) (pw_and1 (pt_cmpR op_eq (pe_op op_mod (pe_fld (pv 5) (by rfl)) pe_int) pe_int (nomark _))))))) (fun _ _ _ _ _ => (pe_fld (pv 5) (by rfl)))) pa_nil)))
      (pss_cons (ps_set (i := 2) nd rfl (.inl rfl) (pe_callB (cr_sum rfl) (by rfl) mS PyProof.Rows.boot_sum (pa_cons (pe_lc (own := [("entry", 5)]) (tt := tAnd (tB (tFld K (tVar 5) "is_loose")) (tTest (tOp rEq (tOp (rI (fun _ j => 0 < j) fun i j => .int (i % j)) (tFld K (tVar 5) "floor") (tC (.int 2))) (tC (.int 1))))) (te := (tFld K (tVar 5) "times")) rfl nd (pi_list (pv 0)) blkR2 (fun _ _ _ _ _ => (pg_name (i := 5) nd rfl (.inl rfl))) (fun _ _ _ _ _ => (pts_one (PW.pt (pw_and (pt_val (pe_fld (pv 5) (by rfl))) (pw_and1 (pt_cmpR op_eq (pe_op op_mod (pe_fld (pv 5) (by rfl)) pe_int) pe_int (nomark _))))))) (fun _ _ _ _ _ => (pe_fld (pv 5) (by rfl)))) pa_nil)))
      (pss_cons (ps_set (i := 3) nd rfl (.inl rfl) (pe_callB (cr_sum rfl) (by rfl) mS PyProof.Rows.boot_sum (pa_cons (pe_lc (own := [("entry", 5)]) (tt := tAnd (tNot (tB (tFld K (tVar 5) "is_loose"))) (tTest (tOp rEq (tOp (rI (fun _ j => 0 < j) fun i j => .int (i % j)) (tFld K (tVar 5) "alone") (tC (.int 2))) (tC (.int 1))))) (te := (tFld K (tVar 5) "times")) rfl nd (pi_list (pv 0)) blkR3 (fun _ _ _ _ _ => (pg_name (i := 5) nd rfl (.inl rfl))) (fun _ _ _ _ _ => (pts_one (PW.pt (pw_and (pt_not (pt_val (pe_fld (pv 5) (by rfl)))) (pw_and1 (pt_cmpR op_eq (pe_op op_mod (pe_fld (pv 5) (by rfl)) pe_int) pe_int (nomark _))))))) (fun _ _ _ _ _ => (pe_fld (pv 5) (by rfl)))) pa_nil)))
      (pss_cons (ps_set (i := 4) nd rfl (.inl rfl) (pe_def Db hr (by decide) (by rfl) pass0 (pa_cons (pv 0) pa_nil)))
      (pss_one (ps_ret (pe_tup (pa_cons (pe_op op_sub (pe_op op_add (pv 4) (pv 2)) (pe_callB (call_min2 rfl) (by rfl) B.min (by decide +kernel) (pa_cons (pv 2) (pa_cons (pv 3) pa_nil)))) (pa_cons (pe_op op_add (pe_op op_add (pv 4) (pv 2)) (pe_callB (call_min2 rfl) (by rfl) B.min (by decide +kernel) (pa_cons (pv 1) (pa_cons (pv 3) pa_nil)))) pa_nil)))))))), ?_⟩
    refine ⟨_, rfl, l, rfl, ⟨_, SqL.of hl0⟩, fun D nD => lc_ent (R := RowEn En p "halfeven") (S := IsI) (cnd := fun e => isLoose ((10 : Int) ^ p) e.1 "halfeven" && decide (e.1 / ((10 : Int) ^ p) % 2 = 0)) (out := fun e => (e.2 : Int)) hl0 hE0 nD hlen (fun _ _ _ _ h z => h.same z) (fun _ _ _ _ h _ => h) (fun _ _ _ _ _ h _ => h) (fun r e H' Nx No he s1 hr nx no => ?_) fun A1 ys s1 hD hA => ?_⟩
    · obtain ⟨a, rfl, dx, ea⟩ := hr
      obtain ⟨x, k⟩ := e
      dsimp only at ea nx no
      generalize (10 : Int) ^ p = U at ea nx no
      dsimp only [gName, List.set]
      refine ⟨rfl, ?_⟩
      refine ⟨_, rfl, a, En, dx, _, .bl (isLoose U x "halfeven"), rfl, ea, TE.cls, TE.n5, eLk_l _ _ _ _ _, _, rfl, ?_⟩
      cases hL : isLoose U x "halfeven" with
      | true =>
        rw [hL] at nx no
        refine iteT ⟨_, rfl, a, En, dx, _, .int (x / U), rfl, ea, TE.cls, TE.n2, eLk_f _ _ _ _ _, _, _, rfl, rfl, (show (0 : Int) < 2 by decide), rfl, _, rfl, ite2 (fun e => ?_) (fun e => ?_)⟩
        · exact ⟨_, rfl, a, En, dx, _, .int (k : Nat), rfl, ea, TE.cls, TE.n1, eLk_t _ _ _ _ _, nx (by simpa using e) _ _ (fun _ _ z => z) rfl⟩
        · exact no (by simpa using e)
      | false =>
        rw [hL] at no
        exact iteF (iteF (no rfl))
    have e1 := ents_int hA
    subst e1
    refine ⟨D, _, rfl, SqL.of hD, ?_⟩
    dsimp only [gName, List.set]
    rw [sumT_w fun x => isLoose ((10 : Int) ^ p) x "halfeven" && decide (x / ((10 : Int) ^ p) % 2 = 0)]
    have hl1 := s1 _ _ hl0
    have hE1 := hE0.mono fun _ _ z => RowEn.same z s1
    clear hA hD nD
    refine ⟨_, rfl, l, rfl, ⟨_, SqL.of hl1⟩, fun D nD => lc_ent (R := RowEn En p "halfeven") (S := IsI) (cnd := fun e => isLoose ((10 : Int) ^ p) e.1 "halfeven" && decide (e.1 / ((10 : Int) ^ p) % 2 = 1)) (out := fun e => (e.2 : Int)) hl1 hE1 nD hlen (fun _ _ _ _ h z => h.same z) (fun _ _ _ _ h _ => h) (fun _ _ _ _ _ h _ => h) (fun r e H' Nx No he s1 hr nx no => ?_) fun A2 ys s2 hD hA => ?_⟩
    · obtain ⟨a, rfl, dx, ea⟩ := hr
      obtain ⟨x, k⟩ := e
      dsimp only at ea nx no
      generalize (10 : Int) ^ p = U at ea nx no
      dsimp only [gName, List.set]
      refine ⟨rfl, ?_⟩
      refine ⟨_, rfl, a, En, dx, _, .bl (isLoose U x "halfeven"), rfl, ea, TE.cls, TE.n5, eLk_l _ _ _ _ _, _, rfl, ?_⟩
      cases hL : isLoose U x "halfeven" with
      | true =>
        rw [hL] at nx no
        refine iteT ⟨_, rfl, a, En, dx, _, .int (x / U), rfl, ea, TE.cls, TE.n2, eLk_f _ _ _ _ _, _, _, rfl, rfl, (show (0 : Int) < 2 by decide), rfl, _, rfl, ite2 (fun e => ?_) (fun e => ?_)⟩
        · exact ⟨_, rfl, a, En, dx, _, .int (k : Nat), rfl, ea, TE.cls, TE.n1, eLk_t _ _ _ _ _, nx (by simpa using e) _ _ (fun _ _ z => z) rfl⟩
        · exact no (by simpa using e)
      | false =>
        rw [hL] at no
        exact iteF (iteF (no rfl))
    have e2 := ents_int hA
    subst e2
    refine ⟨D, _, rfl, SqL.of hD, ?_⟩
    dsimp only [gName, List.set]
    rw [sumT_w fun x => isLoose ((10 : Int) ^ p) x "halfeven" && decide (x / ((10 : Int) ^ p) % 2 = 1)]
    have hl2 := s2 _ _ hl1
    have hE2 := hE1.mono fun _ _ z => RowEn.same z s2
    clear hA hD nD
    refine ⟨_, rfl, l, rfl, ⟨_, SqL.of hl2⟩, fun D nD => lc_ent (R := RowEn En p "halfeven") (S := IsI) (cnd := fun e => !isLoose ((10 : Int) ^ p) e.1 "halfeven" && decide (near e.1 ((10 : Int) ^ p) "halfeven" % 2 = 1)) (out := fun e => (e.2 : Int)) hl2 hE2 nD hlen (fun _ _ _ _ h z => h.same z) (fun _ _ _ _ h _ => h) (fun _ _ _ _ _ h _ => h) (fun r e H' Nx No he s1 hr nx no => ?_) fun A3 ys s3 hD hA => ?_⟩
    · obtain ⟨a, rfl, dx, ea⟩ := hr
      obtain ⟨x, k⟩ := e
      dsimp only at ea nx no
      generalize (10 : Int) ^ p = U at ea nx no
      dsimp only [gName, List.set]
      refine ⟨rfl, ?_⟩
      refine ⟨_, rfl, a, En, dx, _, .bl (isLoose U x "halfeven"), rfl, ea, TE.cls, TE.n5, eLk_l _ _ _ _ _, _, rfl, ?_⟩
      cases hL : isLoose U x "halfeven" with
      | false =>
        rw [hL] at nx no
        refine iteT ⟨_, rfl, a, En, dx, _, .int (near x U "halfeven"), rfl, ea, TE.cls, TE.n3, eLk_a _ _ _ _ _, _, _, rfl, rfl, (show (0 : Int) < 2 by decide), rfl, _, rfl, ite2 (fun e => ?_) (fun e => ?_)⟩
        · exact ⟨_, rfl, a, En, dx, _, .int (k : Nat), rfl, ea, TE.cls, TE.n1, eLk_t _ _ _ _ _, nx (by simpa using e) _ _ (fun _ _ z => z) rfl⟩
        · exact no (by simpa using e)
      | true =>
        rw [hL] at no
        exact iteF (iteF (no rfl))
    have e3 := ents_int hA
    subst e3
    refine ⟨D, _, rfl, SqL.of hD, ?_⟩
    dsimp only [gName, List.set]
    rw [sumT_w fun x => !isLoose ((10 : Int) ^ p) x "halfeven" && decide (near x ((10 : Int) ^ p) "halfeven" % 2 = 1)]
    have hl3 := s3 _ _ hl2
    have hE3 := hE2.mono fun _ _ z => RowEn.same z s3
    clear hA hD nD
    have S3 := (s1.trans s2).trans s3
    refine ⟨_, rfl, l, es, p, "halfeven", rfl, hL.same S3, fun A4 s4 => ?_⟩
    dsimp only [gName, List.set]
    refine ⟨_, rfl, _, rfl, _, _, rfl, rfl, _, rfl, _, rfl, _, _, rfl, _, _, rfl, rfl, _, rfl, _, rfl, _, _, rfl, rfl, _, rfl, _, rfl, _, _, rfl, _, _, rfl, rfl, by show 2 ≤ sizeLine; decide, fun r nr => ?_⟩
    rw [min_if, min_if]
    refine q r _ _ _ ⟨fun _ => ⟨rfl, rfl⟩, fun z => absurd z (by decide +kernel), fun z => absurd z (by decide +kernel), fun z => absurd z (by decide +kernel)⟩ ((S3.trans s4).trans (same_new nr)) upd_same
theorem scFs : FnScope ["way"] ["way"] (defScope pFs) := ⟨rfl, rfl, rfl, by decide +kernel, rfl, by decide +kernel, by decide +kernel⟩
def fstS (dn : Bool) : Int := if dn = true then -1 else 1
def spFs : Sp := fun vs H Q _ => ∃ (t : Str) (dn : Bool), vs = [.str t] ∧ (if dn = true then t ∈ cutW else t ∈ awayW) ∧ ∀ H', Same H H' → Q (.int (fstS dn)) H'
theorem ok_fs (A : At K mg "_first_side" pFs ["way"]) : DefOk P w K mg base CX0 "_first_side" 1 ["way"] spFs := by
  refine A.ok fun f fd F => F.ok scFs (fun vs H Q E h => ?_) (fun cdv A outer s0 H vs Q E hr h => ?_)
  · obtain ⟨t, dn, rfl, _⟩ := h
    rfl
  · obtain ⟨t, dn, rfl, ht, q⟩ := h
    refine ⟨_, pss_one (ps_ret (pe_ifExp (pt_cmpR op_in_seq (pv 0) (pe_tup (pa_cons pe_str (pa_cons pe_str pa_nil))) (by rfl)) (pe_un un_neg pe_int) pe_int)), ?_⟩
    refine ⟨_, rfl, by show 2 ≤ sizeLine; decide, fun r nr => ?_⟩
    have q' := q _ (same_new (o := HO.tup [.str "cut", .str "halfcut"]) nr)
    refine ⟨r, _, rfl, .inr (SqT.of upd_same), rfl, rfl, _, rfl, ?_⟩
    rw [show (if false = true then !inV (V.str t) [.str "cut", .str "halfcut"] else inV (V.str t) [.str "cut", .str "halfcut"]) = decide (t ∈ cutW) from inV_txt t cutW]
    cases dn with
    | true =>
      have e : t ∈ cutW := ht
      rw [decide_eq_true e]
      exact iteT ⟨_, rfl, q'⟩
    | false =>
      have e : t ∈ awayW := ht
      rw [decide_eq_false (fun z : t ∈ cutW => by
        simp only [awayW, List.mem_cons, List.not_mem_nil, or_false] at e
        rcases e with rfl | rfl
        · exact absurd z (by decide +kernel)
        · exact absurd z (by decide +kernel))]
      exact iteF q'
end
end K50

/-! k50: the program: how many sizes are within a room. -/
namespace K50
open PySem PySem.Spec PyProof.Rows L2 LamX NdefX Own
abbrev pMw : Stmt := topS 44
def kwE : Expr → Expr
  | .Call _ _ (k :: _) _ => k.value
  | _ => junkE
def iterE : Stmt → Expr
  | .For _ e _ _ _ => e
  | _ => junkE
def lamArgs : Expr → Arguments
  | .Lambda a _ _ _ => a
  | _ => ⟨[], [], none, [], [], none, []⟩
def lamBody : Expr → Expr
  | .Lambda _ b _ _ => b
  | _ => junkE
def lamScope : Expr → Scope
  | .Lambda _ _ s _ => s
  | _ => ⟨.function, [], false, false, []⟩
abbrev lxm : Expr := kwE (iterE (inD pMw 2))
theorem nsm : NScope ["told"] ["told"] [] (lamScope lxm) := nscope_by (by decide +kernel)
theorem frm : ∀ y ∈ (lamScope lxm).names, y.2 = .free → (defScope pMw).names.lookup y.1 = some .cell ∨ (defScope pMw).names.lookup y.1 = some .free := by decide +kernel
def qM : Str := (envOfC "_most_within" (defScope pMw) 0 0 .none).qual ++ "<lambda>"
abbrev nMw : List Str := ["sizes", "room", "many", "size", "times", "fitting"]
section
variable {X : Cx}
theorem fstM {c' : Addr} : FstL (lamF X (lamArgs lxm) (lamScope lxm) c') (lamBody lxm) "told" := ⟨nsm, ⟨_, _, _, _, rfl⟩, by decide +kernel, rfl, fun doc pm ctv s u => .of_eq rfl⟩
end
/-- a row of an integer and how often -/
def RowN (H : Hp) (r : V) (e : Int × Nat) : Prop := RowI H r (e.1, (e.2 : Int))
theorem ents_zip {β : Type} {R : V → β → Prop} : ∀ {xs : List V} {es : List β}, Ents R xs es → (xs.zip es).map (·.1) = xs ∧ (xs.zip es).map (·.2) = es ∧ ∀ p ∈ xs.zip es, R p.1 p.2
  | _, _, .nil => ⟨rfl, rfl, fun _ h => by cases h⟩
  | _, _, .cons r t => by
    obtain ⟨a, b, c⟩ := ents_zip t
    refine ⟨by rw [List.zip_cons_cons, List.map_cons, a], by rw [List.zip_cons_cons, List.map_cons, b], fun p hp => ?_⟩
    rw [List.zip_cons_cons] at hp
    rcases List.mem_cons.mp hp with rfl | hp
    · exact r
    · exact c p hp
theorem rise_of {α : Type} {f : α → Int × Nat} : ∀ {fs : List α}, List.Pairwise (fun a b => (f a).1 ≤ (f b).1) fs → Rise (fs.map f)
  | [], _ => trivial
  | a :: r, h => by
    rw [List.pairwise_cons] at h
    refine ⟨fun e he => ?_, rise_of h.2⟩
    obtain ⟨b, hb, rfl⟩ := List.mem_map.mp he
    exact h.1 b hb
theorem gre_cons (s : Int) (k : Nat) (l : List (Int × Nat)) (r : Int) : gre ((s, k) :: l) r = (if s = 0 then (k : Int) else min (k : Int) (r / s)) + gre l (r - (if s = 0 then (k : Int) else min (k : Int) (r / s)) * s) := rfl
/-- the tables of code -/
abbrev TT (Pm : Addr) (Ls : List (Addr × Str)) : List (Addr × Str) := (Pm, qM) :: Ls
section
variable {P : Program} {w : World} {K : PySem.W.Frag} {mg : Str → Option Value} {base : Heap} {C CB W En Pm : Addr} {Ls : List (Addr × Str)}
theorem tt_mem : (Pm, qM) ∈ TT Pm Ls := List.mem_cons_self ..
theorem tt_one (nP : ∀ p ∈ Ls, p.1 ≠ Pm) : ∀ p ∈ TT Pm Ls, p.1 = Pm → p.2 = qM := fun p hp e => by
  rcases List.mem_cons.mp hp with rfl | z
  · rfl
  · exact absurd e (nP p z)
theorem scMw : FnScope nMw ["sizes", "room"] (defScope pMw) := ⟨rfl, rfl, rfl, by decide +kernel, rfl, by decide +kernel, by decide +kernel⟩
def spMw (Pm : Addr) (Ls : List (Addr × Str)) : Sp := fun vs H Q _ => ∃ (l : Addr) (xs : List V) (es : List (Int × Nat)) (r : Int), vs = [.ref l, .int r] ∧ H l = some (.lst xs) ∧ Ents (RowN H) xs es ∧ (∀ e ∈ es, 0 ≤ e.1 ∧ e.1.natAbs < 2 ^ 400 ∧ e.2 < 2 ^ 300) ∧ Tabs (TT Pm Ls) H ∧
  ∀ (m : Int) (H' : Hp), Mst es r m → ExtN H H' → Tabs (TT Pm Ls) H' → Q (.int m) H'
theorem ok_mw {c0 : Addr} (A : AtC K mg "_most_within" pMw ["sizes", "room"] c0) (TB : TabB base mg c0 Pm) (nP : ∀ p ∈ Ls, p.1 ≠ Pm) (B : Blt mg) (mSt : mg "sorted" = none) : DefOk P w K mg base CX0 "_most_within" 3 ["sizes", "room"] (spMw Pm Ls) := by
  obtain ⟨g, oc, od0, kV, doc, pm, an, ct, osl, lk, hcd, gm, kp, bd⟩ := A.ex
  refine ⟨g, _, fn_of lk hcd scMw (fun vs H Q E h => ?_) (fun A outer s0 H vs Q E hr h => ?_), gm, kp, bd⟩
  · obtain ⟨l, xs, es, r, rfl, _⟩ := h
    rfl
  · obtain ⟨l, xs, es, r, rfl, hl, hE, hb, hT, q⟩ := h
    have nd := scMw.nd
    have hm := tt_mem (Pm := Pm) (Ls := Ls)
    have hu := tt_one nP
    refine ⟨_, pss_cons (ps_set (i := 2) nd rfl (.inl rfl) pe_int)
      (pss_cons (ps_if (pt_cmpR op_lt (pv 1) pe_int (nomark _)) (pss_one (ps_ret (pv 2))) pss_nil)
      (pss_cons (ps_for (passes_of rfl) rfl (pi_list (pe_callBK (cr_sortE (hr.mono (by decide))) (by rfl) mSt (by decide +kernel) (pa_cons (pv 0) pa_nil) (pk_cons (pe_lamV TB rfl hm hu rfl rfl frm) pk_nil))) (pg_tup rfl (pgs_cons (pg_name (i := 3) nd rfl (.inl rfl)) (pgs_cons (pg_name (i := 4) nd rfl (.inl rfl)) pgs_nil))) (pss_cons (ps_set (i := 5) nd rfl (.inl rfl) (pe_ifExp (pt_cmpR op_eq (pv 3) pe_int (nomark _)) (pv 4) (pe_callB (call_min2 rfl) (by rfl) B.min (by decide +kernel) (pa_cons (pv 4) (pa_cons (pe_op op_fdivW (pv 1) (pv 3)) pa_nil))))) (pss_one (ps_par (i := 2) (j := 1) (by rfl) nd rfl rfl (by decide) rfl rfl (pa_cons (pe_op op_add (pv 2) (pv 5)) (pa_cons (pe_op op_sub (pv 1) (pe_op op_mulW (pv 5) (pv 3))) pa_nil)) (by rfl)))))
      (pss_one (ps_ret (pv 2))))), ?_⟩
    refine ⟨_, rfl, _, _, rfl, rfl, _, rfl, ite2 (fun e => ?_) (fun e => ?_)⟩
    · have z : r < 0 := of_decide_eq_true e
      exact ⟨_, rfl, q 0 _ ⟨fun _ => rfl, fun y => absurd y (by omega)⟩ (fun _ _ e _ => e) hT⟩
    have r0 : 0 ≤ r := by
      have : ¬ r < 0 := fun z => e (decide_eq_true z)
      omega
    obtain ⟨z1, z2, z3⟩ := ents_zip hE
    refine ⟨_, rfl, hT, fun f1 c1 H1 x1 T1 _ l1 d1 => ⟨_, _, _, l, f1, V × Int × Nat, (·.1), (·.2.1), xs.zip es, rfl, rfl, by rw [z1]; exact x1 _ _ hl (fun ps z => by cases z), l1, d1, fstM, fun p hp => ?_, fun fs p hperm hpw np => ?_⟩⟩
    · obtain ⟨a, e1, e2⟩ := z3 p hp
      exact ⟨a, _, e1, x1 _ _ e2 (fun ps z => by cases z)⟩
    have hR : Rise (fs.map (·.2)) := rise_of hpw
    have hP : List.Perm es (fs.map (·.2)) := by
      have := hperm.map (·.2)
      rwa [z2] at this
    have rows : ∀ p ∈ fs, RowN H1 p.1 p.2 := fun p hp => by
      obtain ⟨a, e1, e2⟩ := z3 p (hperm.symm.subset hp)
      exact ⟨a, e1, x1 _ _ e2 (fun ps z => by cases z)⟩
    have bnd : ∀ p ∈ fs, 0 ≤ p.2.1 ∧ p.2.1.natAbs < 2 ^ 400 ∧ p.2.2 < 2 ^ 300 := fun p hp => hb _ (hP.symm.subset (List.mem_map.mpr ⟨p, hp, rfl⟩))
    have best := gre_perm hP hR (fun e he => (hb e he).1) r0
    have sN := same_new (o := HO.lst (fs.map (·.1))) np
    have el : upd H1 p (HO.lst (fs.map (·.1))) p = some (HO.lst (fs.map (·.1))) := upd_same
    have xA : ExtN H (upd H1 p (HO.lst (fs.map (·.1)))) := x1.trans (extN_new np)
    have TA := T1.ext sN
    have rowsA : ∀ q ∈ fs, RowN (upd H1 p (HO.lst (fs.map (·.1)))) q.1 q.2 := fun q hq => RowI.same (rows q hq) sN
    generalize upd H1 p (HO.lst (fs.map (·.1))) = H2 at el xA TA rowsA ⊢
    clear rows sN np x1 T1 l1 d1 hperm hpw hP z1 z2 z3
    refine ⟨p, rfl, ⟨_, SqL.of el⟩, for_list (K := K) (xs := fs.map (·.1)) (fun i σ H' => (∃ (m r' : Int) (y3 y4 y5 : Option V), σ = [some (.ref l), some (.int r'), some (.int m), y3, y4, y5] ∧ 0 ≤ r' ∧ m + gre ((fs.drop i).map (·.2)) r' = gre (fs.map (·.2)) r) ∧ H' = H2)
      ⟨⟨0, r, _, _, _, rfl, r0, by rw [List.drop_zero]; omega⟩, rfl⟩ (fun i σ H' _ z => SqL.of (by rw [z.2]; exact el)) ?_ ?_⟩
    · rintro i x σ H' hx ⟨⟨m, r', y3, y4, y5, rfl, hr', he⟩, rfl⟩
      rw [List.getElem?_map] at hx
      obtain ⟨⟨v, s, k⟩, hv, rfl⟩ := Option.map_eq_some_iff.mp hx
      have mem := List.mem_of_getElem? hv
      obtain ⟨a, e1, e2⟩ := rowsA _ mem
      obtain ⟨b1, b2, b3⟩ := bnd _ mem
      dsimp only at e1 e2 b1 b2 b3
      subst e1
      have hi : i < fs.length := (List.getElem?_eq_some_iff.mp hv).1
      have dr : fs.drop i = (V.ref a, s, k) :: fs.drop (i + 1) := by
        rw [List.drop_eq_getElem_cons hi, (List.getElem?_eq_some_iff.mp hv).2]
      rw [dr, List.map_cons, gre_cons] at he
      obtain ⟨f0, f1, f2, _⟩ := fit_le (k := k) b1 hr'
      refine ⟨a, _, rfl, SqT.of e2, rfl, _, _, rfl, _, _, rfl, rfl, ?_⟩
      dsimp only [gName, List.set]
      have last : ∀ ft : Int, ft = (if s = 0 then (k : Int) else min (k : Int) (r' / s)) → ft.natAbs < 2 ^ 300 ∧ 0 ≤ r' - ft * s ∧ m + ft + gre ((fs.drop (i + 1)).map (·.2)) (r' - ft * s) = gre (fs.map (·.2)) r := fun ft hft => by
        subst hft
        exact ⟨by omega, by omega, by omega⟩
      have fin : ∀ ft : Int, ft = (if s = 0 then (k : Int) else min (k : Int) (r' / s)) → CMulW ft s ∧ (∃ (m r'' : Int) (y3 y4 y5 : Option V), ([some (.ref l), some (.int (r' - ft * s)), some (.int (m + ft)), y3, y4, y5] : L2.St) = [some (.ref l), some (.int (r' - ft * s)), some (.int (m + ft)), y3, y4, y5]) := fun ft hft => ⟨wide_mul (last ft hft).1 b2 (by decide) (by decide) (by decide), 0, 0, none, none, none, rfl⟩
      refine ⟨_, rfl, rfl, _, rfl, ite2 (fun e => ?_) (fun e => ?_)⟩
      · have s0 : s = 0 := by simpa using e
        have lt := last (k : Int) (by rw [if_pos s0])
        have fn := fin (k : Int) (by rw [if_pos s0])
        refine ⟨_, rfl, ?_⟩
        refine ⟨_, rfl, _, rfl, _, _, rfl, rfl, _, rfl, _, rfl, _, rfl, _, _, rfl, rfl, fn.1, _, _, rfl, rfl, _, _, rfl, ?_⟩
        dsimp only [gName, List.set]
        exact ⟨⟨_, _, _, _, _, rfl, lt.2.1, lt.2.2⟩, rfl⟩
      · have s0 : s ≠ 0 := by simpa using e
        have lt := last (min (k : Int) (r' / s)) (by rw [if_neg s0])
        have fn := fin (min (k : Int) (r' / s)) (by rw [if_neg s0])
        refine ⟨_, rfl, _, rfl, _, rfl, _, _, rfl, rfl, wide_div (by omega) b2 (by decide) (by decide), _, _, rfl, ?_⟩
        rw [min_if]
        dsimp only [gName, List.set]
        refine ⟨_, rfl, _, rfl, _, _, rfl, rfl, _, rfl, _, rfl, _, rfl, _, _, rfl, rfl, fn.1, _, _, rfl, rfl, _, _, rfl, ?_⟩
        dsimp only [gName, List.set]
        exact ⟨⟨_, _, _, _, _, rfl, lt.2.1, lt.2.2⟩, rfl⟩
    · rintro σ H' ⟨⟨m, r', y3, y4, y5, rfl, hr', he⟩, rfl⟩
      rw [List.drop_of_length_le (by rw [List.length_map]; exact Nat.le_refl _)] at he
      have e0 : m = gre (fs.map (·.2)) r := by
        have : gre (([] : List (V × Int × Nat)).map (·.2)) r' = 0 := rfl
        omega
      subst e0
      exact ⟨_, rfl, q _ _ best xA TA⟩
end
end K50

/-! k50: the program: the greatest running total. -/
namespace K50
open PySem PySem.Spec PyProof.Rows L2 LamX NdefX Own
abbrev pGo : Stmt := topS 42
abbrev nGo : List Str := ["entries", "way", "first", "lifting", "others", "lifted", "room", "sizes", "entry"]
theorem blkG1 : BlkOk nGo (defScope pGo) (lcScope (asgV (inD pGo 1))) [("entry", 8)] := blkOk_by (by decide +kernel)
theorem blkG2 : BlkOk nGo (defScope pGo) (lcScope (asgV (inD pGo 2))) [("entry", 8)] := blkOk_by (by decide +kernel)
theorem blkG3 : BlkOk nGo (defScope pGo) (lcScope (argN 0 (asgV (inD pGo 3)))) [("entry", 8)] := blkOk_by (by decide +kernel)
theorem blkG4 : BlkOk nGo (defScope pGo) (lcScope (argN 0 (argN 0 (asgV (inD pGo 4))))) [("entry", 8)] := blkOk_by (by decide +kernel)
theorem blkG5 : BlkOk nGo (defScope pGo) (lcScope (asgV (inD pGo 6))) [("entry", 8)] := blkOk_by (by decide +kernel)
/-! ### what it comes to -/
theorem wsum_filter (c : Int → Bool) (f : Int → Int) : ∀ es : List (Int × Nat), wsum f (es.filter fun e => c e.1) = wsum (fun x => if c x = true then f x else 0) es
  | [] => rfl
  | e :: r => by
    show _ = (if c e.1 = true then f e.1 else 0) * (e.2 : Int) + _
    rw [List.filter_cons, ← wsum_filter c f r]
    by_cases h : c e.1 = true
    · rw [if_pos h, if_pos h]
      rfl
    · rw [if_neg h, if_neg h]
      omega
theorem wsum_congr {f g : Int → Int} (h : ∀ x, f x = g x) : ∀ es : List (Int × Nat), wsum f es = wsum g es
  | [] => rfl
  | e :: r => by
    show f e.1 * (e.2 : Int) + _ = g e.1 * (e.2 : Int) + _
    rw [h, wsum_congr h r]
theorem wsum_mul (c : Int) (f : Int → Int) : ∀ es : List (Int × Nat), c * wsum f es = wsum (fun x => c * f x) es
  | [] => Int.mul_zero c
  | e :: r => by
    show c * (f e.1 * (e.2 : Int) + _) = c * f e.1 * (e.2 : Int) + _
    rw [← wsum_mul c f r, Int.mul_add, Int.mul_assoc]
section
variable {U x : Int} {t : Str} {dn : Bool}
theorem div_sgn (hU : 0 < U) : x / U < 0 ↔ x < 0 := by
  constructor
  · intro h
    refine Int.lt_of_not_ge fun z => ?_
    have := Int.ediv_nonneg z (Int.le_of_lt hU)
    omega
  · intro h
    exact Int.ediv_neg_of_neg_of_pos h hU
theorem loose_ne (hU : 0 < U) (h : isLoose U x t = true) : x ≠ 0 := by
  rintro rfl
  unfold isLoose at h
  rw [Int.zero_emod] at h
  have e : ¬ (2 * 0 = U) := by omega
  simp [e] at h
  omega
theorem sgn_neg (h : x < 0) : sgn x = -1 := by
  unfold sgn
  rw [if_neg (by omega), if_neg (by omega)]
theorem sgn_pos (h : 0 < x) : sgn x = 1 := by
  unfold sgn
  rw [if_neg (by omega), if_pos h]
theorem side_in (hU : 0 < U) (h : x ≠ 0) : decide (sgn x = fstS dn) = inL dn U x := by
  by_cases z : x < 0
  · have d := (div_sgn hU).mpr z
    rw [sgn_neg z]
    unfold inL
    rw [decide_eq_true d]
    cases dn <;> decide
  · have d : ¬ x / U < 0 := fun y => z ((div_sgn hU).mp y)
    rw [sgn_pos (by omega)]
    unfold inL
    rw [decide_eq_false d]
    cases dn <;> decide
theorem side_out (hU : 0 < U) (h : x ≠ 0) : decide (sgn x = -fstS dn) = !inL dn U x := by
  by_cases z : x < 0
  · have d := (div_sgn hU).mpr z
    rw [sgn_neg z]
    unfold inL
    rw [decide_eq_true d]
    cases dn <;> decide
  · have d : ¬ x / U < 0 := fun y => z ((div_sgn hU).mp y)
    rw [sgn_pos (by omega)]
    unfold inL
    rw [decide_eq_false d]
    cases dn <;> decide
theorem go_lift (hU : 0 < U) (x : Int) : (if decide (sgn x = fstS dn) = true then (if isLoose U x t = true then (1 : Int) else 0) else 0) = lfE dn U t x := by
  unfold lfE
  cases hL : isLoose U x t with
  | true =>
    rw [side_in hU (loose_ne hU hL)]
    cases inL dn U x <;> rfl
  | false =>
    rw [Bool.and_false]
    split <;> rfl
theorem go_room (hU : 0 < U) (x : Int) : fstS dn * (if decide (sgn x = fstS dn) = true then vlE U t x else 0) = rmE dn U t x := by
  unfold rmE
  by_cases z : x = 0
  · subst z
    have v : vlE U t 0 = 0 := by
      unfold vlE
      rw [if_neg (fun y => loose_ne hU y rfl), near_zero (Int.zero_emod U), Int.zero_ediv]
    rw [v]
    cases dn <;> simp
  · rw [side_in hU z]
    by_cases y : inL dn U x = true
    · rw [if_pos y, if_pos y]
      cases dn
      · show 1 * vlE U t x = vlE U t x
        omega
      · show -1 * vlE U t x = -vlE U t x
        omega
    · rw [if_neg y, if_neg y, Int.mul_zero]
theorem go_cost (hU : 0 < U) (x : Int) : (isLoose U x t && decide (sgn x = -fstS dn)) = csC dn U t x := by
  unfold csC
  cases hL : isLoose U x t with
  | true => rw [side_out hU (loose_ne hU hL)]
  | false => rfl
theorem go_size (x : Int) : -fstS dn * (x / U + 1) = szE dn U x := by
  unfold fstS szE
  cases dn
  · show -1 * (x / U + 1) = -(x / U) - 1
    omega
  · show - -1 * (x / U + 1) = x / U + 1
    omega
end
section
variable {P : Program} {w : World} {K : PySem.W.Frag} {mg : Str → Option Value} {base : Heap} {C CB W En Pm : Addr} {Ls : List (Addr × Str)}
theorem scGo : FnScope nGo ["entries", "way"] (defScope pGo) := ⟨rfl, rfl, rfl, by decide +kernel, rfl, by decide +kernel, by decide +kernel⟩
def DnW (dn : Bool) (t : Str) : Prop := if dn = true then t ∈ cutW else t ∈ awayW
def spGo (En Pm : Addr) (Ls : List (Addr × Str)) : Sp := fun vs H Q _ => ∃ (l : Addr) (es : List (Int × Nat)) (p : Nat) (t : Str) (dn : Bool), vs = [.ref l, .str t] ∧ DnW dn t ∧ EnL En H l es p t ∧ Tabs (TT Pm Ls) H ∧ ∀ (h : Int) (H' : Hp), Hi dn ((10 : Int) ^ p) t es h → ExtN H H' → Tabs (TT Pm Ls) H' → Q (.int h) H'
theorem ok_go (A : At K mg "_greatest_of" pGo ["entries", "way"]) (B : Blt mg) (mS : mg "sum" = none) (TE : EntryC K mg En) (Ds : DefOk P w K mg base CX0 "_sum_of" 1 ["pairs"] spSo) (Db : DefOk P w K mg base CX0 "_base_of" 2 ["entries"] (spBo En)) (Df : DefOk P w K mg base CX0 "_first_side" 1 ["way"] spFs)
    (Dm : DefOk P w K mg base CX0 "_most_within" 3 ["sizes", "room"] (spMw Pm Ls)) : DefOk P w K mg base CX0 "_greatest_of" 4 ["entries", "way"] (spGo En Pm Ls) := by
  refine A.ok fun f fd F => F.ok scGo (fun vs H Q E h => ?_) (fun cdv A outer s0 H vs Q E hr h => ?_)
  · obtain ⟨l, es, p, t, dn, rfl, _⟩ := h
    rfl
  · obtain ⟨l, es, p, t, dn, rfl, ht, hL, hT, q⟩ := h
    have nd := scGo.nd
    have U0 := ten_pos p
    refine ⟨_, pss_cons (ps_set (i := 2) nd rfl (.inr rfl) (pe_def Df hr (by decide) (by rfl) pass0 (pa_cons (pv 1) pa_nil)))
      (pss_cons (ps_setLc (i := 3) (own := [("entry", 8)]) (tt := (tTest (tOp rEq (tFld K (tVar 8) "side") (tVar 2)))) (te := tVar 8) rfl nd rfl rfl rfl (pi_list (pv 0)) blkG1 (fun _ _ _ _ _ => (pg_name (i := 8) nd rfl (.inl rfl))) (fun _ _ _ _ _ => (pts_one (pt_cmpR op_eq (pe_fld (pv 8) (by rfl)) (pv 2) (nomark _)))) (fun _ _ _ _ _ => (pv 8)))
      (pss_cons (ps_setLc (i := 4) (own := [("entry", 8)]) (tt := tAnd (tB (tFld K (tVar 8) "is_loose")) (tTest (tOp rEq (tFld K (tVar 8) "side") (tUn (rU fun i => .int (-i)) (tVar 2))))) (te := tVar 8) rfl nd rfl rfl rfl (pi_list (pv 0)) blkG2 (fun _ _ _ _ _ => (pg_name (i := 8) nd rfl (.inl rfl))) (fun _ _ _ _ _ => (pts_one (PW.pt (pw_and (pt_val (pe_fld (pv 8) (by rfl))) (pw_and1 (pt_cmpR op_eq (pe_fld (pv 8) (by rfl)) (pe_un un_neg (pv 2)) (nomark _))))))) (fun _ _ _ _ _ => (pv 8)))
      (pss_cons (ps_set (i := 5) nd rfl (.inl rfl) (pe_callB (cr_sum rfl) (by rfl) mS PyProof.Rows.boot_sum (pa_cons (pe_lc (own := [("entry", 8)]) (tt := tB (tFld K (tVar 8) "is_loose")) (te := (tFld K (tVar 8) "times")) rfl nd (pi_list (pv 3)) blkG3 (fun _ _ _ _ _ => (pg_name (i := 8) nd rfl (.inl rfl))) (fun _ _ _ _ _ => (pts_one (pt_val (pe_fld (pv 8) (by rfl))))) (fun _ _ _ _ _ => (pe_fld (pv 8) (by rfl)))) pa_nil)))
      (pss_cons (ps_set (i := 6) nd rfl (.inl rfl) (pe_op op_mul (pv 2) (pe_def Ds hr (by decide) (by rfl) pass0 (pa_cons (pe_lc (own := [("entry", 8)]) (te := tTup (tCons (tIf (tB (tFld K (tVar 8) "is_loose")) (tOp (rI0 fun i j => .int (i + j)) (tFld K (tVar 8) "floor") (tC (.int 1))) (tFld K (tVar 8) "alone")) (tCons (tFld K (tVar 8) "times") tNil))) rfl nd (pi_list (pv 3)) blkG4 (fun _ _ _ _ _ => (pg_name (i := 8) nd rfl (.inl rfl))) (fun _ _ _ _ _ => pts_nil) (fun _ _ _ _ _ => (pe_tup (pa_cons (pe_ifExp (pt_val (pe_fld (pv 8) (by rfl))) (pe_op op_add (pe_fld (pv 8) (by rfl)) pe_int) (pe_fld (pv 8) (by rfl))) (pa_cons (pe_fld (pv 8) (by rfl)) pa_nil))))) pa_nil))))
      (C8.pss_cut (ps_if (pt_cmpR op_gt (pv 2) pe_int (nomark _)) (pss_one (ps_set (i := 6) nd rfl (.inl rfl) (pe_op op_sub (pv 6) pe_int))) pss_nil)
      (pss_cons (ps_setLc (i := 7) (own := [("entry", 8)]) (te := tTup (tCons (tOp (rI CMulW fun i j => .int (i * j)) (tUn (rU fun i => .int (-i)) (tVar 2)) (tOp (rI0 fun i j => .int (i + j)) (tFld K (tVar 8) "floor") (tC (.int 1)))) (tCons (tFld K (tVar 8) "times") tNil))) rfl nd rfl rfl rfl (pi_list (pv 4)) blkG5 (fun _ _ _ _ _ => (pg_name (i := 8) nd rfl (.inl rfl))) (fun _ _ _ _ _ => pts_nil) (fun _ _ _ _ _ => (pe_tup (pa_cons (pe_op op_mulW (pe_un un_neg (pv 2)) (pe_op op_add (pe_fld (pv 8) (by rfl)) pe_int)) (pa_cons (pe_fld (pv 8) (by rfl)) pa_nil)))))
      (pss_one (ps_ret (pe_op op_add (pe_op op_add (pe_def Db hr (by decide) (by rfl) pass0 (pa_cons (pv 0) pa_nil)) (pv 5)) (pe_def Dm hr (by decide) (by rfl) pass0 (pa_cons (pv 7) (pa_cons (pv 6) pa_nil)))))))))))), ?_⟩
    refine ⟨_, rfl, t, dn, rfl, ht, fun H1 s1 => ?_⟩
    dsimp only [gName, List.set]
    have hL1 := hL.same s1
    obtain ⟨⟨xs, hl1, hE1⟩, hlen, hb⟩ := id hL1
    -- those that come first
    refine ⟨_, rfl, l, rfl, ⟨_, SqL.of hl1⟩, fun DL nDL => lc_ent (R := RowEn En p t) (S := RowEn En p t) (cnd := fun e => decide (sgn e.1 = fstS dn)) (out := fun e => e) hl1 hE1 nDL hlen (fun _ _ _ _ h z => h.same z) (fun _ _ _ _ h z => h.same z) (fun _ _ _ _ _ h hD => h.put hD) (fun r e H' Nx No he s2 hr nx no => ?_) fun H2 xl s2 hD2 hA2 => ?_⟩
    · have hr0 := hr
      obtain ⟨a, rfl, dx, ea⟩ := hr
      obtain ⟨x, k⟩ := e
      dsimp only at ea nx no
      generalize (10 : Int) ^ p = U at ea nx no
      dsimp only [gName, List.set]
      refine ⟨rfl, ?_⟩
      refine ⟨_, rfl, a, En, dx, _, .int (sgn x), rfl, ea, TE.cls, TE.n4, eLk_s _ _ _ _ _, _, rfl, rfl, _, rfl, ite2 (fun e => ?_) (fun e => ?_)⟩
      · exact ⟨_, rfl, nx (by simpa using e) _ _ (fun _ _ z => z) hr0⟩
      · exact no (by simpa using e)
    dsimp only [gName, List.set]
    rw [List.map_id'] at hA2
    have hL2 := hL1.same s2
    obtain ⟨⟨xs2, hl2, hE2⟩, _, _⟩ := id hL2
    -- the others that are loose
    refine ⟨_, rfl, l, rfl, ⟨_, SqL.of hl2⟩, fun DO nDO => lc_ent (R := RowEn En p t) (S := RowEn En p t) (cnd := fun e => isLoose ((10 : Int) ^ p) e.1 t && decide (sgn e.1 = -fstS dn)) (out := fun e => e) hl2 hE2 nDO hlen (fun _ _ _ _ h z => h.same z) (fun _ _ _ _ h z => h.same z) (fun _ _ _ _ _ h hD => h.put hD) (fun r e H' Nx No he s3 hr nx no => ?_) fun H3 xo s3 hD3 hA3 => ?_⟩
    · have hr0 := hr
      obtain ⟨a, rfl, dx, ea⟩ := hr
      obtain ⟨x, k⟩ := e
      dsimp only at ea nx no
      generalize (10 : Int) ^ p = U at ea nx no
      dsimp only [gName, List.set]
      refine ⟨rfl, ?_⟩
      refine ⟨_, rfl, a, En, dx, _, .bl (isLoose U x t), rfl, ea, TE.cls, TE.n5, eLk_l _ _ _ _ _, _, rfl, ?_⟩
      cases hL : isLoose U x t with
      | true =>
        rw [hL] at nx no
        refine iteT ⟨_, rfl, a, En, dx, _, .int (sgn x), rfl, ea, TE.cls, TE.n4, eLk_s _ _ _ _ _, _, rfl, _, rfl, rfl, _, rfl, ite2 (fun e => ?_) (fun e => ?_)⟩
        · exact ⟨_, rfl, nx (by simpa using e) _ _ (fun _ _ z => z) hr0⟩
        · exact no (by simpa using e)
      | false =>
        rw [hL] at no
        exact iteF (iteF (no rfl))
    dsimp only [gName, List.set]
    rw [List.map_id'] at hA3
    replace hD2 := s3 _ _ hD2
    replace hA2 := hA2.mono fun _ _ z => RowEn.same z s3
    have le1 : (es.filter fun e => decide (sgn e.1 = fstS dn)).length ≤ 1000 := Nat.le_trans (List.length_filter_le ..) hlen
    have le2 : (es.filter fun e => isLoose ((10 : Int) ^ p) e.1 t && decide (sgn e.1 = -fstS dn)).length ≤ 1000 := Nat.le_trans (List.length_filter_le ..) hlen
    have bd1 : ∀ e ∈ es.filter fun e => decide (sgn e.1 = fstS dn), e.1.natAbs < 2 ^ 300 ∧ e.2 < 2 ^ 300 := fun e he => hb e (List.mem_filter.mp he).1
    have bd2 : ∀ e ∈ es.filter fun e => isLoose ((10 : Int) ^ p) e.1 t && decide (sgn e.1 = -fstS dn), e.1.natAbs < 2 ^ 300 ∧ e.2 < 2 ^ 300 := fun e he => hb e (List.mem_filter.mp he).1
    -- how many are lifted
    refine ⟨_, rfl, _, rfl, ⟨_, SqL.of hD2⟩, fun D nD => lc_ent (R := RowEn En p t) (S := IsI) (cnd := fun e => isLoose ((10 : Int) ^ p) e.1 t) (out := fun e => (e.2 : Int)) hD2 hA2 nD le1 (fun _ _ _ _ h z => h.same z) (fun _ _ _ _ h _ => h) (fun _ _ _ _ _ h _ => h) (fun r e H' Nx No he s4 hr nx no => ?_) fun H4 ys s4 hD hA => ?_⟩
    · have hr0 := hr
      obtain ⟨a, rfl, dx, ea⟩ := hr
      obtain ⟨x, k⟩ := e
      dsimp only at ea nx no
      generalize (10 : Int) ^ p = U at ea nx no
      dsimp only [gName, List.set]
      refine ⟨rfl, ?_⟩
      refine ⟨_, rfl, a, En, dx, _, .bl (isLoose U x t), rfl, ea, TE.cls, TE.n5, eLk_l _ _ _ _ _, _, rfl, ?_⟩
      cases hL : isLoose U x t with
      | true => exact iteT ⟨_, rfl, a, En, dx, _, .int (k : Nat), rfl, ea, TE.cls, TE.n1, eLk_t _ _ _ _ _, nx hL _ _ (fun _ _ z => z) rfl⟩
      | false => exact iteF (no hL)
    have e4 := ents_int hA
    subst e4
    refine ⟨_, _, rfl, SqL.of hD, ?_⟩
    dsimp only [gName, List.set]
    rw [sumT_w fun x => isLoose ((10 : Int) ^ p) x t, wsum_filter fun x => decide (sgn x = fstS dn), wsum_congr (go_lift U0)]
    replace hD2 := s4 _ _ hD2
    replace hA2 := hA2.mono fun _ _ z => RowEn.same z s4
    clear hA hD
    -- the room
    refine ⟨_, rfl, _, rfl, _, rfl, ⟨_, SqL.of hD2⟩, fun D nD => lc_ent (R := RowEn En p t) (S := RowI) (cnd := fun _ => true) (out := fun e => (vlE ((10 : Int) ^ p) t e.1, (e.2 : Int))) hD2 hA2 nD le1 (fun _ _ _ _ h z => h.same z) (fun _ _ _ _ h z => h.same z) (fun _ _ _ _ _ h hD => h.put hD) (fun r e H' Nx No he s5 hr nx no => ?_) fun H5 ys s5 hD hA => ?_⟩
    · have hr0 := hr
      obtain ⟨a, rfl, dx, ea⟩ := hr
      obtain ⟨x, k⟩ := e
      dsimp only at ea nx no
      generalize (10 : Int) ^ p = U at ea nx no
      dsimp only [gName, List.set]
      refine ⟨rfl, ?_⟩
      unfold tYes
      dsimp only
      rw [if_pos rfl]
      have last : ∀ v : Int, v = vlE U t x → ∀ q, H' q = none → Nx (.ref q) (upd H' q (.tup [.int v, .int (k : Nat)])) := fun v hv q nq => nx rfl _ _ (same_new nq) ⟨q, rfl, by rw [← hv]; exact upd_same⟩
      refine ⟨_, rfl, a, En, dx, _, .bl (isLoose U x t), rfl, ea, TE.cls, TE.n5, eLk_l _ _ _ _ _, _, rfl, ?_⟩
      cases hL : isLoose U x t with
      | true =>
        refine iteT ⟨_, rfl, a, En, dx, _, .int (x / U), rfl, ea, TE.cls, TE.n2, eLk_f _ _ _ _ _, _, _, rfl, rfl, _, rfl, a, En, dx, _, .int (k : Nat), rfl, ea, TE.cls, TE.n1, eLk_t _ _ _ _ _, by show 2 ≤ sizeLine; decide, fun q nq => last _ ?_ q nq⟩
        unfold vlE
        rw [hL]
        rfl
      | false =>
        refine iteF ⟨_, rfl, a, En, dx, _, .int (near x U t), rfl, ea, TE.cls, TE.n3, eLk_a _ _ _ _ _, _, rfl, a, En, dx, _, .int (k : Nat), rfl, ea, TE.cls, TE.n1, eLk_t _ _ _ _ _, by show 2 ≤ sizeLine; decide, fun q nq => last _ ?_ q nq⟩
        unfold vlE
        rw [hL]
        rfl
    rw [List.filter_eq_self.mpr (fun _ _ => rfl)] at hA
    have vb : ∀ x : Int, x.natAbs < 2 ^ 300 → (vlE ((10 : Int) ^ p) t x).natAbs < 2 ^ 400 := fun x hx => by
      have a := div_b U0 hx
      have b := near_b U0 hx t
      have e : (2 : Nat) ^ 302 + 1 ≤ 2 ^ 400 := by decide +kernel
      unfold vlE
      split <;> omega
    refine ⟨_, ys, _, rfl, hD, hA, by rw [List.length_map]; exact le1, fun z hz => ?_, fun H6 s6 => ?_⟩
    · obtain ⟨e, he, rfl⟩ := List.mem_map.mp hz
      obtain ⟨b1, b2⟩ := bd1 e he
      exact ⟨vb _ b1, by show ((e.2 : Nat) : Int).natAbs < 2 ^ 300; omega⟩
    rw [sum2_w, wsum_filter fun x => decide (sgn x = fstS dn)]
    have fs64 : -(2 ^ 64) < fstS dn ∧ fstS dn < 2 ^ 64 := by
      cases dn <;> exact ⟨by decide, by decide⟩
    refine ⟨_, _, rfl, rfl, .inl fs64, ?_⟩
    dsimp only [gName, List.set]
    rw [wsum_mul, wsum_congr (go_room U0)]
    clear hA hD hD2 hA2
    have S6 := ((((s2.trans s3).trans s4).trans s5).trans s6)
    have S36 := (s4.trans s5).trans s6
    replace hD3 := S36 _ _ hD3
    replace hA3 := hA3.mono fun _ _ z => RowEn.same z S36
    -- what is left of it
    have S16 := s2.trans (s3.trans S36)
    refine ⟨fun σ H' => (∃ y8 : Option V, σ = [some (.ref l), some (.str t), some (.int (fstS dn)), some (.ref DL), some (.ref DO), some (.int (wsum (lfE dn ((10 : Int) ^ p) t) es)), some (.int (roomR dn ((10 : Int) ^ p) t es)), none, y8]) ∧ H' = H6, ?_, ?_⟩
    · refine ⟨_, rfl, _, _, rfl, rfl, _, rfl, ?_⟩
      cases dn with
      | true => exact iteF ⟨⟨_, by unfold roomR; rw [if_pos rfl, Int.sub_zero]; rfl⟩, rfl⟩
      | false => exact iteT ⟨_, rfl, _, _, rfl, rfl, ⟨_, rfl⟩, rfl⟩
    rintro σ H6' ⟨⟨y8, rfl⟩, rfl⟩
    refine ⟨_, rfl, _, rfl, ⟨_, SqL.of hD3⟩, fun D nD => lc_ent (R := RowEn En p t) (S := RowN) (cnd := fun _ => true) (out := fun e => (szE dn ((10 : Int) ^ p) e.1, e.2)) hD3 hA3 nD le2 (fun _ _ _ _ h z => h.same z) (fun _ _ _ _ h z => h.same z) (fun _ _ _ _ _ h hD => h.put hD) (fun r e H' Nx No he s7 hr nx no => ?_) fun H7 xc s7 hD hA => ?_⟩
    · have xb := (bd2 e he).1
      have hr0 := hr
      obtain ⟨a, rfl, dx, ea⟩ := hr
      obtain ⟨x, k⟩ := e
      dsimp only at ea nx no
      generalize hU : (10 : Int) ^ p = U at ea nx no
      have UU : 0 < U := hU ▸ U0
      dsimp only [gName, List.set]
      refine ⟨rfl, ?_⟩
      unfold tYes
      dsimp only
      rw [if_pos rfl]
      have fb : (x / U + 1).natAbs < 2 ^ 400 := by
        have a := div_b UU (show x.natAbs < 2 ^ 300 from xb)
        have e : (2 : Nat) ^ 302 + 1 ≤ 2 ^ 400 := by decide +kernel
        omega
      have fsb : (-fstS dn).natAbs < 2 ^ 1 := by cases dn <;> decide
      refine ⟨_, rfl, _, rfl, _, rfl, a, En, dx, _, .int (x / U), rfl, ea, TE.cls, TE.n2, eLk_f _ _ _ _ _, _, _, rfl, rfl, _, _, rfl, rfl, wide_mul fsb fb (by decide) (by decide) (by decide), _, rfl, a, En, dx, _, .int (k : Nat), rfl, ea, TE.cls, TE.n1, eLk_t _ _ _ _ _, by show 2 ≤ sizeLine; decide, fun q nq => nx rfl _ _ (same_new nq) ⟨q, rfl, ?_⟩⟩
      show upd H' q (HO.tup [V.int (-fstS dn * (x / U + 1)), V.int (k : Nat)]) q = some (HO.tup [V.int (szE dn U x), V.int (k : Nat)])
      rw [go_size]
      exact upd_same
    rw [List.filter_eq_self.mpr (fun _ _ => rfl)] at hA
    dsimp only [gName, List.set]
    have S17 := S16.trans s7
    refine ⟨_, rfl, l, es, p, t, rfl, hL1.same S17, fun H8 s8 => ?_⟩
    refine ⟨_, rfl, _, _, rfl, rfl, _, rfl, _, rfl, ?_⟩
    have S8 := S17.trans s8
    have ec : ((es.filter fun e => isLoose ((10 : Int) ^ p) e.1 t && decide (sgn e.1 = -fstS dn)).map fun e => (szE dn ((10 : Int) ^ p) e.1, e.2)) = csOf dn ((10 : Int) ^ p) t es := by
      unfold csOf
      rw [show (fun e : Int × Nat => isLoose ((10 : Int) ^ p) e.1 t && decide (sgn e.1 = -fstS dn)) = fun e => csC dn ((10 : Int) ^ p) t e.1 from funext fun e => go_cost U0 e.1]
    rw [ec] at hA
    refine ⟨D, xc, _, _, rfl, s8 _ _ hD, hA.mono fun _ _ z => RowI.same z s8, fun e he => ?_, hT.ext (s1.trans S8), fun m H9 hm x9 T9 => ?_⟩
    · have lo := cs_low U0 e he
      obtain ⟨z, hz, rfl⟩ := List.mem_map.mp he
      obtain ⟨b1, b2⟩ := hb z (List.mem_filter.mp hz).1
      have a := div_b U0 b1
      have e2 : (2 : Nat) ^ 302 + 1 ≤ 2 ^ 400 := by decide +kernel
      dsimp only at lo ⊢
      refine ⟨?_, ?_, b2⟩
      · split at lo <;> omega
      · unfold szE
        split <;> omega
    refine ⟨_, _, rfl, rfl, ?_⟩
    exact q _ _ ⟨m, hm, rfl⟩ ((ExtN.same (s1.trans S8)).trans x9) T9
end
end K50

/-! k50: the program: the range, tally_range. -/
namespace K50
open PySem PySem.Spec PyProof.Rows L2 LamX NdefX Own
abbrev pRo : Stmt := topS 38
def ifB (i : Nat) : Stmt → Stmt
  | .If _ b _ _ => b.getD i (.Pass ⟨0, 0, 0, 0⟩)
  | s => s
abbrev nRo : List Str := ["pairs", "scale", "way", "entries", "mirrored_entries", "total", "worth", "times", "entry"]
theorem blkRo1 : BlkOk nRo (defScope pRo) (lcScope (argN 0 (asgV (ifB 0 (inD pRo 2))))) [("worth", 6), ("times", 7)] := blkOk_by (by decide +kernel)
theorem blkRo2 : BlkOk nRo (defScope pRo) (lcScope (argN 0 (asgV (inD pRo 3)))) [("entry", 8)] := blkOk_by (by decide +kernel)
structure WNeg (P : Program) (w : World) (K : PySem.W.Frag) (mg : Str → Option Value) (base : Heap) (W : Addr) : Prop where
  ex : ∃ (f : Addr) (fd : FuncData), PySem.W.findIn K (.ref W) "__neg__" = some (some (.ref f)) ∧ PySem.W.isFn K (.ref f) = true ∧ FnOk P w K mg base (L2.CX P w) 13 f fd ["self"] (spUn W fun u => -u) ∧ Binds K fd ["self"] []
theorem low_minus {x u u' : Int} {m s s' : Nat} (h : IsLow x m u s) (g : IsLow (-u) s u' s') : IsLow (-x) m u' s' := by
  refine ⟨Nat.le_trans g.le h.le, ?_, g.own⟩
  have e : m - s' = (s - s') + (m - s) := by have := g.le; have := h.le; omega
  rw [h.eq, ← Int.neg_mul, g.eq, e, Int.pow_add, Int.mul_assoc]
theorem mir_neg (es : List (Int × Nat)) : mir es = es.map fun e => (-e.1, e.2) := rfl
def sideW : List Str := ["cut", "halfcut", "away", "halfaway"]
theorem side_of {t : Str} (h : t ∈ sideW) : ∃ dn : Bool, DnW dn t := by
  simp only [sideW, List.mem_cons, List.not_mem_nil, or_false] at h
  rcases h with rfl | rfl | rfl | rfl
  · exact ⟨true, show _ ∈ cutW by decide +kernel⟩
  · exact ⟨true, show _ ∈ cutW by decide +kernel⟩
  · exact ⟨false, show _ ∈ awayW by decide +kernel⟩
  · exact ⟨false, show _ ∈ awayW by decide +kernel⟩
theorem flat_of {t : Str} (ht : t ∈ waysL) (h1 : t ≠ "halfeven") (h2 : t ∉ sideW) : t ∈ flatW := by
  rcases ways_parts ht with h | h | h | h
  · exact h
  · exact absurd h h1
  · simp only [cutW, List.mem_cons, List.not_mem_nil, or_false] at h
    rcases h with rfl | rfl <;> exact absurd (by decide +kernel) h2
  · simp only [awayW, List.mem_cons, List.not_mem_nil, or_false] at h
    rcases h with rfl | rfl <;> exact absurd (by decide +kernel) h2
theorem cut_no {t : Str} (h : t ∈ cutW) : t ∉ awayW ∧ t ∉ flatW ∧ t ≠ "halfeven" := by
  simp only [cutW, List.mem_cons, List.not_mem_nil, or_false] at h
  rcases h with rfl | rfl <;> exact ⟨by decide +kernel, by decide +kernel, by decide +kernel⟩
theorem away_no {t : Str} (h : t ∈ awayW) : t ∉ cutW ∧ t ∉ flatW ∧ t ≠ "halfeven" := by
  simp only [awayW, List.mem_cons, List.not_mem_nil, or_false] at h
  rcases h with rfl | rfl <;> exact ⟨by decide +kernel, by decide +kernel, by decide +kernel⟩
theorem ends_side {U lo hi : Int} {t : Str} {es : List (Int × Nat)} {dn : Bool} (d : DnW dn t) (h1 : Hi dn U t es hi) (h2 : Hi dn U t (mir es) lo) : Ends U t es (-lo) hi := by
  cases dn with
  | true =>
    have d : t ∈ cutW := d
    obtain ⟨a, b, c⟩ := cut_no d
    exact ⟨fun z => absurd z c, fun _ => ⟨h1, by rw [Int.neg_neg]; exact h2⟩, fun z => absurd z a, fun z => absurd z b⟩
  | false =>
    have d : t ∈ awayW := d
    obtain ⟨a, b, c⟩ := away_no d
    exact ⟨fun z => absurd z c, fun z => absurd z a, fun _ => ⟨h1, by rw [Int.neg_neg]; exact h2⟩, fun z => absurd z b⟩
/-- a pair of a worth and its times -/
def ItemT (W : Addr) (m : Nat) (H : Hp) (r : V) (e : Int × Nat) : Prop := ∃ (q wa : Addr) (u : Int) (s : Nat), r = .ref q ∧ H q = some (.tup [.ref wa, .int (e.2 : Nat)]) ∧ WAt W H wa u s ∧ IsLow e.1 m u s
theorem ItemT.same {W : Addr} {m : Nat} {H H' : Hp} {r : V} {e : Int × Nat} (h : ItemT W m H r e) (z : Same H H') : ItemT W m H' r e := by
  obtain ⟨q, wa, u, s, e1, e2, e3, e4⟩ := h
  exact ⟨q, wa, u, s, e1, z _ _ e2, e3.same z, e4⟩
theorem ItemT.put {W : Addr} {m : Nat} {H : Hp} {r : V} {e : Int × Nat} {D : Addr} {l : List V} {o : HO} (h : ItemT W m H r e) (hD : H D = some (.lst l)) : ItemT W m (upd H D o) r e := by
  obtain ⟨q, wa, u, s, e1, e2, ⟨dx, e3⟩, e4⟩ := h
  exact ⟨q, wa, u, s, e1, (upd_ne (ne_of e2 hD (by intro z; cases z))).trans e2, ⟨dx, (upd_ne (ne_of e3 hD (by intro z; cases z))).trans e3⟩, e4⟩
theorem ItemT.at {W : Addr} {m : Nat} {H : Hp} {r : V} {e : Int × Nat} (h : ItemT W m H r e) : ItemAt W m H r e := by
  obtain ⟨q, wa, u, s, e1, e2, e3, e4⟩ := h
  exact ⟨q, wa, u, s, e1, .inl e2, e3, e4⟩
theorem EnL.ext {En : Addr} {H H' : Hp} {l : Addr} {es : List (Int × Nat)} {p : Nat} {t : Str} (h : EnL En H l es p t) (x : ExtN H H') : EnL En H' l es p t := by
  obtain ⟨xs, e1, e2⟩ := h.ex
  refine ⟨⟨xs, x _ _ e1 (fun ps z => by cases z), e2.mono fun _ _ z => ?_⟩, h.len, h.bd⟩
  obtain ⟨a, b, dx, e⟩ := z
  exact ⟨a, b, dx, x _ _ e (fun ps z => by cases z)⟩
section
variable {P : Program} {w : World} {K : PySem.W.Frag} {mg : Str → Option Value} {base : Heap} {C CB W En Pm : Addr} {Ls : List (Addr × Str)}
theorem scRo : FnScope nRo ["pairs", "scale", "way"] (defScope pRo) := ⟨rfl, rfl, rfl, by decide +kernel, rfl, by decide +kernel, by decide +kernel⟩
def spRo (W Pm : Addr) (Ls : List (Addr × Str)) : Sp := fun vs H Q _ => ∃ (l : Addr) (xs : List V) (es : List (Int × Nat)) (n m : Nat) (t : Str), vs = [.ref l, .int n, .str t] ∧ H l = some (.lst xs) ∧ Ents (ItemAt W m H) xs es ∧ n ≤ m ∧ m ≤ 200 ∧ es.length ≤ 1000 ∧ (∀ e ∈ es, e.1.natAbs < 2 ^ 300 ∧ e.2 < 2 ^ 300) ∧ t ∈ waysL ∧
  Tabs (TT Pm Ls) H ∧ ∀ (r : Addr) (lo hi : Int) (H' : Hp), Ends ((10 : Int) ^ (m - n)) t es lo hi → ExtN H H' → Tabs (TT Pm Ls) H' → H' r = some (.tup [.int lo, .int hi]) → Q (.ref r) H'
theorem ok_ro (A : At K mg "_range_of" pRo ["pairs", "scale", "way"]) (B : Blt mg) (TE : EntryC K mg En) (N : WNeg P w K mg base W) (DU : DefOk P w K mg base (L2.CX P w) "entries_in_units" 18 ["entries", "scale", "way"] (spIU2 W En)) (Dh : DefOk P w K mg base CX0 "_range_by_halves" 3 ["entries"] (spRh En)) (Dg : DefOk P w K mg base CX0 "_greatest_of" 4 ["entries", "way"] (spGo En Pm Ls))
    (Ds : DefOk P w K mg base CX0 "_sum_of" 1 ["pairs"] spSo) : DefOk P w K mg base (L2.CX P w) "_range_of" 19 ["pairs", "scale", "way"] (spRo W Pm Ls) := by
  refine A.ok fun f fd F => F.okX scRo (fun vs H Q E h => ?_) (fun cdv A outer s0 H vs Q E hr h => ?_)
  · obtain ⟨l, xs, es, n, m, t, rfl, _⟩ := h
    rfl
  · obtain ⟨l, xs, es, n, m, t, rfl, hl, hE, hn, hm, hlen, hb, ht, hT, q⟩ := h
    have nd := scRo.nd
    obtain ⟨fN, fdN, n1, n2, nF, nb⟩ := N.ex
    have U0 := ten_pos (m - n)
    refine ⟨_, pss_cons (ps_set (i := 3) nd rfl (.inl rfl) (pe_def (E := E) DU hr (by decide) (by rfl) (passes_call (takes_of rfl rfl rfl rfl) fun _ _ _ _ z => z) (pa_cons (pv 0) (pa_cons (pv 1) (pa_cons (pv 2) pa_nil)))))
      (pss_cons (ps_if (pt_cmpR op_eq (pv 2) pe_str (nomark _)) (pss_one (ps_ret (pe_def Dh hr (by decide) (by rfl) pass0 (pa_cons (pv 3) pa_nil)))) pss_nil)
      (pss_cons (ps_if (pt_cmpR op_in_seq (pv 2) (pe_tup (pa_cons pe_str (pa_cons pe_str (pa_cons pe_str (pa_cons pe_str pa_nil))))) (by rfl)) (pss_cons (ps_set (i := 4) nd rfl (.inl rfl) (pe_def (E := E) DU hr (by decide) (by rfl) (passes_call (takes_of rfl rfl rfl rfl) fun _ _ _ _ z => z) (pa_cons (pe_lc (g := gSq K 2 (gCons (gName 6) (gCons (gName 7) gNil))) (own := [("worth", 6), ("times", 7)]) (te := tTup (tCons (tUn (fun x H Q => ∃ a dx fs, x = V.ref a ∧ H a = some (.ins W dx fs) ∧ spUn W (fun u => -u) [.ref a] H Q E0) (tVar 6)) (tCons (tVar 7) tNil))) rfl nd (pi_list (pv 0)) blkRo1 (fun _ _ _ _ _ => by exact (pg_sq rfl (pgs_cons (pg_name (i := 6) nd rfl (.inl rfl)) (pgs_cons (pg_name (i := 7) nd rfl (.inl rfl)) pgs_nil)))) (fun _ _ _ _ _ => pts_nil) (fun _ _ _ _ _ => (pe_tup (pa_cons (pe_un (un_own (E := E0) nF (hr.mono (by decide)) n1 n2 nb passL) (pv 6)) (pa_cons (pv 7) pa_nil))))) (pa_cons (pv 1) (pa_cons (pv 2) pa_nil))))) (pss_one (ps_ret (pe_tup (pa_cons (pe_un un_neg (pe_def (E := E0) Dg hr (by decide) (by rfl) pass0 (pa_cons (pv 4) (pa_cons (pv 2) pa_nil)))) (pa_cons (pe_def (E := E0) Dg hr (by decide) (by rfl) pass0 (pa_cons (pv 3) (pa_cons (pv 2) pa_nil))) pa_nil)))))) pss_nil)
      (pss_cons (ps_set (i := 5) nd rfl (.inl rfl) (pe_def Ds hr (by decide) (by rfl) pass0 (pa_cons (pe_lc (own := [("entry", 8)]) (te := tTup (tCons (tFld K (tVar 8) "alone") (tCons (tFld K (tVar 8) "times") tNil))) rfl nd (pi_list (pv 3)) blkRo2 (fun _ _ _ _ _ => (pg_name (i := 8) nd rfl (.inl rfl))) (fun _ _ _ _ _ => pts_nil) (fun _ _ _ _ _ => (pe_tup (pa_cons (pe_fld (pv 8) (by rfl)) (pa_cons (pe_fld (pv 8) (by rfl)) pa_nil))))) pa_nil)))
      (pss_one (ps_ret (pe_tup (pa_cons (pv 5) (pa_cons (pv 5) pa_nil)))))))), ?_⟩
    refine ⟨_, rfl, _, rfl, _, rfl, l, xs, es, n, m, t, rfl, hl, hE, hn, hm, hlen, fun e he => (hb e he).1, ht, fun D rs H1 s1 hD hA => ?_⟩
    dsimp only [gName, List.set]
    have hL : EnL En H1 D es (m - n) t := ⟨⟨rs, hD, hA⟩, hlen, hb⟩
    refine ⟨_, rfl, rfl, _, rfl, ite2 (fun e => ?_) (fun e => ?_)⟩
    · have et : t = "halfeven" := by simpa using e
      subst et
      exact ⟨_, rfl, D, es, m - n, rfl, hL, fun r lo hi H2 h s2 er => q r lo hi H2 h (ExtN.same (s1.trans s2)) (hT.ext (s1.trans s2)) er⟩
    have ne : t ≠ "halfeven" := fun z => e (by simpa using z)
    refine ⟨_, rfl, by show 4 ≤ sizeLine; decide, fun r nr => ?_⟩
    have s2 := same_new (o := HO.tup [.str "cut", .str "halfcut", .str "away", .str "halfaway"]) nr
    refine ⟨r, _, rfl, .inr (SqT.of upd_same), rfl, rfl, _, rfl, ?_⟩
    rw [show (if false = true then !inV (V.str t) [.str "cut", .str "halfcut", .str "away", .str "halfaway"] else inV (V.str t) [.str "cut", .str "halfcut", .str "away", .str "halfaway"]) = decide (t ∈ sideW) from inV_txt t sideW]
    generalize upd H1 r (HO.tup [.str "cut", .str "halfcut", .str "away", .str "halfaway"]) = H2 at s2 ⊢
    have S2 := s1.trans s2
    have hL2 := hL.same s2
    refine ite2 (fun e => ?_) (fun e => ?_)
    · obtain ⟨dn, hd⟩ := side_of (of_decide_eq_true e)
      have hl2 := S2 _ _ hl
      have hE2 := hE.mono fun _ _ z => ItemAt.same z S2
      refine ⟨_, rfl, l, rfl, ⟨_, SqL.of hl2⟩, fun D2 nD => lc_ent (R := ItemAt W m) (S := ItemT W m) (cnd := fun _ => true) (out := fun e => (-e.1, e.2)) hl2 hE2 nD hlen (fun _ _ _ _ h z => h.same z) (fun _ _ _ _ h z => h.same z) (fun _ _ _ _ _ h hD => h.put hD) (fun r e H' Nx No he s3 hr nx no => ?_) fun H3 ys s3 hD3 hA3 => ?_⟩
      · obtain ⟨qa, wa, u, s, rfl, eq, hw, lw⟩ := hr
        obtain ⟨b1, b2⟩ := hb e he
        have last : Small u s → ∀ (u' : Int) (s' : Nat) (p : Addr) (H2 : Hp), IsLow (-u) s u' s' → Same H' H2 → H' p = none → WAt W H2 p u' s' → ∀ q, H2 q = none → Nx (.ref q) (upd H2 q (.tup [.ref p, .int (e.2 : Nat)])) := fun sm u' s' p H2 lw2 s4 np wp q nq => nx rfl _ _ (s4.trans (same_new nq)) ⟨q, p, u', s', rfl, upd_same, wp.same (same_new nq), low_minus lw lw2⟩
        have sm : Small u s := by
          have a := low_nat lw
          have b := lw.le
          have e : (2 : Nat) ^ 300 ≤ 2 ^ 40000 := Nat.pow_le_pow_right (by decide) (by decide)
          exact ⟨by omega, by omega⟩
        obtain ⟨dx, ew⟩ := id hw
        rcases eq with eq | eq
        · refine .inl ⟨qa, _, rfl, SqT.of eq, rfl, _, _, rfl, _, _, rfl, rfl, rfl, ?_⟩
          unfold tYes
          dsimp only
          rw [if_pos rfl]
          exact ⟨_, rfl, wa, dx, _, rfl, ew, wa, u, s, rfl, hw, sm, fun u' s' p H2 lw2 s4 np wp => ⟨_, rfl, by show 2 ≤ sizeLine; decide, fun q nq => last sm u' s' p H2 lw2 s4 np wp q nq⟩⟩
        · refine .inr ⟨qa, _, rfl, SqL.of eq, rfl, _, _, rfl, _, _, rfl, rfl, rfl, ?_⟩
          unfold tYes
          dsimp only
          rw [if_pos rfl]
          exact ⟨_, rfl, wa, dx, _, rfl, ew, wa, u, s, rfl, hw, sm, fun u' s' p H2 lw2 s4 np wp => ⟨_, rfl, by show 2 ≤ sizeLine; decide, fun q nq => last sm u' s' p H2 lw2 s4 np wp q nq⟩⟩
      rw [List.filter_eq_self.mpr (fun _ _ => rfl)] at hA3
      have hbm : ∀ e ∈ mir es, e.1.natAbs < 2 ^ 300 ∧ e.2 < 2 ^ 300 := fun z hz => by
        obtain ⟨e, he, rfl⟩ := List.mem_map.mp hz
        obtain ⟨b1, b2⟩ := hb e he
        exact ⟨by show (-e.1).natAbs < _; rw [Int.natAbs_neg]; exact b1, b2⟩
      have hlm : (mir es).length ≤ 1000 := by unfold mir; rw [List.length_map]; exact hlen
      refine ⟨_, rfl, _, rfl, D2, ys, mir es, n, m, t, rfl, hD3, hA3.mono fun _ _ z => z.at, hn, hm, hlm, fun e he => (hbm e he).1, ht, fun D4 rs4 H4 s4 hD4 hA4 => ?_⟩
      dsimp only [gName, List.set]
      have S4 := (S2.trans s3).trans s4
      have hLm : EnL En H4 D4 (mir es) (m - n) t := ⟨⟨rs4, hD4, hA4⟩, hlm, hbm⟩
      refine ⟨_, rfl, _, rfl, D4, mir es, m - n, t, dn, rfl, hd, hLm, hT.ext S4, fun h1 H5 hh1 x5 T5 => ⟨_, rfl, ?_⟩⟩
      have hL5 := (hL2.same (s3.trans s4)).ext x5
      refine ⟨_, rfl, _, rfl, D, es, m - n, t, dn, rfl, hd, hL5, T5, fun h2 H6 hh2 x6 T6 => ⟨by show 2 ≤ sizeLine; decide, fun r nr => ?_⟩⟩
      exact q r _ _ _ (ends_side hd hh2 hh1) (((ExtN.same S4).trans x5).trans (x6.trans (extN_new nr))) (T6.ext (same_new nr)) upd_same
    · have fw := flat_of ht ne (of_decide_eq_false (eq_false_of_ne_true e))
      obtain ⟨⟨rs2, hl2, hE2⟩, _, _⟩ := id hL2
      refine ⟨_, rfl, _, rfl, ⟨_, SqL.of hl2⟩, fun D2 nD => lc_ent (R := RowEn En (m - n) t) (S := RowI) (cnd := fun _ => true) (out := fun e => (bsE ((10 : Int) ^ (m - n)) t e.1, (e.2 : Int))) hl2 hE2 nD hlen (fun _ _ _ _ h z => h.same z) (fun _ _ _ _ h z => h.same z) (fun _ _ _ _ _ h hD => h.put hD) (fun r e H' Nx No he s3 hr nx no => ?_) fun H3 ys s3 hD3 hA3 => ?_⟩
      · obtain ⟨a, rfl, dx, ea⟩ := hr
        obtain ⟨x, k⟩ := e
        have fin := nx rfl
        dsimp only at ea fin
        have b : bsE ((10 : Int) ^ (m - n)) t x = near x ((10 : Int) ^ (m - n)) t := by
          unfold bsE
          rw [loose_no fw]
          rfl
        rw [b] at fin
        generalize (10 : Int) ^ (m - n) = U at ea fin
        dsimp only [gName, List.set]
        refine ⟨rfl, ?_⟩
        unfold tYes
        dsimp only
        rw [if_pos rfl]
        exact ⟨_, rfl, a, En, dx, _, .int (near x U t), rfl, ea, TE.cls, TE.n3, eLk_a _ _ _ _ _, _, rfl, a, En, dx, _, .int (k : Nat), rfl, ea, TE.cls, TE.n1, eLk_t _ _ _ _ _, by show 2 ≤ sizeLine; decide, fun q nq => fin _ _ (same_new nq) ⟨q, rfl, upd_same⟩⟩
      rw [List.filter_eq_self.mpr (fun _ _ => rfl)] at hA3
      refine ⟨_, ys, _, rfl, hD3, hA3, by rw [List.length_map]; exact hlen, fun z hz => ?_, fun H4 s4 => ?_⟩
      · obtain ⟨e, he, rfl⟩ := List.mem_map.mp hz
        obtain ⟨b1, b2⟩ := hb e he
        exact ⟨bs_b U0 b1 t, by show ((e.2 : Nat) : Int).natAbs < 2 ^ 300; omega⟩
      rw [sum2_w]
      dsimp only [gName, List.set]
      have S4 := (S2.trans s3).trans s4
      refine ⟨_, rfl, _, rfl, by show 2 ≤ sizeLine; decide, fun r nr => ?_⟩
      have S5 := S4.trans (same_new (o := HO.tup [.int (wsum (bsE ((10 : Int) ^ (m - n)) t) es), .int (wsum (bsE ((10 : Int) ^ (m - n)) t) es)]) nr)
      refine q r _ _ _ ⟨fun z => absurd z ne, fun z => ?_, fun z => ?_, fun _ => ⟨rfl, rfl⟩⟩ (ExtN.same S5) (hT.ext S5) upd_same
      · exact absurd fw (cut_no z).2.1
      · exact absurd fw (away_no z).2.1
end
end K50

/-! k50: the law's small defs. -/
namespace K50
open PySem PySem.Spec PyProof.Rows L2 LamX NdefX Own
abbrev sSi : Stmt := topS 54
abbrev sTe : Stmt := topS 56
abbrev sRd : Stmt := topS 57
abbrev sOw : Stmt := topS 58
abbrev sSm : Stmt := topS 59
abbrev sUn : Stmt := topS 60
section
variable {P : Program} {w : World} {K : PySem.W.Frag} {mg : Str → Option Value} {base : Heap} {C W En : Addr}
theorem scSi : FnScope ["_law_pen_here", "_law_figures", "_law_found"] ["_law_pen_here", "_law_figures"] (defScope sSi) := ⟨rfl, rfl, rfl, by decide +kernel, rfl, by decide +kernel, by decide +kernel⟩
def spSi : Sp := fun vs H Q _ => ∃ (d : Addr) (M : Nat) (B : Int), vs = [.ref d, .int M] ∧ (M = 0 ∨ 7 ≤ M) ∧ M ≤ 100 ∧ Pen H d B ∧ B ≤ 800000000 ∧ ∀ (v : Int) (H' : Hp), v.natAbs < 10 ^ (M + 1) → KeepP d H H' → Pen H' d (B + 203) → Q (.int v) H'
theorem ok_si (A : At K mg "_law_signed" sSi ["_law_pen_here", "_law_figures"]) (B : Blt mg) (D1 : DefOk P w K mg base CX0 "_law_draw" 1 ["_law_pen_here", "_law_span"] spDraw) (D3 : DefOk P w K mg base CX0 "_law_great" 2 ["_law_pen_here", "_law_figures"] spGreat) : DefOk P w K mg base CX0 "_law_signed" 3 ["_law_pen_here", "_law_figures"] spSi := by
  refine A.ok fun f fd F => F.ok scSi (fun vs H Q E h => ?_) (fun cdv A outer s0 H vs Q E hr h => ?_)
  · obtain ⟨d, M, B, rfl, _⟩ := h
    rfl
  · obtain ⟨d, M, B0, rfl, hM0, hM, hp, hB, q⟩ := h
    have nd := scSi.nd
    refine ⟨_, C8.pss_cut (ps_set (i := 2) nd rfl (.inl rfl) (pe_ifExp (PW.pt (pw_or (pt_cmpR op_lt (pv 1) pe_int (nomark _)) (pw_or1 (pt_cmpR op_gt (pe_def D1 hr (by decide) (by rfl) pass0 (pa_cons (pv 0) (pa_cons pe_int pa_nil))) pe_int (nomark _))))) (pe_def D1 hr (by decide) (by rfl) pass0 (pa_cons (pv 0) (pa_cons pe_int pa_nil))) (pe_def D3 hr (by decide) (by rfl) pass0 (pa_cons (pv 0) (pa_cons (pv 1) pa_nil)))))
      (pss_one (ps_ret (pe_ifExp (pt_cmpR op_eq (pe_def D1 hr (by decide) (by rfl) pass0 (pa_cons (pv 0) (pa_cons pe_int pa_nil))) pe_int (nomark _)) (pv 2) (pe_un un_neg (pv 2))))), ?_⟩
    have e10 : (10 : Nat) ≤ 10 ^ (M + 1) := by
      have := Nat.pow_le_pow_right (show 0 < 10 by decide) (show 1 ≤ M + 1 by omega)
      simpa using this
    have e11 : (10 : Nat) ^ M ≤ 10 ^ (M + 1) := Nat.pow_le_pow_right (by decide) (by omega)
    refine ⟨fun σ H' => (∃ v : Int, σ = [some (.ref d), some (.int M), some (.int v)] ∧ v.natAbs < 10 ^ (M + 1)) ∧ KeepP d H H' ∧ Pen H' d (B0 + 201), ?_, ?_⟩
    · refine ⟨_, rfl, _, _, rfl, rfl, _, rfl, ite2 (fun e => ?_) (fun e7 => ?_)⟩
      · exact iteT ⟨_, rfl, d, 5, _, rfl, hp, by omega, by decide, by decide, fun x H2 x0 x1 k2 p2 => ⟨⟨x, rfl, by omega⟩, k2, p2.mono (by omega)⟩⟩
      · refine ⟨_, rfl, d, 4, _, rfl, hp, by omega, by decide, by decide, fun v H1 v0 v1 k1 p1 => ⟨_, _, rfl, rfl, _, rfl, ite2 (fun _ => ?_) (fun _ => ?_)⟩⟩
        · refine ⟨_, rfl, d, 5, _, rfl, p1, by omega, by decide, by decide, fun x H2 x0 x1 k2 p2 => ⟨⟨x, rfl, by omega⟩, k1.trans k2, p2.mono (by omega)⟩⟩
        · refine ⟨_, rfl, _, rfl, d, M, _, rfl, (by have : ¬ (M : Int) < 7 := fun z => e7 (decide_eq_true z); omega), hM, p1, by omega, fun x H2 x0 x1 k2 p2 => ⟨⟨x, rfl, ?_⟩, k1.trans k2, p2.mono (by omega)⟩⟩
          rw [ten_nc] at x1
          omega
    · rintro σ H1 ⟨⟨v, rfl, hv⟩, k1, p1⟩
      refine ⟨_, rfl, d, 2, _, rfl, p1, by omega, by decide, by decide, fun b H2 b0 b1 k2 p2 => ⟨rfl, _, rfl, ite2 (fun _ => ?_) (fun _ => ?_)⟩⟩
      · exact ⟨_, rfl, q v H2 hv (k1.trans k2) (p2.mono (by omega))⟩
      · exact ⟨_, rfl, v, rfl, q (-v) H2 (by omega) (k1.trans k2) (p2.mono (by omega))⟩
theorem scTe : FnScope ["_law_count", "_law_found", "_law_go"] ["_law_count"] (defScope sTe) := ⟨rfl, rfl, rfl, by decide +kernel, rfl, by decide +kernel, by decide +kernel⟩
def spTe : Sp := fun vs H Q _ => ∃ n : Nat, vs = [.int n] ∧ n ≤ 200 ∧ Q (.int ((10 : Int) ^ n)) H
theorem ok_te (A : At K mg "_law_tens" sTe ["_law_count"]) (B : Blt mg) : DefOk P w K mg base CX0 "_law_tens" 1 ["_law_count"] spTe := by
  refine A.ok fun f fd F => F.ok scTe (fun vs H Q E h => ?_) (fun cdv A outer s0 H vs Q E hr h => ?_)
  · obtain ⟨n, rfl, _⟩ := h
    rfl
  · obtain ⟨n, rfl, hn, q⟩ := h
    have nd := scTe.nd
    refine ⟨_, pss_cons (ps_set (i := 1) nd rfl (.inl rfl) pe_int)
      (pss_cons (ps_for PassesOwn.never rfl (pi_range1 (by rfl) B.range (pa_cons (pv 0) pa_nil)) (pg_name (i := 2) nd rfl (.inl rfl)) (pss_one (ps_set (i := 1) nd rfl (.inl rfl) (pe_op op_mul (pv 1) pe_int))))
      (pss_one (ps_ret (pv 1)))), ?_⟩
    refine ⟨_, rfl, n, rfl, by omega, by omega, for_range (lo := 0) (n := n) (fun i σ H' => (∃ y : Option V, σ = [some (.int n), some (.int ((10 : Int) ^ i)), y]) ∧ H' = H) ⟨⟨_, rfl⟩, rfl⟩ ?_ ?_⟩
    · rintro i σ H' hi ⟨⟨y, rfl⟩, rfl⟩
      dsimp only [gName, List.set]
      refine ⟨_, rfl, _, _, rfl, rfl, .inr ⟨by decide, by decide⟩, ?_⟩
      exact ⟨⟨_, by rw [Int.pow_succ]; rfl⟩, rfl⟩
    · rintro σ H' ⟨⟨y, rfl⟩, rfl⟩
      exact ⟨_, rfl, q⟩
theorem scRd : FnScope ["_law_number", "_law_unit", "_law_way", "_law_floor", "_law_left"] ["_law_number", "_law_unit", "_law_way"] (defScope sRd) := ⟨rfl, rfl, rfl, by decide +kernel, rfl, by decide +kernel, by decide +kernel⟩
def spRd : Sp := fun vs H Q _ => ∃ (n U : Int) (t : Str), vs = [.int n, .int U, .str t] ∧ 0 < U ∧ U < 1073741824 ∧ t ∈ waysL ∧ Q (.int (near n U t)) H
theorem ok_rd (A : At K mg "_law_rounded" sRd ["_law_number", "_law_unit", "_law_way"]) (B : Blt mg) : DefOk P w K mg base CX0 "_law_rounded" 1 ["_law_number", "_law_unit", "_law_way"] spRd := by
  refine A.ok fun f fd F => F.ok scRd (fun vs H Q E h => ?_) (fun cdv A outer s0 H vs Q E hr h => ?_)
  · obtain ⟨n, U, t, rfl, _⟩ := h
    rfl
  · obtain ⟨n, U, t, rfl, U0, U1, ht, q⟩ := h
    have nd := scRd.nd
    refine ⟨_, pss_cons (ps_par (i := 3) (j := 4) (by rfl) nd rfl rfl (by decide) rfl rfl (pa_cons (pe_op op_fdiv (pv 0) (pv 1)) (pa_cons (pe_op op_mod (pe_callTy call_int1 (by rfl) B.int (by decide +kernel) (pa_cons (pv 0) pa_nil)) (pv 1)) pa_nil)) (by rfl))
      (pss_cons (ps_if (PW.pt (pw_or (pt_cmpR op_eq (pv 4) pe_int (nomark _)) (pw_or1 (pt_cmpR op_eq (pv 2) pe_str (nomark _))))) (pss_one (ps_ret (pv 3))) pss_nil)
      (pss_cons (ps_if (pt_cmpR op_eq (pv 2) pe_str (nomark _)) (pss_one (ps_ret (pe_op op_add (pv 3) pe_int))) pss_nil)
      (pss_cons (ps_if (PW.pt (pw_or (pt_cmpR op_eq (pv 2) pe_str (nomark _)) (pw_or1 (pt_cmpR op_eq (pv 2) pe_str (nomark _))))) (pss_one (ps_ret (pe_op op_add (pv 3) (pe_callTy call_int1 (by rfl) B.int (by decide +kernel) (pa_cons (pe_cmpR op_eq (pe_cmpR op_lt (pv 0) pe_int (nomark _)) (pe_cmpR op_eq (pv 2) pe_str (nomark _)) (nomark _)) pa_nil))))) pss_nil)
      (pss_cons (ps_if (pt_cmpR op_ne (pe_op op_mul pe_int (pv 4)) (pv 1) (nomark _)) (pss_one (ps_ret (pe_op op_add (pv 3) (pe_callTy call_int1 (by rfl) B.int (by decide +kernel) (pa_cons (pe_cmpR op_gt (pe_op op_mul pe_int (pv 4)) (pv 1) (nomark _)) pa_nil))))) pss_nil)
      (pss_cons (ps_if (pt_cmpR op_eq (pv 2) pe_str (nomark _)) (pss_one (ps_ret (pe_op op_add (pv 3) (pe_op op_mod (pe_callTy call_int1 (by rfl) B.int (by decide +kernel) (pa_cons (pv 3) pa_nil)) pe_int)))) pss_nil)
      (pss_cons (ps_if (PW.pt (pw_or (pt_cmpR op_eq (pv 2) pe_str (nomark _)) (pw_or1 (pt_cmpR op_eq (pv 2) pe_str (nomark _))))) (pss_one (ps_ret (pe_op op_add (pv 3) (pe_callTy call_int1 (by rfl) B.int (by decide +kernel) (pa_cons (pe_cmpR op_eq (pv 2) pe_str (nomark _)) pa_nil))))) pss_nil)
      (pss_one (ps_ret (pe_op op_add (pv 3) (pe_callTy call_int1 (by rfl) B.int (by decide +kernel) (pa_cons (pe_cmpR op_eq (pe_cmpR op_lt (pv 0) pe_int (nomark _)) (pe_cmpR op_eq (pv 2) pe_str (nomark _)) (nomark _)) pa_nil))))))))))), ?_⟩
    have U2 : U ≠ 0 := by omega
    refine ⟨_, rfl, _, rfl, n, U, rfl, rfl, ⟨U0, U1⟩, _, rfl, .inl ⟨n, rfl, _, rfl, _, _, rfl, rfl, U0, _, _, rfl, ?_⟩⟩
    dsimp only [gName, List.set]
    have str : ∀ {z : Str}, decide (V.str t = V.str z) = true → t = z := fun {z} e => by simpa using e
    have nst : ∀ {z : Str}, ¬ decide (V.str t = V.str z) = true → t ≠ z := fun {z} e y => e (by rw [y]; simp)
    have dbl : ∀ a b : Bool, decide (V.bl a = V.bl b) = decide (a = b) := by decide
    have alkE : ∀ z : Str, (if decide (V.bl (decide (n < 0)) = V.bl (decide (V.str t = V.str z))) = true then (1 : Int) else 0) = alk (decide (n < 0)) (decide (t = z)) := fun z => by
      unfold alk
      rw [Own.dec_str, dbl]
    refine ⟨_, rfl, rfl, _, rfl, ite2 (fun e => ?_) (fun e => ?_)⟩
    · have r : n % U = 0 := by simpa using e
      rw [near_zero r] at q
      exact iteT ⟨_, rfl, q⟩
    have r : n % U ≠ 0 := by simpa using e
    refine ⟨_, rfl, rfl, _, rfl, ite2 (fun e => ?_) (fun e => ?_)⟩
    · have et := str e
      subst et
      rw [near_down] at q
      exact ⟨_, rfl, q⟩
    have h1 := nst e
    refine ⟨_, rfl, rfl, _, rfl, ite2 (fun e => ?_) (fun e => ?_)⟩
    · have et := str e
      subst et
      rw [near_ceil r] at q
      exact ⟨_, rfl, _, _, rfl, rfl, q⟩
    have h2 := nst e
    have side : (t = "cut" ∨ t = "away") → Q (.int (n / U + if decide (V.bl (decide (n < 0)) = V.bl (decide (V.str t = V.str "cut"))) = true then (1 : Int) else 0)) H := fun z => by
      rw [alkE, ← near_side U0 r z]
      exact q
    refine ⟨_, rfl, rfl, _, rfl, ite2 (fun e => iteT ?_) (fun e => ?_)⟩
    · exact ⟨_, rfl, _, rfl, _, _, rfl, rfl, _, rfl, rfl, rfl, .inr ⟨_, rfl, _, _, rfl, rfl, side (.inl (str e))⟩⟩
    have h3 := nst e
    refine ⟨_, rfl, rfl, _, rfl, ite2 (fun e => ?_) (fun e => ?_)⟩
    · exact ⟨_, rfl, _, rfl, _, _, rfl, rfl, _, rfl, rfl, rfl, .inr ⟨_, rfl, _, _, rfl, rfl, side (.inr (str e))⟩⟩
    have h4 := nst e
    have h34 : ¬ (t = "cut" ∨ t = "away") := fun z => z.elim h3 h4
    clear side
    refine ⟨_, rfl, _, _, rfl, rfl, .inl ⟨by decide, by decide⟩, _, rfl, rfl, _, rfl, ite2 (fun e => ?_) (fun e => ?_)⟩
    · have p : 2 * (n % U) ≠ U := by simpa using e
      rw [near_off r ht h1 h2 h34 p] at q
      exact ⟨_, rfl, _, rfl, _, _, rfl, rfl, .inl ⟨by decide, by decide⟩, _, rfl, _, _, rfl, rfl, .inr ⟨_, rfl, _, _, rfl, rfl, q⟩⟩
    have p : 2 * (n % U) = U := by simpa using e
    refine ⟨_, rfl, rfl, _, rfl, ite2 (fun e => ?_) (fun e => ?_)⟩
    · have et := str e
      subst et
      rw [near_even r p] at q
      exact ⟨_, rfl, _, rfl, .inl ⟨_, rfl, _, _, rfl, rfl, (show (0 : Int) < 2 by decide), _, _, rfl, rfl, q⟩⟩
    have h5 := nst e
    have upd : (t = "halfup" ∨ t = "halfdown") → Q (.int (n / U + if decide (V.str t = V.str "halfup") = true then (1 : Int) else 0)) H := fun z => by
      rw [Own.dec_str, ← near_updn r p z]
      exact q
    refine ⟨_, rfl, rfl, _, rfl, ite2 (fun e => iteT ?_) (fun e => ?_)⟩
    · exact ⟨_, rfl, _, rfl, rfl, .inr ⟨_, rfl, _, _, rfl, rfl, upd (.inl (str e))⟩⟩
    have h6 := nst e
    refine ⟨_, rfl, rfl, _, rfl, ite2 (fun e => ?_) (fun e => ?_)⟩
    · exact ⟨_, rfl, _, rfl, rfl, .inr ⟨_, rfl, _, _, rfl, rfl, upd (.inr (str e))⟩⟩
    have h7 := nst e
    have l2 := last_two ht h1 h2 h34 h5 (fun z => z.elim h6 h7)
    refine ⟨_, rfl, _, rfl, _, _, rfl, rfl, _, rfl, rfl, rfl, .inr ⟨_, rfl, _, _, rfl, rfl, ?_⟩⟩
    show Q (.int (n / U + if decide (V.bl (decide (n < 0)) = V.bl (decide (V.str t = V.str "halfcut"))) = true then (1 : Int) else 0)) H
    rw [alkE, ← near_tied U0 r p l2]
    exact q
theorem scOw : FnScope ["_law_units_here", "_law_scale", "_law_go"] ["_law_units_here", "_law_scale"] (defScope sOw) := ⟨rfl, rfl, rfl, by decide +kernel, rfl, by decide +kernel, by decide +kernel⟩
def spOw : Sp := fun vs H Q _ => ∃ (v : Int) (n : Nat), vs = [.int v, .int n] ∧ n ≤ 200 ∧ ∀ (u : Int) (s : Nat) (r : Addr), IsLow v n u s → H r = none → Q (.ref r) (upd H r (.tup [.int u, .int s]))
theorem ok_ow (A : At K mg "_law_own" sOw ["_law_units_here", "_law_scale"]) (B : Blt mg) : DefOk P w K mg base CX0 "_law_own" 1 ["_law_units_here", "_law_scale"] spOw := by
  refine A.ok fun f fd F => F.ok scOw (fun vs H Q E h => ?_) (fun cdv A outer s0 H vs Q E hr h => ?_)
  · obtain ⟨v, n, rfl, _⟩ := h
    rfl
  · obtain ⟨v, n, rfl, hn, q⟩ := h
    have nd := scOw.nd
    refine ⟨_, pss_cons (ps_for PassesOwn.never rfl (pi_range1 (by rfl) B.range (pa_cons (pv 1) pa_nil)) (pg_name (i := 2) nd rfl (.inl rfl)) (pss_one (ps_if (pt_cmpR op_eq (pe_op op_mod (pe_callTy call_int1 (by rfl) B.int (by decide +kernel) (pa_cons (pv 0) pa_nil)) pe_int) pe_int (nomark _)) (pss_one (ps_par (i := 0) (j := 1) (by rfl) nd rfl rfl (by decide) rfl rfl (pa_cons (pe_op op_fdiv (pv 0) pe_int) (pa_cons (pe_op op_sub (pv 1) pe_int) pa_nil)) (by rfl))) pss_nil)))
      (pss_one (ps_ret (pe_tup (pa_cons (pv 0) (pa_cons (pv 1) pa_nil))))), ?_⟩
    refine ⟨_, rfl, n, rfl, by omega, by omega, for_range (lo := 0) (n := n) (fun i σ H' => (∃ (u : Int) (s : Nat) (y : Option V), σ = [some (.int u), some (.int s), y] ∧ s ≤ n ∧ v = u * (10 : Int) ^ (n - s) ∧ (s = n - i ∨ u % 10 ≠ 0)) ∧ H' = H) ⟨⟨v, n, none, rfl, Nat.le_refl _, by simp, .inl rfl⟩, rfl⟩ ?_ ?_⟩
    · rintro i σ H' hi ⟨⟨u, s, y, rfl, hs, ev, od⟩, rfl⟩
      dsimp only [gName, List.set]
      refine ⟨_, rfl, .inl ⟨u, rfl, _, _, rfl, rfl, (show (0 : Int) < 10 by decide), rfl, _, rfl, ite2 (fun e => ?_) (fun e => ?_)⟩⟩
      · have z : u % 10 = 0 := by simpa using e
        have s0 : s = n - i := od.resolve_right (fun y => y z)
        refine ⟨_, rfl, _, _, rfl, rfl, ⟨by decide, by decide⟩, _, rfl, _, _, rfl, rfl, _, _, rfl, ?_⟩
        dsimp only [gName, List.set]
        have e2 : (s : Int) - 1 = ((s - 1 : Nat) : Int) := by omega
        rw [e2]
        refine ⟨⟨u / 10, s - 1, _, rfl, by omega, ?_, .inl (by omega)⟩, rfl⟩
        rw [ev, show n - (s - 1) = (n - s) + 1 by omega, Int.pow_succ, Int.mul_comm ((10 : Int) ^ (n - s)) 10, ← Int.mul_assoc]
        congr 1
        omega
      · have z : u % 10 ≠ 0 := by simpa using e
        exact ⟨⟨u, s, _, rfl, hs, ev, .inr z⟩, rfl⟩
    · rintro σ H' ⟨⟨u, s, y, rfl, hs, ev, od⟩, rfl⟩
      exact ⟨_, rfl, _, rfl, by show 2 ≤ sizeLine; decide, fun r nr => q u s r ⟨hs, ev, od.elim (fun z => .inl (by omega)) .inr⟩ nr⟩
theorem scSm : FnScope ["_law_worth", "_law_units_here", "_law_scale"] ["_law_worth", "_law_units_here", "_law_scale"] (defScope sSm) := ⟨rfl, rfl, rfl, by decide +kernel, rfl, by decide +kernel, by decide +kernel⟩
theorem dp_two {K : PySem.W.Frag} {H : Hp} {a : Addr} {u v : Int} (e : H a = some (.tup [.int u, .int v])) : Dp K H (.ref a) (.tuple [.int u, .int v]) := .tup (SqT.of e) (.cons (.int u) (.cons (.int v) .nil))
theorem sh_two (u v : Int) : SeqAt.shaped (.tuple [.int u, .int v]) = true := by
  unfold SeqAt.shaped
  simp [PyData.canLay0, PyData.canLayAll0, PyData.depth, PyData.depthAll]
def spSm (W : Addr) : Sp := fun vs H Q _ => ∃ (p : Addr) (u v : Int) (s n : Nat), vs = [.ref p, .int v, .int n] ∧ WAt W H p u s ∧ IsLow v n u s ∧ n ≤ 200 ∧ ∀ H', Same H H' → Q (.bl true) H'
theorem ok_sm (A : At K mg "_law_same" sSm ["_law_worth", "_law_units_here", "_law_scale"]) (B : Blt mg) (T : WorthC K mg W) (I : WIs K W) (D8 : DefOk P w K mg base CX0 "_law_own" 1 ["_law_units_here", "_law_scale"] spOw) : DefOk P w K mg base CX0 "_law_same" 2 ["_law_worth", "_law_units_here", "_law_scale"] (spSm W) := by
  refine A.ok fun f fd F => F.ok scSm (fun vs H Q E h => ?_) (fun cdv A outer s0 H vs Q E hr h => ?_)
  · obtain ⟨p, u, v, s, n, rfl, _⟩ := h
    rfl
  · obtain ⟨p, u, v, s, n, rfl, wp, lw, hn, q⟩ := h
    refine ⟨_, pss_cons (ps_if (PW.pt (pw_or (pt_not (pt_val (pe_callB call_isi (by rfl) B.isi (by decide +kernel) (pa_cons (pv 0) (pa_cons (pe_glob (v := .ref W) (by rfl) T.g rfl) pa_nil))))) (pw_or1 (pt_val (pe_callB call_isi (by rfl) B.isi (by decide +kernel) (pa_cons (pe_fld (pv 0) (by rfl)) (pa_cons (pe_bltn (v := .ty "bool") (by rfl) B.bool (by decide +kernel) rfl) pa_nil))))))) (pss_one (ps_ret pe_bl)) pss_nil)
      (pss_one (ps_ret (pe_cmpR (op_eqD hr.units) (pe_tup (pa_cons (pe_fld (pv 0) (by rfl)) (pa_cons (pe_fld (pv 0) (by rfl)) pa_nil))) (pe_def D8 hr (by decide) (by rfl) pass0 (pa_cons (pv 1) (pa_cons (pv 2) pa_nil))) (nomark _)))), ?_⟩
    obtain ⟨dx, ea⟩ := id wp
    refine ⟨_, rfl, _, _, _, _, true, rfl, .own W, .base (.ins ea T.cls I.ha I.hn I.ht I.hm), by unfold PySem.W.kitOne; rw [if_pos (by simp)], _, rfl, iteF ?_⟩
    refine ⟨_, rfl, p, W, dx, _, .int u, rfl, ea, T.cls, T.nu, lk_u _ _, _, _, _, _, false, rfl, .ty _, .base (.int u), kit_ty (show kitB "int" "bool" = some false by decide +kernel), _, rfl, iteF ?_⟩
    refine ⟨_, rfl, p, W, dx, _, .int u, rfl, ea, T.cls, T.nu, lk_u _ _, _, rfl, p, W, dx, _, .int s, rfl, ea, T.cls, T.ns, lk_s _ _, by show 2 ≤ sizeLine; decide, fun a na => ?_⟩
    have s1 := same_new (o := HO.tup [.int u, .int s]) na
    have e1 : upd H a (.tup [.int u, .int s]) a = some (.tup [.int u, .int s]) := upd_same
    generalize upd H a (.tup [.int u, .int s]) = H1 at s1 e1 ⊢
    refine ⟨_, rfl, _, rfl, v, n, rfl, hn, fun u2 s2 r l2 nr => ?_⟩
    obtain ⟨rfl, rfl⟩ := low_eq lw l2
    have s2 := same_new (o := HO.tup [.int u, .int s]) nr
    refine ⟨_, _, dp_two (s2 _ _ e1), dp_two upd_same, sh_two _ _, sh_two _ _, ?_⟩
    rw [SeqAt.eqv_refl _ (SeqAt.canLay_of_shaped (sh_two _ _))]
    exact q _ (s1.trans s2)
end
end K50

/-! k50: units, many, small_right. -/
namespace K50
open PySem PySem.Spec PyProof.Rows L2 LamX NdefX Own
section
variable {P : Program} {w : World} {K : PySem.W.Frag} {mg : Str → Option Value} {base : Heap} {C W En : Addr}
theorem scUn : FnScope ["_law_pen_here", "_law_unit", "_law_figures", "_law_floor", "_law_path", "_law_half", "_law_part"] ["_law_pen_here", "_law_unit", "_law_figures"] (defScope sUn) := ⟨rfl, rfl, rfl, by decide +kernel, rfl, by decide +kernel, by decide +kernel⟩
def spUt : Sp := fun vs H Q _ => ∃ (d : Addr) (U : Int) (M : Nat) (B : Int), vs = [.ref d, .int U, .int M] ∧ (M = 0 ∨ 7 ≤ M) ∧ M ≤ 28 ∧ 0 < U ∧ U ≤ 1000 ∧ Pen H d B ∧ B ≤ 700000000 ∧ ∀ (v : Int) (H' : Hp), v.natAbs < 2 ^ 150 → KeepP d H H' → Pen H' d (B + 206) → Q (.int v) H'
theorem ok_un (A : At K mg "_law_units" sUn ["_law_pen_here", "_law_unit", "_law_figures"]) (B : Blt mg) (D1 : DefOk P w K mg base CX0 "_law_draw" 1 ["_law_pen_here", "_law_span"] spDraw) (D4 : DefOk P w K mg base CX0 "_law_signed" 3 ["_law_pen_here", "_law_figures"] spSi) : DefOk P w K mg base CX0 "_law_units" 4 ["_law_pen_here", "_law_unit", "_law_figures"] spUt := by
  refine A.ok fun f fd F => F.ok scUn (fun vs H Q E h => ?_) (fun cdv A outer s0 H vs Q E hr h => ?_)
  · obtain ⟨d, U, M, B, rfl, _⟩ := h
    rfl
  · obtain ⟨d, U, M, B0, rfl, hM0, hM, U0, U1, hp, hB, q⟩ := h
    have nd := scUn.nd
    refine ⟨_, pss_cons (ps_par (i := 3) (j := 4) (by rfl) nd rfl rfl (by decide) rfl rfl (pa_cons (pe_op op_mul (pe_def D4 hr (by decide) (by rfl) pass0 (pa_cons (pv 0) (pa_cons (pv 2) pa_nil))) (pv 1)) (pa_cons (pe_def D1 hr (by decide) (by rfl) pass0 (pa_cons (pv 0) (pa_cons pe_int pa_nil))) pa_nil)) (by rfl))
      (pss_cons (ps_set (i := 5) nd rfl (.inl rfl) (pe_op op_fdiv (pv 1) pe_int))
      (pss_cons (ps_if (pt_cmpR op_eq (pv 4) pe_int (nomark _)) (pss_one (ps_ret (pe_op op_add (pv 3) (pe_def D1 hr (by decide) (by rfl) pass0 (pa_cons (pv 0) (pa_cons (pv 1) pa_nil)))))) pss_nil)
      (pss_cons (ps_set (i := 6) nd rfl (.inl rfl) (pe_ix ix_list (pe_lst (pa_cons pe_int (pa_cons (pv 5) (pa_cons (pv 5) (pa_cons (pv 5) (pa_cons (pe_op op_sub (pv 5) (pe_callTy call_int1 (by rfl) B.int (by decide +kernel) (pa_cons (pe_cmpR op_gt (pv 1) pe_int (nomark _)) pa_nil))) (pa_cons (pe_callB (call_min2 rfl) (by rfl) B.min (by decide +kernel) (pa_cons (pe_op op_add (pv 5) pe_int) (pa_cons (pe_op op_sub (pv 1) pe_int) pa_nil))) (pa_cons (pe_op op_sub (pv 1) pe_int) (pa_cons (pe_callB (call_min2 rfl) (by rfl) B.min (by decide +kernel) (pa_cons pe_int (pa_cons (pe_op op_sub (pv 1) pe_int) pa_nil))) pa_nil))))))))) (pv 4) (fun _ _ => rfl)))
      (pss_one (ps_ret (pe_op op_add (pv 3) (pv 6))))))), ?_⟩
    refine ⟨_, rfl, _, rfl, d, M, B0, rfl, hM0, by omega, hp, by omega, fun v H1 bv k1 p1 => ⟨_, rfl, _, _, rfl, rfl, .inr ⟨by omega, by omega⟩, ?_⟩⟩
    refine ⟨_, rfl, d, 9, _, rfl, p1, by omega, by decide, by decide, fun j H2 j0 j1 k2 p2 => ⟨_, _, rfl, ?_⟩⟩
    dsimp only [gName, List.set]
    have k12 := k1.trans k2
    have bvU : (v * U).natAbs < 2 ^ 149 := by
      have e1 : v.natAbs < 10 ^ 29 := Nat.lt_of_lt_of_le bv (Nat.pow_le_pow_right (by decide) (by omega))
      rw [Int.natAbs_mul]
      have e2 : v.natAbs * U.natAbs ≤ 10 ^ 29 * 1000 := Nat.mul_le_mul (by omega) (by omega)
      have e3 : 10 ^ 29 * 1000 < 2 ^ 149 := by decide +kernel
      omega
    have fin : ∀ (x : Int), x.natAbs ≤ 2000 → (v * U + x).natAbs < 2 ^ 150 := fun x hx => by
      have e : (2 : Nat) ^ 150 = 2 ^ 149 * 2 := Nat.pow_succ ..
      have e2 : (2000 : Nat) ≤ 2 ^ 149 := by decide +kernel
      omega
    refine ⟨_, rfl, _, _, rfl, rfl, ⟨by decide, by decide⟩, ?_⟩
    dsimp only [gName, List.set]
    refine ⟨_, rfl, rfl, _, rfl, ite2 (fun _ => ?_) (fun e => ?_)⟩
    · exact ⟨_, rfl, _, rfl, _, rfl, d, U, _, rfl, p2, by omega, U0, by omega, fun x H3 x0 x1 k3 p3 => ⟨_, _, rfl, rfl, q _ H3 (fin x (by omega)) (k12.trans k3) (p3.mono (by omega))⟩⟩
    · have j8 : j ≠ 8 := by simpa using e
      obtain ⟨i, rfl⟩ : ∃ i : Nat, j = (i : Int) := ⟨j.toNat, (Int.toNat_of_nonneg j0).symm⟩
      have ex : ∃ x : Int, ([V.int 0, V.int (U / 2), V.int (U / 2), V.int (U / 2), V.int (U / 2 - if decide (U > 2) = true then 1 else 0), V.int (if U - 1 < U / 2 + 1 then U - 1 else U / 2 + 1), V.int (U - 1), V.int (if U - 1 < 1 then U - 1 else 1)] : List V)[i]? = some (.int x) ∧ x.natAbs ≤ 2000 := by
        have hi : i = 0 ∨ i = 1 ∨ i = 2 ∨ i = 3 ∨ i = 4 ∨ i = 5 ∨ i = 6 ∨ i = 7 := by omega
        rcases hi with rfl | rfl | rfl | rfl | rfl | rfl | rfl | rfl
        · exact ⟨_, rfl, by decide⟩
        · exact ⟨_, rfl, by omega⟩
        · exact ⟨_, rfl, by omega⟩
        · exact ⟨_, rfl, by omega⟩
        · exact ⟨_, rfl, by split <;> omega⟩
        · exact ⟨_, rfl, by split <;> omega⟩
        · exact ⟨_, rfl, by omega⟩
        · exact ⟨_, rfl, by split <;> omega⟩
      obtain ⟨x, hx, bx⟩ := ex
      refine ⟨_, rfl, _, rfl, _, rfl, _, rfl, _, rfl, _, _, rfl, rfl, .inr ⟨_, rfl, _, _, rfl, rfl, _, rfl, _, _, rfl, rfl, _, rfl, _, _, rfl, rfl, _, _, rfl, _, rfl, _, _, rfl, rfl, _, rfl, _, _, rfl, rfl, _, _, rfl, by show 8 ≤ sizeLine; decide, fun p np => ?_⟩⟩
      refine ⟨_, rfl, p, _, _, .int x, rfl, rfl, SqL.of upd_same, atI_nat hx, ?_⟩
      dsimp only [gName, List.set]
      refine ⟨_, rfl, _, rfl, _, _, rfl, rfl, q _ _ (fin x bx) (k12.trans (KeepG.new np)) ((p2.same (same_new np)).mono (by omega))⟩
end
end K50

/-! k50: the law: loose entries, the greatest running total. -/
namespace K50
open PySem PySem.Spec PyProof.Rows L2 LamX NdefX Own
def kOf (H : Hp) : V → Int × Int
  | .ref t => match H t with
    | some (.tup [.int i, .int j]) => (i, j)
    | _ => (0, 0)
  | _ => (0, 0)
theorem kOf_row {H : Hp} {r : V} {e : Int × Int} (h : RowI H r e) : kOf H r = e ∧ ∃ t, r = .ref t ∧ H t = some (.tup [.int (kOf H r).1, .int (kOf H r).2]) := by
  obtain ⟨a, rfl, ea⟩ := h
  have k : kOf H (.ref a) = e := by
    unfold kOf
    dsimp only
    rw [ea]
  rw [k]
  exact ⟨rfl, a, rfl, ea⟩
theorem ents_mem {R : V → Int × Nat → Prop} : ∀ {xs : List V} {es : List (Int × Nat)}, Ents R xs es → ∀ {x : V}, x ∈ xs → ∃ e ∈ es, R x e
  | _, _, .nil, _, h => by cases h
  | _, _, .cons r t, x, h => by
    rcases List.mem_cons.mp h with rfl | h
    · exact ⟨_, List.mem_cons_self, r⟩
    · obtain ⟨e, he, z⟩ := ents_mem t h
      exact ⟨e, List.mem_cons_of_mem _ he, z⟩
theorem rm_abs {dn : Bool} {U x : Int} {t : Str} (hI : inL dn U x = true) : (if vlE U t x < 0 then -vlE U t x else vlE U t x) = rmE dn U t x := by
  unfold rmE
  rw [if_pos hI]
  have two := near_two (x := x) (U := U) (t := t)
  cases dn with
  | true =>
    rw [inL_pos] at hI
    have f := of_decide_eq_true hI
    have h0 : vlE U t x ≤ 0 := by
      unfold vlE
      split <;> omega
    by_cases z : vlE U t x < 0
    · rw [if_pos z]
      rfl
    · rw [if_neg z]
      show vlE U t x = -vlE U t x
      omega
  | false =>
    rw [inL_neg] at hI
    have f := of_decide_eq_true hI
    have h0 : 0 ≤ vlE U t x := by
      unfold vlE
      split <;> omega
    rw [if_neg (show ¬ vlE U t x < 0 by omega)]
    rfl
theorem ents_map {R : V → Int × Nat → Prop} {f : V → Int × Nat} (h : ∀ x e, R x e → f x = e) : ∀ {xs : List V} {es : List (Int × Nat)}, Ents R xs es → xs.map f = es
  | _, _, .nil => rfl
  | _, _, .cons r t => by rw [List.map_cons, h _ _ r, ents_map h t]
theorem wsum_snoc (f : Int → Int) (es : List (Int × Nat)) (e : Int × Nat) : wsum f (es ++ [e]) = wsum f es + f e.1 * e.2 := by
  rw [wsum_app]
  show _ + (f e.1 * (e.2 : Int) + 0) = _
  omega
theorem cs_snoc {dn : Bool} {U : Int} {t : Str} (es : List (Int × Nat)) (e : Int × Nat) : csOf dn U t (es ++ [e]) = csOf dn U t es ++ (if csC dn U t e.1 = true then [(szE dn U e.1, e.2)] else []) := by
  unfold csOf
  rw [List.filter_append, List.map_append, List.filter_cons]
  split <;> rfl
theorem dec_bl (a b : Bool) : decide (V.bl a = V.bl b) = decide (a = b) := by simp
/-- a list of rows -/
structure RwL (H : Hp) (l : Addr) (es : List (Int × Nat)) : Prop where
  ex : ∃ xs, H l = some (.lst xs) ∧ Ents (RowN H) xs es
  len : es.length ≤ 1000
  bd : ∀ e ∈ es, e.1.natAbs < 2 ^ 300 ∧ e.2 < 2 ^ 300
theorem RwL.same {H H' : Hp} {l : Addr} {es : List (Int × Nat)} (h : RwL H l es) (s : Same H H') : RwL H' l es := by
  obtain ⟨xs, e1, e2⟩ := h.ex
  exact ⟨⟨xs, s _ _ e1, e2.mono fun _ _ z => RowI.same z s⟩, h.len, h.bd⟩
section
variable {P : Program} {w : World} {K : PySem.W.Frag} {mg : Str → Option Value} {base : Heap} {C CB W En Pm : Addr} {Ls : List (Addr × Str)}
end
end K50

/-! k50: tally_range. -/
namespace K50
open PySem PySem.Spec PyProof.Rows L2 LamX NdefX Own
abbrev pTr : Stmt := topS 36
/-- a pair of new worths -/
def TwoW (W : Addr) (H : Hp) (r : Addr) (lo hi : Int) (n : Nat) : Prop := ∃ (p1 p2 : Addr) (u1 u2 : Int) (s1 s2 : Nat), H r = some (.tup [.ref p1, .ref p2]) ∧ WAt W H p1 u1 s1 ∧ IsLow lo n u1 s1 ∧ WAt W H p2 u2 s2 ∧ IsLow hi n u2 s2
section
variable {P : Program} {w : World} {K : PySem.W.Frag} {mg : Str → Option Value} {base : Heap} {C CB W En Pm : Addr} {Ls : List (Addr × Str)}
theorem scTr : FnScope ["entries", "scale", "way", "least", "greatest"] ["entries", "scale", "way"] (defScope pTr) := ⟨rfl, rfl, rfl, by decide +kernel, rfl, by decide +kernel, by decide +kernel⟩
def spTr (C CB W Pm : Addr) (Ls : List (Addr × Str)) : Sp := fun vs H Q E => ∃ (l : Addr) (x y : V) (pre post : List V) (es : List (Int × Nat)) (m : Nat), vs = [.ref l, x, y] ∧ H l = some (.lst (pre ++ post)) ∧ Ents (ItemAt W m H) pre es ∧ Thing H x ∧ Thing H y ∧ m ≤ 200 ∧ es.length ≤ 1000 ∧ (∀ e ∈ es, e.1.natAbs < 2 ^ 300 ∧ e.2 < 2 ^ 300) ∧ Tabs (TT Pm Ls) H ∧
  ((∃ (v : V) (rest : List V), post = v :: rest ∧ BadItem W H v ∧ Bad CB "index" (.int (pre.length : Nat)) H E) ∨ (post = [] ∧ (isWh x = false → Bad C "value" x H E) ∧ (isWh x = true → isWay y = false → Bad C "value" y H E) ∧ ∀ (n : Nat) (t : Str), x = .int n → y = .str t → t ∈ waysL → n ≤ m ∧
    ∀ (r : Addr) (lo hi : Int) (H' : Hp), Own.Ends ((10 : Int) ^ (m - n)) t es lo hi → ExtN H H' → Tabs (TT Pm Ls) H' → TwoW W H' r lo hi n → Q (.ref r) H'))
theorem ok_tr (A : At K mg "tally_range" pTr ["entries", "scale", "way"]) (T : WorthC K mg W) (M : WMk P w K mg base C W) (DN : DefOk P w K mg base (L2.CX P w) "need_entries" 4 ["entries", "scale", "way"] (spNE2 C CB W)) (DR : DefOk P w K mg base (L2.CX P w) "_range_of" 19 ["pairs", "scale", "way"] (spRo W Pm Ls)) :
    DefOk P w K mg base (L2.CX P w) "tally_range" 20 ["entries", "scale", "way"] (spTr C CB W Pm Ls) := by
  refine A.ok fun f fd F => F.okX scTr (fun vs H Q E h => ?_) (fun cdv A outer s0 H vs Q E hr h => ?_)
  · obtain ⟨l, x, y, pre, post, es, m, rfl, _⟩ := h
    rfl
  · obtain ⟨l, sx, sy, pre, post, es, m, rfl, hl, hE, tx, ty, hm, hlen, hb, hT, h⟩ := h
    have nd := scTr.nd
    refine ⟨_, pss_cons (ps_expr (pe_def (E := E) DN hr (by decide) (by rfl) (passes_call (takes_of rfl rfl rfl rfl) fun _ _ _ _ z => z) (pa_cons (pv 0) (pa_cons (pv 1) (pa_cons (pv 2) pa_nil)))))
      (pss_cons (ps_asg (pe_def (E := E) DR hr (by decide) (by rfl) (passes_call (takes_of rfl rfl rfl rfl) fun _ _ _ _ z => z) (pa_cons (pv 0) (pa_cons (pv 1) (pa_cons (pv 2) pa_nil)))) (pg_tup rfl (pgs_cons (pg_name (i := 3) nd rfl (.inl rfl)) (pgs_cons (pg_name (i := 4) nd rfl (.inl rfl)) pgs_nil))))
      (pss_one (ps_ret (pe_tup (pa_cons (pe_worth (C := C) (E := E) M T hr (by decide) (by rfl) (passes_call (takes_of rfl rfl rfl rfl) fun _ _ _ _ z => z) (pa_cons (pv 3) (pa_cons (pv 1) pa_nil))) (pa_cons (pe_worth (C := C) (E := E) M T hr (by decide) (by rfl) (passes_call (takes_of rfl rfl rfl rfl) fun _ _ _ _ z => z) (pa_cons (pv 4) (pa_cons (pv 1) pa_nil))) pa_nil)))))), ?_⟩
    refine ⟨_, rfl, _, rfl, _, rfl, l, sx, sy, pre, post, es, m, rfl, hl, hE, tx, ty, ?_⟩
    rcases h with ⟨v, rest, rfl, bi, bad⟩ | ⟨rfl, q1, q2, q3⟩
    · exact .inl ⟨v, rest, rfl, bi, bad⟩
    refine .inr ⟨rfl, q1, q2, fun hx hy H1 s1 => ?_⟩
    rw [List.append_nil] at hl
    obtain ⟨n, rfl⟩ := isWh_nat hx
    obtain ⟨t, ht, rfl⟩ := isWay_str hy
    obtain ⟨hn, q⟩ := q3 n t rfl rfl ht
    refine ⟨_, rfl, _, rfl, _, rfl, l, pre, es, n, m, t, rfl, s1 _ _ hl, hE.mono fun _ _ z => z.same s1, hn, hm, hlen, hb, ht, hT.ext s1, fun r lo hi H2 he x2 T2 er => ?_⟩
    refine ⟨r, _, rfl, SqT.of er, rfl, _, _, rfl, _, _, rfl, rfl, ?_⟩
    dsimp only [gName, List.set]
    refine ⟨_, rfl, _, rfl, ?_⟩
    dsimp only [tNil]
    rw [List.append_nil]
    refine worth_of (C := C) (n := n) (by omega) fun u1 c1 p1 H3 lw1 s3 _ wp1 => ?_
    refine ⟨_, rfl, _, rfl, ?_⟩
    dsimp only [tNil]
    rw [List.append_nil]
    refine worth_of (C := C) (n := n) (by omega) fun u2 c2 p2 H4 lw2 s4 _ wp2 => ?_
    refine ⟨by show 2 ≤ sizeLine; decide, fun z nz => ?_⟩
    have s5 := same_new (o := HO.tup [.ref p1, .ref p2]) nz
    have S35 := s3.trans (s4.trans s5)
    exact q z lo hi _ he (((ExtN.same s1).trans x2).trans (ExtN.same S35)) (T2.ext S35) ⟨p1, p2, u1, u2, c1, c2, upd_same, wp1.same (s4.trans s5), lw1, wp2.same s5, lw2⟩
end
end K50

/-! k50: the total behind an entry; running totals. -/
namespace Own
open PySem PySem.Spec PyProof.Rows L2 LamX NdefX
theorem addS_nat {F a : Int} {t : Str} : (addS F t a).natAbs ≤ F.natAbs + 1 := by
  unfold addS
  split <;> omega
theorem min_if2 (a b : Int) : (if b < a then b else a) = min a b := by
  by_cases h : b < a
  · rw [if_pos h]
    omega
  · rw [if_neg h]
    omega
end Own
namespace K50
open PySem PySem.Spec PyProof.Rows L2 LamX NdefX Own
abbrev pTB : Stmt := topS 33
abbrev pTS : Stmt := topS 34
section
variable {P : Program} {w : World} {K : PySem.W.Frag} {mg : Str → Option Value} {base : Heap} {C W En : Addr}
theorem scTS : FnScope ["ahead", "added", "times"] ["ahead", "added", "times"] (defScope pTS) := ⟨rfl, rfl, rfl, by decide +kernel, rfl, by decide +kernel, by decide +kernel⟩
def spTS : Sp := fun vs H Q _ => ∃ a b k : Int, vs = [.int a, .int b, .int k] ∧ a.natAbs < 2 ^ 3000 ∧ b.natAbs < 2 ^ 3000 ∧ Q (.int (sideN a b k)) H
theorem ok_tS (A : At K mg "_times_on_side" pTS ["ahead", "added", "times"]) : DefOk P w K mg base CX0 "_times_on_side" 1 ["ahead", "added", "times"] spTS := by
  refine A.ok fun f fd F => F.ok scTS (fun vs H Q E h => ?_) (fun cdv A outer s0 H vs Q E hr h => ?_)
  · obtain ⟨a, b, k, rfl, _⟩ := h
    rfl
  · obtain ⟨a, b, k, rfl, ba, bb, q⟩ := h
    refine ⟨_, pss_cons (ps_if (pt_cmpR op_ge (pv 0) pe_int (nomark _)) (pss_one (ps_ret (pe_ifExp (pt_cmpR op_ge (pv 1) pe_int (nomark _)) (pv 2) (pe_op op_add (pe_op op_fdivW (pv 0) (pe_un un_neg (pv 1))) pe_int)))) pss_nil)
      (pss_one (ps_ret (pe_ifExp (pt_cmpR op_le (pv 1) pe_int (nomark _)) (pv 2) (pe_op op_fdivW (pe_op op_sub (pe_op op_sub (pv 1) pe_int) (pv 0)) (pv 1))))), ?_⟩
    unfold sideN at q
    refine ⟨_, rfl, _, _, rfl, rfl, _, rfl, ite2 (fun e => ?_) (fun e => ?_)⟩
    · rw [if_pos (show 0 ≤ a from of_decide_eq_true e)] at q
      refine ⟨_, rfl, _, _, rfl, rfl, _, rfl, ite2 (fun e2 => ?_) (fun e2 => ?_)⟩
      · rw [if_pos (show 0 ≤ b from of_decide_eq_true e2)] at q
        exact ⟨_, rfl, q⟩
      · have z : ¬ 0 ≤ b := fun y => e2 (decide_eq_true y)
        rw [if_neg z] at q
        exact ⟨_, rfl, _, rfl, b, rfl, _, _, rfl, rfl, wide_div (b := 3000) (by omega) (by omega) (by decide) (by decide), _, _, rfl, rfl, q⟩
    · have z0 : ¬ 0 ≤ a := fun y => e (decide_eq_true y)
      rw [if_neg z0] at q
      refine ⟨_, rfl, _, _, rfl, rfl, _, rfl, ite2 (fun e2 => ?_) (fun e2 => ?_)⟩
      · rw [if_pos (show b ≤ 0 from of_decide_eq_true e2)] at q
        exact ⟨_, rfl, q⟩
      · have z : ¬ b ≤ 0 := fun y => e2 (decide_eq_true y)
        rw [if_neg z] at q
        exact ⟨_, rfl, _, _, rfl, rfl, _, rfl, _, _, rfl, rfl, _, rfl, _, _, rfl, rfl, wide_div (b := 3000) (by omega) bb (by decide) (by decide), q⟩
theorem scTB : FnScope ["units", "entry", "way", "first", "times", "ahead", "is_above", "added", "many"] ["units", "entry", "way"] (defScope pTB) := ⟨rfl, rfl, rfl, by decide +kernel, rfl, by decide +kernel, by decide +kernel⟩
/-- the units behind so many of an entry -/
def spTB (En : Addr) : Sp := fun vs H Q _ => ∃ (s : Int) (a : Addr) (x : Int) (k p : Nat) (t : Str), vs = [.int s, .ref a, .str t] ∧ EnAt En H a (k : Nat) x p t ∧ p ≤ 200 ∧ s.natAbs < 2 ^ 1000 ∧ x.natAbs < 2 ^ 300 ∧ k < 2 ^ 300 ∧ t ∈ waysL ∧ ∀ H', Same H H' → Q (.int (run ((10 : Int) ^ p) x t k s)) H'
theorem ok_tB (A : At K mg "total_behind" pTB ["units", "entry", "way"]) (B : Blt mg) (TE : EntryC K mg En) (DS : DefOk P w K mg base CX0 "_times_on_side" 1 ["ahead", "added", "times"] spTS) : DefOk P w K mg base CX0 "total_behind" 2 ["units", "entry", "way"] (spTB En) := by
  refine A.ok fun f fd F => F.ok scTB (fun vs H Q E h => ?_) (fun cdv A outer s0 H vs Q E hr h => ?_)
  · obtain ⟨s, a, x, k, p, t, rfl, _⟩ := h
    rfl
  · obtain ⟨s, a, x, k, p, t, rfl, ⟨dx, ea⟩, hp, bs, bx, bk, ht, q⟩ := h
    have nd := scTB.nd
    refine ⟨_, pss_cons (ps_if (PW.pt (pw_or (pt_cmpR op_eq (pe_fld (pv 1) (by rfl)) pe_int (nomark _)) (pw_or1 (pt_not (pt_val (pe_fld (pv 1) (by rfl))))))) (pss_one (ps_ret (pe_op op_add (pv 0) (pe_op op_mulW (pe_fld (pv 1) (by rfl)) (pe_fld (pv 1) (by rfl)))))) pss_nil)
      (pss_cons (ps_if (pt_cmpR op_eq (pv 2) pe_str (nomark _)) (pss_cons (ps_set (i := 3) nd rfl (.inl rfl) (pe_op op_add (pv 0) (pe_fld (pv 1) (by rfl)))) (pss_one (ps_ret (pe_op op_add (pe_op op_add (pv 3) (pe_op op_mod (pv 3) pe_int)) (pe_op op_mulW (pe_op op_add (pe_fld (pv 1) (by rfl)) (pe_op op_mod (pe_fld (pv 1) (by rfl)) pe_int)) (pe_op op_sub (pe_fld (pv 1) (by rfl)) pe_int)))))) pss_nil)
      (pss_cons (ps_set (i := 4) nd rfl (.inl rfl) (pe_fld (pv 1) (by rfl)))
      (pss_cons (ps_while PassesOwn.never (pt_cmpR op_gt (pv 4) pe_int (nomark _)) (pss_cons (ps_set (i := 5) nd rfl (.inl rfl) (pe_op op_add (pv 0) (pe_fld (pv 1) (by rfl)))) (pss_cons (ps_set (i := 6) nd rfl (.inl rfl) (pe_cmpR op_ge (pv 5) pe_int (nomark _))) (C8.pss_cut (ps_set (i := 7) nd rfl (.inl rfl) (pe_ifExp (pt_cmpR op_eq (pv 6) (pe_cmpR op_in_seq (pv 2) (pe_tup (pa_cons pe_str (pa_cons pe_str pa_nil))) (by rfl)) (nomark _)) (pe_fld (pv 1) (by rfl)) (pe_op op_add (pe_fld (pv 1) (by rfl)) pe_int))) (pss_cons (ps_set (i := 8) nd rfl (.inl rfl) (pe_callB (call_min2 rfl) (by rfl) B.min (by decide +kernel) (pa_cons (pv 4) (pa_cons (pe_def DS hr (by decide) (by rfl) pass0 (pa_cons (pv 5) (pa_cons (pv 7) (pa_cons (pv 4) pa_nil)))) pa_nil)))) (pss_cons (ps_set (i := 0) nd rfl (.inl rfl) (pe_op op_add (pv 0) (pe_op op_mulW (pv 7) (pv 8)))) (pss_one (ps_set (i := 4) nd rfl (.inl rfl) (pe_op op_sub (pv 4) (pv 8))))))))))
      (pss_one (ps_ret (pv 0)))))), ?_⟩
    have U0 := ten_pos p
    generalize (10 : Int) ^ p = U at ea q U0
    have bF : (x / U).natAbs < 2 ^ 301 := by
      have := div_nat (x := x) U0
      have e : (2 : Nat) ^ 301 = 2 ^ 300 * 2 := Nat.pow_succ ..
      omega
    have bA : (near x U t).natAbs < 2 ^ 301 := by
      have := near_nat (n := x) U0 t
      have e : (2 : Nat) ^ 301 = 2 ^ 300 * 2 := Nat.pow_succ ..
      omega
    have bK : ((k : Nat) : Int).natAbs < 2 ^ 300 := by omega
    have tight : ∀ {H' : Hp}, Same H H' → (k = 0 ∨ isLoose U x t = false) → ∃ sz : CMulW (near x U t) (k : Nat), Q (.int (s + near x U t * (k : Nat))) H' := fun {H'} sm z => by
      refine ⟨wide_mul bA bK (by decide) (by decide) (by decide), ?_⟩
      have e : run U x t k s = s + near x U t * (k : Nat) := by
        rcases z with rfl | z
        · show s = _
          simp
        · exact run_tight U0 ht z k s
      rw [← e]
      exact q H' sm
    refine ⟨_, rfl, a, En, dx, _, .int (k : Nat), rfl, ea, TE.cls, TE.n1, eLk_t _ _ _ _ _, rfl, _, rfl, ite2 (fun e => ?_) (fun e => ?_)⟩
    · have k0 : k = 0 := by
        have z : (k : Int) = 0 := by simpa using e
        omega
      obtain ⟨sz, q'⟩ := tight (fun _ _ e => e) (.inl k0)
      exact ⟨_, rfl, _, rfl, a, En, dx, _, .int (near x U t), rfl, ea, TE.cls, TE.n3, eLk_a _ _ _ _ _, _, rfl, a, En, dx, _, .int (k : Nat), rfl, ea, TE.cls, TE.n1, eLk_t _ _ _ _ _, _, _, rfl, rfl, sz, _, _, rfl, rfl, q'⟩
    have k0 : 0 < k := by
      have z : ¬ (k : Int) = 0 := by simpa using e
      omega
    refine ⟨_, rfl, a, En, dx, _, .bl (isLoose U x t), rfl, ea, TE.cls, TE.n5, eLk_l _ _ _ _ _, _, rfl, ?_⟩
    cases hL : isLoose U x t with
    | false =>
      obtain ⟨sz, q'⟩ := tight (fun _ _ e => e) (.inr hL)
      exact iteT ⟨_, rfl, _, rfl, a, En, dx, _, .int (near x U t), rfl, ea, TE.cls, TE.n3, eLk_a _ _ _ _ _, _, rfl, a, En, dx, _, .int (k : Nat), rfl, ea, TE.cls, TE.n1, eLk_t _ _ _ _ _, _, _, rfl, rfl, sz, _, _, rfl, rfl, q'⟩
    | true =>
    refine iteF ?_
    clear tight
    refine ⟨_, rfl, rfl, _, rfl, ite2 (fun e => ?_) (fun e => ?_)⟩
    · have et : t = "halfeven" := by simpa using e
      subst et
      refine ⟨_, rfl, _, rfl, a, En, dx, _, .int (x / U), rfl, ea, TE.cls, TE.n2, eLk_f _ _ _ _ _, _, _, rfl, rfl, ?_⟩
      dsimp only [gName, List.set]
      have b1 : (x / U + x / U % 2).natAbs < 2 ^ 302 := by
        have e : (2 : Nat) ^ 302 = 2 ^ 301 * 2 := Nat.pow_succ ..
        omega
      have b2 : ((k : Int) - 1).natAbs < 2 ^ 300 := by omega
      refine ⟨_, rfl, _, rfl, _, _, rfl, rfl, (show (0 : Int) < 2 by decide), _, _, rfl, rfl, ?_⟩
      refine ⟨_, rfl, a, En, dx, _, .int (x / U), rfl, ea, TE.cls, TE.n2, eLk_f _ _ _ _ _, _, rfl, a, En, dx, _, .int (x / U), rfl, ea, TE.cls, TE.n2, eLk_f _ _ _ _ _, _, _, rfl, rfl, (show (0 : Int) < 2 by decide), _, _, rfl, rfl, ?_⟩
      refine ⟨_, rfl, a, En, dx, _, .int (k : Nat), rfl, ea, TE.cls, TE.n1, eLk_t _ _ _ _ _, _, _, rfl, rfl, _, _, rfl, rfl, wide_mul b1 b2 (by decide) (by decide) (by decide), _, _, rfl, rfl, ?_⟩
      obtain ⟨j, rfl⟩ : ∃ j, k = j + 1 := ⟨k - 1, by omega⟩
      have r := (run_even U0 hL j s).1
      have e1 : (((j + 1 : Nat) : Int) - 1) = (j : Int) := by omega
      dsimp only
      rw [e1, ← r]
      exact q H (fun _ _ e => e)
    · have ne : t ≠ "halfeven" := fun z => e (by rw [z]; simp)
      refine ⟨_, rfl, a, En, dx, _, .int (k : Nat), rfl, ea, TE.cls, TE.n1, eLk_t _ _ _ _ _, ?_⟩
      dsimp only [gName, List.set]
      refine ⟨fun m σ H' => Same H H' ∧ m ≤ k ∧ ∃ (o5 o6 o7 o8 : Option V), σ = [some (.int (run U x t (k - m) s)), some (.ref a), some (.str t), none, some (.int (m : Nat)), o5, o6, o7, o8], ⟨_, Same.refl _, Nat.le_refl _, none, none, none, none, by rw [Nat.sub_self]; rfl⟩, ?_⟩
      rintro m σ H1 ⟨s1, hm, o5, o6, o7, o8, rfl⟩
      have ea1 := s1 _ _ ea
      have bk2 : k * (x.natAbs + 2) < 2 ^ 601 := by
        have e : (2 : Nat) ^ 301 = 2 ^ 300 * 2 := Nat.pow_succ ..
        exact mul_nat (i := 300) (j := 301) bk (by omega)
      have bR : (run U x t (k - m) s).natAbs < 2 ^ 1001 := by
        have r := run_nat (x := x) t U0 (k - m) s
        have l : (k - m) * (x.natAbs + 2) ≤ k * (x.natAbs + 2) := Nat.mul_le_mul_right _ (Nat.sub_le _ _)
        have e : (2 : Nat) ^ 1001 = 2 ^ 1000 * 2 := Nat.pow_succ ..
        have e2 : (2 : Nat) ^ 601 ≤ 2 ^ 1000 := Nat.pow_le_pow_right (by decide) (by decide)
        omega
      generalize hR : run U x t (k - m) s = R at bR
      refine ⟨_, rfl, _, _, rfl, rfl, _, rfl, ite2 (fun e => ?_) (fun e => ?_)⟩
      · have m0 : 0 < m := by
          have z : (0 : Int) < (m : Int) := of_decide_eq_true e
          omega
        refine ⟨fun σ' H' => ∃ m', m' < m ∧ Same H H' ∧ m' ≤ k ∧ ∃ (o5 o6 o7 o8 : Option V), σ' = [some (.int (run U x t (k - m') s)), some (.ref a), some (.str t), none, some (.int (m' : Nat)), o5, o6, o7, o8], fun σ' H' ⟨m', h1, h2⟩ => ⟨m', h1, h2⟩, ?_⟩
        refine ⟨_, rfl, _, rfl, a, En, dx, _, .int (x / U), rfl, ea1, TE.cls, TE.n2, eLk_f _ _ _ _ _, _, _, rfl, rfl, ?_⟩
        dsimp only [gName, List.set]
        refine ⟨_, rfl, _, _, rfl, rfl, ?_⟩
        dsimp only [gName, List.set]
        refine ⟨fun σ' H' => Same H H' ∧ ∃ (o6 o8 : Option V), σ' = [some (.int R), some (.ref a), some (.str t), none, some (.int (m : Nat)), some (.int (R + x / U)), o6, some (.int (addS (x / U) t (R + x / U))), o8], ?_, ?_⟩
        rotate_left
        · rintro σ2 H2 ⟨s2, o6, o8, rfl⟩
          have bA2 := addS_nat (F := x / U) (a := R + x / U) (t := t)
          have bS : (addS (x / U) t (R + x / U)).natAbs < 2 ^ 302 := by
            have e : (2 : Nat) ^ 302 = 2 ^ 301 * 2 := Nat.pow_succ ..
            omega
          have bH : (R + x / U).natAbs < 2 ^ 3000 := by
            have e : (2 : Nat) ^ 1002 = 2 ^ 1001 * 2 := Nat.pow_succ ..
            have e2 : (2 : Nat) ^ 301 ≤ 2 ^ 1001 := Nat.pow_le_pow_right (by decide) (by decide)
            have e3 : (2 : Nat) ^ 1002 ≤ 2 ^ 3000 := Nat.pow_le_pow_right (by decide) (by decide)
            omega
          refine ⟨_, rfl, _, rfl, _, rfl, _, rfl, _, _, _, rfl, bH, up_two bS (by decide), _, _, rfl, ?_⟩
          dsimp only [gName, List.set]
          rw [min_if2]
          have sp := side_pos (ahead := R + x / U) (added := addS (x / U) t (R + x / U)) (times := (m : Int)) (by omega)
          obtain ⟨c, hc⟩ : ∃ c : Nat, min (m : Int) (sideN (R + x / U) (addS (x / U) t (R + x / U)) (m : Int)) = (c : Int) := ⟨(min (m : Int) (sideN (R + x / U) (addS (x / U) t (R + x / U)) (m : Int))).toNat, by omega⟩
          have hr := run_side U0 ht hL ne R c (.inr ⟨(m : Int), by omega⟩)
          rw [hc]
          have bC : ((c : Nat) : Int).natAbs < 2 ^ 300 := by omega
          refine ⟨_, rfl, _, rfl, _, rfl, _, _, rfl, rfl, wide_mul bS bC (by decide) (by decide) (by decide), _, _, rfl, rfl, ?_⟩
          dsimp only [gName, List.set]
          refine ⟨_, rfl, _, rfl, _, _, rfl, rfl, ?_⟩
          dsimp only [gName, List.set]
          have e1 : (m : Int) - (c : Int) = ((m - c : Nat) : Int) := by omega
          rw [e1]
          refine ⟨m - c, by omega, s2, by omega, some (.int (R + x / U)), o6, some (.int (addS (x / U) t (R + x / U))), some (.int (c : Nat)), ?_⟩
          have e2 : k - (m - c) = (k - m) + c := by omega
          rw [e2, run_add, hR, hr]
        refine ⟨_, rfl, _, rfl, by show 2 ≤ sizeLine; decide, fun p2 np2 => ?_⟩
        have s2 := same_new (o := HO.tup [.str "cut", .str "halfcut"]) np2
        have et : upd H1 p2 (HO.tup [.str "cut", .str "halfcut"]) p2 = some (.tup ((["cut", "halfcut"] : List Str).map V.str)) := upd_same
        have s12 := s1.trans s2
        have ea2 := s2 _ _ ea1
        generalize upd H1 p2 (HO.tup [.str "cut", .str "halfcut"]) = H2 at s12 ea2 et ⊢
        clear s2 np2
        refine ⟨p2, _, rfl, .inr (SqT.of et), rfl, by decide +kernel, ?_⟩
        rw [show (if false = true then !inV (V.str t) ((["cut", "halfcut"] : List Str).map V.str) else inV (V.str t) ((["cut", "halfcut"] : List Str).map V.str)) = decide (t = "cut" ∨ t = "halfcut") from (inV_txt t (["cut", "halfcut"] : List Str)).trans (decide_eq_decide.mpr (by simp))]
        refine ⟨rfl, _, rfl, ite2 (fun g => ?_) (fun g => ?_)⟩
        · have g' : decide (0 ≤ R + x / U) = decide (t = "cut" ∨ t = "halfcut") := by simpa using g
          refine ⟨_, rfl, a, En, dx, _, .int (x / U), rfl, ea2, TE.cls, TE.n2, eLk_f _ _ _ _ _, ?_⟩
          have eA : addS (x / U) t (R + x / U) = x / U := by
            unfold addS
            rw [if_pos g']
          refine ⟨s12, some (.bl (decide (R + x / U ≥ 0))), o8, ?_⟩
          rw [eA]
          rfl
        · have g' : ¬ decide (0 ≤ R + x / U) = decide (t = "cut" ∨ t = "halfcut") := fun z => g (by simpa using z)
          refine ⟨_, rfl, a, En, dx, _, .int (x / U), rfl, ea2, TE.cls, TE.n2, eLk_f _ _ _ _ _, _, _, rfl, rfl, ?_⟩
          have eA : addS (x / U) t (R + x / U) = x / U + 1 := by
            unfold addS
            rw [if_neg g']
          refine ⟨s12, some (.bl (decide (R + x / U ≥ 0))), o8, ?_⟩
          rw [eA]
          rfl
      · have m0 : m = 0 := by
          have z : ¬ (0 : Int) < (m : Int) := fun y => e (decide_eq_true y)
          omega
        subst m0
        refine ⟨_, rfl, ?_⟩
        rw [← hR]
        exact q H1 s1

end
end K50

/-! own layer, of no law: OWO3: orders that reach what is asked: the greatest one, every one between, by halves. -/
namespace Own
open PySem PySem.Spec PyProof.Rows L2 LamX NdefX
section
variable {U x s : Int} {t : Str} {dn : Bool}
theorem cs_app (es fs : List (Int × Nat)) : csOf dn U t (es ++ fs) = csOf dn U t es ++ csOf dn U t fs := by
  unfold csOf
  rw [List.filter_append, List.map_append]
theorem ones_app (ys zs : List Int) : ones (ys ++ zs) = ones ys ++ ones zs := List.map_append
theorem cs_none : ∀ {ys : List Int}, (∀ y ∈ ys, csC dn U t y = false) → csOf dn U t (ones ys) = []
  | [], _ => rfl
  | y :: r, h => by
    rw [cs_ones, if_neg (by rw [h y List.mem_cons_self]; decide), cs_none fun z hz => h z (List.mem_cons_of_mem _ hz)]
theorem cs_all : ∀ {ys : List Int}, (∀ y ∈ ys, csC dn U t y = true) → csOf dn U t (ones ys) = ys.map fun y => (szE dn U y, 1)
  | [], _ => rfl
  | y :: r, h => by
    rw [cs_ones, if_pos (h y List.mem_cons_self), cs_all fun z hz => h z (List.mem_cons_of_mem _ hz)]
    rfl
theorem wsum_none {f : Int → Int} : ∀ {ys : List Int}, (∀ y ∈ ys, f y = 0) → wsum f (ones ys) = 0
  | [], _ => rfl
  | y :: r, h => by
    rw [wsum_ones, h y List.mem_cons_self, wsum_none fun z hz => h z (List.mem_cons_of_mem _ hz)]
    rfl
theorem div_neg (hU : 0 < U) (h : x < 0) : x / U < 0 := Int.ediv_neg_of_neg_of_pos h hU
theorem div_pos' (hU : 0 < U) (h : 0 ≤ x) : 0 ≤ x / U := Int.ediv_nonneg h (by omega)
theorem near_nil (hU : 0 < U) : near 0 U t = 0 := by
  unfold near
  simp
/-! ### settled ones -/
theorem settled_run (hU : 0 < U) (hw : t ∈ waysL) : ∀ (B : List Int) (s : Int), (∀ y ∈ B, isLoose U y t = false) → runL U t B s = s + wsum (bsE U t) (ones B)
  | [], s, _ => by rw [wsum_ones_nil]; show s = _; omega
  | x :: B, s, h => by
    have l := h x List.mem_cons_self
    have b : bsE U t x = near x U t := by unfold bsE; rw [if_neg (by rw [l]; decide)]
    rw [runL_cons, settled_run hU hw B _ fun y hy => h y (List.mem_cons_of_mem _ hy), stp_tight hU hw l, wsum_ones, b]
    omega
/-! ### cut: the greatest -/
theorem cut_ahead (hU : 0 < U) (ht : t ∈ cutW) : ∀ (A : List Int) (s : Int), (∀ y ∈ A, y < 0) → s ≤ 0 → runL U t A s = s - wsum (rmE true U t) (ones A) ∧ runL U t A s = s + wsum (bsE U t) (ones A) + wsum (lfE true U t) (ones A) ∧ 0 ≤ wsum (rmE true U t) (ones A)
  | [], s, _, hs => by
    rw [wsum_ones_nil, wsum_ones_nil, wsum_ones_nil]
    refine ⟨?_, ?_, Int.le_refl _⟩
    · show s = _; omega
    · show s = _; omega
  | x :: A, s, h, hs => by
    obtain ⟨hw, hne⟩ := cut_way ht
    have f := div_neg hU (h x List.mem_cons_self)
    have i : inL true U x = true := by rw [inL_pos, decide_eq_true f]
    rw [runL_cons, wsum_ones, wsum_ones, wsum_ones]
    by_cases l : isLoose U x t = true
    · have st := stp_side hU hw l hne s
      rw [addS_cut ht, if_neg (by omega)] at st
      have b : bsE U t x = x / U := by unfold bsE; rw [if_pos l]
      have v : vlE U t x = x / U + 1 := by unfold vlE; rw [if_pos l]
      have lf : lfE true U t x = 1 := by unfold lfE; rw [i, l]; rfl
      have rm : rmE true U t x = -(x / U + 1) := by unfold rmE; rw [if_pos i, if_pos rfl, v]
      obtain ⟨a1, a2, a3⟩ := cut_ahead hU ht A (stp U x t s) (fun y hy => h y (List.mem_cons_of_mem _ hy)) (by omega)
      exact ⟨by omega, by omega, by omega⟩
    · have l' : isLoose U x t = false := eq_false_of_ne_true l
      have st := stp_tight (s := s) hU hw l'
      have b : bsE U t x = near x U t := by unfold bsE; rw [if_neg l]
      have v : vlE U t x = near x U t := by unfold vlE; rw [if_neg l]
      have lf : lfE true U t x = 0 := by unfold lfE; rw [l']; simp
      have rm : rmE true U t x = -near x U t := by unfold rmE; rw [if_pos i, if_pos rfl, v]
      have two := near_two (x := x) (U := U) (t := t)
      obtain ⟨a1, a2, a3⟩ := cut_ahead hU ht A (stp U x t s) (fun y hy => h y (List.mem_cons_of_mem _ hy)) (by omega)
      exact ⟨by omega, by omega, by omega⟩
theorem cut_above (hU : 0 < U) (ht : t ∈ cutW) : ∀ (L : List Int) (s : Int), (∀ y ∈ L, isLoose U y t = true ∧ 0 ≤ y) → 0 ≤ s → runL U t L s = s + wsum (bsE U t) (ones L)
  | [], s, _, hs => by rw [wsum_ones_nil]; show s = _; omega
  | x :: L, s, h, hs => by
    obtain ⟨hw, hne⟩ := cut_way ht
    obtain ⟨l, hx⟩ := h x List.mem_cons_self
    have f := div_pos' hU hx
    have st := stp_side hU hw l hne s
    rw [addS_cut ht, if_pos (by omega)] at st
    have b : bsE U t x = x / U := by unfold bsE; rw [if_pos l]
    rw [runL_cons, wsum_ones, cut_above hU ht L _ (fun y hy => h y (List.mem_cons_of_mem _ hy)) (by omega), st, b]
    omega
theorem cut_loose (hU : 0 < U) (ht : t ∈ cutW) : ∀ (L : List Int) (s : Int), (∀ y ∈ L, isLoose U y t = true ∧ 0 ≤ y) → Rise (L.map fun y => (szE true U y, 1)) → s ≤ 0 → runL U t L s = s + wsum (bsE U t) (ones L) + gre (L.map fun y => (szE true U y, 1)) (-s)
  | [], s, _, _, hs => by
    rw [wsum_ones_nil]
    show s = s + 0 + 0
    omega
  | x :: L, s, h, hR, hs => by
    obtain ⟨hw, hne⟩ := cut_way ht
    obtain ⟨l, hx⟩ := h x List.mem_cons_self
    have f := div_pos' hU hx
    have hL := fun y hy => h y (List.mem_cons_of_mem x hy)
    have st := stp_side hU hw l hne s
    rw [addS_cut ht] at st
    have b : bsE U t x = x / U := by unfold bsE; rw [if_pos l]
    have c : szE true U x = x / U + 1 := rfl
    rw [runL_cons, wsum_ones, b, List.map_cons]
    show _ = _ + ((if szE true U x = 0 then ((1 : Nat) : Int) else min ((1 : Nat) : Int) (-s / szE true U x)) + gre _ (-s - (if szE true U x = 0 then ((1 : Nat) : Int) else min ((1 : Nat) : Int) (-s / szE true U x)) * szE true U x))
    rw [c, if_neg (by omega)]
    by_cases g : 0 ≤ s + x / U
    · rw [if_pos g] at st
      have d0 : -s / (x / U + 1) = 0 := Int.ediv_eq_zero_of_lt (by omega) (by omega)
      rw [d0, Int.min_eq_right (by decide), Int.zero_mul, Int.sub_zero]
      rw [gre_out (s := x / U + 1) (by omega) (by omega) _ hR.1, cut_above hU ht L _ hL (by omega), st]
      omega
    · rw [if_neg g] at st
      have d1 : 1 ≤ -s / (x / U + 1) := (Int.le_ediv_iff_mul_le (by omega)).mpr (by omega)
      rw [Int.min_eq_left (by omega), cut_loose hU ht L _ hL hR.2 (by omega), st]
      rw [show -(s + (x / U + 1)) = -s - ((1 : Nat) : Int) * (x / U + 1) by omega]
      omega
/-- ahead the ones below nothing, then the loose ones by size, then the rest: the greatest -/
theorem cut_best (hU : 0 < U) (ht : t ∈ cutW) {A L B : List Int} (hA : ∀ y ∈ A, y < 0) (hL : ∀ y ∈ L, isLoose U y t = true ∧ 0 ≤ y) (hR : Rise (L.map fun y => (szE true U y, 1))) (hB : ∀ y ∈ B, isLoose U y t = false ∧ 0 ≤ y) : Hi true U t (ones (A ++ L ++ B)) (runL U t (A ++ L ++ B) 0) := by
  obtain ⟨hw, hne⟩ := cut_way ht
  obtain ⟨a1, a2, a3⟩ := cut_ahead hU ht A 0 hA (Int.le_refl _)
  have iL : ∀ y, 0 ≤ y → inL true U y = false := fun y hy => by
    rw [inL_pos]
    have := div_pos' hU hy
    simp
    omega
  have iA : ∀ y, y < 0 → inL true U y = true := fun y hy => by rw [inL_pos, decide_eq_true (div_neg hU hy)]
  have e : csOf true U t (ones (A ++ L ++ B)) = L.map fun y => (szE true U y, 1) := by
    rw [ones_app, ones_app, cs_app, cs_app, cs_none (ys := A), cs_none (ys := B), cs_all (ys := L), List.nil_append, List.append_nil]
    · intro y hy
      unfold csC
      rw [(hL y hy).1, iL y (hL y hy).2]
      rfl
    · intro y hy
      unfold csC
      rw [(hB y hy).1]
      rfl
    · intro y hy
      unfold csC
      rw [iA y (hA y hy), Bool.not_true, Bool.and_false]
  have r : wsum (rmE true U t) (ones (A ++ L ++ B)) = wsum (rmE true U t) (ones A) := by
    rw [ones_app, ones_app, wsum_app, wsum_app, wsum_none (ys := L), wsum_none (ys := B)]
    · omega
    · intro y hy
      unfold rmE
      rw [iL y (hB y hy).2]
      rfl
    · intro y hy
      unfold rmE
      rw [iL y (hL y hy).2]
      rfl
  have lf : wsum (lfE true U t) (ones (A ++ L ++ B)) = wsum (lfE true U t) (ones A) := by
    rw [ones_app, ones_app, wsum_app, wsum_app, wsum_none (ys := L), wsum_none (ys := B)]
    · omega
    · intro y hy
      unfold lfE
      rw [iL y (hB y hy).2]
      rfl
    · intro y hy
      unfold lfE
      rw [iL y (hL y hy).2]
      rfl
  refine ⟨gre (L.map fun y => (szE true U y, 1)) (wsum (rmE true U t) (ones A)), ?_, ?_⟩
  · rw [e]
    have ro : roomR true U t (ones (A ++ L ++ B)) = wsum (rmE true U t) (ones A) := by
      unfold roomR
      rw [r, if_pos rfl]
      omega
    rw [ro]
    refine gre_is hR (fun q hq => ?_) a3
    obtain ⟨y, hy, rfl⟩ := List.mem_map.mp hq
    have := div_pos' hU (hL y hy).2
    show 0 ≤ y / U + 1
    omega
  · rw [lf, runL_app, runL_app, settled_run hU hw B _ fun y hy => (hB y hy).1, cut_loose hU ht L _ hL hR (by omega)]
    have ws : wsum (bsE U t) (ones (A ++ L ++ B)) = wsum (bsE U t) (ones A) + wsum (bsE U t) (ones L) + wsum (bsE U t) (ones B) := by rw [ones_app, ones_app, wsum_app, wsum_app]
    rw [ws, show -runL U t A 0 = wsum (rmE true U t) (ones A) by omega]
    omega
/-! ### away: the greatest -/
theorem away_ahead (hU : 0 < U) (ht : t ∈ awayW) : ∀ (A : List Int) (s : Int), (∀ y ∈ A, 0 < y) → 0 ≤ s → runL U t A s = s + wsum (rmE false U t) (ones A) ∧ runL U t A s = s + wsum (bsE U t) (ones A) + wsum (lfE false U t) (ones A) ∧ 0 ≤ wsum (rmE false U t) (ones A)
  | [], s, _, hs => by
    rw [wsum_ones_nil, wsum_ones_nil, wsum_ones_nil]
    refine ⟨?_, ?_, Int.le_refl _⟩
    · show s = _; omega
    · show s = _; omega
  | x :: A, s, h, hs => by
    obtain ⟨hw, hne⟩ := away_way ht
    have f := div_pos' hU (Int.le_of_lt (h x List.mem_cons_self))
    have i : inL false U x = true := by rw [inL_neg, decide_eq_true f]
    rw [runL_cons, wsum_ones, wsum_ones, wsum_ones]
    by_cases l : isLoose U x t = true
    · have st := stp_side hU hw l hne s
      rw [addS_away ht, if_pos (by omega)] at st
      have b : bsE U t x = x / U := by unfold bsE; rw [if_pos l]
      have v : vlE U t x = x / U + 1 := by unfold vlE; rw [if_pos l]
      have lf : lfE false U t x = 1 := by unfold lfE; rw [i, l]; rfl
      have rm : rmE false U t x = x / U + 1 := by unfold rmE; rw [if_pos i, if_neg (by decide), v]
      obtain ⟨a1, a2, a3⟩ := away_ahead hU ht A (stp U x t s) (fun y hy => h y (List.mem_cons_of_mem _ hy)) (by omega)
      exact ⟨by omega, by omega, by omega⟩
    · have l' : isLoose U x t = false := eq_false_of_ne_true l
      have st := stp_tight (s := s) hU hw l'
      have b : bsE U t x = near x U t := by unfold bsE; rw [if_neg l]
      have v : vlE U t x = near x U t := by unfold vlE; rw [if_neg l]
      have lf : lfE false U t x = 0 := by unfold lfE; rw [l']; simp
      have rm : rmE false U t x = near x U t := by unfold rmE; rw [if_pos i, if_neg (by decide), v]
      have two := near_two (x := x) (U := U) (t := t)
      obtain ⟨a1, a2, a3⟩ := away_ahead hU ht A (stp U x t s) (fun y hy => h y (List.mem_cons_of_mem _ hy)) (by omega)
      exact ⟨by omega, by omega, by omega⟩
theorem away_below (hU : 0 < U) (ht : t ∈ awayW) : ∀ (L : List Int) (s : Int), (∀ y ∈ L, isLoose U y t = true ∧ y < 0) → s ≤ 0 → runL U t L s = s + wsum (bsE U t) (ones L)
  | [], s, _, hs => by rw [wsum_ones_nil]; show s = _; omega
  | x :: L, s, h, hs => by
    obtain ⟨hw, hne⟩ := away_way ht
    obtain ⟨l, hx⟩ := h x List.mem_cons_self
    have f := div_neg hU hx
    have st := stp_side hU hw l hne s
    rw [addS_away ht, if_neg (by omega)] at st
    have b : bsE U t x = x / U := by unfold bsE; rw [if_pos l]
    rw [runL_cons, wsum_ones, away_below hU ht L _ (fun y hy => h y (List.mem_cons_of_mem _ hy)) (by omega), st, b]
    omega
theorem away_loose (hU : 0 < U) (ht : t ∈ awayW) : ∀ (L : List Int) (s : Int), (∀ y ∈ L, isLoose U y t = true ∧ y < 0) → Rise (L.map fun y => (szE false U y, 1)) → 1 ≤ s → runL U t L s = s + wsum (bsE U t) (ones L) + gre (L.map fun y => (szE false U y, 1)) (s - 1)
  | [], s, _, _, hs => by
    rw [wsum_ones_nil]
    show s = s + 0 + 0
    omega
  | x :: L, s, h, hR, hs => by
    obtain ⟨hw, hne⟩ := away_way ht
    obtain ⟨l, hx⟩ := h x List.mem_cons_self
    have f := div_neg hU hx
    have hL := fun y hy => h y (List.mem_cons_of_mem x hy)
    have st := stp_side hU hw l hne s
    rw [addS_away ht] at st
    have b : bsE U t x = x / U := by unfold bsE; rw [if_pos l]
    have c : szE false U x = -(x / U) - 1 := rfl
    rw [runL_cons, wsum_ones, b, List.map_cons]
    show _ = _ + ((if szE false U x = 0 then ((1 : Nat) : Int) else min ((1 : Nat) : Int) ((s - 1) / szE false U x)) + gre _ ((s - 1) - (if szE false U x = 0 then ((1 : Nat) : Int) else min ((1 : Nat) : Int) ((s - 1) / szE false U x)) * szE false U x))
    rw [c]
    by_cases g : 0 ≤ s + x / U
    · rw [if_pos g] at st
      have one : (if -(x / U) - 1 = 0 then ((1 : Nat) : Int) else min ((1 : Nat) : Int) ((s - 1) / (-(x / U) - 1))) = 1 := by
        by_cases z : -(x / U) - 1 = 0
        · rw [if_pos z]
          rfl
        · rw [if_neg z]
          have d1 : 1 ≤ (s - 1) / (-(x / U) - 1) := (Int.le_ediv_iff_mul_le (by omega)).mpr (by omega)
          exact Int.min_eq_left d1
      rw [one, away_loose hU ht L _ hL hR.2 (by omega), st]
      rw [show s + (x / U + 1) - 1 = s - 1 - 1 * (-(x / U) - 1) by omega]
      omega
    · rw [if_neg g] at st
      have d0 : (s - 1) / (-(x / U) - 1) = 0 := Int.ediv_eq_zero_of_lt (by omega) (by omega)
      rw [if_neg (show ¬ -(x / U) - 1 = 0 by omega), d0, Int.min_eq_right (by decide), Int.zero_mul, Int.sub_zero]
      rw [gre_out (s := -(x / U) - 1) (by omega) (by omega) _ hR.1, away_below hU ht L _ hL (by omega), st]
      omega
theorem away_best (hU : 0 < U) (ht : t ∈ awayW) {A L B : List Int} (hA : ∀ y ∈ A, 0 < y) (hL : ∀ y ∈ L, isLoose U y t = true ∧ y < 0) (hR : Rise (L.map fun y => (szE false U y, 1))) (hB : ∀ y ∈ B, isLoose U y t = false ∧ y ≤ 0) : Hi false U t (ones (A ++ L ++ B)) (runL U t (A ++ L ++ B) 0) := by
  obtain ⟨hw, hne⟩ := away_way ht
  obtain ⟨a1, a2, a3⟩ := away_ahead hU ht A 0 hA (Int.le_refl _)
  have iL : ∀ y, y < 0 → inL false U y = false := fun y hy => by
    rw [inL_neg]
    have := div_neg hU hy
    simp
    omega
  have iA : ∀ y, 0 < y → inL false U y = true := fun y hy => by rw [inL_neg, decide_eq_true (div_pos' hU (Int.le_of_lt hy))]
  have e : csOf false U t (ones (A ++ L ++ B)) = L.map fun y => (szE false U y, 1) := by
    rw [ones_app, ones_app, cs_app, cs_app, cs_none (ys := A), cs_none (ys := B), cs_all (ys := L), List.nil_append, List.append_nil]
    · intro y hy
      unfold csC
      rw [(hL y hy).1, iL y (hL y hy).2]
      rfl
    · intro y hy
      unfold csC
      rw [(hB y hy).1]
      rfl
    · intro y hy
      unfold csC
      rw [iA y (hA y hy), Bool.not_true, Bool.and_false]
  have r : wsum (rmE false U t) (ones (A ++ L ++ B)) = wsum (rmE false U t) (ones A) := by
    rw [ones_app, ones_app, wsum_app, wsum_app, wsum_none (ys := L), wsum_none (ys := B)]
    · omega
    · intro y hy
      obtain ⟨l, h0⟩ := hB y hy
      by_cases z : y < 0
      · unfold rmE
        rw [iL y z]
        rfl
      · obtain rfl : y = 0 := by omega
        unfold rmE vlE
        rw [if_neg (show ¬ isLoose U 0 t = true by rw [l]; decide), near_nil hU]
        split <;> rfl
    · intro y hy
      unfold rmE
      rw [iL y (hL y hy).2]
      rfl
  have lf : wsum (lfE false U t) (ones (A ++ L ++ B)) = wsum (lfE false U t) (ones A) := by
    rw [ones_app, ones_app, wsum_app, wsum_app, wsum_none (ys := L), wsum_none (ys := B)]
    · omega
    · intro y hy
      unfold lfE
      rw [(hB y hy).1, Bool.and_false]
      rfl
    · intro y hy
      unfold lfE
      rw [iL y (hL y hy).2]
      rfl
  have ro : roomR false U t (ones (A ++ L ++ B)) = wsum (rmE false U t) (ones A) - 1 := by
    unfold roomR
    rw [r]
    rfl
  have ws : wsum (bsE U t) (ones (A ++ L ++ B)) = wsum (bsE U t) (ones A) + wsum (bsE U t) (ones L) + wsum (bsE U t) (ones B) := by rw [ones_app, ones_app, wsum_app, wsum_app]
  have low : ∀ q ∈ L.map fun y => (szE false U y, 1), (0 : Int) ≤ q.1 := fun q hq => by
    obtain ⟨y, hy, rfl⟩ := List.mem_map.mp hq
    have := div_neg hU (hL y hy).2
    show 0 ≤ -(y / U) - 1
    omega
  by_cases z : wsum (rmE false U t) (ones A) = 0
  · refine ⟨0, ?_, ?_⟩
    · rw [ro, z]
      exact ⟨fun _ => rfl, fun y => absurd y (by omega)⟩
    · rw [lf, runL_app, runL_app, settled_run hU hw B _ fun y hy => (hB y hy).1, away_below hU ht L _ hL (by omega), ws]
      omega
  · refine ⟨gre (L.map fun y => (szE false U y, 1)) (wsum (rmE false U t) (ones A) - 1), ?_, ?_⟩
    · rw [e, ro]
      exact gre_is hR low (by omega)
    · rw [lf, runL_app, runL_app, settled_run hU hw B _ fun y hy => (hB y hy).1, away_loose hU ht L _ hL hR (by omega), ws, show runL U t A 0 - 1 = wsum (rmE false U t) (ones A) - 1 by omega]
      omega
/-! ### cut: one beside the other -/
theorem cut_step (hU : 0 < U) (ht : t ∈ cutW) {s s' : Int} (h0 : s ≤ s') (h1 : s' ≤ s + 1) : stp U x t s ≤ stp U x t s' ∧ stp U x t s' ≤ stp U x t s + 1 := by
  obtain ⟨hw, hne⟩ := cut_way ht
  by_cases l : isLoose U x t = true
  · have a := stp_side hU hw l hne s
    have b := stp_side hU hw l hne s'
    rw [addS_cut ht] at a b
    rw [a, b]
    split <;> split <;> omega
  · have l' : isLoose U x t = false := eq_false_of_ne_true l
    rw [stp_tight hU hw l', stp_tight hU hw l']
    omega
theorem cut_lip (hU : 0 < U) (ht : t ∈ cutW) : ∀ (ys : List Int) {s s' : Int}, s ≤ s' → s' ≤ s + 1 → runL U t ys s ≤ runL U t ys s' ∧ runL U t ys s' ≤ runL U t ys s + 1
  | [], s, s', h0, h1 => ⟨h0, h1⟩
  | y :: ys, s, s', h0, h1 => by
    obtain ⟨a, b⟩ := cut_step (x := y) hU ht h0 h1
    rw [runL_cons, runL_cons]
    exact cut_lip hU ht ys a b
theorem cut_two (hU : 0 < U) (ht : t ∈ cutW) (x y s : Int) : stp U y t (stp U x t s) ≤ stp U x t (stp U y t s) + 1 := by
  obtain ⟨hw, hne⟩ := cut_way ht
  by_cases l : isLoose U x t = true <;> by_cases k : isLoose U y t = true
  · have a1 := stp_side hU hw l hne s
    have a2 := stp_side hU hw k hne (stp U x t s)
    have b1 := stp_side hU hw k hne s
    have b2 := stp_side hU hw l hne (stp U y t s)
    rw [addS_cut ht] at a1 a2 b1 b2
    rw [a2, b2]
    generalize x / U = X at *
    generalize y / U = Y at *
    generalize stp U x t s = S1 at *
    generalize stp U y t s = S2 at *
    by_cases g : 0 ≤ s + X <;> by_cases h : 0 ≤ s + Y <;> simp only [g, h, if_true, if_false] at a1 b1 <;> (split <;> split <;> omega)
  · have k' : isLoose U y t = false := eq_false_of_ne_true k
    have a1 := stp_side hU hw l hne s
    have b2 := stp_side hU hw l hne (stp U y t s)
    have b1 := stp_tight (s := s) hU hw k'
    rw [addS_cut ht] at a1 b2
    rw [stp_tight hU hw k', b2, a1, b1]
    split <;> split <;> omega
  · have l' : isLoose U x t = false := eq_false_of_ne_true l
    have a2 := stp_side hU hw k hne (stp U x t s)
    have b1 := stp_side hU hw k hne s
    have a1 := stp_tight (s := s) hU hw l'
    rw [addS_cut ht] at a2 b1
    rw [a2, stp_tight hU hw l', stp_tight hU hw l', b1]
    split <;> split <;> omega
  · have k' : isLoose U y t = false := eq_false_of_ne_true k
    have l' : isLoose U x t = false := eq_false_of_ne_true l
    rw [stp_tight hU hw k', stp_tight hU hw l', stp_tight hU hw l', stp_tight hU hw k']
    omega
/-- two beside each other change places: no more than one is lost -/
theorem cut_swap (hU : 0 < U) (ht : t ∈ cutW) (a b : List Int) (x y : Int) : runL U t (a ++ x :: y :: b) 0 ≤ runL U t (a ++ y :: x :: b) 0 + 1 := by
  rw [runL_app, runL_app, runL_cons, runL_cons, runL_cons, runL_cons]
  generalize runL U t a 0 = s
  have d1 := cut_two hU ht x y s
  have d2 := cut_two hU ht y x s
  by_cases z : stp U y t (stp U x t s) ≤ stp U x t (stp U y t s)
  · have := (cut_lip hU ht b z (by omega)).1
    omega
  · exact (cut_lip hU ht b (show stp U x t (stp U y t s) ≤ stp U y t (stp U x t s) by omega) (by omega)).2
/-! ### by halves -/
theorem even_pairs (hU : 0 < U) : ∀ (P : List (Int × Int)) (s : Int), s % 2 = 0 → (∀ p ∈ P, isLoose U p.1 "halfeven" = false ∧ near p.1 U "halfeven" % 2 = 1 ∧ isLoose U p.2 "halfeven" = true) →
    runL U "halfeven" (P.flatMap fun p => [p.1, p.2]) s % 2 = 0 ∧ runL U "halfeven" (P.flatMap fun p => [p.1, p.2]) s = s + wsum (bsE U "halfeven") (ones (P.flatMap fun p => [p.1, p.2])) + wsum (evE U "halfeven") (ones (P.map fun p => p.2))
  | [], s, hs, _ => by
    refine ⟨hs, ?_⟩
    show s = s + 0 + 0
    omega
  | (z, y) :: P, s, hs, h => by
    obtain ⟨l, o, k⟩ := h (z, y) List.mem_cons_self
    dsimp only at l o k
    have s1 := stp_tight (s := s) hU (show ("halfeven" : Str) ∈ waysL by decide +kernel) l
    have s2 := stp_even hU k (stp U z "halfeven" s)
    have b1 : bsE U "halfeven" z = near z U "halfeven" := by unfold bsE; rw [if_neg (by rw [l]; decide)]
    have b2 : bsE U "halfeven" y = y / U := by unfold bsE; rw [if_pos k]
    have ev : evE U "halfeven" y = if y / U % 2 = 0 then 1 else 0 := by unfold evE; rw [k]; simp
    obtain ⟨a1, a2⟩ := even_pairs hU P (stp U y "halfeven" (stp U z "halfeven" s)) (by omega) fun p hp => h p (List.mem_cons_of_mem _ hp)
    have fm : ((z, y) :: P).flatMap (fun p => [p.1, p.2]) = z :: y :: P.flatMap (fun p => [p.1, p.2]) := rfl
    have mp : ((z, y) :: P).map (fun p => p.2) = y :: P.map (fun p => p.2) := rfl
    rw [fm, mp]
    rw [runL_cons, runL_cons, wsum_ones, wsum_ones, wsum_ones, b1, b2]
    refine ⟨a1, ?_⟩
    rw [a2, ev]
    split <;> omega
theorem even_loose (hU : 0 < U) : ∀ (L : List Int) (s : Int), s % 2 = 0 → (∀ y ∈ L, isLoose U y "halfeven" = true) →
    runL U "halfeven" L s % 2 = 0 ∧ runL U "halfeven" L s = s + wsum (bsE U "halfeven") (ones L) + wsum (odE U "halfeven") (ones L)
  | [], s, hs, _ => by
    refine ⟨hs, ?_⟩
    show s = s + 0 + 0
    omega
  | y :: L, s, hs, h => by
    have k := h y List.mem_cons_self
    have s2 := stp_even hU k s
    have b2 : bsE U "halfeven" y = y / U := by unfold bsE; rw [if_pos k]
    have od : odE U "halfeven" y = if y / U % 2 = 1 then 1 else 0 := by unfold odE; rw [k]; simp
    obtain ⟨a1, a2⟩ := even_loose hU L (stp U y "halfeven" s) (by omega) fun p hp => h p (List.mem_cons_of_mem _ hp)
    rw [runL_cons, wsum_ones, wsum_ones, b2]
    refine ⟨a1, ?_⟩
    rw [a2, od]
    split <;> omega
/-- pairs that turn, the other loose ones, the other settled ones -/
theorem even_best (hU : 0 < U) {P : List (Int × Int)} {L B : List Int} (hP : ∀ p ∈ P, isLoose U p.1 "halfeven" = false ∧ near p.1 U "halfeven" % 2 = 1 ∧ isLoose U p.2 "halfeven" = true) (hL : ∀ y ∈ L, isLoose U y "halfeven" = true) (hB : ∀ y ∈ B, isLoose U y "halfeven" = false) :
    runL U "halfeven" ((P.flatMap fun p => [p.1, p.2]) ++ L ++ B) 0 = wsum (bsE U "halfeven") (ones ((P.flatMap fun p => [p.1, p.2]) ++ L ++ B)) + wsum (evE U "halfeven") (ones (P.map fun p => p.2)) + wsum (odE U "halfeven") (ones L) := by
  obtain ⟨a1, a2⟩ := even_pairs hU P 0 rfl hP
  obtain ⟨b1, b2⟩ := even_loose hU L _ a1 hL
  rw [runL_app, runL_app, settled_run hU (by decide +kernel) B _ hB, b2, a2, ones_app, ones_app, wsum_app, wsum_app]
  omega
end
end Own

/-! k50: the program: totals of orders, the order of the greatest one. -/
namespace K50
open PySem PySem.Spec PyProof.Rows L2 LamX NdefX Own
abbrev pTi : Stmt := topS 48
abbrev pOg : Stmt := topS 46
abbrev nOg : List Str := ["entries", "way", "first", "ahead", "loose", "behind", "index", "entry", "_"]
def binL : Expr → Expr
  | .BinOp l _ _ _ => l
  | e => e
def iV (i : Nat) : V := .int (i : Nat)
/-- the figures in an order -/
def pk (ws : List Int) (os : List Nat) : List Int := os.map fun i => ws.getD i 0
theorem pk_app (ws : List Int) (a b : List Nat) : pk ws (a ++ b) = pk ws a ++ pk ws b := List.map_append
theorem blkOg : BlkOk nOg (defScope pOg) (lcScope (argN 0 (binL (retE (inD pOg 3))))) [("_", 8), ("index", 6)] := blkOk_by (by decide +kernel)
section
variable {P : Program} {w : World} {K : PySem.W.Frag} {mg : Str → Option Value} {base : Heap} {C CB W En Pm : Addr} {Ls : List (Addr × Str)}
/-- the first side, of every way -/
def spFs2 : Sp := fun vs H Q _ => ∃ (t : Str), vs = [.str t] ∧ ∀ H', Same H H' → Q (.int (fstS (decide (t ∈ cutW)))) H'
theorem ok_fs2 (A : At K mg "_first_side" pFs ["way"]) : DefOk P w K mg base CX0 "_first_side" 1 ["way"] spFs2 := by
  refine A.ok fun f fd F => F.ok scFs (fun vs H Q E h => ?_) (fun cdv A outer s0 H vs Q E hr h => ?_)
  · obtain ⟨t, rfl, _⟩ := h
    rfl
  · obtain ⟨t, rfl, q⟩ := h
    refine ⟨_, pss_one (ps_ret (pe_ifExp (pt_cmpR op_in_seq (pv 0) (pe_tup (pa_cons pe_str (pa_cons pe_str pa_nil))) (by rfl)) (pe_un un_neg pe_int) pe_int)), ?_⟩
    refine ⟨_, rfl, by show 2 ≤ sizeLine; decide, fun r nr => ?_⟩
    have q' := q _ (same_new (o := HO.tup [.str "cut", .str "halfcut"]) nr)
    refine ⟨r, _, rfl, .inr (SqT.of upd_same), rfl, rfl, _, rfl, ?_⟩
    rw [show (if false = true then !inV (V.str t) [.str "cut", .str "halfcut"] else inV (V.str t) [.str "cut", .str "halfcut"]) = decide (t ∈ cutW) from inV_txt t cutW]
    by_cases e : t ∈ cutW
    · rw [decide_eq_true e] at q' ⊢
      exact iteT ⟨_, rfl, q'⟩
    · rw [decide_eq_false e] at q' ⊢
      exact iteF q'
theorem scTi : FnScope ["entries", "way", "order", "units", "index"] ["entries", "way", "order"] (defScope pTi) := ⟨rfl, rfl, rfl, by decide +kernel, rfl, by decide +kernel, by decide +kernel⟩
theorem ones_get {ws : List Int} {j : Nat} (h : j < ws.length) : (ones ws)[j]? = some (ws.getD j 0, 1) := by
  unfold ones
  rw [List.getElem?_map, List.getElem?_eq_getElem h, List.getD_eq_getElem?_getD, List.getElem?_eq_getElem h]
  rfl
theorem ents_at {α : Type} {R : V → α → Prop} : ∀ {xs : List V} {es : List α}, Ents R xs es → ∀ {j : Nat} {e : α}, es[j]? = some e → ∃ x, xs[j]? = some x ∧ R x e
  | _, _, .nil, j, e, h => by cases j <;> cases h
  | _, _, .cons r t, 0, e, h => by cases h; exact ⟨_, rfl, r⟩
  | _, _, .cons r t, j + 1, e, h => ents_at t h
def spTi (En : Addr) : Sp := fun vs H Q _ => ∃ (l o : Addr) (ws : List Int) (os : List Nat) (p : Nat) (t : Str), vs = [.ref l, .str t, .ref o] ∧ EnL En H l (ones ws) p t ∧ p ≤ 200 ∧ t ∈ waysL ∧ H o = some (.lst (os.map iV)) ∧ (∀ i ∈ os, i < ws.length) ∧ os.length ≤ 1000 ∧ ∀ H', Same H H' → Q (.int (runL ((10 : Int) ^ p) t (pk ws os) 0)) H'
theorem ok_ti (A : At K mg "_total_in" pTi ["entries", "way", "order"]) (DB : DefOk P w K mg base CX0 "total_behind" 2 ["units", "entry", "way"] (spTB En)) : DefOk P w K mg base CX0 "_total_in" 3 ["entries", "way", "order"] (spTi En) := by
  refine A.ok fun f fd F => F.ok scTi (fun vs H Q E h => ?_) (fun cdv A outer s0 H vs Q E hr h => ?_)
  · obtain ⟨l, o, ws, os, p, t, rfl, _⟩ := h
    rfl
  · obtain ⟨l, o, ws, os, p, t, rfl, hL, hp, ht, ho, hi, hlen, q⟩ := h
    obtain ⟨⟨rs, hl, hE⟩, elen, hb⟩ := hL
    have U0 := ten_pos p
    have nd := scTi.nd
    refine ⟨_, pss_cons (ps_set (i := 3) nd rfl (.inl rfl) pe_int)
      (pss_cons (ps_for PassesOwn.never rfl (pi_list (pv 2)) (pg_name (i := 4) nd rfl (.inl rfl)) (pss_one (ps_set (i := 3) nd rfl (.inl rfl) (pe_def DB hr (by decide) (by rfl) pass0 (pa_cons (pv 3) (pa_cons (pe_ix ix_list (pv 0) (pv 4) (fun _ _ => rfl)) (pa_cons (pv 1) pa_nil)))))))
      (pss_one (ps_ret (pv 3)))), ?_⟩
    dsimp only [gName, List.set]
    refine ⟨_, rfl, o, rfl, ⟨_, SqL.of ho⟩, for_list (K := K) (xs := os.map iV) (fun i σ H' => (∃ y4 : Option V, σ = [some (.ref l), some (.str t), some (.ref o), some (.int (runL ((10 : Int) ^ p) t (pk ws (os.take i)) 0)), y4]) ∧ (runL ((10 : Int) ^ p) t (pk ws (os.take i)) 0).natAbs ≤ i * 2 ^ 301 ∧ Same H H') ⟨⟨_, by rw [List.take_zero]; rfl⟩, by rw [List.take_zero]; exact Nat.zero_le _, fun _ _ e => e⟩ (fun i σ H' _ z => SqL.of (z.2.2 _ _ ho)) ?_ ?_⟩
    · rintro i x σ H1 hx ⟨⟨y4, rfl⟩, bd, s1⟩
      rw [List.getElem?_map] at hx
      obtain ⟨j, hj, rfl⟩ := Option.map_eq_some_iff.mp hx
      have jn := hi j (List.mem_of_getElem? hj)
      have iL : i < os.length := (List.getElem?_eq_some_iff.mp hj).1
      obtain ⟨v, hv, rr⟩ := ents_at hE (ones_get jn)
      obtain ⟨a, rfl, ea⟩ := rr.same s1
      have bx := (hb _ (List.mem_of_getElem? (ones_get jn))).1
      dsimp only at bx ea
      have tk : os.take (i + 1) = os.take i ++ [j] := by rw [List.take_succ, hj]; rfl
      have rn : runL ((10 : Int) ^ p) t (pk ws (os.take (i + 1))) 0 = stp ((10 : Int) ^ p) (ws.getD j 0) t (runL ((10 : Int) ^ p) t (pk ws (os.take i)) 0) := by
        rw [tk, pk_app, runL_app]
        rfl
      have nb := stp_nat (s := runL ((10 : Int) ^ p) t (pk ws (os.take i)) 0) (x := ws.getD j 0) t U0
      rw [rn]
      generalize runL ((10 : Int) ^ p) t (pk ws (os.take i)) 0 = S at bd nb ⊢
      have e1 : (2 : Nat) ^ 301 = 2 ^ 300 * 2 := by decide +kernel
      have e2 : (1000 : Nat) * 2 ^ 301 < 2 ^ 1000 := by decide +kernel
      have e3 : (2 : Nat) ≤ 2 ^ 300 := by decide +kernel
      have e4 : i * 2 ^ 301 ≤ 1000 * 2 ^ 301 := Nat.mul_le_mul_right _ (by omega)
      have e5 : (i + 1) * 2 ^ 301 = i * 2 ^ 301 + 2 ^ 301 := Nat.succ_mul _ _
      dsimp only [gName, List.set]
      refine ⟨_, rfl, _, rfl, _, rfl, l, rs, (j : Nat), .ref a, rfl, rfl, SqL.of (s1 _ _ hl), atI_nat (j := j) hv, _, rfl, S, a, ws.getD j 0, 1, p, t, rfl, ea, hp, by omega, bx, by decide, ht, fun H2 s2 => ?_⟩
      exact ⟨⟨_, rfl⟩, by omega, s1.trans s2⟩
    · rintro σ H1 ⟨⟨y4, rfl⟩, bd, s1⟩
      rw [List.length_map, List.take_length]
      exact ⟨_, rfl, q H1 s1⟩
/-- the parts: ahead, loose, behind -/
def isA (F : Int) (ws : List Int) (j : Nat) : Bool := decide (sgn (ws.getD j 0) = F)
def isL (U F : Int) (t : Str) (ws : List Int) (j : Nat) : Bool := !isA F ws j && isLoose U (ws.getD j 0) t
def isB (U F : Int) (t : Str) (ws : List Int) (j : Nat) : Bool := !isA F ws j && !isLoose U (ws.getD j 0) t
def cst (U : Int) (ws : List Int) (j : Nat) : Int × Int := (if ws.getD j 0 / U + 1 < 0 then -(ws.getD j 0 / U + 1) else ws.getD j 0 / U + 1, (j : Nat))
theorem filt_snoc (f : Nat → Bool) (i : Nat) : (List.range (i + 1)).filter f = (List.range i).filter f ++ (if f i = true then [i] else []) := by
  rw [List.range_succ, List.filter_append, List.filter_cons]
  split <;> rfl
theorem parts3 {f g h : Nat → Bool} (x : ∀ j, (f j = true ∧ g j = false ∧ h j = false) ∨ (f j = false ∧ g j = true ∧ h j = false) ∨ (f j = false ∧ g j = false ∧ h j = true)) (l : List Nat) : List.Perm (l.filter f ++ l.filter g ++ l.filter h) l := by
  induction l with
  | nil => exact .nil
  | cons a r ih =>
    rw [List.filter_cons, List.filter_cons, List.filter_cons]
    rcases x a with ⟨e1, e2, e3⟩ | ⟨e1, e2, e3⟩ | ⟨e1, e2, e3⟩ <;> rw [e1, e2, e3] <;> simp only [if_true, if_false, Bool.false_eq_true]
    · exact ih.cons a
    · refine List.Perm.trans ?_ (ih.cons a)
      rw [List.append_assoc, List.append_assoc]
      exact List.perm_middle
    · refine List.Perm.trans ?_ (ih.cons a)
      exact List.perm_middle
theorem sgn_m {x : Int} (h : sgn x = -1) : x < 0 := by
  refine Int.lt_of_not_ge fun z => ?_
  by_cases y : x = 0
  · rw [y] at h; revert h; decide
  · rw [sgn_pos (by omega)] at h; revert h; decide
theorem sgn_p {x : Int} (h : sgn x = 1) : 0 < x := by
  refine Int.lt_of_not_ge fun z => ?_
  by_cases y : x = 0
  · rw [y] at h; revert h; decide
  · rw [sgn_neg (by omega)] at h; revert h; decide
theorem entsI_mem {R : V → Int × Int → Prop} : ∀ {xs : List V} {es : List (Int × Int)}, Ents R xs es → ∀ {x : V}, x ∈ xs → ∃ e ∈ es, R x e
  | _, _, .nil, _, h => by cases h
  | _, _, .cons r t, x, h => by
    rcases List.mem_cons.mp h with rfl | h
    · exact ⟨_, List.mem_cons_self, r⟩
    · obtain ⟨e, he, z⟩ := entsI_mem t h
      exact ⟨e, List.mem_cons_of_mem _ he, z⟩
theorem entsI_map {R : V → Int × Int → Prop} {f : V → Int × Int} (h : ∀ x e, R x e → f x = e) : ∀ {xs : List V} {es : List (Int × Int)}, Ents R xs es → xs.map f = es
  | _, _, .nil => rfl
  | _, _, .cons r t => by rw [List.map_cons, h _ _ r, entsI_map h t]
theorem ents_self2 {α : Type} {R : V → α → Prop} {k : V → α} : ∀ {xs : List V}, (∀ x ∈ xs, R x (k x)) → Ents R xs (xs.map k)
  | [], _ => .nil
  | x :: r, h => .cons (h x List.mem_cons_self) (ents_self2 fun y hy => h y (List.mem_cons_of_mem _ hy))
theorem scOg : FnScope nOg ["entries", "way"] (defScope pOg) := ⟨rfl, rfl, rfl, by decide +kernel, rfl, by decide +kernel, by decide +kernel⟩
def spOg (En : Addr) : Sp := fun vs H Q _ => ∃ (l : Addr) (ws : List Int) (p : Nat) (t : Str), vs = [.ref l, .str t] ∧ EnL En H l (ones ws) p t ∧ p ≤ 200 ∧ t ∈ waysL ∧ ∀ (r : Addr) (os : List Nat) (H' : Hp), Same H H' → H' r = some (.lst (os.map iV)) → List.Perm os (List.range ws.length) →
  (t ∈ cutW → Hi true ((10 : Int) ^ p) t (ones (pk ws os)) (runL ((10 : Int) ^ p) t (pk ws os) 0)) → (t ∈ awayW → Hi false ((10 : Int) ^ p) t (ones (pk ws os)) (runL ((10 : Int) ^ p) t (pk ws os) 0)) → Q (.ref r) H'
theorem ok_og (A : At K mg "_order_of_greatest" pOg ["entries", "way"]) (B : Blt mg) (mE : mg "enumerate" = none) (mSt : mg "sorted" = none) (TE : EntryC K mg En) (Df : DefOk P w K mg base CX0 "_first_side" 1 ["way"] spFs2) : DefOk P w K mg base CX0 "_order_of_greatest" 3 ["entries", "way"] (spOg En) := by
  refine A.ok fun f fd F => F.ok scOg (fun vs H Q E h => ?_) (fun cdv A outer s0 H vs Q E hr h => ?_)
  · obtain ⟨l, ws, p, t, rfl, _⟩ := h
    rfl
  · obtain ⟨l, ws, p, t, rfl, hL, hp, ht, q⟩ := h
    obtain ⟨⟨rs, hl, hE⟩, elen, hb⟩ := hL
    have U0 := ten_pos p
    have nd := scOg.nd
    refine ⟨_, pss_cons (ps_set (i := 2) nd rfl (.inl rfl) (pe_def Df hr (by decide) (by rfl) pass0 (pa_cons (pv 1) pa_nil)))
      (pss_cons (ps_par3 (i := 3) (j := 4) (l := 5) (by rfl) nd rfl rfl rfl (by decide) (by decide) (by decide) rfl rfl rfl (pa_cons (pe_lst pa_nil) (pa_cons (pe_lst pa_nil) (pa_cons (pe_lst pa_nil) pa_nil))) (by rfl))
      (pss_cons (ps_for PassesOwn.never rfl (pi_enum (by rfl) mE (pa_cons (pv 0) pa_nil)) (pg_tup rfl (pgs_cons (pg_name (i := 6) nd rfl (.inl rfl)) (pgs_cons (pg_name (i := 7) nd rfl (.inl rfl)) pgs_nil))) (pss_one (ps_if (pt_cmpR op_eq (pe_fld (pv 7) (by rfl)) (pv 2) (nomark _)) (pss_one (ps_expr (pe_bm PySem.F.plainAttrs_list PySem.F.slot_list_append PySem.F.type_list_append mt_append (pv 3) (pa_cons (pv 6) pa_nil)))) (pss_one (ps_if (pt_val (pe_fld (pv 7) (by rfl))) (pss_one (ps_expr (pe_bm PySem.F.plainAttrs_list PySem.F.slot_list_append PySem.F.type_list_append mt_append (pv 4) (pa_cons (pe_tup (pa_cons (pe_callB call_abs (by rfl) B.abs (by decide +kernel) (pa_cons (pe_op op_add (pe_fld (pv 7) (by rfl)) pe_int) pa_nil)) (pa_cons (pv 6) pa_nil))) pa_nil)))) (pss_one (ps_expr (pe_bm PySem.F.plainAttrs_list PySem.F.slot_list_append PySem.F.type_list_append mt_append (pv 5) (pa_cons (pv 6) pa_nil)))))))))
      (pss_one (ps_ret (pe_op op_cat (pe_op op_cat (pv 3) (pe_lc (own := [("_", 8), ("index", 6)]) (g := gTup K 2 (gCons (gName 8) (gCons (gName 6) gNil))) (te := tVar 6) rfl nd (pi_list (pe_callB cr_sortedPO (by rfl) mSt (by decide +kernel) (pa_cons (pv 4) pa_nil))) blkOg (fun _ _ _ _ _ => by exact (pg_tup rfl (pgs_cons (pg_name (i := 8) nd rfl (.inl rfl)) (pgs_cons (pg_name (i := 6) nd rfl (.inl rfl)) pgs_nil)))) (fun _ _ _ _ _ => pts_nil) (fun _ _ _ _ _ => (pv 6)))) (pv 5)))))), ?_⟩
    have wl : (ones ws).length = ws.length := List.length_map _
    rw [wl] at elen
    have rl : rs.length = ws.length := by rw [hE.len, wl]
    generalize hU : (10 : Int) ^ p = U at U0
    have RE : ∀ (H' : Hp) (j : Nat) (v : V), Same H H' → rs[j]? = some v → ∃ a dx, v = .ref a ∧ H' a = some (.ins En dx (eRow ((1 : Nat) : Int) (ws.getD j 0 / U) (near (ws.getD j 0) U t) (sgn (ws.getD j 0)) (isLoose U (ws.getD j 0) t))) := fun H' j v s hv => by
      have jn : j < ws.length := by rw [← rl]; exact (List.getElem?_eq_some_iff.mp hv).1
      obtain ⟨v', hv', rr⟩ := ents_at hE (ones_get jn)
      obtain rfl : v = v' := Option.some.inj (hv.symm.trans hv')
      obtain ⟨a, e, dx, ea⟩ := rr.same s
      rw [← hU]
      exact ⟨a, dx, e, ea⟩
    refine ⟨_, rfl, t, rfl, fun H1 s1 => ?_⟩
    dsimp only [gName, List.set]
    generalize hF : fstS (decide (t ∈ cutW)) = F
    refine ⟨by show 0 ≤ sizeLine; decide, fun a na => ⟨by show 0 ≤ sizeLine; decide, fun b nb => ⟨by show 0 ≤ sizeLine; decide, fun c nc => ?_⟩⟩⟩
    have ta := same_new (o := HO.lst []) na
    have ea0 : upd H1 a (HO.lst []) a = some (.lst []) := upd_same
    generalize upd H1 a (HO.lst []) = H2 at ta ea0 nb nc ⊢
    have tb := same_new (o := HO.lst []) nb
    have eb0 : upd H2 b (HO.lst []) b = some (.lst []) := upd_same
    have ab : b ≠ a := (ne_of_none ea0 nb).symm
    have ea1 := tb _ _ ea0
    generalize upd H2 b (HO.lst []) = H3 at tb eb0 ea1 nc ⊢
    have tc := same_new (o := HO.lst []) nc
    have ec0 : upd H3 c (HO.lst []) c = some (.lst []) := upd_same
    have ac : c ≠ a := (ne_of_none ea1 nc).symm
    have bc : c ≠ b := (ne_of_none eb0 nc).symm
    have ea2 := tc _ _ ea1
    have eb2 := tc _ _ eb0
    generalize upd H3 c (HO.lst []) = H4 at tc ec0 ea2 eb2 ⊢
    have s4 := ((s1.trans ta).trans tb).trans tc
    have Na : H a = none := by
      cases z : H a with
      | none => rfl
      | some o => exact absurd ((s1 _ _ z).symm.trans na) (by simp)
    have Nb : H b = none := by
      cases z : H b with
      | none => rfl
      | some o => exact absurd (((s1.trans ta) _ _ z).symm.trans nb) (by simp)
    have Nc : H c = none := by
      cases z : H c with
      | none => rfl
      | some o => exact absurd ((((s1.trans ta).trans tb) _ _ z).symm.trans nc) (by simp)
    clear ta tb tc ea0 eb0 ea1 na nb nc s1
    refine ⟨_, _, _, rfl, ?_⟩
    try dsimp only [gName, List.set]
    refine ⟨_, rfl, l, rs, rfl, SqL.of (s4 _ _ hl), for_enum (K := K) (xs := rs) (fun i σ H' => (∃ y6 y7 y8 : Option V, σ = [some (.ref l), some (.str t), some (.int F), some (.ref a), some (.ref b), some (.ref c), y6, y7, y8]) ∧ Same H H' ∧ H' a = some (.lst (((List.range i).filter (isA F ws)).map iV)) ∧ (∃ ls, H' b = some (.lst ls) ∧ Ents (RowI H') ls (((List.range i).filter (isL U F t ws)).map (cst U ws))) ∧ H' c = some (.lst (((List.range i).filter (isB U F t ws)).map iV)))
      ⟨⟨_, _, _, rfl⟩, s4, ea2, ⟨[], eb2, .nil⟩, ec0⟩ (fun i σ H' _ z => SqL.of (z.2.1 _ _ hl)) ?_ ?_⟩
    · rintro i x σ H5 T0 hx ⟨⟨y6, y7, y8, rfl⟩, s5, hA, ⟨ls, hB, hBe⟩, hC⟩ nT
      have hi : i < rs.length := (List.getElem?_eq_some_iff.mp hx).1
      have sT := same_new (o := HO.tup [.int (i : Nat), x]) nT
      have eT : upd H5 T0 (HO.tup [.int (i : Nat), x]) T0 = some (.tup [.int (i : Nat), x]) := upd_same
      generalize upd H5 T0 (HO.tup [.int (i : Nat), x]) = H6 at sT eT ⊢
      have s6 := s5.trans sT
      have hA := sT _ _ hA
      have hB := sT _ _ hB
      have hC := sT _ _ hC
      have hBe := hBe.mono fun _ _ z => RowI.same z sT
      obtain ⟨e, dx, rfl, ea⟩ := RE H6 i x s6 hx
      refine ⟨T0, _, rfl, SqT.of eT, rfl, _, _, rfl, _, _, rfl, rfl, ?_⟩
      dsimp only [gName, List.set]
      have sz := sizeLine_eq
      have lA : ((List.range i).filter (isA F ws)).length ≤ i := by
        have := List.length_filter_le (isA F ws) (List.range i)
        rwa [List.length_range] at this
      have lB : ((List.range i).filter (isL U F t ws)).length ≤ i := by
        have := List.length_filter_le (isL U F t ws) (List.range i)
        rwa [List.length_range] at this
      have lC : ((List.range i).filter (isB U F t ws)).length ≤ i := by
        have := List.length_filter_le (isB U F t ws) (List.range i)
        rwa [List.length_range] at this
      rw [filt_snoc, filt_snoc, filt_snoc]
      generalize (List.range i).filter (isA F ws) = qA at hA lA ⊢
      generalize (List.range i).filter (isL U F t ws) = qL at hBe lB ⊢
      generalize (List.range i).filter (isB U F t ws) = qB at hC lC ⊢
      have lls := hBe.len
      rw [List.length_map] at lls
      refine ⟨_, rfl, e, En, dx, _, .int (sgn (ws.getD i 0)), rfl, ea, TE.cls, TE.n4, eLk_s _ _ _ _ _, _, rfl, rfl, _, rfl, ite2 (fun g => ?_) (fun g => ?_)⟩
      · have kA : isA F ws i = true := by simpa [isA] using g
        have kL : isL U F t ws i = false := by unfold isL; rw [kA]; rfl
        have kB : isB U F t ws i = false := by unfold isB; rw [kA]; rfl
        rw [kA, kL, kB]
        simp only [if_true, Bool.false_eq_true, if_false, List.append_nil]
        refine ⟨_, rfl, .inl ⟨rfl, _, SqL.of hA⟩, _, rfl, a, _, _, rfl, rfl, hA, by rw [List.length_map]; omega, ?_⟩
        refine ⟨⟨_, _, _, rfl⟩, fun y o ey => ?_, ?_, ⟨ls, ?_, ?_⟩, ?_⟩
        · rw [upd_ne (ne_of_none ey Na)]
          exact s6 _ _ ey
        · rw [List.map_append]
          exact upd_same
        · exact (upd_ne ab).trans hB
        · exact hBe.mono fun _ _ z => RowI.put z hA
        · exact (upd_ne ac).trans hC
      have kA : isA F ws i = false := by simpa [isA] using g
      refine ⟨_, rfl, e, En, dx, _, .bl (isLoose U (ws.getD i 0) t), rfl, ea, TE.cls, TE.n5, eLk_l _ _ _ _ _, _, rfl, ite2 (fun g2 => ?_) (fun g2 => ?_)⟩
      · have kL : isL U F t ws i = true := by unfold isL; rw [kA, g2]; rfl
        have kB : isB U F t ws i = false := by unfold isB; rw [kA, g2]; rfl
        rw [kA, kL, kB]
        simp only [if_true, Bool.false_eq_true, if_false, List.append_nil]
        refine ⟨_, rfl, .inl ⟨rfl, _, SqL.of hB⟩, _, rfl, e, En, dx, _, .int (ws.getD i 0 / U), rfl, ea, TE.cls, TE.n2, eLk_f _ _ _ _ _, _, _, rfl, rfl, _, rfl, _, rfl, by show 2 ≤ sizeLine; decide, fun T1 nT1 => ?_⟩
        have s7 := same_new (o := HO.tup [.int (if ws.getD i 0 / U + 1 < 0 then -(ws.getD i 0 / U + 1) else ws.getD i 0 / U + 1), .int (i : Nat)]) nT1
        have e7 : RowI (upd H6 T1 (HO.tup [.int (if ws.getD i 0 / U + 1 < 0 then -(ws.getD i 0 / U + 1) else ws.getD i 0 / U + 1), .int (i : Nat)])) (.ref T1) (cst U ws i) := ⟨T1, rfl, upd_same⟩
        refine ⟨b, ls, _, rfl, rfl, s7 _ _ hB, by omega, ?_⟩
        generalize upd H6 T1 (HO.tup [.int (if ws.getD i 0 / U + 1 < 0 then -(ws.getD i 0 / U + 1) else ws.getD i 0 / U + 1), .int (i : Nat)]) = H7 at s7 e7 ⊢
        have hB7 := s7 _ _ hB
        refine ⟨⟨_, _, _, rfl⟩, fun y o ey => ?_, ?_, ⟨ls ++ [.ref T1], upd_same, ?_⟩, ?_⟩
        · rw [upd_ne (ne_of_none ey Nb)]
          exact s7 _ _ (s6 _ _ ey)
        · exact (upd_ne ab.symm).trans (s7 _ _ hA)
        · rw [List.map_append]
          exact Ents.snoc (hBe.mono fun _ _ z => RowI.put (RowI.same z s7) hB7) (RowI.put e7 hB7)
        · exact (upd_ne bc).trans (s7 _ _ hC)
      · have g3 : isLoose U (ws.getD i 0) t = false := by simpa using g2
        have kL : isL U F t ws i = false := by unfold isL; rw [kA, g3]; rfl
        have kB : isB U F t ws i = true := by unfold isB; rw [kA, g3]; rfl
        rw [kA, kL, kB]
        simp only [if_true, Bool.false_eq_true, if_false, List.append_nil]
        refine ⟨_, rfl, .inl ⟨rfl, _, SqL.of hC⟩, _, rfl, c, _, _, rfl, rfl, hC, by rw [List.length_map]; omega, ?_⟩
        refine ⟨⟨_, _, _, rfl⟩, fun y o ey => ?_, ?_, ⟨ls, ?_, ?_⟩, ?_⟩
        · rw [upd_ne (ne_of_none ey Nc)]
          exact s6 _ _ ey
        · exact (upd_ne ac.symm).trans hA
        · exact (upd_ne bc.symm).trans hB
        · exact hBe.mono fun _ _ z => RowI.put z hC
        · rw [List.map_append]
          exact upd_same
    rintro σ H5 ⟨⟨y6, y7, y8, rfl⟩, s5, hA, ⟨ls, hB, hBe⟩, hC⟩
    rw [rl] at hA hBe hC
    generalize hn : ws.length = n at *
    have sz := sizeLine_eq
    have lA : ((List.range n).filter (isA F ws)).length ≤ n := by
      have := List.length_filter_le (isA F ws) (List.range n)
      rwa [List.length_range] at this
    have lB : ((List.range n).filter (isL U F t ws)).length ≤ n := by
      have := List.length_filter_le (isL U F t ws) (List.range n)
      rwa [List.length_range] at this
    have lC : ((List.range n).filter (isB U F t ws)).length ≤ n := by
      have := List.length_filter_le (isB U F t ws) (List.range n)
      rwa [List.length_range] at this
    have pA := parts3 (f := isA F ws) (g := isL U F t ws) (h := isB U F t ws) (fun j => by
      unfold isL isB
      cases isA F ws j <;> cases isLoose U (ws.getD j 0) t <;> simp) (List.range n)
    have mA : ∀ j ∈ (List.range n).filter (isA F ws), sgn (ws.getD j 0) = F := fun j hj => by
      have := (List.mem_filter.mp hj).2
      simpa [isA] using this
    have mL : ∀ j ∈ (List.range n).filter (isL U F t ws), sgn (ws.getD j 0) ≠ F ∧ isLoose U (ws.getD j 0) t = true := fun j hj => by
      have := (List.mem_filter.mp hj).2
      simpa [isL, isA] using this
    have mB : ∀ j ∈ (List.range n).filter (isB U F t ws), sgn (ws.getD j 0) ≠ F ∧ isLoose U (ws.getD j 0) t = false := fun j hj => by
      have := (List.mem_filter.mp hj).2
      simpa [isB, isA] using this
    generalize (List.range n).filter (isA F ws) = qA at hA lA pA mA ⊢
    generalize (List.range n).filter (isL U F t ws) = qL at hBe lB pA mL ⊢
    generalize (List.range n).filter (isB U F t ws) = qB at hC lC pA mB ⊢
    have lls := hBe.len
    rw [List.length_map] at lls
    refine ⟨_, rfl, _, rfl, b, ls, kOf H5, rfl, SqL.of hB, fun x hx => ?_, fun zs z srt stb nz => ?_⟩
    · obtain ⟨x', hx', r⟩ := entsI_mem hBe hx
      exact (kOf_row r).2
    have rows : ∀ v ∈ zs, ∃ j ∈ qL, kOf H5 v = cst U ws j ∧ RowI H5 v (kOf H5 v) := fun v hv => by
      obtain ⟨e, he, r⟩ := entsI_mem hBe (stb.perm.subset hv)
      obtain ⟨j, hj, rfl⟩ := List.mem_map.mp he
      have k := (kOf_row r).1
      exact ⟨j, hj, k, by rw [k]; exact r⟩
    have kp : List.Perm (zs.map fun v => (kOf H5 v).2.toNat) qL := by
      have := stb.perm.map fun v => (kOf H5 v).2.toNat
      refine this.trans (List.Perm.of_eq ?_)
      have e := entsI_map (f := kOf H5) (fun x e r => (kOf_row r).1) hBe
      have e2 : (ls.map (kOf H5)).map (fun q => q.2.toNat) = qL := by
        rw [e, List.map_map]
        have : ((fun q : Int × Int => q.2.toNat) ∘ cst U ws) = id := funext fun j => Int.toNat_natCast j
        rw [this, List.map_id]
      rw [List.map_map] at e2
      exact e2
    have sz6 := same_new (o := HO.lst zs) nz
    have ez : upd H5 z (HO.lst zs) z = some (.lst zs) := upd_same
    generalize upd H5 z (HO.lst zs) = H6 at sz6 ez ⊢
    have zE : Ents (RowI H6) zs (zs.map (kOf H5)) := ents_self2 fun v hv => by
      obtain ⟨j, _, _, r⟩ := rows v hv
      exact RowI.same r sz6
    have zl : zs.length ≤ n := by rw [stb.perm.length_eq, lls]; exact lB
    refine ⟨z, rfl, ⟨_, SqL.of ez⟩, fun D nD => lc_ent (R := RowI) (S := IsI) (cnd := fun _ => true) (out := fun e : Int × Int => e.2) ez zE nD (by rw [List.length_map]; omega) (fun _ _ _ _ h z => RowI.same h z) (fun _ _ _ _ h _ => h) (fun _ _ _ _ _ h _ => h) (fun r e H' Nx No he s1 hr nx no => ?_) fun H7 ys s7 hD hI => ?_⟩
    · obtain ⟨a, rfl, ea⟩ := hr
      refine ⟨a, _, rfl, SqT.of ea, rfl, _, _, rfl, _, _, rfl, rfl, ?_⟩
      dsimp only [gName, List.set]
      refine ⟨rfl, ?_⟩
      unfold tYes
      dsimp only
      rw [if_pos rfl]
      exact ⟨_, rfl, nx rfl _ _ (fun _ _ z => z) rfl⟩
    have fa : ((zs.map (kOf H5)).filter fun _ => true) = zs.map (kOf H5) := by rw [List.filter_eq_self]; exact fun _ _ => rfl
    rw [fa] at hI
    obtain rfl := ents_int hI
    have ey : ((zs.map (kOf H5)).map (fun e : Int × Int => e.2)).map V.int = (zs.map fun v => (kOf H5 v).2.toNat).map iV := by
      rw [List.map_map, List.map_map, List.map_map]
      refine List.map_congr_left fun v hv => ?_
      obtain ⟨j, _, k, _⟩ := rows v hv
      show V.int (kOf H5 v).2 = V.int (((kOf H5 v).2.toNat : Nat) : Int)
      rw [k]
      show V.int ((j : Nat) : Int) = V.int ((((j : Nat) : Int).toNat : Nat) : Int)
      rw [Int.toNat_natCast]
    rw [ey] at hD
    have sorted : List.Pairwise (fun a b : V => (kOf H5 a).1 ≤ (kOf H5 b).1) zs := List.Pairwise.imp (fun {a b} h => by
      have := SrtO.lexB_no.mp h
      omega) srt
    have riseOf : ∀ (dn : Bool), (∀ j ∈ qL, (cst U ws j).1 = szE dn U (ws.getD j 0)) → Rise ((pk ws (zs.map fun v => (kOf H5 v).2.toNat)).map fun y => (szE dn U y, 1)) := fun dn h => by
      have e : ((pk ws (zs.map fun v => (kOf H5 v).2.toNat)).map fun y => (szE dn U y, 1)) = zs.map fun v => ((kOf H5 v).1, 1) := by
        unfold pk
        rw [List.map_map, List.map_map]
        refine List.map_congr_left fun v hv => ?_
        obtain ⟨j, hj, k, _⟩ := rows v hv
        show (szE dn U (ws.getD (kOf H5 v).2.toNat 0), 1) = ((kOf H5 v).1, 1)
        rw [k, h j hj]
        show (szE dn U (ws.getD ((j : Nat) : Int).toNat 0), 1) = _
        rw [Int.toNat_natCast]
      rw [e]
      exact rise_of sorted
    have kl : (zs.map fun v => (kOf H5 v).2.toNat).length ≤ n := by rw [List.length_map]; exact zl
    generalize (zs.map fun v => (kOf H5 v).2.toNat) = ks at hD kp riseOf kl
    have s57 := sz6.trans s7
    refine ⟨a, D, _, _, rfl, rfl, s57 _ _ hA, hD, by rw [List.length_map, List.length_map]; omega, fun q1 n1 => ?_⟩
    have t1 := same_new (o := HO.lst (qA.map iV ++ ks.map iV)) n1
    have g1 : upd H7 q1 (HO.lst (qA.map iV ++ ks.map iV)) q1 = some (.lst (qA.map iV ++ ks.map iV)) := upd_same
    generalize upd H7 q1 (HO.lst (qA.map iV ++ ks.map iV)) = H8 at t1 g1 ⊢
    refine ⟨_, rfl, q1, c, _, _, rfl, rfl, g1, t1 _ _ (s57 _ _ hC), by rw [List.length_append, List.length_map, List.length_map, List.length_map]; omega, fun q2 n2 => ?_⟩
    have t2 := same_new (o := HO.lst (qA.map iV ++ ks.map iV ++ qB.map iV)) n2
    refine q q2 (qA ++ ks ++ qB) _ (((s5.trans s57).trans t1).trans t2) (by rw [List.map_append, List.map_append]; exact upd_same) (((kp.append_left qA).append_right qB).trans pA) (fun hc => ?_) (fun hc => ?_)
    · have F1 : F = -1 := by rw [← hF, decide_eq_true hc]; rfl
      rw [F1] at mA mL mB
      rw [hU, pk_app, pk_app]
      have cs : ∀ j ∈ qL, (cst U ws j).1 = szE true U (ws.getD j 0) := fun j hj => by
        obtain ⟨a1, a2⟩ := mL j hj
        have x0 : ¬ ws.getD j 0 < 0 := fun z => a1 (sgn_neg z)
        have := div_pos' U0 (show 0 ≤ ws.getD j 0 by omega)
        show (if ws.getD j 0 / U + 1 < 0 then _ else _) = ws.getD j 0 / U + 1
        rw [if_neg (by omega)]
      refine cut_best U0 hc (fun y hy => ?_) (fun y hy => ?_) (riseOf true cs) fun y hy => ?_
      · obtain ⟨j, hj, rfl⟩ := List.mem_map.mp hy
        exact sgn_m (mA j hj)
      · obtain ⟨j, hj, rfl⟩ := List.mem_map.mp hy
        obtain ⟨a1, a2⟩ := mL j (kp.subset hj)
        exact ⟨a2, Int.not_lt.mp fun z => a1 (sgn_neg z)⟩
      · obtain ⟨j, hj, rfl⟩ := List.mem_map.mp hy
        obtain ⟨a1, a2⟩ := mB j hj
        exact ⟨a2, Int.not_lt.mp fun z => a1 (sgn_neg z)⟩
    · have F1 : F = 1 := by
        rw [← hF, decide_eq_false (fun z : t ∈ cutW => by
          simp only [awayW, List.mem_cons, List.not_mem_nil, or_false] at hc
          rcases hc with rfl | rfl
          · exact absurd z (by decide +kernel)
          · exact absurd z (by decide +kernel))]
        rfl
      rw [F1] at mA mL mB
      rw [hU, pk_app, pk_app]
      have cs : ∀ j ∈ qL, (cst U ws j).1 = szE false U (ws.getD j 0) := fun j hj => by
        obtain ⟨a1, a2⟩ := mL j hj
        have x0 : ¬ 0 < ws.getD j 0 := fun z => a1 (sgn_pos z)
        have x1 := loose_ne U0 a2
        have := div_neg U0 (show ws.getD j 0 < 0 by omega)
        show (if ws.getD j 0 / U + 1 < 0 then -(ws.getD j 0 / U + 1) else ws.getD j 0 / U + 1) = -(ws.getD j 0 / U) - 1
        split <;> omega
      refine away_best U0 hc (fun y hy => ?_) (fun y hy => ?_) (riseOf false cs) fun y hy => ?_
      · obtain ⟨j, hj, rfl⟩ := List.mem_map.mp hy
        exact sgn_p (mA j hj)
      · obtain ⟨j, hj, rfl⟩ := List.mem_map.mp hy
        obtain ⟨a1, a2⟩ := mL j (kp.subset hj)
        have x0 : ¬ 0 < ws.getD j 0 := fun z => a1 (sgn_pos z)
        have x1 := loose_ne U0 a2
        exact ⟨a2, by omega⟩
      · obtain ⟨j, hj, rfl⟩ := List.mem_map.mp hy
        obtain ⟨a1, a2⟩ := mB j hj
        exact ⟨a2, Int.not_lt.mp fun z => a1 (sgn_pos z)⟩
end
end K50

/-! k50: the program: from one order to another. -/
namespace K50
open PySem PySem.Spec PyProof.Rows L2 LamX NdefX Own
abbrev pOw : Stmt := topS 47
abbrev nOw : List Str := ["entries", "way", "order", "other", "units", "place", "index", "at"]
/-- what an order comes to -/
def tot (U : Int) (t : Str) (ws : List Int) (os : List Nat) : Int := runL U t (pk ws os) 0
/-- on the way from one order to the other -/
structure Jb (U : Int) (t : Str) (ws : List Int) (n : Nat) (u : Int) (cur : List Nat) : Prop where
  p : List.Perm cur (List.range n)
  ne : tot U t ws cur ≠ u
  c : t ∈ cutW → u < tot U t ws cur
theorem jb_swap {U : Int} (hU : 0 < U) {t : Str} {ws : List Int} {n : Nat} {u : Int} {A B : List Nat} {x e : Nat} (J : Jb U t ws n u (A ++ x :: e :: B)) (h : tot U t ws (A ++ e :: x :: B) ≠ u) : Jb U t ws n u (A ++ e :: x :: B) := by
  refine ⟨((List.Perm.swap x e B).append_left A).trans J.p, h, fun hc => ?_⟩
  have a := J.c hc
  have b : tot U t ws (A ++ x :: e :: B) ≤ tot U t ws (A ++ e :: x :: B) + 1 := by
    unfold tot
    rw [pk_app, pk_app]
    exact cut_swap hU hc (pk ws A) (pk ws B) (ws.getD x 0) (ws.getD e 0)
  omega
theorem ixN_cast {n j : Nat} (h : j < n) : ixN n (j : Int) = some j := by
  unfold ixN
  rw [if_pos (by omega), if_pos (by omega), Int.toNat_natCast]
theorem set_two {α : Type} (x e : α) (B : List α) : ∀ A : List α, ((A ++ x :: e :: B).set A.length e).set (A.length + 1) x = A ++ e :: x :: B
  | [] => rfl
  | a :: A => by
    show a :: ((A ++ x :: e :: B).set A.length e).set (A.length + 1) x = a :: (A ++ e :: x :: B)
    rw [set_two x e B A]
theorem get_mid {α : Type} (A : List α) (x : α) (B : List α) : (A ++ x :: B)[A.length]? = some x := by
  rw [List.getElem?_append_right (Nat.le_refl _), Nat.sub_self]
  rfl
theorem get_mid1 {α : Type} (A : List α) (x e : α) (B : List α) : (A ++ x :: e :: B)[A.length + 1]? = some e := by
  rw [List.getElem?_append_right (by omega), show A.length + 1 - A.length = 1 by omega]
  rfl
theorem find_at {cur zs : List Nat} {n i e : Nat} (p : List.Perm cur (List.range n)) (pz : List.Perm zs (List.range n)) (he : zs[i]? = some e) (tk : cur.take i = zs.take i) : ∃ A B, cur = A ++ e :: B ∧ e ∉ A ∧ i ≤ A.length ∧ A.take i = zs.take i := by
  have nc : cur.Nodup := p.nodup_iff.mpr List.nodup_range
  have nz : zs.Nodup := pz.nodup_iff.mpr List.nodup_range
  have hm : e ∈ cur := (p.trans pz.symm).mem_iff.mpr (List.mem_of_getElem? he)
  obtain ⟨A, B, rfl⟩ := List.append_of_mem hm
  have nA : e ∉ A := fun z => by
    have := (List.nodup_append.mp nc).2.2 e z e List.mem_cons_self
    exact this rfl
  have hi : i ≤ A.length := by
    refine Nat.le_of_not_lt fun z => ?_
    have h1 : ((A ++ e :: B).take i)[A.length]? = some e := by rw [List.getElem?_take, if_pos z, get_mid]
    rw [tk, List.getElem?_take, if_pos z] at h1
    have l1 : A.length < zs.length := (List.getElem?_eq_some_iff.mp h1).1
    have := (List.getElem?_inj l1 nz).mp (h1.trans he.symm)
    omega
  refine ⟨A, B, rfl, nA, hi, ?_⟩
  rw [← tk, List.take_append_of_le_length hi]
section
variable {P : Program} {w : World} {K : PySem.W.Frag} {mg : Str → Option Value} {base : Heap} {C CB W En Pm : Addr} {Ls : List (Addr × Str)}
theorem scOwB : FnScope nOw ["entries", "way", "order", "other", "units"] (defScope pOw) := ⟨rfl, rfl, rfl, by decide +kernel, rfl, by decide +kernel, by decide +kernel⟩
def spOb (En : Addr) : Sp := fun vs H Q _ => ∃ (l o z : Addr) (ws : List Int) (os zs : List Nat) (p : Nat) (t : Str) (u : Int), vs = [.ref l, .str t, .ref o, .ref z, .int u] ∧ EnL En H l (ones ws) p t ∧ p ≤ 200 ∧ t ∈ waysL ∧ t ≠ "halfeven" ∧ H o = some (.lst (os.map iV)) ∧ H z = some (.lst (zs.map iV)) ∧ List.Perm os (List.range ws.length) ∧ List.Perm zs (List.range ws.length) ∧
  (t ∈ cutW → tot ((10 : Int) ^ p) t ws zs ≤ u ∧ u ≤ tot ((10 : Int) ^ p) t ws os) ∧ (t ∈ awayW → u = tot ((10 : Int) ^ p) t ws os ∨ u = tot ((10 : Int) ^ p) t ws zs) ∧ (t ∈ flatW → u = tot ((10 : Int) ^ p) t ws os) ∧
  ∀ (r : Addr) (ks : List Nat) (H' : Hp), Same H H' → H' r = some (.lst (ks.map iV)) → List.Perm ks (List.range ws.length) → tot ((10 : Int) ^ p) t ws ks = u → Q (.ref r) H'
theorem ok_ob (A : At K mg "_order_between" pOw ["entries", "way", "order", "other", "units"]) (B : Blt mg) (mE : mg "enumerate" = none) (DT : DefOk P w K mg base CX0 "_total_in" 3 ["entries", "way", "order"] (spTi En)) : DefOk P w K mg base CX0 "_order_between" 4 ["entries", "way", "order", "other", "units"] (spOb En) := by
  refine A.ok fun f fd F => F.ok scOwB (fun vs H Q E h => ?_) (fun cdv A outer s0 H vs Q E hr h => ?_)
  · obtain ⟨l, o, z, ws, os, zs, p, t, u, rfl, _⟩ := h
    rfl
  · obtain ⟨l, o, z, ws, os, zs, p, t, u, rfl, hL, hp, ht, hne, ho, hz, po, pz, hc, ha, hf, q⟩ := h
    have U0 := ten_pos p
    have nd := scOwB.nd
    have wl : (ones ws).length = ws.length := List.length_map _
    have elen := hL.len
    rw [wl] at elen
    refine ⟨_, pss_cons (ps_set (i := 2) nd rfl (.inl rfl) (pe_callTy call_list_of (by rfl) B.list (by decide +kernel) (pa_cons (pv 2) pa_nil)))
      (pss_cons (ps_if (pt_cmpR op_eq (pe_def DT hr (by decide) (by rfl) pass0 (pa_cons (pv 0) (pa_cons (pv 1) (pa_cons (pv 2) pa_nil)))) (pv 4) (nomark _)) (pss_one (ps_ret (pv 2))) pss_nil)
      (pss_cons (ps_for PassesOwn.never rfl (pi_enum (by rfl) mE (pa_cons (pv 3) pa_nil)) (pg_tup rfl (pgs_cons (pg_name (i := 5) nd rfl (.inl rfl)) (pgs_cons (pg_name (i := 6) nd rfl (.inl rfl)) pgs_nil))) (pss_one (ps_for PassesOwn.never rfl (pi_range3 (by rfl) B.range (pa_cons (pe_bm PySem.F.plainAttrs_list PySem.F.slot_list_index PySem.F.type_list_index mt_index (pv 2) (pa_cons (pv 6) pa_nil)) (pa_cons (pv 5) (pa_cons (pe_un un_neg pe_int) pa_nil)))) (pg_name (i := 7) nd rfl (.inl rfl)) (pss_cons (ps_asg (pe_tup (pa_cons (pe_ix ix_list (pv 2) (pv 7) (fun _ _ => rfl)) (pa_cons (pe_ix ix_list (pv 2) (pe_op op_sub (pv 7) pe_int) (fun _ _ => rfl)) pa_nil))) (pg_tup rfl (pgs_cons (pg_sub (pv 2) (pe_op op_sub (pv 7) pe_int) set_list) (pgs_cons (pg_sub (pv 2) (pv 7) set_list) pgs_nil)))) (pss_one (ps_if (pt_cmpR op_eq (pe_def DT hr (by decide) (by rfl) pass0 (pa_cons (pv 0) (pa_cons (pv 1) (pa_cons (pv 2) pa_nil)))) (pv 4) (nomark _)) (pss_one (ps_ret (pv 2))) pss_nil))))))
      (pss_one (ps_ret pe_non)))), ?_⟩
    generalize hU : (10 : Int) ^ p = U at U0 hc ha hf q
    have inr : ∀ {ks : List Nat}, List.Perm ks (List.range ws.length) → (∀ i ∈ ks, i < ws.length) ∧ ks.length ≤ 1000 := fun pk => ⟨fun i hi => List.mem_range.mp (pk.mem_iff.mp hi), by rw [pk.length_eq, List.length_range]; exact elen⟩
    have TI : ∀ (H' : Hp) (b : Addr) (ks : List Nat) (Q' : VK) (E' : XK), Same H H' → H' b = some (.lst (ks.map iV)) → List.Perm ks (List.range ws.length) → (∀ H2, Same H' H2 → Q' (.int (tot U t ws ks)) H2) → spTi En [.ref l, .str t, .ref b] H' Q' E' := fun H' b ks Q' E' s hb pk q' =>
      ⟨l, b, ws, ks, p, t, rfl, hL.same s, hp, ht, hb, (inr pk).1, (inr pk).2, fun H2 s2 => by rw [hU]; exact q' H2 s2⟩
    refine ⟨_, rfl, o, _, rfl, .inl (SqL.of ho), fun b nb => ?_⟩
    have s1 := same_new (o := HO.lst (os.map iV)) nb
    have eb : upd H b (HO.lst (os.map iV)) b = some (.lst (os.map iV)) := upd_same
    generalize upd H b (HO.lst (os.map iV)) = H1 at s1 eb ⊢
    dsimp only [gName, List.set]
    refine ⟨_, rfl, _, rfl, _, rfl, ?_⟩
    dsimp only [tNil]
    rw [List.append_nil]
    refine TI H1 b os _ _ s1 eb po fun H2 s2 => ?_
    refine ⟨_, rfl, rfl, _, rfl, ite2 (fun g => ?_) (fun g => ?_)⟩
    · have g' : tot U t ws os = u := by simpa using g
      exact ⟨_, rfl, q b os H2 (s1.trans s2) (s2 _ _ eb) po g'⟩
    have g' : tot U t ws os ≠ u := by simpa using g
    have nf : t ∉ flatW := fun y => g' (hf y).symm
    have hz' : t ∈ awayW → u = tot U t ws zs := fun y => (ha y).resolve_left fun z => g' z.symm
    have J0 : Jb U t ws ws.length u os := ⟨po, g', fun y => by have := (hc y).2; omega⟩
    have s12 := s1.trans s2
    have eb2 := s2 _ _ eb
    clear s1 s2 eb g
    have zl : (zs.map iV).length = ws.length := by rw [List.length_map, pz.length_eq, List.length_range]
    have sz := sizeLine_eq
    refine ⟨_, rfl, z, zs.map iV, rfl, SqL.of (s12 _ _ hz), for_enum (K := K) (xs := zs.map iV) (fun i σ H' => (∃ y5 y6 y7 : Option V, σ = [some (.ref l), some (.str t), some (.ref b), some (.ref z), some (.int u), y5, y6, y7]) ∧ Same H H' ∧ ∃ cur, H' b = some (.lst (cur.map iV)) ∧ Jb U t ws ws.length u cur ∧ cur.take i = zs.take i) ⟨⟨_, _, _, rfl⟩, s12, os, eb2, J0, by rw [List.take_zero, List.take_zero]⟩ (fun i σ H' _ y => SqL.of (y.2.1 _ _ hz)) ?_ ?_⟩
    · rintro i x σ H3 T0 hx ⟨⟨y5, y6, y7, rfl⟩, s3, cur, hcur, J, tk⟩ nT
      rw [List.getElem?_map] at hx
      obtain ⟨e, he, rfl⟩ := Option.map_eq_some_iff.mp hx
      have il : i < ws.length := by rw [← zl, List.length_map]; exact (List.getElem?_eq_some_iff.mp he).1
      have sT := same_new (o := HO.tup [.int (i : Nat), iV e]) nT
      have eT : upd H3 T0 (HO.tup [.int (i : Nat), iV e]) T0 = some (.tup [.int (i : Nat), iV e]) := upd_same
      generalize upd H3 T0 (HO.tup [.int (i : Nat), iV e]) = H4 at sT eT ⊢
      have s4 := s3.trans sT
      have hcur := sT _ _ hcur
      refine ⟨T0, _, rfl, SqT.of eT, rfl, _, _, rfl, _, _, rfl, rfl, ?_⟩
      clear sT eT nT s3
      dsimp only [gName, List.set]
      obtain ⟨A0, B0, rfl, nA, hi, tA⟩ := find_at J.p pz he tk
      have clen : (A0 ++ e :: B0).length = ws.length := by rw [J.p.length_eq, List.length_range]
      have al : A0.length < ws.length := by rw [List.length_append, List.length_cons] at clen; omega
      refine ⟨_, rfl, .inl ⟨rfl, _, SqL.of hcur⟩, _, rfl, b, _, iV e, A0.length, iV e, rfl, rfl, SqL.of hcur, rfl, ?_, ?_, ?_, ?_, ?_⟩
      · rw [List.all_eq_true]
        intro y hy
        obtain ⟨k, _, rfl⟩ := List.mem_map.mp hy
        rfl
      · rw [List.getElem?_map, get_mid]
        rfl
      · show eqV (iV e) (iV e) = true
        simp [eqV, iV]
      · intro m z' hm hz'
        rw [List.getElem?_map, List.getElem?_append_left hm] at hz'
        obtain ⟨k, hk, rfl⟩ := Option.map_eq_some_iff.mp hz'
        have ke : k ≠ e := fun y => nA (by rw [← y]; exact List.mem_of_getElem? hk)
        show eqV (iV k) (iV e) = false
        simp [eqV, iV]
        omega
      refine ⟨_, rfl, 1, rfl, _, _, _, _, rfl, RgC.neg (by omega) (by omega) (by omega) (by omega), ?_⟩
      refine for_rangeC (lo := ((A0.length : Nat) : Int)) (c := -1) (n := (((A0.length : Nat) : Int) - ((i : Nat) : Int)).toNat) (fun k σ H' => ∃ (A2 B2 : List Nat) (y7 : Option V), σ = [some (.ref l), some (.str t), some (.ref b), some (.ref z), some (.int u), some (.int (i : Nat)), some (iV e), y7] ∧ Same H H' ∧ H' b = some (.lst ((A2 ++ e :: B2).map iV)) ∧ A2.length + k = A0.length ∧ A2.take i = zs.take i ∧ Jb U t ws ws.length u (A2 ++ e :: B2))
        ⟨A0, B0, _, rfl, s4, hcur, rfl, tA, J⟩ ?_ ?_
      · rintro k σ H5 hk ⟨A2, B2, y7, rfl, s5, hb5, lk, t2, J2⟩
        have lA2 : i < A2.length := by omega
        obtain ⟨A3, x, rfl⟩ : ∃ A3 x, A2 = A3 ++ [x] := ⟨A2.dropLast, A2.getLast (by intro y; rw [y] at lA2; simp at lA2), (List.dropLast_concat_getLast _).symm⟩
        rw [List.length_append, List.length_singleton] at lk lA2
        rw [List.append_assoc, List.singleton_append] at hb5 J2
        have l5 : (A3 ++ x :: e :: B2).length = ws.length := by rw [J2.p.length_eq, List.length_range]
        rw [List.length_append, List.length_cons, List.length_cons] at l5
        rw [show ((A0.length : Nat) : Int) + ((k : Nat) : Int) * -1 = ((A3.length + 1 : Nat) : Int) by omega]
        dsimp only [gName, List.set]
        refine ⟨_, rfl, _, rfl, b, _, _, iV e, rfl, rfl, SqL.of hb5, atI_nat (j := A3.length + 1) (by rw [List.getElem?_map, get_mid1]; rfl), ?_⟩
        refine ⟨_, rfl, _, rfl, _, _, rfl, rfl, b, _, _, iV x, rfl, rfl, SqL.of hb5, ?_, ?_⟩
        · rw [show ((A3.length + 1 : Nat) : Int) - 1 = ((A3.length : Nat) : Int) by omega]
          exact atI_nat (j := A3.length) (by rw [List.getElem?_map, get_mid]; rfl)
        refine ⟨by show 2 ≤ sizeLine; decide, fun T1 n1 => ?_⟩
        have t1 := same_new (o := HO.tup [iV e, iV x]) n1
        have g1 : upd H5 T1 (HO.tup [iV e, iV x]) T1 = some (.tup [iV e, iV x]) := upd_same
        generalize upd H5 T1 (HO.tup [iV e, iV x]) = H6 at t1 g1 ⊢
        have hb6 := t1 _ _ hb5
        refine ⟨T1, _, rfl, SqT.of g1, rfl, _, _, rfl, _, rfl, _, rfl, _, _, rfl, rfl, b, _, _, A3.length, rfl, rfl, hb6, ?_, ?_⟩
        · rw [show ((A3.length + 1 : Nat) : Int) - 1 = ((A3.length : Nat) : Int) by omega]
          exact ixN_cast (by rw [List.length_map, List.length_append, List.length_cons]; omega)
        refine ⟨_, _, rfl, _, rfl, _, rfl, b, _, _, A3.length + 1, rfl, rfl, upd_same, ?_, rfl, ?_⟩
        · exact ixN_cast (by rw [List.length_set, List.length_map, List.length_append, List.length_cons, List.length_cons]; omega)
        have eL : ((((A3 ++ x :: e :: B2).map iV).set A3.length (iV e)).set (A3.length + 1) (iV x)) = (A3 ++ e :: x :: B2).map iV := by
          rw [List.map_append, List.map_cons, List.map_cons]
          have := set_two (iV x) (iV e) (B2.map iV) (A3.map iV)
          rw [List.length_map] at this
          rw [this, List.map_append, List.map_cons, List.map_cons]
        rw [eL]
        have Nb : H b = none := nb
        have s7 : Same H (upd (upd H6 b (HO.lst (((A3 ++ x :: e :: B2).map iV).set A3.length (iV e)))) b (HO.lst ((A3 ++ e :: x :: B2).map iV))) := fun y o ey => by
          rw [upd_ne (ne_of_none ey Nb), upd_ne (ne_of_none ey Nb)]
          exact t1 _ _ (s5 _ _ ey)
        have hb7 : upd (upd H6 b (HO.lst (((A3 ++ x :: e :: B2).map iV).set A3.length (iV e)))) b (HO.lst ((A3 ++ e :: x :: B2).map iV)) b = some (.lst ((A3 ++ e :: x :: B2).map iV)) := upd_same
        generalize upd (upd H6 b (HO.lst (((A3 ++ x :: e :: B2).map iV).set A3.length (iV e)))) b (HO.lst ((A3 ++ e :: x :: B2).map iV)) = H7 at s7 hb7 ⊢
        have pn : List.Perm (A3 ++ e :: x :: B2) (List.range ws.length) := ((List.Perm.swap x e B2).append_left A3).trans J2.p
        refine ⟨_, rfl, _, rfl, _, rfl, ?_⟩
        dsimp only [tNil]
        rw [List.append_nil]
        refine TI H7 b _ _ _ s7 hb7 pn fun H8 s8 => ?_
        refine ⟨_, rfl, rfl, _, rfl, ite2 (fun g => ?_) (fun g => ?_)⟩
        · have g' : tot U t ws (A3 ++ e :: x :: B2) = u := by simpa using g
          exact ⟨_, rfl, q b _ H8 (s7.trans s8) (s8 _ _ hb7) pn g'⟩
        · have g' : tot U t ws (A3 ++ e :: x :: B2) ≠ u := by simpa using g
          refine ⟨A3, x :: B2, _, rfl, s7.trans s8, s8 _ _ hb7, by omega, ?_, jb_swap U0 J2 g'⟩
          rw [← t2, List.take_append_of_le_length (by omega)]
      · rintro σ H5 ⟨A2, B2, y7, rfl, s5, hb5, lk, t2, J2⟩
        have la : A2.length = i := by omega
        have ea : A2 = zs.take i := by rw [← t2, ← la, List.take_length]
        refine ⟨⟨_, _, _, rfl⟩, s5, A2 ++ e :: B2, hb5, J2, ?_⟩
        rw [show zs.take (i + 1) = zs.take i ++ [e] by rw [List.take_succ, he]; rfl, ea]
        have : (zs.take i).length = i := by rw [← ea]; exact la
        rw [List.take_append, this, Nat.add_sub_cancel_left, List.take_of_length_le (by omega)]
        rfl
    · rintro σ H3 ⟨⟨y5, y6, y7, rfl⟩, s3, cur, hcur, J, tk⟩
      exfalso
      rw [List.length_map, List.take_length] at tk
      have lc : cur.length = zs.length := (J.p.trans pz.symm).length_eq
      rw [← lc, List.take_length] at tk
      subst tk
      rcases ways_parts ht with y | y | y | y
      · exact nf y
      · exact hne y
      · have := (hc y).1
        have := J.c y
        omega
      · exact J.ne (hz' y).symm
end
end K50

/-! k50: the program: an order by halves. -/
namespace K50
open PySem PySem.Spec PyProof.Rows L2 LamX NdefX Own
abbrev pOh : Stmt := topS 45
abbrev nOh : List Str := ["entries", "units", "indexes", "loose", "settled", "odd", "more", "turned", "turning", "order", "index", "ahead"]
def ifxO : Expr → Expr
  | .IfExp _ _ e _ => e
  | e => e
def subO : Expr → Expr
  | .Subscript e _ _ => e
  | e => e
def exprE : Stmt → Expr
  | .Expr e _ => e
  | _ => junkE
theorem blkH1 : BlkOk nOh (defScope pOh) (lcScope (asgV (inD pOh 1))) [("index", 10)] := blkOk_by (by decide +kernel)
theorem blkH2 : BlkOk nOh (defScope pOh) (lcScope (asgV (inD pOh 2))) [("index", 10)] := blkOk_by (by decide +kernel)
theorem blkH3 : BlkOk nOh (defScope pOh) (lcScope (asgV (inD pOh 3))) [("index", 10)] := blkOk_by (by decide +kernel)
theorem blkH4 : BlkOk nOh (defScope pOh) (lcScope (subO (ifxO (asgV (inD pOh 5))))) [("index", 10)] := blkOk_by (by decide +kernel)
theorem blkH5 : BlkOk nOh (defScope pOh) (lcScope (subO (asgV (inD pOh 6)))) [("index", 10)] := blkOk_by (by decide +kernel)
theorem blkH6 : BlkOk nOh (defScope pOh) (lcScope (argN 0 (exprE (inD pOh 9)))) [("index", 10)] := blkOk_by (by decide +kernel)
theorem blkH7 : BlkOk nOh (defScope pOh) (lcScope (argN 0 (retE (inD pOh 10)))) [("index", 10)] := blkOk_by (by decide +kernel)
theorem cut_to {xs : List V} {k : Nat} (h : k ≤ xs.length) : cutV xs none (some (k : Int)) = xs.take k := by
  unfold cutV
  have e1 : HT.sIx xs.length 0 none = 0 := rfl
  have e2 : HT.sIx xs.length xs.length (some (k : Int)) = k := by
    unfold HT.sIx
    simp [show ¬ (k : Int) < 0 by omega]; omega
  rw [e1, e2, List.drop_zero, Nat.sub_zero]
/-- an index -/
def IsNv (_ : Hp) (r : V) (j : Nat) : Prop := r = iV j
theorem ents_nv {H : Hp} : ∀ {ys : List V} {ns : List Nat}, Ents (IsNv H) ys ns → ys = ns.map iV
  | _, _, .nil => rfl
  | _, _, .cons r t => by rw [r, ents_nv t]; rfl
theorem nv_ents {H : Hp} : ∀ ns : List Nat, Ents (IsNv H) (ns.map iV) ns
  | [] => .nil
  | n :: r => .cons rfl (nv_ents r)
theorem in_nats (j : Nat) : ∀ ns : List Nat, inV (iV j) (ns.map iV) = decide (j ∈ ns)
  | [] => by simp [inV]
  | n :: r => by
    have ih := in_nats j r
    unfold inV at ih ⊢
    rw [List.map_cons, List.any_cons, ih]
    by_cases h : n = j
    · subst h; simp [eqV, iV]
    · have h' : ¬ j = n := fun z => h z.symm
      simp [eqV, iV, h, h', Int.ofNat_inj]
theorem flat_nats (ns : List Nat) : (ns.map iV).all flatV = true := by
  rw [List.all_eq_true]
  intro y hy
  obtain ⟨k, _, rfl⟩ := List.mem_map.mp hy
  rfl
theorem pk_range (ws : List Int) : pk ws (List.range ws.length) = ws := by
  unfold pk
  refine List.ext_getElem (by simp) fun i h1 h2 => ?_
  simp [List.getD_eq_getElem?_getD, List.getElem?_eq_getElem h2]
theorem wsum_cnt {f : Int → Int} {g : Int → Bool} (h : ∀ x, f x = if g x = true then 1 else 0) (ws : List Int) : ∀ os : List Nat, wsum f (ones (pk ws os)) = ((os.filter fun j => g (ws.getD j 0)).length : Int)
  | [] => rfl
  | j :: r => by
    show wsum f (ones (ws.getD j 0 :: pk ws r)) = _
    rw [wsum_ones, wsum_cnt h ws r, h, List.filter_cons]
    split
    · rw [List.length_cons]; omega
    · omega
theorem wsum_allone {f : Int → Int} : ∀ {ys : List Int}, (∀ y ∈ ys, f y = 1) → wsum f (ones ys) = (ys.length : Int)
  | [], _ => rfl
  | y :: r, h => by
    rw [wsum_ones, h y List.mem_cons_self, wsum_allone fun z hz => h z (List.mem_cons_of_mem _ hz), List.length_cons]
    omega
theorem zip_flat : ∀ {a b : List Nat}, a.length = b.length → List.Perm ((a.zip b).flatMap fun p => [p.2, p.1]) (a ++ b)
  | [], [], _ => .nil
  | [], _ :: _, h => by cases h
  | _ :: _, [], h => by cases h
  | x :: a, y :: b, h => by
    have ih := zip_flat (a := a) (b := b) (by simpa using h)
    show List.Perm (y :: x :: ((a.zip b).flatMap fun p => [p.2, p.1])) (x :: (a ++ y :: b))
    refine (List.Perm.swap x y _).trans (List.Perm.cons x ?_)
    exact (ih.cons y).trans List.perm_middle.symm
theorem flat_len : ∀ l : List (Nat × Nat), (l.flatMap fun p => [p.2, p.1]).length = 2 * l.length
  | [] => rfl
  | p :: r => by
    rw [List.flatMap_cons, List.length_append, flat_len r, List.length_cons, List.length_cons, List.length_cons, List.length_nil]
    omega
theorem split_off {l t : List Nat} (nl : l.Nodup) (st : t.Sublist l) : List.Perm l (t ++ l.filter fun j => !decide (j ∈ t)) := by
  have h1 : List.Perm (l.filter (fun j => decide (j ∈ t)) ++ l.filter fun j => !decide (j ∈ t)) l := List.filter_append_perm _ _
  have h2 : List.Perm (l.filter (fun j => decide (j ∈ t))) t := by
    refine (List.perm_ext_iff_of_nodup (nl.filter _) (st.nodup nl)).mpr fun a => ?_
    rw [List.mem_filter]
    constructor
    · exact fun z => of_decide_eq_true z.2
    · exact fun z => ⟨st.subset z, decide_eq_true z⟩
  exact h1.symm.trans (h2.append_right _)
theorem two_parts (f : Nat → Bool) (l : List Nat) : List.Perm l (l.filter f ++ l.filter fun j => !f j) := (List.filter_append_perm f l).symm
/-- what halves come to -/
theorem halves_tot {U : Int} (hU : 0 < U) {ws : List Int} {tu tg lo' se' lo se : List Nat} (pl : List.Perm lo (tu ++ lo')) (ps : List.Perm se (tg ++ se')) (pr : List.Perm (List.range ws.length) (lo ++ se)) (ln : tu.length = tg.length)
    (hl : ∀ j ∈ lo, isLoose U (ws.getD j 0) "halfeven" = true) (hs : ∀ j ∈ se, isLoose U (ws.getD j 0) "halfeven" = false) (hk : ∀ j ∈ tg, near (ws.getD j 0) U "halfeven" % 2 = 1) :
    List.Perm (((tu.zip tg).flatMap fun p => [p.2, p.1]) ++ lo' ++ se') (List.range ws.length) ∧
    tot U "halfeven" ws (((tu.zip tg).flatMap fun p => [p.2, p.1]) ++ lo' ++ se') = wsum (bsE U "halfeven") (ones ws) + wsum (odE U "halfeven") (ones ws) + (wsum (evE U "halfeven") (ones (pk ws tu)) - wsum (odE U "halfeven") (ones (pk ws tu))) := by
  have pf := zip_flat ln
  have p : List.Perm (((tu.zip tg).flatMap fun p => [p.2, p.1]) ++ lo' ++ se') (List.range ws.length) := by
    refine List.Perm.trans ?_ ((pl.append ps).symm.trans pr.symm)
    refine ((pf.append_right lo').append_right se').trans ?_
    rw [List.append_assoc, List.append_assoc, List.append_assoc, ← List.append_assoc tg lo' se', ← List.append_assoc lo' tg se']
    exact ((List.perm_append_comm (l₁ := tg) (l₂ := lo')).append_right se').append_left tu
  refine ⟨p, ?_⟩
  have hP : (pk ws ((tu.zip tg).flatMap fun p => [p.2, p.1])) = ((tu.zip tg).map fun p => (ws.getD p.2 0, ws.getD p.1 0)).flatMap fun p => [p.1, p.2] := by
    unfold pk
    rw [List.map_flatMap, List.flatMap_map]
    rfl
  have ms : ((tu.zip tg).map fun p => (ws.getD p.2 0, ws.getD p.1 0)).map (fun p => p.2) = pk ws tu := by
    rw [List.map_map]
    show (tu.zip tg).map (fun p => ws.getD p.1 0) = _
    have e : (tu.zip tg).map Prod.fst = tu := List.map_fst_zip (by omega)
    conv => rhs; rw [← e]
    unfold pk
    rw [List.map_map]
    rfl
  have key := even_best hU (P := (tu.zip tg).map fun p => (ws.getD p.2 0, ws.getD p.1 0)) (L := pk ws lo') (B := pk ws se') (fun q hq => by
      obtain ⟨⟨a, b⟩, hab, rfl⟩ := List.mem_map.mp hq
      have ha : a ∈ tu := (List.of_mem_zip hab).1
      have hb : b ∈ tg := (List.of_mem_zip hab).2
      exact ⟨hs b (ps.mem_iff.mpr (List.mem_append_left _ hb)), hk b hb, hl a (pl.mem_iff.mpr (List.mem_append_left _ ha))⟩)
    (fun y hy => by
      obtain ⟨j, hj, rfl⟩ := List.mem_map.mp hy
      exact hl j (pl.mem_iff.mpr (List.mem_append_right _ hj)))
    (fun y hy => by
      obtain ⟨j, hj, rfl⟩ := List.mem_map.mp hy
      exact hs j (ps.mem_iff.mpr (List.mem_append_right _ hj)))
  rw [← hP, ms, ← pk_app, ← pk_app] at key
  unfold tot
  rw [key]
  have w1 : wsum (bsE U "halfeven") (ones (pk ws (((tu.zip tg).flatMap fun p => [p.2, p.1]) ++ lo' ++ se'))) = wsum (bsE U "halfeven") (ones ws) := by
    have : List.Perm (pk ws (((tu.zip tg).flatMap fun p => [p.2, p.1]) ++ lo' ++ se')) ws := by
      have := p.map (fun i => ws.getD i 0)
      have e := pk_range ws
      unfold pk at e ⊢
      rwa [e] at this
    exact wsum_perm _ (this.map _)
  have w2 : wsum (odE U "halfeven") (ones ws) = wsum (odE U "halfeven") (ones (pk ws tu)) + wsum (odE U "halfeven") (ones (pk ws lo')) := by
    have q : List.Perm ws (pk ws tu ++ pk ws lo' ++ pk ws se) := by
      have := (pr.trans (pl.append_right se)).map (fun i => ws.getD i 0)
      have e := pk_range ws
      unfold pk at e ⊢
      rw [e, List.map_append, List.map_append] at this
      exact this
    have w0 : wsum (odE U "halfeven") (ones ws) = wsum (odE U "halfeven") (ones (pk ws tu ++ pk ws lo' ++ pk ws se)) := wsum_perm _ (q.map fun y => (y, 1))
    rw [w0, ones_app, ones_app, wsum_app, wsum_app, wsum_none (ys := pk ws se)]
    · omega
    · intro y hy
      obtain ⟨j, hj, rfl⟩ := List.mem_map.mp hy
      unfold odE
      rw [hs j hj]
      rfl
  rw [w1, w2]
  omega
section
variable {P : Program} {w : World} {K : PySem.W.Frag} {mg : Str → Option Value} {base : Heap} {C CB W En Pm : Addr} {Ls : List (Addr × Str)}
theorem scOh : FnScope nOh ["entries", "units"] (defScope pOh) := ⟨rfl, rfl, rfl, by decide +kernel, rfl, by decide +kernel, by decide +kernel⟩
def spOh (En : Addr) : Sp := fun vs H Q _ => ∃ (l : Addr) (ws : List Int) (p : Nat) (u lw hg : Int), vs = [.ref l, .int u] ∧ EnL En H l (ones ws) p "halfeven" ∧ p ≤ 200 ∧ Own.Ends ((10 : Int) ^ p) "halfeven" (ones ws) lw hg ∧ lw ≤ u ∧ u ≤ hg ∧
  ∀ (r : Addr) (ks : List Nat) (H' : Hp), Same H H' → H' r = some (.lst (ks.map iV)) → List.Perm ks (List.range ws.length) → tot ((10 : Int) ^ p) "halfeven" ws ks = u → Q (.ref r) H'
theorem ok_oh (A : At K mg "_order_by_halves" pOh ["entries", "units"]) (B : Blt mg) (mZ : mg "zip" = none) (TE : EntryC K mg En) (Db : DefOk P w K mg base CX0 "_base_of" 2 ["entries"] (spBo En)) : DefOk P w K mg base CX0 "_order_by_halves" 3 ["entries", "units"] (spOh En) := by
  refine A.ok fun f fd F => F.ok scOh (fun vs H Q E h => ?_) (fun cdv A outer s0 H vs Q E hr h => ?_)
  · obtain ⟨l, ws, p, u, lw, hg, rfl, _⟩ := h
    rfl
  · obtain ⟨l, ws, p, u, lw, hg, rfl, hL, hp, he, hlw, hhg, q⟩ := h
    have U0 := ten_pos p
    have nd := scOh.nd
    refine ⟨_, pss_cons (ps_set (i := 2) nd rfl (.inl rfl) (pe_listRg rfl (by rfl) B.list (prg_1 (by rfl) B.range (pe_callB call_len_seq (by rfl) B.len PySem.boot_len (pa_cons (pv 0) pa_nil)))))
      (pss_cons (ps_setLc (i := 3) (own := [("index", 10)]) (tt := tB (tFld K (tOp (rIxL K) (tVar 0) (tVar 10)) "is_loose")) (te := tVar 10) rfl nd rfl rfl rfl (pi_list (pv 2)) blkH1 (fun _ _ _ _ _ => (pg_name (i := 10) nd rfl (.inl rfl))) (fun _ _ _ _ _ => (pts_one (pt_val (pe_fld (pe_ix ix_list (pv 0) (pv 10) (fun _ _ => rfl)) (by rfl))))) (fun _ _ _ _ _ => (pv 10)))
      (pss_cons (ps_setLc (i := 4) (own := [("index", 10)]) (tt := tNot (tB (tFld K (tOp (rIxL K) (tVar 0) (tVar 10)) "is_loose"))) (te := tVar 10) rfl nd rfl rfl rfl (pi_list (pv 2)) blkH2 (fun _ _ _ _ _ => (pg_name (i := 10) nd rfl (.inl rfl))) (fun _ _ _ _ _ => (pts_one (pt_not (pt_val (pe_fld (pe_ix ix_list (pv 0) (pv 10) (fun _ _ => rfl)) (by rfl)))))) (fun _ _ _ _ _ => (pv 10)))
      (pss_cons (ps_setLc (i := 5) (own := [("index", 10)]) (tt := tTest (tOp rEq (tOp (rI (fun _ j => 0 < j) fun i j => .int (i % j)) (tFld K (tOp (rIxL K) (tVar 0) (tVar 10)) "floor") (tC (.int 2))) (tC (.int 1)))) (te := tVar 10) rfl nd rfl rfl rfl (pi_list (pv 3)) blkH3 (fun _ _ _ _ _ => (pg_name (i := 10) nd rfl (.inl rfl))) (fun _ _ _ _ _ => (pts_one (pt_cmpR op_eq (pe_op op_mod (pe_fld (pe_ix ix_list (pv 0) (pv 10) (fun _ _ => rfl)) (by rfl)) pe_int) pe_int (nomark _)))) (fun _ _ _ _ _ => (pv 10)))
      (pss_cons (ps_set (i := 6) nd rfl (.inl rfl) (pe_op op_sub (pe_op op_sub (pv 1) (pe_def Db hr (by decide) (by rfl) pass0 (pa_cons (pv 0) pa_nil))) (pe_callB call_len_seq (by rfl) B.len PySem.boot_len (pa_cons (pv 5) pa_nil))))
      (C8.pss_cut (ps_set (i := 7) nd rfl (.inr rfl) (pe_ifExp (pt_cmpR op_lt (pv 6) pe_int (nomark _)) (pe_slice sl_list (pv 5) po_none (po_some (pe_un un_neg (pv 6)))) (pe_slice sl_list (pe_lc (own := [("index", 10)]) (tt := tTest (tOp rEq (tOp (rI (fun _ j => 0 < j) fun i j => .int (i % j)) (tFld K (tOp (rIxL K) (tVar 0) (tVar 10)) "floor") (tC (.int 2))) (tC (.int 0)))) (te := tVar 10) rfl nd (pi_list (pv 3)) blkH4 (fun _ _ _ _ _ => (pg_name (i := 10) nd rfl (.inl rfl))) (fun _ _ _ _ _ => (pts_one (pt_cmpR op_eq (pe_op op_mod (pe_fld (pe_ix ix_list (pv 0) (pv 10) (fun _ _ => rfl)) (by rfl)) pe_int) pe_int (nomark _)))) (fun _ _ _ _ _ => (pv 10))) po_none (po_some (pv 6)))))
      (pss_cons (ps_set (i := 8) nd rfl (.inr rfl) (pe_slice sl_list (pe_lc (own := [("index", 10)]) (tt := tTest (tOp rEq (tOp (rI (fun _ j => 0 < j) fun i j => .int (i % j)) (tFld K (tOp (rIxL K) (tVar 0) (tVar 10)) "alone") (tC (.int 2))) (tC (.int 1)))) (te := tVar 10) rfl nd (pi_list (pv 4)) blkH5 (fun _ _ _ _ _ => (pg_name (i := 10) nd rfl (.inl rfl))) (fun _ _ _ _ _ => (pts_one (pt_cmpR op_eq (pe_op op_mod (pe_fld (pe_ix ix_list (pv 0) (pv 10) (fun _ _ => rfl)) (by rfl)) pe_int) pe_int (nomark _)))) (fun _ _ _ _ _ => (pv 10))) po_none (po_some (pe_callB call_len_seq (by rfl) B.len PySem.boot_len (pa_cons (pv 7) pa_nil)))))
      (pss_cons (ps_set (i := 9) nd rfl (.inl rfl) (pe_lst pa_nil))
      (pss_cons (ps_for PassesOwn.never rfl (pi_zip (by rfl) mZ (pa_cons (pv 7) (pa_cons (pv 8) pa_nil))) (pg_tup rfl (pgs_cons (pg_name (i := 10) nd rfl (.inl rfl)) (pgs_cons (pg_name (i := 11) nd rfl (.inl rfl)) pgs_nil))) (pss_one (ps_expr (pe_bm PySem.F.plainAttrs_list PySem.F.slot_list_extend PySem.F.type_list_extend mt_extend (pv 9) (pa_cons (pe_lst (pa_cons (pv 11) (pa_cons (pv 10) pa_nil))) pa_nil)))))
      (pss_cons (ps_expr (pe_bm PySem.F.plainAttrs_list PySem.F.slot_list_extend PySem.F.type_list_extend mt_extend (pv 9) (pa_cons (pe_lc (own := [("index", 10)]) (tt := tTest (tOp (rIn K true) (tVar 10) (tVar 7))) (te := tVar 10) rfl nd (pi_list (pv 3)) blkH6 (fun _ _ _ _ _ => (pg_name (i := 10) nd rfl (.inl rfl))) (fun _ _ _ _ _ => (pts_one (pt_cmpR op_notIn_seq (pv 10) (pv 7) (by rfl)))) (fun _ _ _ _ _ => (pv 10))) pa_nil)))
      (pss_one (ps_ret (pe_op op_cat (pv 9) (pe_lc (own := [("index", 10)]) (tt := tTest (tOp (rIn K true) (tVar 10) (tVar 8))) (te := tVar 10) rfl nd (pi_list (pv 4)) blkH7 (fun _ _ _ _ _ => (pg_name (i := 10) nd rfl (.inl rfl))) (fun _ _ _ _ _ => (pts_one (pt_cmpR op_notIn_seq (pv 10) (pv 8) (by rfl)))) (fun _ _ _ _ _ => (pv 10))))))))))))))), ?_⟩
    obtain ⟨⟨rs, hl, hE⟩, elen, hb⟩ := id hL
    have wl : (ones ws).length = ws.length := List.length_map _
    rw [wl] at elen
    have rl : rs.length = ws.length := by rw [hE.len, wl]
    have RE : ∀ (H' : Hp) (j : Nat), Same H H' → j < ws.length → ∃ a dx, rs[j]? = some (.ref a) ∧ H' a = some (.ins En dx (eRow ((1 : Nat) : Int) (ws.getD j 0 / ((10 : Int) ^ p)) (near (ws.getD j 0) ((10 : Int) ^ p) "halfeven") (sgn (ws.getD j 0)) (isLoose ((10 : Int) ^ p) (ws.getD j 0) "halfeven"))) := fun H' j s hj => by
      obtain ⟨v, hv, rr⟩ := ents_at hE (ones_get hj)
      obtain ⟨a, rfl, dx, ea⟩ := rr.same s
      exact ⟨a, dx, hv, ea⟩
    obtain ⟨ends, _, _, _⟩ := he
    obtain ⟨elo, ehi⟩ := ends rfl
    generalize hU : (10 : Int) ^ p = U at U0 RE elo ehi q
    have sz := sizeLine_eq
    -- the indexes
    refine ⟨_, rfl, l, rs, rfl, .inl (SqL.of hl), _, rfl, RgOk.of_le (Int.le_refl _) (by omega) (by decide) (by omega), fun a1 n1 => ?_⟩
    have ern : rgV 0 ((rs.length : Nat) : Int) = (List.range ws.length).map iV := by
      unfold rgV
      rw [Int.sub_zero, Int.toNat_natCast, rl]
      refine List.map_congr_left fun i _ => ?_
      show V.int (0 + ((i : Nat) : Int)) = V.int ((i : Nat) : Int)
      rw [Int.zero_add]
    rw [ern]
    have s1 := same_new (o := HO.lst ((List.range ws.length).map iV)) n1
    have h1 : upd H a1 (HO.lst ((List.range ws.length).map iV)) a1 = some (.lst ((List.range ws.length).map iV)) := upd_same
    generalize upd H a1 (HO.lst ((List.range ws.length).map iV)) = H1 at s1 h1 ⊢
    dsimp only [gName, List.set]
    have rN : ∀ {ns : List Nat}, (∀ j ∈ ns, j < ws.length) → True := fun _ => trivial
    have ltR : ∀ j ∈ List.range ws.length, j < ws.length := fun j hj => List.mem_range.mp hj
    refine ⟨_, rfl, a1, rfl, ⟨_, SqL.of h1⟩, fun a3 na3 => lc_ent (R := IsNv) (S := IsNv) (cnd := fun j : Nat => isLoose U (ws.getD j 0) "halfeven") (out := fun j : Nat => j) h1 (nv_ents (List.range ws.length)) na3 (by rw [List.length_range]; omega) (fun _ _ _ _ h _ => h) (fun _ _ _ _ h _ => h) (fun _ _ _ _ _ h _ => h) (fun r j H' Nx No hj sx hr nx no => ?_) fun H2 ys s2a h3 hA => ?_⟩
    · cases hr
      have jl := ltR j hj
      dsimp only [gName, List.set]
      refine ⟨rfl, ?_⟩
      have s02 := s1.trans sx
      have hl2 := s02 _ _ hl
      obtain ⟨a, dx, hv, ea⟩ := RE H' j s02 jl
      refine ⟨_, rfl, _, rfl, l, rs, (j : Nat), .ref a, rfl, rfl, SqL.of hl2, atI_nat (j := j) hv, a, En, dx, _, .bl (isLoose U (ws.getD j 0) "halfeven"), rfl, ea, TE.cls, TE.n5, eLk_l _ _ _ _ _, _, rfl, ?_⟩
      dsimp only
      cases hL : isLoose U (ws.getD j 0) "halfeven" with
      | true => exact (iteT ⟨_, rfl, nx (by first | exact hL | (rw [hL]; rfl) | (dsimp only; rw [hL]; rfl)) _ _ (fun _ _ z => z) rfl⟩)
      | false => exact (iteF (no (by first | exact hL | (rw [hL]; rfl) | (dsimp only; rw [hL]; rfl))))
    rw [List.map_id'] at hA
    obtain rfl := ents_nv hA
    clear hA
    have s2 := s1.trans s2a
    have h1 := s2a _ _ h1
    dsimp only [gName, List.set]
    refine ⟨_, rfl, a1, rfl, ⟨_, SqL.of h1⟩, fun a4 na4 => lc_ent (R := IsNv) (S := IsNv) (cnd := fun j : Nat => !isLoose U (ws.getD j 0) "halfeven") (out := fun j : Nat => j) h1 (nv_ents (List.range ws.length)) na4 (by rw [List.length_range]; omega) (fun _ _ _ _ h _ => h) (fun _ _ _ _ h _ => h) (fun _ _ _ _ _ h _ => h) (fun r j H' Nx No hj sx hr nx no => ?_) fun H3 ys s3a h4 hA => ?_⟩
    · cases hr
      have jl := ltR j hj
      dsimp only [gName, List.set]
      refine ⟨rfl, ?_⟩
      have s02 := s2.trans sx
      have hl2 := s02 _ _ hl
      obtain ⟨a, dx, hv, ea⟩ := RE H' j s02 jl
      refine ⟨_, rfl, _, rfl, l, rs, (j : Nat), .ref a, rfl, rfl, SqL.of hl2, atI_nat (j := j) hv, a, En, dx, _, .bl (isLoose U (ws.getD j 0) "halfeven"), rfl, ea, TE.cls, TE.n5, eLk_l _ _ _ _ _, _, rfl, ?_⟩
      dsimp only
      cases hL : isLoose U (ws.getD j 0) "halfeven" with
      | true => exact (iteF (no (by first | exact hL | (rw [hL]; rfl) | (dsimp only; rw [hL]; rfl))))
      | false => exact (iteT ⟨_, rfl, nx (by first | exact hL | (rw [hL]; rfl) | (dsimp only; rw [hL]; rfl)) _ _ (fun _ _ z => z) rfl⟩)
    rw [List.map_id'] at hA
    obtain rfl := ents_nv hA
    clear hA
    have s3 := s2.trans s3a
    have h3 := s3a _ _ h3
    clear h1 s2a s3a
    have pr : List.Perm (List.range ws.length) ((List.range ws.length).filter (fun j => isLoose U (ws.getD j 0) "halfeven") ++ (List.range ws.length).filter (fun j => !isLoose U (ws.getD j 0) "halfeven")) := two_parts _ _
    have nlo : ((List.range ws.length).filter (fun j => isLoose U (ws.getD j 0) "halfeven")).Nodup := List.nodup_range.filter _
    have nse : ((List.range ws.length).filter (fun j => !isLoose U (ws.getD j 0) "halfeven")).Nodup := List.nodup_range.filter _
    have lol : ∀ j ∈ (List.range ws.length).filter (fun j => isLoose U (ws.getD j 0) "halfeven"), j < ws.length ∧ isLoose U (ws.getD j 0) "halfeven" = true := fun j hj => ⟨ltR j (List.mem_filter.mp hj).1, (List.mem_filter.mp hj).2⟩
    have sel : ∀ j ∈ (List.range ws.length).filter (fun j => !isLoose U (ws.getD j 0) "halfeven"), j < ws.length ∧ isLoose U (ws.getD j 0) "halfeven" = false := fun j hj => ⟨ltR j (List.mem_filter.mp hj).1, by simpa using (List.mem_filter.mp hj).2⟩
    have oO : wsum (odE U "halfeven") (ones ws) = ((((List.range ws.length).filter (fun j => isLoose U (ws.getD j 0) "halfeven")).filter fun j => decide (ws.getD j 0 / U % 2 = 1)).length : Int) := by
      have := wsum_cnt (f := odE U "halfeven") (g := fun x => isLoose U x "halfeven" && decide (x / U % 2 = 1)) (fun x => rfl) ws (List.range ws.length)
      rw [pk_range] at this
      rw [this, List.filter_filter]
      congr 2
      exact List.filter_congr fun j _ => Bool.and_comm _ _
    have oE : wsum (evE U "halfeven") (ones ws) = ((((List.range ws.length).filter (fun j => isLoose U (ws.getD j 0) "halfeven")).filter fun j => decide (ws.getD j 0 / U % 2 = 0)).length : Int) := by
      have := wsum_cnt (f := evE U "halfeven") (g := fun x => isLoose U x "halfeven" && decide (x / U % 2 = 0)) (fun x => rfl) ws (List.range ws.length)
      rw [pk_range] at this
      rw [this, List.filter_filter]
      congr 2
      exact List.filter_congr fun j _ => Bool.and_comm _ _
    have oK : wsum (kyE U "halfeven") (ones ws) = ((((List.range ws.length).filter (fun j => !isLoose U (ws.getD j 0) "halfeven")).filter fun j => decide (near (ws.getD j 0) U "halfeven" % 2 = 1)).length : Int) := by
      have := wsum_cnt (f := kyE U "halfeven") (g := fun x => !isLoose U x "halfeven" && decide (near x U "halfeven" % 2 = 1)) (fun x => rfl) ws (List.range ws.length)
      rw [pk_range] at this
      rw [this, List.filter_filter]
      congr 2
      exact List.filter_congr fun j _ => Bool.and_comm _ _
    have llo : ((List.range ws.length).filter (fun j => isLoose U (ws.getD j 0) "halfeven")).length ≤ ws.length := by
      have := List.length_filter_le (fun j => isLoose U (ws.getD j 0) "halfeven") (List.range ws.length)
      rwa [List.length_range] at this
    have lse : ((List.range ws.length).filter (fun j => !isLoose U (ws.getD j 0) "halfeven")).length ≤ ws.length := by
      have := List.length_filter_le (fun j => !isLoose U (ws.getD j 0) "halfeven") (List.range ws.length)
      rwa [List.length_range] at this
    generalize (List.range ws.length).filter (fun j => isLoose U (ws.getD j 0) "halfeven") = lo at h3 pr nlo lol oO oE llo ⊢
    generalize (List.range ws.length).filter (fun j => !isLoose U (ws.getD j 0) "halfeven") = se at h4 pr nse sel oK lse ⊢
    have ltL : ∀ j ∈ lo, j < ws.length := fun j hj => (lol j hj).1
    have ltS : ∀ j ∈ se, j < ws.length := fun j hj => (sel j hj).1
    dsimp only [gName, List.set]
    refine ⟨_, rfl, a3, rfl, ⟨_, SqL.of h3⟩, fun a5 na5 => lc_ent (R := IsNv) (S := IsNv) (cnd := fun j : Nat => decide (ws.getD j 0 / U % 2 = 1)) (out := fun j : Nat => j) h3 (nv_ents lo) na5 (by omega) (fun _ _ _ _ h _ => h) (fun _ _ _ _ h _ => h) (fun _ _ _ _ _ h _ => h) (fun r j H' Nx No hj sx hr nx no => ?_) fun H4 ys s4a h5 hA => ?_⟩
    · cases hr
      have jl := ltL j hj
      dsimp only [gName, List.set]
      refine ⟨rfl, ?_⟩
      have s02 := s3.trans sx
      have hl2 := s02 _ _ hl
      obtain ⟨a, dx, hv, ea⟩ := RE H' j s02 jl
      refine ⟨_, rfl, _, rfl, l, rs, (j : Nat), .ref a, rfl, rfl, SqL.of hl2, atI_nat (j := j) hv, a, En, dx, _, .int (ws.getD j 0 / U), rfl, ea, TE.cls, TE.n2, eLk_f _ _ _ _ _, _, _, rfl, rfl, (show (0 : Int) < 2 by decide), rfl, _, rfl, ?_⟩
      dsimp only
      by_cases g : (ws.getD j 0 / U) % 2 = 1
      · rw [if_pos (show decide (V.int ((ws.getD j 0 / U) % 2) = V.int 1) = true by rw [Own.dec_int]; exact decide_eq_true g)]
        exact ⟨_, rfl, nx (decide_eq_true g) _ _ (fun _ _ z => z) rfl⟩
      · rw [if_neg (show ¬ decide (V.int ((ws.getD j 0 / U) % 2) = V.int 1) = true by rw [Own.dec_int]; exact fun z => g (of_decide_eq_true z))]
        exact no (decide_eq_false g)
    rw [List.map_id'] at hA
    obtain rfl := ents_nv hA
    clear hA
    have s4 := s3.trans s4a
    have h3 := s4a _ _ h3
    have h4 := s4a _ _ h4
    have lod : (lo.filter fun j => decide (ws.getD j 0 / U % 2 = 1)).length ≤ lo.length := List.length_filter_le _ _
    have sod : (lo.filter fun j => decide (ws.getD j 0 / U % 2 = 1)).Sublist lo := List.filter_sublist
    have mod_ : ∀ j ∈ lo.filter (fun j => decide (ws.getD j 0 / U % 2 = 1)), ws.getD j 0 / U % 2 = 1 := fun j hj => by simpa using (List.mem_filter.mp hj).2
    generalize (lo.filter fun j => decide (ws.getD j 0 / U % 2 = 1)) = od at h5 oO lod sod mod_ ⊢
    dsimp only [gName, List.set]
    -- more
    refine ⟨_, rfl, _, rfl, l, ones ws, p, "halfeven", rfl, hL.same s4, fun H5 s5 => ?_⟩
    rw [hU]
    have h3 := s5 _ _ h3
    have h4 := s5 _ _ h4
    have h5 := s5 _ _ h5
    have s5 := s4.trans s5
    refine ⟨_, _, rfl, rfl, _, rfl, a5, _, rfl, .inl (SqL.of h5), _, _, rfl, rfl, ?_⟩
    rw [List.length_map]
    dsimp only [gName, List.set]
    generalize hm : u - wsum (bsE U "halfeven") (ones ws) - ((od.length : Nat) : Int) = more
    -- what turns
    refine ⟨fun σ H' => ∃ (a7 : Addr) (tu : List Nat), σ = [some (.ref l), some (.int u), some (.ref a1), some (.ref a3), some (.ref a4), some (.ref a5), some (.int more), some (.ref a7), none, none, none, none] ∧ Same H5 H' ∧ H' a7 = some (.lst (tu.map iV)) ∧ tu.Sublist lo ∧ (tu.length : Int) ≤ wsum (kyE U "halfeven") (ones ws) ∧ wsum (evE U "halfeven") (ones (pk ws tu)) - wsum (odE U "halfeven") (ones (pk ws tu)) = more, ?_, ?_⟩
    · refine ⟨_, rfl, _, _, rfl, rfl, _, rfl, ite2 (fun g => ?_) (fun g => ?_)⟩
      · have g' : more < 0 := of_decide_eq_true g
        obtain ⟨k, hk⟩ : ∃ k : Nat, -more = (k : Int) := ⟨(-more).toNat, by omega⟩
        refine ⟨_, rfl, _, rfl, _, rfl, -more, rfl, a5, _, rfl, SqL.of h5, fun q1 n1 => ?_⟩
        rw [hk, cut_to (by rw [List.length_map]; omega), ← List.map_take]
        refine ⟨q1, od.take k, rfl, same_new n1, upd_same, (List.take_sublist k od).trans sod, by rw [List.length_take]; omega, ?_⟩
        have m1 : ∀ j ∈ od.take k, ws.getD j 0 / U % 2 = 1 ∧ isLoose U (ws.getD j 0) "halfeven" = true := fun j hj => ⟨mod_ j (List.mem_of_mem_take hj), (lol j (sod.subset (List.mem_of_mem_take hj))).2⟩
        rw [wsum_none (f := evE U "halfeven"), wsum_allone (f := odE U "halfeven")]
        · unfold pk
          rw [List.length_map, List.length_take]
          omega
        · intro y hy
          obtain ⟨j, hj, rfl⟩ := List.mem_map.mp hy
          obtain ⟨x1, x2⟩ := m1 j hj
          unfold odE
          rw [x2, x1]
          rfl
        · intro y hy
          obtain ⟨j, hj, rfl⟩ := List.mem_map.mp hy
          obtain ⟨x1, x2⟩ := m1 j hj
          unfold evE
          rw [x2, x1]
          rfl
      · have g' : ¬ more < 0 := fun z => g (decide_eq_true z)
        obtain ⟨k, hk⟩ : ∃ k : Nat, more = (k : Int) := ⟨more.toNat, by omega⟩
        refine ⟨_, rfl, a3, rfl, ⟨_, SqL.of h3⟩, fun D nD => lc_ent (R := IsNv) (S := IsNv) (cnd := fun j : Nat => decide (ws.getD j 0 / U % 2 = 0)) (out := fun j : Nat => j) h3 (nv_ents lo) nD (by omega) (fun _ _ _ _ h _ => h) (fun _ _ _ _ h _ => h) (fun _ _ _ _ _ h _ => h) (fun r j H' Nx No hj sx hr nx no => ?_) fun H6 ys s6a hD hA => ?_⟩
        · cases hr
          have jl := ltL j hj
          dsimp only [gName, List.set]
          refine ⟨rfl, ?_⟩
          have s02 := s5.trans sx
          have hl2 := s02 _ _ hl
          obtain ⟨a, dx, hv, ea⟩ := RE H' j s02 jl
          refine ⟨_, rfl, _, rfl, l, rs, (j : Nat), .ref a, rfl, rfl, SqL.of hl2, atI_nat (j := j) hv, a, En, dx, _, .int (ws.getD j 0 / U), rfl, ea, TE.cls, TE.n2, eLk_f _ _ _ _ _, _, _, rfl, rfl, (show (0 : Int) < 2 by decide), rfl, _, rfl, ?_⟩
          dsimp only
          by_cases g : (ws.getD j 0 / U) % 2 = 0
          · rw [if_pos (show decide (V.int ((ws.getD j 0 / U) % 2) = V.int 0) = true by rw [Own.dec_int]; exact decide_eq_true g)]
            exact ⟨_, rfl, nx (decide_eq_true g) _ _ (fun _ _ z => z) rfl⟩
          · rw [if_neg (show ¬ decide (V.int ((ws.getD j 0 / U) % 2) = V.int 0) = true by rw [Own.dec_int]; exact fun z => g (of_decide_eq_true z))]
            exact no (decide_eq_false g)
        rw [List.map_id'] at hA
        obtain rfl := ents_nv hA
        clear hA
        refine ⟨_, rfl, more, rfl, D, _, rfl, SqL.of hD, fun q1 n1 => ?_⟩
        rw [hk, cut_to (by rw [List.length_map]; omega), ← List.map_take]
        have m1 : ∀ j ∈ (lo.filter fun j => decide (ws.getD j 0 / U % 2 = 0)).take k, ws.getD j 0 / U % 2 = 0 ∧ isLoose U (ws.getD j 0) "halfeven" = true := fun j hj => by
          have := List.mem_filter.mp (List.mem_of_mem_take hj)
          exact ⟨by simpa using this.2, (lol j this.1).2⟩
        refine ⟨q1, _, rfl, s6a.trans (same_new n1), upd_same, (List.take_sublist k _).trans List.filter_sublist, by rw [List.length_take]; omega, ?_⟩
        rw [wsum_none (f := odE U "halfeven"), wsum_allone (f := evE U "halfeven")]
        · unfold pk
          rw [List.length_map, List.length_take]
          omega
        · intro y hy
          obtain ⟨j, hj, rfl⟩ := List.mem_map.mp hy
          obtain ⟨x1, x2⟩ := m1 j hj
          unfold evE
          rw [x2, x1]
          rfl
        · intro y hy
          obtain ⟨j, hj, rfl⟩ := List.mem_map.mp hy
          obtain ⟨x1, x2⟩ := m1 j hj
          unfold odE
          rw [x2, x1]
          rfl

    rintro σ H6 ⟨a7, tu, rfl, s6a, h7, st, lk, evod⟩
    have h3 := s6a _ _ h3
    have h4 := s6a _ _ h4
    have s6 := s5.trans s6a
    clear s6a h5
    refine ⟨_, rfl, a4, rfl, ⟨_, SqL.of h4⟩, fun DK nDK => lc_ent (R := IsNv) (S := IsNv) (cnd := fun j : Nat => decide (near (ws.getD j 0) U "halfeven" % 2 = 1)) (out := fun j : Nat => j) h4 (nv_ents se) nDK (by omega) (fun _ _ _ _ h _ => h) (fun _ _ _ _ h _ => h) (fun _ _ _ _ _ h _ => h) (fun r j H' Nx No hj sx hr nx no => ?_) fun H7 ys s7a hD hA => ?_⟩
    · cases hr
      have jl := ltS j hj
      dsimp only [gName, List.set]
      refine ⟨rfl, ?_⟩
      have s02 := s6.trans sx
      have hl2 := s02 _ _ hl
      obtain ⟨a, dx, hv, ea⟩ := RE H' j s02 jl
      refine ⟨_, rfl, _, rfl, l, rs, (j : Nat), .ref a, rfl, rfl, SqL.of hl2, atI_nat (j := j) hv, a, En, dx, _, .int (near (ws.getD j 0) U "halfeven"), rfl, ea, TE.cls, TE.n3, eLk_a _ _ _ _ _, _, _, rfl, rfl, (show (0 : Int) < 2 by decide), rfl, _, rfl, ?_⟩
      dsimp only
      by_cases g : (near (ws.getD j 0) U "halfeven") % 2 = 1
      · rw [if_pos (show decide (V.int ((near (ws.getD j 0) U "halfeven") % 2) = V.int 1) = true by rw [Own.dec_int]; exact decide_eq_true g)]
        exact ⟨_, rfl, nx (decide_eq_true g) _ _ (fun _ _ z => z) rfl⟩
      · rw [if_neg (show ¬ decide (V.int ((near (ws.getD j 0) U "halfeven") % 2) = V.int 1) = true by rw [Own.dec_int]; exact fun z => g (of_decide_eq_true z))]
        exact no (decide_eq_false g)
    rw [List.map_id'] at hA
    obtain rfl := ents_nv hA
    clear hA
    have s7 := s6.trans s7a
    have h3 := s7a _ _ h3
    have h4 := s7a _ _ h4
    have h7 := s7a _ _ h7
    have mk_ : ∀ j ∈ se.filter (fun j => decide (near (ws.getD j 0) U "halfeven" % 2 = 1)), near (ws.getD j 0) U "halfeven" % 2 = 1 := fun j hj => by simpa using (List.mem_filter.mp hj).2
    have skl : (se.filter fun j => decide (near (ws.getD j 0) U "halfeven" % 2 = 1)).Sublist se := List.filter_sublist
    generalize (se.filter fun j => decide (near (ws.getD j 0) U "halfeven" % 2 = 1)) = ky at hD oK mk_ skl ⊢
    refine ⟨_, rfl, a7, _, rfl, .inl (SqL.of h7), _, rfl, DK, _, rfl, SqL.of hD, fun a8 n8 => ?_⟩
    rw [List.length_map, cut_to (by rw [List.length_map]; omega), ← List.map_take]
    have s8a := same_new (o := HO.lst ((ky.take tu.length).map iV)) n8
    have h8 : upd H7 a8 (HO.lst ((ky.take tu.length).map iV)) a8 = some (.lst ((ky.take tu.length).map iV)) := upd_same
    generalize upd H7 a8 (HO.lst ((ky.take tu.length).map iV)) = G at s8a h8 ⊢
    have s8 := s7.trans s8a
    have h3 := s8a _ _ h3
    have h4 := s8a _ _ h4
    have h7 := s8a _ _ h7
    have ln : tu.length = (ky.take tu.length).length := by rw [List.length_take]; omega
    have stg : (ky.take tu.length).Sublist se := (List.take_sublist _ _).trans skl
    have hk : ∀ j ∈ ky.take tu.length, near (ws.getD j 0) U "halfeven" % 2 = 1 := fun j hj => mk_ j (List.mem_of_mem_take hj)
    generalize ky.take tu.length = tg at h8 ln stg hk ⊢
    clear hD s7a s8a
    have key := halves_tot U0 (split_off nlo st) (split_off nse stg) pr ln (fun j hj => (lol j hj).2) (fun j hj => (sel j hj).2) hk
    have tl : tu.length ≤ ws.length := Nat.le_trans st.length_le llo
    dsimp only [gName, List.set]
    -- the order
    refine ⟨by show 0 ≤ sizeLine; decide, fun c nc => ?_⟩
    have sc := same_new (o := HO.lst []) nc
    have hc : upd G c (HO.lst []) c = some (.lst []) := upd_same
    generalize upd G c (HO.lst []) = G1 at sc hc ⊢
    dsimp only [gName, List.set]
    refine ⟨_, rfl, _, rfl, a7, a8, _, _, rfl, SqL.of (sc _ _ h7), SqL.of (sc _ _ h8), RZ.for_zipL (K := K) (xs := tu.map iV) (ys := tg.map iV) (by rw [List.length_map, List.length_map]; exact ln) (fun i σ H' => (∃ y10 y11 : Option V, σ = [some (.ref l), some (.int u), some (.ref a1), some (.ref a3), some (.ref a4), some (.ref a5), some (.int more), some (.ref a7), some (.ref a8), some (.ref c), y10, y11]) ∧ Same G H' ∧ H' c = some (.lst ((((tu.zip tg).take i).flatMap fun p => [p.2, p.1]).map iV))) ⟨⟨_, _, rfl⟩, sc, hc⟩ (fun i σ H' z => ⟨SqL.of (z.2.1 _ _ h7), SqL.of (z.2.1 _ _ h8)⟩) ?_ ?_⟩
    · rintro i x y T0 σ H' hx hy ⟨⟨y10, y11, rfl⟩, sg, hc'⟩ nT
      rw [List.getElem?_map] at hx hy
      obtain ⟨a, ha, rfl⟩ := Option.map_eq_some_iff.mp hx
      obtain ⟨b, hb, rfl⟩ := Option.map_eq_some_iff.mp hy
      have sT := same_new (o := HO.tup [iV a, iV b]) nT
      have eT : upd H' T0 (HO.tup [iV a, iV b]) T0 = some (.tup [iV a, iV b]) := upd_same
      generalize upd H' T0 (HO.tup [iV a, iV b]) = G2 at sT eT ⊢
      have hc2 := sT _ _ hc'
      have hz : (tu.zip tg)[i]? = some (a, b) := by rw [List.getElem?_zip_eq_some]; exact ⟨ha, hb⟩
      have il : i < tu.length := (List.getElem?_eq_some_iff.mp ha).1
      refine ⟨T0, _, rfl, SqT.of eT, rfl, _, _, rfl, _, _, rfl, rfl, ?_⟩
      dsimp only [gName, List.set]
      refine ⟨_, rfl, .inl ⟨rfl, _, SqL.of hc2⟩, _, rfl, _, rfl, by show 2 ≤ sizeLine; decide, fun q1 nq => ?_⟩
      have sq := same_new (o := HO.lst [iV b, iV a]) nq
      have eq : upd G2 q1 (HO.lst [iV b, iV a]) q1 = some (.lst [iV b, iV a]) := upd_same
      generalize upd G2 q1 (HO.lst [iV b, iV a]) = G3 at sq eq ⊢
      have fl : (((tu.zip tg).take i).flatMap fun p => [p.2, p.1]).length ≤ 2 * i := by
        rw [flat_len, List.length_take]
        omega
      refine ⟨c, q1, _, _, rfl, rfl, sq _ _ hc2, eq, by rw [List.length_map]; simp only [List.length_cons, List.length_nil]; omega, ⟨_, _, rfl⟩, fun y o ey => ?_, ?_⟩
      · rw [upd_ne (ne_of_none ey nc)]
        exact sq _ _ (sT _ _ (sg _ _ ey))
      · rw [List.take_succ, hz, List.flatMap_append, List.map_append]
        exact upd_same
    rintro σ H8 ⟨⟨y10, y11, rfl⟩, sg, hc⟩
    have zl : (tu.zip tg).take (tu.map iV).length = tu.zip tg := by
      rw [List.length_map]
      exact List.take_of_length_le (by rw [List.length_zip]; omega)
    rw [zl] at hc
    have fl : ((tu.zip tg).flatMap fun p => [p.2, p.1]).length = 2 * (tu.zip tg).length := flat_len _
    have zn : (tu.zip tg).length ≤ tu.length := by rw [List.length_zip]; omega
    have s9 := s8.trans sg
    have h4G := h4
    have h8G := h8
    have h3 := sg _ _ h3
    have h4 := sg _ _ h4
    have h7 := sg _ _ h7
    have h8 := sg _ _ h8
    clear sc zl
    refine ⟨_, rfl, .inl ⟨rfl, _, SqL.of hc⟩, _, rfl, a3, rfl, ⟨_, SqL.of h3⟩, fun D6 nD6 => lc_ent (R := IsNv) (S := IsNv) (cnd := fun j : Nat => !decide (j ∈ tu)) (out := fun j : Nat => j) h3 (nv_ents lo) nD6 (by omega) (fun _ _ _ _ h _ => h) (fun _ _ _ _ h _ => h) (fun _ _ _ _ _ h _ => h) (fun r j H' Nx No hj sx hr nx no => ?_) fun H9 ys s10a hD hA => ?_⟩
    · cases hr
      have jl := ltL j hj
      dsimp only [gName, List.set]
      refine ⟨rfl, ?_⟩
      refine ⟨_, rfl, _, rfl, a7, _, rfl, .inl (SqL.of (sx _ _ h7)), rfl, flat_nats _, _, rfl, ?_⟩
      rw [show (if true = true then !inV (iV j) (tu.map iV) else inV (iV j) (tu.map iV)) = !decide (j ∈ tu) by rw [if_pos rfl, in_nats]]
      by_cases g : j ∈ tu
      · rw [decide_eq_true g]
        exact iteF (no (by first | exact decide_eq_true g | (rw [decide_eq_true g]; rfl) | (dsimp only; rw [decide_eq_true g]; rfl)))
      · rw [decide_eq_false g]
        exact iteT ⟨_, rfl, nx (by first | exact decide_eq_false g | (rw [decide_eq_false g]; rfl) | (dsimp only; rw [decide_eq_false g]; rfl)) _ _ (fun _ _ z => z) rfl⟩
    rw [List.map_id'] at hA
    obtain rfl := ents_nv hA
    clear hA
    have s10 := s9.trans s10a
    have sg10 := sg.trans s10a
    have l6 : (lo.filter fun j => !decide (j ∈ tu)).length ≤ lo.length := List.length_filter_le _ _
    refine ⟨c, D6, _, _, rfl, rfl, s10a _ _ hc, hD, by rw [List.length_map, List.length_map]; omega, ?_⟩
    rw [← List.map_append]
    have s11 : Same G (upd H9 c (HO.lst ((((tu.zip tg).flatMap fun p => [p.2, p.1]) ++ lo.filter fun j => !decide (j ∈ tu)).map iV))) := fun y o ey => by
      rw [upd_ne (ne_of_none ey nc)]
      exact sg10 _ _ ey
    have hc11 : upd H9 c (HO.lst ((((tu.zip tg).flatMap fun p => [p.2, p.1]) ++ lo.filter fun j => !decide (j ∈ tu)).map iV)) c = some (.lst ((((tu.zip tg).flatMap fun p => [p.2, p.1]) ++ lo.filter fun j => !decide (j ∈ tu)).map iV)) := upd_same
    have h4 : upd H9 c (HO.lst ((((tu.zip tg).flatMap fun p => [p.2, p.1]) ++ lo.filter fun j => !decide (j ∈ tu)).map iV)) a4 = some (.lst (se.map iV)) := s11 _ _ h4G
    have h8 : upd H9 c (HO.lst ((((tu.zip tg).flatMap fun p => [p.2, p.1]) ++ lo.filter fun j => !decide (j ∈ tu)).map iV)) a8 = some (.lst (tg.map iV)) := s11 _ _ h8G
    generalize upd H9 c (HO.lst ((((tu.zip tg).flatMap fun p => [p.2, p.1]) ++ lo.filter fun j => !decide (j ∈ tu)).map iV)) = H10 at s11 hc11 h4 h8 ⊢
    have s11 := s8.trans s11
    refine ⟨_, rfl, _, rfl, a4, rfl, ⟨_, SqL.of h4⟩, fun D7 nD7 => lc_ent (R := IsNv) (S := IsNv) (cnd := fun j : Nat => !decide (j ∈ tg)) (out := fun j : Nat => j) h4 (nv_ents se) nD7 (by omega) (fun _ _ _ _ h _ => h) (fun _ _ _ _ h _ => h) (fun _ _ _ _ _ h _ => h) (fun r j H' Nx No hj sx hr nx no => ?_) fun H11 ys s12a hD hA => ?_⟩
    · cases hr
      have jl := ltS j hj
      dsimp only [gName, List.set]
      refine ⟨rfl, ?_⟩
      refine ⟨_, rfl, _, rfl, a8, _, rfl, .inl (SqL.of (sx _ _ h8)), rfl, flat_nats _, _, rfl, ?_⟩
      rw [show (if true = true then !inV (iV j) (tg.map iV) else inV (iV j) (tg.map iV)) = !decide (j ∈ tg) by rw [if_pos rfl, in_nats]]
      by_cases g : j ∈ tg
      · rw [decide_eq_true g]
        exact iteF (no (by first | exact decide_eq_true g | (rw [decide_eq_true g]; rfl) | (dsimp only; rw [decide_eq_true g]; rfl)))
      · rw [decide_eq_false g]
        exact iteT ⟨_, rfl, nx (by first | exact decide_eq_false g | (rw [decide_eq_false g]; rfl) | (dsimp only; rw [decide_eq_false g]; rfl)) _ _ (fun _ _ z => z) rfl⟩
    rw [List.map_id'] at hA
    obtain rfl := ents_nv hA
    clear hA
    have l7 : (se.filter fun j => !decide (j ∈ tg)).length ≤ se.length := List.length_filter_le _ _
    refine ⟨c, D7, _, _, rfl, rfl, s12a _ _ hc11, hD, by rw [List.length_map, List.length_map, List.length_append]; omega, fun r nr => ?_⟩
    refine q r _ _ ((s11.trans s12a).trans (same_new nr)) (by simp only [List.map_append]; exact upd_same) key.1 ?_
    rw [key.2, evod, oO, ← hm]
    omega
end
end K50

/-! own layer, of no law: OWN19: x in, not in a tuple of instances with an own __eq__. -/
namespace Own
open PySem PySem.SeqAt
open AutoSeq1 (wpAny_loadPart')
open MeetsSeq MeetsSeq2 MeetsSeq3 SeqRoads2 GQ
section
variable {prog : Program} {w : World} {A : Around} {R : Result → Shared → Prop}
theorem tuple_inG (l : Addr) (items : Array Value) (n : Nat) (dd : Option Addr) (sl : Array (Option Value)) (x : Value) (I : Nat → Shared → Prop)
    (turn : ∀ i (h1 : i < items.size) s, I i s → wpAny (model prog w) A.in1 (eqBool items[i] x) (fun r s' => if r = true then R (.ok (.ret (.bool true))) s' else I (i + 1) s') (fun e s' => R (.error e) s') s)
    (fin : ∀ s, I items.size s → R (.ok (.ret (.bool false))) s) {s : Shared} (hl1 : s.heap.get? l = some { cls := .type "tuple", dict := dd, data := .seq items n, slots := sl }) (h : I 0 s) :
    wpAny (model prog w) A.in1 (Builtin.«tuple.__contains__» ⟨[.ref l, x], []⟩) (FinOf prog w A R) (fun e s' => R (.error e) s') s := by
  have h0 := h
  obtain ⟨hp, g, d, tk, os⟩ := s
  wp_walk using wpAny_loadPart' hl1, wpAny_forIn_array _ (fun rest b s' => b.1 = none ∧ ∃ i, rest = items.toList.drop i ∧ i ≤ items.size ∧ I i s') _
  case turn =>
    rintro y rest b s' ⟨hb', i, hz, hi, hI⟩
    have h1 : i < items.size := by
      rcases Nat.lt_or_ge i items.size with h' | h'
      · exact h'
      · rw [List.drop_of_length_le (by simpa using h')] at hz; cases hz
    have h1' : i < items.toList.length := by simpa using h1
    rw [List.drop_eq_getElem_cons h1'] at hz
    injection hz with hy hrest
    have hy : y = items[i] := by rw [hy]; simp
    subst hy
    refine wpAny_bind (wpAny_mono (turn i h1 s' hI) (fun r s2 q2 => ?_) fun _ _ x => x)
    cases r with
    | true =>
      rw [if_pos rfl] at q2
      wp_walk
      exact q2
    | false =>
      rw [if_neg (by decide)] at q2
      wp_walk
      exact ⟨rfl, i + 1, hrest, h1, q2⟩
  case fin =>
    rintro ⟨b1, b2⟩ s' ⟨hb', i, hz, hi, hI⟩
    simp only at hb'
    subst hb'
    have hge : items.size ≤ i := by
      rcases Nat.lt_or_ge i items.size with h' | h'
      · rw [List.drop_eq_getElem_cons (by simpa using h')] at hz; cases hz
      · exact h'
    have hi' : i = items.size := by omega
    have hR : R (.ok (.ret (.bool false))) s' := fin s' (hi' ▸ hI)
    wp_walk
    exact hR
  case h =>
    exact ⟨rfl, 0, rfl, Nat.zero_le _, h0⟩
end
section
variable {prog : Program} {w : World} {A : Around} {E : Value → Shared → Prop} {s : Shared}
theorem notIn_tupG {l : Addr} {items : Array Value} {x : Value} {Q : Value → Shared → Prop} (I : Nat → Shared → Prop) (hl : s.heap.IsTuple l items)
    (turn : ∀ i (h1 : i < items.size) s, I i s → wpAny (model prog w) A.in1 (eqBool items[i] x) (fun r s' => if r = true then Q (.bool false) s' else I (i + 1) s') E s)
    (fin : ∀ s, I items.size s → Q (.bool true) s) (h : I 0 s) : wpAny (model prog w) A (compareOp .NotIn x (.ref l)) Q E s := by
  obtain ⟨⟨cls, dd, data, sl⟩, ho, hc, n, hd⟩ := id hl
  simp only at hc hd
  subst hc hd
  show wpAny _ A (do return .bool (!(← contains (.ref l) x))) Q E s
  refine wpAny_bind (wpAny_contains_slot ⟨_, ho, rfl⟩ F.slot_tuple_contains ?_)
  refine wpAny_mono (call_here (Q := fun v s' => ∃ b, v = .bool b ∧ Q (.bool (!b)) s') F.slot_tuple_contains ⟨_, ho, rfl⟩ F.entry_tuple_contains (F.args_tuple_contains_2 _ _) ?_) (fun v s' hv => ?_) fun _ _ e => e
  · refine tuple_inG (R := wants (fun v s' => ∃ b, v = .bool b ∧ Q (.bool (!b)) s') E) l items n dd sl x I (fun i h1 s' hI => ?_) (fun s' q => ⟨false, rfl, fin s' q⟩) ho h
    refine wpAny_mono (turn i h1 s' hI) (fun r s2 q => ?_) fun _ _ e => e
    cases r with
    | true =>
      rw [if_pos rfl] at q ⊢
      exact ⟨true, rfl, q⟩
    | false =>
      rw [if_neg (by decide)] at q ⊢
      exact q
  · obtain ⟨b, rfl, hq⟩ := hv
    exact wpAny_truthy_bool (wpAny_pure hq)
end
end Own

/-! k50: a worth among two worths. -/
namespace K50
open PySem PySem.Spec PyProof.Rows L2 LamX NdefX Own
section
variable {X : Cx} {W f : Addr} {fd : FuncData} {E : XK}
theorem wat_ins {H : Hp} {a : Addr} {u : Int} {s : Nat} (h : WAt W H a u s) : ∃ dx fs, H a = some (.ins W dx fs) := by
  obtain ⟨dx, e⟩ := h
  exact ⟨dx, _, e⟩
theorem wat_one {H : Hp} {a : Addr} {u u2 : Int} {s s2 : Nat} (h : WAt W H a u s) (g : WAt W H a u2 s2) : u = u2 ∧ s = s2 := by
  obtain ⟨dx, e⟩ := h
  obtain ⟨dy, e2⟩ := g
  have := e.symm.trans e2
  have w := (HO.ins.inj (Option.some.inj this)).2.2
  have e1 := congrArg (fun l => List.lookup ("units" : Str) l) w
  have e2 := congrArg (fun l => List.lookup ("scale" : Str) l) w
  try dsimp only at e1 e2
  rw [lk_u, lk_u] at e1
  rw [lk_s, lk_s] at e2
  exact ⟨V.int.inj (Option.some.inj e1), by have := V.int.inj (Option.some.inj e2); omega⟩
theorem eqB_w (WE : WEq X.prog X.w X.K X.mg X.base W f fd) (hx : Passes (L2.CX X.prog X.w) X E) {A : Around} {pins : List (Addr × Obj)} {s : Shared} {σ : L2.St} {H : Hp} {a b : Addr} {ua ub : Int} {sa sb : Nat} (su : Sub X 1 A) (I : Inv X pins σ H s) (wb : WAt W H b ub sb) (wa : WAt W H a ua sa) :
    wpAny (model X.prog X.w) A (PySem.eqBool (.ref b) (.ref a)) (fun r s' => r = (decide (ub = ua) && decide (sb = sa)) ∧ ∃ H', Inv X pins σ H' s' ∧ Same H H') X.xe s := by
  by_cases hab : b = a
  · subst hab
    obtain ⟨rfl, rfl⟩ := wat_one wb wa
    exact PySem.SeqAt.EqAt.same (A := A) (s := s) (.ref b) X.prog X.w X.xe _ ⟨by simp, H, I, fun _ _ e => e⟩
  refine GQ.eqBool_refG hab ?_
  obtain ⟨dx, fs, hb⟩ := wat_ins wb
  obtain ⟨dy, gs, ha⟩ := wat_ins wa
  obtain ⟨mA, J, _⟩ := ins_get I.hok hb
  obtain ⟨mB, J', _⟩ := ins_get I.hok ha
  obtain ⟨od, J, _⟩ := J.look
  obtain ⟨od', J', _⟩ := J'.look
  obtain ⟨m, hF⟩ := I.fr
  refine PySem.W.cmp_K (op := .Eq) (tb := .ref W) su.room.units0 hF I.ok.mod.kin J J'.type (by simp [PySem.W.notFirst]) WE.at_ WE.isf ?_
  have hsp : spEqW W [.ref b, .ref a] H (fun v H' => v = .bl (decide (ub = ua) && decide (sb = sa)) ∧ Same H H') E := ⟨b, ub, sb, .ref a, rfl, wb, .inl ⟨a, ua, sa, rfl, wa, fun H' e => ⟨rfl, e⟩⟩⟩
  have e0 : Env0 X.prog X.w X.K X.mg X.base A X.stack s H := by
    have e := I.env0
    exact ⟨by rw [su.fr]; exact e.frames, e.mod, e.bs, e.bsz, e.funs, e.frf, e.hok, e.bare⟩
  have hl := WE.fn.len _ _ _ _ hsp
  have r2 : Vals [V.ref b, V.ref a] [Value.ref b, Value.ref a] := .cons rfl (.cons rfl .nil)
  refine wpAny_call (codeAny_mono (WE.fn.run A X.stack s H ⟨[.ref b, .ref a], []⟩ [.ref b, .ref a] [.ref b, .ref a] _ E su.room e0 (by
    have := WE.bd s [.ref b, .ref a] I.kIn (by simpa using hl)
    simpa using this) r2 hsp) fun r s' hq => ?_)
  cases r with
  | error e => exact hx pins σ H s e s' I hq
  | ok fl =>
    cases fl with
    | ret w =>
      obtain ⟨z, H', I', rz, ez, ex⟩ := I.after hq
      subst ez
      cases rz
      exact ⟨_, rfl, rfl, H', I', ex⟩
    | next => exact False.elim hq
    | brk => exact False.elim hq
    | cont => exact False.elim hq
/-- a worth that is none of two -/
def rNotTwo (K : PySem.W.Frag) (W : Addr) : R2 := fun x y H Q => ∃ (a p b c : Addr) (u ub uc : Int) (s sb sc : Nat), x = .ref a ∧ y = .ref p ∧ SqT K H p [.ref b, .ref c] ∧ WAt W H a u s ∧ WAt W H b ub sb ∧ WAt W H c uc sc ∧ ∀ H', Same H H' → Q (.bl (!((decide (ub = u) && decide (sb = s)) || (decide (uc = u) && decide (sc = s))))) H'
theorem op_notTwo (WE : WEq X.prog X.w X.K X.mg X.base W f fd) (hx : Passes (L2.CX X.prog X.w) X E) (hr : Room 2 X.A) : OpR X (compareOp .NotIn) (rNotTwo X.K W) := by
  intro pins s σ H x y v u' Q I rx ry h
  obtain ⟨a, p, b, c, u, ub, uc, s1, sb, sc, rfl, rfl, hp, wa, wb, wc, q⟩ := h
  cases rx
  cases ry
  obtain ⟨its, rv, pl, hz⟩ := I.tuple hp
  cases rv with
  | cons r1 rr =>
    cases rr with
    | cons r2 rr =>
      cases rr
      cases r1
      cases r2
      have su : Sub X 1 X.A.in1 := Sub.in1 ⟨hr, rfl⟩
      refine notIn_tupG (fun i s' => ∃ H', Inv X pins σ H' s' ∧ Same H H' ∧ (0 < i → (decide (ub = u) && decide (sb = s1)) = false) ∧ (1 < i → (decide (uc = u) && decide (sc = s1)) = false)) pl (fun i h1 s' g => ?_) (fun s' g => ?_) ⟨H, I, fun _ _ e => e, fun z => absurd z (by decide), fun z => absurd z (by decide)⟩
      · obtain ⟨H1, I1, sm, g0, g1⟩ := g
        have h1' : i < 2 := by simpa using h1
        rcases (show i = 0 ∨ i = 1 by omega) with rfl | rfl
        · refine wpAny_mono (eqB_w WE hx su I1 (wb.same sm) (wa.same sm)) (fun r s2 z => ?_) fun _ _ e => e
          obtain ⟨hr, H2, I2, s2'⟩ := z
          cases r with
          | true =>
            rw [if_pos rfl]
            have := q H2 (sm.trans s2')
            rw [← hr] at this
            exact ⟨.bl false, H2, I2, rfl, by simpa using this⟩
          | false =>
            rw [if_neg (by decide)]
            exact ⟨H2, I2, sm.trans s2', fun _ => hr.symm, fun z => absurd z (by decide)⟩
        · refine wpAny_mono (eqB_w WE hx su I1 (wc.same sm) (wa.same sm)) (fun r s2 z => ?_) fun _ _ e => e
          obtain ⟨hr, H2, I2, s2'⟩ := z
          cases r with
          | true =>
            rw [if_pos rfl]
            have := q H2 (sm.trans s2')
            rw [← hr] at this
            exact ⟨.bl false, H2, I2, rfl, by simpa using this⟩
          | false =>
            rw [if_neg (by decide)]
            exact ⟨H2, I2, sm.trans s2', fun _ => g0 (by decide), fun _ => hr.symm⟩
      · obtain ⟨H1, I1, sm, g0, g1⟩ := g
        have := q H1 sm
        rw [g0 (by simp), g1 (by simp)] at this
        exact ⟨.bl true, H1, I1, rfl, this⟩
end
end K50

/-! k50: the program: order_for. -/
namespace K50
open PySem PySem.Spec PyProof.Rows L2 LamX NdefX Own
abbrev pOf : Stmt := topS 37
abbrev nOf : List Str := ["worths", "scale", "way", "total", "worth", "pairs", "least", "greatest", "entries", "units", "high", "low"]
theorem blkF1 : BlkOk nOf (defScope pOf) (lcScope (asgV (inD pOf 4))) [("worth", 4)] := blkOk_by (by decide +kernel)
theorem blkF2 : BlkOk nOf (defScope pOf) (lcScope (argN 0 (asgV (inD pOf 11)))) [("worth", 4)] := blkOk_by (by decide +kernel)
/-- a worth among the worths -/
def IsWt (W : Addr) (m : Nat) (H : Hp) (r : V) (x : Int) : Prop := ∃ (wa : Addr) (u : Int) (s : Nat), r = .ref wa ∧ WAt W H wa u s ∧ IsLow x m u s
theorem IsWt.same {W : Addr} {m : Nat} {H H' : Hp} {r : V} {x : Int} (h : IsWt W m H r x) (z : Same H H') : IsWt W m H' r x := by
  obtain ⟨wa, u, s, e1, e2, e3⟩ := h
  exact ⟨wa, u, s, e1, e2.same z, e3⟩
theorem PenG.extN {a b c : Str} {H H' : Hp} {d : Addr} {B : Int} (h : PenG a b c H d B) (e : ExtN H H') : PenG a b c H' d B := by
  obtain ⟨p, ns, m, l, e1, e2, r⟩ := h.ex
  exact ⟨p, ns, m, l, e _ _ e1 (fun ps z => by cases z), e _ _ e2 (fun ps z => by cases z), r⟩
theorem WAt.extN {W a : Addr} {u : Int} {s : Nat} {H H' : Hp} (h : WAt W H a u s) (e : ExtN H H') : WAt W H' a u s := by
  obtain ⟨d, ed⟩ := h
  exact ⟨d, e _ _ ed (fun ps z => by cases z)⟩
theorem IsWt.extN {W : Addr} {m : Nat} {H H' : Hp} {r : V} {x : Int} (h : IsWt W m H r x) (z : ExtN H H') : IsWt W m H' r x := by
  obtain ⟨wa, u, s, e1, e2, e3⟩ := h
  exact ⟨wa, u, s, e1, WAt.extN e2 z, e3⟩
theorem ItemT.extN {W : Addr} {m : Nat} {H H' : Hp} {r : V} {e : Int × Nat} (h : ItemT W m H r e) (z : ExtN H H') : ItemT W m H' r e := by
  obtain ⟨q, wa, u, s, e1, e2, e3, e4⟩ := h
  exact ⟨q, wa, u, s, e1, z _ _ e2 (fun ps y => by cases y), WAt.extN e3 z, e4⟩
/-- a total: what it is told as -/
structure Goal (C CG W Pm : Addr) (Ls : List (Addr × Str)) (H : Hp) (Q : VK) (E : XK) (ws : List Int) (m n : Nat) (t : Str) (ut : Int) (st : Nat) (lo hi : Int) : Prop where
  gap : t ∈ awayW → ¬ IsLow lo n ut st → ¬ IsLow hi n ut st → ∀ H', ExtN H H' → Tabs (TT Pm Ls) H' → Bad CG "way" (.str t) H' E
  non : (t ∈ awayW → IsLow lo n ut st ∨ IsLow hi n ut st) → (n < st ∨ ¬ (lo ≤ ut * (10 : Int) ^ (n - st) ∧ ut * (10 : Int) ^ (n - st) ≤ hi)) → ∀ H', ExtN H H' → Tabs (TT Pm Ls) H' → Q .non H'
  ord : (t ∈ awayW → IsLow lo n ut st ∨ IsLow hi n ut st) → st ≤ n → lo ≤ ut * (10 : Int) ^ (n - st) → ut * (10 : Int) ^ (n - st) ≤ hi → ∀ (r : Addr) (ks : List Nat) (H' : Hp), ExtN H H' → Tabs (TT Pm Ls) H' → H' r = some (.lst (ks.map iV)) → List.Perm ks (List.range ws.length) → tot ((10 : Int) ^ (m - n)) t ws ks = ut * (10 : Int) ^ (n - st) → Q (.ref r) H'
def spOf (C CG W Pm : Addr) (Ls : List (Addr × Str)) : Sp := fun vs H Q E => ∃ (l : Addr) (x y z : V) (pre post : List V) (ws : List Int) (m : Nat), vs = [.ref l, x, y, z] ∧ H l = some (.lst (pre ++ post)) ∧ Ents (IsWt W m H) pre ws ∧ Thing H x ∧ Thing H y ∧ m ≤ 200 ∧ ws.length ≤ 1000 ∧ (∀ x ∈ ws, x.natAbs < 2 ^ 300) ∧ Tabs (TT Pm Ls) H ∧
  ((∃ (v : V) (rest : List V), post = v :: rest ∧ Thing H v ∧ Bad C "value" v H E) ∨
  (post = [] ∧ (isWh x = false → Bad C "value" x H E) ∧ (isWh x = true → isWay y = false → Bad C "value" y H E) ∧ ∀ (n : Nat) (t : Str), x = .int n → y = .str t → t ∈ waysL → n ≤ m ∧
    ((Thing H z ∧ Bad C "value" z H E) ∨ ∃ (a : Addr) (ut : Int) (st : Nat), z = .ref a ∧ WAt W H a ut st ∧ ut.natAbs < 2 ^ 90000 ∧ ∀ lo hi : Int, Own.Ends ((10 : Int) ^ (m - n)) t (ones ws) lo hi → Goal C CG W Pm Ls H Q E ws m n t ut st lo hi)))
theorem getD_negs (ws : List Int) (j : Nat) : (negs ws).getD j 0 = -(ws.getD j 0) := by
  unfold negs
  rw [List.getD_eq_getElem?_getD, List.getD_eq_getElem?_getD, List.getElem?_map]
  cases ws[j]? <;> rfl
theorem pk_negs (ws : List Int) (os : List Nat) : pk (negs ws) os = negs (pk ws os) := by
  unfold pk negs
  rw [List.map_map]
  refine List.map_congr_left fun j _ => ?_
  exact getD_negs ws j
theorem pk_perm {ws : List Int} {os : List Nat} (p : List.Perm os (List.range ws.length)) : List.Perm (pk ws os) ws := by
  have := p.map (fun i => ws.getD i 0)
  have e := pk_range ws
  unfold pk at e ⊢
  rwa [e] at this
theorem hi_at {U : Int} {t : Str} {dn : Bool} {ws : List Int} {os : List Nat} {h : Int} (p : List.Perm os (List.range ws.length)) (a : Hi dn U t (ones ws) h) (b : Hi dn U t (ones (pk ws os)) (runL U t (pk ws os) 0)) : tot U t ws os = h :=
  (b.alike (Alike.perm ((pk_perm p).map _))).one a
theorem lo_at {U : Int} (hU : 0 < U) {t : Str} (ht : t ∈ cutW ∨ t ∈ awayW) {dn : Bool} {ws : List Int} {zs : List Nat} {l : Int} (p : List.Perm zs (List.range ws.length)) (a : Hi dn U t (mir (ones ws)) (-l)) (b : Hi dn U t (ones (pk (negs ws) zs)) (runL U t (pk (negs ws) zs) 0)) : tot U t ws zs = l := by
  have p2 : List.Perm zs (List.range (negs ws).length) := by unfold negs; rw [List.length_map]; exact p
  rw [mir_ones] at a
  have e := hi_at p2 a b
  have hw : t ∈ waysL := ht.elim (fun z => (cut_way z).1) (fun z => (away_way z).1)
  have r := run_neg hU hw ht (pk ws zs) 0
  unfold tot at e ⊢
  rw [pk_negs] at e
  rw [show (-0 : Int) = 0 from rfl] at r
  omega
theorem flat_at {U : Int} (hU : 0 < U) {t : Str} (ht : t ∈ flatW) {ws : List Int} {os : List Nat} (p : List.Perm os (List.range ws.length)) : tot U t ws os = wsum (bsE U t) (ones ws) := by
  unfold tot
  have w : wsum (bsE U t) (ones (pk ws os)) = wsum (bsE U t) (ones ws) := wsum_perm _ ((pk_perm p).map fun y => (y, 1))
  rw [flat_run hU ht, w]
  omega
section
variable {P : Program} {w : World} {K : PySem.W.Frag} {mg : Str → Option Value} {base : Heap} {C CB CG W En Pm fq : Addr} {fdq : FuncData} {Ls : List (Addr × Str)}
theorem scOf : FnScope nOf ["worths", "scale", "way", "total"] (defScope pOf) := ⟨rfl, rfl, rfl, by decide +kernel, rfl, by decide +kernel, by decide +kernel⟩
theorem ok_of (A : At K mg "order_for" pOf ["worths", "scale", "way", "total"]) (B : Blt mg) (T : WorthC K mg W) (M : WMk P w K mg base C W) (TE : EntryC K mg En) (ME : EMk P w K mg base W En) (NG : WNeg P w K mg base W) (WE : WEq P w K mg base W fq fdq) (TG : ErrC P w K mg base "Gaps" "way" 1 CG (spErr CG "way")) (D2 : WMeth P w K mg base W "units_at" 10 ["self", "scale"] (spUat W))
    (DN : DefOk P w K mg base (L2.CX P w) "need_worth" 3 ["value"] (spNeedW C W)) (D4 : DefOk P w K mg base (L2.CX P w) "need_whole_number" 3 ["value"] (spNWh C)) (E1 : DefOk P w K mg base (L2.CX P w) "need_way" 3 ["value"] (spNWay C)) (DR : DefOk P w K mg base (L2.CX P w) "_range_of" 19 ["pairs", "scale", "way"] (spRo W Pm Ls)) (DU : DefOk P w K mg base (L2.CX P w) "entries_in_units" 18 ["entries", "scale", "way"] (spIU2 W En))
    (Dg : DefOk P w K mg base CX0 "_order_of_greatest" 3 ["entries", "way"] (spOg En)) (Dw : DefOk P w K mg base CX0 "_order_between" 4 ["entries", "way", "order", "other", "units"] (spOb En)) (Dh : DefOk P w K mg base CX0 "_order_by_halves" 3 ["entries", "units"] (spOh En)) : DefOk P w K mg base (L2.CX P w) "order_for" 20 ["worths", "scale", "way", "total"] (spOf C CG W Pm Ls) := by
  refine A.ok fun f fd F => F.okX scOf (fun vs H Q E h => ?_) (fun cdv A outer s0 H vs Q E hr h => ?_)
  · obtain ⟨l, x, y, z, pre, post, ws, m, rfl, _⟩ := h
    rfl
  · obtain ⟨l, sx, sy, sz, pre, post, ws, m, rfl, hl, hE, tx, ty, hm, hlen, hb, hT, h⟩ := h
    have nd := scOf.nd
    obtain ⟨nF0, fdN, n1, n2, nF, nb⟩ := NG.ex
    obtain ⟨fU, fdU, mU, FU, bU⟩ := D2.ex
    refine ⟨_, pss_cons (ps_for (passes_of rfl) rfl (pi_list (pv 0)) (pg_name (i := 4) nd rfl (.inl rfl)) (pss_one (ps_expr (pe_def (E := E) DN hr (by decide) (by rfl) (passes_call (takes_of rfl rfl rfl rfl) fun _ _ _ _ z => z) (pa_cons (pv 4) pa_nil)))))
      (pss_cons (ps_expr (pe_def (E := E) D4 hr (by decide) (by rfl) (passes_call (takes_of rfl rfl rfl rfl) fun _ _ _ _ z => z) (pa_cons (pv 1) pa_nil)))
      (pss_cons (ps_expr (pe_def (E := E) E1 hr (by decide) (by rfl) (passes_call (takes_of rfl rfl rfl rfl) fun _ _ _ _ z => z) (pa_cons (pv 2) pa_nil)))
      (pss_cons (ps_expr (pe_def (E := E) DN hr (by decide) (by rfl) (passes_call (takes_of rfl rfl rfl rfl) fun _ _ _ _ z => z) (pa_cons (pv 3) pa_nil)))
      (pss_cons (ps_setLc (i := 5) (own := [("worth", 4)]) (te := tTup (tCons (tVar 4) (tCons (tC (.int 1)) tNil))) rfl nd rfl rfl rfl (pi_list (pv 0)) blkF1 (fun _ _ _ _ _ => (pg_name (i := 4) nd rfl (.inl rfl))) (fun _ _ _ _ _ => pts_nil) (fun _ _ _ _ _ => by exact (pe_tup (pa_cons (pv 4) (pa_cons pe_int pa_nil)))))
      (pss_cons (ps_asg (pe_def (E := E) DR hr (by decide) (by rfl) (passes_call (takes_of rfl rfl rfl rfl) fun _ _ _ _ z => z) (pa_cons (pv 5) (pa_cons (pv 1) (pa_cons (pv 2) pa_nil)))) (pg_tup rfl (pgs_cons (pg_name (i := 6) nd rfl (.inl rfl)) (pgs_cons (pg_name (i := 7) nd rfl (.inl rfl)) pgs_nil))))
      (C8.pss_cut (ps_if (PW.pt (pw_and (pt_cmpR op_in_seq (pv 2) (pe_tup (pa_cons pe_str (pa_cons pe_str pa_nil))) (by rfl)) (pw_and1 (pt_cmpR (op_notTwo (E := E) WE (passes_call (takes_of rfl rfl rfl rfl) fun _ _ _ _ z => z) (hr.mono (by decide))) (pv 3) (pe_tup (pa_cons (pe_worth (C := C) (E := E) M T hr (by decide) (by rfl) (passes_call (takes_of rfl rfl rfl rfl) fun _ _ _ _ z => z) (pa_cons (pv 6) (pa_cons (pv 1) pa_nil))) (pa_cons (pe_worth (C := C) (E := E) M T hr (by decide) (by rfl) (passes_call (takes_of rfl rfl rfl rfl) fun _ _ _ _ z => z) (pa_cons (pv 7) (pa_cons (pv 1) pa_nil))) pa_nil))) (by rfl))))) (pss_one (ps_raise rfl (takes_of rfl rfl rfl rfl) (pmk_err TG hr (by decide) (by rfl) (pv 2)))) pss_nil)
      (pss_cons (ps_if (PW.pt (pw_or (pt_cmpR op_gt (pe_fld (pv 3) (by rfl)) (pv 1) (nomark _)) (pw_or1 (pt_not (pt_chain op_le op_le (pv 6) (pe_meth (E := E) (pv 3) T.cls mU FU (hr.mono (by decide)) bU .nil (passes_call (takes_of rfl rfl rfl rfl) fun _ _ _ _ z => z) (pa_cons (pv 1) pa_nil)) (pv 7)))))) (pss_one (ps_ret pe_non)) pss_nil)
      (pss_cons (ps_par (i := 8) (j := 9) (by rfl) nd rfl rfl (by decide) rfl rfl (pa_cons (pe_def (E := E) DU hr (by decide) (by rfl) (passes_call (takes_of rfl rfl rfl rfl) fun _ _ _ _ z => z) (pa_cons (pv 5) (pa_cons (pv 1) (pa_cons (pv 2) pa_nil)))) (pa_cons (pe_meth (E := E) (pv 3) T.cls mU FU (hr.mono (by decide)) bU .nil (passes_call (takes_of rfl rfl rfl rfl) fun _ _ _ _ z => z) (pa_cons (pv 1) pa_nil)) pa_nil)) (by rfl))
      (pss_cons (ps_if (pt_cmpR op_eq (pv 2) pe_str (nomark _)) (pss_one (ps_ret (pe_def Dh hr (by decide) (by rfl) pass0 (pa_cons (pv 8) (pa_cons (pv 9) pa_nil))))) pss_nil)
      (pss_cons (ps_set (i := 10) nd rfl (.inl rfl) (pe_def Dg hr (by decide) (by rfl) pass0 (pa_cons (pv 8) (pa_cons (pv 2) pa_nil))))
      (pss_cons (ps_set (i := 11) nd rfl (.inl rfl) (pe_def Dg hr (by decide) (by rfl) pass0 (pa_cons (pe_lc (own := [("worth", 4)]) (te := tCall (spEntry W En) [] E0 (tCons (tUn (fun x H Q => ∃ a dx fs, x = V.ref a ∧ H a = some (.ins W dx fs) ∧ spUn W (fun u => -u) [.ref a] H Q E0) (tVar 4)) (tCons (tC (.int 1)) (tCons (tVar 1) (tCons (tVar 2) tNil))))) rfl nd (pi_list (pv 0)) blkF2 (fun _ _ _ _ _ => (pg_name (i := 4) nd rfl (.inl rfl))) (fun _ _ _ _ _ => pts_nil) (fun _ _ _ _ _ => by exact (pe_entry (W := W) (E := E0) ME TE hr (by decide) (by rfl) passL (pa_cons (pe_un (un_own (E := E0) nF (hr.mono (by decide)) n1 n2 nb passL) (pv 4)) (pa_cons pe_int (pa_cons (pv 1) (pa_cons (pv 2) pa_nil))))))) (pa_cons (pv 2) pa_nil))))
      (pss_one (ps_ret (pe_def Dw hr (by decide) (by rfl) pass0 (pa_cons (pv 8) (pa_cons (pv 2) (pa_cons (pv 10) (pa_cons (pv 11) (pa_cons (pv 9) pa_nil))))))))))))))))))), ?_⟩
    have plen := hE.len
    -- the worths
    refine ⟨_, rfl, l, rfl, ⟨_, SqL.of hl⟩, for_list (K := K) (xs := pre ++ post) (fun i σ H' => H' = H ∧ i ≤ pre.length ∧ ∃ y4 : Option V, σ = [some (.ref l), some sx, some sy, some sz, y4, none, none, none, none, none, none, none]) ⟨rfl, Nat.zero_le _, _, rfl⟩ (fun i σ H' _ z => by rw [z.1]; exact SqL.of hl) ?_ ?_⟩
    · rintro i x σ H' hx ⟨rfl, hi, y4, rfl⟩
      dsimp only [gName, List.set]
      by_cases c : i < pre.length
      · rw [List.getElem?_append_left c] at hx
        obtain ⟨e, he, wa, u, s, rfl, ww, lw⟩ := hE.get hx
        exact ⟨_, rfl, _, rfl, .inl ⟨wa, u, s, rfl, ww, rfl, by omega, _, rfl⟩⟩
      · obtain rfl : i = pre.length := by omega
        rcases h with ⟨v, rest, rfl, tv, bad⟩ | ⟨rfl, _⟩
        · rw [List.getElem?_append_right (Nat.le_refl _), Nat.sub_self] at hx
          cases hx
          exact ⟨_, rfl, _, rfl, .inr ⟨tv, bad⟩⟩
        · rw [List.append_nil, List.getElem?_eq_none (Nat.le_refl _)] at hx
          cases hx
    rintro σ H ⟨rfl, hi, y4, rfl⟩
    rcases h with ⟨v, rest, rfl, _⟩ | ⟨rfl, q1, q2, q3⟩
    · rw [List.length_append, List.length_cons] at hi
      omega
    rw [List.append_nil] at hl
    refine ⟨_, rfl, sx, rfl, tx, fun hx => ?_, q1⟩
    refine ⟨_, rfl, sy, rfl, ty, fun hy => ?_, q2 hx⟩
    obtain ⟨n, rfl⟩ := isWh_nat hx
    obtain ⟨t, ht, rfl⟩ := isWay_str hy
    obtain ⟨hn, q⟩ := q3 n t rfl rfl ht
    clear q1 q2 q3 hx hy
    rcases q with ⟨tz, bad⟩ | ⟨a, ut, st, rfl, wz, bz, GG⟩
    · exact ⟨_, rfl, _, rfl, .inr ⟨tz, bad⟩⟩
    refine ⟨_, rfl, _, rfl, .inl ⟨a, ut, st, rfl, wz, ?_⟩⟩
    generalize hU : (10 : Int) ^ (m - n) = U at GG
    have U0 : 0 < U := by rw [← hU]; exact ten_pos _
    have hob : ∀ e ∈ ones ws, e.1.natAbs < 2 ^ 300 ∧ e.2 < 2 ^ 300 := fun e he => by
      obtain ⟨x, hx, rfl⟩ := List.mem_map.mp he
      exact ⟨hb x hx, by show (1 : Nat) < 2 ^ 300; decide +kernel⟩
    have olen : (ones ws).length ≤ 1000 := by rw [ones, List.length_map]; exact hlen
    -- the pairs
    refine ⟨_, rfl, l, rfl, ⟨_, SqL.of hl⟩, fun D nD => lc_ent (R := IsWt W m) (S := ItemT W m) (cnd := fun _ => true) (out := fun x : Int => (x, 1)) hl hE nD hlen (fun _ _ _ _ h z => IsWt.same h z) (fun _ _ _ _ h z => ItemT.same h z) (fun _ _ _ _ _ h hD => ItemT.put h hD) (fun r e H' Nx No he s1 hr nx no => ?_) fun H1 ys s1 hD hA => ?_⟩
    · obtain ⟨wa, u, s, rfl, ww, lw⟩ := hr
      dsimp only [gName, List.set]
      refine ⟨rfl, ?_⟩
      unfold tYes
      dsimp only
      rw [if_pos rfl]
      exact ⟨_, rfl, by show 2 ≤ sizeLine; decide, fun p np => nx rfl _ _ (same_new np) ⟨p, wa, u, s, rfl, upd_same, ww.same (same_new np), lw⟩⟩
    rw [List.filter_eq_self.mpr (fun _ _ => rfl)] at hA
    have hA : Ents (ItemT W m H1) ys (ones ws) := hA
    dsimp only [gName, List.set]
    refine ⟨_, rfl, _, rfl, _, rfl, D, ys, ones ws, n, m, t, rfl, hD, hA.mono fun _ _ z => z.at, hn, hm, olen, hob, ht, hT.ext s1, fun r lo hi H2 he x2 T2 er => ?_⟩
    rw [hU] at he
    have G := GG lo hi he
    clear GG
    refine ⟨r, _, rfl, SqT.of er, rfl, _, _, rfl, _, _, rfl, rfl, ?_⟩
    have X2 : ExtN H H2 := (ExtN.same s1).trans x2
    have hD := x2 _ _ hD (fun ps z => by cases z)
    have hA := hA.mono fun _ _ z => ItemT.extN z x2
    have hl := X2 _ _ hl (fun ps z => by cases z)
    have hE := hE.mono fun _ _ z => IsWt.extN z X2
    have wz := WAt.extN wz X2
    clear s1 x2 er hT tx ty
    dsimp only [gName, List.set]
    -- the gaps
    refine ⟨fun σ H' => σ = [some (.ref l), some (.int (n : Nat)), some (.str t), some (.ref a), y4, some (.ref D), some (.int lo), some (.int hi), none, none, none, none] ∧ Same H2 H' ∧ (t ∈ awayW → IsLow lo n ut st ∨ IsLow hi n ut st), ?_, ?_⟩
    · refine ⟨_, rfl, by show 2 ≤ sizeLine; decide, fun r nr => ?_⟩
      have s3 := same_new (o := HO.tup [.str "away", .str "halfaway"]) nr
      refine ⟨r, _, rfl, .inr (SqT.of upd_same), rfl, rfl, _, rfl, ?_⟩
      rw [show (if false = true then !inV (V.str t) [.str "away", .str "halfaway"] else inV (V.str t) [.str "away", .str "halfaway"]) = decide (t ∈ awayW) from inV_txt t awayW]
      generalize upd H2 r (HO.tup [.str "away", .str "halfaway"]) = H3 at s3 ⊢
      refine ite2 (fun e => ?_) (fun e => ?_)
      · have aw := of_decide_eq_true e
        refine ⟨_, rfl, _, rfl, _, rfl, ?_⟩
        dsimp only [tNil]
        rw [List.append_nil]
        refine worth_of (C := C) (n := n) (by omega) fun u1 c1 p1 H4 lw1 s4 _ wp1 => ?_
        refine ⟨_, rfl, _, rfl, ?_⟩
        dsimp only [tNil]
        rw [List.append_nil]
        refine worth_of (C := C) (n := n) (by omega) fun u2 c2 p2 H5 lw2 s5 _ wp2 => ?_
        refine ⟨by show 2 ≤ sizeLine; decide, fun z nz => ?_⟩
        have s6 := same_new (o := HO.tup [.ref p1, .ref p2]) nz
        have S6 := (s3.trans s4).trans (s5.trans s6)
        refine ⟨a, z, p1, p2, ut, u1, u2, st, c1, c2, rfl, rfl, SqT.of upd_same, wz.same S6, wp1.same (s5.trans s6), wp2.same s6, fun H7 s7 => ⟨_, rfl, ?_⟩⟩
        have S7 := S6.trans s7
        have i1 : (decide (u1 = ut) && decide (c1 = st)) = true ↔ IsLow lo n ut st := by
          constructor
          · intro z
            simp only [Bool.and_eq_true, decide_eq_true_eq] at z
            rw [← z.1, ← z.2]
            exact lw1
          · intro z
            obtain ⟨e1, e2⟩ := low_eq lw1 z
            simp [e1, e2]
        have i2 : (decide (u2 = ut) && decide (c2 = st)) = true ↔ IsLow hi n ut st := by
          constructor
          · intro z
            simp only [Bool.and_eq_true, decide_eq_true_eq] at z
            rw [← z.1, ← z.2]
            exact lw2
          · intro z
            obtain ⟨e1, e2⟩ := low_eq lw2 z
            simp [e1, e2]
        generalize (decide (u1 = ut) && decide (c1 = st)) = b1 at i1 ⊢
        generalize (decide (u2 = ut) && decide (c2 = st)) = b2 at i2 ⊢
        cases b1 with
        | true => exact iteF ⟨rfl, S7, fun _ => .inl (i1.mp rfl)⟩
        | false =>
          cases b2 with
          | true => exact iteF ⟨rfl, S7, fun _ => .inr (i2.mp rfl)⟩
          | false =>
            refine iteT ?_
            have bad := G.gap aw (fun z => by have := i1.mpr z; cases this) (fun z => by have := i2.mpr z; cases this) H7 (X2.trans (ExtN.same S7)) (T2.ext S7)
            exact ⟨_, rfl, bad_mk bad⟩
      · have aw : t ∉ awayW := fun z => e (decide_eq_true z)
        exact iteF ⟨rfl, s3, fun z => absurd z aw⟩
    rintro σ H3 ⟨rfl, s3, inn⟩
    have X3 := X2.trans (ExtN.same s3)
    have T3 := T2.ext s3
    have hD := s3 _ _ hD
    have hA := hA.mono fun _ _ z => ItemT.same z s3
    have hl := s3 _ _ hl
    have hE := hE.mono fun _ _ z => IsWt.same z s3
    have wz := wz.same s3
    clear s3 X2 T2
    obtain ⟨dz, ez⟩ := id wz
    -- what cannot be
    have UAT : st ≤ n → ∀ (H' : Hp) (Q' : VK) (E' : XK), Same H3 H' → Q' (.int (ut * (10 : Int) ^ (n - st))) H' → spUat W [.ref a, .int (n : Nat)] H' Q' E' := fun h H' Q' E' s q' => ⟨a, ut, st, n, rfl, wz.same s, h, by omega, bz, q'⟩
    refine ⟨_, rfl, a, W, dz, _, .int (st : Nat), rfl, ez, T.cls, T.ns, lk_s _ _, _, rfl, _, _, rfl, rfl, _, rfl, ite2 (fun e => ?_) (fun e => ?_)⟩
    · have e' : n < st := by
        have := of_decide_eq_true e
        omega
      exact iteT (G.non inn (.inl e') H3 X3 T3)
    have le : st ≤ n := by
      have : ¬ (n : Int) < (st : Int) := fun z => e (decide_eq_true z)
      omega
    refine ⟨_, rfl, _, rfl, a, dz, _, rfl, ez, lk_m _ _ (by decide +kernel) (by decide +kernel), _, rfl, a, ut, st, n, rfl, wz, le, by omega, bz, _, _, rfl, rfl, _, rfl, ?_⟩
    by_cases h1 : lo ≤ ut * (10 : Int) ^ (n - st)
    rotate_left
    · rw [if_neg (fun z => h1 (of_decide_eq_true z))]
      exact ⟨_, rfl, iteT (G.non inn (.inr fun z => h1 z.1) H3 X3 T3)⟩
    rw [if_pos (decide_eq_true h1)]
    refine ⟨_, rfl, _, _, rfl, rfl, _, rfl, ?_⟩
    by_cases h2 : ut * (10 : Int) ^ (n - st) ≤ hi
    rotate_left
    · rw [decide_eq_false h2]
      exact iteT (G.non inn (.inr fun z => h2 z.2) H3 X3 T3)
    rw [decide_eq_true h2]
    refine iteF ?_
    have fin := G.ord inn le h1 h2
    clear UAT G
    -- the entries
    refine ⟨_, rfl, _, rfl, _, rfl, D, ys, ones ws, n, m, t, rfl, hD, hA.mono fun _ _ z => z.at, hn, hm, olen, fun e he => (hob e he).1, ht, fun DE rsE H4 s4 hDE hAE => ?_⟩
    have hL4 : EnL En H4 DE (ones ws) (m - n) t := ⟨⟨rsE, hDE, hAE⟩, olen, hob⟩
    have ez4 := s4 _ _ ez
    refine ⟨_, rfl, a, dz, _, rfl, ez4, lk_m _ _ (by decide +kernel) (by decide +kernel), _, rfl, a, ut, st, n, rfl, wz.same s4, le, by omega, bz, ?_⟩
    refine ⟨_, _, rfl, ?_⟩
    have X4 := X3.trans (ExtN.same s4)
    have T4 := T3.ext s4
    have hl := s4 _ _ hl
    have hE := hE.mono fun _ _ z => IsWt.same z s4
    clear X3 T3 hD hA wz ez ez4 s4 hDE hAE
    subst hU
    generalize hu : ut * (10 : Int) ^ (n - st) = u at h1 h2 fin
    try dsimp only [gName, List.set]
    refine ⟨_, rfl, rfl, _, rfl, ite2 (fun e => ?_) (fun e => ?_)⟩
    · have et : t = "halfeven" := by simpa using e
      subst et

      exact ⟨_, rfl, _, rfl, DE, ws, m - n, u, lo, hi, rfl, hL4, by omega, he, h1, h2, fun r ks H5 s5 hr pk tk => fin r ks H5 (X4.trans (ExtN.same s5)) (T4.ext s5) hr pk tk⟩
    have ne : t ≠ "halfeven" := fun z => e (by simpa using z)
    obtain ⟨_, e2, e3, e4⟩ := he
    refine ⟨_, rfl, _, rfl, DE, ws, m - n, t, rfl, hL4, by omega, ht, fun r1 os H5 s5 hr1 pos hc1 ha1 => ?_⟩
    dsimp only [gName, List.set]
    have hl := s5 _ _ hl
    have hE := hE.mono fun _ _ z => IsWt.same z s5
    refine ⟨_, rfl, l, rfl, ⟨_, SqL.of hl⟩, fun DM nDM => lc_ent (R := IsWt W m) (S := RowEn En (m - n) t) (cnd := fun _ => true) (out := fun x : Int => (-x, 1)) hl hE nDM hlen (fun _ _ _ _ h z => IsWt.same h z) (fun _ _ _ _ h z => RowEn.same h z) (fun _ _ _ _ _ h hD => RowEn.put h hD) (fun r x H' Nx No hx s6 hr nx no => ?_) fun H6 zs' s6 hDM hM => ?_⟩
    · obtain ⟨wa, v, s, rfl, ww, lw⟩ := hr
      obtain ⟨dx, ew⟩ := id ww
      have bx := hb x hx
      have sm : Small v s := by
        have a := low_nat lw
        have b := lw.le
        have e : (2 : Nat) ^ 300 ≤ 2 ^ 40000 := Nat.pow_le_pow_right (by decide) (by decide)
        exact ⟨by omega, by omega⟩
      dsimp only [gName, List.set]
      refine ⟨rfl, ?_⟩
      unfold tYes
      dsimp only
      rw [if_pos rfl]
      refine ⟨_, rfl, wa, dx, _, rfl, ew, wa, v, s, rfl, ww, sm, fun u' s' p H2 lw2 s4 np wp => ?_⟩
      refine ⟨_, rfl, _, rfl, ?_⟩
      try dsimp only [tNil]
      try rw [List.append_nil]
      have b2 : (-x).natAbs < 2 ^ 2000 := by
        rw [Int.natAbs_neg]
        exact Nat.lt_of_lt_of_le bx (Nat.pow_le_pow_right (by decide) (by decide))
      exact ⟨p, u', s', n, m, -x, 1, t, rfl, wp, low_minus lw lw2, hn, hm, b2, ht, fun q H7 s7 nq eq => nx rfl _ _ (s4.trans s7) ⟨q, rfl, eq⟩⟩
    rw [List.filter_eq_self.mpr (fun _ _ => rfl)] at hM
    have em : ws.map (fun x : Int => (-x, 1)) = ones (negs ws) := by
      unfold ones negs
      rw [List.map_map]
      rfl
    rw [em] at hM
    have nl : (negs ws).length = ws.length := List.length_map _
    have hLM : EnL En H6 DM (ones (negs ws)) (m - n) t := ⟨⟨zs', hDM, hM⟩, by rw [ones, List.length_map, nl]; exact hlen, fun e he => by
      obtain ⟨y, hy, rfl⟩ := List.mem_map.mp he
      obtain ⟨x, hx, rfl⟩ := List.mem_map.mp hy
      exact ⟨by show (-x).natAbs < _; rw [Int.natAbs_neg]; exact hb x hx, by show (1 : Nat) < 2 ^ 300; decide +kernel⟩⟩
    refine ⟨_, rfl, DM, negs ws, m - n, t, rfl, hLM, by omega, ht, fun r2 zs H7 s7 hr2 pzs hc2 ha2 => ?_⟩
    rw [nl] at pzs
    dsimp only [gName, List.set]

    have s57 := s6.trans s7
    have S := s5.trans s57
    refine ⟨_, rfl, _, rfl, _, rfl, _, rfl, _, rfl, DE, r1, r2, ws, os, zs, m - n, t, u, rfl, hL4.same S, by omega, ht, ne, s57 _ _ hr1, hr2, pos, pzs, fun hc => ?_, fun hc => ?_, fun hc => ?_, fun r ks H8 s8 hr pk tk => fin r ks H8 (X4.trans (ExtN.same (S.trans s8))) (T4.ext (S.trans s8)) hr pk tk⟩
    · rw [hi_at pos (e2 hc).1 (hc1 hc), lo_at U0 (.inl hc) pzs (e2 hc).2 (hc2 hc)]
      exact ⟨h1, h2⟩
    · rw [hi_at pos (e3 hc).1 (ha1 hc), lo_at U0 (.inr hc) pzs (e3 hc).2 (ha2 hc)]
      rcases inn hc with z | z
      · exact .inr (by rw [← hu]; exact z.eq.symm)
      · exact .inl (by rw [← hu]; exact z.eq.symm)
    · rw [flat_at U0 hc pos]
      obtain ⟨x1, x2⟩ := e4 hc
      omega
end
end K50

/-! k50: the law: an order, its total, a goal, told. -/
namespace K50
open PySem PySem.Spec PyProof.Rows L2 LamX NdefX Own
abbrev sRa : Stmt := topS 61
abbrev sIo : Stmt := topS 62
def cmpA : Expr → Expr
  | .Compare a _ _ _ => a
  | e => e
def ifE : Stmt → Expr
  | .If e _ _ _ => e
  | .Return (some e) _ => e
  | _ => junkE
theorem blkIo : BlkOk ["_law_order", "_law_many", "_law_at"] (defScope sIo) (lcScope (cmpA (ifE (inD sIo 1)))) [("_law_at", 2)] := blkOk_by (by decide +kernel)
theorem op_neNil2 {X : Cx} (hu : X.A.units + 64 < cLine) : OpR X (compareOp .NotEq) (fun x y H Q => ∃ (l m : Addr) (xs : List V), x = .ref l ∧ y = .ref m ∧ SqL X.K H l xs ∧ SqL X.K H m [] ∧ Q (.bl (decide (xs ≠ []))) H) := by
  intro pins s σ H x y v u Q I rx ry h
  obtain ⟨l, m, xs, rfl, rfl, h1, h2, q⟩ := h
  cases (show v = Value.ref l from rx)
  cases (show u = Value.ref m from ry)
  obtain ⟨us, r1, t1, _⟩ := I.list h1
  obtain ⟨ws, r2, t2, _⟩ := I.list h2
  have l1 := r1.length
  have l2 := r2.length
  cases xs with
  | nil =>
    have := SeqAt.RcNeAt.lists (A := X.A) (e := fun _ => true) t1.isList t2.isList (by simp at l1 l2 ⊢; omega) (by omega) (fun j j1 j2 => by simp at l1 j1; omega)
    have e : (!(List.range us.toArray.size).all (fun _ => true)) = false := by simp
    rw [e] at this
    exact this X.prog X.w _ _ ⟨.bl false, H, I, rfl, q⟩
  | cons a r =>
    have := SeqAt.RcNeAt.lists_lengths (A := X.A) t1.isList t2.isList (by simp at l1 l2 ⊢; omega) (by omega)
    exact this X.prog X.w _ _ ⟨.bl true, H, I, rfl, q⟩
section
variable {P : Program} {w : World} {K : PySem.W.Frag} {mg : Str → Option Value} {base : Heap} {C CB CG W En Pm : Addr} {Ls : List (Addr × Str)}
theorem scRa : FnScope ["_law_worths", "_law_order", "_law_unit", "_law_way", "_law_state", "_law_at"] ["_law_worths", "_law_order", "_law_unit", "_law_way"] (defScope sRa) := ⟨rfl, rfl, rfl, by decide +kernel, rfl, by decide +kernel, by decide +kernel⟩
def spRa : Sp := fun vs H Q _ => ∃ (l o : Addr) (ws : List Int) (os : List Nat) (U : Int) (t : Str), vs = [.ref l, .ref o, .int U, .str t] ∧ H l = some (.lst (ws.map V.int)) ∧ H o = some (.lst (os.map iV)) ∧ (∀ i ∈ os, i < ws.length) ∧ 0 < U ∧ U < 1073741824 ∧ t ∈ waysL ∧ Q (.int (tot U t ws os)) H
theorem ok_ra (A : At K mg "_law_run_at" sRa ["_law_worths", "_law_order", "_law_unit", "_law_way"]) (D7 : DefOk P w K mg base CX0 "_law_rounded" 1 ["_law_number", "_law_unit", "_law_way"] spRd) : DefOk P w K mg base CX0 "_law_run_at" 2 ["_law_worths", "_law_order", "_law_unit", "_law_way"] spRa := by
  refine A.ok fun f fd F => F.ok scRa (fun vs H Q E h => ?_) (fun cdv A outer s0 H vs Q E hr h => ?_)
  · obtain ⟨l, o, ws, os, U, t, rfl, _⟩ := h
    rfl
  · obtain ⟨l, o, ws, os, U, t, rfl, hl, ho, hi, U0, U1, ht, q⟩ := h
    have nd := scRa.nd
    refine ⟨_, pss_cons (ps_set (i := 4) nd rfl (.inl rfl) pe_int)
      (pss_cons (ps_for PassesOwn.never rfl (pi_list (pv 1)) (pg_name (i := 5) nd rfl (.inl rfl)) (pss_one (ps_set (i := 4) nd rfl (.inl rfl) (pe_def D7 hr (by decide) (by rfl) pass0 (pa_cons (pe_op op_add (pe_op op_mul (pv 4) (pv 2)) (pe_ix ix_list (pv 0) (pv 5) (fun _ _ => rfl))) (pa_cons (pv 2) (pa_cons (pv 3) pa_nil)))))))
      (pss_one (ps_ret (pv 4)))), ?_⟩
    refine ⟨_, rfl, o, rfl, ⟨_, SqL.of ho⟩, for_list (K := K) (xs := os.map iV) (fun i σ H' => (∃ y : Option V, σ = [some (.ref l), some (.ref o), some (.int U), some (.str t), some (.int (tot U t ws (os.take i))), y]) ∧ H' = H) ⟨⟨_, by rw [List.take_zero]; rfl⟩, rfl⟩ (fun i σ H' _ z => by rw [z.2]; exact SqL.of ho) ?_ ?_⟩
    · rintro i x σ H' hx ⟨⟨y, rfl⟩, rfl⟩
      rw [List.getElem?_map] at hx
      obtain ⟨j, hj, rfl⟩ := Option.map_eq_some_iff.mp hx
      have jn := hi j (List.mem_of_getElem? hj)
      have hv : (ws.map V.int)[j]? = some (.int (ws.getD j 0)) := by
        rw [List.getElem?_map, List.getElem?_eq_getElem jn, List.getD_eq_getElem?_getD, List.getElem?_eq_getElem jn]
        rfl
      dsimp only [gName, List.set]
      refine ⟨_, rfl, _, rfl, _, _, rfl, rfl, .inr ⟨by omega, by omega⟩, _, rfl, _, rfl, l, _, (j : Nat), _, rfl, rfl, SqL.of hl, atI_nat (j := j) hv, _, _, rfl, rfl, _, rfl, _, rfl, _, U, t, rfl, U0, U1, ht, ?_⟩
      dsimp only [gName, List.set]
      refine ⟨⟨some (iV j), ?_⟩, rfl⟩
      have e : tot U t ws (os.take (i + 1)) = near (tot U t ws (os.take i) * U + ws.getD j 0) U t := by
        rw [show os.take (i + 1) = os.take i ++ [j] by rw [List.take_succ, hj]; rfl]
        unfold tot
        rw [pk_app, runL_app]
        rfl
      rw [e]
    · rintro σ H' ⟨⟨y, rfl⟩, rfl⟩
      rw [show os.take (os.map iV).length = os by rw [List.length_map]; exact List.take_length]
      exact ⟨_, rfl, q⟩
theorem scIo : FnScope ["_law_order", "_law_many", "_law_at"] ["_law_order", "_law_many"] (defScope sIo) := ⟨rfl, rfl, rfl, by decide +kernel, rfl, by decide +kernel, by decide +kernel⟩
theorem sorted_one : ∀ {a b : List Int}, a.Perm b → a.Pairwise (· ≤ ·) → b.Pairwise (· ≤ ·) → a = b := fun p h1 h2 => List.Perm.eq_of_pairwise (fun a b _ _ x y => Int.le_antisymm x y) h1 h2 p
def spIo : Sp := fun vs H Q _ => ∃ (r : Addr) (ks : List Nat) (n : Nat), vs = [.ref r, .int (n : Nat)] ∧ H r = some (.lst (ks.map iV)) ∧ List.Perm ks (List.range n) ∧ n ≤ 1000 ∧ ∀ H', Same H H' → Q (.bl true) H'
theorem ok_io (A : At K mg "_law_is_order" sIo ["_law_order", "_law_many"]) (B : Blt mg) (mSt : mg "sorted" = none) : DefOk P w K mg base CX0 "_law_is_order" 1 ["_law_order", "_law_many"] spIo := by
  refine A.ok fun f fd F => F.ok scIo (fun vs H Q E h => ?_) (fun cdv A outer s0 H vs Q E hr h => ?_)
  · obtain ⟨r, ks, n, rfl, _⟩ := h
    rfl
  · obtain ⟨r, ks, n, rfl, hk, pk, hn, q⟩ := h
    have nd := scIo.nd
    have kl : ks.length = n := by rw [pk.length_eq, List.length_range]
    refine ⟨_, pss_cons (ps_if (PW.pt (pw_or (pt_not (pt_val (pe_callB call_isi (by rfl) B.isi (by decide +kernel) (pa_cons (pv 0) (pa_cons (pe_bltn (v := .ty "list") (by rfl) B.list (by decide +kernel) rfl) pa_nil))))) (pw_or1 (pt_cmpR op_ne (pe_callB call_len_seq (by rfl) B.len PySem.boot_len (pa_cons (pv 0) pa_nil)) (pv 1) (nomark _))))) (pss_one (ps_ret pe_bl)) pss_nil)
      (pss_cons (ps_if (pt_cmpR (op_neNil2 hr.units) (pe_lc (own := [("_law_at", 2)]) (tt := tOr (tNot (tB (tCB (rIsi K) (tCons (tVar 2) (tCons (tC (.ty "int")) tNil))))) (tB (tCB (rIsi K) (tCons (tVar 2) (tCons (tC (.ty "bool")) tNil))))) (te := tVar 2) rfl nd (pi_list (pv 0)) blkIo (fun _ _ _ _ _ => (pg_name (i := 2) nd rfl (.inl rfl))) (fun _ _ _ _ _ => (pts_one (PW.pt (pw_or (pt_not (pt_val (pe_callB call_isi (by rfl) B.isi (by decide +kernel) (pa_cons (pv 2) (pa_cons (pe_bltn (v := .ty "int") (by rfl) B.int (by decide +kernel) rfl) pa_nil))))) (pw_or1 (pt_val (pe_callB call_isi (by rfl) B.isi (by decide +kernel) (pa_cons (pv 2) (pa_cons (pe_bltn (v := .ty "bool") (by rfl) B.bool (by decide +kernel) rfl) pa_nil))))))))) (fun _ _ _ _ _ => (pv 2))) (pe_lst pa_nil) (nomark _)) (pss_one (ps_ret pe_bl)) pss_nil)
      (pss_one (ps_ret (pe_cmpR (op_eqD hr.units) (pe_callB cr_sortedI (by rfl) mSt (by decide +kernel) (pa_cons (pv 0) pa_nil)) (pe_listRg rfl (by rfl) B.list (prg_1 (by rfl) B.range (pv 1))) (nomark _))))), ?_⟩
    refine ⟨_, rfl, _, _, _, _, true, rfl, .ty _, .base (.lst hk), kit_ty (show kitB "list" "list" = some true by decide +kernel), _, rfl, iteF ?_⟩
    refine ⟨_, rfl, r, _, rfl, .inl (SqL.of hk), _, rfl, rfl, _, rfl, ?_⟩
    rw [List.length_map, kl]
    refine ite2 (fun z => absurd z (by simp)) (fun _ => ?_)
    refine ⟨_, rfl, r, rfl, ⟨_, SqL.of hk⟩, fun D nD => lc_ent (R := IsNv) (S := IsNv) (cnd := fun _ => false) (out := fun j : Nat => j) hk (nv_ents ks) nD (by omega) (fun _ _ _ _ h _ => h) (fun _ _ _ _ h _ => h) (fun _ _ _ _ _ h _ => h) (fun x j H' Nx No hj sx hr nx no => ?_) fun H1 ys s1 hD hA => ?_⟩
    · cases hr
      dsimp only [gName, List.set]
      refine ⟨rfl, ?_⟩
      refine ⟨_, rfl, _, _, _, _, true, rfl, .ty _, .base (.int _), kit_ty (show kitB "int" "int" = some true by decide +kernel), _, rfl, ?_⟩
      refine iteF ⟨_, rfl, _, _, _, _, false, rfl, .ty _, .base (.int _), kit_ty (show kitB "int" "bool" = some false by decide +kernel), _, rfl, ?_⟩
      exact iteF (no rfl)
    have e0 : (ks.filter fun _ => false) = [] := List.filter_eq_nil_iff.mpr fun _ _ => by decide
    rw [e0] at hA
    obtain rfl := ents_nv hA
    refine ⟨by show 0 ≤ sizeLine; decide, fun z nz => ?_⟩
    have s2 := same_new (o := HO.lst []) nz
    refine ⟨D, z, [], rfl, rfl, SqL.of (s2 _ _ hD), SqL.of upd_same, _, rfl, iteF ?_⟩
    generalize upd H1 z (HO.lst []) = H2 at s2 ⊢
    have s12 := s1.trans s2
    have hk2 : H2 r = some (.lst ((ks.map fun k => ((k : Nat) : Int)).map V.int)) := by
      rw [List.map_map]
      exact s12 _ _ hk
    refine ⟨_, rfl, r, _, rfl, SqL.of hk2, fun ns p pn sn np => ?_⟩
    have s3 := same_new (o := HO.lst (ns.map V.int)) np
    have hp : upd H2 p (HO.lst (ns.map V.int)) p = some (.lst (ns.map V.int)) := upd_same
    generalize upd H2 p (HO.lst (ns.map V.int)) = H3 at s3 hp ⊢
    refine ⟨_, rfl, (n : Int), rfl, RgOk.of_le (Int.le_refl _) (by omega) (by decide) (by omega), fun z2 nz2 => ?_⟩
    have ern : rgV 0 ((n : Nat) : Int) = ((List.range n).map fun k => ((k : Nat) : Int)).map V.int := by
      unfold rgV
      rw [Int.sub_zero, Int.toNat_natCast, List.map_map]
      refine List.map_congr_left fun i _ => ?_
      show V.int (0 + ((i : Nat) : Int)) = V.int ((i : Nat) : Int)
      rw [Int.zero_add]
    have es : ns = (List.range n).map fun k => ((k : Nat) : Int) := sorted_one (pn.trans (pk.map _)) sn (by
      rw [List.pairwise_map]
      exact List.Pairwise.imp (fun {a b} h => by omega) List.pairwise_lt_range)
    rw [ern]
    subst es
    have s4 := same_new (o := HO.lst (((List.range n).map fun k => ((k : Nat) : Int)).map V.int)) nz2
    have fl : (((List.range n).map fun k => ((k : Nat) : Int)).map V.int).all okF = true := by
      rw [List.all_eq_true]
      intro y hy
      obtain ⟨k, _, rfl⟩ := List.mem_map.mp hy
      rfl
    obtain ⟨a1, a2, a3⟩ := dp_flats (K := K) (H := upd H3 z2 (HO.lst (((List.range n).map fun k => ((k : Nat) : Int)).map V.int))) fl
    have sh : SeqAt.shaped (.list ((((List.range n).map fun k => ((k : Nat) : Int)).map V.int).map datV)) = true := by
      unfold SeqAt.shaped
      simp only [PyData.canLay0, PyData.depth, a2, a3]
      decide
    refine ⟨_, _, .lst (SqL.of (s4 _ _ hp)) a1, .lst (SqL.of upd_same) a1, sh, sh, ?_⟩
    rw [SeqAt.eqv_refl _ (SeqAt.canLay_of_shaped sh)]
    exact q _ (s12.trans (s3.trans s4))
end
end K50

/-! own layer, of no law: OWO4: how far apart the ends are. -/
namespace Own
open PySem PySem.Spec PyProof.Rows L2 LamX NdefX
section
variable {U x s : Int} {t : Str} {dn : Bool}
theorem wsum_bits {f : Int → Int} (h : ∀ x, 0 ≤ f x ∧ f x ≤ 1) : ∀ ys : List Int, 0 ≤ wsum f (ones ys) ∧ wsum f (ones ys) ≤ ys.length
  | [] => ⟨Int.le_refl _, Int.le_refl _⟩
  | y :: r => by
    obtain ⟨a, b⟩ := wsum_bits h r
    obtain ⟨c, d⟩ := h y
    rw [wsum_ones, List.length_cons]
    omega
theorem ch_len {l : List (Int × Nat)} {n c : Int} (h : Ch l n c) : (∀ e ∈ l, e.2 = 1) → n ≤ l.length := by
  induction h with
  | nil => intro _; exact Int.le_refl _
  | more j h0 h1 r ih =>
    intro hl
    have a := ih fun e he => hl e (List.mem_cons_of_mem _ he)
    have b := hl _ List.mem_cons_self
    dsimp only at b
    rw [b] at h1
    rw [List.length_cons]
    omega
theorem hi_near {ys : List Int} {h : Int} (H : Hi dn U t (ones ys) h) : wsum (bsE U t) (ones ys) ≤ h ∧ h ≤ wsum (bsE U t) (ones ys) + 2 * ys.length := by
  obtain ⟨m, M, rfl⟩ := H
  obtain ⟨a, b⟩ := wsum_bits (f := lfE dn U t) (fun x => by unfold lfE; split <;> decide) ys
  have m0 := M.pos
  have ml : m ≤ ys.length := by
    by_cases z : roomR dn U t (ones ys) < 0
    · rw [M.1 z]; omega
    · obtain ⟨⟨c, _, ch⟩, _⟩ := M.2 (by omega)
      have h1 := ch_len ch fun e he => by
        obtain ⟨q, hq, rfl⟩ := List.mem_map.mp he
        obtain ⟨y, _, rfl⟩ := List.mem_map.mp (List.mem_filter.mp hq).1
        rfl
      have h2 : (csOf dn U t (ones ys)).length ≤ ys.length := by
        unfold csOf
        rw [List.length_map]
        exact Nat.le_trans (List.length_filter_le _ _) (by rw [ones, List.length_map]; exact Nat.le_refl _)
      omega
  omega
theorem run_near (hU : 0 < U) (ht : t ∈ cutW ∨ t ∈ awayW) : ∀ (ys : List Int) (s : Int), s + wsum (bsE U t) (ones ys) ≤ runL U t ys s ∧ runL U t ys s ≤ s + wsum (bsE U t) (ones ys) + ys.length
  | [], s => by
    rw [wsum_ones_nil]
    show s + 0 ≤ s ∧ s ≤ s + 0 + 0
    omega
  | x :: ys, s => by
    have hw : t ∈ waysL ∧ t ≠ "halfeven" := ht.elim cut_way away_way
    obtain ⟨a, b⟩ := run_near hU ht ys (stp U x t s)
    rw [runL_cons, wsum_ones, List.length_cons]
    by_cases l : isLoose U x t = true
    · have st := stp_side hU hw.1 l hw.2 s
      have e : bsE U t x = x / U := by unfold bsE; rw [if_pos l]
      have ad : addS (x / U) t (s + x / U) = x / U ∨ addS (x / U) t (s + x / U) = x / U + 1 := by
        rcases ht with h | h
        · rw [addS_cut h]; split <;> simp
        · rw [addS_away h]; split <;> simp
      rw [e]
      omega
    · have st := stp_tight (s := s) hU hw.1 (eq_false_of_ne_true l)
      have e : bsE U t x = near x U t := by unfold bsE; rw [if_neg l]
      rw [e]
      omega
theorem ends_near (hU : 0 < U) (ht : t ∈ waysL) {ys : List Int} {lo hi : Int} (h : Ends U t (ones ys) lo hi) : lo ≤ hi ∧ wsum (bsE U t) (ones ys) - 2 * ys.length ≤ lo ∧ hi ≤ wsum (bsE U t) (ones ys) + 2 * ys.length := by
  obtain ⟨x1, x2⟩ := ends_hold hU ht (List.Perm.refl ys) h
  refine ⟨by omega, ?_⟩
  obtain ⟨a1, a2, a3, a4⟩ := h
  have side : ∀ dn, (t ∈ cutW ∨ t ∈ awayW) → Hi dn U t (ones ys) hi → Hi dn U t (mir (ones ys)) (-lo) → wsum (bsE U t) (ones ys) - 2 * ys.length ≤ lo ∧ hi ≤ wsum (bsE U t) (ones ys) + 2 * ys.length := fun dn hs h1 h2 => by
    rw [mir_ones] at h2
    have b1 := hi_near h1
    have b2 := hi_near h2
    have r1 := run_near hU hs ys 0
    have r2 := run_near hU hs (negs ys) 0
    have rn := run_neg hU ht hs ys 0
    rw [show (-0 : Int) = 0 from rfl] at rn
    have nl : (negs ys).length = ys.length := List.length_map _
    rw [nl] at b2 r2
    omega
  rcases ways_parts ht with f | f | f | f
  · obtain ⟨y1, y2⟩ := a4 f
    omega
  · obtain ⟨y1, y2⟩ := a1 f
    have e1 := wsum_bits (f := evE U t) (fun x => by unfold evE; split <;> decide) ys
    have e2 := wsum_bits (f := odE U t) (fun x => by unfold odE; split <;> decide) ys
    have e3 := wsum_bits (f := kyE U t) (fun x => by unfold kyE; split <;> decide) ys
    omega
  · exact side true (.inl f) (a2 f).1 (a2 f).2
  · exact side false (.inr f) (a3 f).1 (a3 f).2
theorem wsum_abs {f : Int → Int} {M : Nat} : ∀ {ys : List Int}, (∀ y ∈ ys, (f y).natAbs ≤ M) → (wsum f (ones ys)).natAbs ≤ ys.length * M
  | [], _ => Nat.zero_le _
  | y :: r, h => by
    have a := h y List.mem_cons_self
    have b := wsum_abs (ys := r) fun z hz => h z (List.mem_cons_of_mem _ hz)
    rw [wsum_ones, List.length_cons, Nat.succ_mul]
    omega
end
end Own

set_option maxHeartbeats 1000000
/-! the ends are met by orders; the totals of all orders -/
namespace Own
open PySem
section
variable {U x s : Int} {t : Str}
theorem rise_ex (f : Int → Int) (L : List Int) : ∃ M : List Int, List.Perm M L ∧ Rise (M.map fun y => (f y, 1)) := by
  have key : ∀ L : List Int, ∃ M : List Int, List.Perm M L ∧ M.Pairwise fun a b => f a ≤ f b := by
    intro L
    induction L with
    | nil => exact ⟨[], .nil, .nil⟩
    | cons y L ih =>
      obtain ⟨M, p, sM⟩ := ih
      refine ⟨M.filter (fun z => decide (f z < f y)) ++ y :: M.filter (fun z => !decide (f z < f y)), ?_, ?_⟩
      · exact List.perm_middle.trans (((List.filter_append_perm _ M).trans p).cons y)
      · rw [List.pairwise_append]
        refine ⟨sM.filter _, List.pairwise_cons.mpr ⟨fun z hz => ?_, sM.filter _⟩, fun a ha b hb => ?_⟩
        · have := (List.mem_filter.mp hz).2
          simp only [Bool.not_eq_true', decide_eq_false_iff_not] at this
          omega
        · have h1 := of_decide_eq_true (List.mem_filter.mp ha).2
          rcases List.mem_cons.mp hb with rfl | hb
          · omega
          · have h2 := (List.mem_filter.mp hb).2
            simp only [Bool.not_eq_true', decide_eq_false_iff_not] at h2
            omega
  have rise_of : ∀ M : List Int, M.Pairwise (fun a b => f a ≤ f b) → Rise (M.map fun y => (f y, 1)) := by
    intro M
    induction M with
    | nil => exact fun _ => trivial
    | cons y M ih =>
      intro h
      obtain ⟨h1, h2⟩ := List.pairwise_cons.mp h
      refine ⟨fun e he => ?_, ih h2⟩
      obtain ⟨z, hz, rfl⟩ := List.mem_map.mp he
      exact h1 z hz
  obtain ⟨M, p, sM⟩ := key L
  exact ⟨M, p, rise_of M sM⟩
theorem wsum_same (f : Int → Int) {ys zs : List Int} (p : List.Perm ys zs) : wsum f (ones ys) = wsum f (ones zs) := wsum_perm f (p.map fun y => (y, 1))
theorem hi_met {dn : Bool} {ws zs : List Int} {h : Int} (p : List.Perm zs ws) (a : Hi dn U t (ones ws) h) (b : Hi dn U t (ones zs) (runL U t zs 0)) : runL U t zs 0 = h :=
  (b.alike (Alike.perm (p.map _))).one a
theorem three_parts (f g : Int → Bool) {L : List Int} (ws : List Int) (pL : List.Perm L ((ws.filter fun y => !f y).filter g)) : List.Perm (ws.filter f ++ L ++ (ws.filter fun y => !f y).filter fun y => !g y) ws := by
  rw [List.append_assoc]
  exact (((pL.append_right _).trans (List.filter_append_perm _ _)).append_left _).trans (List.filter_append_perm _ _)
theorem cut_met (hU : 0 < U) (ht : t ∈ cutW) (ws : List Int) {h : Int} (a : Hi true U t (ones ws) h) : ∃ zs, List.Perm zs ws ∧ runL U t zs 0 = h := by
  obtain ⟨L, pL, sL⟩ := rise_ex (szE true U) ((ws.filter fun y => !decide (y < 0)).filter fun y => isLoose U y t)
  have p := three_parts (fun y => decide (y < 0)) (fun y => isLoose U y t) ws pL
  refine ⟨_, p, hi_met p a (cut_best hU ht (fun y hy => of_decide_eq_true (List.mem_filter.mp hy).2) (fun y hy => ?_) sL (fun y hy => ?_))⟩
  · obtain ⟨h1, h2⟩ := List.mem_filter.mp (pL.mem_iff.mp hy)
    have h3 := (List.mem_filter.mp h1).2
    simp only [Bool.not_eq_true', decide_eq_false_iff_not] at h3
    exact ⟨h2, by omega⟩
  · obtain ⟨h1, h2⟩ := List.mem_filter.mp hy
    have h3 := (List.mem_filter.mp h1).2
    simp only [Bool.not_eq_true', decide_eq_false_iff_not] at h3
    exact ⟨by simpa using h2, by omega⟩
theorem loose_nil (hU : 0 < U) : isLoose U 0 t = false := by
  unfold isLoose
  rw [Int.zero_emod]
  have h1 : decide (2 * (0 : Int) = U) = false := decide_eq_false (by omega)
  rw [h1]
  simp
theorem away_met (hU : 0 < U) (ht : t ∈ awayW) (ws : List Int) {h : Int} (a : Hi false U t (ones ws) h) : ∃ zs, List.Perm zs ws ∧ runL U t zs 0 = h := by
  obtain ⟨L, pL, sL⟩ := rise_ex (szE false U) ((ws.filter fun y => !decide (0 < y)).filter fun y => isLoose U y t)
  have p := three_parts (fun y => decide (0 < y)) (fun y => isLoose U y t) ws pL
  refine ⟨_, p, hi_met p a (away_best hU ht (fun y hy => of_decide_eq_true (List.mem_filter.mp hy).2) (fun y hy => ?_) sL (fun y hy => ?_))⟩
  · obtain ⟨h1, h2⟩ := List.mem_filter.mp (pL.mem_iff.mp hy)
    have h3 := (List.mem_filter.mp h1).2
    simp only [Bool.not_eq_true', decide_eq_false_iff_not] at h3
    refine ⟨h2, ?_⟩
    rcases Int.lt_trichotomy y 0 with z | z | z
    · exact z
    · rw [z, loose_nil hU] at h2
      cases h2
    · omega
  · obtain ⟨h1, h2⟩ := List.mem_filter.mp hy
    have h3 := (List.mem_filter.mp h1).2
    simp only [Bool.not_eq_true', decide_eq_false_iff_not] at h3
    exact ⟨by simpa using h2, by omega⟩
theorem negs_negs (ws : List Int) : negs (negs ws) = ws := by
  unfold negs
  rw [List.map_map]
  exact (List.map_congr_left fun y _ => Int.neg_neg y).trans (List.map_id' _)
theorem low_met (hU : 0 < U) (ht : t ∈ cutW ∨ t ∈ awayW) {ws : List Int} {l : Int} (h : ∃ zs, List.Perm zs (negs ws) ∧ runL U t zs 0 = -l) : ∃ zs, List.Perm zs ws ∧ runL U t zs 0 = l := by
  obtain ⟨zs, p, e⟩ := h
  have hw : t ∈ waysL := ht.elim (fun z => (cut_way z).1) (fun z => (away_way z).1)
  refine ⟨negs zs, ?_, ?_⟩
  · have := p.map (fun y => -y)
    rw [show (negs ws).map (fun y => -y) = ws from negs_negs ws] at this
    exact this
  · have r := run_neg hU hw ht zs 0
    rw [show (-0 : Int) = 0 from rfl] at r
    omega
/-! ### by halves -/
theorem even_meet (hU : 0 < U) {X K L B : List Int} (hl : X.length = K.length) (hX : ∀ y ∈ X, isLoose U y "halfeven" = true) (hK : ∀ y ∈ K, isLoose U y "halfeven" = false ∧ near y U "halfeven" % 2 = 1) (hL : ∀ y ∈ L, isLoose U y "halfeven" = true) (hB : ∀ y ∈ B, isLoose U y "halfeven" = false) :
    ∃ zs, List.Perm zs (X ++ K ++ L ++ B) ∧ runL U "halfeven" zs 0 = wsum (bsE U "halfeven") (ones (X ++ K ++ L ++ B)) + wsum (evE U "halfeven") (ones X) + wsum (odE U "halfeven") (ones L) := by
  have flatP : ∀ {X K : List Int}, X.length = K.length → List.Perm ((K.zip X).flatMap fun p => [p.1, p.2]) (X ++ K) := by
    intro X
    induction X with
    | nil => intro K h; cases K with | nil => exact .nil | cons _ _ => cases h
    | cons x X ih =>
      intro K h
      cases K with
      | nil => cases h
      | cons k K =>
        have := ih (K := K) (by simpa using h)
        show List.Perm (k :: x :: ((K.zip X).flatMap fun p => [p.1, p.2])) (x :: (X ++ k :: K))
        exact (List.Perm.swap x k _).trans (((this.cons k).trans List.perm_middle.symm).cons x)
  have sndP : ∀ {X K : List Int}, X.length = K.length → (K.zip X).map (fun p => p.2) = X := by
    intro X
    induction X with
    | nil => intro K h; cases K with | nil => rfl | cons _ _ => cases h
    | cons x X ih =>
      intro K h
      cases K with
      | nil => cases h
      | cons k K =>
        show x :: (K.zip X).map (fun p => p.2) = x :: X
        rw [ih (by simpa using h)]
  have p : List.Perm (((K.zip X).flatMap fun p => [p.1, p.2]) ++ L ++ B) (X ++ K ++ L ++ B) := ((flatP hl).append_right L).append_right B
  refine ⟨_, p, ?_⟩
  rw [even_best hU (fun q hq => ?_) hL hB, sndP hl, wsum_same _ p]
  · obtain ⟨a, b⟩ := q
    obtain ⟨h1, h2⟩ := List.of_mem_zip hq
    exact ⟨(hK a h1).1, (hK a h1).2, hX b h2⟩
theorem wsum_len {f : Int → Int} {b : Int} : ∀ {ys : List Int}, (∀ y ∈ ys, f y = b) → wsum f (ones ys) = b * (ys.length : Int)
  | [], _ => (Int.mul_zero b).symm
  | y :: r, h => by
    rw [wsum_ones, h y List.mem_cons_self, wsum_len fun z hz => h z (List.mem_cons_of_mem _ hz), List.length_cons]
    show b + b * (r.length : Int) = b * ((r.length : Int) + 1)
    rw [Int.mul_add, Int.mul_one]
    omega
/-- the four kinds of entries by halfeven -/
structure Kinds (U : Int) (ws E O K B : List Int) : Prop where
  p : List.Perm (E ++ O ++ K ++ B) ws
  e : ∀ y ∈ E, isLoose U y "halfeven" = true ∧ y / U % 2 = 0
  o : ∀ y ∈ O, isLoose U y "halfeven" = true ∧ y / U % 2 = 1
  k : ∀ y ∈ K, isLoose U y "halfeven" = false ∧ near y U "halfeven" % 2 = 1
  b : ∀ y ∈ B, isLoose U y "halfeven" = false ∧ ¬ near y U "halfeven" % 2 = 1
theorem kinds_ex (U : Int) : ∀ ws : List Int, ∃ E O K B, Kinds U ws E O K B
  | [] => ⟨[], [], [], [], .nil, by simp, by simp, by simp, by simp⟩
  | y :: ws => by
    obtain ⟨E, O, K, B, c⟩ := kinds_ex U ws
    by_cases l : isLoose U y "halfeven" = true
    · rcases two_bits (a := y / U) with z | z
      · exact ⟨y :: E, O, K, B, c.p.cons y, List.forall_mem_cons.mpr ⟨⟨l, z⟩, c.e⟩, c.o, c.k, c.b⟩
      · refine ⟨E, y :: O, K, B, ?_, c.e, List.forall_mem_cons.mpr ⟨⟨l, z⟩, c.o⟩, c.k, c.b⟩
        refine List.Perm.trans ?_ (c.p.cons y)
        rw [List.append_assoc, List.append_assoc, List.append_assoc, List.append_assoc]
        exact List.perm_middle
    · have l : isLoose U y "halfeven" = false := by simpa using l
      by_cases z : near y U "halfeven" % 2 = 1
      · refine ⟨E, O, y :: K, B, ?_, c.e, c.o, List.forall_mem_cons.mpr ⟨⟨l, z⟩, c.k⟩, c.b⟩
        refine List.Perm.trans ?_ (c.p.cons y)
        rw [List.append_assoc, List.append_assoc (E ++ O) K B]
        exact List.perm_middle
      · refine ⟨E, O, K, y :: B, ?_, c.e, c.o, c.k, List.forall_mem_cons.mpr ⟨⟨l, z⟩, c.b⟩⟩
        exact List.perm_middle.trans (c.p.cons y)
theorem Kinds.sums {U : Int} {ws E O K B : List Int} (c : Kinds U ws E O K B) : wsum (evE U "halfeven") (ones ws) = E.length ∧ wsum (odE U "halfeven") (ones ws) = O.length ∧ wsum (kyE U "halfeven") (ones ws) = K.length := by
  have sp : ∀ f : Int → Int, wsum f (ones ws) = wsum f (ones E) + wsum f (ones O) + wsum f (ones K) + wsum f (ones B) := by
    intro f
    rw [← wsum_same f c.p]
    rw [ones_app, ones_app, ones_app, wsum_app, wsum_app, wsum_app]
  refine ⟨?_, ?_, ?_⟩
  · rw [sp, wsum_len (b := 1) fun y hy => by unfold evE; rw [(c.e y hy).1, (c.e y hy).2]; rfl, wsum_len (b := 0) fun y hy => by unfold evE; rw [(c.o y hy).1, (c.o y hy).2]; rfl, wsum_len (b := 0) fun y hy => by unfold evE; rw [(c.k y hy).1]; rfl, wsum_len (b := 0) fun y hy => by unfold evE; rw [(c.b y hy).1]; rfl]
    omega
  · rw [sp, wsum_len (b := 0) fun y hy => by unfold odE; rw [(c.e y hy).1, (c.e y hy).2]; rfl, wsum_len (b := 1) fun y hy => by unfold odE; rw [(c.o y hy).1, (c.o y hy).2]; rfl, wsum_len (b := 0) fun y hy => by unfold odE; rw [(c.k y hy).1]; rfl, wsum_len (b := 0) fun y hy => by unfold odE; rw [(c.b y hy).1]; rfl]
    omega
  · rw [sp, wsum_len (b := 0) fun y hy => by unfold kyE; rw [(c.e y hy).1]; rfl, wsum_len (b := 0) fun y hy => by unfold kyE; rw [(c.o y hy).1]; rfl, wsum_len (b := 1) fun y hy => by unfold kyE; rw [(c.k y hy).1, (c.k y hy).2]; rfl, wsum_len (b := 0) fun y hy => by unfold kyE; rw [(c.b y hy).1, decide_eq_false (c.b y hy).2]; rfl]
    omega
theorem even_side (hU : 0 < U) {ws X Y K B : List Int} (p : List.Perm (X ++ Y ++ K ++ B) ws) (hX : ∀ y ∈ X, isLoose U y "halfeven" = true) (hY : ∀ y ∈ Y, isLoose U y "halfeven" = true) (hK : ∀ y ∈ K, isLoose U y "halfeven" = false ∧ near y U "halfeven" % 2 = 1) (hB : ∀ y ∈ B, isLoose U y "halfeven" = false) :
    ∃ zs, List.Perm zs ws ∧ runL U "halfeven" zs 0 = wsum (bsE U "halfeven") (ones ws) + wsum (evE U "halfeven") (ones (X.take (min X.length K.length))) + wsum (odE U "halfeven") (ones (X.drop (min X.length K.length) ++ Y)) := by
  generalize hm : min X.length K.length = m
  have q : List.Perm (X.take m ++ K.take m ++ (X.drop m ++ Y) ++ (K.drop m ++ B)) ws := by
    refine List.Perm.trans ?_ p
    have e1 : X.take m ++ X.drop m = X := List.take_append_drop m X
    have e2 : K.take m ++ K.drop m = K := List.take_append_drop m K
    calc List.Perm (X.take m ++ K.take m ++ (X.drop m ++ Y) ++ (K.drop m ++ B)) (X.take m ++ (X.drop m ++ Y) ++ K.take m ++ (K.drop m ++ B)) := by
          refine List.Perm.append_right _ ?_
          rw [List.append_assoc, List.append_assoc]
          exact List.perm_append_comm.append_left _
      _ = X ++ Y ++ K ++ B := by
          rw [← List.append_assoc (X.take m), e1, List.append_assoc (X ++ Y), ← List.append_assoc (K.take m), e2, List.append_assoc (X ++ Y)]
      List.Perm _ _ := .refl _
  obtain ⟨zs, pz, ez⟩ := even_meet hU (X := X.take m) (K := K.take m) (L := X.drop m ++ Y) (B := K.drop m ++ B) (by rw [List.length_take, List.length_take]; omega) (fun y hy => hX y (List.mem_of_mem_take hy)) (fun y hy => hK y (List.mem_of_mem_take hy))
    (fun y hy => (List.mem_append.mp hy).elim (fun z => hX y (List.mem_of_mem_drop z)) (hY y)) (fun y hy => (List.mem_append.mp hy).elim (fun z => (hK y (List.mem_of_mem_drop z)).1) (hB y))
  refine ⟨zs, pz.trans q, ?_⟩
  rw [ez]
  have : wsum (bsE U "halfeven") (ones (X.take m ++ K.take m ++ (X.drop m ++ Y) ++ (K.drop m ++ B))) = wsum (bsE U "halfeven") (ones ws) := wsum_same _ q
  rw [this]
theorem even_met (hU : 0 < U) (ws : List Int) {lo hi : Int} (h1 : lo = wsum (bsE U "halfeven") (ones ws) + wsum (odE U "halfeven") (ones ws) - min (wsum (odE U "halfeven") (ones ws)) (wsum (kyE U "halfeven") (ones ws))) (h2 : hi = wsum (bsE U "halfeven") (ones ws) + wsum (odE U "halfeven") (ones ws) + min (wsum (evE U "halfeven") (ones ws)) (wsum (kyE U "halfeven") (ones ws))) :
    (∃ zs, List.Perm zs ws ∧ runL U "halfeven" zs 0 = lo) ∧ ∃ zs, List.Perm zs ws ∧ runL U "halfeven" zs 0 = hi := by
  obtain ⟨E, O, K, B, c⟩ := kinds_ex U ws
  obtain ⟨s1, s2, s3⟩ := c.sums
  have eE : ∀ y ∈ E, evE U "halfeven" y = 1 ∧ odE U "halfeven" y = 0 := fun y hy => by unfold evE odE; rw [(c.e y hy).1, (c.e y hy).2]; exact ⟨rfl, rfl⟩
  have eO : ∀ y ∈ O, evE U "halfeven" y = 0 ∧ odE U "halfeven" y = 1 := fun y hy => by unfold evE odE; rw [(c.o y hy).1, (c.o y hy).2]; exact ⟨rfl, rfl⟩
  constructor
  · obtain ⟨zs, pz, ez⟩ := even_side hU (X := O) (Y := E) (K := K) (B := B) ((((List.perm_append_comm (l₁ := O) (l₂ := E)).append_right K).append_right B).trans c.p) (fun y hy => (c.o y hy).1) (fun y hy => (c.e y hy).1) c.k fun y hy => (c.b y hy).1
    refine ⟨zs, pz, ?_⟩
    rw [ez, h1, s2, s3, wsum_len (b := 0) fun y hy => (eO y (List.mem_of_mem_take hy)).1, ones_app, wsum_app, wsum_len (b := 1) fun y hy => (eO y (List.mem_of_mem_drop hy)).2, wsum_len (b := 0) fun y hy => (eE y hy).2, List.length_drop]
    omega
  · obtain ⟨zs, pz, ez⟩ := even_side hU (X := E) (Y := O) (K := K) (B := B) c.p (fun y hy => (c.e y hy).1) (fun y hy => (c.o y hy).1) c.k fun y hy => (c.b y hy).1
    refine ⟨zs, pz, ?_⟩
    rw [ez, h2, s1, s2, s3, wsum_len (b := 1) fun y hy => (eE y (List.mem_of_mem_take hy)).1, ones_app, wsum_app, wsum_len (b := 0) fun y hy => (eE y (List.mem_of_mem_drop hy)).2, wsum_len (b := 1) fun y hy => (eO y hy).2, List.length_take]
    omega
/-- the ends are met -/
theorem ends_met (hU : 0 < U) (ht : t ∈ waysL) {ws : List Int} {lo hi : Int} (h : Ends U t (ones ws) lo hi) : (∃ zs, List.Perm zs ws ∧ runL U t zs 0 = lo) ∧ ∃ zs, List.Perm zs ws ∧ runL U t zs 0 = hi := by
  obtain ⟨h1, h2, h3, h4⟩ := h
  rcases ways_parts ht with f | rfl | c | a
  · obtain ⟨rfl, rfl⟩ := h4 f
    have e : runL U t ws 0 = wsum (bsE U t) (ones ws) := by rw [flat_run hU f]; omega
    exact ⟨⟨ws, .refl _, e⟩, ⟨ws, .refl _, e⟩⟩
  · obtain ⟨e1, e2⟩ := h1 rfl
    exact even_met hU ws e1 e2
  · obtain ⟨a1, a2⟩ := h2 c
    rw [mir_ones] at a2
    exact ⟨low_met hU (.inl c) (cut_met hU c _ a2), cut_met hU c _ a1⟩
  · obtain ⟨a1, a2⟩ := h3 a
    rw [mir_ones] at a2
    exact ⟨low_met hU (.inr a) (away_met hU a _ a2), away_met hU a _ a1⟩
/-! ### the totals of all orders -/
def totsL (U : Int) (t : Str) : Nat → List Int → Int → List Int
  | 0, _, s => [s]
  | n + 1, row, s => (List.range (n + 1)).flatMap fun i => totsL U t n (row.take i ++ row.drop (i + 1)) (stp U (row.getD i 0) t s)
theorem cut_one {row : List Int} {i : Nat} (h : i < row.length) : List.Perm (row.getD i 0 :: (row.take i ++ row.drop (i + 1))) row ∧ (row.take i ++ row.drop (i + 1)).length = row.length - 1 := by
  have e : row.take i ++ row.getD i 0 :: row.drop (i + 1) = row := by
    rw [List.getD_eq_getElem?_getD, List.getElem?_eq_getElem h]
    show row.take i ++ row[i] :: row.drop (i + 1) = row
    rw [← List.drop_eq_getElem_cons h, List.take_append_drop]
  have p : List.Perm (row.getD i 0 :: (row.take i ++ row.drop (i + 1))) row := by
    have := (List.perm_middle (l₁ := row.take i) (l₂ := row.drop (i + 1)) (a := row.getD i 0)).symm
    rwa [e] at this
  exact ⟨p, by have := p.length_eq; rw [List.length_cons] at this; omega⟩
theorem tots_mem (U : Int) (t : Str) : ∀ (n : Nat) (row : List Int) (s x : Int), row.length = n → (x ∈ totsL U t n row s ↔ ∃ zs, List.Perm zs row ∧ runL U t zs s = x)
  | 0, row, s, x, h => by
    obtain rfl := List.length_eq_zero_iff.mp h
    constructor
    · intro m
      obtain rfl := List.mem_singleton.mp m
      exact ⟨[], .nil, rfl⟩
    · rintro ⟨zs, p, rfl⟩
      obtain rfl := List.perm_nil.mp p
      exact List.mem_singleton.mpr rfl
  | n + 1, row, s, x, h => by
    unfold totsL
    rw [List.mem_flatMap]
    constructor
    · rintro ⟨i, hi, m⟩
      have hi := List.mem_range.mp hi
      obtain ⟨p, l⟩ := cut_one (row := row) (i := i) (by omega)
      obtain ⟨zs, pz, ez⟩ := (tots_mem U t n _ _ x (by omega)).mp m
      exact ⟨_, (pz.cons _).trans p, by rw [runL_cons]; exact ez⟩
    · rintro ⟨zs, pz, ez⟩
      cases zs with
      | nil => have := pz.length_eq; rw [List.length_nil] at this; omega
      | cons y zs =>
        obtain ⟨i, hi, ei⟩ := List.getElem_of_mem (pz.mem_iff.mp (List.mem_cons_self (a := y) (l := zs)))
        have g : row.getD i 0 = y := by rw [List.getD_eq_getElem?_getD, List.getElem?_eq_getElem hi]; exact ei
        obtain ⟨p, l⟩ := cut_one (row := row) (i := i) hi
        refine ⟨i, List.mem_range.mpr (by omega), (tots_mem U t n _ _ x (by omega)).mpr ⟨zs, ?_, ?_⟩⟩
        · rw [g] at p
          exact (pz.trans p.symm).cons_inv
        · rw [g, ← runL_cons]
          exact ez
theorem flat_len_le {α β : Type} {f : α → List β} {M : Nat} : ∀ {l : List α}, (∀ a ∈ l, (f a).length ≤ M) → (l.flatMap f).length ≤ l.length * M
  | [], _ => Nat.zero_le _
  | a :: l, h => by
    rw [List.flatMap_cons, List.length_append, List.length_cons, Nat.add_mul, Nat.one_mul]
    have h1 := h a List.mem_cons_self
    have h2 := flat_len_le (l := l) fun b hb => h b (List.mem_cons_of_mem _ hb)
    omega
theorem tots_len (U : Int) (t : Str) : ∀ (n : Nat) (row : List Int) (s : Int), n ≤ 5 → (totsL U t n row s).length ≤ 5 ^ n
  | 0, _, _, _ => Nat.le_refl _
  | n + 1, row, s, h => by
    have a := flat_len_le (l := List.range (n + 1)) (f := fun i => totsL U t n (row.take i ++ row.drop (i + 1)) (stp U (row.getD i 0) t s)) (M := 5 ^ n) fun i _ => tots_len U t n _ _ (by omega)
    rw [List.length_range] at a
    have b : (n + 1) * 5 ^ n ≤ 5 * 5 ^ n := Nat.mul_le_mul_right _ h
    rw [Nat.pow_succ]
    unfold totsL
    omega
theorem pow_small {n : Nat} (h : n ≤ 5) : 5 ^ n ≤ 3125 := Nat.pow_le_pow_right (by decide) h
end
end Own

set_option maxHeartbeats 4000000
/-! own layer, of no law: OWO6: list(range(a, b)) of wide bounds; a list beside the empty one. -/
namespace Own
open PySem PySem.Spec PyProof.Rows L2 LamX NdefX
/-- whether a list is the empty one -/
theorem op_eqNil {X : Cx} (hu : X.A.units + 64 < cLine) : OpR X (compareOp .Eq) (fun x y H Q => ∃ (l m : Addr) (xs : List V), x = .ref l ∧ y = .ref m ∧ SqL X.K H l xs ∧ SqL X.K H m [] ∧ Q (.bl (decide (xs = []))) H) := by
  intro pins s σ H x y v u Q I rx ry h
  obtain ⟨l, m, xs, rfl, rfl, h1, h2, q⟩ := h
  cases (show v = Value.ref l from rx)
  cases (show u = Value.ref m from ry)
  obtain ⟨us, r1, t1, _⟩ := I.list h1
  obtain ⟨ws, r2, t2, _⟩ := I.list h2
  have l1 := r1.length
  have l2 := r2.length
  cases xs with
  | nil =>
    have := SeqAt.RcAt.lists (A := X.A) (e := fun _ => true) t1.isList t2.isList (by simp at l1 l2 ⊢; omega) (by omega) (fun j j1 j2 => by simp at l1 j1; omega)
    have e : ((List.range us.toArray.size).all (fun _ => true)) = true := by simp
    rw [e] at this
    exact this X.prog X.w _ _ ⟨.bl true, H, I, rfl, q⟩
  | cons a r =>
    have := SeqAt.RcAt.lists_lengths (A := X.A) t1.isList t2.isList (by simp at l1 l2 ⊢; omega) (by omega)
    exact this X.prog X.w _ _ ⟨.bl false, H, I, rfl, q⟩
section
variable {prog : Program} {w : World} {A : Around} {E : Value → Shared → Prop} {s : Shared}
/-- a list is filled from a range whose bounds are wide -/
theorem long_fill {R : Result → Shared → Prop} {r L : Addr} {a b : Int} {ta tb tc : Tok} {n c0 : Nat} {res : Value} (free : A.handled = none) (hr : IsRange s.heap r a b 1 ta tb tc) (wide : Builtin.Range.small a b 1 = false) (many : Builtin.Range.rangeSize a b 1 = n) (few : n ≤ 2 ^ 24)
    (hL : s.heap.get? L = some { cls := .type "list", data := .seq #[] c0 })
    (go : ∀ hp tk ys c1, (∀ x o, x ≠ L → s.heap.get? x = some o → hp.get? x = some o) → hp.get? L = some { cls := .type "list", dict := none, data := .seq ys c1, slots := #[] } →
      ItemsOf (fun i y => ∃ t, y = .int (a + i * 1) t) ys n → R (.ok (.ret res)) { s with heap := hp, toks := tk }) :
    wpAny (model prog w) A.in1 (Builtin.List.listExtendWith (.ref L) (.ref r) res)
      (fun z s2 => match z with | .done f => R (.ok f) s2 | .again c => c.quiet = true ∧ codeAny (model prog w) A c R s2) (fun e s2 => R (.error e) s2) s := by
  have hn : n ≤ sizeLine := by rw [sizeLine_eq]; omega
  have ne : L ≠ r := by
    intro e
    rw [e, hr] at hL
    simp at hL
  have lt : L < s.heap.objs.size := Heap.lt_size hL
  have nI : L ≠ s.heap.objs.size := Nat.ne_of_lt lt
  have out : L ∉ [s.heap.objs.size] := fun z => nI (List.mem_singleton.mp z)
  have Wk := (Walks.longrange (prog := prog) (w := w) (A := A.in1) free s.heap.objs.size a 1 n).toS
  have loop : ∀ (hp : Heap) (c1 tk : Nat), IsLongIter hp s.heap.objs.size (a + ((0 : Nat) : Int) * 1) ((n : Int) - ((0 : Nat) : Int)) 1 → (∀ x o, x ≠ L → s.heap.get? x = some o → hp.get? x = some o) →
      hp.get? L = some { cls := .type "list", data := .seq #[] c1 } → codeAny (model prog w) A (.builtin "list.extend.loop" ⟨[.ref L, .ref s.heap.objs.size, res], []⟩) R { s with heap := hp, toks := tk } := by
    intro hp c1 tk it old hL1
    refine codeAny_extend_loopS Wk hn L out res n 0 _ #[] c1 rfl (Nat.zero_le _) it hL1 (ItemsOf.nil _) fun s2 ys c2 mv hL2 items => ?_
    rw [Moved.eq_with mv]
    refine go s2.heap s2.toks ys c2 (fun x o hx e => mv.heap x o (fun z => ?_) (old x o hx e)) hL2 items
    rcases List.mem_cons.mp z with z | z
    · exact hx z
    · rw [List.mem_singleton.mp z] at e
      exact absurd (Heap.lt_size e) (Nat.lt_irrefl _)
  unfold Builtin.List.listExtendWith
  refine wpAny_bind (wpAny_typeOf (T := "range") ⟨_, hr, rfl⟩ ?_)
  have k1 : Builtin.List.listSameRef (.ref L) (.ref r) = false := by
    simp [Builtin.List.listSameRef, ne]
  have k2 : ((Value.type "range" == Value.type "list") || (Value.type "range" == Value.type "tuple")) = false := by decide
  simp only [k1, k2, Bool.or_false, Bool.false_or, Bool.false_eq_true, if_false]
  refine wpAny_bind (wpAny_pyIter_longrange hr wide ?_)
  have it0 : IsLongIter (s.heap.push { cls := .type "longrange_iterator", data := .fields #[rawInt a, rawInt (Builtin.Range.rangeSize a b 1), rawInt 1] }) s.heap.objs.size a (Builtin.Range.rangeSize a b 1) 1 := Heap.get?_push_size _ rfl
  have hL1 := Heap.get?_push_of_some { cls := .type "longrange_iterator", data := .fields #[rawInt a, rawInt (Builtin.Range.rangeSize a b 1), rawInt 1] } hL
  have old1 : ∀ x o, s.heap.get? x = some o → (s.heap.push { cls := .type "longrange_iterator", data := .fields #[rawInt a, rawInt (Builtin.Range.rangeSize a b 1), rawInt 1] }).get? x = some o := fun x o e => Heap.get?_push_of_some _ e
  generalize s.heap.push { cls := .type "longrange_iterator", data := .fields #[rawInt a, rawInt (Builtin.Range.rangeSize a b 1), rawInt 1] } = h1 at it0 hL1 old1 ⊢
  refine wpAny_bind (wpAny_holding (wpAny_hint_range (n := n) (old1 _ _ hr) many few ?_))
  have it1 : IsLongIter h1 s.heap.objs.size (a + ((0 : Nat) : Int) * 1) ((n : Int) - ((0 : Nat) : Int)) 1 := by
    show IsLongIter _ _ _ _ _
    rw [many] at it0
    simpa using it0
  have quiet := plainId_quiet F.plain_extend_loop
  refine wpAny_ite_split (fun _ => ?_) (fun _ => wpAny_pure ⟨quiet _, loop h1 c0 _ it1 (fun x o _ e => old1 x o e) hL1⟩)
  refine wpAny_bind (wpAny_rule (wpAny_bind ?_))
  show wpAny _ _ (do updateSeq L (·.push .none); updateSeq L (·.pop)) _ _ _
  refine wpAny_bind (wpAny_updateSeq hL1 rfl ?_)
  have hL2 := Heap.get?_update_self (Obj.mapSeq (·.push Value.none)) hL1 rfl
  refine wpAny_updateSeq (hz := by seq_fits) hL2 rfl (wpAny_pure ⟨quiet _, loop _ _ _ ?_ (fun x o hx e => ?_) (Heap.get?_update_self (Obj.mapSeq (·.pop)) hL2 rfl)⟩)
  · rw [IsLongIter, Heap.get?_update_other _ _ nI, Heap.get?_update_other _ _ nI]
    exact it1
  · rw [Heap.get?_update_other _ _ (Ne.symm hx), Heap.get?_update_other _ _ (Ne.symm hx)]
    exact old1 x o e
/-- list(range(a, b)) of wide bounds -/
theorem long_list {Q : Value → Shared → Prop} {r : Addr} {a b : Int} {ta tb tc : Tok} {n : Nat} (free : A.handled = none) (hr : IsRange s.heap r a b 1 ta tb tc) (wide : Builtin.Range.small a b 1 = false) (many : Builtin.Range.rangeSize a b 1 = n) (few : n ≤ 2 ^ 24)
    (go : ∀ hp tk ys c1, (∀ x o, s.heap.get? x = some o → hp.get? x = some o) → hp.get? s.heap.objs.size = some { cls := .type "list", dict := none, data := .seq ys c1, slots := #[] } →
      ItemsOf (fun i y => ∃ t, y = .int (a + i * 1) t) ys n → Q (.ref s.heap.objs.size) { s with heap := hp, toks := tk }) :
    wpAny (model prog w) A (call (.type "list") [.ref r]) Q E s := by
  refine callType_codes (Q₁ := fun z s1 => z = .ref s.heap.objs.size ∧ s1 = { s with heap := s.heap.push { cls := .type "list", data := .seq #[] } }) F.called_list (F.typeCall_list_1 _)
    F.entry_list_init (code_list_new _ ⟨rfl, rfl⟩) ?_
  rintro z s1 ⟨rfl, rfl⟩
  have hL : (s.heap.push { cls := .type "list", data := .seq #[] }).get? s.heap.objs.size = some { cls := .type "list", data := .seq #[] } := Heap.get?_push_size _ rfl
  have nr : s.heap.objs.size ≠ r := (Nat.ne_of_lt (Heap.lt_size hr)).symm
  refine ⟨⟨_, hL, rfl⟩, F.args_list_init_2 _ _, ?_⟩
  show wpAny _ _ (do let old ← Builtin.List.listItems (.ref s.heap.objs.size); Builtin.List.listUpdate (.ref s.heap.objs.size) (fun _ => #[]); letGo old.toList.reverse; Builtin.List.listExtendWith (.ref s.heap.objs.size) (.ref r) .none) _ _ _
  refine wpAny_bind ?_
  unfold Builtin.List.listItems
  refine wpAny_bind (wpAny_seqItems hL rfl (wpAny_pure ?_))
  refine wpAny_bind (m := updateSeq s.heap.objs.size _) (wpAny_updateSeq hL rfl ?_)
  have hL2 := Heap.get?_update_self (Obj.mapSeq (fun _ => (#[] : Array Value))) hL rfl
  refine wpAny_bind (wpAny_letGo ?_)
  refine long_fill (A := A.in1) free ((Heap.get?_update_other _ _ nr).trans (Heap.get?_push_of_some _ hr)) wide many few (by exact hL2) fun hp tk ys c1 old hL3 items => ?_
  refine ⟨rfl, go hp tk ys c1 (fun x o e => ?_) hL3 items⟩
  have hx : x ≠ s.heap.objs.size := Nat.ne_of_lt (Heap.lt_size e)
  exact old x o hx ((Heap.get?_update_other _ _ hx.symm).trans (Heap.get?_push_of_some _ e))
end
section
variable {X : Cx} {e : Expr} {te : L2.St → Hp → (Int → Int → Hp → Prop) → Prop}
/-- list(range(a, b)): any bounds, few numbers -/
def tLstRgW (te : L2.St → Hp → (Int → Int → Hp → Prop) → Prop) : TE := fun σ H Q => te σ H fun a b H1 => (b - a).toNat ≤ 2 ^ 24 ∧ ∀ q, H1 q = none → Q (.ref q) (upd H1 q (.lst (rgV a b)))
theorem pe_listRgW {p pos : Pos} (hc : X.calm = true) (hg : Gl X "list") (hm : X.mg "list" = none) (he : PRg X e te) (na : starEach [e] X.env = (false, eval e X.env) :: starEach [] X.env := by rfl) : PE X (.Call (.Name "list" p) [e] [] pos) (tLstRgW te) := by
  refine ⟨fun pins s σ H Q I h => Call_ (ld_blt I hg hm boot_list (PyProof.Rows.callWith_type1 (args_cons (thn (he pins s σ H _ I h) ?_) na) na))⟩
  rintro x s1 ⟨r, a, b, t, u, v, H1, rfl, hr, I1, few, q⟩
  refine args_nil ?_
  have fin : ∀ (hp : Heap) (tk : Nat) (ys : Array Value) (c1 : Nat), (∀ x o, s1.heap.get? x = some o → hp.get? x = some o) → hp.get? s1.heap.objs.size = some { cls := .type "list", dict := none, data := .seq ys c1, slots := #[] } →
      ItemsOf (fun i y => ∃ t, y = .int (a + i * 1) t) ys (b - a).toNat → ∃ (y : V) (H2 : Hp), Inv X pins σ H2 { s1 with heap := hp, toks := tk } ∧ RelV y (.ref s1.heap.objs.size) ∧ Q y H2 := by
    intro hp tk ys c1 old hl items
    refine ⟨.ref s1.heap.objs.size, upd H1 s1.heap.objs.size (.lst (rgV a b)), I1.laid old (Nat.le_refl _) (show ObjOk X.prog X.w _ _ _ (.lst (rgV a b)) from ⟨?_, ys.toList, c1, vals_rg items, ?_⟩), rfl, q _ (I1.hok.fresh (Nat.le_refl _))⟩
    · rw [rgV_length, sizeLine_eq]
      omega
    · rw [Array.toArray_toList]
      exact hl
  by_cases sm : Builtin.Range.small a b 1 = true
  · exact call_list_range (n := (b - a).toNat) (I1.ok.hd hc) hr sm (rangeSize_nat a b) few fin
  · exact long_list (n := (b - a).toNat) (I1.ok.hd hc) hr (by simpa using sm) (rangeSize_nat a b) few fin
end
end Own

set_option maxHeartbeats 1000000
/-! own layer, of no law: OWO7: entries with times, one by one. -/
namespace Own
open PySem PySem.Spec PyProof.Rows L2 LamX NdefX
section
variable {U : Int} {t : Str}
def flatE (es : List (Int × Nat)) : List Int := es.flatMap fun e => List.replicate e.2 e.1
def sumN (es : List (Int × Nat)) : Nat := (es.map fun e => e.2).sum
theorem flatE_len : ∀ es : List (Int × Nat), (flatE es).length = sumN es
  | [] => rfl
  | (x, k) :: es => by
    show (List.replicate k x ++ flatE es).length = k + sumN es
    rw [List.length_append, List.length_replicate, flatE_len es]
theorem flatE_snoc (es : List (Int × Nat)) (e : Int × Nat) : flatE (es ++ [e]) = flatE es ++ List.replicate e.2 e.1 := by
  unfold flatE
  rw [List.flatMap_append]
  exact congrArg _ (List.append_nil _)
theorem flatE_mem {es : List (Int × Nat)} {x : Int} (h : x ∈ flatE es) : ∃ k, (x, k) ∈ es := by
  obtain ⟨⟨y, k⟩, he, hx⟩ := List.mem_flatMap.mp h
  obtain rfl := List.eq_of_mem_replicate hx
  exact ⟨k, he⟩
theorem sumN_mem : ∀ {es : List (Int × Nat)} {e : Int × Nat}, e ∈ es → e.2 ≤ sumN es
  | (x, k) :: es, e, h => by
    show e.2 ≤ k + sumN es
    rcases List.mem_cons.mp h with rfl | h
    · exact Nat.le_add_right _ _
    · exact Nat.le_trans (sumN_mem h) (Nat.le_add_left _ _)
theorem flatE_mir : ∀ es : List (Int × Nat), flatE (mir es) = negs (flatE es)
  | [] => rfl
  | (x, k) :: es => by
    show List.replicate k (-x) ++ flatE (mir es) = negs (List.replicate k x ++ flatE es)
    rw [flatE_mir es]
    unfold negs
    rw [List.map_append, List.map_replicate]
theorem ch_zero {s : Int} {l : List (Int × Nat)} {n c : Int} : Ch ((s, 0) :: l) n c ↔ Ch l n c := by
  constructor
  · intro h
    cases h with
    | more j h0 h1 r =>
      have : j = 0 := by
        have : ((0 : Nat) : Int) = 0 := rfl
        omega
      subst this
      rw [Int.zero_add, Int.zero_mul, Int.zero_add]
      exact r
  · intro h
    exact Ch.to 0 (by omega) (by omega) h (by omega) (by omega)
theorem al_zero {x : Int} {es : List (Int × Nat)} : Alike U t ((x, 0) :: es) es := by
  refine ⟨fun f => ?_, fun dn n c => ?_⟩
  · simp [wsum]
  · rw [cs_cons]
    split
    · exact ch_zero
    · exact Iff.rfl
theorem al_flat : ∀ es : List (Int × Nat), Alike U t es (ones (flatE es))
  | [] => Alike.perm .nil
  | (x, k) :: es => by
    have ih := al_flat es
    show Alike U t ((x, k) :: es) (ones (List.replicate k x ++ flatE es))
    induction k with
    | zero => exact al_zero.trans ih
    | succ k ik =>
      have j := (Alike.join (U := U) (t := t) (x := x) (a := 1) (b := k) (es := es)).symm
      rw [Nat.add_comm] at j
      exact j.trans (ik.cons (x, 1))
theorem ends_flat {es : List (Int × Nat)} {lo hi : Int} (h : Ends U t es lo hi) : Ends U t (ones (flatE es)) lo hi := by
  refine Ends.alike (al_flat es) ?_ h
  rw [mir_ones, ← flatE_mir]
  exact al_flat (mir es)
end
end Own

set_option maxHeartbeats 4000000
/-! k50: the law: the totals of all orders. -/
namespace K50
open PySem PySem.Spec PyProof.Rows L2 LamX NdefX Own
abbrev sTt : Stmt := topS 63
theorem cut_from {xs : List V} {k : Nat} (h : k ≤ xs.length) : cutV xs (some (k : Int)) none = xs.drop k := by
  unfold cutV
  have e1 : HT.sIx xs.length xs.length none = xs.length := rfl
  have e2 : HT.sIx xs.length 0 (some (k : Int)) = k := by
    unfold HT.sIx
    simp [show ¬ (k : Int) < 0 by omega]; omega
  rw [e1, e2]
  exact List.take_of_length_le (by rw [List.length_drop]; exact Nat.le_refl _)
section
variable {P : Program} {w : World} {K : PySem.W.Frag} {mg : Str → Option Value} {base : Heap}
theorem scTt : FnScope ["_law_row", "_law_state", "_law_unit", "_law_way", "_law_found", "_law_at", "_law_after"] ["_law_row", "_law_state", "_law_unit", "_law_way"] (defScope sTt) := ⟨rfl, rfl, rfl, by decide +kernel, rfl, by decide +kernel, by decide +kernel⟩
def spTt (n : Nat) : Sp := fun vs H Q _ => ∃ (l : Addr) (xs : List Int) (s U : Int) (t : Str), vs = [.ref l, .int s, .int U, .str t] ∧ H l = some (.lst (xs.map V.int)) ∧ xs.length = n ∧ 0 < U ∧ U < 1073741824 ∧ t ∈ waysL ∧ ∀ (r : Addr) (H' : Hp), Same H H' → H' r = some (.lst ((totsL U t n xs s).map V.int)) → Q (.ref r) H'
def spTa (N : Nat) : Sp := fun vs H Q E => ∃ n, n ≤ N ∧ spTt n vs H Q E
def spNo : Sp := fun _ _ _ _ => False
theorem tt_step (A : At K mg "_law_totals" sTt ["_law_row", "_law_state", "_law_unit", "_law_way"]) (B : Blt mg) (D7 : DefOk P w K mg base CX0 "_law_rounded" 1 ["_law_number", "_law_unit", "_law_way"] spRd) (N k : Nat) (sp : Sp) (hN : N ≤ 5) (hk : 2 ≤ k) (DT : DefOk P w K mg base CX0 "_law_totals" k ["_law_row", "_law_state", "_law_unit", "_law_way"] sp) (hs : ∀ m, m + 1 ≤ N → ∀ vs H Q E, spTt m vs H Q E → sp vs H Q E) :
    DefOk P w K mg base CX0 "_law_totals" (k + 1) ["_law_row", "_law_state", "_law_unit", "_law_way"] (spTa N) := by
  refine A.ok fun f fd F => F.ok scTt (fun vs H Q E h => ?_) (fun cdv A outer s0 H vs Q E hr h => ?_)
  · obtain ⟨n, _, l, xs, s, U, t, rfl, _⟩ := h
    rfl
  · obtain ⟨n, nN, l, xs, s, U, t, rfl, hl, hx, U0, U1, ht, q⟩ := h
    have hn : n ≤ 5 := by omega
    have nd := scTt.nd
    refine ⟨_, pss_cons (ps_if (pt_cmpR (op_eqNil hr.units) (pv 0) (pe_lst pa_nil) (nomark _)) (pss_one (ps_ret (pe_lst (pa_cons (pv 1) pa_nil)))) pss_nil)
      (pss_cons (ps_set (i := 4) nd rfl (.inl rfl) (pe_lst pa_nil))
      (pss_cons (ps_for PassesOwn.never rfl (pi_range1 (by rfl) B.range (pa_cons (pe_callB call_len_seq (by rfl) B.len PySem.boot_len (pa_cons (pv 0) pa_nil)) pa_nil)) (pg_name (i := 5) nd rfl (.inl rfl)) (pss_cons (ps_set (i := 6) nd rfl (.inl rfl) (pe_def D7 hr (by omega) (by rfl) pass0 (pa_cons (pe_op op_add (pe_op op_mul (pv 1) (pv 2)) (pe_ix ix_list (pv 0) (pv 5) (fun _ _ => rfl))) (pa_cons (pv 2) (pa_cons (pv 3) pa_nil))))) (pss_one (ps_set (i := 4) nd rfl (.inl rfl) (pe_op op_cat (pv 4) (pe_def DT hr (Nat.le_refl _) (by rfl) pass0 (pa_cons (pe_op op_cat (pe_slice sl_list (pv 0) po_none (po_some (pv 5))) (pe_slice sl_list (pv 0) (po_some (pe_op op_add (pv 5) pe_int)) po_none)) (pa_cons (pv 6) (pa_cons (pv 2) (pa_cons (pv 3) pa_nil))))))))))
      (pss_one (ps_ret (pv 4))))), ?_⟩
    refine ⟨_, rfl, by show 0 ≤ sizeLine; decide, fun z nz => ?_⟩
    have s1 := same_new (o := HO.lst []) nz
    have ez : upd H z (HO.lst []) z = some (.lst []) := upd_same
    have hl1 := s1 _ _ hl
    generalize upd H z (HO.lst []) = H1 at s1 ez hl1 ⊢
    refine ⟨l, z, xs.map V.int, rfl, rfl, SqL.of hl1, SqL.of ez, _, rfl, ite2 (fun e => ?_) (fun e => ?_)⟩
    · have e := of_decide_eq_true e
      have e0 : xs = [] := by simpa using e
      subst e0
      have n0 : n = 0 := hx.symm
      subst n0
      exact ⟨_, rfl, by show 1 ≤ sizeLine; decide, fun p np => q p _ (s1.trans (same_new np)) upd_same⟩
    obtain ⟨m, rfl⟩ : ∃ m, n = m + 1 := by
      refine ⟨n - 1, ?_⟩
      have : n ≠ 0 := fun z => e (decide_eq_true (by rw [List.length_eq_zero_iff.mp (hx.trans z)]; rfl))
      omega
    refine ⟨by show 0 ≤ sizeLine; decide, fun a na => ?_⟩
    have s2 := s1.trans (same_new (o := HO.lst []) na)
    have ea : upd H1 a (HO.lst []) a = some (.lst []) := upd_same
    generalize upd H1 a (HO.lst []) = H2 at s2 ea ⊢
    have hl2 := s2 _ _ hl
    clear s1 ez hl1 na nz
    dsimp only [gName, List.set]
    refine ⟨_, rfl, l, _, rfl, .inl (SqL.of hl2), _, rfl, ?_⟩
    rw [List.length_map, hx]
    refine ⟨by omega, by omega, for_range (lo := 0) (n := m + 1) (fun i σ H' => ∃ (y5 y6 : Option V) (r : Addr), σ = [some (.ref l), some (.int s), some (.int U), some (.str t), some (.ref r), y5, y6] ∧ Same H H' ∧ H' r = some (.lst (((List.range i).flatMap fun i => totsL U t m (xs.take i ++ xs.drop (i + 1)) (stp U (xs.getD i 0) t s)).map V.int)))
      ⟨_, _, a, rfl, s2, ea⟩ ?_ ?_⟩
    · rintro i σ H3 hi ⟨y5, y6, r, rfl, s3, er⟩
      have hl3 := s3 _ _ hl
      have il : i < xs.length := by omega
      have hv : (xs.map V.int)[i]? = some (.int (xs.getD i 0)) := by
        rw [List.getElem?_map, List.getElem?_eq_getElem il, List.getD_eq_getElem?_getD, List.getElem?_eq_getElem il]
        rfl
      dsimp only [gName, List.set]
      rw [show (0 : Int) + ((i : Nat) : Int) = ((i : Nat) : Int) by omega]
      refine ⟨_, rfl, _, rfl, _, _, rfl, rfl, .inr ⟨by omega, by omega⟩, _, rfl, _, rfl, l, _, (i : Nat), _, rfl, rfl, SqL.of hl3, atI_nat (j := i) hv, _, _, rfl, rfl, _, rfl, _, rfl, _, U, t, rfl, U0, U1, ht, ?_⟩
      dsimp only [gName, List.set]
      refine ⟨_, rfl, ?_⟩
      -- the rest of the row
      refine ⟨_, rfl, _, rfl, i, rfl, l, _, rfl, SqL.of hl3, fun q1 n1 => ?_⟩
      rw [cut_to (by rw [List.length_map]; omega), ← List.map_take]
      have t1 := same_new (o := HO.lst ((xs.take i).map V.int)) n1
      have g1 : upd H3 q1 (HO.lst ((xs.take i).map V.int)) q1 = some (.lst ((xs.take i).map V.int)) := upd_same
      generalize upd H3 q1 (HO.lst ((xs.take i).map V.int)) = G1 at t1 g1 ⊢
      refine ⟨_, rfl, _, rfl, _, _, rfl, rfl, ((i : Nat) : Int) + 1, rfl, l, _, rfl, SqL.of (t1 _ _ hl3), fun q2 n2 => ?_⟩
      rw [show ((i : Nat) : Int) + 1 = ((i + 1 : Nat) : Int) by omega, cut_from (by rw [List.length_map]; omega), ← List.map_drop]
      have t2 := same_new (o := HO.lst ((xs.drop (i + 1)).map V.int)) n2
      have g2 : upd G1 q2 (HO.lst ((xs.drop (i + 1)).map V.int)) q2 = some (.lst ((xs.drop (i + 1)).map V.int)) := upd_same
      generalize upd G1 q2 (HO.lst ((xs.drop (i + 1)).map V.int)) = G2 at t2 g2 ⊢
      have sz := sizeLine_eq
      refine ⟨q1, q2, _, _, rfl, rfl, t2 _ _ g1, g2, by rw [List.length_map, List.length_map, List.length_take, List.length_drop]; omega, fun q3 n3 => ?_⟩
      rw [← List.map_append]
      have t3 := same_new (o := HO.lst ((xs.take i ++ xs.drop (i + 1)).map V.int)) n3
      have g3 : upd G2 q3 (HO.lst ((xs.take i ++ xs.drop (i + 1)).map V.int)) q3 = some (.lst ((xs.take i ++ xs.drop (i + 1)).map V.int)) := upd_same
      generalize upd G2 q3 (HO.lst ((xs.take i ++ xs.drop (i + 1)).map V.int)) = G3 at t3 g3 ⊢
      have t13 := (t1.trans t2).trans t3
      refine ⟨_, rfl, _, rfl, _, rfl, hs m nN _ _ _ _ ⟨q3, _, _, U, t, rfl, g3, by rw [(cut_one il).2]; omega, U0, U1, ht, fun r2 G4 t4 g4 => ?_⟩⟩
      have t14 := t13.trans t4
      have len1 : ((List.range i).flatMap fun i => totsL U t m (xs.take i ++ xs.drop (i + 1)) (stp U (xs.getD i 0) t s)).length ≤ i * 3125 := by
        have := flat_len_le (l := List.range i) (f := fun i => totsL U t m (xs.take i ++ xs.drop (i + 1)) (stp U (xs.getD i 0) t s)) (M := 3125) fun _ _ => Nat.le_trans (tots_len U t m _ _ (by omega)) (pow_small (by omega))
        rwa [List.length_range] at this
      have len2 : (totsL U t m (xs.take i ++ xs.drop (i + 1)) (near (s * U + xs.getD i 0) U t)).length ≤ 3125 := Nat.le_trans (tots_len U t m _ _ (by omega)) (pow_small (by omega))
      refine ⟨r, r2, _, _, rfl, rfl, t14 _ _ er, g4, by rw [List.length_map, List.length_map]; omega, fun q5 n5 => ?_⟩
      refine ⟨_, _, q5, rfl, (s3.trans t14).trans (same_new n5), ?_⟩
      rw [← List.map_append]
      refine upd_same.trans ?_
      rw [List.range_succ, List.flatMap_append]
      refine congrArg (fun z => some (HO.lst (List.map V.int (_ ++ z)))) ?_
      exact (List.append_nil _).symm
    · rintro σ H3 ⟨y5, y6, r, rfl, s3, er⟩
      exact ⟨_, rfl, q r _ s3 er⟩
theorem ok_tt (A : At K mg "_law_totals" sTt ["_law_row", "_law_state", "_law_unit", "_law_way"]) (B : Blt mg) (D7 : DefOk P w K mg base CX0 "_law_rounded" 1 ["_law_number", "_law_unit", "_law_way"] spRd) : ∀ N, N ≤ 5 → DefOk P w K mg base CX0 "_law_totals" (N + 3) ["_law_row", "_law_state", "_law_unit", "_law_way"] (spTa N)
  | 0, h => tt_step A B D7 0 2 spNo h (by omega) (A.ok fun f fd F => ⟨fun _ _ _ _ z => z.elim, fun _ _ _ _ _ _ _ _ _ _ _ _ _ z => z.elim⟩) (fun m z => by omega)
  | N + 1, h => tt_step A B D7 (N + 1) (N + 3) (spTa N) h (by omega) (ok_tt A B D7 N (by omega)) (fun m z vs H Q E x => ⟨m, by omega, x⟩)
end
end K50

/-! k50: the law: its entries. -/
namespace K50
open PySem PySem.Spec PyProof.Rows L2 LamX NdefX Own
abbrev sEs : Stmt := topS 64
theorem RowI.keep {H H' : Hp} {d : Addr} {B : Int} {r : V} {e : Int × Int} (h : RowI H r e) (hp : Pen H d B) (k : KeepP d H H') : RowI H' r e := by
  obtain ⟨a, e1, e2⟩ := h
  obtain ⟨p, ns, c, l, ed, _⟩ := hp.ex
  exact ⟨a, e1, k _ _ (ne_of e2 ed (by intro z; cases z)) e2⟩
section
variable {P : Program} {w : World} {K : PySem.W.Frag} {mg : Str → Option Value} {base : Heap}
theorem scEs : FnScope ["_law_pen_here", "_law_unit", "_law_many", "_law_row", "_law_figures", "_law_go", "_law_times"] ["_law_pen_here", "_law_unit"] (defScope sEs) := ⟨rfl, rfl, rfl, by decide +kernel, rfl, by decide +kernel, by decide +kernel⟩
def spEs : Sp := fun vs H Q _ => ∃ (d : Addr) (U B : Int), vs = [.ref d, .int U] ∧ 0 < U ∧ U ≤ 1000 ∧ Pen H d B ∧ B ≤ 600000000 ∧ ∀ (r : Addr) (es : List (Int × Nat)) (zs : List V) (H' : Hp), KeepP d H H' → Pen H' d (B + 1100) → H' r = some (.lst zs) → Ents (RowN H') zs es → es.length = 5 → (∀ e ∈ es, e.1.natAbs < 2 ^ 150) → sumN es ≤ 5 → Q (.ref r) H'
theorem ok_es (A : At K mg "_law_entries" sEs ["_law_pen_here", "_law_unit"]) (B : Blt mg) (D2 : DefOk P w K mg base CX0 "_law_pick" 2 ["_law_pen_here", "_law_menu"] spPick) (DU : DefOk P w K mg base CX0 "_law_units" 4 ["_law_pen_here", "_law_unit", "_law_figures"] spUt) :
    DefOk P w K mg base CX0 "_law_entries" 5 ["_law_pen_here", "_law_unit"] spEs := by
  refine A.ok fun f fd F => F.ok scEs (fun vs H Q E h => ?_) (fun cdv A outer s0 H vs Q E hr h => ?_)
  · obtain ⟨d, U, B, rfl, _⟩ := h
    rfl
  · obtain ⟨d, U, B0, rfl, U0, U1, hp, hB, q⟩ := h
    have nd := scEs.nd
    refine ⟨_, pss_cons (ps_par (i := 2) (j := 3) (by rfl) nd rfl rfl (by decide) rfl rfl (pa_cons (pe_def D2 hr (by decide) (by rfl) pass0 (pa_cons (pv 0) (pa_cons (pe_lst (pa_cons pe_int (pa_cons pe_int (pa_cons pe_int (pa_cons pe_int (pa_cons pe_int (pa_cons pe_int (pa_cons pe_int (pa_cons pe_int pa_nil))))))))) pa_nil))) (pa_cons (pe_lst pa_nil) pa_nil)) (by rfl))
      (pss_cons (ps_set (i := 4) nd rfl (.inl rfl) (pe_def D2 hr (by decide) (by rfl) pass0 (pa_cons (pv 0) (pa_cons (pe_lst (pa_cons pe_int (pa_cons pe_int (pa_cons pe_int (pa_cons pe_int pa_nil))))) pa_nil))))
      (pss_cons (ps_for PassesOwn.never rfl (pi_range1 (by rfl) B.range (pa_cons pe_int pa_nil)) (pg_name (i := 5) nd rfl (.inl rfl)) (pss_cons (ps_set (i := 6) nd rfl (.inl rfl) (pe_callB (call_min2 rfl) (by rfl) B.min (by decide +kernel) (pa_cons (pv 2) (pa_cons (pe_def D2 hr (by decide) (by rfl) pass0 (pa_cons (pv 0) (pa_cons (pe_lst (pa_cons pe_int (pa_cons pe_int (pa_cons pe_int (pa_cons pe_int (pa_cons pe_int (pa_cons pe_int (pa_cons pe_int (pa_cons pe_int pa_nil))))))))) pa_nil))) pa_nil)))) (pss_cons (ps_expr (pe_bm PySem.F.plainAttrs_list PySem.F.slot_list_append PySem.F.type_list_append mt_append (pv 3) (pa_cons (pe_tup (pa_cons (pe_def DU hr (by decide) (by rfl) pass0 (pa_cons (pv 0) (pa_cons (pv 1) (pa_cons (pv 4) pa_nil)))) (pa_cons (pv 6) pa_nil))) pa_nil))) (pss_one (ps_set (i := 2) nd rfl (.inl rfl) (pe_op op_sub (pv 2) (pv 6)))))))
      (pss_one (ps_ret (pv 3))))), ?_⟩
    refine ⟨_, rfl, by show 8 ≤ sizeLine; decide, fun g ng => ?_⟩
    have sg := same_new (o := HO.lst [.int 1, .int 2, .int 3, .int 3, .int 4, .int 4, .int 4, .int 5]) ng
    refine ⟨d, g, _, _, rfl, upd_same, by simp, by show 8 ≤ 1000; decide, hp.same sg, by omega, fun v H1 hv k1 p1 => ?_⟩
    have k1 := (KeepG.same sg).trans k1
    obtain ⟨M, rfl, hM⟩ : ∃ M : Nat, v = .int M ∧ M ≤ 5 := by
      simp only [List.mem_cons, List.not_mem_nil, or_false] at hv
      rcases hv with rfl | rfl | rfl | rfl | rfl | rfl | rfl | rfl
      · exact ⟨1, rfl, by omega⟩
      · exact ⟨2, rfl, by omega⟩
      · exact ⟨3, rfl, by omega⟩
      · exact ⟨3, rfl, by omega⟩
      · exact ⟨4, rfl, by omega⟩
      · exact ⟨4, rfl, by omega⟩
      · exact ⟨4, rfl, by omega⟩
      · exact ⟨5, rfl, by omega⟩
    clear sg ng hv
    refine ⟨by show 0 ≤ sizeLine; decide, fun lr nlr => ?_⟩
    have s1 := same_new (o := HO.lst []) nlr
    have e1 : upd H1 lr (HO.lst []) lr = some (.lst []) := upd_same
    have off1 : OffG "cells" "at" "left" (upd H1 lr (HO.lst [])) d lr := (OffG.of p1 nlr).at_ (by obtain ⟨pp, ns, cc, ll, ed, _⟩ := p1.ex; exact ne_of_none ed nlr)
    have p2 := p1.same s1
    have K2 : KeepP d H1 (upd H1 lr (HO.lst [])) := KeepG.new nlr
    generalize upd H1 lr (HO.lst []) = H2 at s1 e1 off1 p2 K2 ⊢
    refine ⟨_, _, rfl, ?_⟩
    dsimp only [gName, List.set]
    refine ⟨_, rfl, by show 4 ≤ sizeLine; decide, fun g ng => ?_⟩
    have sg := same_new (o := HO.lst [.int 0, .int 0, .int 0, .int 28]) ng
    refine ⟨d, g, _, _, rfl, upd_same, by simp, by show 4 ≤ 1000; decide, p2.same sg, by omega, fun v H3 hv k3 p3 => ?_⟩
    obtain ⟨Fg, rfl, hF⟩ : ∃ M : Nat, v = .int M ∧ (M = 0 ∨ M = 28) := by
      simp only [List.mem_cons, List.not_mem_nil, or_false] at hv
      rcases hv with rfl | rfl | rfl | rfl
      · exact ⟨0, rfl, .inl rfl⟩
      · exact ⟨0, rfl, .inl rfl⟩
      · exact ⟨0, rfl, .inl rfl⟩
      · exact ⟨28, rfl, .inr rfl⟩
    have k23 := (KeepG.same sg).trans k3
    have K3 := K2.trans k23
    have off3 := off1.keep p2 k23
    have e3 := k23.lst p2 e1
    clear sg ng hv k23 k3 p2 K2 off1 e1 s1
    dsimp only [gName, List.set]
    refine ⟨_, rfl, by decide, by decide, for_range (lo := 0) (n := 5) (fun i σ H' => ∃ (m : Nat) (y5 y6 : Option V) (xs : List V) (es : List (Int × Nat)), σ = [some (.ref d), some (.int U), some (.int (m : Nat)), some (.ref lr), some (.int (Fg : Nat)), y5, y6] ∧ KeepP d H1 H' ∧ OffG "cells" "at" "left" H' d lr ∧ Pen H' d (B0 + 2 + 207 * i) ∧ H' lr = some (.lst xs) ∧ Ents (RowN H') xs es ∧ es.length = i ∧ (∀ e ∈ es, e.1.natAbs < 2 ^ 150) ∧ sumN es + m ≤ 5)
      ⟨M, _, _, [], [], rfl, K3, off3, p3.mono (by omega), e3, .nil, rfl, (fun e h => by cases h), by show 0 + M ≤ 5; omega⟩ ?_ ?_⟩
    · rintro i σ G hi ⟨m, y5, y6, xs, es, rfl, K, off, p, hl, hE, el, eb, sm⟩
      dsimp only [gName, List.set]
      -- how often
      refine ⟨_, rfl, _, rfl, by show 8 ≤ sizeLine; decide, fun g ng => ?_⟩
      have sg := same_new (o := HO.lst [.int 0, .int 1, .int 1, .int 1, .int 1, .int 2, .int 2, .int 3]) ng
      refine ⟨d, g, _, _, rfl, upd_same, by simp, by show 8 ≤ 1000; decide, p.same sg, by omega, fun v G1 hv k1 p1 => ?_⟩
      obtain ⟨k, rfl⟩ : ∃ k : Nat, v = .int (k : Nat) := by
        simp only [List.mem_cons, List.not_mem_nil, or_false] at hv
        rcases hv with rfl | rfl | rfl | rfl | rfl | rfl | rfl | rfl
        · exact ⟨0, rfl⟩
        · exact ⟨1, rfl⟩
        · exact ⟨1, rfl⟩
        · exact ⟨1, rfl⟩
        · exact ⟨1, rfl⟩
        · exact ⟨2, rfl⟩
        · exact ⟨2, rfl⟩
        · exact ⟨3, rfl⟩
      have kk := (KeepG.same sg).trans k1
      have K1 := K.trans kk
      have off1 := off.keep p kk
      have hl1 := kk.lst p hl
      have hE1 : Ents (RowN G1) xs es := hE.mono fun _ _ z => RowI.keep z p kk
      clear sg ng hv k1 kk p K off hl hE
      refine ⟨_, _, rfl, ?_⟩
      obtain ⟨c, ec, hc⟩ : ∃ c : Nat, (if (k : Int) < (m : Int) then (k : Int) else (m : Int)) = (c : Int) ∧ c ≤ m := by
        by_cases z : (k : Int) < (m : Int)
        · exact ⟨k, if_pos z, by omega⟩
        · exact ⟨m, if_neg z, Nat.le_refl _⟩
      rw [ec]
      dsimp only [gName, List.set]
      -- what comes
      refine ⟨_, rfl, .inl ⟨rfl, _, SqL.of hl1⟩, _, rfl, _, rfl, _, rfl, d, U, Fg, _, rfl, by omega, by omega, U0, U1, p1, by omega, fun x G2 bx k2 p2 => ?_⟩
      have K2 := K1.trans k2
      have off2 := off1.keep p1 k2
      have hl2 := k2.lst p1 hl1
      have hE2 : Ents (RowN G2) xs es := hE1.mono fun _ _ z => RowI.keep z p1 k2
      clear K1 off1 hl1 hE1 k2 p1
      have xlen := hE2.len
      have sz := sizeLine_eq
      refine ⟨_, rfl, by show 2 ≤ sizeLine; decide, fun q nq => ⟨lr, xs, _, rfl, rfl, same_new nq _ _ hl2, by omega, ?_⟩⟩
      have sq := same_new (o := HO.tup [.int x, .int (c : Nat)]) nq
      have eq : RowN (upd G2 q (HO.tup [.int x, .int (c : Nat)])) (.ref q) (x, c) := ⟨q, rfl, upd_same⟩
      have p3 := p2.same sq
      have off3 := off2.keep p2 (KeepG.same sq)
      have K3 := K2.trans (KeepG.same sq)
      have hl3 := sq _ _ hl2
      have hE3 := hE2.mono fun _ _ z => RowI.same z sq
      generalize upd G2 q (HO.tup [.int x, .int (c : Nat)]) = G3 at sq eq p3 off3 K3 hl3 hE3 ⊢
      clear K2 off2 hl2 hE2 p2 nq sq
      have dl := p3.ne_lst hl3
      have p4 := PenG.put (o := HO.lst (xs ++ [.ref q])) p3 hl3 off3
      have off4 := off3.at_ (o := HO.lst (xs ++ [.ref q])) dl
      have K4 := K3.over (o := HO.lst (xs ++ [.ref q])) nlr
      have hl4 : upd G3 lr (HO.lst (xs ++ [.ref q])) lr = some (.lst (xs ++ [.ref q])) := upd_same
      have hE4 : Ents (RowN (upd G3 lr (HO.lst (xs ++ [.ref q])))) (xs ++ [.ref q]) (es ++ [(x, c)]) := Ents.snoc (hE3.mono fun _ _ z => RowI.put z hl3) (RowI.put eq hl3)
      generalize upd G3 lr (HO.lst (xs ++ [.ref q])) = G4 at p4 off4 K4 hl4 hE4 ⊢
      refine ⟨_, rfl, _, rfl, _, _, rfl, rfl, ?_⟩
      dsimp only [gName, List.set]
      rw [show (m : Int) - (c : Int) = ((m - c : Nat) : Int) by omega]
      refine ⟨m - c, _, _, _, es ++ [(x, c)], rfl, K4, off4, p4.mono (by omega), hl4, hE4, by rw [List.length_append, el]; rfl, fun e he => ?_, ?_⟩
      · rcases List.mem_append.mp he with z | z
        · exact eb e z
        · obtain rfl := List.mem_singleton.mp z
          exact bx
      · unfold sumN at sm ⊢
        rw [List.map_append, List.sum_append]
        show _ + (c + 0) + (m - c) ≤ 5
        omega
    · rintro σ G ⟨m, y5, y6, xs, es, rfl, K, off, p, hl, hE, el, eb, sm⟩
      exact ⟨_, rfl, q lr es xs G (k1.trans K) (p.mono (by omega)) hl hE el eb (by omega)⟩
end
end K50

/-! k50: the law: what is told. -/
namespace K50
open PySem PySem.Spec PyProof.Rows L2 LamX NdefX Own
abbrev sTr : Stmt := topS 65
abbrev nTr : List Str := ["_law_worths", "_law_found", "_law_unit", "_law_scale", "_law_deep", "_law_way", "_law_low", "_law_high", "_law_goals", "_law_goal", "_law_order", "_law_one"]
def forB (i : Nat) : Stmt → Stmt
  | .For _ _ b _ _ => b.getD i (.Pass ⟨0, 0, 0, 0⟩)
  | s => s
theorem blkTr : BlkOk nTr (defScope sTr) (lcScope (argN 0 (asgV (forB 0 (inD sTr 3))))) [("_law_one", 11)] := blkOk_by (by decide +kernel)
theorem low_val {g : Int} {n : Nat} {u : Int} {s : Nat} (h : IsLow g n u s) : u * (10 : Int) ^ (n - s) = g := h.eq.symm
theorem low_one {g x : Int} {n : Nat} {u : Int} {s : Nat} (h : IsLow g n u s) (k : IsLow x n u s) : x = g := k.eq.trans h.eq.symm
theorem flat_ints (xs : List Int) : (xs.map V.int).all flatV = true := by
  rw [List.all_eq_true]
  intro y hy
  obtain ⟨k, _, rfl⟩ := List.mem_map.mp hy
  rfl
theorem in_ints (g : Int) : ∀ xs : List Int, inV (V.int g) (xs.map V.int) = decide (g ∈ xs)
  | [] => by simp [inV]
  | x :: xs => by
    have e := in_ints g xs
    unfold inV at e ⊢
    rw [List.map_cons, List.any_cons, e]
    by_cases z : x = g
    · subst z
      simp [eqV]
    · have z2 : ¬ g = x := fun y => z y.symm
      simp [eqV, z, z2]
theorem ents_ints {H : Hp} : ∀ ns : List Int, Ents (IsI H) (ns.map V.int) ns
  | [] => .nil
  | n :: r => .cons rfl (ents_ints r)
theorem IsWt.put {W : Addr} {m : Nat} {H : Hp} {r : V} {x : Int} {D : Addr} {l : List V} {o : HO} (h : IsWt W m H r x) (hD : H D = some (.lst l)) : IsWt W m (upd H D o) r x := by
  obtain ⟨wa, u, s, e1, ⟨d, e2⟩, e3⟩ := h
  exact ⟨wa, u, s, e1, ⟨d, (upd_ne (ne_of e2 hD (by intro z; cases z))).trans e2⟩, e3⟩
section
variable {P : Program} {w : World} {K : PySem.W.Frag} {mg : Str → Option Value} {base : Heap} {C CB CG W En Pm : Addr} {Ls : List (Addr × Str)}
theorem scTr2 : FnScope ["_law_worths", "_law_found", "_law_unit", "_law_scale", "_law_deep", "_law_way", "_law_low", "_law_high", "_law_goals", "_law_goal", "_law_order", "_law_one"] ["_law_worths", "_law_found", "_law_unit", "_law_scale", "_law_deep", "_law_way"] (defScope sTr) := ⟨rfl, rfl, rfl, by decide +kernel, rfl, by decide +kernel, by decide +kernel⟩
/-- the goals -/
def Goals (t : Str) (lo hi : Int) (gs : List Int) : Prop := ∀ g ∈ gs, lo ≤ g ∧ g ≤ hi ∧ (t ∈ awayW → g = lo ∨ g = hi)
def spTg (Pm : Addr) (Ls : List (Addr × Str)) : Sp := fun vs H Q _ => ∃ (l b : Addr) (ws : List Int) (n p : Nat) (t : Str) (lo hi : Int), vs = [.ref l, .ref b, .int ((10 : Int) ^ p), .int (n : Nat), .int ((n + p : Nat) : Int), .str t] ∧ H l = some (.lst (ws.map V.int)) ∧ H b = some (.lst ((totsL ((10 : Int) ^ p) t ws.length ws 0).map V.int)) ∧ ws.length ≤ 5 ∧ (∀ x ∈ ws, x.natAbs < 2 ^ 300) ∧ n ≤ 100 ∧ p ≤ 4 ∧ t ∈ waysL ∧
  Own.Ends ((10 : Int) ^ p) t (ones ws) lo hi ∧ Tabs (TT Pm Ls) H ∧ ∀ H', ExtN H H' → Tabs (TT Pm Ls) H' → Q (.bl true) H'
theorem tots_ends {U : Int} (hU : 0 < U) {t : Str} (ht : t ∈ waysL) {ws : List Int} {lo hi : Int} (he : Own.Ends U t (ones ws) lo hi) : lo ∈ totsL U t ws.length ws 0 ∧ hi ∈ totsL U t ws.length ws 0 ∧ ∀ x ∈ totsL U t ws.length ws 0, lo ≤ x ∧ x ≤ hi := by
  obtain ⟨a, b⟩ := ends_met hU ht he
  refine ⟨(tots_mem U t _ ws 0 lo rfl).mpr a, (tots_mem U t _ ws 0 hi rfl).mpr b, fun x hx => ?_⟩
  obtain ⟨zs, p, e⟩ := (tots_mem U t _ ws 0 x rfl).mp hx
  have := ends_hold hU ht p.symm he
  rwa [e] at this
theorem ok_tg (A : At K mg "_law_told_right" sTr ["_law_worths", "_law_found", "_law_unit", "_law_scale", "_law_deep", "_law_way"]) (B : Blt mg) (M : WMk P w K mg base C W) (T : WorthC K mg W) (DI : DefOk P w K mg base CX0 "_law_is_order" 1 ["_law_order", "_law_many"] spIo) (DA : DefOk P w K mg base CX0 "_law_run_at" 2 ["_law_worths", "_law_order", "_law_unit", "_law_way"] spRa)
    (DF : DefOk P w K mg base (L2.CX P w) "order_for" 20 ["worths", "scale", "way", "total"] (spOf C CG W Pm Ls)) : DefOk P w K mg base CX0 "_law_told_right" 21 ["_law_worths", "_law_found", "_law_unit", "_law_scale", "_law_deep", "_law_way"] (spTg Pm Ls) := by
  refine A.ok fun f fd F => F.ok scTr2 (fun vs H Q E h => ?_) (fun cdv A outer s0 H vs Q E hr h => ?_)
  · obtain ⟨l, b, ws, n, p, t, lo, hi, rfl, _⟩ := h
    rfl
  · obtain ⟨l, b, ws, n, p, t, lo, hi, rfl, hl, hb, hlen, hbd, hn, hp, ht, he, hT, q⟩ := h
    have nd := scTr2.nd
    obtain ⟨U, hU, U0, U1⟩ : ∃ U : Int, (10 : Int) ^ p = U ∧ 0 < U ∧ U < 1073741824 := by
      refine ⟨_, rfl, ten_pos _, ?_⟩
      rcases (show p = 0 ∨ p = 1 ∨ p = 2 ∨ p = 3 ∨ p = 4 by omega) with z | z | z | z | z <;> rw [z] <;> decide
    refine ⟨_, pss_cons (ps_par (i := 6) (j := 7) (by rfl) nd rfl rfl (by decide) rfl rfl (pa_cons (pe_callB (cr_min rfl) (by rfl) B.min (by decide +kernel) (pa_cons (pv 1) pa_nil)) (pa_cons (pe_callB (cr_max rfl) (by rfl) B.max (by decide +kernel) (pa_cons (pv 1) pa_nil)) pa_nil)) (by rfl))
      (pss_cons (ps_set (i := 8) nd rfl (.inl rfl) (pe_lst (pa_cons (pv 6) (pa_cons (pv 7) pa_nil))))
      (C8.pss_cut (ps_if (pt_cmpR op_in_seq (pv 5) (pe_tup (pa_cons pe_str (pa_cons pe_str (pa_cons pe_str pa_nil)))) (by rfl)) (pss_one (ps_set (i := 8) nd rfl (.inl rfl) (pe_listRgW rfl (by rfl) B.list (prg_2 (by rfl) B.range (pv 6) (pe_op op_add (pv 7) pe_int))))) pss_nil)
      (pss_cons (ps_for PassesOwn.never rfl (pi_list (pv 8)) (pg_name (i := 9) nd rfl (.inl rfl)) (pss_cons (ps_set (i := 10) nd rfl (.inl rfl) (pe_def (E := E0) DF hr (by decide) (by rfl) passL (pa_cons (pe_lc (own := [("_law_one", 11)]) (te := tCall (spWorth C W) [] E0 (tCons (tVar 11) (tCons (tVar 4) tNil))) rfl nd (pi_list (pv 0)) blkTr (fun _ _ _ _ _ => (pg_name (i := 11) nd rfl (.inl rfl))) (fun _ _ _ _ _ => pts_nil) (fun _ _ _ _ _ => (pe_worth (C := C) (E := E0) M T hr (by decide) (by rfl) passL (pa_cons (pv 11) (pa_cons (pv 4) pa_nil))))) (pa_cons (pv 3) (pa_cons (pv 5) (pa_cons (pe_worth (C := C) (E := E0) M T hr (by decide) (by rfl) passL (pa_cons (pv 9) (pa_cons (pv 3) pa_nil))) pa_nil)))))) (pss_cons (ps_if (pt_not (pt_val (pe_def DI hr (by decide) (by rfl) pass0 (pa_cons (pv 10) (pa_cons (pe_callB call_len_seq (by rfl) B.len PySem.boot_len (pa_cons (pv 0) pa_nil)) pa_nil))))) (pss_one (ps_ret pe_bl)) pss_nil) (pss_one (ps_if (PW.pt (pw_or (pt_cmpR op_ne (pe_def DA hr (by decide) (by rfl) pass0 (pa_cons (pv 0) (pa_cons (pv 10) (pa_cons (pv 2) (pa_cons (pv 5) pa_nil))))) (pv 9) (nomark _)) (pw_or1 (pt_cmpR op_notIn_seq (pv 9) (pv 1) (by rfl))))) (pss_one (ps_ret pe_bl)) pss_nil)))))
      (pss_one (ps_ret pe_bl))))), ?_⟩
    rw [hU] at hb he ⊢
    obtain ⟨m1, m2, m3⟩ := tots_ends U0 ht he
    have tlen : (totsL U t ws.length ws 0).length ≤ 3125 := Nat.le_trans (tots_len U t _ _ _ hlen) (pow_small hlen)
    have tpos : 0 < (totsL U t ws.length ws 0).length := List.length_pos_of_mem m1
    obtain ⟨le, nlo, nhi⟩ := ends_near U0 ht he
    refine ⟨_, rfl, b, _, rfl, SqL.of hb, tpos, fun mn h1 h2 => ?_⟩
    obtain rfl : mn = lo := Int.le_antisymm (h2 _ m1) (m3 _ h1).1
    refine ⟨_, rfl, b, _, rfl, SqL.of hb, tpos, fun mx h3 h4 => ?_⟩
    obtain rfl : mx = hi := Int.le_antisymm (m3 _ h3).2 (h4 _ m2)
    clear h1 h2 h3 h4
    refine ⟨_, _, rfl, ?_⟩
    dsimp only [gName, List.set]
    refine ⟨_, rfl, _, rfl, by show 2 ≤ sizeLine; decide, fun g0 ng0 => ?_⟩
    have s1 := same_new (o := HO.lst [.int mn, .int mx]) ng0
    have e1 : upd H g0 (HO.lst [.int mn, .int mx]) g0 = some (.lst [.int mn, .int mx]) := upd_same
    generalize upd H g0 (HO.lst [.int mn, .int mx]) = H1 at s1 e1 ⊢
    dsimp only [gName, List.set]
    -- the goals
    refine ⟨fun σ H' => ∃ (g : Addr) (gs : List Int), σ = [some (.ref l), some (.ref b), some (.int U), some (.int (n : Nat)), some (.int ((n + p : Nat) : Int)), some (.str t), some (.int mn), some (.int mx), some (.ref g), none, none, none] ∧ Same H H' ∧ H' g = some (.lst (gs.map V.int)) ∧ Goals t mn mx gs ∧ gs.length ≤ 1000, ?_, ?_⟩
    · refine ⟨_, rfl, by show 3 ≤ sizeLine; decide, fun r nr => ?_⟩
      have s2 := same_new (o := HO.tup [.str "cut", .str "halfcut", .str "halfeven"]) nr
      refine ⟨r, _, rfl, .inr (SqT.of upd_same), rfl, rfl, _, rfl, ?_⟩
      rw [show (if false = true then !inV (V.str t) [.str "cut", .str "halfcut", .str "halfeven"] else inV (V.str t) [.str "cut", .str "halfcut", .str "halfeven"]) = decide (t ∈ (["cut", "halfcut", "halfeven"] : List Str)) from inV_txt t ["cut", "halfcut", "halfeven"]]
      have e2 := s2 _ _ e1
      have s12 := s1.trans s2
      generalize upd H1 r (HO.tup [.str "cut", .str "halfcut", .str "halfeven"]) = H2 at s2 e2 s12 ⊢
      refine ite2 (fun e => ?_) (fun e => ?_)
      · have c := of_decide_eq_true e
        have na : t ∉ awayW := by
          simp only [List.mem_cons, List.not_mem_nil, or_false] at c
          rcases c with rfl | rfl | rfl <;> decide +kernel
        refine ⟨_, rfl, _, rfl, _, _, rfl, rfl, _, _, rfl, rfl, ?_, fun g ng => ?_⟩
        · show (mx + 1 - mn).toNat ≤ 2 ^ 24
          have : (2 : Nat) ^ 24 = 16777216 := by decide
          omega
        · have eg : rgV mn (mx + 1) = ((List.range (mx + 1 - mn).toNat).map fun i : Nat => mn + (i : Int)).map V.int := by
            unfold rgV
            rw [List.map_map]
            rfl
          refine ⟨g, _, rfl, s12.trans (same_new ng), by rw [eg]; exact upd_same, fun x hx => ?_, by rw [List.length_map, List.length_range]; omega⟩
          obtain ⟨i, hi, rfl⟩ := List.mem_map.mp hx
          have hi := List.mem_range.mp hi
          exact ⟨by omega, by omega, fun z => absurd z na⟩
      · refine ⟨g0, [mn, mx], rfl, s12, e2, ?_, by show 2 ≤ 1000; decide⟩
        intro g hg
        rcases List.mem_cons.mp hg with rfl | hg
        · exact ⟨Int.le_refl _, le, fun _ => .inl rfl⟩
        · obtain rfl := List.mem_singleton.mp hg
          exact ⟨le, Int.le_refl _, fun _ => .inr rfl⟩
    rintro σ H2 ⟨g, gs, rfl, s2, eg, hg, glen⟩
    clear s1 e1 ng0
    have hl2 := s2 _ _ hl
    have hb2 := s2 _ _ hb
    have T2 := hT.ext s2
    have x2 := ExtN.same s2
    clear s2 hl hb hT
    refine ⟨_, rfl, g, rfl, ⟨_, SqL.of eg⟩, for_list (K := K) (xs := gs.map V.int) (fun i σ H' => (∃ y9 y10 : Option V, σ = [some (.ref l), some (.ref b), some (.int U), some (.int (n : Nat)), some (.int ((n + p : Nat) : Int)), some (.str t), some (.int mn), some (.int mx), some (.ref g), y9, y10, none]) ∧ ExtN H2 H' ∧ Tabs (TT Pm Ls) H') ⟨⟨_, _, rfl⟩, fun _ _ e _ => e, T2⟩ (fun i σ H' _ z => SqL.of (z.2.1 _ _ eg (fun ps z => by cases z))) ?_ ?_⟩
    rotate_left
    · rintro σ H3 ⟨⟨y9, y10, rfl⟩, x3, T3⟩
      exact q H3 (x2.trans x3) T3
    rintro i v σ H3 hv ⟨⟨y9, y10, rfl⟩, x3, T3⟩
    rw [List.getElem?_map] at hv
    obtain ⟨u, hu, rfl⟩ := Option.map_eq_some_iff.mp hv
    obtain ⟨c1, c2, c3⟩ := hg u (List.mem_of_getElem? hu)
    have hl3 := x3 _ _ hl2 (fun ps z => by cases z)
    have hb3 := x3 _ _ hb2 (fun ps z => by cases z)
    dsimp only [gName, List.set]
    -- the worths
    refine ⟨_, rfl, l, rfl, ⟨_, SqL.of hl3⟩, fun D nD => lc_ent (R := IsI) (S := IsWt W (n + p)) (cnd := fun _ => true) (out := fun x : Int => x) hl3 (ents_ints ws) nD (by omega) (fun _ _ _ _ h _ => h) (fun _ _ _ _ h z => IsWt.same h z) (fun _ _ _ _ _ h hD => IsWt.put h hD) (fun r x H' Nx No hx s1 hr nx no => ?_) fun H4 ys s4 hD hA => ?_⟩
    · cases hr
      dsimp only [gName, List.set]
      refine ⟨rfl, ?_⟩
      unfold tYes
      dsimp only
      rw [if_pos rfl]
      refine ⟨_, rfl, _, rfl, ?_⟩
      dsimp only [tNil]
      rw [List.append_nil]
      exact worth_of (C := C) (v := x) (n := n + p) (by omega) fun u s a H2 lw sm _ wa => nx rfl _ _ sm ⟨a, u, s, rfl, wa, lw⟩
    rw [List.filter_eq_self.mpr (fun _ _ => rfl), List.map_id'] at hA
    have hA4 := hA
    have x4 := x3.trans (ExtN.same s4)
    have T4 := T3.ext s4
    have hl4 := s4 _ _ hl3
    have hb4 := s4 _ _ hb3
    have lenD := hA.len
    clear hl3 hb3 x3 T3 s4
    refine ⟨_, rfl, _, rfl, _, rfl, _, rfl, ?_⟩
    try dsimp only [tNil]
    try rw [List.append_nil]
    refine worth_of (C := C) (v := u) (n := n) (by omega) fun uu us a H5 lw s5 _ wa => ?_
    try dsimp only [tNil]
    have lv := low_val lw
    have mn' : n + p - n = p := by omega
    have ub : uu.natAbs < 2 ^ 90000 := by
      have b0 : (wsum (bsE U t) (ones ws)).natAbs ≤ ws.length * 2 ^ 400 := wsum_abs fun y hy => Nat.le_of_lt (bs_b U0 (hbd y hy) t)
      have b1 : ws.length * 2 ^ 400 ≤ 5 * 2 ^ 400 := Nat.mul_le_mul_right _ hlen
      have b2 : 5 * 2 ^ 400 + 100 ≤ (2 : Nat) ^ 500 := by decide +kernel
      have b3 : (2 : Nat) ^ 500 ≤ 2 ^ 90000 := Nat.pow_le_pow_right (by decide) (by decide)
      have b4 := low_nat lw
      generalize (2 : Nat) ^ 90000 = X at *
      generalize (2 : Nat) ^ 500 = Y at *
      generalize (2 : Nat) ^ 400 = Z at *
      generalize ws.length * Z = V at *
      omega
    refine ⟨D, .int n, .str t, .ref a, ys, [], ws, n + p, rfl, by rw [List.append_nil]; exact s5 _ _ hD, hA4.mono fun _ _ z => IsWt.same z s5, .int _, .str _, by omega, by omega, hbd, T4.ext s5, .inr ⟨rfl, (fun z => by rw [isWh_cast] at z; cases z), (fun _ z => by rw [isWay_ok ht] at z; cases z), fun n' t' e1 e2 _ => ?_⟩⟩
    obtain rfl : n = n' := by have := V.int.inj e1; omega
    obtain rfl : t = t' := V.str.inj e2
    refine ⟨by omega, .inr ⟨a, uu, us, rfl, wa, ub, fun lo' hi' he' => ?_⟩⟩
    rw [mn', hU] at he'
    obtain ⟨rfl, rfl⟩ := Own.Ends.one ht he he'
    refine ⟨fun aw h1 h2 => ?_, fun i c H6 x6 T6 => ?_, fun i lesc d1 d2 r ks H6 x6 T6 hr pm tk => ?_⟩
    · rcases c3 aw with z | z
      · exact absurd (by rw [← z]; exact lw) h1
      · exact absurd (by rw [← z]; exact lw) h2
    · exfalso
      rcases c with c | c
      · have := lw.le
        omega
      · rw [lv] at c
        exact c ⟨c1, c2⟩
    rw [lv] at tk
    rw [mn', hU] at tk
    dsimp only [gName, List.set]
    have x46 := (ExtN.same s5).trans x6
    have hl6 := x46 _ _ hl4 (fun ps z => by cases z)
    have hb6 := x46 _ _ hb4 (fun ps z => by cases z)
    have rng : ∀ i ∈ ks, i < ws.length := fun i hi => List.mem_range.mp (pm.mem_iff.mp hi)
    have ug : u ∈ totsL U t ws.length ws 0 := (tots_mem U t _ ws 0 u rfl).mpr ⟨pk ws ks, pk_perm pm, tk⟩
    refine ⟨_, rfl, _, rfl, l, _, rfl, .inl (SqL.of hl6), r, ks, _, rfl, hr, by rw [List.length_map]; exact pm, by rw [List.length_map]; omega, fun H7 s7 => ⟨_, rfl, iteF ?_⟩⟩
    refine ⟨_, rfl, _, rfl, _, rfl, _, rfl, l, r, ws, ks, U, t, rfl, s7 _ _ hl6, s7 _ _ hr, rng, U0, U1, ht, ?_⟩
    rw [tk]
    refine ⟨_, rfl, rfl, _, rfl, ?_⟩
    refine ite2 (fun z => absurd z (by simp)) (fun _ => ?_)
    refine ⟨_, rfl, _, rfl, b, _, rfl, .inl (SqL.of (s7 _ _ hb6)), rfl, flat_ints _, _, rfl, ?_⟩
    rw [show (if true = true then !inV (V.int u) _ else inV (V.int u) _) = false by rw [if_pos rfl, in_ints, decide_eq_true ug]; rfl]
    exact iteF ⟨⟨_, _, rfl⟩, (x4.trans x46).trans (ExtN.same s7), T6.ext s7⟩
end
end K50

/-! own layer, of no law: OWNC: == of instances of two own classes. -/
namespace Own
open PySem PySem.Spec PyProof.Rows L2 LamX NdefX
section
variable {X : Cx} {pins : List (Addr × Obj)} {σ : L2.St} {H : Hp} {s : Shared}
variable {CX : CXT} {n : Nat} {C f : Addr} {fd : FuncData} {ps : List Str} {sp : Sp} {E : XK}
/-- own == an instance of another own class -/
theorem op_ownEq2 (F : FnOk X.prog X.w X.K X.mg X.base CX n f fd ps sp) (hr : Room n X.A) (hs : PySem.W.findIn X.K (.ref C) "__eq__" = some (some (.ref f))) (hf : PySem.W.isFn X.K (.ref f) = true) (hb : Binds X.K fd ps []) (hx : Passes CX X E) :
    OpR X (compareOp .Eq) (fun x y H Q => ∃ a dx fs, x = V.ref a ∧ H a = some (.ins C dx fs) ∧ (∃ D b dy gs, y = V.ref b ∧ H b = some (.ins D dy gs) ∧ PySem.W.subIn X.K (.ref D) (.ref C) = some false) ∧ sp [.ref a, y] H Q E) := by
  intro pins s σ H x y v u Q I rx ry h
  obtain ⟨a, dx, fs, rfl, ha, ⟨D, b, dy, gs, rfl, hb', hD⟩, q⟩ := h
  cases rx
  obtain ⟨mA, J, _⟩ := ins_get I.hok ha
  obtain ⟨od, J, _⟩ := J.look
  obtain ⟨m, hF⟩ := I.fr
  have un : X.A.units < cLine := by
    have := hr.units
    omega
  show wpAny (model X.prog X.w) X.A (richCompare .Eq (.ref a) u) (EP X pins σ Q) X.xe s
  have call := back_of (run_fn F hr hb .nil hx I (.cons (show L2.RelV (V.ref a) (Value.ref a) from rfl) (.cons ry .nil)) q)
  cases ry
  obtain ⟨mB, J', _⟩ := ins_get I.hok hb'
  obtain ⟨od', J', _⟩ := J'.look
  exact PySem.W.cmp_K (op := .Eq) (tb := .ref D) un hF I.ok.mod.kin J J'.type (by unfold PySem.W.notFirst; rw [hD]; simp) hs hf call
end
end Own

/-! k50: the law. -/
namespace K50
open PySem PySem.Spec PyProof.Rows L2 LamX NdefX Own
abbrev sLaw : Stmt := topS 66
def cmpZ : Expr → Expr
  | .Compare _ _ (r :: _) _ => r
  | e => e
abbrev nLaw : List Str := ["_law_script", "_law_pen_here", "_law_lap", "_law_scale", "_law_places", "_law_unit", "_law_deep", "_law_way", "_law_row", "_law_worths", "_law_one", "_law_times", "_law_found", "_law_entries_here", "_law_told"]
theorem blkL1 : BlkOk nLaw (defScope sLaw) (lcScope (asgV (forB 5 (inD sLaw 1)))) [("_law_one", 10)] := blkOk_by (by decide +kernel)
theorem blkL2 : BlkOk nLaw (defScope sLaw) (lcScope (cmpZ (ifE (forB 9 (inD sLaw 1))))) [("_law_one", 10)] := blkOk_by (by decide +kernel)
/-- the same worth twice -/
def Twin (W : Addr) : Addr → Addr → Hp → Prop := fun a b H => ∃ (u : Int) (s : Nat), WAt W H a u s ∧ WAt W H b u s
theorem twin_mon {W : Addr} (a b : Addr) (H H' : Hp) (e : L2.Ext H H') (h : Twin W a b H) : Twin W a b H' := by
  obtain ⟨u, s, ⟨d1, e1⟩, d2, e2⟩ := h
  exact ⟨u, s, ⟨d1, e _ _ e1⟩, d2, e _ _ e2⟩
theorem twin_sp {W : Addr} (vs : List V) (H : Hp) (Q : VK) (E : XK) (h : L2.spEq (Twin W) vs H Q E) : spEqW W vs H Q E := by
  obtain ⟨a, b, rfl, ⟨u, s, wa, wb⟩, q⟩ := h
  refine ⟨a, u, s, .ref b, rfl, wa, .inl ⟨b, u, s, rfl, wb, fun H' e => ?_⟩⟩
  rw [show (decide (u = u) && decide (s = s)) = true by simp]
  exact q H' e
/-- parts of an entry: worths alike, plain values alike -/
def Part (W : Addr) : Eqv := fun x y H => DIns W (Twin W) x y H ∨ DFlat x y H
theorem part_mon {W : Addr} : Mon (Part W) := Mon.or (mon_ins twin_mon) mon_flat
section
variable {X : Cx} {W f : Addr} {fd : FuncData} {k : Nat} {E : XK}
/-- entries != entries where they are alike -/
theorem op_entNe (WE : WEq X.prog X.w X.K X.mg X.base W f fd) (hx : Passes (L2.CX X.prog X.w) X E) (hr : Room k X.A) (hk : 6 ≤ k) :
    OpR X (compareOp .NotEq) (fun x y H Q => DList (DTup X.K (Part W)) x y H ∧ ∀ H', Same H H' → Q (.bl false) H') := by
  have F : FnOk X.prog X.w X.K X.mg X.base (L2.CX X.prog X.w) 1 f fd ["self", "other"] (L2.spEq (Twin W)) := WE.fn.imp fun vs H Q E h => twin_sp vs H Q E h
  have e1 : EqG X 2 (Part W) := EqG.or ((eqG_ins F WE.at_ WE.isf WE.bd hx).mono (by decide)) (eqG_flat.mono (by decide))
  have e2 : EqG X 3 (DTup X.K (Part W)) := eqG_tup part_mon e1
  exact op_neL (mon_tup part_mon) e2 (hr.mono (by omega))
end
theorem ents_twin {W : Addr} {m : Nat} {H : Hp} {K : PySem.W.Frag} {ys zs : List V} {ts : List (Int × Nat)} {a b : Addr} (ha : H a = some (.lst ys)) (hb : H b = some (.lst zs)) (h1 : Ents (ItemT W m H) ys ts) (h2 : Ents (ItemT W m H) zs ts) : DList (DTup K (Part W)) (.ref a) (.ref b) H := by
  refine ⟨a, b, ys, zs, rfl, rfl, ha, hb, ?_⟩
  clear ha hb
  induction h1 generalizing zs with
  | nil =>
    cases h2
    exact Prs.nil
  | cons x r ih =>
    cases h2 with
    | cons y s =>
      refine Prs.cons ?_ (ih s)
      obtain ⟨q, wa, u, s, rfl, e1, ⟨d1, w1⟩, l1⟩ := x
      obtain ⟨q', wb, u', s', rfl, e2, ⟨d2, w2⟩, l2⟩ := y
      obtain ⟨rfl, rfl⟩ := low_eq l1 l2
      exact ⟨q, q', _, _, rfl, rfl, SqT.of e1, SqT.of e2, Prs.cons (.inl ⟨wa, wb, d1, d2, _, _, rfl, rfl, w1, w2, u, s, ⟨d1, w1⟩, ⟨d2, w2⟩⟩) (Prs.cons (.inr ⟨rfl, rfl, eqV_self rfl⟩) Prs.nil)⟩
theorem tabs_keepX {T : List (Addr × Str)} {H H' : Hp} {d : Addr} {B : Int} (h : Tabs T H) (hp : Pen H d B) (k : KeepP d H H') : Tabs T H' := fun p hq => by
  obtain ⟨pp, ns, cc, ll, ed, _⟩ := hp.ex
  obtain ⟨ps, h1, h2, h3⟩ := h p hq
  refine ⟨ps, k _ _ (ne_of h1 ed (by intro z; cases z)) h1, h2, fun pos cv hc => ?_⟩
  obtain ⟨c, e1, e2⟩ := h3 pos cv hc
  exact ⟨c, e1, k _ _ (ne_of e2 ed (by intro z; cases z)) e2⟩
section
variable {P : Program} {w : World} {K : PySem.W.Frag} {mg : Str → Option Value} {base : Heap} {C CB CG W En Pm fq : Addr} {fdq : FuncData} {Ls : List (Addr × Str)}
theorem scLaw : FnScope ["_law_script", "_law_pen_here", "_law_lap", "_law_scale", "_law_places", "_law_unit", "_law_deep", "_law_way", "_law_row", "_law_worths", "_law_one", "_law_times", "_law_found", "_law_entries_here", "_law_told"] ["_law_script"] (defScope sLaw) := ⟨rfl, rfl, rfl, by decide +kernel, rfl, by decide +kernel, by decide +kernel⟩
def spLaw (K : PySem.W.Frag) (Pm : Addr) (Ls : List (Addr × Str)) : Sp := fun vs H Q _ => ∃ (a : Addr) (ns : List Int), vs = [.ref a] ∧ SqL K H a (ns.map V.int) ∧ ns.length ≤ 63 ∧ Tabs (TT Pm Ls) H ∧ ∀ H', Q (.bl true) H'
theorem ok_law {f : Addr} {fd : FuncData} (F : Fun K "law" "law" sLaw f fd) (B : Blt mg) (M : WMk P w K mg base C W) (T : WorthC K mg W) (WE : WEq P w K mg base W fq fdq) (D0 : DefOk P w K mg base CX0 "_law_pen" 1 ["_law_script"] (spBegin K)) (D1 : DefOk P w K mg base CX0 "_law_draw" 1 ["_law_pen_here", "_law_span"] spDraw) (D2 : DefOk P w K mg base CX0 "_law_pick" 2 ["_law_pen_here", "_law_menu"] spPick)
    (D5 : DefOk P w K mg base CX0 "_law_ways" 1 [] spWays) (D6 : DefOk P w K mg base CX0 "_law_tens" 1 ["_law_count"] spTe) (DE : DefOk P w K mg base CX0 "_law_entries" 5 ["_law_pen_here", "_law_unit"] spEs) (DT : DefOk P w K mg base CX0 "_law_totals" 8 ["_law_row", "_law_state", "_law_unit", "_law_way"] (spTa 5)) (D9 : DefOk P w K mg base CX0 "_law_same" 2 ["_law_worth", "_law_units_here", "_law_scale"] (spSm W))
    (DR : DefOk P w K mg base (L2.CX P w) "tally_range" 20 ["entries", "scale", "way"] (spTr C CB W Pm Ls)) (DG : DefOk P w K mg base CX0 "_law_told_right" 21 ["_law_worths", "_law_found", "_law_unit", "_law_scale", "_law_deep", "_law_way"] (spTg Pm Ls)) : FnOk P w K mg base CX0 22 f fd ["_law_script"] (spLaw K Pm Ls) := by
  refine F.ok scLaw (fun vs H Q E h => ?_) (fun cdv A outer s0 H vs Q E hr h => ?_)
  · obtain ⟨a, ns, rfl, _⟩ := h
    rfl
  · obtain ⟨a, ns, rfl, hs, hl, hT, q⟩ := h
    have nd := scLaw.nd
    refine ⟨_, pss_cons (ps_set (i := 1) nd rfl (.inl rfl) (pe_def D0 hr (by decide) (by rfl) pass0 (pa_cons (pv 0) pa_nil)))
      (pss_cons (ps_for PassesOwn.never rfl (pi_range1 (by rfl) B.range (pa_cons (pe_op op_add pe_int (pe_callB (call_min2 rfl) (by rfl) B.min (by decide +kernel) (pa_cons pe_int (pa_cons (pe_callB call_len_seq (by rfl) B.len PySem.boot_len (pa_cons (pv 0) pa_nil)) pa_nil)))) pa_nil)) (pg_name (i := 2) nd rfl (.inl rfl)) (pss_cons (ps_par (i := 3) (j := 4) (by rfl) nd rfl rfl (by decide) rfl rfl (pa_cons (pe_def D1 hr (by decide) (by rfl) pass0 (pa_cons (pv 1) (pa_cons pe_int pa_nil))) (pa_cons (pe_op op_add pe_int (pe_def D1 hr (by decide) (by rfl) pass0 (pa_cons (pv 1) (pa_cons pe_int pa_nil)))) pa_nil)) (by rfl)) (pss_cons (ps_asg (pe_tup (pa_cons (pe_def D6 hr (by decide) (by rfl) pass0 (pa_cons (pv 4) pa_nil)) (pa_cons (pe_op op_add (pv 3) (pv 4)) (pa_cons (pe_def D2 hr (by decide) (by rfl) pass0 (pa_cons (pv 1) (pa_cons (pe_def0 D5 hr (by decide) (by rfl) pass0) pa_nil))) pa_nil)))) (pg_tup rfl (pgs_cons (pg_name (i := 5) nd rfl (.inl rfl)) (pgs_cons (pg_name (i := 6) nd rfl (.inr rfl)) (pgs_cons (pg_name (i := 7) nd rfl (.inl rfl)) pgs_nil))))) (pss_cons (ps_par (i := 8) (j := 9) (by rfl) nd rfl rfl (by decide) rfl rfl (pa_cons (pe_def DE hr (by decide) (by rfl) pass0 (pa_cons (pv 1) (pa_cons (pv 5) pa_nil))) (pa_cons (pe_lst pa_nil) pa_nil)) (by rfl)) (pss_cons (ps_for PassesOwn.never rfl (pi_list (pv 8)) (pg_tup rfl (pgs_cons (pg_name (i := 10) nd rfl (.inl rfl)) (pgs_cons (pg_name (i := 11) nd rfl (.inl rfl)) pgs_nil))) (pss_one (ps_set (i := 9) nd rfl (.inl rfl) (pe_op op_cat (pv 9) (pe_op op_rep (pe_lst (pa_cons (pv 10) pa_nil)) (pv 11)))))) (pss_cons (ps_set (i := 12) nd rfl (.inl rfl) (pe_def DT hr (by decide) (by rfl) pass0 (pa_cons (pv 9) (pa_cons pe_int (pa_cons (pv 5) (pa_cons (pv 7) pa_nil)))))) (pss_cons (ps_setLc (i := 13) (own := [("_law_one", 10)]) (te := tTup (tCons (tCall (spWorth C W) [] E0 (tCons (tOp (rIxT K) (tVar 10) (tC (.int 0))) (tCons (tVar 6) tNil))) (tCons (tOp (rIxT K) (tVar 10) (tC (.int 1))) tNil))) rfl nd rfl rfl rfl (pi_list (pv 8)) blkL1 (fun _ _ _ _ _ => (pg_name (i := 10) nd rfl (.inl rfl))) (fun _ _ _ _ _ => pts_nil) (fun _ _ _ _ _ => by exact (pe_tup (pa_cons (pe_worth (C := C) (E := E0) M T hr (by decide) (by rfl) passL (pa_cons (pe_ix ix_tup (pv 10) pe_int (fun _ _ => rfl)) (pa_cons (pv 6) pa_nil))) (pa_cons (pe_ix ix_tup (pv 10) pe_int (fun _ _ => rfl)) pa_nil))))) (pss_cons (ps_set (i := 14) nd rfl (.inl rfl) (pe_def (E := E0) DR hr (by decide) (by rfl) passL (pa_cons (pv 13) (pa_cons (pv 3) (pa_cons (pv 7) pa_nil))))) (pss_cons (ps_if (PW.pt (pw_or (pt_not (pt_val (pe_callB call_isi (by rfl) B.isi (by decide +kernel) (pa_cons (pv 14) (pa_cons (pe_bltn (v := .ty "tuple") (by rfl) B.tuple (by decide +kernel) rfl) pa_nil))))) (pw_or1 (pt_cmpR op_ne (pe_callB call_len_seq (by rfl) B.len PySem.boot_len (pa_cons (pv 14) pa_nil)) pe_int (nomark _))))) (pss_one (ps_ret pe_bl)) pss_nil) (pss_cons (ps_if (PW.pt (pw_or (pt_not (pt_val (pe_def D9 hr (by decide) (by rfl) pass0 (pa_cons (pe_ix ix_tup (pv 14) pe_int (fun _ _ => rfl)) (pa_cons (pe_callB (cr_min rfl) (by rfl) B.min (by decide +kernel) (pa_cons (pv 12) pa_nil)) (pa_cons (pv 3) pa_nil)))))) (pw_or1 (pt_not (pt_val (pe_def D9 hr (by decide) (by rfl) pass0 (pa_cons (pe_ix ix_tup (pv 14) pe_int (fun _ _ => rfl)) (pa_cons (pe_callB (cr_max rfl) (by rfl) B.max (by decide +kernel) (pa_cons (pv 12) pa_nil)) (pa_cons (pv 3) pa_nil))))))))) (pss_one (ps_ret pe_bl)) pss_nil) (pss_cons (ps_if (pt_cmpR (op_entNe (E := E0) WE passL hr (by decide)) (pv 13) (pe_lc (own := [("_law_one", 10)]) (te := tTup (tCons (tCall (spWorth C W) [] E0 (tCons (tOp (rIxT K) (tVar 10) (tC (.int 0))) (tCons (tVar 6) tNil))) (tCons (tOp (rIxT K) (tVar 10) (tC (.int 1))) tNil))) rfl nd (pi_list (pv 8)) blkL2 (fun _ _ _ _ _ => (pg_name (i := 10) nd rfl (.inl rfl))) (fun _ _ _ _ _ => pts_nil) (fun _ _ _ _ _ => by exact (pe_tup (pa_cons (pe_worth (C := C) (E := E0) M T hr (by decide) (by rfl) passL (pa_cons (pe_ix ix_tup (pv 10) pe_int (fun _ _ => rfl)) (pa_cons (pv 6) pa_nil))) (pa_cons (pe_ix ix_tup (pv 10) pe_int (fun _ _ => rfl)) pa_nil))))) (nomark _)) (pss_one (ps_ret pe_bl)) pss_nil) (pss_one (ps_if (pt_not (pt_val (pe_def DG hr (by decide) (by rfl) pass0 (pa_cons (pv 9) (pa_cons (pv 12) (pa_cons (pv 5) (pa_cons (pv 3) (pa_cons (pv 6) (pa_cons (pv 7) pa_nil))))))))) (pss_one (ps_ret pe_bl)) pss_nil)))))))))))))
      (pss_one (ps_ret pe_bl))), ?_⟩
    refine ⟨_, rfl, a, ns, rfl, hs, hl, fun d H1 nd1 s1 p1 => ?_⟩
    have T1 := hT.ext s1
    dsimp only [gName, List.set]
    refine ⟨_, rfl, a, _, rfl, .inl (s1.seq hs), _, _, rfl, _, _, rfl, rfl, ?_⟩
    obtain ⟨N, hN, N9⟩ : ∃ N : Nat, (3 + if (((ns.map V.int).length : Nat) : Int) < 4 then (((ns.map V.int).length : Nat) : Int) else 4) = (N : Int) ∧ N ≤ 7 := ⟨(3 + if (((ns.map V.int).length : Nat) : Int) < 4 then (((ns.map V.int).length : Nat) : Int) else 4).toNat, by split <;> omega, by split <;> omega⟩
    refine ⟨_, rfl, by rw [hN]; omega, by rw [hN]; omega, for_range (lo := 0) (n := (3 + if (((ns.map V.int).length : Nat) : Int) < 4 then (((ns.map V.int).length : Nat) : Int) else 4).toNat) (fun i σ H' => (∃ y2 y3 y4 y5 y6 y7 y8 y9 y10 y11 y12 y13 y14 : Option V, σ = [some (.ref a), some (.ref d), y2, y3, y4, y5, y6, y7, y8, y9, y10, y11, y12, y13, y14]) ∧ Pen H' d (2000 * i) ∧ Tabs (TT Pm Ls) H') ⟨⟨_, _, _, _, _, _, _, _, _, _, _, _, _, rfl⟩, p1.mono (by omega), T1⟩ ?_ ?_⟩
    rotate_left
    · rintro σ H2 ⟨⟨_, _, _, _, _, _, _, _, _, _, _, _, _, rfl⟩, pp, _⟩
      exact q H2
    rintro i σ H2 hi ⟨⟨y2, y3, y4, y5, y6, y7, y8, y9, y10, y11, y12, y13, y14, rfl⟩, pp, TA⟩
    rw [hN] at hi
    clear T1 p1 hT hs s1 nd1
    dsimp only [gName, List.set]
    refine ⟨_, rfl, d, 4, _, rfl, pp, by omega, by decide, by decide, fun nz H3 n0 n1 k3 p3 => ?_⟩
    have T3 := tabs_keepX TA pp k3
    refine ⟨_, rfl, d, 3, _, rfl, p3, by omega, by decide, by decide, fun jz H4 j0 j1 k4 p4 => ⟨_, _, rfl, rfl, ?_⟩⟩
    have T4 := tabs_keepX T3 p3 k4
    obtain ⟨n, rfl⟩ : ∃ n : Nat, nz = (n : Int) := ⟨nz.toNat, (Int.toNat_of_nonneg n0).symm⟩
    obtain ⟨j, rfl⟩ : ∃ n : Nat, jz = (n : Int) := ⟨jz.toNat, (Int.toNat_of_nonneg j0).symm⟩
    try dsimp only [tNil]
    rw [show (1 : Int) + (j : Int) = ((1 + j : Nat) : Int) by omega]
    generalize hj : 1 + j = p
    refine ⟨_, _, rfl, ?_⟩
    try dsimp only [gName, List.set]
    refine ⟨_, rfl, p, rfl, by omega, _, rfl, _, rfl, _, _, rfl, rfl, ?_⟩
    try dsimp only [tNil]
    rw [show (n : Int) + (p : Int) = ((n + p : Nat) : Int) by omega]
    refine ⟨_, rfl, rfl, fun g ng => ?_⟩
    have sg := same_new (o := HO.lst (waysL.map V.str)) ng
    refine ⟨d, g, _, _, rfl, upd_same, by simp [waysL], by show 9 ≤ 1000; decide, p4.same sg, by omega, fun v H5 hv k5 p5 => ?_⟩
    have T5 := tabs_keepX (T4.ext sg) (p4.same sg) k5
    obtain ⟨t, ht, rfl⟩ := List.mem_map.mp hv
    obtain ⟨U, hU, U0, U1⟩ : ∃ U : Int, (10 : Int) ^ p = U ∧ 0 < U ∧ U ≤ 1000 := by
      refine ⟨_, rfl, ten_pos _, ?_⟩
      rcases (show p = 1 ∨ p = 2 ∨ p = 3 by omega) with z | z | z <;> rw [z] <;> decide
    rw [hU]
    try dsimp only [tNil]
    refine ⟨by show 3 ≤ sizeLine; decide, fun pt np => ?_⟩
    have s6 := same_new (o := HO.tup [.int U, .int ((n + p : Nat) : Int), .str t]) np
    refine ⟨pt, _, rfl, SqT.of upd_same, rfl, _, _, rfl, _, _, rfl, _, _, rfl, rfl, ?_⟩
    have p6 := p5.same s6
    have T6 := T5.ext s6
    generalize upd H5 pt (HO.tup [.int U, .int ((n + p : Nat) : Int), .str t]) = H6 at p6 T6 ⊢
    clear k3 k4 k5 p3 p4 p5 T3 T4 T5 TA sg ng np s6 hv pp
    try dsimp only [gName, List.set]
    -- the row
    refine ⟨_, rfl, _, rfl, d, U, _, rfl, U0, U1, p6, by omega, fun lr es zs H7 k7 p7 hrow hE el eb sm => ⟨by show 0 ≤ sizeLine; decide, fun w0 nw0 => ?_⟩⟩
    have T7 := tabs_keepX T6 p6 k7
    have s8 := same_new (o := HO.lst []) nw0
    have ew := (upd_same : upd H7 w0 (HO.lst []) w0 = some (.lst []))
    have p8 := p7.same s8
    have T8 := T7.ext s8
    have hr8 := s8 _ _ hrow
    have hE8 : Ents (RowN (upd H7 w0 (HO.lst []))) zs es := hE.mono fun _ _ z => RowI.same z s8
    generalize upd H7 w0 (HO.lst []) = H8 at ew p8 T8 hr8 hE8 ⊢
    clear k7 p7 p6 T6 T7 s8 nw0 hrow hE
    have p8 := p8.mono (show _ ≤ 2000 * (i : Int) + 1200 by omega)
    have zlen := hE8.len
    refine ⟨_, _, rfl, ?_⟩
    try dsimp only [gName, List.set]
    -- one by one
    refine ⟨_, rfl, lr, rfl, ⟨_, SqL.of hr8⟩, for_list (K := K) (xs := zs) (fun i2 σ H' => (∃ (y10 y11 : Option V) (r : Addr), σ = [some (.ref a), some (.ref d), some (.int ((0 : Int) + (i : Int))), some (.int (n : Nat)), some (.int (p : Nat)), some (.int U), some (.int ((n + p : Nat) : Int)), some (.str t), some (.ref lr), some (.ref r), y10, y11, y12, y13, y14] ∧ H' r = some (.lst ((flatE (es.take i2)).map V.int))) ∧ Same H8 H') ⟨⟨_, _, w0, rfl, ew⟩, Same.refl _⟩ (fun i2 σ H' _ z => SqL.of (z.2 _ _ hr8)) ?_ ?_⟩
    · rintro i2 x σ G hx ⟨⟨y10, y11, r, rfl, er⟩, sG⟩
      obtain ⟨e, he, rr⟩ := hE8.get hx
      obtain ⟨q0, rfl, e0⟩ := RowI.same rr sG
      refine ⟨q0, _, rfl, SqT.of e0, rfl, _, _, rfl, _, _, rfl, rfl, ?_⟩
      dsimp only [gName, List.set]
      refine ⟨_, rfl, _, rfl, by show 1 ≤ sizeLine; decide, fun q1 n1 => ?_⟩
      have t1 := same_new (o := HO.lst [.int e.1]) n1
      have g1 : upd G q1 (HO.lst [.int e.1]) q1 = some (.lst [.int e.1]) := upd_same
      generalize upd G q1 (HO.lst [.int e.1]) = G1 at t1 g1 ⊢
      have tl : (flatE (es.take (i2 + 1))).length ≤ 5 := by
        have z : flatE es = flatE (es.take (i2 + 1)) ++ flatE (es.drop (i2 + 1)) := by
          unfold flatE
          rw [← List.flatMap_append, List.take_append_drop]
        have z2 := congrArg List.length z
        rw [flatE_len, List.length_append] at z2
        omega
      have tk : es.take (i2 + 1) = es.take i2 ++ [e] := by rw [List.take_succ, he]; rfl
      rw [tk, flatE_snoc, List.length_append, List.length_replicate] at tl
      have sz := sizeLine_eq
      refine ⟨_, rfl, q1, _, _, rfl, rfl, g1, by omega, by omega, by rw [Int.toNat_natCast]; simp only [List.length_cons, List.length_nil]; omega, fun q2 n2 => ?_⟩
      rw [Int.toNat_natCast, List.flatten_replicate_singleton, ← List.map_replicate]
      have t2 := same_new (o := HO.lst ((List.replicate e.2 e.1).map V.int)) n2
      have g2 : upd G1 q2 (HO.lst ((List.replicate e.2 e.1).map V.int)) q2 = some (.lst ((List.replicate e.2 e.1).map V.int)) := upd_same
      generalize upd G1 q2 (HO.lst ((List.replicate e.2 e.1).map V.int)) = G2 at t2 g2 ⊢
      refine ⟨r, q2, _, _, rfl, rfl, t2 _ _ (t1 _ _ er), g2, by rw [List.length_map, List.length_map, List.length_replicate]; omega, fun q3 n3 => ?_⟩
      have t3 := same_new (o := HO.lst ((flatE (es.take i2)).map V.int ++ (List.replicate e.2 e.1).map V.int)) n3
      dsimp only [gName, List.set]
      refine ⟨⟨_, _, q3, rfl, ?_⟩, ((sG.trans t1).trans t2).trans t3⟩
      rw [tk, flatE_snoc, List.map_append]
      exact upd_same
    rintro σ H9 ⟨⟨y10, y11, lw, rfl, hw⟩, s9⟩
    rw [show es.take zs.length = es by rw [zlen]; exact List.take_length] at hw
    have wl : (flatE es).length ≤ 5 := by rw [flatE_len]; exact sm
    have T9 := T8.ext s9
    have p9 := p8.same s9
    have hr9 := s9 _ _ hr8
    have hE9 : Ents (RowN H9) zs es := hE8.mono fun _ _ z => RowI.same z s9
    clear ew s9 p8 T8 hr8 hE8
    dsimp only [gName, List.set]
    refine ⟨_, rfl, _, rfl, _, rfl, (flatE es).length, wl, lw, flatE es, 0, U, t, rfl, hw, rfl, U0, by omega, ht, fun lf H10 s10 hf => ?_⟩
    have T10 := T9.ext s10
    have p10 := p9.same s10
    have hr10 := s10 _ _ hr9
    have hw10 := s10 _ _ hw
    have hE10 : Ents (RowN H10) zs es := hE9.mono fun _ _ z => RowI.same z s10
    clear s10 p9 T9 hr9 hE9 hw
    dsimp only [gName, List.set]
    -- the entries
    refine ⟨_, rfl, lr, rfl, ⟨_, SqL.of hr10⟩, fun D1x nD1x => lc_ent (R := RowN) (S := ItemT W (n + p)) (cnd := fun _ => true) (out := fun e : Int × Nat => e) hr10 hE10 nD1x (by omega) (fun _ _ _ _ h z => RowI.same h z) (fun _ _ _ _ h z => ItemT.same h z) (fun _ _ _ _ _ h hD => ItemT.put h hD) (fun r e H' Nx No he s1 hr nx no => ?_) fun H11 ys s11 hD1x hID1x => ?_⟩
    · obtain ⟨a1, rfl, ea⟩ := hr
      dsimp only [gName, List.set]
      refine ⟨rfl, ?_⟩
      unfold tYes
      dsimp only
      rw [if_pos rfl]
      refine ⟨_, rfl, a1, _, 0, _, rfl, rfl, SqT.of ea, rfl, _, rfl, ?_⟩
      dsimp only [tNil]
      rw [List.append_nil]
      refine worth_of (C := C) (n := n + p) (by omega) fun u c p0 H3 lw3 s3 _ wp => ?_
      have ea3 := s3 _ _ ea
      refine ⟨_, rfl, a1, _, 1, _, rfl, rfl, SqT.of ea3, rfl, by show 2 ≤ sizeLine; decide, fun z nz => ?_⟩
      have s4 := same_new (o := HO.tup [.ref p0, .int (e.2 : Nat)]) nz
      exact nx rfl _ _ (s3.trans s4) ⟨z, p0, u, c, rfl, upd_same, wp.same s4, lw3⟩
    rw [List.filter_eq_self.mpr (fun _ _ => rfl), List.map_id'] at hID1x
    have T11 := T10.ext s11
    have p11 := p10.same s11
    have hr11 := s11 _ _ hr10
    have hw11 := s11 _ _ hw10
    have hf11 := s11 _ _ hf
    have hE11 : Ents (RowN H11) zs es := hE10.mono fun _ _ z => RowI.same z s11
    clear s11 p10 T10 hr10 hE10 hw10 hf
    dsimp only [gName, List.set]
    have big : ∀ e ∈ es, e.1.natAbs < 2 ^ 300 ∧ e.2 < 2 ^ 300 := fun e he => by
      have h1 := sumN_mem he
      have h2 : (6 : Nat) ≤ 2 ^ 300 := Nat.le_trans (by decide : 6 ≤ 2 ^ 3) (Nat.pow_le_pow_right (by decide) (by decide))
      exact ⟨Nat.lt_of_lt_of_le (eb e he) (Nat.pow_le_pow_right (by decide) (by decide)), by omega⟩
    have mn' : n + p - n = p := by omega
    refine ⟨_, rfl, _, rfl, _, rfl, D1x, .int n, .str t, ys, [], es, n + p, rfl, by rw [List.append_nil]; exact hD1x, hID1x.mono fun _ _ z => ItemT.at z, .int _, .str _, by omega, by omega, big, T11, .inr ⟨rfl, (fun z => by rw [isWh_cast] at z; cases z), (fun _ z => by rw [isWay_ok ht] at z; cases z), fun n' t' e1 e2 _ => ?_⟩⟩
    obtain rfl : n = n' := by have := V.int.inj e1; omega
    obtain rfl : t = t' := V.str.inj e2
    refine ⟨by omega, fun rt lo hi H12 he x12 T12 two => ?_⟩
    rw [mn', hU] at he
    have he := ends_flat he
    obtain ⟨q1, q2, u1, u2, c1, c2, er, w1, l1, w2, l2⟩ := two
    have p12 := PenG.extN p11 x12
    have hr12 := x12 _ _ hr11 (fun ps z => by cases z)
    have hw12 := x12 _ _ hw11 (fun ps z => by cases z)
    have hf12 := x12 _ _ hf11 (fun ps z => by cases z)
    have hD12 := x12 _ _ hD1x (fun ps z => by cases z)
    have hE12 : Ents (RowN H12) zs es := hE11.mono fun _ _ z => by
      obtain ⟨a1, e1, e2⟩ := z
      exact ⟨a1, e1, x12 _ _ e2 (fun ps z => by cases z)⟩
    have hI12 : Ents (ItemT W (n + p) H12) ys es := hID1x.mono fun _ _ z => ItemT.extN z x12
    clear x12 p11 T11 hr11 hw11 hf11 hD1x hE11 hID1x
    dsimp only [gName, List.set]
    -- what is told
    refine ⟨_, rfl, _, _, _, _, true, rfl, .ty _, .base (.tup er), kit_ty (show kitB "tuple" "tuple" = some true by decide +kernel), _, rfl, iteF ?_⟩
    refine ⟨_, rfl, rt, _, rfl, .inr (SqT.of er), rfl, _, rfl, iteF ?_⟩
    obtain ⟨m1, m2, m3⟩ := tots_ends U0 ht he
    have tpos : 0 < (totsL U t (flatE es).length (flatE es) 0).length := List.length_pos_of_mem m1
    refine ⟨_, rfl, rt, _, 0, _, rfl, rfl, SqT.of er, rfl, _, rfl, lf, _, rfl, SqL.of hf12, tpos, fun mn h1 h2 => ?_⟩
    obtain rfl : mn = lo := Int.le_antisymm (h2 _ m1) (m3 _ h1).1
    refine ⟨_, rfl, q1, u1, mn, c1, n, rfl, w1, l1, by omega, fun H13 s13 => ⟨_, rfl, iteF ?_⟩⟩
    clear h1 h2
    refine ⟨_, rfl, rt, _, 1, _, rfl, rfl, SqT.of (s13 _ _ er), rfl, _, rfl, lf, _, rfl, SqL.of (s13 _ _ hf12), tpos, fun mx h1 h2 => ?_⟩
    obtain rfl : mx = hi := Int.le_antisymm (m3 _ h1).2 (h2 _ m2)
    refine ⟨_, rfl, q2, u2, mx, c2, n, rfl, w2.same s13, l2, by omega, fun H14 s14 => ⟨_, rfl, iteF ?_⟩⟩
    clear h1 h2
    have S14 := s13.trans s14
    have p14 := p12.same S14
    have T14 := T12.ext S14
    have hr14 := S14 _ _ hr12
    have hw14 := S14 _ _ hw12
    have hf14 := S14 _ _ hf12
    have hD14 := S14 _ _ hD12
    have hE14 : Ents (RowN H14) zs es := hE12.mono fun _ _ z => RowI.same z S14
    have hI14 : Ents (ItemT W (n + p) H14) ys es := hI12.mono fun _ _ z => ItemT.same z S14
    clear S14 s13 s14 p12 T12 hr12 hw12 hf12 hD12 hE12 hI12 er w1 w2 l1 l2
    -- the entries again
    refine ⟨_, rfl, _, rfl, lr, rfl, ⟨_, SqL.of hr14⟩, fun D2x nD2x => lc_ent (R := RowN) (S := ItemT W (n + p)) (cnd := fun _ => true) (out := fun e : Int × Nat => e) hr14 hE14 nD2x (by omega) (fun _ _ _ _ h z => RowI.same h z) (fun _ _ _ _ h z => ItemT.same h z) (fun _ _ _ _ _ h hD => ItemT.put h hD) (fun r e H' Nx No he s1 hr nx no => ?_) fun H15 ys2 s15 hD2x hID2x => ?_⟩
    · obtain ⟨a1, rfl, ea⟩ := hr
      dsimp only [gName, List.set]
      refine ⟨rfl, ?_⟩
      unfold tYes
      dsimp only
      rw [if_pos rfl]
      refine ⟨_, rfl, a1, _, 0, _, rfl, rfl, SqT.of ea, rfl, _, rfl, ?_⟩
      dsimp only [tNil]
      rw [List.append_nil]
      refine worth_of (C := C) (n := n + p) (by omega) fun u c p0 H3 lw3 s3 _ wp => ?_
      have ea3 := s3 _ _ ea
      refine ⟨_, rfl, a1, _, 1, _, rfl, rfl, SqT.of ea3, rfl, by show 2 ≤ sizeLine; decide, fun z nz => ?_⟩
      have s4 := same_new (o := HO.tup [.ref p0, .int (e.2 : Nat)]) nz
      exact nx rfl _ _ (s3.trans s4) ⟨z, p0, u, c, rfl, upd_same, wp.same s4, lw3⟩
    rw [List.filter_eq_self.mpr (fun _ _ => rfl), List.map_id'] at hID2x
    refine ⟨ents_twin (s15 _ _ hD14) hD2x (hI14.mono fun _ _ z => ItemT.same z s15) hID2x, fun H16 s16 => ⟨_, rfl, iteF ?_⟩⟩
    have S16 := s15.trans s16
    have p16 := p14.same S16
    have T16 := T14.ext S16
    have wb : ∀ x ∈ flatE es, x.natAbs < 2 ^ 300 := fun x hx => by
      obtain ⟨k, hk⟩ := flatE_mem hx
      exact (big _ hk).1
    refine ⟨_, rfl, _, rfl, _, rfl, _, rfl, _, rfl, _, rfl, lw, lf, flatE es, n, p, t, mn, mx, by rw [hU]; rfl, S16 _ _ hw14, by rw [hU]; exact S16 _ _ hf14, wl, wb, by omega, by omega, ht, by rw [hU]; exact he, T16, fun H17 x17 T17 => ⟨_, rfl, iteF ?_⟩⟩
    exact ⟨⟨_, _, _, _, _, _, _, _, _, _, _, _, _, rfl⟩, (PenG.extN p16 x17).mono (by omega), T17⟩
end
end K50

set_option maxHeartbeats 0
/-! k50: what the top leaves; the end. -/
namespace K50
open PySem PySem.Spec PyProof.Rows L2 LamX NdefX Own
section
variable {P : Program} {w : World} {K : PySem.W.Frag} {mg : Str → Option Value} {h : Heap}
theorem gloF (X : K.In h) (G : h.Ns mainGlobals mg) (d : He.SaysD faL fnL K) {x : Str} (hx : x ∈ gloL) : mg x = some (.ref (He.ga K x)) :=
  He.glo_ok X G (d.facts (List.mem_append_left _ (List.mem_append_left _ (List.mem_map.mpr ⟨x, hx, rfl⟩))))
theorem freeF (X : K.In h) (G : h.Ns mainGlobals mg) (d : He.SaysD faL fnL K) {x : Str} (hx : x ∈ freeL) : mg x = none :=
  He.free_ok X G (d.facts (List.mem_append_left _ (List.mem_append_right _ (List.mem_map.mpr ⟨x, hx, rfl⟩))))
theorem moreF (d : He.SaysD faL fnL K) {f : He.Fa} (hf : f ∈ moreL) : f.ok K = true := d.facts (List.mem_append_right _ hf)
theorem wis_ok {W : Addr} (h : wisB K W = true) : WIs K W := by
  obtain ⟨z2, y⟩ := He.ba h
  obtain ⟨z3, y⟩ := He.ba y
  obtain ⟨z4, y⟩ := He.ba y
  obtain ⟨z5, z6⟩ := He.ba y
  exact ⟨of_decide_eq_true z2, of_decide_eq_true z3, of_decide_eq_true z4, of_decide_eq_true z5, fun T hT => of_decide_eq_true (List.all_eq_true.mp z6 T hT)⟩
theorem scE_BadValue : FnScope ["self", "value"] ["self", "value"] (defScope (inClass (topS 2) 0)) := ⟨rfl, rfl, rfl, by decide +kernel, rfl, by decide +kernel, by decide +kernel⟩
theorem ok_err_BadValue {base : Heap} {C : Addr} {f : Addr} {fd : FuncData} (F : Fun K "__init__" "BadValue.__init__" (inClass (topS 2) 0) f fd) (T : OexC K C) (no : PySem.W.findIn K (.ref C) "value" = some none) : FnOk P w K mg base CX0 1 f fd ["self", "value"] (spErr C "value") := by
  refine F.ok scE_BadValue (fun vs H Q E h => ?_) (fun cdv A outer s H vs Q E hr h => ?_)
  · obtain ⟨a, y, rfl, _⟩ := h
    rfl
  · obtain ⟨a, y, rfl, ha, q⟩ := h
    refine ⟨_, pss_one (ps_ost (pv 0) (pv 1)), ?_⟩
    exact ⟨_, rfl, _, rfl, a, C, rfl, T, no, .inl ⟨ha, fun dx n1 n2 => q dx n1 n2⟩⟩
theorem scE_TooFine : FnScope ["self", "scale"] ["self", "scale"] (defScope (inClass (topS 3) 0)) := ⟨rfl, rfl, rfl, by decide +kernel, rfl, by decide +kernel, by decide +kernel⟩
theorem ok_err_TooFine {base : Heap} {C : Addr} {f : Addr} {fd : FuncData} (F : Fun K "__init__" "TooFine.__init__" (inClass (topS 3) 0) f fd) (T : OexC K C) (no : PySem.W.findIn K (.ref C) "scale" = some none) : FnOk P w K mg base CX0 1 f fd ["self", "scale"] (spErr C "scale") := by
  refine F.ok scE_TooFine (fun vs H Q E h => ?_) (fun cdv A outer s H vs Q E hr h => ?_)
  · obtain ⟨a, y, rfl, _⟩ := h
    rfl
  · obtain ⟨a, y, rfl, ha, q⟩ := h
    refine ⟨_, pss_one (ps_ost (pv 0) (pv 1)), ?_⟩
    exact ⟨_, rfl, _, rfl, a, C, rfl, T, no, .inl ⟨ha, fun dx n1 n2 => q dx n1 n2⟩⟩
theorem scE_BadEntry : FnScope ["self", "index"] ["self", "index"] (defScope (inClass (topS 4) 0)) := ⟨rfl, rfl, rfl, by decide +kernel, rfl, by decide +kernel, by decide +kernel⟩
theorem ok_err_BadEntry {base : Heap} {C : Addr} {f : Addr} {fd : FuncData} (F : Fun K "__init__" "BadEntry.__init__" (inClass (topS 4) 0) f fd) (T : OexC K C) (no : PySem.W.findIn K (.ref C) "index" = some none) : FnOk P w K mg base CX0 1 f fd ["self", "index"] (spErr C "index") := by
  refine F.ok scE_BadEntry (fun vs H Q E h => ?_) (fun cdv A outer s H vs Q E hr h => ?_)
  · obtain ⟨a, y, rfl, _⟩ := h
    rfl
  · obtain ⟨a, y, rfl, ha, q⟩ := h
    refine ⟨_, pss_one (ps_ost (pv 0) (pv 1)), ?_⟩
    exact ⟨_, rfl, _, rfl, a, C, rfl, T, no, .inl ⟨ha, fun dx n1 n2 => q dx n1 n2⟩⟩
theorem scE_Gaps : FnScope ["self", "way"] ["self", "way"] (defScope (inClass (topS 5) 0)) := ⟨rfl, rfl, rfl, by decide +kernel, rfl, by decide +kernel, by decide +kernel⟩
theorem ok_err_Gaps {base : Heap} {C : Addr} {f : Addr} {fd : FuncData} (F : Fun K "__init__" "Gaps.__init__" (inClass (topS 5) 0) f fd) (T : OexC K C) (no : PySem.W.findIn K (.ref C) "way" = some none) : FnOk P w K mg base CX0 1 f fd ["self", "way"] (spErr C "way") := by
  refine F.ok scE_Gaps (fun vs H Q E h => ?_) (fun cdv A outer s H vs Q E hr h => ?_)
  · obtain ⟨a, y, rfl, _⟩ := h
    rfl
  · obtain ⟨a, y, rfl, ha, q⟩ := h
    refine ⟨_, pss_one (ps_ost (pv 0) (pv 1)), ?_⟩
    exact ⟨_, rfl, _, rfl, a, C, rfl, T, no, .inl ⟨ha, fun dx n1 n2 => q dx n1 n2⟩⟩
theorem law_at {fa : Addr} (X : K.In h) (G : h.Ns mainGlobals mg) (hfa : mg "law" = some (.ref fa)) (c : He.SaysX faL fnL tsL [nm0] exL w h K) (cp : SaysP psL K) : LawAtS PySem.Challenge.rw_figurestay_k50_whole_all_orders w K CX0 22 63 "_law_script" mg fa h := by
  have d := c.t.d
  obtain ⟨oex_BadValue, y⟩ := He.ba c.more
  obtain ⟨xf_BadValue, y⟩ := He.ba y
  obtain ⟨oex_TooFine, y⟩ := He.ba y
  obtain ⟨xf_TooFine, y⟩ := He.ba y
  obtain ⟨oex_BadEntry, y⟩ := He.ba y
  obtain ⟨xf_BadEntry, y⟩ := He.ba y
  obtain ⟨oex_Gaps, y⟩ := He.ba y
  obtain ⟨xf_Gaps, y⟩ := He.ba y
  obtain ⟨tup_WAYS, y⟩ := He.ba y
  obtain ⟨tup_TENS, y⟩ := He.ba y
  obtain ⟨tup_LOOSE_AT_HALF, y⟩ := He.ba y
  obtain ⟨tup_LOOSE_IN_ALL, y⟩ := He.ba y
  obtain ⟨get_HALVES, y⟩ := He.ba y
  obtain ⟨wis_Worth, y⟩ := He.ba y
  obtain ⟨sub_Worth, y⟩ := He.ba y
  obtain ⟨self_W, kit_W⟩ := He.ba y
  obtain ⟨es_HALVES, n_HALVES, d_HALVES⟩ := c.t.tab 0
  have te_BadValue := He.exm_ok (moreF d (f := .exm "BadValue" "BadValue" true) (List.mem_of_getElem? (i := 0) rfl))
  have mt_BadValue := He.meth_ok (moreF d (f := .meth "BadValue" "__init__") (List.mem_of_getElem? (i := 1) rfl))
  have no_BadValue := He.noat_ok (moreF d (f := .noat "BadValue" "value") (List.mem_of_getElem? (i := 2) rfl))
  obtain ⟨fd_BadValue, F0_BadValue⟩ := d.def_ 0 (d := dMk "BadValue" "__init__" 2 0 [] []) rfl
  have F_BadValue : Fun K "__init__" "BadValue.__init__" (inClass (topS 2) 0) _ fd_BadValue := fun_of F0_BadValue
  have b_BadValue := F_BadValue.binds (ps := ["self", "value"]) fun _ _ _ _ _ _ us hl => match us, hl with | [_, _], _ => rfl
  have te_TooFine := He.exm_ok (moreF d (f := .exm "TooFine" "TooFine" true) (List.mem_of_getElem? (i := 4) rfl))
  have mt_TooFine := He.meth_ok (moreF d (f := .meth "TooFine" "__init__") (List.mem_of_getElem? (i := 5) rfl))
  have no_TooFine := He.noat_ok (moreF d (f := .noat "TooFine" "scale") (List.mem_of_getElem? (i := 6) rfl))
  obtain ⟨fd_TooFine, F0_TooFine⟩ := d.def_ 1 (d := dMk "TooFine" "__init__" 3 0 [] []) rfl
  have F_TooFine : Fun K "__init__" "TooFine.__init__" (inClass (topS 3) 0) _ fd_TooFine := fun_of F0_TooFine
  have b_TooFine := F_TooFine.binds (ps := ["self", "scale"]) fun _ _ _ _ _ _ us hl => match us, hl with | [_, _], _ => rfl
  have te_BadEntry := He.exm_ok (moreF d (f := .exm "BadEntry" "BadEntry" true) (List.mem_of_getElem? (i := 8) rfl))
  have mt_BadEntry := He.meth_ok (moreF d (f := .meth "BadEntry" "__init__") (List.mem_of_getElem? (i := 9) rfl))
  have no_BadEntry := He.noat_ok (moreF d (f := .noat "BadEntry" "index") (List.mem_of_getElem? (i := 10) rfl))
  obtain ⟨fd_BadEntry, F0_BadEntry⟩ := d.def_ 2 (d := dMk "BadEntry" "__init__" 4 0 [] []) rfl
  have F_BadEntry : Fun K "__init__" "BadEntry.__init__" (inClass (topS 4) 0) _ fd_BadEntry := fun_of F0_BadEntry
  have b_BadEntry := F_BadEntry.binds (ps := ["self", "index"]) fun _ _ _ _ _ _ us hl => match us, hl with | [_, _], _ => rfl
  have te_Gaps := He.exm_ok (moreF d (f := .exm "Gaps" "Gaps" true) (List.mem_of_getElem? (i := 12) rfl))
  have mt_Gaps := He.meth_ok (moreF d (f := .meth "Gaps" "__init__") (List.mem_of_getElem? (i := 13) rfl))
  have no_Gaps := He.noat_ok (moreF d (f := .noat "Gaps" "way") (List.mem_of_getElem? (i := 14) rfl))
  obtain ⟨fd_Gaps, F0_Gaps⟩ := d.def_ 3 (d := dMk "Gaps" "__init__" 5 0 [] []) rfl
  have F_Gaps : Fun K "__init__" "Gaps.__init__" (inClass (topS 5) 0) _ fd_Gaps := fun_of F0_Gaps
  have b_Gaps := F_Gaps.binds (ps := ["self", "way"]) fun _ _ _ _ _ _ us hl => match us, hl with | [_, _], _ => rfl
  have cls_Worth := He.cls_ok (moreF d (f := .cls "Worth") (List.mem_of_getElem? (i := 16) rfl))
  have mk_Worth := He.mkr_ok (moreF d (f := .mkr "Worth") (List.mem_of_getElem? (i := 17) rfl))
  have no_Worth_units := He.noat_ok (moreF d (f := .noat "Worth" "units") (List.mem_of_getElem? (i := 18) rfl))
  have no_Worth_scale := He.noat_ok (moreF d (f := .noat "Worth" "scale") (List.mem_of_getElem? (i := 19) rfl))
  have no_Worth_floor := He.noat_ok (moreF d (f := .noat "Worth" "floor") (List.mem_of_getElem? (i := 20) rfl))
  have no_Worth_more := He.noat_ok (moreF d (f := .noat "Worth" "more") (List.mem_of_getElem? (i := 21) rfl))
  obtain ⟨fd_Worth, FI_Worth⟩ := d.def_ 4 (d := dMk "Worth" "__init__" 15 0 [.int 0] []) rfl
  have m_Worth_eq := He.meth_ok (moreF d (f := .meth "Worth" "__eq__") (List.mem_of_getElem? (i := 22) rfl))
  obtain ⟨fd_Worth_eq, F_Worth_eq⟩ := d.def_ 5 (d := dMk "Worth" "__eq__" 15 1 [] []) rfl
  have G_Worth_eq : Fun K "__eq__" "Worth.__eq__" (inClass (topS 15) 1) _ fd_Worth_eq := fun_of F_Worth_eq
  have b_Worth_eq := G_Worth_eq.binds (ps := ["self", "other"]) fun _ _ _ _ _ _ us hl => match us, hl with | [_, _], _ => rfl
  have m_Worth_add := He.meth_ok (moreF d (f := .meth "Worth" "__add__") (List.mem_of_getElem? (i := 23) rfl))
  obtain ⟨fd_Worth_add, F_Worth_add⟩ := d.def_ 6 (d := dMk "Worth" "__add__" 15 4 [] []) rfl
  have G_Worth_add : Fun K "__add__" "Worth.__add__" (inClass (topS 15) 4) _ fd_Worth_add := fun_of F_Worth_add
  have b_Worth_add := G_Worth_add.binds (ps := ["self", "other"]) fun _ _ _ _ _ _ us hl => match us, hl with | [_, _], _ => rfl
  have m_Worth_sub := He.meth_ok (moreF d (f := .meth "Worth" "__sub__") (List.mem_of_getElem? (i := 24) rfl))
  obtain ⟨fd_Worth_sub, F_Worth_sub⟩ := d.def_ 7 (d := dMk "Worth" "__sub__" 15 6 [] []) rfl
  have G_Worth_sub : Fun K "__sub__" "Worth.__sub__" (inClass (topS 15) 6) _ fd_Worth_sub := fun_of F_Worth_sub
  have b_Worth_sub := G_Worth_sub.binds (ps := ["self", "other"]) fun _ _ _ _ _ _ us hl => match us, hl with | [_, _], _ => rfl
  have m_Worth_neg := He.meth_ok (moreF d (f := .meth "Worth" "__neg__") (List.mem_of_getElem? (i := 25) rfl))
  obtain ⟨fd_Worth_neg, F_Worth_neg⟩ := d.def_ 8 (d := dMk "Worth" "__neg__" 15 10 [] []) rfl
  have G_Worth_neg : Fun K "__neg__" "Worth.__neg__" (inClass (topS 15) 10) _ fd_Worth_neg := fun_of F_Worth_neg
  have b_Worth_neg := G_Worth_neg.binds (ps := ["self"]) fun _ _ _ _ _ _ us hl => match us, hl with | [_], _ => rfl
  have m_Worth_sign := He.meth_ok (moreF d (f := .meth "Worth" "sign") (List.mem_of_getElem? (i := 26) rfl))
  obtain ⟨fd_Worth_sign, F_Worth_sign⟩ := d.def_ 9 (d := dMk "Worth" "sign" 15 13 [] []) rfl
  have G_Worth_sign : Fun K "sign" "Worth.sign" (inClass (topS 15) 13) _ fd_Worth_sign := fun_of F_Worth_sign
  have b_Worth_sign := G_Worth_sign.binds (ps := ["self"]) fun _ _ _ _ _ _ us hl => match us, hl with | [_], _ => rfl
  have m_Worth_units_at := He.meth_ok (moreF d (f := .meth "Worth" "units_at") (List.mem_of_getElem? (i := 27) rfl))
  obtain ⟨fd_Worth_units_at, F_Worth_units_at⟩ := d.def_ 10 (d := dMk "Worth" "units_at" 15 14 [] []) rfl
  have G_Worth_units_at : Fun K "units_at" "Worth.units_at" (inClass (topS 15) 14) _ fd_Worth_units_at := fun_of F_Worth_units_at
  have b_Worth_units_at := G_Worth_units_at.binds (ps := ["self", "scale"]) fun _ _ _ _ _ _ us hl => match us, hl with | [_, _], _ => rfl
  have cls_Entry := He.cls_ok (moreF d (f := .cls "Entry") (List.mem_of_getElem? (i := 28) rfl))
  have mk_Entry := He.mkr_ok (moreF d (f := .mkr "Entry") (List.mem_of_getElem? (i := 29) rfl))
  have no_Entry_times := He.noat_ok (moreF d (f := .noat "Entry" "times") (List.mem_of_getElem? (i := 30) rfl))
  have no_Entry_floor := He.noat_ok (moreF d (f := .noat "Entry" "floor") (List.mem_of_getElem? (i := 31) rfl))
  have no_Entry_alone := He.noat_ok (moreF d (f := .noat "Entry" "alone") (List.mem_of_getElem? (i := 32) rfl))
  have no_Entry_side := He.noat_ok (moreF d (f := .noat "Entry" "side") (List.mem_of_getElem? (i := 33) rfl))
  have no_Entry_is_loose := He.noat_ok (moreF d (f := .noat "Entry" "is_loose") (List.mem_of_getElem? (i := 34) rfl))
  obtain ⟨fd_Entry, FI_Entry⟩ := d.def_ 11 (d := dMk "Entry" "__init__" 30 0 [] []) rfl
  have GI_Entry : Fun K "__init__" "Entry.__init__" (inClass (topS 30) 0) _ fd_Entry := fun_of FI_Entry
  have bI_Entry := GI_Entry.binds (ps := ["self", "worth", "times", "scale", "way"]) fun _ _ _ _ _ _ us hl => match us, hl with | [_, _, _, _, _], _ => rfl
  obtain ⟨fd_is_an_integer, F_is_an_integer⟩ := d.def_ 12 (d := dfn "is_an_integer" 8) rfl
  have A_is_an_integer : At K mg "is_an_integer" (topS 8) ["value"] := at_of F_is_an_integer (gloF X G d (by decide +kernel)) fun _ _ _ _ _ _ us hl => match us, hl with | [_], _ => rfl
  obtain ⟨fd_is_whole_number, F_is_whole_number⟩ := d.def_ 13 (d := dfn "is_whole_number" 9) rfl
  have A_is_whole_number : At K mg "is_whole_number" (topS 9) ["value"] := at_of F_is_whole_number (gloF X G d (by decide +kernel)) fun _ _ _ _ _ _ us hl => match us, hl with | [_], _ => rfl
  obtain ⟨fd_need_integer, F_need_integer⟩ := d.def_ 14 (d := dfn "need_integer" 10) rfl
  have A_need_integer : At K mg "need_integer" (topS 10) ["value"] := at_of F_need_integer (gloF X G d (by decide +kernel)) fun _ _ _ _ _ _ us hl => match us, hl with | [_], _ => rfl
  obtain ⟨fd_need_whole_number, F_need_whole_number⟩ := d.def_ 15 (d := dfn "need_whole_number" 11) rfl
  have A_need_whole_number : At K mg "need_whole_number" (topS 11) ["value"] := at_of F_need_whole_number (gloF X G d (by decide +kernel)) fun _ _ _ _ _ _ us hl => match us, hl with | [_], _ => rfl
  obtain ⟨fd_ten_to, F_ten_to⟩ := d.def_ 16 (d := dfn "ten_to" 12) rfl
  have A_ten_to : At K mg "ten_to" (topS 12) ["places"] := at_of F_ten_to (gloF X G d (by decide +kernel)) fun _ _ _ _ _ _ us hl => match us, hl with | [_], _ => rfl
  obtain ⟨fd_digits_of, F_digits_of⟩ := d.def_ 17 (d := dfn "digits_of" 13) rfl
  have A_digits_of : At K mg "digits_of" (topS 13) ["number"] := at_of F_digits_of (gloF X G d (by decide +kernel)) fun _ _ _ _ _ _ us hl => match us, hl with | [_], _ => rfl
  obtain ⟨fd_without_zeros, F_without_zeros⟩ := d.def_ 18 (d := dfn "without_zeros" 16) rfl
  have A_without_zeros : At K mg "without_zeros" (topS 16) ["units", "scale"] := at_of F_without_zeros (gloF X G d (by decide +kernel)) fun _ _ _ _ _ _ us hl => match us, hl with | [_, _], _ => rfl
  obtain ⟨fd_parted, F_parted⟩ := d.def_ 19 (d := dfn "parted" 17) rfl
  have A_parted : At K mg "parted" (topS 17) ["units", "scale"] := at_of F_parted (gloF X G d (by decide +kernel)) fun _ _ _ _ _ _ us hl => match us, hl with | [_, _], _ => rfl
  obtain ⟨fd_as_worth, F_as_worth⟩ := d.def_ 20 (d := dfn "as_worth" 18) rfl
  have A_as_worth : At K mg "as_worth" (topS 18) ["value"] := at_of F_as_worth (gloF X G d (by decide +kernel)) fun _ _ _ _ _ _ us hl => match us, hl with | [_], _ => rfl
  obtain ⟨fd_need_worth, F_need_worth⟩ := d.def_ 21 (d := dfn "need_worth" 19) rfl
  have A_need_worth : At K mg "need_worth" (topS 19) ["value"] := at_of F_need_worth (gloF X G d (by decide +kernel)) fun _ _ _ _ _ _ us hl => match us, hl with | [_], _ => rfl
  obtain ⟨fd_need_way, F_need_way⟩ := d.def_ 22 (d := dfn "need_way" 23) rfl
  have A_need_way : At K mg "need_way" (topS 23) ["value"] := at_of F_need_way (gloF X G d (by decide +kernel)) fun _ _ _ _ _ _ us hl => match us, hl with | [_], _ => rfl
  obtain ⟨fd_nearest_units, F_nearest_units⟩ := d.def_ 23 (d := dfn "nearest_units" 24) rfl
  have A_nearest_units : At K mg "nearest_units" (topS 24) ["number", "divisor", "way"] := at_of F_nearest_units (gloF X G d (by decide +kernel)) fun _ _ _ _ _ _ us hl => match us, hl with | [_, _, _], _ => rfl
  obtain ⟨fd__goes_up, F__goes_up⟩ := d.def_ 24 (d := dfn "_goes_up" 25) rfl
  have A__goes_up : At K mg "_goes_up" (topS 25) ["way", "below", "past_half"] := at_of F__goes_up (gloF X G d (by decide +kernel)) fun _ _ _ _ _ _ us hl => match us, hl with | [_, _, _], _ => rfl
  obtain ⟨fd_rounded, F_rounded⟩ := d.def_ 25 (d := dfn "rounded" 26) rfl
  have A_rounded : At K mg "rounded" (topS 26) ["worth", "scale", "way"] := at_of F_rounded (gloF X G d (by decide +kernel)) fun _ _ _ _ _ _ us hl => match us, hl with | [_, _, _], _ => rfl
  obtain ⟨fd_need_entries, F_need_entries⟩ := d.def_ 26 (d := dfn "need_entries" 31) rfl
  have A_need_entries : At K mg "need_entries" (topS 31) ["entries", "scale", "way"] := at_of F_need_entries (gloF X G d (by decide +kernel)) fun _ _ _ _ _ _ us hl => match us, hl with | [_, _, _], _ => rfl
  obtain ⟨fd_entries_in_units, F_entries_in_units⟩ := d.def_ 27 (d := dfn "entries_in_units" 32) rfl
  have A_entries_in_units : At K mg "entries_in_units" (topS 32) ["entries", "scale", "way"] := at_of F_entries_in_units (gloF X G d (by decide +kernel)) fun _ _ _ _ _ _ us hl => match us, hl with | [_, _, _], _ => rfl
  obtain ⟨fd_total_behind, F_total_behind⟩ := d.def_ 28 (d := dfn "total_behind" 33) rfl
  have A_total_behind : At K mg "total_behind" (topS 33) ["units", "entry", "way"] := at_of F_total_behind (gloF X G d (by decide +kernel)) fun _ _ _ _ _ _ us hl => match us, hl with | [_, _, _], _ => rfl
  obtain ⟨fd__times_on_side, F__times_on_side⟩ := d.def_ 29 (d := dfn "_times_on_side" 34) rfl
  have A__times_on_side : At K mg "_times_on_side" (topS 34) ["ahead", "added", "times"] := at_of F__times_on_side (gloF X G d (by decide +kernel)) fun _ _ _ _ _ _ us hl => match us, hl with | [_, _, _], _ => rfl
  obtain ⟨fd_tally_range, F_tally_range⟩ := d.def_ 30 (d := dfn "tally_range" 36) rfl
  have A_tally_range : At K mg "tally_range" (topS 36) ["entries", "scale", "way"] := at_of F_tally_range (gloF X G d (by decide +kernel)) fun _ _ _ _ _ _ us hl => match us, hl with | [_, _, _], _ => rfl
  obtain ⟨fd_order_for, F_order_for⟩ := d.def_ 31 (d := dfn "order_for" 37) rfl
  have A_order_for : At K mg "order_for" (topS 37) ["worths", "scale", "way", "total"] := at_of F_order_for (gloF X G d (by decide +kernel)) fun _ _ _ _ _ _ us hl => match us, hl with | [_, _, _, _], _ => rfl
  obtain ⟨fd__range_of, F__range_of⟩ := d.def_ 32 (d := dfn "_range_of" 38) rfl
  have A__range_of : At K mg "_range_of" (topS 38) ["pairs", "scale", "way"] := at_of F__range_of (gloF X G d (by decide +kernel)) fun _ _ _ _ _ _ us hl => match us, hl with | [_, _, _], _ => rfl
  obtain ⟨fd__sum_of, F__sum_of⟩ := d.def_ 33 (d := dfn "_sum_of" 39) rfl
  have A__sum_of : At K mg "_sum_of" (topS 39) ["pairs"] := at_of F__sum_of (gloF X G d (by decide +kernel)) fun _ _ _ _ _ _ us hl => match us, hl with | [_], _ => rfl
  obtain ⟨fd__base_of, F__base_of⟩ := d.def_ 34 (d := dfn "_base_of" 40) rfl
  have A__base_of : At K mg "_base_of" (topS 40) ["entries"] := at_of F__base_of (gloF X G d (by decide +kernel)) fun _ _ _ _ _ _ us hl => match us, hl with | [_], _ => rfl
  obtain ⟨fd__range_by_halves, F__range_by_halves⟩ := d.def_ 35 (d := dfn "_range_by_halves" 41) rfl
  have A__range_by_halves : At K mg "_range_by_halves" (topS 41) ["entries"] := at_of F__range_by_halves (gloF X G d (by decide +kernel)) fun _ _ _ _ _ _ us hl => match us, hl with | [_], _ => rfl
  obtain ⟨fd__greatest_of, F__greatest_of⟩ := d.def_ 36 (d := dfn "_greatest_of" 42) rfl
  have A__greatest_of : At K mg "_greatest_of" (topS 42) ["entries", "way"] := at_of F__greatest_of (gloF X G d (by decide +kernel)) fun _ _ _ _ _ _ us hl => match us, hl with | [_, _], _ => rfl
  obtain ⟨fd__first_side, F__first_side⟩ := d.def_ 37 (d := dfn "_first_side" 43) rfl
  have A__first_side : At K mg "_first_side" (topS 43) ["way"] := at_of F__first_side (gloF X G d (by decide +kernel)) fun _ _ _ _ _ _ us hl => match us, hl with | [_], _ => rfl
  obtain ⟨fd__order_by_halves, F__order_by_halves⟩ := d.def_ 38 (d := dfn "_order_by_halves" 45) rfl
  have A__order_by_halves : At K mg "_order_by_halves" (topS 45) ["entries", "units"] := at_of F__order_by_halves (gloF X G d (by decide +kernel)) fun _ _ _ _ _ _ us hl => match us, hl with | [_, _], _ => rfl
  obtain ⟨fd__order_of_greatest, F__order_of_greatest⟩ := d.def_ 39 (d := dfn "_order_of_greatest" 46) rfl
  have A__order_of_greatest : At K mg "_order_of_greatest" (topS 46) ["entries", "way"] := at_of F__order_of_greatest (gloF X G d (by decide +kernel)) fun _ _ _ _ _ _ us hl => match us, hl with | [_, _], _ => rfl
  obtain ⟨fd__order_between, F__order_between⟩ := d.def_ 40 (d := dfn "_order_between" 47) rfl
  have A__order_between : At K mg "_order_between" (topS 47) ["entries", "way", "order", "other", "units"] := at_of F__order_between (gloF X G d (by decide +kernel)) fun _ _ _ _ _ _ us hl => match us, hl with | [_, _, _, _, _], _ => rfl
  obtain ⟨fd__total_in, F__total_in⟩ := d.def_ 41 (d := dfn "_total_in" 48) rfl
  have A__total_in : At K mg "_total_in" (topS 48) ["entries", "way", "order"] := at_of F__total_in (gloF X G d (by decide +kernel)) fun _ _ _ _ _ _ us hl => match us, hl with | [_, _, _], _ => rfl
  obtain ⟨fd__law_pen, F__law_pen⟩ := d.def_ 42 (d := dfn "_law_pen" 50) rfl
  have A__law_pen : At K mg "_law_pen" (topS 50) ["_law_script"] := at_of F__law_pen (gloF X G d (by decide +kernel)) fun _ _ _ _ _ _ us hl => match us, hl with | [_], _ => rfl
  obtain ⟨fd__law_draw, F__law_draw⟩ := d.def_ 43 (d := dfn "_law_draw" 51) rfl
  have A__law_draw : At K mg "_law_draw" (topS 51) ["_law_pen_here", "_law_span"] := at_of F__law_draw (gloF X G d (by decide +kernel)) fun _ _ _ _ _ _ us hl => match us, hl with | [_, _], _ => rfl
  obtain ⟨fd__law_pick, F__law_pick⟩ := d.def_ 44 (d := dfn "_law_pick" 52) rfl
  have A__law_pick : At K mg "_law_pick" (topS 52) ["_law_pen_here", "_law_menu"] := at_of F__law_pick (gloF X G d (by decide +kernel)) fun _ _ _ _ _ _ us hl => match us, hl with | [_, _], _ => rfl
  obtain ⟨fd__law_great, F__law_great⟩ := d.def_ 45 (d := dfn "_law_great" 53) rfl
  have A__law_great : At K mg "_law_great" (topS 53) ["_law_pen_here", "_law_figures"] := at_of F__law_great (gloF X G d (by decide +kernel)) fun _ _ _ _ _ _ us hl => match us, hl with | [_, _], _ => rfl
  obtain ⟨fd__law_signed, F__law_signed⟩ := d.def_ 46 (d := dfn "_law_signed" 54) rfl
  have A__law_signed : At K mg "_law_signed" (topS 54) ["_law_pen_here", "_law_figures"] := at_of F__law_signed (gloF X G d (by decide +kernel)) fun _ _ _ _ _ _ us hl => match us, hl with | [_, _], _ => rfl
  obtain ⟨fd__law_ways, F__law_ways⟩ := d.def_ 47 (d := dfn "_law_ways" 55) rfl
  have A__law_ways : At K mg "_law_ways" (topS 55) [] := at_of F__law_ways (gloF X G d (by decide +kernel)) fun _ _ _ _ _ _ us hl => match us, hl with | [], _ => rfl
  obtain ⟨fd__law_tens, F__law_tens⟩ := d.def_ 48 (d := dfn "_law_tens" 56) rfl
  have A__law_tens : At K mg "_law_tens" (topS 56) ["_law_count"] := at_of F__law_tens (gloF X G d (by decide +kernel)) fun _ _ _ _ _ _ us hl => match us, hl with | [_], _ => rfl
  obtain ⟨fd__law_rounded, F__law_rounded⟩ := d.def_ 49 (d := dfn "_law_rounded" 57) rfl
  have A__law_rounded : At K mg "_law_rounded" (topS 57) ["_law_number", "_law_unit", "_law_way"] := at_of F__law_rounded (gloF X G d (by decide +kernel)) fun _ _ _ _ _ _ us hl => match us, hl with | [_, _, _], _ => rfl
  obtain ⟨fd__law_own, F__law_own⟩ := d.def_ 50 (d := dfn "_law_own" 58) rfl
  have A__law_own : At K mg "_law_own" (topS 58) ["_law_units_here", "_law_scale"] := at_of F__law_own (gloF X G d (by decide +kernel)) fun _ _ _ _ _ _ us hl => match us, hl with | [_, _], _ => rfl
  obtain ⟨fd__law_same, F__law_same⟩ := d.def_ 51 (d := dfn "_law_same" 59) rfl
  have A__law_same : At K mg "_law_same" (topS 59) ["_law_worth", "_law_units_here", "_law_scale"] := at_of F__law_same (gloF X G d (by decide +kernel)) fun _ _ _ _ _ _ us hl => match us, hl with | [_, _, _], _ => rfl
  obtain ⟨fd__law_units, F__law_units⟩ := d.def_ 52 (d := dfn "_law_units" 60) rfl
  have A__law_units : At K mg "_law_units" (topS 60) ["_law_pen_here", "_law_unit", "_law_figures"] := at_of F__law_units (gloF X G d (by decide +kernel)) fun _ _ _ _ _ _ us hl => match us, hl with | [_, _, _], _ => rfl
  obtain ⟨fd__law_run_at, F__law_run_at⟩ := d.def_ 53 (d := dfn "_law_run_at" 61) rfl
  have A__law_run_at : At K mg "_law_run_at" (topS 61) ["_law_worths", "_law_order", "_law_unit", "_law_way"] := at_of F__law_run_at (gloF X G d (by decide +kernel)) fun _ _ _ _ _ _ us hl => match us, hl with | [_, _, _, _], _ => rfl
  obtain ⟨fd__law_is_order, F__law_is_order⟩ := d.def_ 54 (d := dfn "_law_is_order" 62) rfl
  have A__law_is_order : At K mg "_law_is_order" (topS 62) ["_law_order", "_law_many"] := at_of F__law_is_order (gloF X G d (by decide +kernel)) fun _ _ _ _ _ _ us hl => match us, hl with | [_, _], _ => rfl
  obtain ⟨fd__law_totals, F__law_totals⟩ := d.def_ 55 (d := dfn "_law_totals" 63) rfl
  have A__law_totals : At K mg "_law_totals" (topS 63) ["_law_row", "_law_state", "_law_unit", "_law_way"] := at_of F__law_totals (gloF X G d (by decide +kernel)) fun _ _ _ _ _ _ us hl => match us, hl with | [_, _, _, _], _ => rfl
  obtain ⟨fd__law_entries, F__law_entries⟩ := d.def_ 56 (d := dfn "_law_entries" 64) rfl
  have A__law_entries : At K mg "_law_entries" (topS 64) ["_law_pen_here", "_law_unit"] := at_of F__law_entries (gloF X G d (by decide +kernel)) fun _ _ _ _ _ _ us hl => match us, hl with | [_, _], _ => rfl
  obtain ⟨fd__law_told_right, F__law_told_right⟩ := d.def_ 57 (d := dfn "_law_told_right" 65) rfl
  have A__law_told_right : At K mg "_law_told_right" (topS 65) ["_law_worths", "_law_found", "_law_unit", "_law_scale", "_law_deep", "_law_way"] := at_of F__law_told_right (gloF X G d (by decide +kernel)) fun _ _ _ _ _ _ us hl => match us, hl with | [_, _, _, _, _, _], _ => rfl
  obtain ⟨fdR0, FR0⟩ := d.def_ 58 (d := dfn "_most_within" 44) rfl
  obtain ⟨fdL, FL⟩ := d.def_ 59 (d := dfn "law" 66) rfl
  have e := hfa.symm.trans (gloF X G d (x := "law") (by decide +kernel))
  cases e
  have FL' : Fun K "law" "law" sLaw _ fdL := fun_of FL
  have FR0' : Fun K "_most_within" "_most_within" pMw _ fdR0 := fun_of FR0
  have AR0 : AtC K mg "_most_within" pMw ["sizes", "room"] (He.cT K nm0).1 := by
    have bR := FR0'.binds (ps := ["sizes", "room"]) fun _ _ _ _ _ _ us hl => match us, hl with | [_, _], _ => rfl
    have gR := gloF X G d (x := "_most_within") (by decide +kernel)
    have kR := FR0'.kp
    obtain ⟨oc, od, kV, doc, pm, an, cdv, ct, osl, rfl, lk, hcd⟩ := FR0'.ex
    obtain ⟨cc, rfl⟩ := He.codeIn_ref hcd
    have ec : He.codeOf K nm0 = cc := He.codeOf_eq lk rfl
    refine ⟨_, oc, od, kV, doc, pm, an, ct, osl, ?_, ?_, gR, kR, ?_⟩
    · show K.lookup _ = some ⟨oc, od, .func (PySem.W.fnOf _ _ _ _ _ .none kV doc pm an (.ref (He.codeOf K nm0)) ct), osl⟩
      rw [ec]
      exact lk
    · show PySem.W.codeIn K (.ref (He.codeOf K nm0)) _ = true
      rw [ec]
      exact hcd
    · show Binds K (PySem.W.fnOf _ _ _ _ _ .none kV doc pm an (.ref (He.codeOf K nm0)) ct) _ []
      rw [ec]
      exact bR
  have hL : ∀ (s : Shared) (u : Value), BindsTo s fdL ⟨[u], []⟩ [("_law_script", u)] := by
    obtain ⟨oc, od, kV, doc, pm, an, cdv, ct, osl, rfl, lk, hcd⟩ := FL'.ex
    exact fun s u => .of_eq rfl
  have i0 : nm0 ∈ [nm0] := List.mem_of_getElem? (i := 0) rfl
  have j0 : He.cT K nm0 ∈ [He.cT K nm0] := List.mem_of_getElem? (i := 0) rfl
  refine ⟨fdL, [He.cT K nm0], spLaw K (He.cT K nm0).2 ([] : List (Addr × Str)), fun p hp => ?_, fun p hp => ?_, fun p hp => ?_, hL, fun H a ns hl _ hT hs => ⟨a, ns, rfl, hs, hl, fun p hp => ?_, fun _ => rfl⟩, fun base XB GB TBs => ?_⟩
  · simp only [List.mem_cons, List.not_mem_nil, or_false] at hp
    rcases hp with rfl
    · exact c.empty nm0 i0
  · simp only [List.mem_cons, List.not_mem_nil, or_false] at hp
    rcases hp with rfl
    · exact c.out nm0 i0
  · simp only [List.mem_cons, List.not_mem_nil, or_false] at hp
    rcases hp with rfl
    · exact PySem.W.codeHd_of_K X (c.hd nm0 i0)
  · rw [List.mem_singleton.mp hp]
    exact TabS.nil (hT (He.cT K nm0) j0)
  · have TB0 := TBs (He.cT K nm0) j0
    have B : Blt mg := { isi := freeF X G d (by decide +kernel), int := freeF X G d (by decide +kernel), bool := freeF X G d (by decide +kernel), len := freeF X G d (by decide +kernel), list := freeF X G d (by decide +kernel), range := freeF X G d (by decide +kernel), tuple := freeF X G d (by decide +kernel), all := freeF X G d (by decide +kernel), dm := freeF X G d (by decide +kernel), min := freeF X G d (by decide +kernel), max := freeF X G d (by decide +kernel), str := freeF X G d (by decide +kernel), abs := freeF X G d (by decide +kernel), dict := freeF X G d (by decide +kernel), any := freeF X G d (by decide +kernel) }
    have TE_BadValue : ErrC PySem.Challenge.rw_figurestay_k50_whole_all_orders.prog w K mg base "BadValue" "value" 1 (He.ga K "BadValue") (spErr (He.ga K "BadValue") "value") := ⟨gloF X G d (by decide +kernel), oexB_ok oex_BadValue, ⟨_, fd_BadValue, mt_BadValue.1, beq_iff_eq.mp mt_BadValue.fn, ok_err_BadValue F_BadValue (oexB_ok oex_BadValue) no_BadValue, b_BadValue⟩, L2.xfB_ok xf_BadValue, te_BadValue, no_BadValue⟩
    have TE_TooFine : ErrC PySem.Challenge.rw_figurestay_k50_whole_all_orders.prog w K mg base "TooFine" "scale" 1 (He.ga K "TooFine") (spErr (He.ga K "TooFine") "scale") := ⟨gloF X G d (by decide +kernel), oexB_ok oex_TooFine, ⟨_, fd_TooFine, mt_TooFine.1, beq_iff_eq.mp mt_TooFine.fn, ok_err_TooFine F_TooFine (oexB_ok oex_TooFine) no_TooFine, b_TooFine⟩, L2.xfB_ok xf_TooFine, te_TooFine, no_TooFine⟩
    have TE_BadEntry : ErrC PySem.Challenge.rw_figurestay_k50_whole_all_orders.prog w K mg base "BadEntry" "index" 1 (He.ga K "BadEntry") (spErr (He.ga K "BadEntry") "index") := ⟨gloF X G d (by decide +kernel), oexB_ok oex_BadEntry, ⟨_, fd_BadEntry, mt_BadEntry.1, beq_iff_eq.mp mt_BadEntry.fn, ok_err_BadEntry F_BadEntry (oexB_ok oex_BadEntry) no_BadEntry, b_BadEntry⟩, L2.xfB_ok xf_BadEntry, te_BadEntry, no_BadEntry⟩
    have TE_Gaps : ErrC PySem.Challenge.rw_figurestay_k50_whole_all_orders.prog w K mg base "Gaps" "way" 1 (He.ga K "Gaps") (spErr (He.ga K "Gaps") "way") := ⟨gloF X G d (by decide +kernel), oexB_ok oex_Gaps, ⟨_, fd_Gaps, mt_Gaps.1, beq_iff_eq.mp mt_Gaps.fn, ok_err_Gaps F_Gaps (oexB_ok oex_Gaps) no_Gaps, b_Gaps⟩, L2.xfB_ok xf_Gaps, te_Gaps, no_Gaps⟩
    have I_Worth : WIs K (He.ga K "Worth") := wis_ok wis_Worth
    have sL_Worth : ∀ T ∈ tys, PySem.W.subIn K (.type T) (.ref (He.ga K "Worth")) = some false := fun T hT => of_decide_eq_true (List.all_eq_true.mp sub_Worth T hT)
    have T : WorthC K mg (He.ga K "Worth") := ⟨(gloF X G d (by decide +kernel)), cls_Worth, no_Worth_units, no_Worth_scale, no_Worth_floor, no_Worth_more⟩
    have FW' : FunD K "__init__" "Worth.__init__" (defArgs (wI 0)) (defBody (wI 0)) (defScope (wI 0)) [V.int 0] [] _ fd_Worth := FI_Worth
    have bW1 : ∃ ds, Vals [V.int 0] ds ∧ Binds K fd_Worth ["self", "units", "scale"] ds := FW'.binds1 2 0 (by simp) rfl fun T kV doc pm an cdv ct us its hu hi => match us, its, hu, hi with | [_, _], [_], _, _ => ⟨_, rfl, rfl⟩
    have bW0 : Binds K fd_Worth ["self", "units", "scale"] [] := by
      obtain ⟨ds, rd, b⟩ := FW'.binds1 (ps := ["self", "units", "scale"]) 3 1 (by simp) rfl fun T kV doc pm an cdv ct us its hu hi => match us, its, hu, hi with | [_, _, _], [_], _, _ => ⟨_, rfl, rfl⟩
      have e : ds = [] := by cases rd; rfl
      rw [e] at b
      exact b
    have TX : Tx8 PySem.Challenge.rw_figurestay_k50_whole_all_orders.prog w K mg base (He.ga K "BadValue") (He.ga K "WAYS") (He.ga K "HALVES") es_HALVES n_HALVES :=
      { isi := B.isi, int := B.int, bool := B.bool, len := B.len, list := B.list, range := B.range, tuple := B.tuple, all := B.all, dm := B.dm, err := TE_BadValue, gW := (gloF X G d (by decide +kernel)), ways := fun H => (He.tupB_ok tup_WAYS H), gH := (gloF X G d (by decide +kernel)), dH := d_HALVES, halv := fun z hz => getB_ok get_HALVES hz }
    have tens : ∀ H : Hp, SqT K H (He.ga K "TENS") (tensL.map V.int) := fun H => by
      have z := He.tupB_ok tup_TENS H
      rw [List.map_map] at z
      exact z
    have D1 := ok_isInt (P := PySem.Challenge.rw_figurestay_k50_whole_all_orders.prog) (w := w) (base := base) A_is_an_integer B
    have D2 := ok_isWh A_is_whole_number D1
    have D3 := ok_nInt A_need_integer TE_BadValue D1
    have D4 := ok_nWh A_need_whole_number TE_BadValue D2
    have D5 := ok_tenTo (P := PySem.Challenge.rw_figurestay_k50_whole_all_orders.prog) (w := w) (base := base) A_ten_to B (gloF X G d (by decide +kernel)) tens 8 (by decide)
    have D6 := ok_wz A_without_zeros D5
    have Ddg := ok_dig (P := PySem.Challenge.rw_figurestay_k50_whole_all_orders.prog) (w := w) (base := base) A_digits_of B
    have Dpt := ok_part A_parted B D5 Ddg
    have M : WMk PySem.Challenge.rw_figurestay_k50_whole_all_orders.prog w K mg base (He.ga K "BadValue") (He.ga K "Worth") := ⟨_, fd_Worth, mk_Worth, ok_wI FW' T D3 D4 D6 Dpt, bW0, bW1⟩
    have D7 := ok_asW A_as_worth B T I_Worth M
    have U : WMeth PySem.Challenge.rw_figurestay_k50_whole_all_orders.prog w K mg base (He.ga K "Worth") "units_at" 10 ["self", "scale"] (spUat (He.ga K "Worth")) := ⟨_, fd_Worth_units_at, m_Worth_units_at, ok_uat G_Worth_units_at T TE_TooFine D4 D5, b_Worth_units_at⟩
    have SG : WMeth PySem.Challenge.rw_figurestay_k50_whole_all_orders.prog w K mg base (He.ga K "Worth") "sign" 1 ["self"] (spSgn (He.ga K "Worth")) := ⟨_, fd_Worth_sign, m_Worth_sign, ok_sgn G_Worth_sign T, b_Worth_sign⟩
    have oA : WOp PySem.Challenge.rw_figurestay_k50_whole_all_orders.prog w K mg base (He.ga K "Worth") .Add 14 (spBin (He.ga K "BadValue") (He.ga K "Worth") (· + ·)) := ⟨_, fd_Worth_add, self_W, m_Worth_add.1, m_Worth_add.fn, ok_add G_Worth_add B T M D7 U, b_Worth_add⟩
    have oS : WOp PySem.Challenge.rw_figurestay_k50_whole_all_orders.prog w K mg base (He.ga K "Worth") .Sub 14 (spBin (He.ga K "BadValue") (He.ga K "Worth") (· - ·)) := ⟨_, fd_Worth_sub, self_W, m_Worth_sub.1, m_Worth_sub.fn, ok_sub G_Worth_sub B T M D7 U, b_Worth_sub⟩
    have WE : WEq PySem.Challenge.rw_figurestay_k50_whole_all_orders.prog w K mg base (He.ga K "Worth") _ fd_Worth_eq := ⟨m_Worth_eq.1, m_Worth_eq.fn, ok_eq G_Worth_eq B T I_Worth, b_Worth_eq, sL_Worth⟩
    have D8 := ok_needW A_need_worth B T I_Worth TE_BadValue
    have E1 := ok_nWay A_need_way TX
    have E3 := ok_goes A__goes_up TX
    have E4 := ok_near A_nearest_units TX E3
    have E5 := ok_rnd A_rounded T M D8 D4 E1 D5 E4
    have TEn : EntryC K mg (He.ga K "Entry") := ⟨(gloF X G d (by decide +kernel)), cls_Entry, no_Entry_times, no_Entry_floor, no_Entry_alone, no_Entry_side, no_Entry_is_loose⟩
    have LT : LooseT K mg (He.ga K "LOOSE_IN_ALL") (He.ga K "LOOSE_AT_HALF") := ⟨(gloF X G d (by decide +kernel)), (gloF X G d (by decide +kernel)), fun H => (He.tupB_ok tup_LOOSE_IN_ALL H), fun H => (He.tupB_ok tup_LOOSE_AT_HALF H)⟩
    have GE : Fun K "__init__" "Entry.__init__" (enI 0) _ fd_Entry := GI_Entry
    have ME : EMk PySem.Challenge.rw_figurestay_k50_whole_all_orders.prog w K mg base (He.ga K "Worth") (He.ga K "Entry") := ⟨_, fd_Entry, mk_Entry, ok_eI GE TEn T M LT WE E5 U SG oS oA, bI_Entry⟩
    have F1 := ok_nE2 A_need_entries B (freeF X G d (by decide +kernel)) T I_Worth (of_decide_eq_true kit_W) TE_BadEntry D2 D4 E1
    have F2 := ok_iU2 A_entries_in_units TEn ME
    have F3 := ok_tS (P := PySem.Challenge.rw_figurestay_k50_whole_all_orders.prog) (w := w) (base := base) A__times_on_side
    have F4 := ok_tB A_total_behind B TEn F3
    have nP : ∀ p ∈ ([] : List (Addr × Str)), p.1 ≠ (He.cT K nm0).2 := fun p hp => by cases hp
    have mS : mg "sum" = none := freeF X G d (by decide +kernel)
    have mSt : mg "sorted" = none := freeF X G d (by decide +kernel)
    have mE : mg "enumerate" = none := freeF X G d (by decide +kernel)
    have mZ : mg "zip" = none := freeF X G d (by decide +kernel)
    have NG : WNeg PySem.Challenge.rw_figurestay_k50_whole_all_orders.prog w K mg base (He.ga K "Worth") := ⟨_, fd_Worth_neg, m_Worth_neg.1, m_Worth_neg.fn, ok_neg G_Worth_neg T M, b_Worth_neg⟩
    have P1 := ok_so (P := PySem.Challenge.rw_figurestay_k50_whole_all_orders.prog) (w := w) (base := base) A__sum_of mS
    have P2 := ok_bo A__base_of TEn P1
    have P3 := ok_rh A__range_by_halves B mS TEn P2
    have P4 := ok_fs (P := PySem.Challenge.rw_figurestay_k50_whole_all_orders.prog) (w := w) (base := base) A__first_side
    have P5 := ok_mw (P := PySem.Challenge.rw_figurestay_k50_whole_all_orders.prog) (w := w) (Ls := ([] : List (Addr × Str))) AR0 TB0 nP B mSt
    have P6 := ok_go A__greatest_of B mS TEn P1 P2 P4 P5
    have P7 := ok_ro A__range_of B TEn NG F2 P3 P6 P1
    have P8 := ok_tr A_tally_range T M F1 P7
    have S1 := ok_fs2 (P := PySem.Challenge.rw_figurestay_k50_whole_all_orders.prog) (w := w) (base := base) A__first_side
    have S2 := ok_ti A__total_in F4
    have S3 := ok_og A__order_of_greatest B mE mSt TEn S1
    have S4 := ok_ob A__order_between B mE S2
    have S5 := ok_oh A__order_by_halves B mZ TEn P2
    have S6 := ok_of A_order_for B T M TEn ME NG WE TE_Gaps U D8 D4 E1 P7 F2 S3 S4 S5
    have L0 := ok_begin (P := PySem.Challenge.rw_figurestay_k50_whole_all_orders.prog) (w := w) (base := base) A__law_pen B
    have L1 := ok_draw (P := PySem.Challenge.rw_figurestay_k50_whole_all_orders.prog) (w := w) (base := base) A__law_draw B
    have L2 := ok_pick A__law_pick B L1
    have L3 := ok_great A__law_great B L1
    have L4 := ok_si A__law_signed B L1 L3
    have L5 := ok_ways (P := PySem.Challenge.rw_figurestay_k50_whole_all_orders.prog) (w := w) (base := base) A__law_ways
    have L6 := ok_te (P := PySem.Challenge.rw_figurestay_k50_whole_all_orders.prog) (w := w) (base := base) A__law_tens B
    have L7 := ok_rd (P := PySem.Challenge.rw_figurestay_k50_whole_all_orders.prog) (w := w) (base := base) A__law_rounded B
    have L8 := ok_ow (P := PySem.Challenge.rw_figurestay_k50_whole_all_orders.prog) (w := w) (base := base) A__law_own B
    have L9 := ok_sm A__law_same B T I_Worth L8
    have LU := ok_un A__law_units B L1 L4
    have La := ok_ra A__law_run_at L7
    have Li := ok_io (P := PySem.Challenge.rw_figurestay_k50_whole_all_orders.prog) (w := w) (base := base) A__law_is_order B mSt
    have Lt := ok_tt A__law_totals B L7 5 (by decide)
    have Le := ok_es A__law_entries B L2 LU
    have Lg := ok_tg A__law_told_right B M T Li La S6
    exact ok_law FL' B M T WE L0 L1 L2 L5 L6 Le Lt L9 P8 Lg
end
end K50
open PySem PySem.W PySem.Calls PyProof.Rows
theorem PySem.Challenge.cw_figurestay_k50_whole_all_orders_holds : PySem.Challenge.rw_figurestay_k50_whole_all_orders.Holds := by
  w_on; o_law
  refine HandSHeadRun.head_any (r := OpenLaw.row PySem.Challenge.rw_figurestay_k50_whole_all_orders) (q := view (OpenLaw.row PySem.Challenge.rw_figurestay_k50_whole_all_orders).prog [66]) (H := K50.hkL) (ob := K50.obL) (M := 12000) (loose := K50.looseL)
    (d := HandSHeadRun.topDef (OpenLaw.row PySem.Challenge.rw_figurestay_k50_whole_all_orders).prog 66) (kwd := []) K50.obL_eq
    (by kernel_rfl) (fun s => by kernel_rfl) K50.runW (by kernel_rfl) (by kernel_rfl) (by kernel_rfl) (by rfl) (by first | assumption | decide +kernel) (by decide +kernel) ⟨rfl, rfl, rfl, rfl, rfl, by decide +kernel⟩ ?hw ?hc
  case hw => w_witness2
  case hc =>
    refine LamX.walk_ofTsE (l := PySem.Challenge.rw_figurestay_k50_whole_all_orders) (n := 63) (k := 22) (x := "_law_script") (CX := fun _ => L2.CX0) rfl (by decide) (by kernel_rfl) ⟨rfl, by decide, by decide⟩ ?F (fun _ _ _ _ _ z => z)
    intro w mg fa h Y G hmg0
    obtain ⟨K, KX, c, cp⟩ := Y
    have hmg : mg ("law" : PySem.Str) = some (.ref fa) := by
      have e : (HandSHeadRun.topDef (OpenLaw.row PySem.Challenge.rw_figurestay_k50_whole_all_orders).prog 66).name = ("law" : PySem.Str) := by kernel_rfl
      rw [← e]
      exact hmg0
    exact ⟨K, KX, K50.law_at KX G hmg c cp⟩
