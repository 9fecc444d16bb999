import PyProof.Rows.All
import Wide.All
import OpenK.AllK
import Wide.FinOn
import HandS.Lambda
import HandS.Nested
import KE.KDflt
import HandS.ForMost
import HandS.Exc
import HandS.ExcOwn
import HandS.TryOnly
import HandS.WordsExc
import HandS.IsInst
import HandS.Defaults
import HandS.TupAny
import HandS.Wide
import HandS.ExcIs
import PyProof.SumAnyB
import PyProof.Rows.SumGenD
import HandS.Style
import HandS.MakeKwOnly
import HandS.More
import HandS.SetFor
import HandS.TupSets
import HandS.Strs
import HandS.Deep
import HandS.DictTup
import HandS.Conv
import KE.KDictWalk
import HandS.NamedTupSort
import HandS.SortKw
import HandS.SortRule
import HandS.Keys
import KE.GoesEnum
import KE.GoesMore
import KE.KDictPairs
import HandS.HeadHook2
import KE.DataMinMax
import HandS.Zip
import HandS.ExcInit
import HandS.FStr
import KE.KExcSuper
import HandS.HeadHook1
import HandS.HeadHook3
import HandS.HeadHook4
import PySem.Challenge.RW_hushnotice_k03_notices_and_hears_refused
import KE.KExcIs
import HandS.ExcField
import HandS.TupMul
import KE.KStateDown
import Lean
import HandS.Base
import HandS.Call
import HandS.Ends
import HandS.Words
import HandS.Head0
import HandS.Head1
import HandS.Head2
import HandS.HeadEnd
import HandS.HeadWalk
set_option Elab.async false
set_option linter.all false
set_option maxRecDepth 100000
set_option maxHeartbeats 4000000
/-! Lambdas as values: made, kept in lists, called later by others. -/
namespace Lm
open PySem PySem.Spec PyProof.Rows L2 LamX NdefX
/-- the function data of a lambda: F its words (no statements), e its expression, dV its defaults -/
abbrev lfd (F : NF) (e : Expr) (dV doc pm ctv : Value) : FuncData := PySem.W.kdv_fn F.name F.qual F.params (.expr e) F.scope F.cl dV doc pm (.ref F.c) ctv
def LamO (f : Addr) (F : NF) (e : Expr) (dV : Value) : HO := .ext fun h => ∃ (od : Option Addr) (sl : Array (Option Value)) (doc pm ctv : Value), h.get? f = some (⟨.type "function", od, .func (lfd F e dV doc pm ctv), sl⟩ : Obj)
theorem lamO_at {P : Program} {w : World} {H : Hp} {h : Heap} {f : Addr} {F : NF} {e : Expr} {dV : Value} (hok : HOk P w H h) (q : H f = some (LamO f F e dV)) : ∃ (od : Option Addr) (sl : Array (Option Value)) (doc pm ctv : Value), h.get? f = some (⟨.type "function", od, .func (lfd F e dV doc pm ctv), sl⟩ : Obj) := by
  obtain ⟨z, _, _⟩ := hok f _ q
  exact z
section
variable {X : Cx} {pins : List (Addr × Obj)} {σ : L2.St} {H : Hp} {s : Shared}
theorem inv_lam {F : NF} {e : Expr} {dV : Value} {o : Obj} {t' : Nat} {doc pm ctv : Value} (I : Inv X pins σ H s) (ho : o = { cls := .type "function", data := .func (lfd F e dV doc pm ctv) }) :
    Inv X pins σ (upd H s.heap.objs.size (LamO s.heap.objs.size F e dV)) { s with heap := s.heap.push o, toks := t' } := by
  subst ho
  refine I.laid (a := s.heap.objs.size) (fun b u e => Heap.get?_push_of_some _ e) (Nat.le_refl _) ?_
  have z : (s.heap.push ({ cls := .type "function", data := .func (lfd F e dV doc pm ctv) } : Obj)).get? s.heap.objs.size = some ({ cls := .type "function", data := .func (lfd F e dV doc pm ctv) } : Obj) := Heap.get?_push_size _ rfl
  exact ⟨⟨_, _, doc, pm, ctv, z⟩, ⟨_, z⟩, fun h1 h2 ⟨od, sl, d, p, t, z⟩ st => ⟨od, sl, d, p, t, st _ z⟩⟩
/-- the lambda's words -/
abbrev NF.lam (X : Cx) (params : Arguments) (scope : Scope) (c' : Addr) : NF := ⟨"<lambda>", X.env.qual ++ "<lambda>", params, [], scope, cloFrom X.env.cells scope.names [], c'⟩
/-- the lambda's object is made: its code object is new, or found in the table -/
theorem lam_tail {nm : Nat → Nat → Str} {c P : Addr} {params : Arguments} {body : Expr} {scope : Scope} {pos : Pos} {dV : Value} {E : Value → Shared → Prop} {Q : Value → Shared → Prop} (I : Inv X pins σ H s) (TB : TabB X.base X.mg c P) (hcode : X.env.code = .ref c)
    (hn : nm pos.line pos.col = X.env.qual ++ "<lambda>") (hT : TabN H P nm) (hfree : ∀ y ∈ scope.names, y.2 = .free → ∃ c, X.env.cells.lookup y.1 = some c)
    (h : ∀ (f c' : Addr) (H1 : Hp) (s' : Shared), Inv X pins σ H1 s' → (∀ b o, b ≠ P → H b = some o → H1 b = some o) → (∀ b, H1 b = Option.none → H b = Option.none) → TabN H1 P nm → H f = none → H1 f = some (LamO f (NF.lam X params scope c') body dV) → H1 c' = some (CodeO c' (X.env.qual ++ "<lambda>")) →
      (∀ b o, H1 b = some o → H b = none → b = f ∨ b = c') → Q (.ref f) s') :
    wpAny (model X.prog X.w) X.A (makeTail "<lambda>" (X.env.qual ++ "<lambda>") params (.expr body) scope X.env dV .none none pos pos.line) Q E s := by
  obtain ⟨ps, hP, ht, ha⟩ := (show TabN H P nm from hT)
  have bP : s.heap.BuiltinsAt X.mg P := TB.bm.keeps I.bk
  have hP' : s.heap.get? P = some { cls := .none, data := .fields ps } := I.hok P _ hP
  cases hc : codeAmong pos ps.toList with
  | none =>
    refine PySem.W.kdv_makeTail (mg := X.mg) (c := c) (P := P) (ps := ps) (closure_ok hfree) I.ok.glob (I.mod.glob.keeps I.bk) hcode (TB.code.keeps I.bk) hP' ht hc TB.gP bP fun c' ctv doc h' tk hx hge hlt hrec htb => ?_
    obtain ⟨c2, oc, vs, t, e2, hoc, hd, hv⟩ := hrec
    cases e2
    have nC : H c' = none := I.hok.fresh hge
    have I1 := inv_table (t' := tk) (more := #[rawInt pos.line, rawInt pos.col, .ref c']) (h' := h') I hP (fun b o hb e => hx b o hb e) htb hge ⟨oc, vs, t, hoc, hd, hv⟩
    have hE : ∀ b o, b ≠ P → H b = some o → (upd (upd H P (.tbl (ps ++ #[rawInt pos.line, rawInt pos.col, .ref c']))) c' (CodeO c' (X.env.qual ++ "<lambda>"))) b = some o := fun b o n e => by
      rw [upd_ne (ne_of_none e nC), upd_ne n]
      exact e
    have eL : (ps ++ #[rawInt pos.line, rawInt pos.col, .ref c']).toList = ps.toList ++ [rawInt pos.line, rawInt pos.col, .ref c'] := by simp
    have nP : ∀ {b : Addr} {q : Str}, H b = some (CodeO b q) → b ≠ P := fun {b q} e z => by
      rw [z, hP] at e
      exact codeO_ne _ (Option.some.inj e).symm
    have T1 : TabN (upd (upd H P (.tbl (ps ++ #[rawInt pos.line, rawInt pos.col, .ref c']))) c' (CodeO c' (X.env.qual ++ "<lambda>"))) P nm := by
      refine ⟨_, by rw [upd_ne (ne_of_none hP nC), upd_same], by rw [eL]; exact PySem.TriplesOk_snoc _ _ _ _ ht, fun p' cv hcv => ?_⟩
      rw [eL] at hcv
      rcases among_app2 _ ht hcv with z | ⟨z, z1, z2⟩
      · obtain ⟨c0, e1, e2⟩ := ha p' cv z
        exact ⟨c0, e1, hE _ _ (nP e2) e2⟩
      · refine ⟨c', z, ?_⟩
        rw [← z1, ← z2, hn]
        exact upd_same
    have nF := I1.hok.fresh (Nat.le_refl _)
    have I2 := inv_lam (F := NF.lam X params scope c') (e := body) (dV := dV) (t' := tk) (doc := doc) (pm := (X.mg "__name__").getD .none) (ctv := ctv) I1 rfl
    refine h h'.objs.size c' _ _ I2 (fun b o n e => ?_) (fun b e => upd_none (upd_none (upd_none e))) (T1.ext fun b o e => ?_) (I.hok.fresh (Nat.le_trans hge (Nat.le_of_lt hlt))) upd_same ?_ (fun b o e n => ?_)
    · have e1 := hE b o n e
      exact (upd_ne (ne_of_none e1 nF)).trans e1
    · exact (upd_ne (ne_of_none e nF)).trans e
    · exact (upd_ne (Nat.ne_of_lt hlt)).trans upd_same
    · by_cases q1 : b = h'.objs.size
      · exact .inl q1
      · rw [upd_ne q1] at e
        by_cases q2 : b = c'
        · exact .inr q2
        · rw [upd_ne q2] at e
          by_cases q3 : b = P
          · rw [q3, hP] at n
            cases n
          · rw [upd_ne q3, n] at e
            cases e
  | some cv =>
    obtain ⟨c', e, hco⟩ := ha pos cv hc
    subst e
    rw [hn] at hco
    refine PySem.W.kdv_makeTailHit (mg := X.mg) (c := c) (P := P) (ps := ps) (closure_ok hfree) I.ok.glob (I.mod.glob.keeps I.bk) hcode (TB.code.keeps I.bk) hP' ht hc bP fun ctv doc h' tk hx hsz => ?_
    have I1 : Inv X pins σ H { s with heap := h', toks := tk } := I.kept hx
    have nF : H h'.objs.size = none := I1.hok.fresh (Nat.le_refl _)
    have I2 := inv_lam (F := NF.lam X params scope c') (e := body) (dV := dV) (t' := tk) (doc := doc) (pm := (X.mg "__name__").getD .none) (ctv := ctv) I1 rfl
    refine h h'.objs.size c' _ _ I2 (fun b o n e => ?_) (fun b e => upd_none e) (hT.ext fun b o e => ?_) nF upd_same ?_ (fun b o e n => ?_)
    · exact (upd_ne (ne_of_none e nF)).trans e
    · exact (upd_ne (ne_of_none e nF)).trans e
    · exact (upd_ne (ne_of_none hco nF)).trans hco
    · by_cases q1 : b = h'.objs.size
      · exact .inl q1
      · rw [upd_ne q1, n] at e
        cases e
/-- lambda: body -/
def tLam0 (P : Addr) (nm : Nat → Nat → Str) (mk : Addr → NF) (body : Expr) : TE := fun σ H Q => TabN H P nm ∧ ∀ (f c' : Addr) (H1 : Hp), (∀ b o, b ≠ P → H b = some o → H1 b = some o) → (∀ b, H1 b = Option.none → H b = Option.none) → TabN H1 P nm → H f = none → H1 f = some (LamO f (mk c') body .none) → H1 c' = some (CodeO c' (mk c').qual) →
  (∀ b o, H1 b = some o → H b = none → b = f ∨ b = c') → Q (.ref f) H1
theorem pe_lam0 {nm : Nat → Nat → Str} {c P : Addr} {params : Arguments} {body : Expr} {scope : Scope} {pos : Pos} (TB : TabB X.base X.mg c P) (hcode : X.env.code = .ref c) (hn : nm pos.line pos.col = X.env.qual ++ "<lambda>")
    (hfree : ∀ y ∈ scope.names, y.2 = .free → X.env.scope.names.lookup y.1 = some .cell ∨ X.env.scope.names.lookup y.1 = some .free) (hdef : defaultsOf params X.env = ([], [])) : PE X (.Lambda params body scope pos) (tLam0 P nm (NF.lam X params scope) body) := by
  refine ⟨fun pins s σ H Q I h => ?_⟩
  obtain ⟨hT, h⟩ := h
  refine PySem.W.kla_eval hdef ?_
  rw [makeFunction_eq]
  simp only [List.zip_nil_right, List.filterMap_nil, List.isEmpty_nil, if_true, pure_bind]
  have hfr : ∀ y ∈ scope.names, y.2 = .free → ∃ c, X.env.cells.lookup y.1 = some c := fun y hy e => (hfree y hy e).elim (fun z => I.ok.has _ (.inl z)) fun z => I.ok.has _ (.inr z)
  refine lam_tail I TB hcode hn hT hfr fun f c' H1 s' I1 k0 k1 T1 f0 f1 c1 nw => ?_
  exact ⟨.ref f, H1, I1, rfl, h f c' H1 k0 k1 T1 f0 f1 c1 nw⟩
/-- lambda a=0: body; the defaults' tuple stands at T -/
def tLam1 (P : Addr) (nm : Nat → Nat → Str) (mk : Addr → NF) (body : Expr) (i : Int) : TE := fun σ H Q => TabN H P nm ∧ ∀ (f c' T : Addr) (H1 : Hp), (∀ b o, b ≠ P → H b = some o → H1 b = some o) → (∀ b, H1 b = Option.none → H b = Option.none) → TabN H1 P nm → H f = none → H T = none → H1 T = some (.tup [.int i]) → H1 f = some (LamO f (mk c') body (.ref T)) → H1 c' = some (CodeO c' (mk c').qual) →
  (∀ b o, H1 b = some o → H b = none → b = f ∨ b = c' ∨ b = T) → Q (.ref f) H1
theorem pe_lam1 {nm : Nat → Nat → Str} {c P : Addr} {params : Arguments} {body : Expr} {scope : Scope} {pos p1 : Pos} {i : Int} {j : Nat} (TB : TabB X.base X.mg c P) (hcode : X.env.code = .ref c) (hn : nm pos.line pos.col = X.env.qual ++ "<lambda>")
    (hfree : ∀ y ∈ scope.names, y.2 = .free → X.env.scope.names.lookup y.1 = some .cell ∨ X.env.scope.names.lookup y.1 = some .free) (hd : params.defaults = [.Constant (.int i) j p1]) (hk : params.kw_defaults = []) : PE X (.Lambda params body scope pos) (tLam1 P nm (NF.lam X params scope) body i) := by
  refine ⟨fun pins s σ H Q I h => ?_⟩
  obtain ⟨hT, h⟩ := h
  refine PySem.W.kdv_lam (by rw [hd]; rfl) hk ?_
  rw [hd]
  refine PySem.W.kdv_all1 (thn ((pe_int (X := X) (i := i) (pos := p1)).run pins s σ H (fun v H1 => v = .int i ∧ H1 = H) I ⟨rfl, rfl⟩) fun u s1 ⟨v, H1, I1, r1, q1⟩ => ?_)
  obtain ⟨ev, eH⟩ := q1
  subst ev
  rw [eH] at I1
  obtain ⟨t, rfl⟩ : ∃ t, u = .int i t := r1
  refine PySem.W.kdv_all0 ?_
  rw [makeFunction_eq]
  simp only [List.zip_nil_right, List.filterMap_nil, List.isEmpty_nil, List.isEmpty_cons, Bool.false_eq_true, if_false, if_true, pure_bind]
  refine wpAny_bind (wpAny_newTextTuple ?_)
  have hf : H s1.heap.objs.size = none := I1.hok.fresh (Nat.le_refl _)
  have I2 : Inv X pins σ (upd H s1.heap.objs.size (.tup [.int i])) { s1 with heap := s1.heap.push { cls := .type "tuple", data := .seq [Value.int i t].toArray } } := I1.laid (t' := s1.toks) (fun b u e => Heap.get?_push_of_some _ e) (Nat.le_refl _) ⟨(by show 1 ≤ sizeLine; decide), [.int i t], .cons ⟨t, rfl⟩ .nil, ⟨_, Heap.get?_push_size _ rfl, rfl, _, rfl⟩⟩
  have hfr : ∀ y ∈ scope.names, y.2 = .free → ∃ c, X.env.cells.lookup y.1 = some c := fun y hy e => (hfree y hy e).elim (fun z => I.ok.has _ (.inl z)) fun z => I.ok.has _ (.inr z)
  have hT2 : TabN (upd H s1.heap.objs.size (.tup [.int i])) P nm := hT.ext fun b o e => (upd_ne (ne_of_none e hf)).trans e
  have hTP : s1.heap.objs.size ≠ P := fun z => by
    obtain ⟨ps, hP, _⟩ := hT
    rw [z, hP] at hf
    cases hf
  refine lam_tail I2 TB hcode hn hT2 hfr fun f c' H1 s' I1 k0 k1 T1 f0 f1 c1 nw => ?_
  refine ⟨.ref f, H1, I1, rfl, h f c' s1.heap.objs.size H1 (fun b o n e => k0 b o n ((upd_ne (ne_of_none e hf)).trans e)) (fun b e => upd_none (k1 b e)) T1 (upd_none f0) hf (k0 _ _ hTP upd_same) f1 c1 (fun b o e n => ?_)⟩
  by_cases q : b = s1.heap.objs.size
  · exact .inr (.inr q)
  · rcases nw b o e ((upd_ne q).trans n) with z | z
    · exact .inl z
    · exact .inr (.inl z)
end
/-! ### calls -/
section
variable {CX : CXT} {P : Program} {w : World} {K : PySem.W.Frag} {mg : Str → Option Value} {base : Heap} {N ps fr : List Str} {F : NF} {e : Expr} {dV : Value} {f : Addr} {k : Nat} {tb : List (Option V) → XK → TE}
/-- the lambda at f, called without arguments, at every state where its cells hold ws -/
def LOk (CX : CXT) (P : Program) (w : World) (K : PySem.W.Frag) (mg : Str → Option Value) (base : Heap) (k : Nat) (f : Addr) (F : NF) (e : Expr) (dV : Value) (fr : List Str) (ws : List (Option V)) (Z : Hp → Prop) (sp : Hp → VK → XK → Prop) : Prop :=
  ∀ (A : Around) (outer : List Env) (s : Shared) (H : Hp) (Q : VK) (E : XK), Room k A → Env0 P w K mg base A outer s H → H f = some (LamO f F e dV) → H F.c = some (CodeO F.c F.qual) → Z H → CellsAt F.cl fr ws s.heap H → sp H Q E →
    codeAny (model P w) A (.call (.ref f) ⟨[], []⟩) (CR CX outer P w H s Q E) s
theorem lok_of {vs : List V} {Z : Hp → Prop} {ws : List (Option V)} {sp : Hp → VK → XK → Prop} (S : NScope N ps fr F.scope) (hl : vs.length = ps.length)
    (hb : ∀ (doc pm ctv : Value) (s : Shared) (H : Hp), HOk P w H s.heap → Z H → ∃ us, Vals vs us ∧ BindsTo s (lfd F e dV doc pm ctv) ⟨[], []⟩ (ps.zip us))
    (hbody : ∀ (A : Around) (outer : List Env) (s : Shared) (H : Hp) (Q : VK) (E : XK), Room k (A.deeper (envF F f s.heap.objs.size)) → sp H Q E → ∃ tb, PE (ncx CX P w K mg base N F f A outer s H E) e tb ∧ tb (startF N vs ws) H Q) : LOk CX P w K mg base (k + 1) f F e dV fr ws Z sp := by
  intro A outer s H Q E hr e0 hf hc hZ C hsp
  have lim : s.heap.NoLimit := e0.mod.nolimit.keeps fun b o e => (e0.bs b o e).1
  obtain ⟨od, sl, doc, pm, ctv, ho⟩ := lamO_at e0.hok hf
  obtain ⟨us, r, hbd⟩ := hb doc pm ctv s H e0.hok hZ
  refine PySem.W.kla_callFunE hr.depth ho rfl S.co S.gen rfl (codeO_at e0.hok hc) (hbd _ _ _ _ ?_)
  refine wpAny_newFunctionEnv S.nocell (fun ⟨n, _⟩ hy => S.par n (List.of_mem_zip hy).1) (fun h₁ hns hsb => ⟨lim.fresh _ hsb, ?_⟩) S.kind
  show codeAny _ _ (.expr e (envF F f s.heap.objs.size)) _ _
  have kp : ∀ b o, s.heap.get? b = some o → h₁.get? b = some o := fun b o e => hsb.extBut b o (Nat.ne_of_lt (Heap.lt_size e)) (Heap.get?_push_of_some _ e)
  obtain ⟨tb, ht, hq⟩ := hbody A outer s H Q E (hr.deeper _) hsp
  have I : Inv (ncx CX P w K mg base N F f A outer s H E) [] (startF N vs ws) H { s with heap := h₁, toks := s.toks + (ps.zip us).length } := inv_startN S hr.hd e0 hl r C hns kp
  refine PySem.W.kla_codeExpr (wpAny_mono (ht.run [] _ (startF N vs ws) H Q I hq) (fun v s' hq => ?_) fun e s' hq => hq)
  obtain ⟨w', H', J', rv, q⟩ := hq
  exact ⟨w', H', J'.os, J'.bare, J'.base, J'.hok, rv, q⟩
end
end Lm

set_option Elab.async false
set_option linter.all false
set_option maxRecDepth 100000
set_option maxHeartbeats 4000000
/-! Symbolic values and a symbolic memory: tuples are values, lists, dicts, instances are owned cells of the memory; F (hidden) is the part of the abstract heap that no longer changes. -/
namespace Sy
open PySem PySem.Spec PyProof.Rows L2
inductive SV where
  | non | bl (b : Bool) | int (i : Int) | str (x : Str) | tup (xs : List SV) | lst (xs : List SV) | ref (a : Addr) | ty (n : String) | kt (k : List Key) | ptup (xs : List SV)
inductive MO where
  | lst (xs : List SV) | dK (kvs : List (Key × SV)) | dT (kvs : List (List Key × SV)) | ins (C : Addr) (fs : List (Str × SV)) | box (c : Addr) | bxi | tab (nm : Nat → Nat → Str) | lam (mk : Addr → NdefX.NF) (e : Expr) (d : Option Int) | pred (ψ : Hp → Hp → Prop) | xd (fs : List (Str × SV)) | raw (o : HO) | lk (o : HO) (kvs : List (List Key × SV))
abbrev Mem := Addr → Option MO
def up (m : Mem) (a : Addr) (o : MO) : Mem := fun b => if b = a then some o else m b
theorem up_same {m : Mem} {a : Addr} {o : MO} : up m a o a = some o := by unfold up; rw [if_pos rfl]
theorem up_ne {m : Mem} {a b : Addr} {o : MO} (h : b ≠ a) : up m a o b = m b := by unfold up; rw [if_neg h]
theorem up_up {m : Mem} {a : Addr} {o u : MO} : up (up m a o) a u = up m a u := by
  funext b; unfold up; split <;> rfl
theorem up_comm {m : Mem} {a b : Addr} {o u : MO} (h : a ≠ b) : up (up m a o) b u = up (up m b u) a o := by
  funext c; unfold up
  by_cases h1 : c = b
  · subst h1; rw [if_pos rfl, if_neg (Ne.symm h), if_pos rfl]
  · rw [if_neg h1]
    by_cases h2 : c = a
    · rw [if_pos h2, if_pos h2]
    · rw [if_neg h2, if_neg h2, if_neg h1]
theorem up_id {m : Mem} {a : Addr} {o : MO} (h : m a = some o) : up m a o = m := by
  funext b; unfold up; split
  · next e => rw [e, h]
  · rfl
theorem mne {m : Mem} {a b : Addr} {o : MO} (h : m a = some o) (n : m b = none) : a ≠ b := fun e => by rw [e, n] at h; cases h
def Le (a m : Mem) : Prop := ∀ b o, a b = some o → m b = some o
theorem Le.refl (m : Mem) : Le m m := fun _ _ h => h
theorem Le.trans {a b c : Mem} (h : Le a b) (k : Le b c) : Le a c := fun x o e => k x o (h x o e)
theorem Le.new {a m : Mem} {p : Addr} {o : MO} (h : Le a m) (n : m p = none) : Le a (up m p o) := fun x u e => by
  have e2 := h x u e
  rw [up_ne (mne e2 n)]
  exact e2
theorem Le.put {a m : Mem} {p : Addr} {o : MO} (h : Le a m) : Le (up a p o) (up m p o) := fun x u e => by
  by_cases q : x = p
  · subst q; rw [up_same] at e ⊢; exact e
  · rw [up_ne q] at e ⊢; exact h x u e
theorem Le.none {a m : Mem} {p : Addr} (h : Le a m) (n : m p = none) : a p = none := by
  cases q : a p with
  | none => rfl
  | some o => rw [h p o q] at n; cases n
inductive Fg (P : Mem → Prop) (m : Mem) : Prop where
  | mk (a : Mem) (l : Le a m) (h : P a) : Fg P m
theorem Fg.of {P : Mem → Prop} {m : Mem} (h : P m) : Fg P m := ⟨m, .refl m, h⟩
/-- frozen parts -/
def Sub (F H : Hp) : Prop := ∀ a o, F a = some o → H a = some o
theorem Sub.refl (H : Hp) : Sub H H := fun _ _ h => h
theorem Sub.trans {F G H : Hp} (a : Sub F G) (b : Sub G H) : Sub F H := fun x o h => b x o (a x o h)
theorem Sub.gone {F H : Hp} (e : Sub F H) {p : Addr} (h : H p = none) : F p = none := by
  cases q : F p with
  | none => rfl
  | some o => rw [e p o q] at h; cases h
theorem Sub.new {F : Hp} {p : Addr} {o : HO} (h : F p = none) : Sub F (upd F p o) := fun a u e => by
  rw [upd_ne (ne_of_none e h)]; exact e
theorem Sub.upd2 {F H : Hp} {p : Addr} {o : HO} (e : Sub F H) : Sub (upd F p o) (upd H p o) := fun a u h => by
  by_cases ha : a = p
  · subst ha; rw [upd_same] at h ⊢; exact h
  · rw [upd_ne ha] at h ⊢; exact e a u h
theorem Sub.free {F H : Hp} {p : Addr} {o : HO} (e : Sub F H) (h : F p = none) : Sub F (upd H p o) := fun a u ha => by
  rw [upd_ne (ne_of_none ha h)]; exact e a u ha
theorem sql_sub {K : PySem.W.Frag} {F H : Hp} {a : Addr} {xs : List V} (e : Sub F H) (h : SqL K F a xs) : SqL K H a xs := by
  rcases h with (h | ⟨o, h⟩) | h
  · exact .inl (.inl (e _ _ h))
  · exact .inl (.inr ⟨o, e _ _ h⟩)
  · exact .inr h
theorem sqt_sub {K : PySem.W.Frag} {F H : Hp} {a : Addr} {xs : List V} (e : Sub F H) (h : SqT K F a xs) : SqT K H a xs := by
  rcases h with (h | ⟨o, h⟩) | h
  · exact .inl (.inl (e _ _ h))
  · exact .inl (.inr ⟨o, e _ _ h⟩)
  · exact .inr h
/-! ### values -/
mutual
inductive VR (K : PySem.W.Frag) (F : Hp) : V → SV → Prop
  | non : VR K F .non .non
  | bl (b : Bool) : VR K F (.bl b) (.bl b)
  | int (i : Int) : VR K F (.int i) (.int i)
  | str (x : Str) : VR K F (.str x) (.str x)
  | ty (n : String) : VR K F (.ty n) (.ty n)
  | ref (a : Addr) : VR K F (.ref a) (.ref a)
  | tup {a : Addr} {vs : List V} {xs : List SV} : SqT K F a vs → VRs K F vs xs → VR K F (.ref a) (.tup xs)
  | lst {a : Addr} {vs : List V} {xs : List SV} : SqL K F a vs → VRs K F vs xs → VR K F (.ref a) (.lst xs)
  | kt {a : Addr} {k : List Key} : F a = some (.tup (k.map kV)) → VR K F (.ref a) (.kt k)
  | ptup {a : Addr} {o : Obj} {vs : List V} {xs : List SV} : F a = some (.frz o (.tup vs)) → o.dict = none → VRs K F vs xs → VR K F (.ref a) (.ptup xs)
inductive VRs (K : PySem.W.Frag) (F : Hp) : List V → List SV → Prop
  | nil : VRs K F [] []
  | cons {v : V} {x : SV} {vs : List V} {xs : List SV} : VR K F v x → VRs K F vs xs → VRs K F (v :: vs) (x :: xs)
end
mutual
theorem vr_sub {K : PySem.W.Frag} {F H : Hp} (e : Sub F H) : ∀ {v : V} {d : SV}, VR K F v d → VR K H v d
  | _, _, .non => .non
  | _, _, .bl b => .bl b
  | _, _, .int i => .int i
  | _, _, .str x => .str x
  | _, _, .ty x => .ty x
  | _, _, .ref x => .ref x
  | _, _, .lst h a => .lst (sql_sub e h) (vrs_sub e a)
  | _, _, .tup h a => .tup (sqt_sub e h) (vrs_sub e a)
  | _, _, .kt h => .kt (e _ _ h)
  | _, _, .ptup h n a => .ptup (e _ _ h) n (vrs_sub e a)
theorem vrs_sub {K : PySem.W.Frag} {F H : Hp} (e : Sub F H) : ∀ {vs : List V} {ds : List SV}, VRs K F vs ds → VRs K H vs ds
  | _, _, .nil => .nil
  | _, _, .cons a b => .cons (vr_sub e a) (vrs_sub e b)
end
section
variable {K : PySem.W.Frag} {F H : Hp}
theorem vrs_length : ∀ {vs : List V} {ds : List SV}, VRs K F vs ds → vs.length = ds.length
  | _, _, .nil => rfl
  | _, _, .cons _ b => by rw [List.length_cons, List.length_cons, vrs_length b]
theorem vrs_get : ∀ {vs : List V} {ds : List SV} {i : Nat} {d : SV}, VRs K F vs ds → ds[i]? = some d → ∃ v, vs[i]? = some v ∧ VR K F v d
  | _, _, _, _, .nil, e => by simp at e
  | _, _, 0, _, .cons r _, e => by simp at e; subst e; exact ⟨_, rfl, r⟩
  | _, _, i + 1, d, .cons _ t, e => by
    obtain ⟨u, h1, h2⟩ := vrs_get (i := i) (d := d) t (by simpa using e)
    exact ⟨u, by simpa using h1, h2⟩
theorem vrs_getV : ∀ {vs : List V} {ds : List SV} {i : Nat} {v : V}, VRs K F vs ds → vs[i]? = some v → ∃ d, ds[i]? = some d ∧ VR K F v d
  | _, _, _, _, .nil, e => by simp at e
  | _, _, 0, _, .cons r _, e => by simp at e; subst e; exact ⟨_, rfl, r⟩
  | _, _, i + 1, v, .cons _ t, e => by
    obtain ⟨u, h1, h2⟩ := vrs_getV (i := i) (v := v) t (by simpa using e)
    exact ⟨u, by simpa using h1, h2⟩
theorem vrs_append : ∀ {vs ws : List V} {ds es : List SV}, VRs K F vs ds → VRs K F ws es → VRs K F (vs ++ ws) (ds ++ es)
  | _, _, _, _, .nil, s => s
  | _, _, _, _, .cons r t, s => .cons r (vrs_append t s)
theorem vrs_take : ∀ {vs : List V} {ds : List SV} (n : Nat), VRs K F vs ds → VRs K F (vs.take n) (ds.take n)
  | _, _, 0, _ => .nil
  | _, _, _ + 1, .nil => .nil
  | _, _, n + 1, .cons r t => .cons r (vrs_take n t)
theorem vrs_drop : ∀ {vs : List V} {ds : List SV} (n : Nat), VRs K F vs ds → VRs K F (vs.drop n) (ds.drop n)
  | _, _, 0, r => r
  | _, _, _ + 1, .nil => .nil
  | _, _, n + 1, .cons _ t => vrs_drop n t
theorem vrs_set : ∀ {vs : List V} {ds : List SV} {v : V} {d : SV} (n : Nat), VRs K F vs ds → VR K F v d → VRs K F (vs.set n v) (ds.set n d)
  | _, _, _, _, _, .nil, _ => .nil
  | _, _, _, _, 0, .cons _ t, r => .cons r t
  | _, _, _, _, n + 1, .cons q t, r => .cons q (vrs_set n t r)
theorem vrs_erase : ∀ {vs : List V} {ds : List SV} (n : Nat), VRs K F vs ds → VRs K F (vs.eraseIdx n) (ds.eraseIdx n)
  | _, _, _, .nil => .nil
  | _, _, 0, .cons _ t => t
  | _, _, n + 1, .cons q t => .cons q (vrs_erase n t)
theorem vrs_ints : ∀ {vs : List V} {ns : List Int}, VRs K F vs (ns.map SV.int) → vs = ns.map V.int
  | _, [], .nil => rfl
  | _, _ :: _, .cons (.int _) t => by rw [vrs_ints t]; rfl
theorem vrs_of_ints : ∀ (ns : List Int), VRs K F (ns.map V.int) (ns.map SV.int)
  | [] => .nil
  | _ :: r => .cons (.int _) (vrs_of_ints r)
theorem vrs_bls : ∀ {vs : List V} {ns : List Bool}, VRs K F vs (ns.map SV.bl) → vs = ns.map V.bl
  | _, [], .nil => rfl
  | _, _ :: _, .cons (.bl _) t => by rw [vrs_bls t]; rfl
theorem vr_int {v : V} {i : Int} (h : VR K F v (.int i)) : v = .int i := by cases h; rfl
theorem vr_bl {v : V} {i : Bool} (h : VR K F v (.bl i)) : v = .bl i := by cases h; rfl
theorem vr_str {v : V} {i : Str} (h : VR K F v (.str i)) : v = .str i := by cases h; rfl
theorem vr_ref {v : V} {a : Addr} (h : VR K F v (.ref a)) : v = .ref a := by cases h; rfl
theorem vr_ty {v : V} {n : String} (h : VR K F v (.ty n)) : v = .ty n := by cases h; rfl
end
/-- keyed values -/
inductive KR {κ : Type} (K : PySem.W.Frag) (F : Hp) : List (κ × V) → List (κ × SV) → Prop
  | nil : KR K F [] []
  | cons {k : κ} {v : V} {x : SV} {vs : List (κ × V)} {xs : List (κ × SV)} : VR K F v x → KR K F vs xs → KR K F ((k, v) :: vs) ((k, x) :: xs)
section
variable {K : PySem.W.Frag} {F H : Hp} {κ : Type}
theorem kr_sub (e : Sub F H) : ∀ {vs : List (κ × V)} {xs : List (κ × SV)}, KR K F vs xs → KR K H vs xs
  | _, _, .nil => .nil
  | _, _, .cons a b => .cons (vr_sub e a) (kr_sub e b)
theorem kr_lookup [BEq κ] : ∀ {vs : List (κ × V)} {xs : List (κ × SV)} {k : κ}, KR K F vs xs → match xs.lookup k with | some x => ∃ v, vs.lookup k = some v ∧ VR K F v x | none => vs.lookup k = none
  | _, _, _, .nil => rfl
  | (k', v) :: vs, (_, x) :: xs, k, .cons r t => by
    rw [List.lookup_cons, List.lookup_cons]
    cases k == k' with
    | true => exact ⟨v, rfl, r⟩
    | false => exact kr_lookup t
end
/-! ### the memory -/
/-- what never changes where it stands -/
def Still : HO → Prop
  | .ext _ => True
  | .tup _ => True
  | .own _ => True
  | _ => False
def MOR (K : PySem.W.Frag) (F H : Hp) (m : Mem) (a : Addr) : MO → Prop
  | .lst xs => ∃ vs, H a = some (.lst vs) ∧ VRs K F vs xs
  | .dK kvs => ∃ us, H a = some (.dK us) ∧ KR K F us kvs
  | .dT kvs => ∃ us, H a = some (.dT us) ∧ KR K F us kvs
  | .ins C fs => ∃ dx us, H a = some (.ins C dx us) ∧ H dx = some (.own a) ∧ F dx = none ∧ m dx = none ∧ KR K F us fs
  | .xd fs => ∃ us, H a = some (.xd us) ∧ KR K F us fs
  | .box c => ∃ sv : Int, H a = some (.lst [.ref c, .int sv])
  | .bxi => ∃ ns : List Int, H a = some (.lst (ns.map V.int)) ∧ ns.length ≤ 63
  | .tab nm => NdefX.TabN H a nm
  | .lam mk e d => ∃ (c : Addr) (dV : Value), H a = some (Lm.LamO a (mk c) e dV) ∧ H c = some (LamX.CodeO (mk c).c (mk c).qual) ∧ (mk c).c = c ∧ (match d with | none => dV = .none | some i => ∃ T, dV = .ref T ∧ H T = some (.tup [.int i]))
  | .pred ψ => (∃ u, H a = some u ∧ Still u ∧ ∀ xs, u ≠ .tup xs) ∧ ∀ F' H', Sub F F' → (∀ b u, H b = some u → Still u → H' b = some u) → ψ F' H'
  | .raw o => H a = some o ∧ ∀ xs, o ≠ .tup xs
  | .lk o kvs => H a = some o ∧ ∃ od us, o = .frz od (.dT us) ∧ KR K F us kvs
structure MR (K : PySem.W.Frag) (F H : Hp) (m : Mem) : Prop where
  sub : Sub F H
  at_ : ∀ a o, m a = some o → F a = none ∧ MOR K F H m a o
section
variable {K : PySem.W.Frag} {F H F' H' : Hp} {m m' : Mem} {a p : Addr} {o : MO} {ho : HO}
theorem mor_some : ∀ {o : MO}, MOR K F H m a o → ∃ u, H a = some u
  | .lst _, ⟨_, h, _⟩ => ⟨_, h⟩
  | .dK _, ⟨_, h, _⟩ => ⟨_, h⟩
  | .dT _, ⟨_, h, _⟩ => ⟨_, h⟩
  | .ins _ _, ⟨_, _, h, _⟩ => ⟨_, h⟩
  | .xd _, ⟨_, h, _⟩ => ⟨_, h⟩
  | .box _, ⟨_, h⟩ => ⟨_, h⟩
  | .bxi, ⟨_, h, _⟩ => ⟨_, h⟩
  | .tab _, ⟨_, h, _⟩ => ⟨_, h⟩
  | .lam _ _ _, ⟨_, _, h, _⟩ => ⟨_, h⟩
  | .pred _, ⟨⟨u, h, _⟩, _⟩ => ⟨u, h⟩
  | .raw _, h => ⟨_, h.1⟩
  | .lk _ _, h => ⟨_, h.1⟩
theorem MR.have_ (M : MR K F H m) (h : m a = some o) : ∃ u, H a = some u := mor_some (M.at_ a o h).2
theorem MR.gone (M : MR K F H m) (h : H p = none) : m p = none := by
  cases q : m p with
  | none => rfl
  | some o =>
    obtain ⟨u, z⟩ := M.have_ q
    rw [h] at z; cases z
/-- another frame: what is tracked stays as it is, the frozen part grows where nothing is owned -/
theorem mor_keep (sF : Sub F F') (hm : ∀ b, m b = none → (∀ o', m' b = some o' → False) ∨ b = p) (hH : ∀ b u, b ≠ p → H b = some u → H' b = some u) (hp : ∀ u, H p = some u → ¬ Still u)
    (hF : ∀ b u, H b = some u → F b = none → F' b = none) : ∀ {o : MO}, a ≠ p → MOR K F H m a o → MOR K F' H' m' a o := fun {o} n h => by
  have key : ∀ b u, H b = some u → m b = none → b ≠ p → m' b = none := fun b u hb mb np => by
    cases q : m' b with
    | none => rfl
    | some o' =>
      rcases hm b mb with z | z
      · exact (z o' q).elim
      · exact (np z).elim
  have still : ∀ b u, H b = some u → Still u → H' b = some u := fun b u e1 e2 => hH b u (fun z => hp u (by rw [← z]; exact e1) e2) e1
  cases o with
  | lst xs => obtain ⟨vs, h1, h2⟩ := h; exact ⟨vs, hH _ _ n h1, vrs_sub sF h2⟩
  | dK xs => obtain ⟨vs, h1, h2⟩ := h; exact ⟨vs, hH _ _ n h1, kr_sub sF h2⟩
  | dT xs => obtain ⟨vs, h1, h2⟩ := h; exact ⟨vs, hH _ _ n h1, kr_sub sF h2⟩
  | xd xs => obtain ⟨vs, h1, h2⟩ := h; exact ⟨vs, hH _ _ n h1, kr_sub sF h2⟩
  | ins C fs =>
    obtain ⟨dx, us, h1, h2, h3, h4, h5⟩ := h
    have nd : dx ≠ p := fun z => by subst z; exact hp _ h2 trivial
    exact ⟨dx, us, hH _ _ n h1, hH _ _ nd h2, hF _ _ h2 h3, key _ _ h2 h4 nd, kr_sub sF h5⟩
  | box c => obtain ⟨sv, h1⟩ := h; exact ⟨sv, hH _ _ n h1⟩
  | bxi => obtain ⟨ns, h1, h2⟩ := h; exact ⟨ns, hH _ _ n h1, h2⟩
  | tab nm =>
    obtain ⟨ps, h1, h2, h3⟩ := h
    refine ⟨ps, hH _ _ n h1, h2, fun pos cv hc => ?_⟩
    obtain ⟨c, e1, e2⟩ := h3 pos cv hc
    exact ⟨c, e1, still _ _ e2 trivial⟩
  | lam mk e d =>
    obtain ⟨c, dV, h1, h2, h3, h4⟩ := h
    refine ⟨c, dV, hH _ _ n h1, still _ _ h2 trivial, h3, ?_⟩
    cases d with
    | none => exact h4
    | some i =>
      obtain ⟨T, e1, e2⟩ := h4
      exact ⟨T, e1, still _ _ e2 trivial⟩
  | pred ψ =>
    obtain ⟨⟨u, h1, h2⟩, h3⟩ := h
    exact ⟨⟨u, hH _ _ n h1, h2⟩, fun F2 H2 s2 k2 => h3 F2 H2 (sF.trans s2) fun b u' e1 e2 => k2 b u' (still b u' e1 e2) e2⟩
  | raw u => exact ⟨hH _ _ n h.1, h.2⟩
  | lk u kvs =>
    obtain ⟨h1, od, us, h2, h3⟩ := h
    exact ⟨hH _ _ n h1, od, us, h2, kr_sub sF h3⟩
/-- an owned cell changes -/
theorem MR.put {o0 : MO} (M : MR K F H m) (h0 : m a = some o0) (hown : ∀ u, H a = some u → ¬ Still u) (n : MOR K F (upd H a ho) (up m a o) a o) : MR K F (upd H a ho) (up m a o) where
  sub := M.sub.free (M.at_ a o0 h0).1
  at_ := fun b u hb => by
    by_cases e : b = a
    · subst e
      rw [up_same] at hb; cases hb
      exact ⟨(M.at_ b o0 h0).1, n⟩
    · rw [up_ne e] at hb
      refine ⟨(M.at_ b u hb).1, mor_keep (p := a) (.refl F) (fun c hc => ?_) (fun c u q1 q2 => (upd_ne q1).trans q2) hown (fun _ _ _ z => z) e (M.at_ b u hb).2⟩
      by_cases e2 : c = a
      · exact .inr e2
      · exact .inl fun o' z => by rw [up_ne e2, hc] at z; cases z
/-- an owned cell is told of in another way -/
theorem MR.reab {o0 : MO} (M : MR K F H m) (h0 : m a = some o0) (hown : ∀ u, H a = some u → ¬ Still u) (n : MOR K F H (up m a o) a o) : MR K F H (up m a o) where
  sub := M.sub
  at_ := fun b u hb => by
    by_cases e : b = a
    · subst e
      rw [up_same] at hb; cases hb
      exact ⟨(M.at_ b o0 h0).1, n⟩
    · rw [up_ne e] at hb
      refine ⟨(M.at_ b u hb).1, mor_keep (p := a) (.refl F) (fun c hc => ?_) (fun c u q1 q2 => q2) hown (fun _ _ _ z => z) e (M.at_ b u hb).2⟩
      by_cases e2 : c = a
      · exact .inr e2
      · exact .inl fun o' z => by rw [up_ne e2, hc] at z; cases z
/-- a thing that stands already is owned from now on -/
theorem MR.adopt (M : MR K F H m) (h0 : m a = none) (hF : F a = none) (hn : ∀ x, H a ≠ some (.own x)) (n : MOR K F H (up m a o) a o) : MR K F H (up m a o) where
  sub := M.sub
  at_ := fun b u hb => by
    by_cases e : b = a
    · subst e
      rw [up_same] at hb; cases hb
      exact ⟨hF, n⟩
    · rw [up_ne e] at hb
      obtain ⟨z1, z2⟩ := M.at_ b u hb
      refine ⟨z1, ?_⟩
      cases u with
      | ins C fs =>
        obtain ⟨dx, us, h1, h2, h3, h4, h5⟩ := z2
        exact ⟨dx, us, h1, h2, h3, by rw [up_ne (fun q => hn _ (by rw [← q]; exact h2))]; exact h4, h5⟩
      | _ => exact z2
/-- a lambda's making: the table at P grows, other things stay -/
theorem MR.table {P : Addr} {nm : Nat → Nat → Str} {H1 : Hp} (M : MR K F H m) (hP : m P = some (.tab nm)) (k : ∀ b o, b ≠ P → H b = some o → H1 b = some o) (t : NdefX.TabN H1 P nm) : MR K F H1 m where
  sub := fun b o e => k b o (fun z => by rw [z, (M.at_ P _ hP).1] at e; cases e) (M.sub b o e)
  at_ := fun b u hb => by
    obtain ⟨z1, z2⟩ := M.at_ b u hb
    refine ⟨z1, ?_⟩
    by_cases e : b = P
    · subst e
      rw [hP] at hb; cases hb
      exact t
    · exact mor_keep (p := P) (.refl F) (fun c hc => .inl fun o' z => by rw [hc] at z; cases z) (fun c u q1 q2 => k c u q1 q2) (fun u hu => by
        obtain ⟨ps, h1, _⟩ := (M.at_ P _ hP).2
        rw [h1] at hu; cases hu; exact fun z => z) (fun _ _ _ z => z) e z2
/-- a new owned cell -/
theorem MR.new_ (M : MR K F H m) (hp : H p = none) (n : MOR K F (upd H p ho) (up m p o) p o) : MR K F (upd H p ho) (up m p o) where
  sub := M.sub.free (M.sub.gone hp)
  at_ := fun b u hb => by
    by_cases e : b = p
    · subst e
      rw [up_same] at hb; cases hb
      exact ⟨M.sub.gone hp, n⟩
    · rw [up_ne e] at hb
      refine ⟨(M.at_ b u hb).1, mor_keep (p := p) (.refl F) (fun c hc => ?_) (fun c u q1 q2 => (upd_ne q1).trans q2) (fun u z => by rw [hp] at z; cases z) (fun _ _ _ z => z) e (M.at_ b u hb).2⟩
      by_cases e2 : c = p
      · exact .inr e2
      · exact .inl fun o' z => by rw [up_ne e2, hc] at z; cases z
/-- a new thing that isn't told of -/
theorem MR.hid (M : MR K F H m) (hp : H p = none) : MR K F (upd H p ho) m where
  sub := M.sub.free (M.sub.gone hp)
  at_ := fun b u hb => ⟨(M.at_ b u hb).1, mor_keep (p := p) (.refl F) (fun c hc => .inl fun o' z => by rw [hc] at z; cases z) (fun c u q1 q2 => (upd_ne q1).trans q2) (fun u z => by rw [hp] at z; cases z) (fun _ _ _ z => z) (fun e => by
    subst e
    obtain ⟨u, z⟩ := M.have_ hb
    rw [hp] at z; cases z) (M.at_ b u hb).2⟩
/-- a new frozen thing -/
theorem MR.frz (M : MR K F H m) (hp : H p = none) : MR K (upd F p ho) (upd H p ho) m where
  sub := M.sub.upd2
  at_ := fun b u hb => by
    have nb : b ≠ p := fun e => by
      subst e
      obtain ⟨u, z⟩ := M.have_ hb
      rw [hp] at z; cases z
    exact ⟨(upd_ne nb).trans (M.at_ b u hb).1, mor_keep (p := p) (Sub.new (M.sub.gone hp)) (fun c hc => .inl fun o' z => by rw [hc] at z; cases z) (fun c u q1 q2 => (upd_ne q1).trans q2) (fun u z => by rw [hp] at z; cases z) 
      (fun c u q1 q2 => (upd_ne (ne_of_none q1 hp)).trans q2) nb (M.at_ b u hb).2⟩
/-- cells are forgotten -/
theorem MR.drop (M : MR K F H m) (h : ∀ b o, m' b = some o → m b = some o) : MR K F H m' where
  sub := M.sub
  at_ := fun b u hb => by
    have z := M.at_ b u (h b u hb)
    refine ⟨z.1, ?_⟩
    have w := z.2
    have key : ∀ c, m c = none → m' c = none := fun c hc => by
      cases q : m' c with
      | none => rfl
      | some o' => rw [h c o' q] at hc; cases hc
    cases u with
    | ins C fs => obtain ⟨dx, us, h1, h2, h3, h4, h5⟩ := w; exact ⟨dx, us, h1, h2, h3, key _ h4, h5⟩
    | _ => exact w
def del (m : Mem) (a : Addr) : Mem := fun b => if b = a then none else m b
theorem MR.lst_ {xs : List SV} (M : MR K F H m) (h : m a = some (.lst xs)) : ∃ vs, H a = some (.lst vs) ∧ VRs K F vs xs := (M.at_ a _ h).2
theorem MR.nown {xs : List SV} (M : MR K F H m) (h : m a = some (.lst xs)) : ∀ u, H a = some u → ¬ Still u := fun u hu x => by
  obtain ⟨vs, z, _⟩ := M.lst_ h
  rw [z] at hu; cases hu; exact x
/-- a list gets another content -/
theorem MR.setL {xs ys : List SV} {ws : List V} (M : MR K F H m) (h : m a = some (.lst xs)) (r : VRs K F ws ys) : MR K F (upd H a (.lst ws)) (up m a (.lst ys)) := M.put h (M.nown h) ⟨ws, upd_same, r⟩
theorem MR.newL {ys : List SV} {ws : List V} (M : MR K F H m) (hp : H p = none) (r : VRs K F ws ys) : MR K F (upd H p (.lst ws)) (up m p (.lst ys)) := M.new_ hp ⟨ws, upd_same, r⟩
end
/-! ### slots -/
abbrev DS := List (Option SV)
structure SR (K : PySem.W.Frag) (F : Hp) (σ : L2.St) (δ : DS) : Prop where
  len : σ.length = δ.length
  at_ : ∀ (i : Nat) (d : SV), δ[i]? = some (some d) → ∃ v, σ[i]? = some (some v) ∧ VR K F v d
section
variable {K : PySem.W.Frag} {F F' H : Hp} {σ : L2.St} {δ : DS}
theorem SR.sub (h : SR K F σ δ) (s : Sub F F') : SR K F' σ δ := ⟨h.len, fun i d e => by
  obtain ⟨v, h1, h2⟩ := h.at_ i d e
  exact ⟨v, h1, vr_sub s h2⟩⟩
theorem SR.set {i : Nat} {v : V} {d : SV} (h : SR K F σ δ) (dv : VR K F v d) : SR K F (σ.set i (some v)) (δ.set i (some d)) := ⟨by rw [List.length_set, List.length_set]; exact h.len, fun j e hj => by
  by_cases hji : i = j
  · subst hji
    by_cases hl : i < δ.length
    · rw [List.getElem?_set_self hl] at hj
      cases hj
      exact ⟨v, List.getElem?_set_self (by rw [h.len]; exact hl), dv⟩
    · rw [List.getElem?_eq_none (by rw [List.length_set]; omega)] at hj
      cases hj
  · rw [List.getElem?_set_ne hji] at hj ⊢
    exact h.at_ j e hj⟩
theorem SR.setNo {i : Nat} {v : Option V} (h : SR K F σ δ) : SR K F (σ.set i v) (δ.set i none) := ⟨by rw [List.length_set, List.length_set]; exact h.len, fun j e hj => by
  by_cases hji : i = j
  · subst hji
    by_cases hl : i < δ.length
    · rw [List.getElem?_set_self hl] at hj
      cases hj
    · rw [List.getElem?_eq_none (by rw [List.length_set]; omega)] at hj
      cases hj
  · rw [List.getElem?_set_ne hji] at hj ⊢
    exact h.at_ j e hj⟩
def wipeD (δ : DS) : List Nat → DS
  | [] => δ
  | v :: vs => (wipeD δ vs).set v none
theorem SR.wipe (h : SR K F σ δ) : ∀ vs : List Nat, SR K F (L2.wipe σ vs) (wipeD δ vs)
  | [] => h
  | _ :: vs => (h.wipe vs).setNo
def startD (n : Nat) (ds : List SV) : DS := ds.map some ++ List.replicate (n - ds.length) none
theorem SR.start {N : List Str} {vs : List V} {ds : List SV} (h : VRs K F vs ds) : SR K F (L2.start N vs) (startD N.length ds) := ⟨by
  unfold L2.start startD
  rw [List.length_append, List.length_append, List.length_map, List.length_map, List.length_replicate, List.length_replicate, vrs_length h], fun i d e => by
  unfold startD at e
  unfold L2.start
  by_cases hi : i < ds.length
  · rw [List.getElem?_append_left (by rw [List.length_map]; exact hi), List.getElem?_map] at e
    obtain ⟨d', h1, h2⟩ := Option.map_eq_some_iff.mp e
    cases h2
    obtain ⟨v, h3, h4⟩ := vrs_get h h1
    refine ⟨v, ?_, h4⟩
    rw [List.getElem?_append_left (by rw [List.length_map, vrs_length h]; exact hi), List.getElem?_map, h3]
    rfl
  · rw [List.getElem?_append_right (by rw [List.length_map]; omega), List.getElem?_replicate] at e
    split at e <;> cases e⟩
end
end Sy

set_option Elab.async false
set_option linter.all false
set_option maxRecDepth 100000
set_option maxHeartbeats 4000000
/-! Readings told over symbolic values: expressions. -/
namespace Sy
open PySem PySem.Spec PyProof.Rows L2
/-- an exception: its class, its fields (none: no dict of its own) -/
structure XO where
  cls : Addr
  fs : Option (List (Str × SV)) := none
abbrev SXK := XO → Mem → Prop
def XOk (K : PySem.W.Frag) (F H : Hp) (m : Mem) (d : Option Addr) (x : XO) : Prop := match x.fs with
  | none => d = none
  | some fs => ∃ (dd : Addr) (us : List (Str × V)), d = some dd ∧ H dd = some (.xd us) ∧ F dd = none ∧ m dd = none ∧ KR K F us fs
def ExOk (K : PySem.W.Frag) (F : Hp) (E : XK) (SX : SXK) : Prop := ∀ x d F' H' m', Sub F F' → MR K F' H' m' → XOk K F' H' m' d x → SX x m' → E (.ref x.cls) d H'
theorem ExOk.go {K : PySem.W.Frag} {F F' : Hp} {E : XK} {SX : SXK} (h : ExOk K F E SX) (s : Sub F F') : ExOk K F' E SX := fun x d F2 H2 m2 s2 => h x d F2 H2 m2 (s.trans s2)
theorem ExOk.fg {K : PySem.W.Frag} {F : Hp} {E : XK} {SX : SXK} (h : ExOk K F E SX) : ExOk K F E (fun x => Fg (SX x)) := fun x d F' H' m' s M hx ⟨m2, l2, q⟩ => h x d F' H' m2 s (M.drop l2) (by
  unfold XOk at hx ⊢
  cases e : x.fs with
  | none => rw [e] at hx; exact hx
  | some fs =>
    rw [e] at hx
    obtain ⟨dd, us, h1, h2, h3, h4, h5⟩ := hx
    exact ⟨dd, us, h1, h2, h3, l2.none h4, h5⟩) q
/-- the state: slots, memory, the wish of exceptions -/
structure Rl (K : PySem.W.Frag) (E : XK) (σ : L2.St) (F H : Hp) (δ : DS) (m : Mem) (SX : SXK) : Prop where
  sr : SR K F σ δ
  mr : MR K F H m
  ex : ExOk K F E SX
section
variable {K : PySem.W.Frag} {E : XK} {σ σ' : L2.St} {F F' H H' : Hp} {δ δ' : DS} {m m' : Mem} {SX : SXK}
theorem Rl.go (r : Rl K E σ F H δ m SX) (s : Sub F F') (M : MR K F' H' m') : Rl K E σ F' H' δ m' SX := ⟨r.sr.sub s, M, r.ex.go s⟩
end
abbrev SE := SXK → DS → Mem → (SV → Mem → Prop) → Prop
abbrev SA := SXK → DS → Mem → (List SV → Mem → Prop) → Prop
abbrev STt := SXK → DS → Mem → (Bool → Mem → Prop) → Prop
def Cn (K : PySem.W.Frag) (F : Hp) (S : SV → Mem → Prop) (Q : VK) : Prop := ∀ v F' H' sv m', Sub F F' → MR K F' H' m' → VR K F' v sv → S sv m' → Q v H'
def CnA (K : PySem.W.Frag) (F : Hp) (S : List SV → Mem → Prop) (Q : List V → Hp → Prop) : Prop := ∀ v F' H' sv m', Sub F F' → MR K F' H' m' → VRs K F' v sv → S sv m' → Q v H'
def CnT (K : PySem.W.Frag) (F : Hp) (S : Bool → Mem → Prop) (Q : Bool → Hp → Prop) : Prop := ∀ b F' H' m', Sub F F' → MR K F' H' m' → S b m' → Q b H'
theorem Cn.go {K : PySem.W.Frag} {F F' : Hp} {S : SV → Mem → Prop} {Q : VK} (c : Cn K F S Q) (s : Sub F F') : Cn K F' S Q := fun v F2 H2 sv m2 s2 => c v F2 H2 sv m2 (s.trans s2)
theorem CnT.go {K : PySem.W.Frag} {F F' : Hp} {S : Bool → Mem → Prop} {Q : Bool → Hp → Prop} (c : CnT K F S Q) (s : Sub F F') : CnT K F' S Q := fun v F2 H2 m2 s2 => c v F2 H2 m2 (s.trans s2)
def SimE (K : PySem.W.Frag) (E : XK) (te : TE) (se : SE) : Prop := ∀ σ F H δ m SX S Q, Rl K E σ F H δ m SX → se SX δ m S → Cn K F S Q → te σ H Q
def SimA (K : PySem.W.Frag) (E : XK) (te : TA) (se : SA) : Prop := ∀ σ F H δ m SX S Q, Rl K E σ F H δ m SX → se SX δ m S → CnA K F S Q → te σ H Q
def SimT (K : PySem.W.Frag) (E : XK) (te : TT) (se : STt) : Prop := ∀ σ F H δ m SX S Q, Rl K E σ F H δ m SX → se SX δ m S → CnT K F S Q → te σ H Q
structure GE (K : PySem.W.Frag) (E : XK) (X : Cx) (e : Expr) (te : TE) (se : SE) : Prop where
  pe : PE X e te
  sim : SimE K E te se
structure GT (K : PySem.W.Frag) (E : XK) (X : Cx) (e : Expr) (te : TT) (se : STt) : Prop where
  pe : PT X e te
  sim : SimT K E te se
structure GW (K : PySem.W.Frag) (E : XK) (X : Cx) (e : Expr) (te : TT) (se : STt) : Prop where
  pe : PW X e te
  sim : SimT K E te se
structure GA (K : PySem.W.Frag) (E : XK) (X : Cx) (e : List Expr) (te : TA) (se : SA) : Prop where
  pe : PA X e te
  sim : SimA K E te se
abbrev SR2 := SV → SV → Mem → (SV → Mem → Prop) → Prop
def SimR (K : PySem.W.Frag) (r : R2) (s : SR2) : Prop := ∀ F H m x y a b S Q, MR K F H m → VR K F x a → VR K F y b → s a b m S → Cn K F S Q → r x y H Q
abbrev SR1 := SV → Mem → (SV → Mem → Prop) → Prop
def SimU (K : PySem.W.Frag) (r : V → Hp → VK → Prop) (s : SR1) : Prop := ∀ F H m x a S Q, MR K F H m → VR K F x a → s a m S → Cn K F S Q → r x H Q
abbrev SRC := List SV → Mem → (SV → Mem → Prop) → Prop
def SimC (K : PySem.W.Frag) (r : List V → Hp → VK → Prop) (s : SRC) : Prop := ∀ F H m xs as S Q, MR K F H m → VRs K F xs as → s as m S → Cn K F S Q → r xs H Q
abbrev SRM := SV → List SV → Mem → (SV → Mem → Prop) → Prop
def SimM (K : PySem.W.Frag) (r : V → List V → Hp → VK → Prop) (s : SRM) : Prop := ∀ F H m x xs a as S Q, MR K F H m → VR K F x a → VRs K F xs as → s a as m S → Cn K F S Q → r x xs H Q
/-! ### combinators -/
def sVar (i : Nat) : SE := fun _ δ m S => match δ[i]? with
  | some (some v) => S v m
  | _ => False
def sC (v : SV) : SE := fun _ _ m S => S v m
def sOp (r : SR2) (a b : SE) : SE := fun SX δ m S => a SX δ m fun x m1 => b SX δ m1 fun y m2 => r x y m2 S
def sUn (r : SR1) (a : SE) : SE := fun SX δ m S => a SX δ m fun x m1 => r x m1 S
/-- a branch -/
@[irreducible] def Br (b : Bool) (A B : Prop) : Prop := if b = true then A else B
theorem Br_t {A B : Prop} (h : A) : Br true A B := by unfold Br; exact h
theorem Br_f {A B : Prop} (h : B) : Br false A B := by unfold Br; exact h
theorem Br_i {b : Bool} {A B : Prop} (h1 : b = true → A) (h2 : b = false → B) : Br b A B := by
  cases b with
  | true => exact Br_t (h1 rfl)
  | false => exact Br_f (h2 rfl)
theorem Br_eq {b : Bool} {A B : Prop} : Br b A B = (if b = true then A else B) := by unfold Br; rfl
def sB (a : SE) : STt := fun SX δ m S => a SX δ m fun x m1 => match x with
  | .bl b => S b m1
  | _ => False
def sAnd (t u : STt) : STt := fun SX δ m S => t SX δ m fun c m1 => Br c (u SX δ m1 S) (S false m1)
def sOr (t u : STt) : STt := fun SX δ m S => t SX δ m fun c m1 => Br c (S true m1) (u SX δ m1 S)
def sNot (t : STt) : STt := fun SX δ m S => t SX δ m fun c m1 => S (!c) m1
def sAndV (a b : SE) : SE := fun SX δ m S => a SX δ m fun x m1 => match x with
  | .bl c => Br c (b SX δ m1 S) (S (.bl false) m1)
  | _ => False
def sOrV (a b : SE) : SE := fun SX δ m S => a SX δ m fun x m1 => match x with
  | .bl c => Br c (S (.bl true) m1) (b SX δ m1 S)
  | _ => False
def sNotV (a : SE) : SE := fun SX δ m S => a SX δ m fun x m1 => match x with
  | .bl c => S (.bl (!c)) m1
  | _ => False
def sIfE (t : STt) (a b : SE) : SE := fun SX δ m S => t SX δ m fun c m1 => Br c (a SX δ m1 S) (b SX δ m1 S)
def sNil : SA := fun _ _ m S => S [] m
def sCons (a : SE) (r : SA) : SA := fun SX δ m S => a SX δ m fun x m1 => r SX δ m1 fun xs m2 => S (x :: xs) m2
def sTup (a : SA) : SE := fun SX δ m S => a SX δ m fun xs m1 => xs.length ≤ sizeLine ∧ S (.tup xs) m1
def sLst (a : SA) : SE := fun SX δ m S => a SX δ m fun xs m1 => xs.length ≤ sizeLine ∧ ∀ p, m1 p = none → S (.ref p) (up m1 p (.lst xs))
def sChain (r r' : SR2) (a b c : SE) : SE := fun SX δ m S => a SX δ m fun x m1 => b SX δ m1 fun y m2 => r x y m2 fun z m3 => match z with
  | .bl k => Br k (c SX δ m3 fun w m4 => r' y w m4 S) (S (.bl false) m3)
  | _ => False
section
variable {K : PySem.W.Frag} {E : XK} {X : Cx} {a b c e : Expr} {es : List Expr} {ta tb tc te : TE} {sa sb sc se : SE} {pos : Pos} {t u : TT} {st su : STt} {tl : TA} {sl : SA}
theorem ge_var {i : Nat} {x : Str} (hN : X.N[i]? = some x) (hv : Vis X.env.scope x) (hd : (x == ("__debug__" : Str)) = false := by decide) (hcd : (x == ("__classdict__" : Str)) = false := by decide) : GE K E X (.Name x pos) (tVar i) (sVar i) :=
  ⟨pe_var hN hv hd hcd, fun σ F H δ m SX S Q r h c => by
    unfold sVar at h
    split at h
    · next v e =>
      obtain ⟨w, h1, h2⟩ := r.sr.at_ i v e
      exact ⟨w, h1, c w F H v m (.refl F) r.mr h2 h⟩
    · exact h.elim⟩
theorem sim_c {v : V} {d : SV} (hd : ∀ F, VR K F v d) : SimE K E (tC v) (sC d) := fun σ F H δ m SX S Q r h c => c v F H d m (.refl F) r.mr (hd F) h
theorem ge_int {i j} : GE K E X (.Constant (.int i) j pos) (tC (.int i)) (sC (.int i)) := ⟨pe_int, sim_c fun _ => .int _⟩
theorem ge_bl {i j} : GE K E X (.Constant (.bool i) j pos) (tC (.bl i)) (sC (.bl i)) := ⟨pe_bl, sim_c fun _ => .bl _⟩
theorem ge_non {j} : GE K E X (.Constant .none j pos) (tC .non) (sC .non) := ⟨pe_non, sim_c fun _ => .non⟩
theorem ge_str {i j} : GE K E X (.Constant (.str i) j pos) (tC (.str i)) (sC (.str i)) := ⟨pe_str, sim_c fun _ => .str _⟩
theorem ge_gi {x : Str} {i : Int} (hg : Gl X x) (h : ∃ t, X.mg x = some (.int i t)) (hd : (x == ("__debug__" : Str)) = false := by decide) : GE K E X (.Name x pos) (tC (.int i)) (sC (.int i)) := by
  obtain ⟨t, ht⟩ := h
  exact ⟨pe_glob (v := .int i) hg ht ⟨t, rfl⟩ hd, sim_c fun _ => .int _⟩
theorem ge_gr {x : Str} {p : Addr} (hg : Gl X x) (h : X.mg x = some (.ref p)) (hd : (x == ("__debug__" : Str)) = false := by decide) : GE K E X (.Name x pos) (tC (.ref p)) (sC (.ref p)) := ⟨pe_glob (v := .ref p) hg h rfl hd, sim_c fun _ => .ref _⟩
theorem ge_ty {x : Str} {n : String} (hg : Gl X x) (hm : X.mg x = none) (hv : bootBuiltins x = some (.type n)) (hn : x ≠ "__name__" := by decide) (hd : (x == ("__debug__" : Str)) = false := by decide) : GE K E X (.Name x pos) (tC (.ty n)) (sC (.ty n)) :=
  ⟨pe_bltn (v := .ty n) hg hm hv rfl hn hd, sim_c fun _ => .ty _⟩
theorem sim_op {r : R2} {s : SR2} (hr : SimR K r s) (ha : SimE K E ta sa) (hb : SimE K E tb sb) : SimE K E (tOp r ta tb) (sOp s sa sb) := fun σ F H δ m SX S Q q h c =>
  ha σ F H δ m SX _ _ q h fun x F1 H1 sx m1 s1 M1 v1 h1 => hb σ F1 H1 δ m1 SX _ _ (q.go s1 M1) h1 fun y F2 H2 sy m2 s2 M2 v2 h2 =>
    hr F2 H2 m2 x y sx sy S Q M2 (vr_sub s2 v1) v2 h2 (c.go (s1.trans s2))
theorem ge_op {op : Operator} {r : R2} {s : SR2} (ho : OpR X (binaryOp op) r) (hr : SimR K r s) (ha : GE K E X a ta sa) (hb : GE K E X b tb sb) : GE K E X (.BinOp a op b pos) (tOp r ta tb) (sOp s sa sb) := ⟨pe_op ho ha.pe hb.pe, sim_op hr ha.sim hb.sim⟩
theorem ge_cmp {op : CmpOp} {r : R2} {s : SR2} (ho : OpR X (compareOp op) r) (hr : SimR K r s) (ha : GE K E X a ta sa) (hb : GE K E X b tb sb) (hm : behindInMarks op b = false) : GE K E X (.Compare a [op] [b] pos) (tOp r ta tb) (sOp s sa sb) := ⟨pe_cmpR ho ha.pe hb.pe hm, sim_op hr ha.sim hb.sim⟩
theorem sim_test (h : SimE K E te se) : SimT K E (tTest te) (sB se) := fun σ F H δ m SX S Q r q c =>
  h σ F H δ m SX _ _ r q fun v F1 H1 sv m1 s1 M1 v1 h1 => by
    cases v1 with
    | bl b => exact ⟨b, rfl, c b F1 H1 m1 s1 M1 h1⟩
    | _ => exact (show False from h1).elim
theorem gt_cmp {op : CmpOp} {r : R2} {s : SR2} (ho : OpR X (compareOp op) r) (hr : SimR K r s) (ha : GE K E X a ta sa) (hb : GE K E X b tb sb) (hm : behindInMarks op b = false) : GT K E X (.Compare a [op] [b] pos) (tTest (tOp r ta tb)) (sB (sOp s sa sb)) := ⟨pt_cmpR ho ha.pe hb.pe hm, sim_test (sim_op hr ha.sim hb.sim)⟩
theorem sim_chain {r r' : R2} {s s' : SR2} (hr : SimR K r s) (hr' : SimR K r' s') (ha : SimE K E ta sa) (hb : SimE K E tb sb) (hc : SimE K E tc sc) : SimE K E (tChain r r' ta tb tc) (sChain s s' sa sb sc) := fun σ F H δ m SX S Q q h c =>
  ha σ F H δ m SX _ _ q h fun x F1 H1 sx m1 s1 M1 v1 h1 => hb σ F1 H1 δ m1 SX _ _ (q.go s1 M1) h1 fun y F2 H2 sy m2 s2 M2 v2 h2 =>
    hr F2 H2 m2 x y sx sy _ _ M2 (vr_sub s2 v1) v2 h2 fun z F3 H3 sz m3 s3 M3 v3 h3 => by
      cases v3 with
      | bl k =>
        refine ⟨k, rfl, ?_⟩
        have h3 : Br k _ _ := h3
        rw [Br_eq] at h3
        have s13 := (s1.trans s2).trans s3
        split
        · next e =>
          rw [if_pos e] at h3
          exact hc σ F3 H3 δ m3 SX _ _ (q.go s13 M3) h3 fun w F4 H4 sw m4 s4 M4 v4 h4 => hr' F4 H4 m4 y w sy sw S Q M4 (vr_sub (s3.trans s4) v2) v4 h4 (c.go (s13.trans s4))
        · next e =>
          rw [if_neg e] at h3
          exact c _ F3 H3 _ m3 s13 M3 (.bl false) h3
      | _ => exact (show False from h3).elim
theorem ge_chain {op op' : CmpOp} {r r' : R2} {s s' : SR2} (ho : OpR X (compareOp op) r) (ho' : OpR X (compareOp op') r') (hr : SimR K r s) (hr' : SimR K r' s') (ha : GE K E X a ta sa) (hb : GE K E X b tb sb) (hc : GE K E X c tc sc)
    (hm : lastMarks [op, op'] [b, c] = false := by with_unfolding_all rfl) : GE K E X (.Compare a [op, op'] [b, c] pos) (tChain r r' ta tb tc) (sChain s s' sa sb sc) := ⟨pe_chain ho ho' ha.pe hb.pe hc.pe hm, sim_chain hr hr' ha.sim hb.sim hc.sim⟩
theorem sim_val (h : SimE K E te se) : SimT K E (tB te) (sB se) := fun σ F H δ m SX S Q r q c =>
  h σ F H δ m SX _ _ r q fun v F1 H1 sv m1 s1 M1 v1 h1 => by
    cases v1 with
    | bl b => exact ⟨b, rfl, c b F1 H1 m1 s1 M1 h1⟩
    | _ => exact (show False from h1).elim
theorem gt_val (h : GE K E X e te se) (he : ∀ whole, isTrue e X.env whole = (do let v ← whole; standAt e.pos; holding [v] (truthy v)) := by intro _; rfl) : GT K E X e (tB te) (sB se) := ⟨pt_val h.pe he, sim_val h.sim⟩
theorem sim_and (ha : SimT K E t st) (hb : SimT K E u su) : SimT K E (tAnd t u) (sAnd st su) := fun σ F H δ m SX S Q r q c =>
  ha σ F H δ m SX _ _ r q fun b F1 H1 m1 s1 M1 h1 => by
    rw [Br_eq] at h1
    split
    · next e => rw [if_pos e] at h1; exact hb σ F1 H1 δ m1 SX S Q (r.go s1 M1) h1 (c.go s1)
    · next e => rw [if_neg e] at h1; exact c false F1 H1 m1 s1 M1 h1
theorem sim_or (ha : SimT K E t st) (hb : SimT K E u su) : SimT K E (tOr t u) (sOr st su) := fun σ F H δ m SX S Q r q c =>
  ha σ F H δ m SX _ _ r q fun b F1 H1 m1 s1 M1 h1 => by
    rw [Br_eq] at h1
    split
    · next e => rw [if_pos e] at h1; exact c true F1 H1 m1 s1 M1 h1
    · next e => rw [if_neg e] at h1; exact hb σ F1 H1 δ m1 SX S Q (r.go s1 M1) h1 (c.go s1)
theorem gw_pt (h : GW K E X e t st) : GT K E X e t st := ⟨h.pe.pt, h.sim⟩
theorem gw_and1 (h : GT K E X a t st) : GW K E X (.BoolOp .And [a] pos) t st := ⟨pw_and1 h.pe, h.sim⟩
theorem gw_or1 (h : GT K E X a t st) : GW K E X (.BoolOp .Or [a] pos) t st := ⟨pw_or1 h.pe, h.sim⟩
theorem gw_and (ha : GT K E X a t st) (hb : GW K E X (.BoolOp .And (b :: es) pos) u su) : GW K E X (.BoolOp .And (a :: b :: es) pos) (tAnd t u) (sAnd st su) := ⟨pw_and ha.pe hb.pe, sim_and ha.sim hb.sim⟩
theorem gw_or (ha : GT K E X a t st) (hb : GW K E X (.BoolOp .Or (b :: es) pos) u su) : GW K E X (.BoolOp .Or (a :: b :: es) pos) (tOr t u) (sOr st su) := ⟨pw_or ha.pe hb.pe, sim_or ha.sim hb.sim⟩
theorem gt_not (ha : GT K E X a t st) : GT K E X (.UnaryOp .Not a pos) (tNot t) (sNot st) := ⟨pt_not ha.pe, fun σ F H δ m SX S Q r q c => ha.sim σ F H δ m SX _ _ r q fun b F1 H1 m1 s1 M1 h1 => c _ F1 H1 m1 s1 M1 h1⟩
theorem ge_one {op} (h : GE K E X a te se) : GE K E X (.BoolOp op [a] pos) te se := ⟨pe_one h.pe, h.sim⟩
theorem ge_and (ha : GE K E X a ta sa) (hb : GE K E X (.BoolOp .And (b :: es) pos) tb sb) : GE K E X (.BoolOp .And (a :: b :: es) pos) (tAndV ta tb) (sAndV sa sb) := ⟨pe_and ha.pe hb.pe, fun σ F H δ m SX S Q r q c =>
  ha.sim σ F H δ m SX _ _ r q fun v F1 H1 sv m1 s1 M1 v1 h1 => by
    cases v1 with
    | bl k =>
      have h1 : Br k _ _ := h1
      rw [Br_eq] at h1
      refine ⟨k, rfl, ?_⟩
      split
      · next e => rw [if_pos e] at h1; exact hb.sim σ F1 H1 δ m1 SX S Q (r.go s1 M1) h1 (c.go s1)
      · next e => rw [if_neg e] at h1; exact c _ F1 H1 _ m1 s1 M1 (.bl false) h1
    | _ => exact (show False from h1).elim⟩
theorem ge_or (ha : GE K E X a ta sa) (hb : GE K E X (.BoolOp .Or (b :: es) pos) tb sb) : GE K E X (.BoolOp .Or (a :: b :: es) pos) (tOrV ta tb) (sOrV sa sb) := ⟨pe_or ha.pe hb.pe, fun σ F H δ m SX S Q r q c =>
  ha.sim σ F H δ m SX _ _ r q fun v F1 H1 sv m1 s1 M1 v1 h1 => by
    cases v1 with
    | bl k =>
      have h1 : Br k _ _ := h1
      rw [Br_eq] at h1
      refine ⟨k, rfl, ?_⟩
      split
      · next e => rw [if_pos e] at h1; exact c _ F1 H1 _ m1 s1 M1 (.bl true) h1
      · next e => rw [if_neg e] at h1; exact hb.sim σ F1 H1 δ m1 SX S Q (r.go s1 M1) h1 (c.go s1)
    | _ => exact (show False from h1).elim⟩
theorem ge_not (ha : GE K E X a ta sa) : GE K E X (.UnaryOp .Not a pos) (tNotV ta) (sNotV sa) := ⟨pe_not ha.pe, fun σ F H δ m SX S Q r q c =>
  ha.sim σ F H δ m SX _ _ r q fun v F1 H1 sv m1 s1 M1 v1 h1 => by
    cases v1 with
    | bl k => exact ⟨k, rfl, c _ F1 H1 _ m1 s1 M1 (.bl _) h1⟩
    | _ => exact (show False from h1).elim⟩
theorem ge_ifE (hc : GT K E X c t st) (ha : GE K E X a ta sa) (hb : GE K E X b tb sb) : GE K E X (.IfExp c a b pos) (tIf t ta tb) (sIfE st sa sb) := ⟨pe_ifExp hc.pe ha.pe hb.pe, fun σ F H δ m SX S Q r q c =>
  hc.sim σ F H δ m SX _ _ r q fun b F1 H1 m1 s1 M1 h1 => by
    rw [Br_eq] at h1
    split
    · next e => rw [if_pos e] at h1; exact ha.sim σ F1 H1 δ m1 SX S Q (r.go s1 M1) h1 (c.go s1)
    · next e => rw [if_neg e] at h1; exact hb.sim σ F1 H1 δ m1 SX S Q (r.go s1 M1) h1 (c.go s1)⟩
theorem ga_nil : GA K E X [] tNil sNil := ⟨pa_nil, fun σ F H δ m SX S Q r q c => c [] F H [] m (.refl F) r.mr .nil q⟩
theorem ga_cons (ha : GE K E X e te se) (hr : GA K E X es tl sl) (hs : starEach (e :: es) X.env = (false, eval e X.env) :: starEach es X.env := by rfl) : GA K E X (e :: es) (tCons te tl) (sCons se sl) := ⟨pa_cons ha.pe hr.pe hs, fun σ F H δ m SX S Q r q c =>
  ha.sim σ F H δ m SX _ _ r q fun v F1 H1 sv m1 s1 M1 v1 h1 => hr.sim σ F1 H1 δ m1 SX _ _ (r.go s1 M1) h1 fun vs F2 H2 svs m2 s2 M2 v2 h2 => c _ F2 H2 _ m2 (s1.trans s2) M2 (.cons (vr_sub s2 v1) v2) h2⟩
theorem ge_tup {x1} (h : GA K E X es tl sl) : GE K E X (.Tuple es x1 pos) (tTup tl) (sTup sl) := ⟨pe_tup h.pe, fun σ F H δ m SX S Q r q c =>
  h.sim σ F H δ m SX _ _ r q fun vs F1 H1 svs m1 s1 M1 v1 h1 => ⟨by rw [vrs_length v1]; exact h1.1, fun p hp => c (.ref p) (upd F1 p _) _ _ m1 (s1.trans (Sub.new (M1.sub.gone hp))) (M1.frz hp) (.tup (.inl (.inl upd_same)) (vrs_sub (Sub.new (M1.sub.gone hp)) v1)) h1.2⟩⟩
theorem ge_lst (h : GA K E X es tl sl) : GE K E X (.List es pos) (tLst tl) (sLst sl) := ⟨pe_lst h.pe, fun σ F H δ m SX S Q r q c =>
  h.sim σ F H δ m SX _ _ r q fun vs F1 H1 svs m1 s1 M1 v1 h1 => ⟨by rw [vrs_length v1]; exact h1.1, fun p hp => c (.ref p) F1 _ _ _ s1 (M1.newL hp v1) (.ref p) (h1.2 p (M1.gone hp))⟩⟩
theorem ge_un {op : UnaryOp} {r : V → Hp → VK → Prop} {s : SR1} (ho : UnR X (unaryOp op) r) (hr : SimU K r s) (ha : GE K E X a ta sa) : GE K E X (.UnaryOp op a pos) (tUn r ta) (sUn s sa) := ⟨pe_un ho ha.pe, fun σ F H δ m SX S Q q h c =>
  ha.sim σ F H δ m SX _ _ q h fun x F1 H1 sx m1 s1 M1 v1 h1 => hr F1 H1 m1 x sx S Q M1 v1 h1 (c.go s1)⟩
end
end Sy

set_option Elab.async false
set_option linter.all false
set_option maxRecDepth 100000
set_option maxHeartbeats 4000000
/-! Operators, subscripts, slices, built-ins, methods of lists over symbolic values. -/
namespace Sy
open PySem PySem.Spec PyProof.Rows L2
section
variable {K : PySem.W.Frag} {F H : Hp} {m : Mem} {x y : V} {a b : SV}
/-- a list's, a tuple's items -/
def Its (m : Mem) (x : SV) (ys : List SV) : Prop := match x with
  | .tup xs => ys = xs
  | .lst xs => ys = xs
  | .ptup xs => ys = xs
  | .ref a => m a = some (.lst ys)
  | _ => False
theorem its_seq {ys : List SV} (M : MR K F H m) (r : VR K F x a) (h : Its m a ys) : ∃ p vs, x = .ref p ∧ (SqL K H p vs ∨ SqT K H p vs) ∧ VRs K F vs ys := by
  cases r with
  | tup h1 h2 => cases (show ys = _ from h); exact ⟨_, _, rfl, .inr (sqt_sub M.sub h1), h2⟩
  | lst h1 h2 => cases (show ys = _ from h); exact ⟨_, _, rfl, .inl (sql_sub M.sub h1), h2⟩
  | ptup h1 _ h2 => cases (show ys = _ from h); exact ⟨_, _, rfl, .inr (.inl (.inr ⟨_, M.sub _ _ h1⟩)), h2⟩
  | ref p =>
    obtain ⟨vs, h1, h2⟩ := M.lst_ (show m p = some (.lst ys) from h)
    exact ⟨p, vs, rfl, .inl (.inl (.inl h1)), h2⟩
  | _ => exact (show False from h).elim
def ItsL (m : Mem) (x : SV) (ys : List SV) : Prop := match x with
  | .lst xs => ys = xs
  | .ref a => m a = some (.lst ys)
  | _ => False
theorem its_lst {ys : List SV} (M : MR K F H m) (r : VR K F x a) (h : ItsL m a ys) : ∃ p vs, x = .ref p ∧ SqL K H p vs ∧ VRs K F vs ys := by
  cases r with
  | lst h1 h2 => cases (show ys = _ from h); exact ⟨_, _, rfl, sql_sub M.sub h1, h2⟩
  | ref p =>
    obtain ⟨vs, h1, h2⟩ := M.lst_ (show m p = some (.lst ys) from h)
    exact ⟨p, vs, rfl, .inl (.inl h1), h2⟩
  | _ => exact (show False from h).elim
/-! ### data that == compares at any depth -/
mutual
inductive Rd (m : Mem) : SV → PyData → Prop
  | non : Rd m .non .none
  | bl (b : Bool) : Rd m (.bl b) (.bool b)
  | int (i : Int) : Rd m (.int i) (.int i)
  | str (x : Str) : Rd m (.str x) (.str x)
  | tup {xs : List SV} {ds : List PyData} : Rds m xs ds → Rd m (.tup xs) (.tuple ds)
  | lst {xs : List SV} {ds : List PyData} : Rds m xs ds → Rd m (.lst xs) (.list ds)
  | ref {a : Addr} {xs : List SV} {ds : List PyData} : m a = some (.lst xs) → Rds m xs ds → Rd m (.ref a) (.list ds)
inductive Rds (m : Mem) : List SV → List PyData → Prop
  | nil : Rds m [] []
  | cons {x : SV} {d : PyData} {xs : List SV} {ds : List PyData} : Rd m x d → Rds m xs ds → Rds m (x :: xs) (d :: ds)
end
mutual
theorem rd_dp (M : MR K F H m) : ∀ {a : SV} {d : PyData}, Rd m a d → ∀ {x : V}, VR K F x a → Dp K H x d
  | _, _, .non, _, r => by cases r; exact .non
  | _, _, .bl b, _, r => by cases r; exact .bl b
  | _, _, .int b, _, r => by cases r; exact .int b
  | _, _, .str b, _, r => by cases r; exact .str b
  | _, _, .tup h, _, r => by
    cases r with
    | tup h1 h2 => exact .tup (sqt_sub M.sub h1) (rds_dp M h h2)
  | _, _, .lst h, _, r => by
    cases r with
    | lst h1 h2 => exact .lst (sql_sub M.sub h1) (rds_dp M h h2)
  | _, _, .ref e h, _, r => by
    cases r with
    | ref a =>
      obtain ⟨vs, h1, h2⟩ := M.lst_ e
      exact .lst (.inl (.inl h1)) (rds_dp M h h2)
theorem rds_dp (M : MR K F H m) : ∀ {as : List SV} {ds : List PyData}, Rds m as ds → ∀ {xs : List V}, VRs K F xs as → DpAll K H xs ds
  | _, _, .nil, _, r => by cases r; exact .nil
  | _, _, .cons h t, _, r => by
    cases r with
    | cons r1 r2 => exact .cons (rd_dp M h r1) (rds_dp M t r2)
end
def eqF : SV → SV → Option Bool
  | .int i, .int j => some (decide (i = j))
  | .str i, .str j => some (decide (i = j))
  | .bl i, .bl j => some (decide (i = j))
  | .non, .non => some true
  | .non, .int _ => some false
  | .non, .str _ => some false
  | .non, .bl _ => some false
  | .int _, .non => some false
  | .str _, .non => some false
  | .bl _, .non => some false
  | .int _, .str _ => some false
  | .str _, .int _ => some false
  | .bl _, .str _ => some false
  | .str _, .bl _ => some false
  | _, _ => none
theorem dec_inj {α β : Type} [DecidableEq α] [DecidableEq β] {f : α → β} (h : ∀ a b, f a = f b → a = b) (a b : α) : decide (f a = f b) = decide (a = b) := by
  by_cases e : a = b
  · rw [decide_eq_true e, decide_eq_true (congrArg f e)]
  · rw [decide_eq_false e, decide_eq_false fun z => e (h _ _ z)]
theorem eqF_ok {k : Bool} (r : VR K F x a) (q : VR K F y b) (h : eqF a b = some k) : scal x y = true ∧ decide (x = y) = k := by
  cases r <;> cases q <;> first
    | (cases (show (none : Option Bool) = some k from h); done)
    | (obtain rfl := Option.some.inj h; refine ⟨rfl, ?_⟩; first
        | exact dec_inj (fun _ _ z => V.int.inj z) _ _
        | exact dec_inj (fun _ _ z => V.str.inj z) _ _
        | exact dec_inj (fun _ _ z => V.bl.inj z) _ _
        | rfl
        | exact decide_eq_false fun z => by cases z)
end
/-! ### operators -/
def rAddG (K : PySem.W.Frag) : R2 := fun x y H Q => (rI0 fun i j => .int (i + j)) x y H Q ∨ (∃ i j, x = .str i ∧ y = .str j ∧ i.length + j.length ≤ sizeLine ∧ Q (.str (i ++ j)) H) ∨ rCatA K x y H Q ∨ rCat x y H Q
theorem op_addG {X : Cx} (K : PySem.W.Frag) (hK : X.K = K := by rfl) : OpR X (binaryOp .Add) (rAddG K) := by
  subst hK
  exact .or op_add (.or op_add_str (.or op_catA op_cat))
def sAdd : SR2 := fun x y m S => match x, y with
  | .int i, .int j => S (.int (i + j)) m
  | .str i, .str j => i.length + j.length ≤ sizeLine ∧ S (.str (i ++ j)) m
  | .tup xs, .tup ys => xs.length + ys.length ≤ sizeLine ∧ S (.tup (xs ++ ys)) m
  | .ref a, .ref b => ∃ xs ys, m a = some (.lst xs) ∧ m b = some (.lst ys) ∧ xs.length + ys.length ≤ sizeLine ∧ ∀ p, m p = none → S (.ref p) (up m p (.lst (xs ++ ys)))
  | _, _ => False
theorem vrs_nil {K : PySem.W.Frag} {F : Hp} {xs : List SV} (h : VRs K F [] xs) : xs = [] := by cases h; rfl
theorem sim_add {K : PySem.W.Frag} : SimR K (rAddG K) sAdd := fun F H m x y a b S Q M ra rb h c => by
  cases ra <;> cases rb <;> first
    | exact (show False from h).elim
    | exact .inl ⟨_, _, rfl, rfl, c _ F H _ m (.refl F) M (.int _) h⟩
    | exact .inr (.inl ⟨_, _, rfl, rfl, h.1, c _ F H _ m (.refl F) M (.str _) h.2⟩)
    | skip
  · obtain ⟨xs, ys, h1, h2, hl, q⟩ := (show ∃ xs ys, _ from h)
    obtain ⟨vs, e1, r1⟩ := M.lst_ h1
    obtain ⟨ws, e2, r2⟩ := M.lst_ h2
    exact .inr (.inr (.inr ⟨_, _, _, _, rfl, rfl, e1, e2, by rw [vrs_length r1, vrs_length r2]; exact hl, fun p hp => c (.ref p) F _ _ _ (.refl F) (M.newL hp (vrs_append r1 r2)) (.ref p) (q p (M.gone hp))⟩))
  · rename_i h1 r1 _ _ _ h2 r2
    obtain ⟨hl, h⟩ := (show _ ∧ _ from h)
    refine .inr (.inr (.inl ⟨_, _, _, _, rfl, rfl, sqt_sub M.sub h1, sqt_sub M.sub h2, by rw [vrs_length r1, vrs_length r2]; exact hl, fun e => ?_, fun e1 e2 => ?_, fun e1 e2 p hp => ?_⟩))
    · subst e
      obtain rfl := vrs_nil r1
      exact c _ F H _ m (.refl F) M (.tup h2 r2) h
    · subst e2
      obtain rfl := vrs_nil r2
      rw [List.append_nil] at h
      exact c _ F H _ m (.refl F) M (.tup h1 r1) h
    · exact c (.ref p) (upd F p _) _ _ m (Sub.new (M.sub.gone hp)) (M.frz hp) (.tup (.inl (.inl upd_same)) (vrs_sub (Sub.new (M.sub.gone hp)) (vrs_append r1 r2))) h
def sI2 (C : Int → Int → Prop) (g : Int → Int → SV) : SR2 := fun x y m S => match x, y with
  | .int i, .int j => C i j ∧ S (g i j) m
  | _, _ => False
def sI0 (g : Int → Int → SV) : SR2 := fun x y m S => match x, y with
  | .int i, .int j => S (g i j) m
  | _, _ => False
theorem sim_I0 {K : PySem.W.Frag} {g : Int → Int → V} {g' : Int → Int → SV} (hg : ∀ F i j, VR K F (g i j) (g' i j)) : SimR K (rI0 g) (sI0 g') := fun F H m x y a b S Q M ra rb h c => by
  cases ra <;> cases rb <;> first
    | exact (show False from h).elim
    | exact ⟨_, _, rfl, rfl, c _ F H _ m (.refl F) M (hg F _ _) h⟩
theorem sim_I {K : PySem.W.Frag} {C : Int → Int → Prop} {g : Int → Int → V} {g' : Int → Int → SV} (hg : ∀ F i j, VR K F (g i j) (g' i j)) : SimR K (rI C g) (sI2 C g') := fun F H m x y a b S Q M ra rb h c => by
  cases ra <;> cases rb <;> first
    | exact (show False from h).elim
    | exact ⟨_, _, rfl, rfl, h.1, c _ F H _ m (.refl F) M (hg F _ _) h.2⟩
abbrev sSub : SR2 := sI0 fun i j => .int (i - j)
theorem sim_sub {K : PySem.W.Frag} : SimR K (rI0 fun i j => .int (i - j)) sSub := sim_I0 fun _ _ _ => .int _
def CMulG (i j : Int) : Prop := CMul i j ∨ CMulW i j
def CDivG (i j : Int) : Prop := CDiv i j ∨ CDivW i j
theorem op_mulG {X : Cx} : OpR X (binaryOp .Mult) (rI CMulG fun i j => .int (i * j)) := by
  intro pins s σ H x y v u Q I rx ry ⟨i, j, e1, e2, hc, q⟩
  rcases hc with hc | hc
  · exact op_mul pins s σ H x y v u Q I rx ry ⟨i, j, e1, e2, hc, q⟩
  · exact op_mulW pins s σ H x y v u Q I rx ry ⟨i, j, e1, e2, hc, q⟩
theorem op_fdivG {X : Cx} : OpR X (binaryOp .FloorDiv) (rI CDivG fun i j => .int (i / j)) := by
  intro pins s σ H x y v u Q I rx ry ⟨i, j, e1, e2, hc, q⟩
  rcases hc with hc | hc
  · exact op_fdiv pins s σ H x y v u Q I rx ry ⟨i, j, e1, e2, hc, q⟩
  · exact op_fdivW pins s σ H x y v u Q I rx ry ⟨i, j, e1, e2, hc, q⟩
abbrev sMul : SR2 := sI2 CMulG fun i j => .int (i * j)
abbrev sDiv : SR2 := sI2 CDivG fun i j => .int (i / j)
abbrev sMod : SR2 := sI2 (fun _ j => 0 < j) fun i j => .int (i % j)
abbrev sPow : SR2 := sI2 CPow fun i j => .int (i ^ j.toNat)
abbrev sLt : SR2 := sI0 fun i j => .bl (decide (i < j))
abbrev sLe : SR2 := sI0 fun i j => .bl (decide (i ≤ j))
abbrev sGt : SR2 := sI0 fun i j => .bl (decide (j < i))
abbrev sGe : SR2 := sI0 fun i j => .bl (decide (j ≤ i))
section
variable {K : PySem.W.Frag}
theorem sim_mul : SimR K (rI CMulG fun i j => .int (i * j)) sMul := sim_I fun _ _ _ => .int _
theorem sim_fdiv : SimR K (rI CDivG fun i j => .int (i / j)) sDiv := sim_I fun _ _ _ => .int _
theorem sim_mod : SimR K (rI (fun _ j => 0 < j) fun i j => .int (i % j)) sMod := sim_I fun _ _ _ => .int _
theorem sim_pow : SimR K (rI CPow fun i j => .int (i ^ j.toNat)) sPow := sim_I fun _ _ _ => .int _
theorem sim_lt : SimR K (rI0 fun i j => .bl (decide (i < j))) sLt := sim_I0 fun _ _ _ => .bl _
theorem sim_le : SimR K (rI0 fun i j => .bl (decide (i ≤ j))) sLe := sim_I0 fun _ _ _ => .bl _
theorem sim_gt : SimR K (rI0 fun i j => .bl (decide (j < i))) sGt := sim_I0 fun _ _ _ => .bl _
end
def sNeg : SR1 := fun x m S => match x with
  | .int i => S (.int (-i)) m
  | _ => False
theorem sim_neg {K : PySem.W.Frag} : SimU K (rU fun i => .int (-i)) sNeg := fun F H m x a S Q M r h c => by
  cases r <;> first
    | exact (show False from h).elim
    | exact ⟨_, rfl, c _ F H _ m (.refl F) M (.int _) h⟩
/-- == -/
def rEqG (K : PySem.W.Frag) : R2 := fun x y H Q => rEq x y H Q ∨ rEqD K x y H Q
def rNeG (K : PySem.W.Frag) : R2 := fun x y H Q => rNe x y H Q ∨ rNeD K x y H Q
theorem op_eqG {X : Cx} (K : PySem.W.Frag) (hu : X.A.units + 64 < cLine) (hK : X.K = K := by rfl) : OpR X (compareOp .Eq) (rEqG K) := by
  subst hK
  exact .or op_eq (op_eqD hu)
theorem op_neG {X : Cx} (K : PySem.W.Frag) (hu : X.A.units + 64 < cLine) (hK : X.K = K := by rfl) : OpR X (compareOp .NotEq) (rNeG K) := by
  subst hK
  exact .or op_ne (op_neD hu)
def sEq : SR2 := fun x y m S => match eqF x y with
  | some k => S (.bl k) m
  | none => ∃ d e, Rd m x d ∧ Rd m y e ∧ SeqAt.shaped d = true ∧ SeqAt.shaped e = true ∧ S (.bl (PyData.eqv d e)) m
def sNe : SR2 := fun x y m S => match eqF x y with
  | some k => S (.bl (!k)) m
  | none => ∃ d e, Rd m x d ∧ Rd m y e ∧ SeqAt.shaped d = true ∧ SeqAt.shaped e = true ∧ S (.bl (!PyData.eqv d e)) m
theorem sim_eq {K : PySem.W.Frag} : SimR K (rEqG K) sEq := fun F H m x y a b S Q M ra rb h c => by
  unfold sEq at h
  split at h
  · next k e =>
    obtain ⟨h1, h2⟩ := eqF_ok ra rb e
    exact .inl ⟨h1, by rw [h2]; exact c _ F H _ m (.refl F) M (.bl _) h⟩
  · obtain ⟨d, e, h1, h2, h3, h4, q⟩ := h
    exact .inr ⟨d, e, rd_dp M h1 ra, rd_dp M h2 rb, h3, h4, c _ F H _ m (.refl F) M (.bl _) q⟩
theorem sim_ne {K : PySem.W.Frag} : SimR K (rNeG K) sNe := fun F H m x y a b S Q M ra rb h c => by
  unfold sNe at h
  split at h
  · next k e =>
    obtain ⟨h1, h2⟩ := eqF_ok ra rb e
    exact .inl ⟨h1, by rw [h2]; exact c _ F H _ m (.refl F) M (.bl _) h⟩
  · obtain ⟨d, e, h1, h2, h3, h4, q⟩ := h
    exact .inr ⟨d, e, rd_dp M h1 ra, rd_dp M h2 rb, h3, h4, c _ F H _ m (.refl F) M (.bl _) q⟩
/-- is None -/
def isNon : SV → Bool
  | .non => true
  | _ => false
theorem isNon_ok {K : PySem.W.Frag} {F : Hp} {x : V} {a : SV} (r : VR K F x a) : decide (x = V.non) = isNon a := by cases r <;> rfl
def sIsN : SR2 := fun x y m S => match y with
  | .non => S (.bl (isNon x)) m
  | _ => False
def sNotN : SR2 := fun x y m S => match y with
  | .non => S (.bl (!isNon x)) m
  | _ => False
abbrev rIsN : R2 := fun x y H Q => y = .non ∧ Q (.bl (decide (x = .non))) H
abbrev rNotN : R2 := fun x y H Q => y = .non ∧ Q (.bl (!decide (x = .non))) H
theorem sim_isN {K : PySem.W.Frag} : SimR K rIsN sIsN := fun F H m x y a b S Q M ra rb h c => by
  cases rb <;> first
    | exact (show False from h).elim
    | exact ⟨rfl, by rw [isNon_ok ra]; exact c _ F H _ m (.refl F) M (.bl _) h⟩
theorem sim_notN {K : PySem.W.Frag} : SimR K rNotN sNotN := fun F H m x y a b S Q M ra rb h c => by
  cases rb <;> first
    | exact (show False from h).elim
    | exact ⟨rfl, by rw [isNon_ok ra]; exact c _ F H _ m (.refl F) M (.bl _) h⟩
/-- in, not in: flat items of a list or a tuple -/
def flatS : SV → Bool
  | .non => true
  | .bl _ => true
  | .int _ => true
  | .str _ => true
  | _ => false
def eqS : SV → SV → Bool
  | .non, .non => true
  | .bl a, .bl b => a == b
  | .bl a, .int b => (if a then 1 else 0) == b
  | .int a, .bl b => a == (if b then 1 else 0)
  | .int a, .int b => a == b
  | .str a, .str b => a == b
  | _, _ => false
section
variable {K : PySem.W.Frag} {F : Hp}
theorem flat_ok {x : V} {a : SV} (r : VR K F x a) (h : flatS a = true) : flatV x = true := by
  cases r <;> first | rfl | cases h
theorem eqS_ok {x y : V} {a b : SV} (r : VR K F x a) (q : VR K F y b) (h : flatS a = true) (h2 : flatS b = true) : eqV x y = eqS a b := by
  cases r <;> cases q <;> first | rfl | cases h | cases h2
theorem flats_ok : ∀ {xs : List V} {as : List SV}, VRs K F xs as → as.all flatS = true → xs.all flatV = true
  | _, _, .nil, _ => rfl
  | _, _, .cons r t, h => by
    rw [List.all_cons, Bool.and_eq_true] at h ⊢
    exact ⟨flat_ok r h.1, flats_ok t h.2⟩
theorem any_ok {x : V} {a : SV} (r : VR K F x a) (h : flatS a = true) : ∀ {xs : List V} {as : List SV}, VRs K F xs as → as.all flatS = true → inV x xs = as.any (fun y => eqS y a)
  | _, _, .nil, _ => rfl
  | _, _, .cons (v := v) (vs := vs) q t, h2 => by
    rw [List.all_cons, Bool.and_eq_true] at h2
    have e : inV x (v :: vs) = (eqV v x || inV x vs) := rfl
    rw [e, List.any_cons, any_ok r h t h2.2, eqS_ok q r h2.1 h]
end
def inS (x : SV) (xs : List SV) : Bool := xs.any fun y => eqS y x
def sIn (neg : Bool) : SR2 := fun x y m S => ∃ xs, Its m y xs ∧ flatS x = true ∧ xs.all flatS = true ∧ S (.bl (if neg then !inS x xs else inS x xs)) m
theorem sim_in {K : PySem.W.Frag} (neg : Bool) : SimR K (rIn K neg) (sIn neg) := fun F H m x y a b S Q M ra rb h c => by
  obtain ⟨xs, h1, h2, h3, q⟩ := h
  obtain ⟨p, vs, rfl, hs, r⟩ := its_seq M rb h1
  refine ⟨p, vs, rfl, hs, flat_ok ra h2, flats_ok r h3, ?_⟩
  rw [any_ok ra h2 r h3]
  exact c _ F H _ m (.refl F) M (.bl _) q
theorem op_inG {X : Cx} (K : PySem.W.Frag) (hK : X.K = K := by rfl) : OpR X (compareOp .In) (rIn K false) := by subst hK; exact op_in_seq
/-! ### subscripts -/
def rIxG (K : PySem.W.Frag) : R2 := fun x y H Q => rIxL K x y H Q ∨ rIxT K x y H Q ∨ rIxS x y H Q
theorem ix_G {X : Cx} (K : PySem.W.Frag) (hK : X.K = K := by rfl) : IxR X (rIxG K) := by
  subst hK
  exact .or ix_list (.or ix_tup ix_str)
def sIx : SR2 := fun x y m S => match x, y with
  | .tup xs, .int i => ∃ v, atI xs i = some v ∧ S v m
  | .lst xs, .int i => ∃ v, atI xs i = some v ∧ S v m
  | .ptup xs, .int i => ∃ v, atI xs i = some v ∧ S v m
  | .ref a, .int i => ∃ xs v, m a = some (.lst xs) ∧ atI xs i = some v ∧ S v m
  | .str z, .int i => ∃ c, z.length ≤ sizeLine ∧ atI z.cps.toList i = some c ∧ S (.str ⟨#[c]⟩) m
  | _, _ => False
theorem atI_vrs {K : PySem.W.Frag} {F : Hp} {vs : List V} {xs : List SV} {i : Int} {x : SV} (r : VRs K F vs xs) (h : atI xs i = some x) : ∃ v, atI vs i = some v ∧ VR K F v x := by
  unfold atI at h ⊢
  rw [← vrs_length r] at h
  obtain ⟨j, h1, h2⟩ := Option.bind_eq_some_iff.mp h
  obtain ⟨v, hv, dv⟩ := vrs_get r h2
  exact ⟨v, by rw [h1]; exact hv, dv⟩
theorem sim_ix {K : PySem.W.Frag} : SimR K (rIxG K) sIx := fun F H m x y a b S Q M ra rb h c => by
  cases ra <;> cases rb <;> first
    | exact (show False from h).elim
    | skip
  · obtain ⟨k, h1, h2, q⟩ := (show ∃ c, _ from h)
    exact .inr (.inr ⟨_, _, k, rfl, rfl, h1, h2, c _ F H _ m (.refl F) M (.str _) q⟩)
  · obtain ⟨xs, v, h1, h2, q⟩ := (show ∃ xs v, _ from h)
    obtain ⟨vs, e1, r1⟩ := M.lst_ h1
    obtain ⟨w, hw, rw_⟩ := atI_vrs r1 h2
    exact .inl ⟨_, _, _, w, rfl, rfl, .inl (.inl e1), hw, c _ F H _ m (.refl F) M rw_ q⟩
  · obtain ⟨v, h2, q⟩ := (show ∃ v, _ from h)
    rename_i h1 r1 _
    obtain ⟨w, hw, rw_⟩ := atI_vrs r1 h2
    exact .inr (.inl ⟨_, _, _, w, rfl, rfl, sqt_sub M.sub h1, hw, c _ F H _ m (.refl F) M rw_ q⟩)
  · obtain ⟨v, h2, q⟩ := (show ∃ v, _ from h)
    rename_i h1 r1 _
    obtain ⟨w, hw, rw_⟩ := atI_vrs r1 h2
    exact .inl ⟨_, _, _, w, rfl, rfl, sql_sub M.sub h1, hw, c _ F H _ m (.refl F) M rw_ q⟩
  · obtain ⟨v, h2, q⟩ := (show ∃ v, _ from h)
    rename_i h1 _ r1 _
    obtain ⟨w, hw, rw_⟩ := atI_vrs r1 h2
    exact .inr (.inl ⟨_, _, _, w, rfl, rfl, .inl (.inr ⟨_, M.sub _ _ h1⟩), hw, c _ F H _ m (.refl F) M rw_ q⟩)
section
variable {K : PySem.W.Frag} {E : XK} {X : Cx} {a b c e : Expr} {ta tb tc te : TE} {sa sb sc se : SE} {pos p2 : Pos}
theorem ge_ix {r : R2} {s : SR2} (hr : IxR X r) (hs : SimR K r s) (ha : GE K E X a ta sa) (hb : GE K E X b tb sb) (hp : PlainIx b) : GE K E X (.Subscript a b pos) (tOp r ta tb) (sOp s sa sb) := ⟨pe_ix hr ha.pe hb.pe hp, sim_op hs ha.sim hb.sim⟩
end
/-! slices -/
abbrev SO := SXK → DS → Mem → (Option Int → Mem → Prop) → Prop
def SimO (K : PySem.W.Frag) (E : XK) (te : TO) (se : SO) : Prop := ∀ σ F H δ m SX S (Q : Option Int → Hp → Prop), Rl K E σ F H δ m SX → se SX δ m S → (∀ i F' H' m', Sub F F' → MR K F' H' m' → S i m' → Q i H') → te σ H Q
structure GO (K : PySem.W.Frag) (E : XK) (X : Cx) (e : Option Expr) (te : TO) (se : SO) : Prop where
  pe : PO X e te
  sim : SimO K E te se
def sNoPart : SO := fun _ _ m S => S none m
def sPart (a : SE) : SO := fun SX δ m S => a SX δ m fun x m1 => match x with
  | .int i => S (some i) m1
  | _ => False
abbrev SSl := SV → Option Int → Option Int → Mem → (SV → Mem → Prop) → Prop
def sSlice (r : SSl) (a : SE) (l h : SO) : SE := fun SX δ m S => a SX δ m fun x m1 => l SX δ m1 fun i m2 => h SX δ m2 fun j m3 => r x i j m3 S
def cutS' {α : Type} (xs : List α) (lo hi : Option Int) : List α := (xs.drop (HT.sIx xs.length 0 lo)).take (HT.sIx xs.length xs.length hi - HT.sIx xs.length 0 lo)
def sSl : SSl := fun x lo hi m S => match x with
  | .tup xs => S (.tup (cutS' xs lo hi)) m
  | .lst xs => ∀ p, m p = none → S (.ref p) (up m p (.lst (cutS' xs lo hi)))
  | .ref a => ∃ xs, m a = some (.lst xs) ∧ ∀ p, m p = none → S (.ref p) (up m p (.lst (cutS' xs lo hi)))
  | .str z => z.length ≤ sizeLine ∧ S (.str (cutS z lo hi)) m
  | _ => False
def rSlG (K : PySem.W.Frag) : V → Option Int → Option Int → Hp → VK → Prop := fun x lo hi H Q => rSlL K x lo hi H Q ∨ rSlA K x lo hi H Q ∨ rSlS x lo hi H Q
theorem sl_G {X : Cx} (K : PySem.W.Frag) (hK : X.K = K := by rfl) : SlR X (rSlG K) := by
  subst hK
  exact .or sl_list (.or sl_tupA sl_str)
section
variable {K : PySem.W.Frag} {E : XK} {X : Cx} {a b c e : Expr} {ta tb tc te : TE} {sa sb sc se : SE} {pos p2 : Pos} {lo hi : Option Expr} {tl th : TO} {sl sh : SO}
theorem go_none : GO K E X none tNoPart sNoPart := ⟨po_none, fun σ F H δ m SX S Q r h c => c none F H m (.refl F) r.mr h⟩
theorem go_some (h : GE K E X e te se) : GO K E X (some e) (tPart te) (sPart se) := ⟨po_some h.pe, fun σ F H δ m SX S Q r q c =>
  h.sim σ F H δ m SX _ _ r q fun v F1 H1 sv m1 s1 M1 v1 h1 => by
    cases v1 with
    | int i => exact ⟨i, rfl, c _ F1 H1 m1 s1 M1 h1⟩
    | _ => exact (show False from h1).elim⟩
theorem vrs_cut {F : Hp} {vs : List V} {xs : List SV} (r : VRs K F vs xs) (lo hi : Option Int) : VRs K F (cutV vs lo hi) (cutS' xs lo hi) := by
  unfold cutV cutS'
  rw [vrs_length r]
  exact vrs_take _ (vrs_drop _ r)
theorem cut_all {α : Type} (xs : List α) (lo hi : Option Int) (h : HT.sIx xs.length 0 lo = 0 ∧ HT.sIx xs.length xs.length hi = xs.length) : cutS' xs lo hi = xs := by
  unfold cutS'
  rw [h.1, h.2]
  simp
theorem ge_slice (ha : GE K E X e te se) (hl : GO K E X lo tl sl) (hh : GO K E X hi th sh) (hK : X.K = K := by rfl) : GE K E X (.Subscript e (.Slice lo hi none p2) pos) (tSl (rSlG K) te tl th) (sSlice sSl se sl sh) := ⟨pe_slice (sl_G K hK) ha.pe hl.pe hh.pe, fun σ F H δ m SX S Q r q c =>
  ha.sim σ F H δ m SX _ _ r q fun v F1 H1 sv m1 s1 M1 v1 h1 => hl.sim σ F1 H1 δ m1 SX _ _ (r.go s1 M1) h1 fun i F2 H2 m2 s2 M2 h2 => hh.sim σ F2 H2 δ m2 SX _ _ (r.go (s1.trans s2) M2) h2 fun j F3 H3 m3 s3 M3 h3 => by
    have v3 := vr_sub (s2.trans s3) v1
    have s13 := (s1.trans s2).trans s3
    cases v3 with
    | str z => exact .inr (.inr ⟨z, rfl, h3.1, c _ F3 H3 _ m3 s13 M3 (.str _) h3.2⟩)
    | ref a =>
      obtain ⟨xs, e1, q1⟩ := (show ∃ xs, _ from h3)
      obtain ⟨vs, e2, r2⟩ := M3.lst_ e1
      exact .inl ⟨a, vs, rfl, .inl (.inl e2), fun p hp => c (.ref p) F3 _ _ _ s13 (M3.newL hp (vrs_cut r2 i j)) (.ref p) (q1 p (M3.gone hp))⟩
    | tup g1 r2 =>
      refine .inr (.inl ⟨_, _, rfl, sqt_sub M3.sub g1, fun e => ?_, fun e p hp => ?_⟩)
      · rw [vrs_length r2] at e
        have h3 : S (.tup (cutS' _ i j)) m3 := h3
        rw [cut_all _ i j e] at h3
        exact c _ F3 H3 _ m3 s13 M3 (.tup g1 r2) h3
      · exact c (.ref p) (upd F3 p _) _ _ m3 (s13.trans (Sub.new (M3.sub.gone hp))) (M3.frz hp) (.tup (.inl (.inl upd_same)) (vrs_sub (Sub.new (M3.sub.gone hp)) (vrs_cut r2 i j))) h3
    | lst g1 r2 =>
      exact .inl ⟨_, _, rfl, sql_sub M3.sub g1, fun p hp => c (.ref p) F3 _ _ _ s13 (M3.newL hp (vrs_cut r2 i j)) (.ref p) (h3 p (M3.gone hp))⟩
    | _ => exact (show False from h3).elim⟩
end
/-! ### calls of built-ins, methods -/
def sCB (r : SRC) (a : SA) : SE := fun SX δ m S => a SX δ m fun xs m1 => r xs m1 S
def sBM (ck : SV → Mem → Prop) (r : SRM) (o : SE) (a : SA) : SE := fun SX δ m S => o SX δ m fun x m1 => ck x m1 ∧ a SX δ m1 fun xs m2 => r x xs m2 S
def sBM0 (ck : SV → Mem → Prop) (r : SRM) (o : SE) : SE := fun SX δ m S => o SX δ m fun x m1 => ck x m1 ∧ r x [] m1 S
def SimK (K : PySem.W.Frag) (T : String) (ck : SV → Mem → Prop) : Prop := ∀ F H m x a, MR K F H m → VR K F x a → ck a m → tyV K T x H
section
variable {K : PySem.W.Frag} {E : XK} {X : Cx} {a b c e o : Expr} {es : List Expr} {ta tb tc te to : TE} {sa sb sc se so : SE} {pos p apos cpos : Pos} {tl : TA} {sl : SA}
theorem sim_cb {r : List V → Hp → VK → Prop} {s : SRC} (hr : SimC K r s) (ha : SimA K E tl sl) : SimE K E (tCB r tl) (sCB s sl) := fun σ F H δ m SX S Q q h c =>
  ha σ F H δ m SX _ _ q h fun xs F1 H1 sx m1 s1 M1 v1 h1 => hr F1 H1 m1 xs sx S Q M1 v1 h1 (c.go s1)
theorem ge_callB {x : Str} {id : String} {r : List V → Hp → VK → Prop} {s : SRC} (hc : CallR X (.builtin id) r) (hr : SimC K r s) (hg : Gl X x) (hm : X.mg x = none) (hv : bootBuiltins x = some (.builtin id)) (ha : GA K E X (e :: es) tl sl) (hn : x ≠ "__name__" := by decide) (hdb : (x == ("__debug__" : Str)) = false := by decide)
    (he : starEach (e :: es) X.env = (false, eval e X.env) :: starEach es X.env := by rfl) (hpl : (backTo pos (starEach es X.env)).any (·.1) = false := by rfl) : GE K E X (.Call (.Name x p) (e :: es) [] pos) (tCB r tl) (sCB s sl) := ⟨pe_callB hc hg hm hv ha.pe hn hdb he hpl, sim_cb hr ha.sim⟩
theorem ge_callTy {x : Str} {T : String} {r : List V → Hp → VK → Prop} {s : SRC} (hc : CallR X (.type T) r) (hr : SimC K r s) (hg : Gl X x) (hm : X.mg x = none) (hv : bootBuiltins x = some (.type T)) (ha : GA K E X (e :: es) tl sl) (hn : x ≠ "__name__" := by decide) (hdb : (x == ("__debug__" : Str)) = false := by decide)
    (he : starEach (e :: es) X.env = (false, eval e X.env) :: starEach es X.env := by rfl) (hpl : (backTo pos (starEach es X.env)).any (·.1) = false := by rfl) : GE K E X (.Call (.Name x p) (e :: es) [] pos) (tCB r tl) (sCB s sl) := ⟨pe_callTy hc hg hm hv ha.pe hn hdb he hpl, sim_cb hr ha.sim⟩
theorem ge_bm {name : Str} {T id : String} {r : V → List V → Hp → VK → Prop} {s : SRM} {ck : SV → Mem → Prop} (pa : PlainAttrs T) (slot : Slot T name id) (hty : typeOf (.builtin id) = pure (.type "method_descriptor")) (hm : MtR X id r) (hk : SimK K T ck) (hr : SimM K r s) (ho : GE K E X o to so) (ha : GA K E X (e :: es) tl sl)
    (hK : X.K = K := by rfl) (hbase : attributeBase o name X.env (eval o X.env) = eval o X.env := by rfl)
    (hfew : ((backTo cpos (starEach (e :: es) X.env)).all (fun x => !x.1) && (backToKw cpos (keywordEach [] X.env)).all (fun x => x.1.isSome)
      && decide ((e :: es).length + ([] : List Keyword).length + (if ([] : List Keyword).isEmpty then 0 else 1) < 30)) = true := by rfl)
    (hline : (apos.endLine == cpos.line) = true := by rfl) (hs : starEach (e :: es) X.env = (false, eval e X.env) :: starEach es X.env := by rfl) (hplain : (backTo cpos (starEach es X.env)).any (·.1) = false := by rfl) :
    GE K E X (.Call (.Attribute o name apos) (e :: es) [] cpos) (tBM K T r to tl) (sBM ck s so sl) := by
  subst hK
  exact ⟨pe_bm pa slot hty hm ho.pe ha.pe hbase hfew hline hs hplain, fun σ F H δ m SX S Q q h c =>
    ho.sim σ F H δ m SX _ _ q h fun x F1 H1 sx m1 s1 M1 v1 h1 => ⟨hk F1 H1 m1 x sx M1 v1 h1.1, ha.sim σ F1 H1 δ m1 SX _ _ (q.go s1 M1) h1.2 fun xs F2 H2 sxs m2 s2 M2 v2 h2 => hr F2 H2 m2 x xs sx sxs S Q M2 (vr_sub s2 v1) v2 h2 (c.go (s1.trans s2))⟩⟩
end
def ckL (x : SV) (m : Mem) : Prop := match x with
  | .ref a => ∃ xs, m a = some (.lst xs)
  | .lst _ => True
  | _ => False
theorem simk_L {K : PySem.W.Frag} : SimK K "list" ckL := fun F H m x a M r h => by
  cases r with
  | ref p =>
    obtain ⟨xs, e⟩ := (show ∃ xs, _ from h)
    obtain ⟨vs, e2, _⟩ := M.lst_ e
    exact .inl ⟨rfl, vs, .inl (.inl e2)⟩
  | lst h1 _ => exact .inl ⟨rfl, _, sql_sub M.sub h1⟩
  | _ => exact (show False from h).elim
def sAppend : SRM := fun x vs m S => match x, vs with
  | .ref a, [y] => ∃ xs, m a = some (.lst xs) ∧ xs.length < sizeLine ∧ S .non (up m a (.lst (xs ++ [y])))
  | _, _ => False
theorem vrs_one {K : PySem.W.Frag} {F : Hp} {vs : List V} {y : SV} (h : VRs K F vs [y]) : ∃ v, vs = [v] ∧ VR K F v y := by
  cases h with
  | cons r t => cases t; exact ⟨_, rfl, r⟩
theorem vrs_two {K : PySem.W.Frag} {F : Hp} {vs : List V} {y z : SV} (h : VRs K F vs [y, z]) : ∃ v w, vs = [v, w] ∧ VR K F v y ∧ VR K F w z := by
  cases h with
  | cons r t =>
    obtain ⟨w, rfl, q⟩ := vrs_one t
    exact ⟨_, _, rfl, r, q⟩
section
variable {K : PySem.W.Frag}
theorem sim_append : SimM K rAppend sAppend := fun F H m x xs a as S Q M r rs h c => by
  cases r with
  | ref p =>
    unfold sAppend at h
    split at h
    · have e := SV.ref.inj (by assumption : SV.ref p = SV.ref _)
      subst e
      obtain ⟨ys, e1, hl, q⟩ := h
      obtain ⟨v, rfl, rv⟩ := vrs_one rs
      obtain ⟨vs, e2, r2⟩ := M.lst_ e1
      exact ⟨p, vs, v, rfl, rfl, e2, by rw [vrs_length r2]; exact hl, c _ F _ _ _ (.refl F) (M.setL e1 (vrs_append r2 (.cons rv .nil))) .non q⟩
    · exact h.elim
  | _ => exact (show False from by unfold sAppend at h; exact h).elim
def sExtend : SRM := fun x vs m S => match x, vs with
  | .ref a, [.ref b] => ∃ xs ys, m a = some (.lst xs) ∧ m b = some (.lst ys) ∧ xs.length + ys.length ≤ sizeLine ∧ S .non (up m a (.lst (xs ++ ys)))
  | _, _ => False
def sClear : SRM := fun x vs m S => match x, vs with
  | .ref a, [] => ∃ xs, m a = some (.lst xs) ∧ S .non (up m a (.lst []))
  | _, _ => False
/-- list.index of a flat thing: the first place -/
def sIndex : SRM := fun x vs m S => match vs with
  | [y] => ∃ xs j z, ItsL m x xs ∧ flatS y = true ∧ xs.all flatS = true ∧ xs[j]? = some z ∧ eqS z y = true ∧ (∀ (i : Nat) z', i < j → xs[i]? = some z' → eqS z' y = false) ∧ S (.int (j : Nat)) m
  | _ => False
theorem sim_index : SimM K (rIndex K) sIndex := fun F H m x xs a as S Q M r rs h c => by
  unfold sIndex at h
  split at h
  · obtain ⟨ys, j, z, h1, h2, h3, h4, h5, h6, q⟩ := h
    obtain ⟨v, rfl, rv⟩ := vrs_one rs
    obtain ⟨p, vs, rfl, hs, r2⟩ := its_lst M r h1
    obtain ⟨w, hw, rw_⟩ := vrs_get r2 h4
    have fl : ∀ (i : Nat) z', ys[i]? = some z' → flatS z' = true := fun i z' e => List.all_eq_true.mp h3 z' (List.mem_of_getElem? e)
    refine ⟨p, vs, v, j, w, rfl, rfl, hs, flat_ok rv h2, flats_ok r2 h3, hw, by rw [eqS_ok rw_ rv (fl _ _ h4) h2]; exact h5, fun i z' hi e => ?_, c _ F H _ m (.refl F) M (.int _) q⟩
    obtain ⟨d, hd, rd⟩ := vrs_getV r2 e
    rw [eqS_ok rd rv (fl _ _ hd) h2]
    exact h6 i d hi hd
  · exact h.elim
/-- len -/
def sLen : SRC := fun vs m S => match vs with
  | [x] => match x with
    | .str z => z.length ≤ sizeLine ∧ S (.int z.length) m
    | x => ∃ ys, Its m x ys ∧ S (.int ys.length) m
  | _ => False
def rLenG (K : PySem.W.Frag) : List V → Hp → VK → Prop := fun xs H Q => (∃ p ys, xs = [.ref p] ∧ (SqL K H p ys ∨ SqT K H p ys) ∧ Q (.int ys.length) H) ∨ ∃ z, xs = [.str z] ∧ z.length ≤ sizeLine ∧ Q (.int z.length) H
theorem cr_len {X : Cx} (K : PySem.W.Frag) (hK : X.K = K := by rfl) : CallR X (.builtin "len") (rLenG K) := by
  subst hK
  exact .or call_len_seq call_len_str
theorem sim_len : SimC K (rLenG K) sLen := fun F H m xs as S Q M rs h c => by
  unfold sLen at h
  split at h
  · next x =>
    obtain ⟨v, rfl, rv⟩ := vrs_one rs
    have key : (∃ ys, Its m x ys ∧ S (.int ys.length) m) → rLenG K [v] H Q := fun ⟨ys, h1, q⟩ => by
      obtain ⟨p, vs, rfl, hs, r2⟩ := its_seq M rv h1
      exact .inl ⟨p, vs, rfl, hs, by rw [vrs_length r2]; exact c _ F H _ m (.refl F) M (.int _) q⟩
    cases x with
    | str z => obtain rfl := vr_str rv; exact .inr ⟨z, rfl, h.1, c _ F H _ m (.refl F) M (.int _) h.2⟩
    | _ => exact key h
  · exact h.elim
/-- isinstance of built-in classes -/
def tyS (m : Mem) (x : SV) (t : String) : Prop := match x with
  | .non => t = "NoneType"
  | .bl _ => t = "bool"
  | .int _ => t = "int"
  | .str _ => t = "str"
  | .tup _ => t = "tuple"
  | .lst _ => t = "list"
  | .ref a => t = "list" ∧ ∃ xs, m a = some (.lst xs)
  | _ => False
theorem tyx_ok {F H : Hp} {m : Mem} {x : V} {a : SV} {t : String} (M : MR K F H m) (r : VR K F x a) (h : tyS m a t) : TyX K H x (.type t) := by
  cases r with
  | non => cases (show t = _ from h); exact .base .non
  | bl b => cases (show t = _ from h); exact .base (.bl b)
  | int b => cases (show t = _ from h); exact .base (.int b)
  | str b => cases (show t = _ from h); exact .base (.str b)
  | ty n => exact (show False from h).elim
  | kt _ => exact (show False from h).elim
  | ptup _ _ _ => exact (show False from h).elim
  | tup h1 _ =>
    cases (show t = _ from h)
    rcases sqt_sub M.sub h1 with (h | ⟨o, h⟩) | ⟨o, its, n, h1, h2, _⟩
    · exact .base (.tup h)
    · exact .fTuple h
    · exact .kTuple h1 h2
  | lst h1 _ =>
    cases (show t = _ from h)
    rcases sql_sub M.sub h1 with (h | ⟨o, h⟩) | ⟨o, its, n, h1, h2, _⟩
    · exact .base (.lst h)
    · exact .base (.frz h)
    · exact .kList h1 h2
  | ref a =>
    obtain ⟨rfl, xs, e⟩ := (show t = "list" ∧ ∃ xs, _ from h)
    obtain ⟨vs, e2, _⟩ := M.lst_ e
    exact .base (.lst e2)
def isB (t T : String) : Bool := t == T || (t == "bool" && T == "int")
theorem kit_tab : ∀ t ∈ ["NoneType", "bool", "int", "str", "list", "tuple", "dict"], ∀ T ∈ ["bool", "int", "str", "list", "tuple"], kitB t T = some (isB t T) := by decide +kernel
theorem tyS_mem {m : Mem} {a : SV} {t : String} (h : tyS m a t) : t ∈ ["NoneType", "bool", "int", "str", "list", "tuple", "dict"] := by
  cases a <;> first
    | exact (show False from h).elim
    | (cases (show t = _ from h); simp)
    | (obtain ⟨rfl, _⟩ := (show t = "list" ∧ _ from h); simp)
def sIsi : SRC := fun vs m S => match vs with
  | [x, .ty T] => T ∈ ["bool", "int", "str", "list", "tuple"] ∧ ∃ t, tyS m x t ∧ S (.bl (isB t T)) m
  | [x, .tup [.ty T, .ty U]] => (T ∈ ["bool", "int", "str", "list", "tuple"] ∧ U ∈ ["bool", "int", "str", "list", "tuple"]) ∧ ∃ t, tyS m x t ∧ S (.bl (isB t T || isB t U)) m
  | _ => False
def rIsiG (K : PySem.W.Frag) : List V → Hp → VK → Prop := fun xs H Q => rIsi K xs H Q ∨ rIsiT K xs H Q
theorem cr_isi {X : Cx} (K : PySem.W.Frag) (hK : X.K = K := by rfl) : CallR X (.builtin "isinstance") (rIsi K) := by
  subst hK
  exact call_isi
def sIsi1 : SRC := fun vs m S => match vs with
  | [x, .ty T] => T ∈ ["bool", "int", "str", "list", "tuple"] ∧ ∃ t, tyS m x t ∧ S (.bl (isB t T)) m
  | _ => False
theorem sim_isi : SimC K (rIsi K) sIsi1 := fun F H m xs as S Q M rs h c => by
  unfold sIsi1 at h
  split at h
  · obtain ⟨hT, t, ht, q⟩ := h
    obtain ⟨v, w, rfl, rv, rw_⟩ := vrs_two rs
    obtain rfl := vr_ty rw_
    exact ⟨v, _, _, _, _, rfl, .ty _, tyx_ok M rv ht, kit_ty (kit_tab _ (tyS_mem ht) _ hT), c _ F H _ m (.refl F) M (.bl _) q⟩
  · exact h.elim
/-- all, any, sum -/
def sAll : SRC := fun vs m S => match vs with
  | [x] => ∃ bs : List Bool, ItsL m x (bs.map .bl) ∧ S (.bl (bs.all id)) m
  | _ => False
def sAny : SRC := fun vs m S => match vs with
  | [x] => ∃ bs : List Bool, ItsL m x (bs.map .bl) ∧ S (.bl (bs.any id)) m
  | _ => False
def sSum : SRC := fun vs m S => match vs with
  | [x] => ∃ ns : List Int, ItsL m x (ns.map .int) ∧ S (.int ns.sum) m
  | _ => False
theorem cr_allG {X : Cx} (K : PySem.W.Frag) (hc : X.calm = true := by rfl) (hK : X.K = K := by rfl) : CallR X (.builtin "all") (rAll K) := by subst hK; exact cr_all hc
theorem sim_all : SimC K (rAll K) sAll := fun F H m xs as S Q M rs h c => by
  unfold sAll at h
  split at h
  · obtain ⟨bs, h1, q⟩ := h
    obtain ⟨v, rfl, rv⟩ := vrs_one rs
    obtain ⟨p, vs, rfl, hs, r2⟩ := its_lst M rv h1
    obtain rfl := vrs_bls r2
    exact ⟨p, bs, rfl, hs, c _ F H _ m (.refl F) M (.bl _) q⟩
  · exact h.elim
/-- min, max of two ints -/
abbrev rMin2' : List V → Hp → VK → Prop := fun xs H Q => ∃ i j, xs = [.int i, .int j] ∧ Q (.int (if j < i then j else i)) H
abbrev rMax2' : List V → Hp → VK → Prop := fun xs H Q => ∃ i j, xs = [.int i, .int j] ∧ Q (.int (if j > i then j else i)) H
def sMin2 : SRC := fun vs m S => match vs with
  | [.int i, .int j] => S (.int (if j < i then j else i)) m
  | _ => False
def sMax2 : SRC := fun vs m S => match vs with
  | [.int i, .int j] => S (.int (if j > i then j else i)) m
  | _ => False
theorem sim_min2 : SimC K rMin2' sMin2 := fun F H m xs as S Q M rs h c => by
  unfold sMin2 at h
  split at h
  · obtain ⟨v, w, rfl, rv, rw_⟩ := vrs_two rs
    obtain rfl := vr_int rv
    obtain rfl := vr_int rw_
    exact ⟨_, _, rfl, c _ F H _ m (.refl F) M (.int _) h⟩
  · exact h.elim
/-- tuple(..), list(..) -/
abbrev rTupG (K : PySem.W.Frag) : List V → Hp → VK → Prop := fun xs H Q => ∃ p ys, xs = [.ref p] ∧ ((SqL K H p ys ∧ ∀ l, H l = none → Q (.ref l) (upd H l (.tup ys))) ∨ (SqT K H p ys ∧ Q (.ref p) H))
abbrev rLstG (K : PySem.W.Frag) : List V → Hp → VK → Prop := fun xs H Q => ∃ p ys, xs = [.ref p] ∧ (SqL K H p ys ∨ SqT K H p ys) ∧ ∀ l, H l = none → Q (.ref l) (upd H l (.lst ys))
theorem cr_tup {X : Cx} (K : PySem.W.Frag) (hK : X.K = K := by rfl) : CallR X (.type "tuple") (rTupG K) := by subst hK; exact call_tuple_of
theorem cr_lst {X : Cx} (K : PySem.W.Frag) (hK : X.K = K := by rfl) : CallR X (.type "list") (rLstG K) := by subst hK; exact call_list_of
def sTupOf : SRC := fun vs m S => match vs with
  | [x] => ∃ ys, Its m x ys ∧ S (.tup ys) m
  | _ => False
def sLstOf : SRC := fun vs m S => match vs with
  | [x] => ∃ ys, Its m x ys ∧ ∀ p, m p = none → S (.ref p) (up m p (.lst ys))
  | _ => False
theorem sim_tupOf : SimC K (rTupG K) sTupOf := fun F H m xs as S Q M rs h c => by
  unfold sTupOf at h
  split at h
  · obtain ⟨ys, h1, q⟩ := h
    obtain ⟨v, rfl, rv⟩ := vrs_one rs
    have key : ∀ p vs, v = .ref p → SqL K H p vs → VRs K F vs ys → rTupG K [v] H Q := fun p vs e hs r2 => by
      subst e
      exact ⟨p, vs, rfl, .inl ⟨hs, fun l hl => c (.ref l) (upd F l _) _ _ m (Sub.new (M.sub.gone hl)) (M.frz hl) (.tup (.inl (.inl upd_same)) (vrs_sub (Sub.new (M.sub.gone hl)) r2)) q⟩⟩
    cases rv with
    | tup g1 r2 =>
      cases (show ys = _ from h1)
      exact ⟨_, _, rfl, .inr ⟨sqt_sub M.sub g1, c _ F H _ m (.refl F) M (.tup g1 r2) q⟩⟩
    | lst g1 r2 => cases (show ys = _ from h1); exact key _ _ rfl (sql_sub M.sub g1) r2
    | ptup g1 _ r2 =>
      cases (show ys = _ from h1)
      exact ⟨_, _, rfl, .inr ⟨.inl (.inr ⟨_, M.sub _ _ g1⟩), c _ F H _ m (.refl F) M (.tup (.inl (.inr ⟨_, g1⟩)) r2) q⟩⟩
    | ref p =>
      obtain ⟨vs, e, r2⟩ := M.lst_ (show m p = some (.lst ys) from h1)
      exact key _ _ rfl (.inl (.inl e)) r2
    | _ => exact (show False from h1).elim
  · exact h.elim
theorem sim_lstOf : SimC K (rLstG K) sLstOf := fun F H m xs as S Q M rs h c => by
  unfold sLstOf at h
  split at h
  · obtain ⟨ys, h1, q⟩ := h
    obtain ⟨v, rfl, rv⟩ := vrs_one rs
    obtain ⟨p, vs, rfl, hs, r2⟩ := its_seq M rv h1
    exact ⟨p, vs, rfl, hs, fun l hl => c (.ref l) F _ _ _ (.refl F) (M.newL hl r2) (.ref l) (q l (M.gone hl))⟩
  · exact h.elim
/-- int(..) of an int, a bool -/
abbrev rInt1 : List V → Hp → VK → Prop := fun xs H Q => (∃ i, xs = [.int i] ∧ Q (.int i) H) ∨ ∃ k, xs = [.bl k] ∧ Q (.int (if k then 1 else 0)) H
def sInt1 : SRC := fun vs m S => match vs with
  | [.int i] => S (.int i) m
  | [.bl k] => S (.int (if k then 1 else 0)) m
  | _ => False
theorem sim_int1 : SimC K rInt1 sInt1 := fun F H m xs as S Q M rs h c => by
  unfold sInt1 at h
  split at h
  · obtain ⟨v, rfl, rv⟩ := vrs_one rs
    obtain rfl := vr_int rv
    exact .inl ⟨_, rfl, c _ F H _ m (.refl F) M (.int _) h⟩
  · obtain ⟨v, rfl, rv⟩ := vrs_one rs
    obtain rfl := vr_bl rv
    exact .inr ⟨_, rfl, c _ F H _ m (.refl F) M (.int _) h⟩
  · exact h.elim
/-- str(n) -/
abbrev rStrI : List V → Hp → VK → Prop := fun xs H Q => ∃ i, xs = [.int i] ∧ i.natAbs.log2 < 1920 ∧ Q (.str (toString i)) H
def sStrI : SRC := fun vs m S => match vs with
  | [.int i] => i.natAbs.log2 < 1920 ∧ S (.str (toString i)) m
  | _ => False
end
end Sy

set_option Elab.async false
set_option linter.all false
set_option maxRecDepth 100000
set_option maxHeartbeats 4000000
/-! Statements, loops, comprehensions, defs over symbolic values. -/
namespace Sy
open PySem PySem.Spec PyProof.Rows L2
structure SEnds where
  nx : DS → Mem → Prop
  rt : SV → Mem → Prop
  bk : DS → Mem → Prop := fun _ _ => False
  ct : DS → Mem → Prop := fun _ _ => False
abbrev SS := SXK → SEnds → DS → Mem → Prop
def CnS (K : PySem.W.Frag) (F : Hp) (S : DS → Mem → Prop) (Q : L2.St → Hp → Prop) : Prop := ∀ σ δ F' H' m', Sub F F' → SR K F' σ δ → MR K F' H' m' → S δ m' → Q σ H'
theorem CnS.go {K : PySem.W.Frag} {F F' : Hp} {S : DS → Mem → Prop} {Q : L2.St → Hp → Prop} (c : CnS K F S Q) (s : Sub F F') : CnS K F' S Q := fun v F2 H2 sv m2 s2 => c v F2 H2 sv m2 (s.trans s2)
structure EndOk (K : PySem.W.Frag) (F : Hp) (E : Ends) (D : SEnds) : Prop where
  nx : CnS K F D.nx E.nx
  rt : Cn K F D.rt E.rt
  bk : CnS K F D.bk E.bk
  ct : CnS K F D.ct E.ct
theorem EndOk.go {K : PySem.W.Frag} {F F' : Hp} {E : Ends} {D : SEnds} (c : EndOk K F E D) (s : Sub F F') : EndOk K F' E D := ⟨c.nx.go s, c.rt.go s, c.bk.go s, c.ct.go s⟩
def SimS (K : PySem.W.Frag) (E : XK) (ts : TS) (ss : SS) : Prop := ∀ σ F H δ m SX D Es, Rl K E σ F H δ m SX → ss SX D δ m → EndOk K F Es D → ts Es σ H
structure GS (K : PySem.W.Frag) (E : XK) (X : Cx) (st : Stmt) (ts : TS) (ss : SS) : Prop where
  pe : PS X st ts
  sim : SimS K E ts ss
structure GSs (K : PySem.W.Frag) (E : XK) (X : Cx) (st : List Stmt) (ts : TS) (ss : SS) : Prop where
  pe : PSs X st ts
  sim : SimS K E ts ss
/-! targets -/
abbrev SG := SXK → SV → DS → Mem → (DS → Mem → Prop) → Prop
abbrev SGs := SXK → List SV → DS → Mem → (DS → Mem → Prop) → Prop
def SimG (K : PySem.W.Frag) (E : XK) (g : TG) (s : SG) : Prop := ∀ σ F H δ m SX v sv S Q, Rl K E σ F H δ m SX → VR K F v sv → s SX sv δ m S → CnS K F S Q → g v σ H Q
def SimGs (K : PySem.W.Frag) (E : XK) (g : TGs) (s : SGs) : Prop := ∀ σ F H δ m SX v sv S Q, Rl K E σ F H δ m SX → VRs K F v sv → s SX sv δ m S → CnS K F S Q → g v σ H Q
structure GG (K : PySem.W.Frag) (E : XK) (X : Cx) (e : Expr) (g : TG) (s : SG) : Prop where
  pe : PG X e g
  sim : SimG K E g s
structure GGs (K : PySem.W.Frag) (E : XK) (X : Cx) (e : List Expr) (g : TGs) (s : SGs) : Prop where
  pe : PGs X e g
  sim : SimGs K E g s
def hName (i : Nat) : SG := fun _ v δ m S => S (δ.set i (some v)) m
def hNil : SGs := fun _ vs δ m S => match vs with
  | [] => S δ m
  | _ => False
def hCons (g : SG) (r : SGs) : SGs := fun SX vs δ m S => match vs with
  | v :: ws => g SX v δ m fun δ1 m1 => r SX ws δ1 m1 S
  | [] => False
def hTup (n : Nat) (r : SGs) : SG := fun SX v δ m S => match v with
  | .tup xs => xs.length = n ∧ r SX xs δ m S
  | _ => False
section
variable {K : PySem.W.Frag} {E : XK} {X : Cx} {a b c e : Expr} {es : List Expr} {ta tb tc te : TE} {sa sb sc se : SE} {pos pos' : Pos} {g : TG} {gs : TGs} {sg : SG} {sgs : SGs}
theorem gg_name {i : Nat} {x : Str} (hN : X.N.Nodup) (hi : X.N[i]? = some x) (hx : Loc X.env.scope x) (hf : X.fn x = true ∨ X.env.scope.names.lookup x = some .local := by first | exact .inl rfl | exact .inr rfl | assumption) : GG K E X (.Name x pos) (gName i) (hName i) :=
  ⟨pg_name hN hi hx hf, fun σ F H δ m SX v sv S Q r rv h c => c _ _ F H m (.refl F) (r.sr.set rv) r.mr h⟩
theorem ggs_nil : GGs K E X [] gNil hNil := ⟨pgs_nil, fun σ F H δ m SX v sv S Q r rv h c => by
  cases rv with
  | nil => exact ⟨rfl, c _ _ F H m (.refl F) r.sr r.mr h⟩
  | cons _ _ => exact (show False from h).elim⟩
theorem ggs_cons (h1 : GG K E X e g sg) (h2 : GGs K E X es gs sgs) (hs : (assignEach (e :: es) X.env).map (·.2) = assign e X.env :: (assignEach es X.env).map (·.2) := by rfl) : GGs K E X (e :: es) (gCons g gs) (hCons sg sgs) := ⟨pgs_cons h1.pe h2.pe hs, fun σ F H δ m SX v sv S Q r rv h c => by
  cases rv with
  | nil => exact (show False from h).elim
  | cons r1 r2 =>
    exact ⟨_, _, rfl, h1.sim σ F H δ m SX _ _ _ _ r r1 h fun σ1 δ1 F1 H1 m1 s1 sr1 M1 q1 => h2.sim σ1 F1 H1 δ1 m1 SX _ _ S Q ⟨sr1, M1, r.ex.go s1⟩ (vrs_sub s1 r2) q1 (c.go s1)⟩⟩
theorem gg_tup (n : Nat) {k : Nat} (hc : X.calm = true) (h : GGs K E X es gs sgs) (hn : (assignEach es X.env).length = n := by rfl) (hst : (assignEach es X.env).findIdx? (·.1) = none := by rfl) (hK : X.K = K := by rfl) : GG K E X (.Tuple es k pos) (gTup K n gs) (hTup n sgs) := by
  subst hK
  exact ⟨pg_tup hc h.pe hn hst, fun σ F H δ m SX v sv S Q r rv hh c => by
    cases rv with
    | tup h1 h2 => exact ⟨_, _, rfl, sqt_sub r.mr.sub h1, by rw [vrs_length h2]; exact hh.1, h.sim σ F H δ m SX _ _ S Q r h2 hh.2 c⟩
    | _ => exact (show False from hh).elim⟩
/-- o[i] = v of a list -/
def hSubL (o i : SE) : SG := fun SX v δ m S => o SX δ m fun x m1 => i SX δ m1 fun y m2 => match x, y with
  | .ref a, .int k => ∃ xs j, m2 a = some (.lst xs) ∧ ixN xs.length k = some j ∧ S δ (up m2 a (.lst (xs.set j v)))
  | _, _ => False
theorem gg_subL (ho : GE K E X a ta sa) (hi : GE K E X b tb sb) (ha : ∀ v, assign (.Subscript a b pos) X.env v = (do
      let ov ← holding [v] (eval a X.env)
      let iv ← holding [v, ov] (eval b X.env)
      standAt pos
      holding [v, ov, iv] (setItem ov iv v)
      release [v, ov, iv] []) := by intro _; rfl) : GG K E X (.Subscript a b pos) (gSub ta tb rSetL) (hSubL sa sb) := ⟨pg_sub ho.pe hi.pe set_list ha, fun σ F H δ m SX v sv S Q r rv h c =>
  ho.sim σ F H δ m SX _ _ r h fun x F1 H1 sx m1 s1 M1 v1 h1 => hi.sim σ F1 H1 δ m1 SX _ _ (r.go s1 M1) h1 fun y F2 H2 sy m2 s2 M2 v2 h2 => by
    have v1 := vr_sub s2 v1
    cases v1 <;> cases v2 <;> first
      | exact (show False from h2).elim
      | skip
    obtain ⟨xs, j, e1, e2, q⟩ := (show ∃ xs j, _ from h2)
    obtain ⟨vs, e3, r3⟩ := M2.lst_ e1
    have s12 := s1.trans s2
    exact ⟨_, vs, _, j, rfl, rfl, e3, by rw [vrs_length r3]; exact e2, c _ δ F2 _ _ s12 (r.sr.sub s12) (M2.setL e1 (vrs_set j r3 (vr_sub s12 rv))) q⟩⟩
end
/-! small statements -/
def sNext : SS := fun _ D δ m => D.nx δ m
def sSeq (t u : SS) : SS := fun SX D δ m => t SX { D with nx := fun δ1 m1 => u SX D δ1 m1 } δ m
def sAsg (a : SE) (g : SG) : SS := fun SX D δ m => a SX δ m fun x m1 => g SX x δ m1 D.nx
def sDrop (a : SE) : SS := fun SX D δ m => a SX δ m fun _ m1 => D.nx δ m1
def sRet (a : SE) : SS := fun SX D δ m => a SX δ m D.rt
def sRetN : SS := fun _ D _ m => D.rt .non m
def sIfS (c : STt) (t u : SS) : SS := fun SX D δ m => c SX δ m fun b m1 => Br b (t SX D δ m1) (u SX D δ m1)
def sBreak : SS := fun _ D δ m => D.bk δ m
def sCont : SS := fun _ D δ m => D.ct δ m
def sNever : SS := fun _ _ _ _ => False
section
variable {K : PySem.W.Frag} {E : XK} {X : Cx} {a b c e : Expr} {es : List Expr} {ta tb tc te : TE} {sa sb sc se : SE} {pos pos' : Pos} {g : TG} {gs : TGs} {sg : SG} {sgs : SGs} {st : Stmt} {sts rest : List Stmt} {t u : TS} {zt zu : SS} {ct : TT} {cs : STt}
theorem gss_nil : GSs K E X [] tNext sNext := ⟨pss_nil, fun σ F H δ m SX D Es r h q => q.nx σ δ F H m (.refl F) r.sr r.mr h⟩
theorem gss_one (h : GS K E X st t zt) : GSs K E X [st] t zt := ⟨pss_one h.pe, h.sim⟩
theorem gss_cons (h1 : GS K E X st t zt) (h2 : GSs K E X rest u zu) : GSs K E X (st :: rest) (tSeq t u) (sSeq zt zu) := ⟨pss_cons h1.pe h2.pe, fun σ F H δ m SX D Es r h q =>
  h1.sim σ F H δ m SX _ _ r h ⟨fun σ1 δ1 F1 H1 m1 s1 sr1 M1 q1 => h2.sim σ1 F1 H1 δ1 m1 SX D Es ⟨sr1, M1, r.ex.go s1⟩ q1 (q.go s1), q.rt, q.bk, q.ct⟩⟩
theorem gs_never : GS K E X st tNever sNever := ⟨ps_never, fun σ F H δ m SX D Es r h q => h.elim⟩
theorem gs_expr (he : GE K E X e te se) (hs : swapsWith e none pos.line X.env = pure false := by rfl) : GS K E X (.Expr e pos) (tDrop te) (sDrop se) := ⟨ps_expr he.pe hs, fun σ F H δ m SX D Es r h q =>
  he.sim σ F H δ m SX _ _ r h fun v F1 H1 sv m1 s1 M1 v1 h1 => q.nx σ δ F1 H1 m1 s1 (r.sr.sub s1) M1 h1⟩
theorem gs_ret (he : GE K E X e te se) : GS K E X (.Return (some e) pos) (tRet te) (sRet se) := ⟨ps_ret he.pe, fun σ F H δ m SX D Es r h q => he.sim σ F H δ m SX _ _ r h q.rt⟩
theorem sim_asg (he : SimE K E te se) (hg : SimG K E g sg) : SimS K E (tAsg te g) (sAsg se sg) := fun σ F H δ m SX D Es r h q =>
  he σ F H δ m SX _ _ r h fun v F1 H1 sv m1 s1 M1 v1 h1 => hg σ F1 H1 δ m1 SX v sv _ _ (r.go s1 M1) v1 h1 (q.nx.go s1)
theorem gs_asg (he : GE K E X e te se) (hg : GG K E X a g sg) (hs : swapsWithSole [a] e pos.line X.env = pure false := by rfl) (hw : swappedStores [a] e X.env = pure none := by rfl)
    (h1 : (assignEach [a] X.env).map (·.2) = [assign a X.env] := by rfl) : GS K E X (.Assign [a] e pos) (tAsg te g) (sAsg se sg) := ⟨ps_asg he.pe hg.pe hs hw h1, sim_asg he.sim hg.sim⟩
theorem gs_set {i : Nat} {x : Str} (hN : X.N.Nodup) (hi : X.N[i]? = some x) (hx : Loc X.env.scope x) (he : GE K E X e te se) (hs : swapsWith e (some (.Name x pos')) pos.line X.env = pure false := by rfl) (hf : X.fn x = true ∨ X.env.scope.names.lookup x = some .local := by first | exact .inl rfl | exact .inr rfl | assumption) : GS K E X (.Assign [.Name x pos'] e pos) (tAsg te (gName i)) (sAsg se (hName i)) :=
  ⟨ps_set hN hi hx he.pe hs hf, sim_asg he.sim fun σ F H δ m SX v sv S Q r rv h c => c _ _ F H m (.refl F) (r.sr.set rv) r.mr h⟩
theorem gs_if {s1 s2 : List Stmt} (hc : GT K E X c ct cs) (h1 : GSs K E X s1 t zt) (h2 : GSs K E X s2 u zu) : GS K E X (.If c s1 s2 pos) (tIfS ct t u) (sIfS cs zt zu) := ⟨ps_if hc.pe h1.pe h2.pe, fun σ F H δ m SX D Es r h q =>
  hc.sim σ F H δ m SX _ _ r h fun b F1 H1 m1 s1 M1 h1' => by
    rw [Br_eq] at h1'
    cases b with
    | true => exact h1.sim σ F1 H1 δ m1 SX D Es (r.go s1 M1) (by simpa using h1') (q.go s1)
    | false => exact h2.sim σ F1 H1 δ m1 SX D Es (r.go s1 M1) (by simpa using h1') (q.go s1)⟩
end
/-! ### while -/
@[irreducible] def WhileGo (c : STt) (b : SS) (SX : SXK) (D : SEnds) (δ : DS) (m : Mem) : Prop := ∃ W : Nat → DS → Mem → Prop, (∃ n, W n δ m) ∧ ∀ n δ m, W n δ m →
  c SX δ m fun t m1 => Br t (b SX { D with nx := fun δ' m' => ∃ n', n' < n ∧ Fg (W n' δ') m', ct := fun δ' m' => ∃ n', n' < n ∧ Fg (W n' δ') m', bk := D.nx } δ m1) (D.nx δ m1)
def sWhile (c : STt) (b : SS) : SS := fun SX D δ m => WhileGo c b SX D δ m
section
variable {K : PySem.W.Frag} {E : XK} {X : Cx} {c : Expr} {pos : Pos} {body : List Stmt} {t : TS} {zt : SS} {ct : TT} {cs : STt}
end
/-! ### what is walked -/
abbrev SI := SXK → DS → Mem → (List SV → (Mem → Prop) → Mem → Prop) → Prop
structure ItOk (K : PySem.W.Frag) (F : Hp) (J : It) (items : List SV) (keep : Mem → Prop) : Prop where
  go : ∀ i F' H' m' x, Sub F F' → MR K F' H' m' → keep m' → items[i]? = some x → J.go i H' ∧ ∀ v H'', J.yld i H' v H'' → ∃ F'', Sub F' F'' ∧ MR K F'' H'' m' ∧ VR K F'' v x
  stop : ∀ F' H' m', Sub F F' → MR K F' H' m' → keep m' → J.stop items.length H'
def SimI (K : PySem.W.Frag) (E : XK) (ti : TI) (si : SI) : Prop := ∀ σ F H δ m SX R R', Rl K E σ F H δ m SX → si SX δ m R → (∀ J items keep F' H' m', Sub F F' → MR K F' H' m' → ItOk K F' J items keep → R items keep m' → R' J H') → ti σ H R'
structure GI (K : PySem.W.Frag) (E : XK) (X : Cx) (tg e : Expr) (ti : TI) (si : SI) : Prop where
  pe : PI X tg e ti
  sim : SimI K E ti si
def iSeq (K : PySem.W.Frag) (tl : TE) : TI := fun σ H R => tl σ H fun x H1 => ∃ a, x = .ref a ∧ (((∃ xs, SqL K H1 a xs) ∧ R (Itl K a) H1) ∨ ((∃ xs, SqT K H1 a xs) ∧ R (Itt K a) H1))
theorem pi_seq {X : Cx} {tg l : Expr} {tl : TE} (hl : PE X l tl) : PI X tg l (iSeq X.K tl) := by
  refine ⟨fun pins s σ H R I h => ?_⟩
  refine thn (hl.run pins s σ H _ I h) fun v s1 ⟨x, H1, I1, r1, q1⟩ => ?_
  obtain ⟨a, e, q⟩ := q1
  subst e
  cases r1
  rcases q with ⟨⟨xs, hq⟩, q⟩ | ⟨⟨xs, hq⟩, q⟩
  · obtain ⟨its, rv, p, hz⟩ := I1.list hq
    refine wpAny_pyIter_list p.isList ?_
    refine ⟨s1.heap.objs.size, [s1.heap.objs.size], _, _, H1, rfl, I1.kept (t' := s1.toks) fun b o e => Heap.get?_push_of_some _ e, turn_list a _, ⟨_, Heap.get?_push_size _ rfl, rfl, rfl⟩, fun b hb => ?_, q⟩
    have e : b = s1.heap.objs.size := by simpa using hb
    subst e
    exact I1.fpOk (Nat.le_refl _) (I1.hok.fresh (Nat.le_refl _))
  · obtain ⟨its, rv, p, hz⟩ := I1.tuple hq
    refine wpAny_pyIter_tuple (show s1.heap.IsTuple a its.toArray from p) ?_
    refine ⟨s1.heap.objs.size, [s1.heap.objs.size], _, _, H1, rfl, I1.kept (t' := s1.toks) fun b o e => Heap.get?_push_of_some _ e, turn_tuple a _, ⟨_, Heap.get?_push_size _ rfl, rfl, rfl⟩, fun b hb => ?_, q⟩
    have e : b = s1.heap.objs.size := by simpa using hb
    subst e
    exact I1.fpOk (Nat.le_refl _) (I1.hok.fresh (Nat.le_refl _))
def keepOf (x : SV) (xs : List SV) (m : Mem) : Prop := match x with
  | .ref a => m a = some (.lst xs)
  | _ => True
def sSeqI (a : SE) : SI := fun SX δ m R => a SX δ m fun x m1 => ∃ xs, Its m1 x xs ∧ R xs (keepOf x xs) m1
section
variable {K : PySem.W.Frag} {F : Hp}
theorem it_l {a : Addr} {items : List SV} {keep : Mem → Prop} (h : ∀ F' H' m', Sub F F' → MR K F' H' m' → keep m' → ∃ vs, SqL K H' a vs ∧ VRs K F' vs items) : ItOk K F (Itl K a) items keep where
  go := fun i F' H' m' x s M k e => by
    obtain ⟨vs, h1, h2⟩ := h F' H' m' s M k
    obtain ⟨v, hv, rv⟩ := vrs_get h2 e
    refine ⟨⟨vs, v, h1, hv⟩, fun w H'' hy => ?_⟩
    obtain ⟨rfl, hy⟩ := hy
    have z := hy vs h1
    rw [hv] at z
    cases z
    exact ⟨F', .refl F', M, rv⟩
  stop := fun F' H' m' s M k => by
    obtain ⟨vs, h1, h2⟩ := h F' H' m' s M k
    exact ⟨vs, h1, by rw [vrs_length h2]; exact Nat.le_refl _⟩
theorem it_t {a : Addr} {items : List SV} {keep : Mem → Prop} (h : ∀ F' H' m', Sub F F' → MR K F' H' m' → keep m' → ∃ vs, SqT K H' a vs ∧ VRs K F' vs items) : ItOk K F (Itt K a) items keep where
  go := fun i F' H' m' x s M k e => by
    obtain ⟨vs, h1, h2⟩ := h F' H' m' s M k
    obtain ⟨v, hv, rv⟩ := vrs_get h2 e
    refine ⟨⟨vs, v, h1, hv⟩, fun w H'' hy => ?_⟩
    obtain ⟨rfl, hy⟩ := hy
    have z := hy vs h1
    rw [hv] at z
    cases z
    exact ⟨F', .refl F', M, rv⟩
  stop := fun F' H' m' s M k => by
    obtain ⟨vs, h1, h2⟩ := h F' H' m' s M k
    exact ⟨vs, h1, by rw [vrs_length h2]; exact Nat.le_refl _⟩
/-- lo, lo + 1, .. -/
def rngS : Int → Nat → List SV
  | _, 0 => []
  | lo, n + 1 => .int lo :: rngS (lo + 1) n
theorem rngS_length : ∀ (n : Nat) (lo : Int), (rngS lo n).length = n
  | 0, _ => rfl
  | n + 1, lo => by rw [rngS, List.length_cons, rngS_length n]
theorem rngS_get : ∀ (n : Nat) (lo : Int) (i : Nat) (x : SV), (rngS lo n)[i]? = some x → i < n ∧ x = .int (lo + (i : Nat))
  | 0, _, _, _, e => by simp [rngS] at e
  | n + 1, lo, 0, x, e => by
    simp [rngS] at e
    exact ⟨Nat.succ_pos _, by rw [← e]; simp⟩
  | n + 1, lo, i + 1, x, e => by
    obtain ⟨h1, h2⟩ := rngS_get n (lo + 1) i x (by simpa [rngS] using e)
    exact ⟨Nat.succ_lt_succ h1, by rw [h2]; congr 1; push_cast; omega⟩
theorem it_r {lo : Int} {n : Nat} : ItOk K F (Itr lo n) (rngS lo n) (fun _ => True) where
  go := fun i F' H' m' x s M k e => by
    obtain ⟨h1, rfl⟩ := rngS_get n lo i x e
    refine ⟨h1, fun w H'' hy => ?_⟩
    obtain ⟨rfl, rfl⟩ := hy
    exact ⟨F', .refl F', M, .int _⟩
  stop := fun F' H' m' s M k => by rw [rngS_length]; exact Nat.le_refl _
end
def sRng1 (a : SA) : SI := fun SX δ m R => a SX δ m fun xs m1 => match xs with
  | [.int j] => (-(2 ^ 62) ≤ j ∧ j < 2 ^ 62) ∧ R (rngS 0 j.toNat) (fun _ => True) m1
  | _ => False
def sRng2 (a : SA) : SI := fun SX δ m R => a SX δ m fun xs m1 => match xs with
  | [.int i, .int j] => (-(2 ^ 62) ≤ i ∧ i < 2 ^ 62 ∧ -(2 ^ 62) ≤ j ∧ j < 2 ^ 62) ∧ R (rngS i (j - i).toNat) (fun _ => True) m1
  | _ => False
theorem one_int {xs : List SV} {P : Int → Prop} (h : match xs with | [.int j] => P j | _ => False) : ∃ j, xs = [.int j] ∧ P j := by
  split at h
  · exact ⟨_, rfl, h⟩
  · exact h.elim
section
variable {K : PySem.W.Frag} {E : XK} {X : Cx} {tg a b l e : Expr} {ta tl : TE} {sa sl : SE} {pos p : Pos} {t : TA} {s : SA}
theorem gi_seq (h : GE K E X l tl sl) (hK : X.K = K := by rfl) : GI K E X tg l (iSeq K tl) (sSeqI sl) := by
  subst hK
  exact ⟨pi_seq h.pe, fun σ F H δ m SX R R' r hh c => h.sim σ F H δ m SX _ _ r hh fun v F1 H1 sv m1 s1 M1 v1 h1 => by
    obtain ⟨xs, hi, q⟩ := h1
    cases v1 with
    | tup g1 g2 =>
      cases (show xs = _ from hi)
      exact ⟨_, rfl, .inr ⟨⟨_, sqt_sub M1.sub g1⟩, c _ _ _ F1 H1 m1 s1 M1 (it_t fun F2 H2 m2 s2 M2 _ => ⟨_, sqt_sub (s2.trans M2.sub) g1, vrs_sub s2 g2⟩) q⟩⟩
    | lst g1 g2 =>
      cases (show xs = _ from hi)
      exact ⟨_, rfl, .inl ⟨⟨_, sql_sub M1.sub g1⟩, c _ _ _ F1 H1 m1 s1 M1 (it_l fun F2 H2 m2 s2 M2 _ => ⟨_, sql_sub (s2.trans M2.sub) g1, vrs_sub s2 g2⟩) q⟩⟩
    | ptup g1 _ g2 =>
      cases (show xs = _ from hi)
      exact ⟨_, rfl, .inr ⟨⟨_, .inl (.inr ⟨_, M1.sub _ _ g1⟩)⟩, c _ _ _ F1 H1 m1 s1 M1 (it_t fun F2 H2 m2 s2 M2 _ => ⟨_, .inl (.inr ⟨_, (s2.trans M2.sub) _ _ g1⟩), vrs_sub s2 g2⟩) q⟩⟩
    | ref p =>
      obtain ⟨vs, e1, _⟩ := M1.lst_ (show m1 p = some (.lst xs) from hi)
      exact ⟨_, rfl, .inl ⟨⟨_, .inl (.inl e1)⟩, c _ _ _ F1 H1 m1 s1 M1 (it_l fun F2 H2 m2 s2 M2 k => by
        obtain ⟨ws, e2, r2⟩ := M2.lst_ (show m2 p = some (.lst xs) from k)
        exact ⟨ws, .inl (.inl e2), r2⟩) q⟩⟩
    | _ => exact (show False from hi).elim⟩
theorem gi_range1 (hg : Gl X "range") (hm : X.mg "range" = none) (ha : GA K E X [a] t s) (hs : starEach [a] X.env = [(false, eval a X.env)] := by rfl) : GI K E X tg (.Call (.Name "range" p) [a] [] pos) (iRng1 t) (sRng1 s) := ⟨pi_range1 hg hm ha.pe hs, fun σ F H δ m SX R R' r hh c => ha.sim σ F H δ m SX _ _ r hh fun v F1 H1 sv m1 s1 M1 v1 h1 => by
  obtain ⟨j, rfl, h1⟩ := one_int h1
  obtain ⟨w, rfl, rw_⟩ := vrs_one v1
  obtain rfl := vr_int rw_
  exact ⟨_, rfl, h1.1.1, h1.1.2, c _ _ _ F1 H1 m1 s1 M1 it_r h1.2⟩⟩
end
/-! ### for -/
/-- I: what holds with the items that are left -/
@[irreducible] def ForGo (keep : Mem → Prop) (g : SG) (b : SS) (SX : SXK) (D : SEnds) (items : List SV) (δ : DS) (m : Mem) : Prop := ∃ I : List SV → DS → Mem → Prop, I items δ m ∧
  (∀ x r δ m, I (x :: r) δ m → keep m ∧ g SX x δ m fun δ1 m1 => b SX { D with nx := fun δ' => Fg (I r δ'), ct := fun δ' => Fg (I r δ'), bk := D.nx } δ1 m1) ∧ ∀ δ m, I [] δ m → keep m ∧ D.nx δ m
def sFor (si : SI) (g : SG) (b : SS) : SS := fun SX D δ m => si SX δ m fun items keep m1 => ForGo keep g b SX D items δ m1
theorem drop_cons {α : Type} {xs : List α} {i : Nat} {x : α} {r : List α} (h : xs.drop i = x :: r) : xs[i]? = some x ∧ xs.drop (i + 1) = r := by
  have h1 : i < xs.length := by
    by_cases q : i < xs.length
    · exact q
    · rw [List.drop_eq_nil_of_le (by omega)] at h; cases h
  rw [List.drop_eq_getElem_cons h1] at h
  injection h with h2 h3
  exact ⟨by rw [List.getElem?_eq_getElem h1, h2], h3⟩
section
variable {K : PySem.W.Frag} {E : XK} {X : Cx} {tg iter : Expr} {pos : Pos} {body : List Stmt} {t : TS} {zt : SS} {ti : TI} {si : SI} {g : TG} {sg : SG}
theorem gs_for (hp : PassesOwn (model X.prog X.w) X.A X.env X.xe) (hc : X.calm = true) (hi : GI K E X tg iter ti si) (hg : GG K E X tg g sg) (hb : GSs K E X body t zt) (hs : ∀ x, foldedSetIterable iter X.env x = pure x := by intro _; rfl) :
    GS K E X (.For tg iter body [] pos) (tFor ti g t) (sFor si sg zt) := ⟨ps_for hp hc hi.pe hg.pe hb.pe hs, fun σ F H δ m SX D Es r h q => hi.sim σ F H δ m SX _ _ r h fun J items keep F1 H1 m1 s1 M1 iok h1 => by
  unfold ForGo at h1
  obtain ⟨I, i0, step, done⟩ := h1
  refine ⟨fun i n σ' H' => ∃ F' δ' m' rest, Sub F1 F' ∧ SR K F' σ' δ' ∧ MR K F' H' m' ∧ items.drop i = rest ∧ n = rest.length ∧ i ≤ items.length ∧ I rest δ' m', ⟨_, F1, δ, m1, items, .refl F1, r.sr.sub s1, M1, rfl, rfl, Nat.zero_le _, i0⟩, ?_⟩
  rintro i n σ' H' ⟨F', δ', m', rest, s', sr', M', hd, rfl, hle, hI⟩
  cases rest with
  | nil =>
    obtain ⟨k, hn⟩ := done δ' m' hI
    have hl : items.length ≤ i := by simpa using hd
    obtain rfl : i = items.length := by omega
    exact .inl ⟨iok.stop F' H' m' s' M' k, q.nx σ' δ' F' H' m' (s1.trans s') sr' M' hn⟩
  | cons x rest =>
    obtain ⟨hx, hd2⟩ := drop_cons hd
    obtain ⟨k, hs⟩ := step x rest δ' m' hI
    obtain ⟨g1, g2⟩ := iok.go i F' H' m' x s' M' k hx
    refine .inr ⟨g1, fun σ2 H2 => ∃ F2 δ2 m2, Sub F1 F2 ∧ SR K F2 σ2 δ2 ∧ MR K F2 H2 m2 ∧ I rest δ2 m2, fun σ2 H2 ⟨F2, δ2, m2, a1, a2, a3, a4⟩ => ⟨rest.length, by simp, F2, δ2, m2, rest, a1, a2, a3, hd2, rfl, (List.getElem?_eq_some_iff.mp hx).1, a4⟩, fun v H'' hy => ?_⟩
    obtain ⟨F3, s3, M3, v3⟩ := g2 v H'' hy
    have s13 := s1.trans (s'.trans s3)
    refine hg.sim σ' F3 H'' δ' m' SX v x _ _ ⟨sr'.sub s3, M3, r.ex.go s13⟩ v3 hs fun σ4 δ4 F4 H4 m4 s4 sr4 M4 h4 => ?_
    have cn : CnS K F4 (fun δ' => Fg (I rest δ')) (fun σ2 H2 => ∃ F2 δ2 m2, Sub F1 F2 ∧ SR K F2 σ2 δ2 ∧ MR K F2 H2 m2 ∧ I rest δ2 m2) := fun σ5 δ5 F5 H5 m5 s5 sr5 M5 ⟨m6, l6, h5⟩ => ⟨F5, δ5, m6, (s'.trans s3).trans (s4.trans s5), sr5, M5.drop l6, h5⟩
    exact hb.sim σ4 F4 H4 δ4 m4 SX _ _ ⟨sr4, M4, r.ex.go (s13.trans s4)⟩ h4 ⟨cn, q.rt.go (s13.trans s4), q.nx.go (s13.trans s4), cn⟩⟩
end
/-! ### comprehensions -/
theorem wipe_set {σ : L2.St} {x : Option V} : ∀ {vs : List Nat} {v : Nat}, v ∈ vs → wipe (σ.set v x) vs = wipe σ vs
  | [], _, h => by cases h
  | w :: vs, v, h => by
    show (wipe (σ.set v x) vs).set w none = (wipe σ vs).set w none
    by_cases hv : v ∈ vs
    · rw [wipe_set hv]
    · have e : v = w := (List.mem_cons.mp h).resolve_right hv
      subst e
      have com : ∀ (us : List Nat), v ∉ us → wipe (σ.set v x) us = (wipe σ us).set v x := by
        intro us
        induction us with
        | nil => intro _; rfl
        | cons a us ih =>
          intro hn
          show (wipe (σ.set v x) us).set a none = ((wipe σ us).set a none).set v x
          rw [ih (fun z => hn (List.mem_cons_of_mem _ z)), List.set_comm]
          exact fun z => hn (by rw [z]; exact List.mem_cons_self)
      rw [com vs hv, List.set_set]
theorem wipe_wipe {σ2 σ : L2.St} {vs : List Nat} (h : wipe σ2 vs = wipe (wipe σ vs) vs) : wipe σ2 vs = wipe σ vs := by
  have key : ∀ us : List Nat, wipe (wipe σ us) us = wipe σ us := by
    intro us
    have step : ∀ (us ws : List Nat) (τ : L2.St), (∀ u ∈ us, u ∈ ws) → wipe (wipe τ us) ws = wipe τ ws := by
      intro us
      induction us with
      | nil => intro ws τ _; rfl
      | cons a us ih =>
        intro ws τ hs
        show wipe ((wipe τ us).set a none) ws = wipe τ ws
        rw [wipe_set (hs a List.mem_cons_self)]
        exact ih ws τ fun u hu => hs u (List.mem_cons_of_mem _ hu)
    exact step us us σ fun _ z => z
  rw [h, key]

/-- the target only writes to vs -/
def WpG (g : TG) (vs : List Nat) : Prop := ∀ v σ H (Q Q' : L2.St → Hp → Prop), g v σ H Q → (∀ σ' H', Q σ' H' → wipe σ' vs = wipe σ vs → Q' σ' H') → g v σ H Q'
def WpGs (g : TGs) (vs : List Nat) : Prop := ∀ v σ H (Q Q' : L2.St → Hp → Prop), g v σ H Q → (∀ σ' H', Q σ' H' → wipe σ' vs = wipe σ vs → Q' σ' H') → g v σ H Q'
theorem wp_name {i : Nat} {vs : List Nat} (h : i ∈ vs) : WpG (gName i) vs := fun v σ H Q Q' q k => k _ _ q (wipe_set h)
def sYes : STt := fun _ _ m S => S true m
structure GTs (K : PySem.W.Frag) (E : XK) (X : Cx) (e : List Expr) (te : TT) (se : STt) : Prop where
  pe : PTs X e te
  sim : SimT K E te se
/-- D: the new list's place; I: the items that are left, what is made so far -/
@[irreducible] def LcGo (p : Addr) (keep : Mem → Prop) (g : SG) (tt : STt) (te : SE) (vs : List Nat) (SX : SXK) (δ : DS) (items : List SV) (m : Mem) (S : SV → Mem → Prop) : Prop := ∃ I : List SV → List SV → Mem → Prop, I items [] (up m p (.lst [])) ∧
  (∀ x r acc m, I (x :: r) acc m → keep m ∧ g SX x (wipeD δ vs) m fun δ1 m1 => tt SX δ1 m1 fun b m2 => Br b (te SX δ1 m2 fun y m3 => m3 p = some (.lst acc) ∧ Fg (I r (acc ++ [y])) (up m3 p (.lst (acc ++ [y])))) (Fg (I r acc) m2)) ∧
  ∀ acc m, I [] acc m → keep m ∧ S (.ref p) m
def sLc (si : SI) (g : SG) (tt : STt) (te : SE) (vs : List Nat) : SE := fun SX δ m S => si SX δ m fun items keep m1 => items.length ≤ sizeLine ∧ ∀ p, m1 p = none → LcGo p keep g tt te vs SX δ items m1 S
section
variable {K : PySem.W.Frag} {E : XK} {X : Cx} {pos spos py : Pos} {ti : TI} {si : SI} {g : TG} {sg : SG} {elt tg iter c : Expr} {ifs : List Expr} {scope : Scope} {own : List (Str × Nat)} {tt : TT} {st : STt} {te : TE} {se : SE}
theorem gts_nil : GTs K E X [] tYes sYes := ⟨pts_nil, fun σ F H δ m SX S Q r h q => q true F H m (.refl F) r.mr h⟩
theorem gts_one (h : GT K E X c tt st) : GTs K E X [c] tt st := ⟨pts_one h.pe, h.sim⟩
theorem sim_lc {vs : List Nat} (hi : SimI K E ti si) (hg : SimG K E g sg) (hw : WpG g vs) (ht : SimT K E tt st) (he : SimE K E te se) : SimE K E (tLc ti g tt te vs) (sLc si sg st se vs) := fun σ F H δ m SX S Q r h q => hi σ F H δ m SX _ _ r h fun J items keep F1 H1 m1 s1 M1 iok h1 => by
  obtain ⟨hlen, h1⟩ := h1
  intro D hD
  have h1 := h1 D (M1.gone hD)
  unfold LcGo at h1
  obtain ⟨I, i0, step, done⟩ := h1
  refine ⟨fun i n H' => ∃ F' m' rest acc, Sub F1 F' ∧ MR K F' H' m' ∧ items.drop i = rest ∧ n = rest.length ∧ i ≤ items.length ∧ acc.length ≤ i ∧ I rest acc m', ⟨_, F1, _, items, [], .refl F1, M1.newL hD .nil, rfl, rfl, Nat.zero_le _, Nat.zero_le _, i0⟩, ?_⟩
  rintro i n H' ⟨F', m', rest, acc, s', M', hd, rfl, hle, hacc, hI⟩
  cases rest with
  | nil =>
    obtain ⟨k, hn⟩ := done acc m' hI
    have hl : items.length ≤ i := by simpa using hd
    obtain rfl : i = items.length := by omega
    exact .inl ⟨iok.stop F' H' m' s' M' k, q (.ref D) F' H' _ m' (s1.trans s') M' (.ref D) hn⟩
  | cons x rest =>
    obtain ⟨hx, hd2⟩ := drop_cons hd
    have hi1 := (List.getElem?_eq_some_iff.mp hx).1
    obtain ⟨k, hs⟩ := step x rest acc m' hI
    obtain ⟨g1, g2⟩ := iok.go i F' H' m' x s' M' k hx
    refine .inr ⟨g1, fun H2 => ∃ F2 m2 acc2, Sub F1 F2 ∧ MR K F2 H2 m2 ∧ acc2.length ≤ i + 1 ∧ I rest acc2 m2, fun H2 ⟨F2, m2, acc2, a1, a2, a3, a4⟩ => ⟨rest.length, by simp, F2, m2, rest, acc2, a1, a2, hd2, rfl, hi1, a3, a4⟩, fun v H'' hy => ?_⟩
    obtain ⟨F3, s3, M3, v3⟩ := g2 v H'' hy
    have s13 := s1.trans (s'.trans s3)
    refine hw v _ H'' _ _ (hg (wipe σ vs) F3 H'' (wipeD δ vs) m' SX v x _ (fun σ2 H2 => tt σ2 H2 fun b H3 =>
      if b = true then te σ2 H3 fun y H4 => ∃ acc, H4 D = some (.lst acc) ∧ acc.length < sizeLine ∧ ∃ F2 m2 acc2, Sub F1 F2 ∧ MR K F2 (upd H4 D (.lst (acc ++ [y]))) m2 ∧ acc2.length ≤ i + 1 ∧ I rest acc2 m2 else ∃ F2 m2 acc2, Sub F1 F2 ∧ MR K F2 H3 m2 ∧ acc2.length ≤ i + 1 ∧ I rest acc2 m2) ⟨(r.sr.sub s13).wipe vs, M3, r.ex.go s13⟩ v3 hs fun σ4 δ4 F4 H4 m4 s4 sr4 M4 h4 => ?_) (fun σ2 H2 q2 w2 => ⟨wipe_wipe w2, q2⟩)
    refine ht σ4 F4 H4 δ4 m4 SX _ _ ⟨sr4, M4, r.ex.go (s13.trans s4)⟩ h4 fun b F5 H5 m5 s5 M5 h5 => ?_
    rw [Br_eq] at h5
    have s15 := (s13.trans s4).trans s5
    have t15 := ((s'.trans s3).trans s4).trans s5
    split
    · next e =>
      rw [if_pos e] at h5
      refine he σ4 F5 H5 δ4 m5 SX _ _ ⟨sr4.sub s5, M5, r.ex.go s15⟩ h5 fun y F6 H6 sy m6 s6 M6 v6 h6 => ?_
      obtain ⟨e1, m7, l7, h6⟩ := h6
      obtain ⟨vs', e2, r2⟩ := M6.lst_ e1
      exact ⟨vs', e2, by rw [vrs_length r2]; omega, F6, _, _, t15.trans s6, (M6.setL e1 (vrs_append r2 (.cons v6 .nil))).drop l7, by rw [List.length_append]; simp; omega, h6⟩
    · next e =>
      rw [if_neg e] at h5
      obtain ⟨m7, l7, h5⟩ := h5
      exact ⟨F5, m7, acc, t15, M5.drop l7, by omega, h5⟩
theorem ge_lc (hc : X.calm = true) (hN : X.N.Nodup) (hi : GI K E X tg iter ti si) (ok : BlkOk X.N X.env.scope scope own)
    (hg : ∀ (s : Shared) (H : Hp) (C : Addr) (cl : List (Str × Addr)) (fp : List Addr), GG K E (X.blk s H scope (compEnvC scope cl C X.env) fp) tg g sg) (hw : WpG g (own.map (·.2))) (ht : ∀ (s : Shared) (H : Hp) (C : Addr) (cl : List (Str × Addr)) (fp : List Addr), GTs K E (X.blk s H scope (compEnvC scope cl C X.env) fp) ifs tt st)
    (he : ∀ (s : Shared) (H : Hp) (C : Addr) (cl : List (Str × Addr)) (fp : List Addr), GE K E (X.blk s H scope (compEnvC scope cl C X.env) fp) elt te se) (hs : ∀ x, foldedSetIterable iter X.env x = pure x := by intro _; rfl) :
    GE K E X (.ListComp elt [⟨tg, iter, ifs, 0⟩] scope pos) (tLc ti g tt te (own.map (·.2))) (sLc si sg st se (own.map (·.2))) :=
  ⟨pe_lc hc hN hi.pe ok (fun s H C cl fp => (hg s H C cl fp).pe) (fun s H C cl fp => (ht s H C cl fp).pe) (fun s H C cl fp => (he s H C cl fp).pe) hs,
    sim_lc hi.sim (hg X.s_0 X.H_0 0 [] []).sim hw (ht X.s_0 X.H_0 0 [] []).sim (he X.s_0 X.H_0 0 [] []).sim⟩
end
/-! ### defs -/
abbrev SpS := List SV → Mem → SXK → (SV → Mem → Prop) → Prop
def lift (K : PySem.W.Frag) (sp : SpS) : Sp := fun vs H Q E => ∃ F svs m SX S, MR K F H m ∧ VRs K F vs svs ∧ sp svs m SX S ∧ ExOk K F E SX ∧ Cn K F S Q
def sCall (sp : SpS) (dvs : List SV) (a : SA) : SE := fun SX δ m S => a SX δ m fun vs m1 => sp (vs ++ dvs) m1 SX S
abbrev FnP (K : PySem.W.Frag) (x : Str) (st : Stmt) (f : Addr) (fd : FuncData) : Prop := FunD K x x (defArgs st) (defBody st) (defScope st) [] [] f fd
section
variable {K : PySem.W.Frag} {E : XK} {X : Cx} {CX : CXT} {k : Nat} {f C : Addr} {fd : FuncData} {ps : List Str} {sp : SpS} {dvs : List V} {svs : List SV} {ds : List Value} {x : Str} {p pos : Pos} {e : Expr} {es : List Expr} {t : TA} {s : SA}
theorem sim_call (hd : ∀ F, VRs K F dvs svs) (ha : SimA K E t s) : SimE K E (tCall (lift K sp) dvs E t) (sCall sp svs s) := fun σ F H δ m SX S Q r h c =>
  ha σ F H δ m SX _ _ r h fun vs F1 H1 sv m1 s1 M1 v1 h1 => ⟨F1, sv ++ svs, m1, SX, S, M1, vrs_append v1 (hd F1), h1, r.ex.go s1, c.go s1⟩
theorem ge_call (F : FnOk X.prog X.w X.K X.mg X.base CX k f fd ps (lift K sp)) (hr : Room k X.A) (hg : Gl X x) (hm : X.mg x = some (.ref f)) (hk : PySem.W.keepIn X.K (.ref f) = true) (hb : Binds X.K fd ps ds) (hd : Vals dvs ds) (hds : ∀ F, VRs K F dvs svs) (hx : Passes CX X E)
    (ha : GA K E X (e :: es) t s) (hdb : (x == ("__debug__" : Str)) = false := by decide) (he : starEach (e :: es) X.env = (false, eval e X.env) :: starEach es X.env := by rfl) (hpl : (backTo pos (starEach es X.env)).any (·.1) = false := by rfl) :
    GE K E X (.Call (.Name x p) (e :: es) [] pos) (tCall (lift K sp) dvs E t) (sCall sp svs s) := ⟨pe_call F hr hg hm hk hb hd hx ha.pe hdb he hpl, sim_call hds ha.sim⟩
end
section
variable {P : Program} {w : World} {K : PySem.W.Frag} {mg : Str → Option Value} {base : Heap}
theorem fn_sy {x : Str} {st : Stmt} {f : Addr} {fd : FuncData} {N ps : List Str} {k : Nat} {sp : SpS} {dvs : List V} {kws : List (Str × V)} (Fn : FunD K x x (defArgs st) (defBody st) (defScope st) dvs kws f fd) (S : FnScope N ps (defScope st)) (hl : ∀ svs m SX Sv, sp svs m SX Sv → svs.length = ps.length)
    (hev : ∀ (cdv : Value) (A : Around) (outer : List Env) (s : Shared) (H : Hp) (E : XK), Room k (A.deeper (envOfC x (defScope st) s.heap.objs.size f cdv)) → ∃ ts ss, GSs K E (cxOf CX0 P w K mg base N x (defScope st) f cdv A outer s H E).nox (defBody st) ts ss ∧
      ∀ svs m SX Sv, sp svs m SX Sv → ss (fun x => Fg (SX x)) { nx := fun _ m' => Fg (Sv .non) m', rt := fun v => Fg (Sv v) } (startD N.length svs) m) : FnOk P w K mg base CX0 (k + 1) f fd ps (lift K sp) := by
  refine FunD.ok Fn S (fun vs H Q E h => by
    obtain ⟨F, svs, m, SX, Sv, _, h2, h3, _⟩ := h
    rw [vrs_length h2]; exact hl _ _ _ _ h3) (fun cdv A outer s H vs Q E hr h => ?_)
  obtain ⟨F, svs, m, SX, Sv, M, r, hsp, hx, c⟩ := h
  obtain ⟨ts, ss, hder, hev⟩ := hev cdv A outer s H E hr
  refine ⟨ts, PSs.nox hder.pe, ?_⟩
  exact hder.sim _ F H _ m (fun x => Fg (SX x)) { nx := fun _ m' => Fg (Sv .non) m', rt := fun v => Fg (Sv v) } _ ⟨SR.start r, M, hx.fg⟩ (hev svs m SX Sv hsp) ⟨fun σ' δ' F' H' m' s' _ M' ⟨m2, l2, q⟩ => c .non F' H' .non m2 s' (M'.drop l2) .non q, fun v F' H' sv m' s' M' rv ⟨m2, l2, q⟩ => c v F' H' sv m2 s' (M'.drop l2) rv q, fun _ _ _ _ _ _ _ _ q => q.elim, fun _ _ _ _ _ _ _ _ q => q.elim⟩
theorem fn_syX {x : Str} {st : Stmt} {f : Addr} {fd : FuncData} {N ps : List Str} {k : Nat} {sp : SpS} {dvs : List V} {kws : List (Str × V)} (Fn : FunD K x x (defArgs st) (defBody st) (defScope st) dvs kws f fd) (S : FnScope N ps (defScope st)) (hl : ∀ svs m SX Sv, sp svs m SX Sv → svs.length = ps.length)
    (hev : ∀ (cdv : Value) (A : Around) (outer : List Env) (s : Shared) (H : Hp) (E : XK), Room k (A.deeper (envOfC x (defScope st) s.heap.objs.size f cdv)) → ∃ ts ss, GSs K E (cxOf (L2.CX P w) P w K mg base N x (defScope st) f cdv A outer s H E) (defBody st) ts ss ∧
      ∀ svs m SX Sv, sp svs m SX Sv → ss (fun x => Fg (SX x)) { nx := fun _ m' => Fg (Sv .non) m', rt := fun v => Fg (Sv v) } (startD N.length svs) m) : FnOk P w K mg base (L2.CX P w) (k + 1) f fd ps (lift K sp) := by
  refine FunD.ok Fn S (fun vs H Q E h => by
    obtain ⟨F, svs, m, SX, Sv, _, h2, h3, _⟩ := h
    rw [vrs_length h2]; exact hl _ _ _ _ h3) (fun cdv A outer s H vs Q E hr h => ?_)
  obtain ⟨F, svs, m, SX, Sv, M, r, hsp, hx, c⟩ := h
  obtain ⟨ts, ss, hder, hev⟩ := hev cdv A outer s H E hr
  refine ⟨ts, hder.pe, ?_⟩
  exact hder.sim _ F H _ m (fun x => Fg (SX x)) { nx := fun _ m' => Fg (Sv .non) m', rt := fun v => Fg (Sv v) } _ ⟨SR.start r, M, hx.fg⟩ (hev svs m SX Sv hsp) ⟨fun σ' δ' F' H' m' s' _ M' ⟨m2, l2, q⟩ => c .non F' H' .non m2 s' (M'.drop l2) .non q, fun v F' H' sv m' s' M' rv ⟨m2, l2, q⟩ => c v F' H' sv m2 s' (M'.drop l2) rv q, fun _ _ _ _ _ _ _ _ q => q.elim, fun _ _ _ _ _ _ _ _ q => q.elim⟩
theorem passE {N : List Str} {x : Str} {sc : Scope} {f : Addr} {cdv : Value} {A : Around} {outer : List Env} {s : Shared} {H : Hp} {E : XK} : Passes (L2.CX P w) (cxOf (L2.CX P w) P w K mg base N x sc f cdv A outer s H E) E :=
  passes_call (X := cxOf (L2.CX P w) P w K mg base N x sc f cdv A outer s H E) (takes_of rfl rfl rfl rfl) fun _ _ _ _ h => h
end
/-- raise of an own class without an __init__ -/
def sRaise (C : Addr) : SS := fun SX _ _ m => SX ⟨C, none⟩ m
theorem sim_raise {K : PySem.W.Frag} {E : XK} {C : Addr} : SimS K E (fun _ _ H => E (.ref C) none H) (sRaise C) := fun σ F H δ m SX D Es r h q => r.ex ⟨C, none⟩ none F H m (.refl F) r.mr rfl h
end Sy

set_option Elab.async false
set_option linter.all false
set_option maxRecDepth 100000
set_option maxHeartbeats 4000000
namespace Sy
open PySem PySem.Spec PyProof.Rows L2
section
variable {K : PySem.W.Frag} {E : XK} {X : Cx}
theorem gv (i : Nat) {x : Str} {pos : Pos} (hN : X.N[i]? = some x := by rfl) (hv : Vis X.env.scope x := by first | exact Or.inl rfl | exact Or.inr (Or.inl rfl) | exact Or.inr (Or.inr rfl)) (hd : (x == ("__debug__" : Str)) = false := by decide)
    (hcd : (x == ("__classdict__" : Str)) = false := by decide) : GE K E X (.Name x pos) (tVar i) (sVar i) := ge_var hN hv hd hcd
theorem gs_raise {C : Addr} {st : Stmt} (h : PS X st (fun _ _ H => E (.ref C) none H)) : GS K E X st (fun _ _ H => E (.ref C) none H) (sRaise C) := ⟨h, sim_raise⟩
end
theorem mt_indexG {X : Cx} (K : PySem.W.Frag) (hK : X.K = K := by rfl) : MtR X "list.index" (rIndex K) := by subst hK; exact mt_index
def sPopAt : SRM := fun x vs m S => match x, vs with
  | .ref a, [.int i] => ∃ xs k y, m a = some (.lst xs) ∧ -(2 ^ 63) ≤ i ∧ i < 2 ^ 63 ∧ seqIndex? i xs.length = some k ∧ xs[k]? = some y ∧ S y (up m a (.lst (xs.eraseIdx k)))
  | _, _ => False
theorem sim_popAt {K : PySem.W.Frag} : SimM K rPopAt sPopAt := fun F H m x xs a as S Q M r rs h c => by
  cases r with
  | ref p =>
    unfold sPopAt at h
    split at h
    · have e := SV.ref.inj (by assumption : SV.ref p = SV.ref _)
      subst e
      obtain ⟨ys, k, y, e1, h1, h2, h3, h4, q⟩ := h
      obtain ⟨v, rfl, rv⟩ := vrs_one rs
      obtain rfl := vr_int rv
      obtain ⟨vs, e2, r2⟩ := M.lst_ e1
      obtain ⟨w, hw, rw_⟩ := vrs_get r2 h4
      exact ⟨p, vs, _, k, w, rfl, rfl, e2, h1, h2, by rw [vrs_length r2]; exact h3, hw, c _ F _ _ _ (.refl F) (M.setL e1 (vrs_erase k r2)) rw_ q⟩
    · exact h.elim
  | _ => exact (show False from by unfold sPopAt at h; exact h).elim
/-- a cut behind a statement: J is what is known there -/
@[irreducible] def CutGo (z : SS) (SX : SXK) (D : SEnds) (δ : DS) (m : Mem) : Prop := ∃ J : DS → Mem → Prop, z SX { D with nx := fun δ' => Fg (J δ') } δ m ∧ ∀ δ' m', J δ' m' → D.nx δ' m'
def sCut (z : SS) : SS := fun SX D δ m => CutGo z SX D δ m
theorem cut_by {z : SS} {SX : SXK} {D : SEnds} {δ : DS} {m : Mem} (J : DS → Mem → Prop) (h1 : z SX { D with nx := fun δ' => Fg (J δ') } δ m) (h2 : ∀ δ' m', J δ' m' → D.nx δ' m') : CutGo z SX D δ m := by
  unfold CutGo
  exact ⟨J, h1, h2⟩
theorem gs_cut {K : PySem.W.Frag} {E : XK} {X : Cx} {st : Stmt} {t : TS} {z : SS} (h : GS K E X st t z) : GS K E X st t (sCut z) := ⟨h.pe, fun σ F H δ m SX D Es r hh q => by
  have hh : CutGo z SX D δ m := hh
  unfold CutGo at hh
  obtain ⟨J, h1, h2⟩ := hh
  exact h.sim σ F H δ m SX _ Es r h1 ⟨fun σ1 δ1 F1 H1 m1 s1 sr1 M1 ⟨m2, l2, j⟩ => q.nx σ1 δ1 F1 H1 m2 s1 sr1 (M1.drop l2) (h2 δ1 m2 j), q.rt, q.bk, q.ct⟩⟩
/-- a value of a kind that isinstance tells -/
def Dat (m : Mem) (x : SV) : Prop := ∃ t, tyS m x t
def isInt : SV → Bool
  | .int _ => true
  | _ => false
theorem tyS_int {m : Mem} {x : SV} {t : String} (h : tyS m x t) : (isB t "int" && !isB t "bool") = isInt x := by
  cases x <;> first
    | exact (show False from h).elim
    | (cases (show t = _ from h); rfl)
    | (obtain ⟨rfl, _⟩ := (show t = "list" ∧ _ from h); rfl)
mutual
inductive DD (m : Mem) : SV → Prop
  | non : DD m .non
  | bl (b : Bool) : DD m (.bl b)
  | int (i : Int) : DD m (.int i)
  | str (x : Str) : DD m (.str x)
  | tup {xs : List SV} : DDs m xs → DD m (.tup xs)
  | lst {xs : List SV} : DD m (.lst xs)
  | ref {a : Addr} {xs : List SV} : m a = some (.lst xs) → DD m (.ref a)
inductive DDs (m : Mem) : List SV → Prop
  | nil : DDs m []
  | cons {x : SV} {xs : List SV} : DD m x → DDs m xs → DDs m (x :: xs)
end
theorem DD.dat {m : Mem} {x : SV} (h : DD m x) : Dat m x := by
  cases h with
  | non => exact ⟨_, rfl⟩
  | bl => exact ⟨_, rfl⟩
  | int => exact ⟨_, rfl⟩
  | str => exact ⟨_, rfl⟩
  | tup => exact ⟨_, rfl⟩
  | lst => exact ⟨_, rfl⟩
  | ref e => exact ⟨_, rfl, _, e⟩
theorem DDs.mem {m : Mem} : ∀ {xs : List SV} {x : SV}, DDs m xs → x ∈ xs → DD m x
  | _, _, .cons a b, h => by
    rcases List.mem_cons.mp h with rfl | h
    · exact a
    · exact b.mem h
theorem DDs.of {m : Mem} : ∀ {xs : List SV}, (∀ x ∈ xs, DD m x) → DDs m xs
  | [], _ => .nil
  | _ :: _, h => .cons (h _ List.mem_cons_self) (.of fun x hx => h x (List.mem_cons_of_mem _ hx))
theorem Br_true {A B : Prop} : Br true A B = A := by rw [Br_eq]; simp
section
variable {keep : Mem → Prop} {g : SG} {b : SS} {SX : SXK} {D : SEnds} {items : List SV} {δ : DS} {m : Mem} {p : Addr} {tt : STt} {te : SE} {vs : List Nat} {S : SV → Mem → Prop} {c : STt}
theorem for_inv (I : List SV → DS → Mem → Prop) (h0 : I items δ m) (step : ∀ x r δ m, I (x :: r) δ m → keep m ∧ g SX x δ m fun δ1 m1 => b SX { D with nx := fun δ' => Fg (I r δ'), ct := fun δ' => Fg (I r δ'), bk := D.nx } δ1 m1) (done : ∀ δ m, I [] δ m → keep m ∧ D.nx δ m) : ForGo keep g b SX D items δ m := by
  unfold ForGo
  exact ⟨I, h0, step, done⟩
/-- a loop turn by turn -/
def forRun (keep : Mem → Prop) (g : SG) (b : SS) (SX : SXK) (D : SEnds) : List SV → DS → Mem → Prop
  | [], δ, m => keep m ∧ D.nx δ m
  | x :: r, δ, m => keep m ∧ g SX x δ m fun δ1 m1 => b SX { D with nx := fun δ' => Fg (forRun keep g b SX D r δ'), ct := fun δ' => Fg (forRun keep g b SX D r δ'), bk := D.nx } δ1 m1
theorem lc_inv (I : List SV → List SV → Mem → Prop) (h0 : I items [] (up m p (.lst []))) (step : ∀ x r acc m, I (x :: r) acc m → keep m ∧ g SX x (wipeD δ vs) m fun δ1 m1 => tt SX δ1 m1 fun b m2 => Br b (te SX δ1 m2 fun y m3 => m3 p = some (.lst acc) ∧ Fg (I r (acc ++ [y])) (up m3 p (.lst (acc ++ [y])))) (Fg (I r acc) m2))
    (done : ∀ acc m, I [] acc m → keep m ∧ S (.ref p) m) : LcGo p keep g tt te vs SX δ items m S := by
  unfold LcGo
  exact ⟨I, h0, step, done⟩
/-- the memory stays (but for what is made and forgotten), the items by a test and a function -/
theorem lc_filt (pr : SV → Bool) (f : SV → SV) (hk : ∀ acc, keep (up m p (.lst acc)))
    (step : ∀ x ∈ items, ∀ acc (K1 : SV → Mem → Prop) (K0 : Mem → Prop), (∀ m', Le (up m p (.lst acc)) m' → pr x = true → K1 (f x) m') → (∀ m', Le (up m p (.lst acc)) m' → pr x = false → K0 m') → g SX x (wipeD δ vs) (up m p (.lst acc)) fun δ1 m1 => tt SX δ1 m1 fun b m2 => Br b (te SX δ1 m2 K1) (K0 m2))
    (done : S (.ref p) (up m p (.lst ((items.filter pr).map f)))) : LcGo p keep g tt te vs SX δ items m S := by
  refine lc_inv (fun r acc m' => m' = up m p (.lst acc) ∧ ∃ pre, pre ++ r = items ∧ acc = (pre.filter pr).map f) ⟨rfl, [], rfl, rfl⟩ (fun x r acc m' h => ?_) (fun acc m' h => ?_)
  · obtain ⟨rfl, pre, e, ha⟩ := h
    refine ⟨hk _, step x (by rw [← e]; simp) acc _ _ (fun m' l q => ⟨l _ _ up_same, _, (by rw [← up_up (m := m)]; exact Le.put l), rfl, pre ++ [x], by rw [← e]; simp, by rw [ha, List.filter_append, List.map_append]; simp [q]⟩) (fun m' l q => ⟨_, l, rfl, pre ++ [x], by rw [← e]; simp, by rw [ha, List.filter_append, List.map_append]; simp [q]⟩)⟩
  · obtain ⟨rfl, pre, e, ha⟩ := h
    rw [List.append_nil] at e
    subst e
    exact ⟨hk _, by rw [ha]; exact done⟩
theorem filter_yes {α : Type} (xs : List α) : xs.filter (fun _ => true) = xs := by simp
theorem lc_map (f : SV → SV) (hk : ∀ acc, keep (up m p (.lst acc)))
    (step : ∀ x ∈ items, ∀ acc (K1 : SV → Mem → Prop), (∀ m', Le (up m p (.lst acc)) m' → K1 (f x) m') → g SX x (wipeD δ vs) (up m p (.lst acc)) fun δ1 m1 => te SX δ1 m1 K1)
    (done : S (.ref p) (up m p (.lst (items.map f)))) : LcGo p keep g sYes te vs SX δ items m S := by
  refine lc_filt (fun _ => true) f hk (fun x hx acc K1 K0 h1 _ => ?_) (by rw [filter_yes]; exact done)
  have e : (fun δ1 m1 => sYes SX δ1 m1 fun b m2 => Br b (te SX δ1 m2 K1) (K0 m2)) = fun δ1 m1 => te SX δ1 m1 K1 := by
    funext δ1 m1
    exact Br_true
  rw [e]
  exact step x hx acc K1 fun m' l => h1 m' l rfl
theorem DDs.le {a m : Mem} (l : Le a m) : ∀ {xs : List SV}, DDs a xs → DDs m xs := by
  intro xs
  exact fun h => DDs.rec (motive_1 := fun x _ => DD m x) (motive_2 := fun xs _ => DDs m xs) .non .bl .int .str (fun _ ih => .tup ih) .lst (fun e => .ref (l _ _ e)) .nil (fun _ _ a b => .cons a b) h
theorem DD.le {a m : Mem} (l : Le a m) {x : SV} (h : DD a x) : DD m x := by
  cases h with
  | non => exact .non
  | bl b => exact .bl b
  | int i => exact .int i
  | str z => exact .str z
  | tup h => exact .tup (h.le l)
  | lst => exact .lst
  | ref e => exact .ref (l _ _ e)
end
end Sy

set_option Elab.async false
set_option linter.all false
set_option maxRecDepth 100000
set_option maxHeartbeats 4000000
/-! Lambdas kept in lists, called two defs further down; the error that such a call lets out. -/
namespace Sy
open PySem PySem.Spec PyProof.Rows L2 LamX NdefX Lm
/-- lambda: made -/
def sLam (P : Addr) (nm : Nat → Nat → Str) (mk : Addr → NF) (e : Expr) (d : Option Int) : SE := fun _ _ m S => m P = some (.tab nm) ∧ ∀ f, m f = none → S (.ref f) (up m f (.lam mk e d))
section
variable {K : PySem.W.Frag} {E : XK} {X : Cx}
theorem sim_lam0 {P : Addr} {nm : Nat → Nat → Str} {mk : Addr → NF} {e : Expr} (hc : ∀ c, (mk c).c = c) : SimE K E (tLam0 P nm mk e) (sLam P nm mk e none) := fun σ F H δ m SX S Q r h c => by
  obtain ⟨hP, h⟩ := h
  have M := r.mr
  refine ⟨(M.at_ P _ hP).2, fun f c' H1 k0 k1 T1 f0 f1 c1 nw => ?_⟩
  have M1 := M.table hP k0 T1
  have n1 : MOR K F H1 (up m f (.lam mk e none)) f (.lam mk e none) := ⟨c', _, f1, by rw [hc c']; exact c1, hc c', rfl⟩
  exact c (.ref f) F H1 (.ref f) _ (.refl F) (M1.adopt (M.gone f0) (M.sub.gone f0) (fun x z => by rw [f1] at z; cases z) n1) (.ref f) (h f (M.gone f0))
theorem sim_lam1 {P : Addr} {nm : Nat → Nat → Str} {mk : Addr → NF} {e : Expr} {i : Int} (hc : ∀ c, (mk c).c = c) : SimE K E (tLam1 P nm mk e i) (sLam P nm mk e (some i)) := fun σ F H δ m SX S Q r h c => by
  obtain ⟨hP, h⟩ := h
  have M := r.mr
  refine ⟨(M.at_ P _ hP).2, fun f c' T H1 k0 k1 T1 f0 T0 T2 f1 c1 nw => ?_⟩
  have M1 := M.table hP k0 T1
  have n1 : MOR K F H1 (up m f (.lam mk e (some i))) f (.lam mk e (some i)) := ⟨c', _, f1, by rw [hc c']; exact c1, hc c', T, rfl, T2⟩
  exact c (.ref f) F H1 (.ref f) _ (.refl F) (M1.adopt (M.gone f0) (M.sub.gone f0) (fun x z => by rw [f1] at z; cases z) n1) (.ref f) (h f (M.gone f0))
theorem ge_lam0 {nm : Nat → Nat → Str} {c P : Addr} {params : Arguments} {body : Expr} {scope : Scope} {pos : Pos} (TB : TabB X.base X.mg c P) (hcode : X.env.code = .ref c) (hn : nm pos.line pos.col = X.env.qual ++ "<lambda>")
    (hfree : ∀ y ∈ scope.names, y.2 = .free → X.env.scope.names.lookup y.1 = some .cell ∨ X.env.scope.names.lookup y.1 = some .free) (hdef : defaultsOf params X.env = ([], [])) : GE K E X (.Lambda params body scope pos) (tLam0 P nm (NF.lam X params scope) body) (sLam P nm (NF.lam X params scope) body none) :=
  ⟨pe_lam0 TB hcode hn hfree hdef, sim_lam0 fun _ => rfl⟩
theorem ge_lam1 {nm : Nat → Nat → Str} {c P : Addr} {params : Arguments} {body : Expr} {scope : Scope} {pos p1 : Pos} {i : Int} {j : Nat} (TB : TabB X.base X.mg c P) (hcode : X.env.code = .ref c) (hn : nm pos.line pos.col = X.env.qual ++ "<lambda>")
    (hfree : ∀ y ∈ scope.names, y.2 = .free → X.env.scope.names.lookup y.1 = some .cell ∨ X.env.scope.names.lookup y.1 = some .free) (hd : params.defaults = [.Constant (.int i) j p1]) (hk : params.kw_defaults = []) : GE K E X (.Lambda params body scope pos) (tLam1 P nm (NF.lam X params scope) body i) (sLam P nm (NF.lam X params scope) body (some i)) :=
  ⟨pe_lam1 TB hcode hn hfree hd hk, sim_lam1 fun _ => rfl⟩
end
/-! ### cells under the ground for the time of a call -/
structure CellsB (base : Heap) (cl : List (Str × Addr)) (fr : List Str) (ws : List (Option V)) : Prop where
  len : ws.length = fr.length
  all : ∀ y c, cl.lookup y = some c → ∃ v, base.IsCell c v
  inj : ∀ x y c, cl.lookup x = some c → cl.lookup y = some c → x = y
  has : ∀ (i : Nat) (y : Str), fr[i]? = some y → ∃ c, cl.lookup y = some c ∧ ∀ v, ws[i]? = some (some v) → ∃ u, L2.RelV v u ∧ base.IsCell c (some u)
theorem CellsB.at {base : Heap} {cl : List (Str × Addr)} {fr : List Str} {ws : List (Option V)} (C : CellsB base cl fr ws) {h : Heap} {H : Hp} (bs : ∀ b o, base.get? b = some o → h.get? b = some o ∧ H b = none) : CellsAt cl fr ws h H := by
  have up : ∀ {c : Addr} {v : Option Value}, base.IsCell c v → h.IsCell c v ∧ H c = none := fun ⟨o, e, d⟩ => ⟨⟨o, (bs _ _ e).1, d⟩, (bs _ _ e).2⟩
  refine ⟨C.len, fun y c e => ?_, C.inj, fun i y e => ?_⟩
  · obtain ⟨v, z⟩ := C.all y c e
    exact ⟨(up z).2, v, (up z).1⟩
  · obtain ⟨c, hc, hv⟩ := C.has i y e
    refine ⟨c, hc, fun v hw => ?_⟩
    obtain ⟨u, r, z⟩ := hv v hw
    exact ⟨u, r, (up z).1⟩
/-- some objects of a heap, no other -/
theorem part (h : Heap) (p : Addr → Bool) : ∃ G : Heap, (∀ b o, h.get? b = some o → p b = true → G.get? b = some o) ∧ (∀ b o, G.get? b = some o → h.get? b = some o ∧ p b = true) ∧ G.objs.size = h.objs.size := by
  have hm : ∀ b, b ∈ (List.range h.objs.size).filter (fun b => !p b) ↔ b < h.objs.size ∧ p b = false := fun b => by
    rw [List.mem_filter, List.mem_range]
    simp
  refine ⟨PySem.W.hideAll h ((List.range h.objs.size).filter fun b => !p b), fun b o e hp => PySem.W.hideAll_get _ e fun z => ?_, fun b o e => ?_, PySem.W.hideAll_size _ _⟩
  · have q := ((hm b).mp z).2
    rw [hp] at q
    cases q
  · have e2 := PySem.W.of_hideAll _ e
    refine ⟨e2, ?_⟩
    cases q : p b with
    | true => rfl
    | false =>
      have n := PySem.W.hideAll_none (h := h) _ ((hm b).mpr ⟨Heap.lt_size e2, q⟩)
      rw [e] at n
      cases n
theorem frames_up {h base base' : Heap} : ∀ {l : List Env}, h.FunFrames base l → (∀ L ∈ frs l, base'.get? L = none) → h.FunFrames base' l
  | [], _, _ => trivial
  | env :: r, ⟨hk, ⟨L, o, hf, _, ho, hd⟩, hr⟩, q => by
    have hm : L ∈ frs (env :: r) := List.mem_filterMap.mpr ⟨env, List.mem_cons_self, hf⟩
    refine ⟨hk, ⟨L, o, hf, q L hm, ho, hd⟩, frames_up hr fun L2 h2 => q L2 ?_⟩
    obtain ⟨e2, m2, f2⟩ := List.mem_filterMap.mp h2
    exact List.mem_filterMap.mpr ⟨e2, List.mem_cons_of_mem _ m2, f2⟩
section
variable {X : Cx} {pins : List (Addr × Obj)} {σ : L2.St} {H : Hp} {s : Shared}
theorem base_up (I : Inv X pins σ H s) (hfn : ∀ x, X.fn x = true) (hst : X.stack = X.env :: X.outer) (hfr : X.env.frame = some X.env.locals) :
    ∃ base', Env0 X.prog X.w X.K X.mg base' X.A X.stack s H ∧ ∀ cl fr js, Caps X cl fr js → CellsB base' cl fr (js.map (slotAt σ)) := by
  obtain ⟨G, g1, g2, g3⟩ := part s.heap fun b => (X.base.get? b).isSome || X.env.cells.any fun q => decide (X.env.cells.lookup q.1 = some b)
  have up : ∀ b o, X.base.get? b = some o → G.get? b = some o := fun b o e => g1 b o (I.bk b o e) (by rw [e]; rfl)
  have cellHere : ∀ (y : Str) (c : Addr), X.env.cells.lookup y = some c → ∀ v, s.heap.IsCell c v → G.IsCell c v := fun y c e v ⟨o, ho, hd⟩ => ⟨o, g1 c o ho (by
    rw [Bool.or_eq_true]
    exact .inr (List.any_eq_true.mpr ⟨(y, c), PySem.mem_of_lookup e, decide_eq_true e⟩)), hd⟩
  have known : ∀ b o, G.get? b = some o → (∃ o', X.base.get? b = some o') ∨ ∃ y, X.env.cells.lookup y = some b := fun b o e => by
    have hp := (g2 b o e).2
    rw [Bool.or_eq_true] at hp
    rcases hp with hp | hp
    · exact .inl (Option.isSome_iff_exists.mp hp)
    · obtain ⟨q, _, hq⟩ := List.any_eq_true.mp hp
      exact .inr ⟨q.1, of_decide_eq_true hq⟩
  have M := I.mod
  obtain ⟨mb, hb1, hb2⟩ := M.blt
  refine ⟨G, ⟨I.ok.frames, ⟨M.kin.keeps up, M.glob.keeps up, ⟨mb, hb1.keeps up, hb2⟩, M.nolimit.keeps up⟩, fun b o e => ⟨(g2 b o e).1, ?_⟩, by rw [g3]; exact Nat.le_refl _, frames_up I.stack (fun L hL => ?_), I.stkFree, I.hok, I.bare⟩, fun cl fr js cp => ?_⟩
  · rcases known b o e with ⟨o', e'⟩ | ⟨y, e'⟩
    · exact (I.bs b o' e').2
    · exact I.freeC y b e'
  · cases q : G.get? L with
    | none => rfl
    | some o =>
      exfalso
      rcases known L o q with ⟨o', e'⟩ | ⟨y, e'⟩
      · have z := (I.stack.mem hL).1
        rw [e'] at z
        cases z
      · rw [hst] at hL
        obtain ⟨env, hm, hf⟩ := List.mem_filterMap.mp hL
        rcases List.mem_cons.mp hm with rfl | hm
        · rw [hfr] at hf
          cases hf
          obtain ⟨v, o1, h1, d1⟩ := I.cell y _ e'
          obtain ⟨m, ⟨o2, es, ep, h2, d2, _⟩, _⟩ := I.loc
          rw [h1] at h2
          cases h2
          rw [d1] at d2
          cases d2
        · have hL2 : L ∈ frs X.outer := List.mem_filterMap.mpr ⟨env, hm, hf⟩
          obtain ⟨_, o3, h3, _⟩ := I.ok.funs.mem hL2
          exact absurd (I.ok.cab y L (hfn y) e') (Nat.not_le.mpr (Heap.lt_size h3))
  · have C := cells_of I cp
    refine ⟨C.len, fun y c e => ?_, C.inj, fun i y e => ?_⟩
    · obtain ⟨_, v, z⟩ := C.all y c e
      exact ⟨v, cellHere y c (cp.sub y c e) v z⟩
    · obtain ⟨c, hc, hv⟩ := C.has i y e
      refine ⟨c, hc, fun v hw => ?_⟩
      obtain ⟨u, r, z⟩ := hv v hw
      exact ⟨u, r, cellHere y c (cp.sub y c hc) _ z⟩
/-- f(..), what is called may rest on the frame's cells -/
def tCallB (X : Cx) (sp : Heap → Sp) (t : TA) : TE := fun σ H Q => t σ H fun vs H1 => ∀ base', X.Ok → (∀ cl fr js, Caps X cl fr js → CellsB base' cl fr (js.map (slotAt σ))) → sp base' vs H1 Q E0
theorem pe_callBase {x : Str} {f : Addr} {fd : FuncData} {ps : List Str} {k : Nat} {sp : Heap → Sp} {e : Expr} {es : List Expr} {t : TA} {p pos : Pos} (F : ∀ base', FnOk X.prog X.w X.K X.mg base' CX0 k f fd ps (sp base')) (hr : Room k X.A) (hg : Gl X x) (hm : X.mg x = some (.ref f)) (hk : PySem.W.keepIn X.K (.ref f) = true) (hb : Binds X.K fd ps [])
    (ha : PA X (e :: es) t) (hfn : ∀ x, X.fn x = true) (hst : X.stack = X.env :: X.outer) (hfr : X.env.frame = some X.env.locals) (hdb : (x == ("__debug__" : Str)) = false := by decide) (he : starEach (e :: es) X.env = (false, eval e X.env) :: starEach es X.env := by rfl) (hpl : (backTo pos (starEach es X.env)).any (·.1) = false := by rfl) :
    PE X (.Call (.Name x p) (e :: es) [] pos) (tCallB X sp t) := by
  refine ⟨fun pins s σ H Q I h => ?_⟩
  refine wpAny_Call_Name_kw (ld_glob I hg hm ?_ hdb)
  refine PySem.W.callWith_K (h₀ := X.base) I.ok.mod.kin hk (thn (ha.run pos pins s σ H _ I h) fun us s1 ⟨vs, H1, I1, r, q⟩ => ⟨I1.kIn, ?_⟩) he hpl
  obtain ⟨G, e0, hC⟩ := base_up I1 hfn hst hfr
  have hsp := q G I1.ok hC
  have hl : us.length = ps.length := by rw [← r.length]; exact (F G).len _ _ _ _ hsp
  have hbd : BindsTo s1 fd ⟨us, []⟩ (ps.zip us) := by
    have z := hb s1 us I1.kIn (by rw [List.append_nil]; exact hl)
    rw [List.append_nil] at z
    exact z
  show wpAny _ _ (call (.ref f) us) _ _ _
  refine wpAny_call (codeAny_mono ((F G).run X.A X.stack s1 H1 ⟨us, []⟩ us vs Q E0 hr e0 hbd r hsp) fun r s' hq => ?_)
  cases r with
  | error e => exact (show False from hq).elim
  | ok fl =>
    cases fl with
    | ret u => exact I1.after hq
    | next => exact False.elim hq
    | brk => exact False.elim hq
    | cont => exact False.elim hq
end

/-- a callable at f, called without arguments: what is asked is φ -/
abbrev Phi := Mem → SXK → (SV → Mem → Prop) → Prop
def ActC (P : Program) (w : World) (K : PySem.W.Frag) (mg : Str → Option Value) (base : Heap) (k : Nat) (f : Addr) (φ : Phi) : Hp → Hp → Prop := fun F H => (∃ N e dV, H f = some (LamO f N e dV)) ∧
  ∀ (A : Around) (outer : List Env) (s : Shared) (m : Mem) (Q : VK) (E : XK) (SX : SXK) (S : SV → Mem → Prop), Room k A → Env0 P w K mg base A outer s H → MR K F H m → φ m SX S → ExOk K F E SX → Cn K F S Q →
    codeAny (model P w) A (.call (.ref f) ⟨[], []⟩) (CR (L2.CX P w) outer P w H s Q E) s
/-- the reading of work() -/
def tWork (P : Program) (w : World) (K : PySem.W.Frag) (mg : Str → Option Value) (base : Heap) (k i : Nat) (W : WX) : TE := fun σ H Q => ∃ (F : Hp) (f : Addr) (φ : Phi) (m : Mem) (SX : SXK) (S : SV → Mem → Prop), σ[i]? = some (some (.ref f)) ∧ MR K F H m ∧ m f = some (.pred (ActC P w K mg base k f φ)) ∧ φ m SX S ∧ ExOk K F (fun cls d H' => W cls d σ H') SX ∧ Cn K F S Q
section
variable {X : Cx}
theorem pe_work {k j i : Nat} {a : Str} {W : WX} {p1 p2 : Pos} (tk : Takes X W) (hr : Room j X.A) (hk : k ≤ j) (hN : X.N[i]? = some a) (hv : Vis X.env.scope a)
    (hd : (a == ("__debug__" : Str)) = false := by decide) (hcd : (a == ("__classdict__" : Str)) = false := by decide) : PE X (.Call (.Name a p1) [] [] p2) (tWork X.prog X.w X.K X.mg X.base k i W) := by
  refine ⟨fun pins s σ H Q I h => ?_⟩
  obtain ⟨F, f, φ, m, SX, S, hs, M, hm, hφ, hE, cQ⟩ := h
  refine wpAny_Call_Name_kw (thn ((pe_var (pos := p1) (i := i) hN hv hd hcd).run pins s σ H (fun v H1 => v = .ref f ∧ H1 = H) I ⟨.ref f, hs, rfl, rfl⟩) fun u s1 ⟨v, H1, I1, r1, q1⟩ => ?_)
  obtain ⟨ev, eH⟩ := q1
  subst ev
  rw [eH] at I1
  obtain rfl : u = Value.ref f := r1
  obtain ⟨fn, act⟩ := (M.at_ f _ hm).2.2 F H (.refl F) fun b u e _ => e
  have fa : PySem.W.FnAt f s1.heap := by
    obtain ⟨N, e, dV, hf⟩ := fn
    obtain ⟨od, sl, doc, pm, ctv, ho⟩ := lamO_at I1.hok hf
    exact ⟨_, od, _, sl, ho⟩
  refine PySem.W.callWith_F0 (first := []) fa ?_
  show wpAny _ _ (call (.ref f) []) _ _ _
  refine wpAny_call (codeAny_mono (act X.A X.stack s1 m Q (fun cls d H' => W cls d σ H') SX S (hr.mono hk) I1.env0 M hφ hE cQ) fun r s' hq => ?_)
  cases r with
  | error e => exact tk e s' (XE.of_call I1 (fun cls d H' z => z) hq)
  | ok fl =>
    cases fl with
    | ret u => exact I1.after hq
    | next => exact False.elim hq
    | brk => exact False.elim hq
    | cont => exact False.elim hq
end
/-! ### what a lambda does -/
def startFD (n : Nat) (vs : List SV) (ws : List (Option SV)) : DS := vs.map some ++ (ws ++ List.replicate (n - vs.length - ws.length) none)
/-- the cells' values -/
def WR (K : PySem.W.Frag) (F : Hp) (ws : List (Option V)) (ds : List (Option SV)) : Prop := ws.length = ds.length ∧ ∀ (i : Nat) d, ds[i]? = some (some d) → ∃ v, ws[i]? = some (some v) ∧ VR K F v d
theorem sr_startF {K : PySem.W.Frag} {F : Hp} {N : List Str} {vs : List V} {svs : List SV} {ws : List (Option V)} {ds : List (Option SV)} (h : VRs K F vs svs) (hw : WR K F ws ds) : SR K F (startF N vs ws) (startFD N.length svs ds) := by
  have l1 := vrs_length h
  have l2 := hw.1
  unfold startF startFD
  refine ⟨by simp [l1, l2], fun i d e => ?_⟩
  by_cases h1 : i < svs.length
  · rw [List.getElem?_append_left (by rw [List.length_map]; exact h1), List.getElem?_map] at e
    obtain ⟨d', h3, h4⟩ := Option.map_eq_some_iff.mp e
    cases h4
    obtain ⟨v, h5, h6⟩ := vrs_get h h3
    exact ⟨v, by rw [List.getElem?_append_left (by rw [List.length_map, l1]; exact h1), List.getElem?_map, h5]; rfl, h6⟩
  · rw [List.getElem?_append_right (by rw [List.length_map]; omega), List.length_map] at e
    rw [List.getElem?_append_right (by rw [List.length_map]; omega), List.length_map, l1]
    by_cases h2 : i - svs.length < ds.length
    · rw [List.getElem?_append_left h2] at e
      obtain ⟨v, h5, h6⟩ := hw.2 _ d e
      exact ⟨v, by rw [List.getElem?_append_left (by omega)]; exact h5, h6⟩
    · rw [List.getElem?_append_right (by omega), List.getElem?_replicate] at e
      split at e <;> cases e
section
variable {P : Program} {w : World} {K : PySem.W.Frag} {mg : Str → Option Value} {base : Heap} {k : Nat} {f c : Addr} {mk : Addr → NF} {e : Expr} {N ps fr : List Str} {φ : Phi} {ds : List (Option SV)} {ws : List (Option V)} {F H : Hp}
theorem act_core {dV : Value} {vs : List V} {svs : List SV} {F0 : NF} (S : NScope N ps fr F0.scope) (hlen : vs.length = ps.length) (hvs : ∀ F, VRs K F vs svs) (Z : Hp → Prop)
    (hb : ∀ (doc pm ctv : Value) (s : Shared) (H : Hp), HOk P w H s.heap → Z H → ∃ us, Vals vs us ∧ BindsTo s (lfd F0 e dV doc pm ctv) ⟨[], []⟩ (ps.zip us)) (CB : CellsB base F0.cl fr ws) (hw : WR K F ws ds)
    (hf : H f = some (LamO f F0 e dV)) (hc : H F0.c = some (CodeO F0.c F0.qual)) (hZ : Z H)
    (hbody : ∀ (A : Around) (outer : List Env) (s : Shared) (H : Hp) (E : XK), Room k (A.deeper (envF F0 f s.heap.objs.size)) → ∃ tb sb, GE K E (ncx (L2.CX P w) P w K mg base N F0 f A outer s H E) e tb sb ∧ ∀ m SX Sv, φ m SX Sv → sb (fun x => Fg (SX x)) (startFD N.length svs ds) m (fun v => Fg (Sv v))) :
    ActC P w K mg base (k + 1) f φ F H := by
  refine ⟨⟨_, _, _, hf⟩, fun A outer s m Q E SX Sv hr e0 M hφ hE cQ => ?_⟩
  refine lok_of (CX := L2.CX P w) (k := k) (vs := vs) (ws := ws) (Z := Z) (sp := fun H' Q' E' => H' = H ∧ Q' = Q ∧ E' = E) S hlen hb (fun A outer s H' Q' E' hr ⟨e1, e2, e3⟩ => ?_) A outer s H Q E hr e0 hf hc hZ (CB.at e0.bs) ⟨rfl, rfl, rfl⟩
  subst e1 e2 e3
  obtain ⟨tb, sb, hder, hq⟩ := hbody A outer s _ _ hr
  refine ⟨tb, hder.pe, ?_⟩
  exact hder.sim _ F _ _ m (fun x => Fg (SX x)) (fun v => Fg (Sv v)) _ ⟨sr_startF (hvs F) hw, M, hE.fg⟩ (hq m SX Sv hφ) fun v F' H' sv m' s' M' rv ⟨m2, l2, q⟩ => cQ v F' H' sv m2 s' (M'.drop l2) rv q
end
/-! ### a call while the frame's cells lie under the ground -/
section
variable {X : Cx}
/-- what the new ground knows -/
def Grd (X : Cx) (base' : Heap) (σ : L2.St) : Prop := X.Ok ∧ ∀ cl fr js, Caps X cl fr js → CellsB base' cl fr (js.map (slotAt σ))
/-- a lambda of this frame does φ -/
def Beh (P : Program) (w : World) (K : PySem.W.Frag) (mg : Str → Option Value) (X : Cx) (k : Nat) (base' : Heap) (δ : DS) (mk : Addr → NF) (e : Expr) (d : Option Int) (φ : Phi) : Prop :=
  ∀ (σ : L2.St) (F H : Hp) (f c : Addr) (dV : Value), SR K F σ δ → Grd X base' σ → H f = some (LamO f (mk c) e dV) → H c = some (CodeO (mk c).c (mk c).qual) → (mk c).c = c → (match d with | none => dV = .none | some i => ∃ T, dV = .ref T ∧ H T = some (.tup [.int i])) → ActC P w K mg base' k f φ F H
inductive Conv (P : Program) (w : World) (K : PySem.W.Frag) (mg : Str → Option Value) (X : Cx) (k : Nat) (base' : Heap) (δ : DS) : Mem → Mem → Prop
  | refl (m : Mem) : Conv P w K mg X k base' δ m m
  | step {m m' : Mem} {f : Addr} {mk : Addr → NF} {e : Expr} {d : Option Int} (φ : Phi) : m f = some (.lam mk e d) → Beh P w K mg X k base' δ mk e d φ → Conv P w K mg X k base' δ (up m f (.pred (ActC P w K mg base' k f φ))) m' → Conv P w K mg X k base' δ m m'
theorem conv_ok {P : Program} {w : World} {K : PySem.W.Frag} {mg : Str → Option Value} {k : Nat} {base' : Heap} {δ : DS} {m m' : Mem} {σ : L2.St} {F H : Hp} (h : Conv P w K mg X k base' δ m m') (g : Grd X base' σ) (sr : SR K F σ δ) (M : MR K F H m) : MR K F H m' := by
  induction h with
  | refl => exact M
  | step φ hm hb _ ih =>
    refine ih ?_
    obtain ⟨c, dV, h1, h2, h3, h4⟩ := (M.at_ _ _ hm).2
    rename_i m0 m1 f mk e d _
    have hfF : F f = none := (M.at_ f _ hm).1
    have n1 : MOR K F H (up m0 f (.pred (ActC P w K mg base' k f φ))) f (.pred (ActC P w K mg base' k f φ)) := by
      refine ⟨⟨_, h1, trivial, fun _ z => nomatch z⟩, fun F' H' sF kH => hb σ F' H' f c dV (sr.sub sF) g (kH _ _ h1 trivial) (kH _ _ h2 trivial) h3 ?_⟩
      cases d with
      | none => exact h4
      | some i =>
        obtain ⟨T, e1, e2⟩ := h4
        exact ⟨T, e1, kH _ _ e2 trivial⟩
    refine ⟨M.sub, fun b u hbu => ?_⟩
    by_cases e : b = f
    · subst e
      rw [up_same] at hbu; cases hbu
      exact ⟨hfF, n1⟩
    · rw [up_ne e] at hbu
      obtain ⟨z1, z2⟩ := M.at_ b u hbu
      refine ⟨z1, ?_⟩
      cases u with
      | ins C fs =>
        obtain ⟨dx, us, q1, q2, q3, q4, q5⟩ := z2
        exact ⟨dx, us, q1, q2, q3, by rw [up_ne (fun q => by rw [q, hm] at q4; cases q4)]; exact q4, q5⟩
      | _ => exact z2
def sCallB (P : Program) (w : World) (K : PySem.W.Frag) (mg : Str → Option Value) (X : Cx) (k : Nat) (sp : Heap → SpS) (a : SA) : SE := fun SX δ m S => a SX δ m fun vs m1 => ∀ base', ∃ m2, Conv P w K mg X k base' δ m1 m2 ∧ sp base' vs m2 (fun _ _ => False) S
end
/-! ### how often, isinstance of a caught error -/
section
variable {X : Cx}
/-! ### how often a flat value stands in a list of flat ones -/
def rCntF (K : PySem.W.Frag) : V → List V → Hp → VK → Prop := fun x xs H Q => ∃ (a : Addr) (ys : List V) (y : V), x = V.ref a ∧ xs = [y] ∧ SqL K H a ys ∧ flatV y = true ∧ ys.all flatV = true ∧ Q (.int ((ys.countP fun z => eqV z y) : Nat)) H
theorem countU {y : V} : ∀ {ys : List V} {us : List Value}, Vals ys us → ys.all flatV = true → us.countP (eqU y) = ys.countP fun z => eqV z y
  | _, _, .nil, _ => rfl
  | z :: _, u :: _, .cons r rs, f => by
    have f2 : (flatV z && _) = true := f
    obtain ⟨f3, f4⟩ := Bool.and_eq_true_iff.mp f2
    have ih := countU (y := y) rs f4
    rw [List.countP_cons, List.countP_cons, ih, eqU_of r f3]
theorem mt_countF : MtR X "list.count" (rCntF X.K) := by
  intro pins s σ H x xs v us Q I rx rxs h
  obtain ⟨a, ys, y, rfl, rfl, hs, fy, fys, q⟩ := h
  cases rx
  obtain ⟨uy, rfl, ry⟩ := rxs.one
  obtain ⟨its, rv, ⟨⟨cls, dd, data, sl⟩, n, ho, hc, hdn, hd⟩, hlen⟩ := I.list hs
  simp only at hc hd
  subst hc hd
  refine call_meets PySem.F.slot_list_count ⟨_, ho, rfl⟩ PySem.F.entry_list_count (PySem.F.args_list_count_2 _ _)
    (SeqAt.list_countAt a its.toArray n dd sl uy (eqU y)) ⟨ho, fun u' hu' => mem_eqAt ry fy rv fys u' (by simpa using hu'), ?_⟩
  have ec : its.toArray.toList.countP (eqU y) = ys.countP fun z => eqV z y := countU rv fys
  refine ⟨.int ((ys.countP fun z => eqV z y) : Nat), H, I.tok _, ⟨s.toks, ?_⟩, q⟩
  show Value.int ((its.toArray.toList.countP (eqU y) : Nat) : Int) s.toks = Value.int (((ys.countP fun z => eqV z y) : Nat) : Int) s.toks
  rw [ec]
end

def sCount : SRM := fun x vs m S => match vs with
  | [y] => ∃ xs, ItsL m x xs ∧ flatS y = true ∧ xs.all flatS = true ∧ S (.int ((xs.countP fun z => eqS z y : Nat))) m
  | _ => False
section
variable {K : PySem.W.Frag}
theorem countV_ok {F : Hp} {y : V} {b : SV} (ry : VR K F y b) (fb : flatS b = true) : ∀ {xs : List V} {as : List SV}, VRs K F xs as → as.all flatS = true → (xs.countP fun z => eqV z y) = as.countP fun z => eqS z b
  | _, _, .nil, _ => rfl
  | _, _, .cons r t, h => by
    rw [List.all_cons, Bool.and_eq_true] at h
    rw [List.countP_cons, List.countP_cons, countV_ok ry fb t h.2, eqS_ok r ry h.1 fb]
theorem sim_count : SimM K (rCntF K) sCount := fun F H m x xs a as S Q M r rs h c => by
  unfold sCount at h
  split at h
  · obtain ⟨ys, h1, h2, h3, q⟩ := h
    obtain ⟨v, rfl, rv⟩ := vrs_one rs
    obtain ⟨p, vs, rfl, hs, r2⟩ := its_lst M r h1
    refine ⟨p, vs, v, rfl, rfl, hs, flat_ok rv h2, flats_ok r2 h3, ?_⟩
    rw [countV_ok rv h2 r2 h3]
    exact c _ F H _ m (.refl F) M (.int _) q
  · exact h.elim
theorem mt_countG {X : Cx} (K : PySem.W.Frag) (hK : X.K = K := by rfl) : MtR X "list.count" (rCntF K) := by subst hK; exact mt_countF
def sIsE (K : PySem.W.Frag) (D a : Addr) : SRC := fun vs m S => match vs with
  | [.ref b, .ref C] => b = a ∧ ∃ k, PySem.W.kitOne K (.ref D) (.ref C) = some k ∧ S (.bl k) m
  | [.ref b, .ty n] => b = a ∧ ∃ k, PySem.W.kitOne K (.ref D) (.type n) = some k ∧ S (.bl k) m
  | _ => False
theorem sim_isE {D a : Addr} : SimC K (rIsE K D a) (sIsE K D a) := fun F H m xs as S Q M rs h c => by
  unfold sIsE at h
  split at h
  · obtain ⟨rfl, k, hk, q⟩ := h
    obtain ⟨v, w, rfl, rv, rw_⟩ := vrs_two rs
    obtain rfl := vr_ref rv
    obtain rfl := vr_ref rw_
    exact ⟨.ref _, .ref _, k, rfl, fun u e => e, hk, c _ F H _ m (.refl F) M (.bl _) q⟩
  · obtain ⟨rfl, k, hk, q⟩ := h
    obtain ⟨v, w, rfl, rv, rw_⟩ := vrs_two rs
    obtain rfl := vr_ref rv
    obtain rfl := vr_ty rw_
    exact ⟨.ty _, .type _, k, rfl, fun u e => e, hk, c _ F H _ m (.refl F) M (.bl _) q⟩
  · exact h.elim
theorem ge_never {E : XK} {X : Cx} {e : Expr} : GE K E X e (fun _ _ _ => False) (fun _ _ _ _ => False) := ⟨⟨fun _ _ _ _ _ _ h => h.elim⟩, fun _ _ _ _ _ _ _ _ _ h _ => h.elim⟩
end
/-! ### a def whose code object is known (it makes lambdas) -/
section
variable {P : Program} {w : World} {K : PySem.W.Frag} {mg : Str → Option Value} {base : Heap}
theorem fn_syT {CX : CXT} {k : Nat} {f : Addr} {name qual : Str} {params : Arguments} {body : List Stmt} {scope : Scope} {dV kV doc pm cdv ct oc : Value} {an od : Option Addr} {osl : Array (Option Value)} {N ps : List Str} {sp : SpS}
    (lk : K.lookup f = some ⟨oc, od, .func (PySem.W.fnOf name qual params body scope dV kV doc pm an cdv ct), osl⟩) (hcd : PySem.W.codeIn K cdv qual = true) (S : FnScope N ps scope) (hl : ∀ svs m SX Sv, sp svs m SX Sv → svs.length = ps.length)
    (hev : ∀ (A : Around) (outer : List Env) (s : Shared) (H : Hp) (E : XK), Room k (A.deeper (envOfC qual scope s.heap.objs.size f cdv)) → ∃ ts ss, GSs K E (cxOf CX P w K mg base N qual scope f cdv A outer s H E) body ts ss ∧
      ∀ svs m SX Sv, sp svs m SX Sv → ss (fun x => Fg (SX x)) { nx := fun _ m' => Fg (Sv .non) m', rt := fun v => Fg (Sv v) } (startD N.length svs) m) : FnOk P w K mg base CX (k + 1) f (PySem.W.fnOf name qual params body scope dV kV doc pm an cdv ct) ps (lift K sp) := by
  refine fn_of lk hcd S (fun vs H Q E h => by
    obtain ⟨F, svs, m, SX, Sv, _, h2, h3, _⟩ := h
    rw [vrs_length h2]; exact hl _ _ _ _ h3) (fun A outer s H vs Q E hr h => ?_)
  obtain ⟨F, svs, m, SX, Sv, M, r, hsp, hx, c⟩ := h
  obtain ⟨ts, ss, hder, hev⟩ := hev A outer s H E hr
  refine ⟨ts, hder.pe, ?_⟩
  exact hder.sim _ F H _ m (fun x => Fg (SX x)) { nx := fun _ m' => Fg (Sv .non) m', rt := fun v => Fg (Sv v) } _ ⟨SR.start r, M, hx.fg⟩ (hev svs m SX Sv hsp) ⟨fun σ' δ' F' H' m' s' _ M' ⟨m2, l2, q⟩ => c .non F' H' .non m2 s' (M'.drop l2) .non q, fun v F' H' sv m' s' M' rv ⟨m2, l2, q⟩ => c v F' H' sv m2 s' (M'.drop l2) rv q, fun _ _ _ _ _ _ _ _ q => q.elim, fun _ _ _ _ _ _ _ _ q => q.elim⟩
end
end Sy

set_option Elab.async false
set_option linter.all false
set_option maxRecDepth 100000
set_option maxHeartbeats 4000000
/-! sum of a list of truths -/
namespace Sy
open PySem PySem.Spec PyProof.Rows L2
def cntB (bs : List Bool) : Int := (bs.map b2i).sum
def rSumB (K : PySem.W.Frag) : List V → Hp → VK → Prop := fun vs H Q => ∃ (a : Addr) (bs : List Bool), vs = [V.ref a] ∧ SqL K H a (bs.map V.bl) ∧ Q (.int (cntB bs)) H
def rSumG (K : PySem.W.Frag) : List V → Hp → VK → Prop := fun xs H Q => rSum K xs H Q ∨ rSumB K xs H Q
def sSumA : SRC := fun vs m S => match vs with
  | [x] => (∃ ns : List Int, ItsL m x (ns.map .int) ∧ S (.int ns.sum) m) ∨ (∃ bs : List Bool, ItsL m x (bs.map .bl) ∧ S (.int (cntB bs)) m)
  | _ => False
end Sy
namespace Sy
open PySem PySem.Spec PyProof.Rows L2
def slotD (δ : DS) (j : Nat) : Option SV := match δ[j]? with
  | some o => o
  | none => none
theorem wr_of {K : PySem.W.Frag} {F : Hp} {σ : L2.St} {δ : DS} (sr : SR K F σ δ) (js : List Nat) : WR K F (js.map (NdefX.slotAt σ)) (js.map (slotD δ)) := by
  refine ⟨by simp, fun i d e => ?_⟩
  rw [List.getElem?_map] at e
  obtain ⟨j, h1, h2⟩ := Option.map_eq_some_iff.mp e
  have h3 : δ[j]? = some (some d) := by
    unfold slotD at h2
    split at h2
    · next o q => rw [q, h2]
    · cases h2
  obtain ⟨v, h4, h5⟩ := sr.at_ j d h3
  exact ⟨v, by rw [List.getElem?_map, h1]; show some (NdefX.slotAt σ j) = _; rw [NdefX.slotAt_of h4], h5⟩
end Sy
namespace Sy
open PySem PySem.Spec PyProof.Rows L2
section
variable {P : Program} {w : World} {K : PySem.W.Frag} {mg : Str → Option Value} {base : Heap}
end
end Sy

set_option Elab.async false
set_option linter.all false
set_option maxRecDepth 100000
set_option maxHeartbeats 4000000
/-! Instances and their fields, methods, constructors over symbolic values. -/
namespace Sy
open PySem PySem.Spec PyProof.Rows L2
/-- a field is stored -/
def putS (f : Str) (v : SV) : List (Str × SV) → List (Str × SV)
  | [] => [(f, v)]
  | (g, x) :: r => if g = f then (g, v) :: r else (g, x) :: putS f v r
section
variable {K : PySem.W.Frag} {F H : Hp} {m : Mem}
theorem kr_look {us : List (Str × V)} {fs : List (Str × SV)} {f : Str} {x : SV} (h : KR K F us fs) (e : fs.lookup f = some x) : ∃ v, us.lookup f = some v ∧ VR K F v x := by
  have z := kr_lookup (k := f) h
  rw [e] at z
  exact z
end
/-- o.f of an instance of the class at C -/
def sFldR (C : Addr) (f : Str) (a : SE) : SE := fun SX δ m S => a SX δ m fun x m1 => match x with
  | .ref p => ∃ fs v, m1 p = some (.ins C fs) ∧ fs.lookup f = some v ∧ S v m1
  | _ => False
/-- o.f = v -/
def sFldW (C : Addr) (f : Str) (a tv : SE) : SS := fun SX D δ m => tv SX δ m fun y m1 => a SX δ m1 fun x m2 => match x with
  | .ref p => ∃ fs, m2 p = some (.ins C fs) ∧ fs.length < 1000 ∧ D.nx δ (up m2 p (.ins C (putS f y fs)))
  | _ => False
/-- o.m(..) -/
def sMeth (C : Addr) (nm : Str) (sp : SpS) (dvs : List SV) (a : SE) (t : SA) : SE := fun SX δ m S => a SX δ m fun x m1 => match x with
  | .ref p => ∃ fs, m1 p = some (.ins C fs) ∧ fs.lookup nm = none ∧ t SX δ m1 fun vs m2 => sp (.ref p :: (vs ++ dvs)) m2 SX S
  | _ => False
/-- C(..) -/
def sMake (C : Addr) (sp : SpS) (dvs : List SV) (t : SA) : SE := fun SX δ m S => t SX δ m fun vs m1 => ∀ p, m1 p = none → sp (.ref p :: (vs ++ dvs)) (up m1 p (.ins C [])) SX (fun v m2 => v = .non ∧ S (.ref p) m2)
/-- a method's promise, a constructor's -/
abbrev FnM (K : PySem.W.Frag) (x q : Str) (st : Stmt) (f : Addr) (fd : FuncData) : Prop := FunD K x q (defArgs st) (defBody st) (defScope st) [] [] f fd
section
variable {K : PySem.W.Frag} {E : XK} {X : Cx} {CX : CXT} {k : Nat} {f C : Addr} {fd : FuncData} {ps : List Str} {sp : SpS} {dvs : List V} {svs : List SV} {ds : List Value} {x nm : Str} {p pos apos pos' : Pos} {e o value : Expr} {es : List Expr} {t : TA} {s : SA} {ta tv : TE} {sa sv : SE}
end
/-! ### keywords -/
structure GK (K : PySem.W.Frag) (E : XK) (X : Cx) (e : List Keyword) (te : TA) (se : SA) : Prop where
  pe : PK X e te
  sim : SimA K E te se
def tMethK (C : Addr) (m : Str) (sp : Sp) (gV : List V → List V → List V) (E : XK) (ta : TE) (tk : TA) : TE := fun σ H Q => ta σ H fun x H1 => ∃ a dx fs, x = .ref a ∧ H1 a = some (.ins C dx fs) ∧ fs.lookup m = none ∧
  tk σ H1 fun zs H2 => sp (gV [x] zs) H2 Q E
/-- o.m(k = v) -/
def sMethK (C : Addr) (nm : Str) (sp : SpS) (a : SE) (t : SA) : SE := fun SX δ m S => a SX δ m fun x m1 => match x with
  | .ref p => ∃ fs, m1 p = some (.ins C fs) ∧ fs.lookup nm = none ∧ t SX δ m1 fun vs m2 => sp (.ref p :: vs) m2 SX S
  | _ => False
section
variable {K : PySem.W.Frag} {E : XK} {X : Cx} {CX : CXT} {k : Nat} {f C : Addr} {fd : FuncData} {ps ks : List Str} {sp : SpS} {x nm : Str} {p pos apos kpos : Pos} {e o : Expr} {es : List Expr} {kws : List Keyword} {t tk : TA} {s sk : SA} {ta te : TE} {sa se : SE} {nk : Option Str}
theorem gk_nil : GK K E X [] tNil sNil := ⟨pk_nil, (ga_nil (X := X)).sim⟩
theorem gk_cons (ha : GE K E X e te se) (hr : GK K E X kws tk sk) : GK K E X (⟨nk, e, kpos⟩ :: kws) (tCons te tk) (sCons se sk) := ⟨pk_cons ha.pe hr.pe, fun σ F H δ m SX S Q r q c =>
  ha.sim σ F H δ m SX _ _ r q fun v F1 H1 sv m1 s1 M1 v1 h1 => hr.sim σ F1 H1 δ m1 SX _ _ (r.go s1 M1) h1 fun vs F2 H2 svs m2 s2 M2 v2 h2 => c _ F2 H2 _ m2 (s1.trans s2) M2 (.cons (vr_sub s2 v1) v2) h2⟩
end
/-! ### defs with a qualified name -/
section
variable {P : Program} {w : World} {K : PySem.W.Frag} {mg : Str → Option Value} {base : Heap}
end
end Sy

set_option Elab.async false
set_option linter.all false
set_option maxRecDepth 100000
set_option maxHeartbeats 4000000
/-! Dicts with keys ints and texts, displays, enumerate, sorted, copies backward over symbolic values. -/
namespace Sy
open PySem PySem.Spec PyProof.Rows L2
def keyS : SV → Option Key
  | .int i => some (.inl i)
  | .str x => some (.inr x)
  | _ => none
def kS : Key → SV
  | .inl i => .int i
  | .inr x => .str x
section
variable {κ : Type} [DecidableEq κ]
def valS (kvs : List (κ × SV)) (k : κ) : Option SV := (kvs.find? fun kv => decide (kv.1 = k)).map (·.2)
def putD (kvs : List (κ × SV)) (k : κ) (v : SV) : List (κ × SV) :=
  if (kvs.any fun kv => decide (kv.1 = k)) = true then kvs.map (fun kv => if kv.1 = k then (kv.1, v) else kv) else kvs ++ [(k, v)]
def dropD (kvs : List (κ × SV)) (k : κ) : List (κ × SV) := kvs.filter fun kv => decide (kv.1 ≠ k)
variable {K : PySem.W.Frag} {F : Hp}
end
/-! ### readings -/
def sDGet (d i : SE) : SE := fun SX δ m S => d SX δ m fun x m1 => i SX δ m1 fun y m2 => match x with
  | .ref a => ∃ kvs k v, m2 a = some (.dK kvs) ∧ keyS y = some k ∧ valS kvs k = some v ∧ S v m2
  | _ => False
/-- d.get(k) -/
def sDGet1 (d i : SE) : SE := fun SX δ m S => d SX δ m fun x m1 => match x with
  | .ref a => (∃ kvs, m1 a = some (.dK kvs)) ∧ i SX δ m1 fun y m2 => ∃ kvs k, m2 a = some (.dK kvs) ∧ keyS y = some k ∧ S ((valS kvs k).getD .non) m2
  | _ => False
/-- d[k] = v -/
def sDPutS (d i v : SE) : SS := fun SX D δ m => v SX δ m fun z m1 => d SX δ m1 fun x m2 => i SX δ m2 fun y m3 => match x with
  | .ref a => ∃ kvs k, m3 a = some (.dK kvs) ∧ keyS y = some k ∧ kvs.length < sizeLine ∧ D.nx δ (up m3 a (.dK (putD kvs k z)))
  | _ => False
def sDNew : SE := fun _ _ m S => ∀ p, m p = none → S (.ref p) (up m p (.dK []))
def sPairs : List (SE × SE) → SXK → DS → Mem → (List (SV × SV) → Mem → Prop) → Prop
  | [], _, _, m, S => S [] m
  | (k, v) :: r, SX, δ, m, S => k SX δ m fun x m1 => v SX δ m1 fun y m2 => sPairs r SX δ m2 fun ps m3 => S ((x, y) :: ps) m3
def mergeS (kvs more : List (Key × SV)) : List (Key × SV) := more.foldl (fun acc kv => putD acc kv.1 kv.2) kvs
def sDisp (srs : List (SE × SE)) : SE := fun SX δ m S => ∀ p, m p = none → sPairs srs SX δ (up m p (.dK [])) fun ps m2 => m2 p = some (.dK []) ∧ ∃ kvs : List (Key × SV), ps = kvs.map (fun kv => (kS kv.1, kv.2)) ∧ kvs.length ≤ 15 ∧ S (.ref p) (up m2 p (.dK (mergeS [] kvs)))
section
variable {K : PySem.W.Frag} {F H : Hp} {m : Mem} {a p : Addr}
end
inductive PR2 (K : PySem.W.Frag) (F : Hp) : List (V × V) → List (SV × SV) → Prop
  | nil : PR2 K F [] []
  | cons {x y : V} {a b : SV} {ps : List (V × V)} {qs : List (SV × SV)} : VR K F x a → VR K F y b → PR2 K F ps qs → PR2 K F ((x, y) :: ps) ((a, b) :: qs)
structure GPs (K : PySem.W.Frag) (E : XK) (X : Cx) (pos : Pos) (ks : List (Option Expr)) (vs : List Expr) (trs : List (TE × TE)) (srs : List (SE × SE)) : Prop where
  pe : PPs X pos ks vs trs
  sim : ∀ σ F H δ m SX (S : List (SV × SV) → Mem → Prop) (Q : List (V × V) → Hp → Prop), Rl K E σ F H δ m SX → sPairs srs SX δ m S → (∀ ps F' H' qs m', Sub F F' → MR K F' H' m' → PR2 K F' ps qs → S qs m' → Q ps H') → tPairs trs σ H Q
section
variable {K : PySem.W.Frag} {E : XK} {X : Cx} {pos apos cpos pos' : Pos} {o i e k v value : Expr} {ks : List (Option Expr)} {vs : List Expr} {trs : List (TE × TE)} {srs : List (SE × SE)} {td ty tk tv : TE} {sd sy sk sv : SE}
end
/-! ### sorted of a dict with int keys -/
def rSortDI : List V → Hp → VK → Prop := fun xs H Q => ∃ (a : Addr) (kvs : List (Key × V)) (ks : List Int), xs = [.ref a] ∧ L2.Rd H a (.dK kvs) ∧ kvs.map (·.1) = ks.map Sum.inl ∧ ks.length < 64 ∧
    ∀ (ys : List Int) (p : Addr), ys.Perm ks → ys.Pairwise (· ≤ ·) → H p = none → Q (.ref p) (upd H p (.lst (ys.map V.int)))
def srtI (ks : List Int) : List Int := ks.mergeSort (fun a b => decide (a ≤ b))
def sSortDI : SRC := fun vs m S => match vs with
  | [.ref a] => ∃ (kvs : List (Key × SV)) (ks : List Int), m a = some (.dK kvs) ∧ kvs.map (·.1) = ks.map Sum.inl ∧ ks.length < 64 ∧ ∀ p, m p = none → S (.ref p) (up m p (.lst ((srtI ks).map SV.int)))
  | _ => False
/-! ### enumerate(list) -/
def enS : Int → List SV → List SV
  | _, [] => []
  | i, x :: r => .tup [.int i, x] :: enS (i + 1) r
theorem enS_len : ∀ (xs : List SV) (i : Int), (enS i xs).length = xs.length
  | [], _ => rfl
  | _ :: r, i => by rw [enS, List.length_cons, List.length_cons, enS_len r]
theorem enS_get : ∀ (xs : List SV) (i : Int) (j : Nat) (y : SV), (enS i xs)[j]? = some y → ∃ x, xs[j]? = some x ∧ y = .tup [.int (i + (j : Nat)), x]
  | [], _, _, _, e => by simp [enS] at e
  | x :: r, i, 0, y, e => by
    simp [enS] at e
    exact ⟨x, rfl, by rw [← e]; simp⟩
  | x :: r, i, j + 1, y, e => by
    obtain ⟨x', h1, h2⟩ := enS_get r (i + 1) j y (by simpa [enS] using e)
    refine ⟨x', by simpa using h1, ?_⟩
    rw [h2]
    congr 3
    push_cast
    omega
def sEnumI (a : SA) : SI := fun SX δ m R => a SX δ m fun xs m1 => match xs with
  | [x] => ∃ ys, ItsL m1 x ys ∧ R (enS 0 ys) (keepOf x ys) m1
  | _ => False
theorem one_any {xs : List SV} {P : SV → Prop} (h : match xs with | [x] => P x | _ => False) : ∃ x, xs = [x] ∧ P x := by
  split at h
  · exact ⟨_, rfl, h⟩
  · exact h.elim
theorem it_e {K : PySem.W.Frag} {F : Hp} {a : Addr} {ys : List SV} {keep : Mem → Prop} (h : ∀ F' H' m', Sub F F' → MR K F' H' m' → keep m' → ∃ vs, SqL K H' a vs ∧ VRs K F' vs ys) : ItOk K F (Ite K a) (enS 0 ys) keep where
  go := fun i F' H' m' x s M k e => by
    obtain ⟨vs, h1, h2⟩ := h F' H' m' s M k
    obtain ⟨z, hz, rfl⟩ := enS_get _ _ _ _ e
    obtain ⟨v, hv, rv⟩ := vrs_get h2 hz
    refine ⟨⟨vs, v, h1, hv⟩, fun w H'' hy => ?_⟩
    obtain ⟨T, y, rfl, hT, rfl, hy⟩ := hy
    have q := hy vs h1
    rw [hv] at q
    cases q
    refine ⟨upd F' T _, Sub.new (M.sub.gone hT), M.frz hT, .tup (.inl (.inl upd_same)) (.cons ?_ (.cons (vr_sub (Sub.new (M.sub.gone hT)) rv) .nil))⟩
    have e0 : (0 : Int) + (i : Nat) = (i : Nat) := by omega
    rw [e0]
    exact .int _
  stop := fun F' H' m' s M k => by
    obtain ⟨vs, h1, h2⟩ := h F' H' m' s M k
    exact ⟨vs, h1, by rw [enS_len, vrs_length h2]; exact Nat.le_refl _⟩
section
variable {K : PySem.W.Frag} {E : XK} {X : Cx} {e : Expr} {p pos tpos : Pos} {elts : List Expr} {kk : Nat} {t : TA} {s : SA} {te : TE} {se : SE}
theorem gi_enumerate (hg : Gl X "enumerate") (hm : X.mg "enumerate" = none) (ha : GA K E X [e] t s) (hs : starEach [e] X.env = [(false, eval e X.env)] := by rfl) (hK : X.K = K := by rfl) : GI K E X (.Tuple elts kk tpos) (.Call (.Name "enumerate" p) [e] [] pos) (iEnum K t) (sEnumI s) := by
  subst hK
  exact ⟨pi_enum hg hm ha.pe hs, fun σ F H δ m SX R R' r hh c => ha.sim σ F H δ m SX _ _ r hh fun v F1 H1 sv m1 s1 M1 v1 h1 => by
    obtain ⟨x, rfl, ys, hi, q⟩ := one_any h1
    obtain ⟨w, rfl, rw_⟩ := vrs_one v1
    cases rw_ with
    | lst g1 g2 =>
      cases (show ys = _ from hi)
      exact ⟨_, _, rfl, sql_sub M1.sub g1, c _ _ _ F1 H1 m1 s1 M1 (it_e fun F2 H2 m2 s2 M2 _ => ⟨_, sql_sub (s2.trans M2.sub) g1, vrs_sub s2 g2⟩) q⟩
    | ref b =>
      obtain ⟨vs, e1, _⟩ := M1.lst_ (show m1 b = some (.lst ys) from hi)
      exact ⟨_, _, rfl, .inl (.inl e1), c _ _ _ F1 H1 m1 s1 M1 (it_e fun F2 H2 m2 s2 M2 k => by
        obtain ⟨ws, e2, r2⟩ := M2.lst_ (show m2 b = some (.lst ys) from k)
        exact ⟨ws, .inl (.inl e2), r2⟩) q⟩
    | _ => exact (show False from hi).elim⟩
/-! ### xs[::-1], [..] * n -/
def sRev (a : SE) : SE := fun SX δ m S => a SX δ m fun x m1 => ∃ ys, ItsL m1 x ys ∧ ∀ p, m1 p = none → S (.ref p) (up m1 p (.lst ys.reverse))
theorem vrs_rev {F : Hp} : ∀ {vs : List V} {xs : List SV}, VRs K F vs xs → VRs K F vs.reverse xs.reverse
  | _, _, .nil => .nil
  | _, _, .cons a b => by
    rw [List.reverse_cons, List.reverse_cons]
    exact vrs_append (vrs_rev b) (.cons a .nil)
def sRep : SR2 := fun x y m S => match x, y with
  | .ref a, .int k => ∃ xs, m a = some (.lst xs) ∧ (-(2 ^ 63) ≤ k ∧ k < 2 ^ 63 ∧ xs.length * k.toNat ≤ sizeLine) ∧ ∀ p, m p = none → S (.ref p) (up m p (.lst (List.replicate k.toNat xs).flatten))
  | _, _ => False
theorem vrs_rep {F : Hp} {vs : List V} {xs : List SV} (h : VRs K F vs xs) : ∀ n : Nat, VRs K F (List.replicate n vs).flatten (List.replicate n xs).flatten
  | 0 => .nil
  | n + 1 => by
    rw [List.replicate_succ, List.replicate_succ, List.flatten_cons, List.flatten_cons]
    exact vrs_append h (vrs_rep h n)
theorem sim_rep : SimR K rRep sRep := fun F H m x y a b S Q M ra rb h c => by
  cases ra <;> cases rb <;> first
    | exact (show False from h).elim
    | skip
  obtain ⟨xs, e1, ⟨h1, h2, h3⟩, q⟩ := (show ∃ xs, _ from h)
  obtain ⟨vs, e2, r2⟩ := M.lst_ e1
  exact ⟨_, _, vs, rfl, rfl, e2, h1, h2, by rw [vrs_length r2]; exact h3, fun p hp => c (.ref p) F _ _ _ (.refl F) (M.newL hp (vrs_rep r2 _)) (.ref p) (q p (M.gone hp))⟩
end
end Sy

set_option Elab.async false
set_option linter.all false
set_option maxRecDepth 100000
set_option maxHeartbeats 4000000
/-! A def that may raise, called where it doesn't (within a comprehension). -/
namespace Sy
open PySem PySem.Spec PyProof.Rows L2
def calm (sp : SpS) : SpS := fun vs m _ S => sp vs m (fun _ _ => False) S
end Sy

set_option Elab.async false
set_option linter.all false
set_option maxRecDepth 100000
set_option maxHeartbeats 4000000
/-! a, b = x, y of plain names -/
namespace Sy
open PySem PySem.Spec PyProof.Rows L2
def sPar (i j : Nat) (sa : SA) : SS := fun SX D δ m => sa SX δ m fun vs m1 => match vs with
  | [v, w] => D.nx ((δ.set i (some v)).set j (some w)) m1
  | _ => False
def sPar3 (i j l : Nat) (sa : SA) : SS := fun SX D δ m => sa SX δ m fun vs m1 => match vs with
  | [u, v, w] => D.nx (((δ.set i (some u)).set j (some v)).set l (some w)) m1
  | _ => False
theorem two_any {xs : List SV} {P : SV → SV → Prop} (h : match xs with | [x, y] => P x y | _ => False) : ∃ x y, xs = [x, y] ∧ P x y := by
  split at h
  · exact ⟨_, _, rfl, h⟩
  · exact h.elim
theorem three_any {xs : List SV} {P : SV → SV → SV → Prop} (h : match xs with | [x, y, z] => P x y z | _ => False) : ∃ x y z, xs = [x, y, z] ∧ P x y z := by
  split at h
  · exact ⟨_, _, _, rfl, h⟩
  · exact h.elim
section
variable {K : PySem.W.Frag} {E : XK} {X : Cx} {a b c : Expr} {ta : TA} {sa : SA} {pos px py pz pt pt2 : Pos} {kt k2 : Nat} {i j l : Nat} {x y z : Str}
theorem gs_par (hc : X.calm = true) (hN : X.N.Nodup) (hi : X.N[i]? = some x) (hj : X.N[j]? = some y) (hij : i ≠ j)
    (hx : X.env.scope.names.lookup x = some .local) (hy : X.env.scope.names.lookup y = some .local) (ha : GA K E X [a, b] ta sa)
    (hw : swappedStores [.Tuple [.Name x px, .Name y py] kt pt] (.Tuple [a, b] k2 pt2) X.env = pure (some [x, y]) := by rfl)
    (hs : swapsWithSole [.Tuple [.Name x px, .Name y py] kt pt] (.Tuple [a, b] k2 pt2) pos.line X.env = pure false := by rfl) :
    GS K E X (.Assign [.Tuple [.Name x px, .Name y py] kt pt] (.Tuple [a, b] k2 pt2) pos) (tPar i j ta) (sPar i j sa) :=
  ⟨ps_par hc hN hi hj hij hx hy ha.pe hw hs, fun σ F H δ m SX D Es r h q => ha.sim σ F H δ m SX _ _ r h fun vs F1 H1 svs m1 s1 M1 v1 h1 => by
    obtain ⟨v, w, rfl, h1⟩ := two_any h1
    obtain ⟨v', w', rfl, r1, r2⟩ := vrs_two v1
    exact ⟨v', w', rfl, q.nx _ _ F1 H1 m1 s1 (((r.sr.sub s1).set r1).set r2) M1 h1⟩⟩
theorem vrs_three {F : Hp} {vs : List V} {x y z : SV} (h : VRs K F vs [x, y, z]) : ∃ u v w, vs = [u, v, w] ∧ VR K F u x ∧ VR K F v y ∧ VR K F w z := by
  cases h with
  | cons r t =>
    obtain ⟨v, w, rfl, q1, q2⟩ := vrs_two t
    exact ⟨_, _, _, rfl, r, q1, q2⟩
theorem gs_par3 (hc : X.calm = true) (hN : X.N.Nodup) (hi : X.N[i]? = some x) (hj : X.N[j]? = some y) (hl : X.N[l]? = some z) (hij : i ≠ j) (hil : i ≠ l) (hjl : j ≠ l)
    (hx : X.env.scope.names.lookup x = some .local) (hy : X.env.scope.names.lookup y = some .local) (hz : X.env.scope.names.lookup z = some .local) (ha : GA K E X [a, b, c] ta sa)
    (hw : swappedStores [.Tuple [.Name x px, .Name y py, .Name z pz] kt pt] (.Tuple [a, b, c] k2 pt2) X.env = pure (some [x, y, z]) := by rfl)
    (hs : swapsWithSole [.Tuple [.Name x px, .Name y py, .Name z pz] kt pt] (.Tuple [a, b, c] k2 pt2) pos.line X.env = pure false := by rfl) :
    GS K E X (.Assign [.Tuple [.Name x px, .Name y py, .Name z pz] kt pt] (.Tuple [a, b, c] k2 pt2) pos) (tPar3 i j l ta) (sPar3 i j l sa) :=
  ⟨ps_par3 hc hN hi hj hl hij hil hjl hx hy hz ha.pe hw hs, fun σ F H δ m SX D Es r h q => ha.sim σ F H δ m SX _ _ r h fun vs F1 H1 svs m1 s1 M1 v1 h1 => by
    obtain ⟨u, v, w, rfl, h1⟩ := three_any h1
    obtain ⟨u', v', w', rfl, r1, r2, r3⟩ := vrs_three v1
    exact ⟨u', v', w', rfl, q.nx _ _ F1 H1 m1 s1 ((((r.sr.sub s1).set r1).set r2).set r3) M1 h1⟩⟩
end
def isBl (x : SV) (b : Bool) : Bool := match x with
  | .bl a => decide (a = b)
  | _ => false
def sNotBA : SR2 := fun x y m S => match y with
  | .bl b => S (.bl (!isBl x b)) m
  | _ => False
end Sy

set_option Elab.async false
set_option linter.all false
set_option maxRecDepth 100000
set_option maxHeartbeats 4000000
/-! sorted(set(xs)), len(set(xs)) of a list of ints; d.get(k, x). -/
namespace Sy
open PySem PySem.Spec PyProof.Rows L2
/-- an empty set's object -/
abbrev nset (w : World) : Obj := { cls := .type "set", dict := none, data := .set #[] 0 (.fresh 0 0 (!w.params.followText "set-order")) }
section
variable {P : Program} {w : World} {A : Around} {E : Value → Shared → Prop} {s : Shared}
/-- what stands behind the making of a set out of ns -/
def Made (w : World) (s : Shared) (ns : List Int) (r : Value) (s2 : Shared) : Prop := r = .none ∧ ∃ h' tk c, s2 = { s with heap := h', toks := tk } ∧ SetR w h' s.heap.objs.size (fun j => decide (j ∈ ns)) c ∧ c ≤ ns.length ∧ ∀ b o, s.heap.get? b = some o → h'.get? b = some o
end
def rSetI (K : PySem.W.Frag) (w : World) : List V → Hp → VK → Prop := fun xs H Q => ∃ (l : Addr) (ns : List Int), xs = [V.ref l] ∧ SqL K H l (ns.map V.int) ∧ ns.length < 64 ∧ ∀ (p : Addr) (c : Nat), H p = none → c ≤ ns.length → Q (.ref p) (upd H p (SetO w p (fun j => decide (j ∈ ns)) c))
def sSetI (w : World) : SRC := fun vs m S => match vs with
  | [x] => ∃ ns : List Int, ItsL m x (ns.map .int) ∧ ns.length < 64 ∧ ∀ (p : Addr) (c : Nat), m p = none → c ≤ ns.length → S (.ref p) (up m p (.raw (SetO w p (fun j => decide (j ∈ ns)) c)))
  | _ => False
def sSortS (w : World) : SRC := fun vs m S => match vs with
  | [.ref a] => ∃ (ns : List Int) (c : Nat), m a = some (.raw (SetO w a (fun j => decide (j ∈ ns)) c)) ∧ c < 64 ∧ ∀ (ys : List Int) (p : Addr), ys.Pairwise (· < ·) → (∀ k, k ∈ ys ↔ k ∈ ns) → m p = none → S (.ref p) (up m p (.lst (ys.map .int)))
  | _ => False
/-- len(set(xs)), unlike ints -/
def sLenSet (a : SE) : SE := fun SX δ m S => a SX δ m fun x m1 => ∃ ns : List Int, ItsL m1 x (ns.map .int) ∧ ns.length < 64 ∧ ns.Nodup ∧ S (.int ns.length) m1
/-- d.get(k, x) -/
def sDGet2 (d i f : SE) : SE := fun SX δ m S => d SX δ m fun x m1 => match x with
  | .ref a => (∃ kvs, m1 a = some (.dK kvs)) ∧ i SX δ m1 fun y m2 => f SX δ m2 fun z m3 => ∃ kvs k, m3 a = some (.dK kvs) ∧ keyS y = some k ∧ S ((valS kvs k).getD z) m3
  | _ => False
end Sy

set_option Elab.async false
set_option linter.all false
set_option maxRecDepth 100000
set_option maxHeartbeats 4000000
/-! k in d; x in a list of data of any depth. -/
namespace Sy
open PySem PySem.Spec PyProof.Rows L2
def sInD (neg : Bool) : SR2 := fun x y m S => ∃ d ds, Rd m x d ∧ Rd m y (.list ds) ∧ SeqAt.shaped d = true ∧ SeqAt.shaped (.list ds) = true ∧ S (.bl (if neg then !(ds.any fun z => PyData.eqv z d) else ds.any fun z => PyData.eqv z d)) m
section
variable {K : PySem.W.Frag} {E : XK} {X : Cx} {a b : Expr} {ta tb : TE} {sa sb : SE} {pos : Pos}
/-- k in d -/
def sDIn (i d : SE) : SE := fun SX δ m S => i SX δ m fun y m1 => d SX δ m1 fun x m2 => match x with
  | .ref a => ∃ kvs k, m2 a = some (.dK kvs) ∧ keyS y = some k ∧ S (.bl (valS kvs k).isSome) m2
  | _ => False
end
mutual
/-- data without dicts, its == -/
def NoD : PyData → Prop
  | .list a => NoDs a
  | .tuple a => NoDs a
  | .dict _ => False
  | _ => True
def NoDs : List PyData → Prop
  | [] => True
  | a :: r => NoD a ∧ NoDs r
end
mutual
theorem eqv_refl : ∀ d : PyData, NoD d → PyData.eqv d d = true
  | .none, _ => by simp [PyData.eqv]
  | .bool b, _ => by cases b <;> simp [PyData.eqv]
  | .int _, _ => by simp [PyData.eqv]
  | .str _, _ => by simp [PyData.eqv]
  | .list a, h => by simp only [PyData.eqv]; exact eqvAll_refl a h
  | .tuple a, h => by simp only [PyData.eqv]; exact eqvAll_refl a h
  | .dict _, h => h.elim
theorem eqvAll_refl : ∀ d : List PyData, NoDs d → PyData.eqvAll d d = true
  | [], _ => by simp [PyData.eqvAll]
  | a :: r, h => by
    simp only [PyData.eqvAll, Bool.and_eq_true]
    exact ⟨eqv_refl a h.1, eqvAll_refl r h.2⟩
end
/-- data that == compares -/
def Shp (n : Nat) (d : PyData) : Prop := PyData.canLay0 d = true ∧ PyData.depth d ≤ n
theorem shp_list {n : Nat} {ds : List PyData} (h : ∀ d ∈ ds, Shp n d) : Shp (n + 1) (.list ds) ∧ Shp (n + 1) (.tuple ds) := by
  have key : ∀ (ds : List PyData), (∀ d ∈ ds, Shp n d) → PyData.canLayAll0 ds = true ∧ PyData.depthAll ds ≤ n := fun ds => by
    induction ds with
    | nil => exact fun _ => ⟨by simp [PyData.canLayAll0], by simp [PyData.depthAll]⟩
    | cons a r ih =>
      intro h
      obtain ⟨i1, i2⟩ := ih fun d hd => h d (List.mem_cons_of_mem _ hd)
      obtain ⟨j1, j2⟩ := h a List.mem_cons_self
      refine ⟨by simp [PyData.canLayAll0, i1, j1], ?_⟩
      simp only [PyData.depthAll]
      omega
  obtain ⟨k1, k2⟩ := key ds h
  exact ⟨⟨by simp only [PyData.canLay0, k1], by simp only [PyData.depth]; omega⟩, ⟨by simp only [PyData.canLay0, k1], by simp only [PyData.depth]; omega⟩⟩
theorem shp_ok {n : Nat} {d : PyData} (h : Shp n d) (hn : n ≤ 64) : SeqAt.shaped d = true := by
  unfold SeqAt.shaped
  rw [h.1, Bool.true_and]
  exact decide_eq_true (Nat.le_trans h.2 hn)
theorem shp_int {n : Nat} (i : Int) : Shp n (.int i) := ⟨by simp [PyData.canLay0], by simp [PyData.depth]⟩
theorem shp_none {n : Nat} : Shp n .none := ⟨by simp [PyData.canLay0], by simp [PyData.depth]⟩
theorem shp_bool {n : Nat} (b : Bool) : Shp n (.bool b) := ⟨by simp [PyData.canLay0], by simp [PyData.depth]⟩
theorem shp_str {n : Nat} {x : Str} (h : PyData.strOk x = true) : Shp n (.str x) := ⟨by simp [PyData.canLay0, h], by simp [PyData.depth]⟩
end Sy

set_option Elab.async false
set_option linter.all false
set_option maxRecDepth 100000
set_option maxHeartbeats 4000000
/-! Dicts whose keys are tuples of ints and texts. -/
namespace Sy
open PySem PySem.Spec PyProof.Rows L2
section
variable {K : PySem.W.Frag} {F H : Hp} {m : Mem}
end
/-! ### readings -/
def sTupK (a : SA) : SE := fun SX δ m S => a SX δ m fun xs m1 => ∃ ks : List Key, xs = ks.map kS ∧ xs.length ≤ sizeLine ∧ S (.kt ks) m1
def sDGetT (d i : SE) : SE := fun SX δ m S => d SX δ m fun x m1 => i SX δ m1 fun y m2 => match x with
  | .ref a => ∃ kvs k v, m2 a = some (.dT kvs) ∧ y = .kt k ∧ valS kvs k = some v ∧ S v m2
  | _ => False
def sDGetT2 (d i f : SE) : SE := fun SX δ m S => d SX δ m fun x m1 => match x with
  | .ref a => (∃ kvs, m1 a = some (.dT kvs)) ∧ i SX δ m1 fun y m2 => f SX δ m2 fun z m3 => ∃ kvs k, m3 a = some (.dT kvs) ∧ y = .kt k ∧ S ((valS kvs k).getD z) m3
  | _ => False
def sDPutT (d i v : SE) : SS := fun SX D δ m => v SX δ m fun z m1 => d SX δ m1 fun x m2 => i SX δ m2 fun y m3 => match x with
  | .ref a => ∃ kvs k, m3 a = some (.dT kvs) ∧ y = .kt k ∧ kvs.length < sizeLine ∧ D.nx δ (up m3 a (.dT (putD kvs k z)))
  | _ => False
def sDNewT : SE := fun _ _ m S => ∀ p, m p = none → S (.ref p) (up m p (.dT []))
def sDInT (neg : Bool) (i d : SE) : SE := fun SX δ m S => i SX δ m fun y m1 => d SX δ m1 fun x m2 => match x with
  | .ref a => ∃ kvs k, m2 a = some (.dT kvs) ∧ y = .kt k ∧ S (.bl (if neg then !(valS kvs k).isSome else (valS kvs k).isSome)) m2
  | _ => False
def tDDelT (td ty : TE) : TS := fun D σ H => td σ H fun x H1 => ty σ H1 fun y H2 => ∃ (a b : Addr) (kvs : List (List Key × V)) (k : List Key), x = .ref a ∧ H2 a = some (.dT kvs) ∧ y = .ref b ∧ H2 b = some (.tup (k.map kV)) ∧ (valV kvs k).isSome = true ∧ D.nx σ (upd H2 a (.dT (dropK kvs k)))
def sDDelT (d i : SE) : SS := fun SX D δ m => d SX δ m fun x m1 => i SX δ m1 fun y m2 => match x with
  | .ref a => ∃ kvs k, m2 a = some (.dT kvs) ∧ y = .kt k ∧ (valS kvs k).isSome = true ∧ D.nx δ (up m2 a (.dT (dropD kvs k)))
  | _ => False
section
variable {K : PySem.W.Frag} {E : XK} {X : Cx} {pos apos cpos pos' tpos : Pos} {o i e f k v value a b : Expr} {es : List Expr} {td ty tv te tx : TE} {sd sy sv se sx : SE} {tl : TA} {sl : SA}
/-- `k not in d` of int and text keys -/
def sDNotIn (i d : SE) : SE := fun SX δ m S => i SX δ m fun y m1 => d SX δ m1 fun x m2 => match x with
  | .ref a => ∃ kvs k, m2 a = some (.dK kvs) ∧ keyS y = some k ∧ S (.bl (!(valS kvs k).isSome)) m2
  | _ => False
end
/-! ### list(d), k[i] -/
def rListT : List V → Hp → VK → Prop := fun xs H Q => ∃ d kvs, xs = [V.ref d] ∧ L2.Rd H d (.dT kvs) ∧ ∀ p bs, H p = none → IsKeys H kvs bs → Q (.ref p) (upd H p (.lst (bs.map V.ref)))
def sListT : SRC := fun vs m S => match vs with
  | [.ref a] => ∃ kvs : List (List Key × SV), m a = some (.dT kvs) ∧ ∀ p, m p = none → S (.ref p) (up m p (.lst (kvs.map fun q => .kt q.1)))
  | _ => False
def sIxK : SR2 := fun x y m S => match x, y with
  | .kt ks, .int i => ∃ k, atI ks i = some k ∧ S (kS k) m
  | _, _ => False
/-! ### d.values() of a locked dict -/
def ItdT (d : Addr) (o : Obj) (kvs : List (List Key × V)) : It :=
  ⟨fun i H => H d = some (.frz o (.dT kvs)) ∧ i < kvs.length, fun i H x H' => H' = H ∧ ∃ k, kvs[i]? = some (k, x), fun i H => H d = some (.frz o (.dT kvs)) ∧ kvs.length ≤ i⟩
def iValsT (td : TE) : TI := fun σ H R => td σ H fun x H1 => ∃ d o kvs, x = .ref d ∧ H1 d = some (.frz o (.dT kvs)) ∧ R (ItdT d o kvs) H1
def sValsT (a : SE) : SI := fun SX δ m R => a SX δ m fun x m1 => match x with
  | .ref d => ∃ o kvs, m1 d = some (.lk o kvs) ∧ R (kvs.map (·.2)) (fun m' => m' d = some (.lk o kvs)) m1
  | _ => False
/-- an expression that runs while a dict is locked -/
def sLockT (se : SE) : SE := fun SX δ m S => ∃ d kvs, m d = some (.dT kvs) ∧ ∀ o, se SX δ (up m d (.lk o kvs)) fun v m' => m' d = some (.lk o kvs) ∧ S v (up m' d (.dT kvs))
end Sy

set_option Elab.async false
set_option linter.all false
set_option maxRecDepth 100000
set_option maxHeartbeats 4000000
/-! sorted of rows (two ints and a tuple of ints), of ints; max of a list; min(.., default = None). -/
namespace Sy
open PySem PySem.Spec PyProof.Rows L2
/-- a row: two ints and a tuple of ints -/
abbrev Row := Int × Int × List Int
def keyR (r : Row) : List Int := r.1 :: r.2.1 :: r.2.2
def rowS (r : Row) : SV := .tup [.int r.1, .int r.2.1, .tup (r.2.2.map .int)]
def IsRow (h : Heap) (v : Value) (κ : List Int) : Prop := ∃ (a b : Addr) (o : Obj) (t u : Tok) (n : Nat) (i j : Int) (itb : Array Value) (ns : List Int), v = .ref a ∧ h.get? a = some o ∧ o.cls = .type "tuple" ∧ o.data = .seq #[.int i t, .int j u, .ref b] n ∧ IsTup h b itb ∧ IntsAre itb.toList ns ∧ κ = i :: j :: ns
section
variable {prog : Program} {w : World} {A : Around} {E : Value → Shared → Prop} {s : Shared}
open PySem.SeqAt
end
def toV : V → Value
  | .ref a => .ref a
  | _ => .none
/-- what is sorted: rows of any number -/
def RowV (K : PySem.W.Frag) (H : Hp) (x : V) (r : Row) : Prop := ∃ t b, x = .ref t ∧ SqT K H t [.int r.1, .int r.2.1, .ref b] ∧ SqT K H b (r.2.2.map V.int)
def rSortRows (K : PySem.W.Frag) : List V → Hp → VK → Prop := fun vs H Q => ∃ (a : Addr) (zs : List (V × Row)), vs = [V.ref a] ∧ SqL K H a (zs.map (·.1)) ∧ (∀ z ∈ zs, RowV K H z.1 z.2) ∧
  ∀ (ys : List (V × Row)) (p : Addr), ys.Perm zs → ys.Pairwise (fun r q => HT.lexLt (keyR q.2) (keyR r.2) = false) → H p = none → Q (.ref p) (upd H p (.lst (ys.map (·.1))))
def sSortRows : SRC := fun vs m S => match vs with
  | [x] => ∃ rs : List Row, ItsL m x (rs.map rowS) ∧ ∀ (ys : List Row) (p : Addr), ys.Perm rs → ys.Pairwise (fun r q => HT.lexLt (keyR q) (keyR r) = false) → m p = none → S (.ref p) (up m p (.lst (ys.map rowS)))
  | _ => False
/-! ### sorted of ints, max of a list -/
def sSortInts : SRC := fun vs m S => match vs with
  | [x] => ∃ ns : List Int, ItsL m x (ns.map .int) ∧ ∀ p, m p = none → S (.ref p) (up m p (.lst ((srtI ns).map .int)))
  | _ => False
def sMaxL : SRC := fun vs m S => match vs with
  | [x] => ∃ ns : List Int, ItsL m x (ns.map .int) ∧ 0 < ns.length ∧ ∀ y, y ∈ ns → (∀ z, z ∈ ns → z ≤ y) → S (.int y) m
  | _ => False
end Sy

set_option Elab.async false
set_option linter.all false
set_option maxRecDepth 100000
set_option maxHeartbeats 4000000
/-! min(list of ints, default = None). -/
namespace Sy
open PySem PySem.Spec PyProof.Rows L2
section
variable {prog : Program} {w : World} {A : Around} {E : Value → Shared → Prop} {s : Shared}
/-- what the store of the best so far holds: nothing, or the least of the numbers that were seen -/
def BestSo (ns : List Int) (j : Nat) (its : Array Value) : Prop := (j = 0 ∧ its = #[]) ∨ ∃ x t, its = #[.int x t, .int x t] ∧ x ∈ ns.take j ∧ ∀ y ∈ ns.take j, x ≤ y
/-- the answer -/
def MinD (ns : List Int) (d v : Value) : Prop := (ns = [] ∧ v = d) ∨ ∃ x t, v = .int x t ∧ x ∈ ns ∧ ∀ y ∈ ns, x ≤ y
end
def rMinD (K : PySem.W.Frag) : List V → List V → Hp → VK → Prop := fun vs zs H Q => ∃ (a : Addr) (ns : List Int), vs = [V.ref a] ∧ zs = [.non] ∧ SqL K H a (ns.map V.int) ∧ (ns = [] → Q .non H) ∧ ∀ y, y ∈ ns → (∀ z, z ∈ ns → y ≤ z) → Q (.int y) H
def sCKw (r : List SV → List SV → Mem → (SV → Mem → Prop) → Prop) (t tk : SA) : SE := fun SX δ m S => t SX δ m fun vs m1 => tk SX δ m1 fun zs m2 => r vs zs m2 S
def sMinD : List SV → List SV → Mem → (SV → Mem → Prop) → Prop := fun vs zs m S => match vs, zs with
  | [x], [.non] => ∃ ns : List Int, ItsL m x (ns.map .int) ∧ (ns = [] → S .non m) ∧ ∀ y, y ∈ ns → (∀ z, z ∈ ns → y ≤ z) → S (.int y) m
  | _, _ => False
end Sy

set_option Elab.async false
set_option linter.all false
set_option maxRecDepth 100000
set_option maxHeartbeats 4000000
/-! enumerate of a tuple; dict of a tuple of pairs; an attribute among targets; isinstance of two kinds. -/
namespace Sy
open PySem PySem.Spec PyProof.Rows L2
/-! ### enumerate(tuple) -/
theorem enum_newT (l : Addr) (items : Array Value) (n : Nat) (dct : Option Addr) (sl : Array (Option Value)) :
    Meets (Builtin.«enumerate.__new__» ⟨[.type "enumerate", .ref l], []⟩) (fun _ R s => s.heap.get? l = some { cls := .type "tuple", dict := dct, data := .seq items n, slots := sl } ∧
      R (.ok (.ret (.ref (s.heap.push { cls := .type "tuple_iterator", data := .fields #[.ref l, .int 0 0] }).objs.size)))
        { s with heap := (s.heap.push { cls := .type "tuple_iterator", data := .fields #[.ref l, .int 0 0] }).push { cls := .type "enumerate", data := .fields #[.none, .bool false, .ref s.heap.objs.size, rawInt 0, .none, .none] } }) :=
  .of_wp fun prog w A R s h => by
    obtain ⟨hp, g, d, tk, os⟩ := s; obtain ⟨hl, h⟩ := h
    have hsub := sub_enumerate
    have hL : Heap.IsTuple (Shared.heap ⟨hp, g, d, tk, os⟩) l items := ⟨_, hl, rfl, n, rfl⟩
    have q1 : ∀ {A' : Around} {E : Value → Shared → Prop} {Q : Value → Shared → Prop}, Q (.ref hp.objs.size) ⟨hp.push { cls := .type "tuple_iterator", data := .fields #[.ref l, .int 0 0] }, g, d, tk, os⟩ → wpAny (model prog w) A' (pyIter (.ref l)) Q E ⟨hp, g, d, tk, os⟩ := fun q => wpAny_pyIter_tuple hL q
    wp_walk using AutoSeq1.wpAny_loadPart' hl, q1
    refine wpAny_stack_any fun st => wpAny_pure ?_
    split
    · rename_i c _ _ _ _ _
      cases (c == Value.type "enumerate")
      · wp_walk using q1
        exact ⟨_, rfl, h⟩
      · wp_walk using q1
        exact ⟨_, rfl, h⟩
    · wp_walk using q1
      exact ⟨_, rfl, h⟩
theorem call_enumT {prog : Program} {w : World} {A : Around} {E : Value → Shared → Prop} {s : Shared} {l : Addr} {items : Array Value} {Q : Value → Shared → Prop} (hL : s.heap.IsTuple l items)
    (h : ∀ h', IsEnum h' (s.heap.objs.size + 1) s.heap.objs.size ((0 : Nat) : Int) .none → h'.IsTupleIter s.heap.objs.size l 0 → (∀ b o, s.heap.get? b = some o → h'.get? b = some o) → Q (.ref (s.heap.objs.size + 1)) { s with heap := h' }) :
    wpAny (model prog w) A (call (.type "enumerate") [.ref l]) Q E s := by
  obtain ⟨⟨c, dct, dt, sl⟩, hl, hc, n, hd⟩ := hL
  replace hc : c = .type "tuple" := hc
  replace hd : dt = .seq items n := hd
  subst hc hd
  refine callType_new F.called_enumerate (by decide) (F.typeCall_enumerate_1 _) (F.newCall_enumerate_1 _) (fun obj => F.args_object_init_2 obj _) F.entry_enumerate_new (enum_newT l items n dct sl) ⟨hl, ?_⟩
  have hz : (s.heap.push { cls := .type "tuple_iterator", data := .fields #[.ref l, .int 0 0] }).objs.size = s.heap.objs.size + 1 := Heap.size_push ..
  show _ ∧ _
  rw [hz]
  have he : IsEnum ((s.heap.push { cls := .type "tuple_iterator", data := .fields #[.ref l, .int 0 0] }).push { cls := .type "enumerate", data := .fields #[.none, .bool false, .ref s.heap.objs.size, rawInt 0, .none, .none] }) (s.heap.objs.size + 1) s.heap.objs.size 0 .none := by
    have z := Heap.get?_push_size (s.heap.push { cls := .type "tuple_iterator", data := .fields #[.ref l, .int 0 0] }) (o := { cls := .type "enumerate", data := .fields #[.none, .bool false, .ref s.heap.objs.size, rawInt 0, .none, .none] }) rfl
    rw [hz] at z; exact z
  exact ⟨⟨_, he, rfl⟩, h _ he ⟨_, Heap.get?_push_of_some _ (Heap.get?_push_size _ rfl), rfl, rfl⟩ fun b o x => Heap.get?_push_of_some _ (Heap.get?_push_of_some _ x)⟩
def Itet (K : PySem.W.Frag) (a : Addr) : It :=
  ⟨fun i H => ∃ (xs : List V) (x : V), SqT K H a xs ∧ xs[i]? = some x, fun i H v H' => ∃ T x, v = .ref T ∧ H T = none ∧ H' = upd H T (.tup [.int (i : Nat), x]) ∧ ∀ xs, SqT K H a xs → xs[i]? = some x, fun i H => ∃ xs : List V, SqT K H a xs ∧ xs.length ≤ i⟩
theorem turn_enumT {P : Program} {w : World} {K : PySem.W.Frag} {elts : List Expr} {kk : Nat} {tpos : Pos} (a e it : Addr) :
    Turn P w K (.Tuple elts kk tpos) (Itet K a) [e, it] e (fun i h => (∃ old, IsEnum h e it ((i : Nat) : Int) old) ∧ h.IsTupleIter it a i ∧ e ≠ it) where
  mem := by simp
  obj := fun i h st b hb => by
    obtain ⟨⟨old, he⟩, ⟨o, ho, hc, hd⟩, _⟩ := st
    have e' : b = e ∨ b = it := by simpa using hb
    rcases e' with z | z
    · rw [z]; exact ⟨_, he, fun v q => nomatch q⟩
    · rw [z]; exact ⟨o, ho, fun v q => by rw [hd] at q; cases q⟩
  keep := fun i h h' st k => by
    obtain ⟨⟨old, he⟩, ⟨o, ho, hc, hd⟩, hne⟩ := st
    exact ⟨⟨old, k e (by simp) _ he⟩, ⟨o, k it (by simp) o ho, hc, hd⟩, hne⟩
  item := by
    intro X hP hw hK hc i pins s σ H E I hf st hg
    subst hP hw hK
    obtain ⟨⟨old, he⟩, hit, hne⟩ := st
    obtain ⟨xs, x, hq, hx⟩ := hg
    obtain ⟨its, rv, p, hz⟩ := I.tuple hq
    obtain ⟨u, hu, ru⟩ := rv.get hx
    have hel : e < s.heap.objs.size := Heap.lt_size he
    have hil : it < s.heap.objs.size := by obtain ⟨_, q, _⟩ := hit; exact Heap.lt_size q
    have pT : s.heap.IsTuple a its.toArray := p
    have hae : a ≠ e := fun z => by
      obtain ⟨o, ho, hc', _⟩ := pT
      rw [z] at ho
      have q : some _ = some o := (show s.heap.get? e = some _ from he).symm.trans ho
      cases q
      exact absurd (Value.type.inj hc') (by decide)
    have hai : a ≠ it := fun z => by
      obtain ⟨o, ho, hc', _⟩ := pT
      obtain ⟨o2, ho2, hc2, _⟩ := hit
      rw [z, ho2] at ho
      cases ho
      rw [hc2] at hc'
      exact absurd (Value.type.inj hc') (by decide)
    have hlt : i < its.length := (List.getElem?_eq_some_iff.mp hu).1
    refine wpAny_pyNext_enum_itemD (Draws.tuple (prog := X.prog) (w := X.w) (A := X.A.in1) (I.ok.hd hc) it a hai its.toArray) he ⟨hit, pT⟩ (by simpa using hlt) hne (by simpa using ⟨hne, Ne.symm hae⟩) fun x' h' tk hx' ho hst hT hsz hk => ?_
    obtain ⟨hit', pT'⟩ := hst
    have ex : x' = u := by
      have z : its[i]? = some x' := by simpa using hx'
      rw [hu] at z
      exact (Option.some.inj z).symm
    subst ex
    refine ⟨_, rfl, wpAny_letOwnedTupleGo_enum (s := { s with heap := h', toks := tk + 1 }) ho fun h'' he' sb => ?_⟩
    have hT2 : h''.get? s.heap.objs.size = some { cls := .type "tuple", data := .seq #[.int i tk, x'] } := (sb.2 _ (Nat.ne_of_gt hel)).trans hT
    have new : ObjOk X.prog X.w (upd H s.heap.objs.size (.tup [.int (i : Nat), x])) h'' s.heap.objs.size (.tup [.int (i : Nat), x]) :=
      ⟨by show 2 ≤ sizeLine; decide, [.int i tk, x'], .cons ⟨_, rfl⟩ (.cons ru .nil), ⟨_, hT2, rfl, _, rfl⟩⟩
    have I1 : Inv X pins σ (upd H s.heap.objs.size (.tup [.int (i : Nat), x])) { s with heap := h'', toks := tk + 1 } :=
      I.turnedNew (ch := [e, it]) (fun b ob hb q => (sb.2 b (fun z => hb (by simp [z]))).trans (hk b ob (fun z => hb (by simp [z])) (fun z => hb (by simp [z])) q)) hf (Nat.le_refl _) new
    refine ⟨.ref s.heap.objs.size, _, I1, rfl, ⟨_, x, rfl, I.hok.fresh (Nat.le_refl _), rfl, fun ys hy => by rw [I.tuple_inj hy hq]; exact hx⟩, ⟨⟨x', ?_⟩, ?_, hne⟩, fun b hb => ?_⟩
    · have e1 : ((i + 1 : Nat) : Int) = (i : Int) + 1 := by omega
      rw [e1]; exact he'
    · obtain ⟨o2, ho2, r2⟩ := hit'
      exact ⟨o2, (sb.2 it (Ne.symm hne)).trans ho2, r2⟩
    · have hb' : b < s.heap.objs.size := by
        have e' : b = e ∨ b = it := by simpa using hb
        rcases e' with z | z
        · rw [z]; exact hel
        · rw [z]; exact hil
      rw [upd_ne (Nat.ne_of_lt hb')]
      exact (hf b hb).1
  done := by
    intro X hP hw hK hc i pins s σ H E I hf st hg
    subst hP hw hK
    obtain ⟨⟨old, he⟩, hit, hne⟩ := st
    obtain ⟨xs, hq, hx⟩ := hg
    obtain ⟨its, rv, p, hz⟩ := I.tuple hq
    obtain ⟨f0, f1, f2, f3, f4, f5⟩ := hf it (by simp)
    have hl := rv.length
    show wpAny _ _ (pyNext (.ref e)) _ _ _
    unfold pyNext
    have hT : s.TypeIs (.ref e) "enumerate" := ⟨_, he, rfl⟩
    refine wpAny_bind (wpAny_attempt (wpAny_callSpecial?_slot (name := Str.ofString "__next__") hT F.slot_enumerate_next
      (wpAny_call_entry F.slot_enumerate_next hT F.entry_enumerate_next ?_ (F.args_enumerate_next_1 _))))
    show wpAny _ _ (field (.ref e) 2 >>= _) _ _ _
    refine wpAny_bind (wpAny_field he rfl (x := .ref it) rfl ?_)
    refine wpAny_bind (wpAny_nextOf_tuple_end (A := X.A.in1) (I.ok.hd hc) hit p (by rw [List.getElem?_toArray]; exact List.getElem?_eq_none (by omega)) fun h' x he' hx' => ?_)
    obtain ⟨o, ho, hc'⟩ := hx'
    refine wpAny_bind (wpAny_isInstance (T := "StopIteration") (b := true) ⟨o, ho, hc'⟩ isSubtype_stop ?_)
    exact wpAny_pure ⟨rfl, I.turned (t' := s.toks) (fun b o hb q => he' b o hb q) f0 f1 f3 f4 f5⟩
  self := fun A i s Q E st h => let ⟨⟨_, he⟩, _⟩ := st; wpAny_pyIter_enum he h
def iEnum2 (K : PySem.W.Frag) (ta : TA) : TI := fun σ H R => ta σ H fun vs H1 => ∃ a xs, vs = [.ref a] ∧ ((SqL K H1 a xs ∧ R (Ite K a) H1) ∨ (SqT K H1 a xs ∧ R (Itet K a) H1))
theorem pi_enum2 {X : Cx} {e : Expr} {ta : TA} {p pos tpos : Pos} {elts : List Expr} {kk : Nat} (hg : Gl X "enumerate") (hm : X.mg "enumerate" = none) (ha : PA X [e] ta) (hs : starEach [e] X.env = [(false, eval e X.env)] := by rfl) :
    PI X (.Tuple elts kk tpos) (.Call (.Name "enumerate" p) [e] [] pos) (iEnum2 X.K ta) := by
  refine ⟨fun pins s σ H R I h => ?_⟩
  refine Call_ (ld_blt I hg hm boot_enumerate (PyProof.Rows.callWith_type1 (thn (ha.run pos pins s σ H _ I h) fun us s1 ⟨vs, H1, I1, r1, q1⟩ => ?_) hs rfl))
  obtain ⟨a, xs, ex, hq⟩ := q1
  subst ex
  obtain rfl := Vals.ref1 r1
  have fp : ∀ b ∈ [s1.heap.objs.size + 1, s1.heap.objs.size], s1.heap.objs.size ≤ b := fun b hb => by
    have e' : b = s1.heap.objs.size + 1 ∨ b = s1.heap.objs.size := by simpa using hb
    rcases e' with z | z
    · rw [z]; exact Nat.le_add_right _ _
    · rw [z]; exact Nat.le_refl _
  rcases hq with ⟨hq, q⟩ | ⟨hq, q⟩
  · obtain ⟨its, rv, p', hz⟩ := I1.list hq
    refine call_enumerate_list p'.isList fun h' he hit hsz hk => wpAny_pyIter_enum he ?_
    exact ⟨s1.heap.objs.size + 1, [s1.heap.objs.size + 1, s1.heap.objs.size], _, _, H1, rfl, I1.kept (t' := s1.toks) hk, turn_enum a (s1.heap.objs.size + 1) s1.heap.objs.size, ⟨⟨.none, he⟩, hit, Nat.succ_ne_self _⟩, fun b hb => I1.fpOk (fp b hb) (I1.hok.fresh (fp b hb)), q⟩
  · obtain ⟨its, rv, p', hz⟩ := I1.tuple hq
    refine call_enumT (items := its.toArray) p' fun h' he hit hk => wpAny_pyIter_enum he ?_
    exact ⟨s1.heap.objs.size + 1, [s1.heap.objs.size + 1, s1.heap.objs.size], _, _, H1, rfl, I1.kept (t' := s1.toks) hk, turn_enumT a (s1.heap.objs.size + 1) s1.heap.objs.size, ⟨⟨.none, he⟩, hit, Nat.succ_ne_self _⟩, fun b hb => I1.fpOk (fp b hb) (I1.hok.fresh (fp b hb)), q⟩
theorem it_et {K : PySem.W.Frag} {F : Hp} {a : Addr} {ys : List SV} {keep : Mem → Prop} (h : ∀ F' H' m', Sub F F' → MR K F' H' m' → keep m' → ∃ vs, SqT K H' a vs ∧ VRs K F' vs ys) : ItOk K F (Itet K a) (enS 0 ys) keep where
  go := fun i F' H' m' x s M k e => by
    obtain ⟨vs, h1, h2⟩ := h F' H' m' s M k
    obtain ⟨z, hz, rfl⟩ := enS_get _ _ _ _ e
    obtain ⟨v, hv, rv⟩ := vrs_get h2 hz
    refine ⟨⟨vs, v, h1, hv⟩, fun w H'' hy => ?_⟩
    obtain ⟨T, y, rfl, hT, rfl, hy⟩ := hy
    have q := hy vs h1
    rw [hv] at q
    cases q
    refine ⟨upd F' T _, Sub.new (M.sub.gone hT), M.frz hT, .tup (.inl (.inl upd_same)) (.cons ?_ (.cons (vr_sub (Sub.new (M.sub.gone hT)) rv) .nil))⟩
    have e0 : (0 : Int) + (i : Nat) = (i : Nat) := by omega
    rw [e0]
    exact .int _
  stop := fun F' H' m' s M k => by
    obtain ⟨vs, h1, h2⟩ := h F' H' m' s M k
    exact ⟨vs, h1, by rw [enS_len, vrs_length h2]; exact Nat.le_refl _⟩
def sEnumI2 (a : SA) : SI := fun SX δ m R => a SX δ m fun xs m1 => match xs with
  | [x] => ∃ ys, Its m1 x ys ∧ R (enS 0 ys) (keepOf x ys) m1
  | _ => False
theorem gi_enumerate2 {K : PySem.W.Frag} {E : XK} {X : Cx} {e : Expr} {p pos tpos : Pos} {elts : List Expr} {kk : Nat} {t : TA} {s : SA} (hg : Gl X "enumerate") (hm : X.mg "enumerate" = none) (ha : GA K E X [e] t s) (hs : starEach [e] X.env = [(false, eval e X.env)] := by rfl) (hK : X.K = K := by rfl) : GI K E X (.Tuple elts kk tpos) (.Call (.Name "enumerate" p) [e] [] pos) (iEnum2 K t) (sEnumI2 s) := by
  subst hK
  exact ⟨pi_enum2 hg hm ha.pe hs, fun σ F H δ m SX R R' r hh c => ha.sim σ F H δ m SX _ _ r hh fun v F1 H1 sv m1 s1 M1 v1 h1 => by
    obtain ⟨x, rfl, ys, hi, q⟩ := one_any h1
    obtain ⟨w, rfl, rw_⟩ := vrs_one v1
    cases rw_ with
    | tup g1 g2 =>
      cases (show ys = _ from hi)
      exact ⟨_, _, rfl, .inr ⟨sqt_sub M1.sub g1, c _ _ _ F1 H1 m1 s1 M1 (it_et fun F2 H2 m2 s2 M2 _ => ⟨_, sqt_sub (s2.trans M2.sub) g1, vrs_sub s2 g2⟩) q⟩⟩
    | ptup g1 _ g2 =>
      cases (show ys = _ from hi)
      exact ⟨_, _, rfl, .inr ⟨.inl (.inr ⟨_, M1.sub _ _ g1⟩), c _ _ _ F1 H1 m1 s1 M1 (it_et fun F2 H2 m2 s2 M2 _ => ⟨_, .inl (.inr ⟨_, (s2.trans M2.sub) _ _ g1⟩), vrs_sub s2 g2⟩) q⟩⟩
    | lst g1 g2 =>
      cases (show ys = _ from hi)
      exact ⟨_, _, rfl, .inl ⟨sql_sub M1.sub g1, c _ _ _ F1 H1 m1 s1 M1 (it_e fun F2 H2 m2 s2 M2 _ => ⟨_, sql_sub (s2.trans M2.sub) g1, vrs_sub s2 g2⟩) q⟩⟩
    | ref b =>
      obtain ⟨vs, e1, _⟩ := M1.lst_ (show m1 b = some (.lst ys) from hi)
      exact ⟨_, _, rfl, .inl ⟨.inl (.inl e1), c _ _ _ F1 H1 m1 s1 M1 (it_e fun F2 H2 m2 s2 M2 k => by
        obtain ⟨ws, e2, r2⟩ := M2.lst_ (show m2 b = some (.lst ys) from k)
        exact ⟨ws, .inl (.inl e2), r2⟩) q⟩⟩
    | _ => exact (show False from hi).elim⟩
/-! ### a tuple made of a list, its object known; dict of such -/
def rTupP (K : PySem.W.Frag) : List V → Hp → VK → Prop := fun xs H Q => ∃ (p : Addr) (ys : List V), xs = [.ref p] ∧ SqL K H p ys ∧ ∀ (l : Addr) (o : Obj), H l = none → o.dict = none → Q (.ref l) (upd H l (.frz o (.tup ys)))
theorem cr_tupP {X : Cx} (K : PySem.W.Frag) (hK : X.K = K := by rfl) : CallR X (.type "tuple") (rTupP K) := by
  subst hK
  intro pins s σ H xs us Q I r h
  obtain ⟨p, ys, rfl, hq, q⟩ := h
  obtain rfl := Vals.ref1 r
  obtain ⟨its, r', pl, hz⟩ := I.list hq
  have hlen := r'.length
  refine call_tuple_list pl.isList (fun h' kp => ?_) (by simp only [List.size_toArray] <;> omega)
  have I1 : Inv X pins σ H { s with heap := h' } := I.kept (t' := s.toks) kp
  have I2 : Inv X pins σ (upd H h'.objs.size (.frz { cls := .type "tuple", data := .seq its.toArray } (.tup ys))) { s with heap := h'.push { cls := .type "tuple", data := .seq its.toArray } } :=
    I1.laid (t' := s.toks) (fun b o e => Heap.get?_push_of_some _ e) (Nat.le_refl _) (show ObjOk X.prog X.w _ _ _ (.frz _ (.tup ys)) from ⟨Heap.get?_push_size _ rfl, hz, its, r', IsTup.new _ _⟩)
  exact ⟨.ref h'.objs.size, _, I2, rfl, q _ _ (I1.hok.fresh (Nat.le_refl _)) rfl⟩
def sTupP : SRC := fun vs m S => match vs with
  | [x] => ∃ ys, ItsL m x ys ∧ S (.ptup ys) m
  | _ => False
theorem sim_tupP {K : PySem.W.Frag} : SimC K (rTupP K) sTupP := fun F H m xs as S Q M rs h c => by
  unfold sTupP at h
  split at h
  · obtain ⟨ys, h1, q⟩ := h
    obtain ⟨v, rfl, rv⟩ := vrs_one rs
    obtain ⟨p, vs, rfl, hs, r2⟩ := its_lst M rv h1
    exact ⟨p, vs, rfl, hs, fun l o hl ho => c (.ref l) (upd F l _) _ _ m (Sub.new (M.sub.gone hl)) (M.frz hl) (.ptup upd_same ho (vrs_sub (Sub.new (M.sub.gone hl)) r2)) q⟩
  · exact h.elim
/-- dict(t) of such a tuple of pairs -/
def rDictP (K : PySem.W.Frag) : List V → Hp → VK → Prop := fun xs H Q => ∃ (a : Addr) (o : Obj) (ps : List Addr) (kvs : List (Key × V)), xs = [.ref a] ∧ H a = some (.frz o (.tup (ps.map V.ref))) ∧ o.dict = none ∧ Paired (fun p kv => SqT K H p [kV kv.1, kv.2]) ps kvs ∧
  ∀ p, H p = none → Q (.ref p) (upd H p (.dK (mergeK [] kvs)))
end Sy

set_option Elab.async false
set_option linter.all false
set_option maxRecDepth 100000
set_option maxHeartbeats 4000000
/-! dict of a plain tuple; an attribute among targets; isinstance of two kinds; a call with keywords; tuples of tuples. -/
namespace Sy
open PySem PySem.Spec PyProof.Rows L2
def pairS (q : Key × SV) : SV := .tup [kS q.1, q.2]
def sDictP : SRC := fun vs m S => match vs with
  | [.ptup xs] => ∃ kvs : List (Key × SV), xs = kvs.map pairS ∧ ∀ p, m p = none → S (.ref p) (up m p (.dK (mergeS [] kvs)))
  | _ => False
/-! ### o.x among the targets of an unpacking -/
def gFld (K : PySem.W.Frag) (ta : TE) (x : Str) : TG := fun v σ H Q => ta σ H fun y H1 => ∃ a C dx fs, y = .ref a ∧ H1 a = some (.ins C dx fs) ∧ Cls K C ∧ NoAttr K C x ∧ fs.length < 1000 ∧ Q σ (upd H1 a (.ins C dx (putF x v fs)))
def hFld (C : Addr) (x : Str) (a : SE) : SG := fun SX v δ m S => a SX δ m fun y m1 => match y with
  | .ref p => ∃ fs, m1 p = some (.ins C fs) ∧ fs.length < 1000 ∧ S δ (up m1 p (.ins C (putS x v fs)))
  | _ => False
/-! ### isinstance(x, (A, B)) -/
def tIsi2 (K : PySem.W.Frag) (te : TE) (A B : String) : TE := fun σ H Q => te σ H fun x H1 => ∀ p, H1 p = none → ∃ (t : Value) (b : Bool), TyX K (upd H1 p (.tup [.ty A, .ty B])) x t ∧ PySem.W.kitAny K t [.type A, .type B] = some b ∧ Q (.bl b) (upd H1 p (.tup [.ty A, .ty B]))
def sIsi2 (A B : String) (a : SE) : SE := fun SX δ m S => a SX δ m fun x m1 => A ∈ ["bool", "int", "str", "list", "tuple"] ∧ B ∈ ["bool", "int", "str", "list", "tuple"] ∧ ∃ t, tyS m1 x t ∧ S (.bl (isB t A || isB t B)) m1
theorem ge_isi2 {K : PySem.W.Frag} {E : XK} {X : Cx} {e : Expr} {te : TE} {se : SE} {p p2 p3 p4 pos : Pos} {kk : Nat} {A B : Str} (hg : Gl X "isinstance") (hm : X.mg "isinstance" = none) (he : GE K E X e te se) (hgA : Gl X A) (hmA : X.mg A = none) (hgB : Gl X B) (hmB : X.mg B = none) {tA tB : String} (hvA : bootBuiltins A = some (.type tA)) (hvB : bootBuiltins B = some (.type tB))
    (nA : A ≠ "__name__" := by decide) (nB : B ≠ "__name__" := by decide) (dA : (A == ("__debug__" : Str)) = false := by decide) (dB : (B == ("__debug__" : Str)) = false := by decide)
    (hs1 : starEach [e, .Tuple [.Name A p2, .Name B p3] kk p4] X.env = (false, eval e X.env) :: starEach [.Tuple [.Name A p2, .Name B p3] kk p4] X.env := by rfl) (hs2 : starEach [Expr.Tuple [.Name A p2, .Name B p3] kk p4] X.env = (false, eval (.Tuple [.Name A p2, .Name B p3] kk p4) X.env) :: starEach [] X.env := by rfl)
    (hs3 : starEach [Expr.Name A p2, .Name B p3] X.env = (false, eval (.Name A p2) X.env) :: starEach [.Name B p3] X.env := by rfl) (hs4 : starEach [Expr.Name B p3] X.env = (false, eval (.Name B p3) X.env) :: starEach [] X.env := by rfl)
    (hpl : (backTo pos (starEach [Expr.Tuple [.Name A p2, .Name B p3] kk p4] X.env)).any (·.1) = false := by rfl) (hK : X.K = K := by rfl) :
    GE K E X (.Call (.Name "isinstance" p) [e, .Tuple [.Name A p2, .Name B p3] kk p4] [] pos) (tCB (rIsiT K) (tCons te (tCons (tTup (tCons (tC (.ty tA)) (tCons (tC (.ty tB)) tNil))) tNil))) (sIsi2 tA tB se) := by
  subst hK
  refine ⟨pe_callB call_isiT hg hm (by decide +kernel) (pa_cons he.pe (pa_cons (pe_tup (pa_cons (pe_bltn (v := .ty tA) hgA hmA hvA rfl nA dA) (pa_cons (pe_bltn (v := .ty tB) hgB hmB hvB rfl nB dB) pa_nil hs4) hs3)) pa_nil hs2) hs1) (by decide) (by decide) hs1 hpl, fun σ F H δ m SX S Q r h c => he.sim σ F H δ m SX _ _ r h fun v F1 H1 sv m1 s1 M1 v1 h1 => ?_⟩
  obtain ⟨hA, hB, t, ht, q⟩ := h1
  refine ⟨show 2 ≤ sizeLine by decide, fun b hb => ?_⟩
  have s2 : Sub F1 (upd F1 b (.tup [.ty tA, .ty tB])) := Sub.new (M1.sub.gone hb)
  have M2 := M1.frz (ho := .tup [.ty tA, .ty tB]) hb
  refine ⟨v, b, _, .type t, [.type tA, .type tB], isB t tA || isB t tB, rfl, upd_same, .cons (.ty _) (.cons (.ty _) .nil), tyx_ok M2 (vr_sub s2 v1) ht, ?_, c _ _ _ _ m1 (s1.trans s2) M2 (.bl _) q⟩
  refine kitAny_cons (b := isB t tA) (kit_ty (kit_tab _ (tyS_mem ht) _ hA)) (fun e => ?_) fun e => by rw [e]; rfl
  rw [e, Bool.false_or]
  refine kitAny_cons (b := isB t tB) (kit_ty (kit_tab _ (tyS_mem ht) _ hB)) (fun e => ?_) fun e => e
  rw [e]
  rfl
/-! ### f(e, .., k = v, ..) -/
def sCallN (n m : Nat) (sp : SpS) (gS : List SV → List SV → List SV) (t tk : SA) : SE := fun SX δ m0 S => t SX δ m0 fun vs m1 => tk SX δ m1 fun zs m2 => vs.length = n ∧ zs.length = m ∧ sp (gS vs zs) m2 SX S
theorem ge_callN {K : PySem.W.Frag} {E : XK} {X : Cx} {CX : CXT} {k n : Nat} {f : Addr} {fd : FuncData} {ps ks : List Str} {sp : SpS} {x : Str} {p pos : Pos} {e : Expr} {es : List Expr} {kws : List Keyword} {t tk : TA} {s sk : SA} {g : List Value → List Value → List Value} {gV : List V → List V → List V} {gS : List SV → List SV → List SV} (F : FnOk X.prog X.w X.K X.mg X.base CX k f fd ps (lift K sp)) (hr : Room k X.A) (hg : Gl X x) (hm : X.mg x = some (.ref f)) (hk : PySem.W.keepIn X.K (.ref f) = true) (hb : KBn X.K fd ps n ks g gV) (hx : Passes CX X E)
    (hgS : ∀ F vs zs svs szs, VRs K F vs svs → VRs K F zs szs → VRs K F (gV vs zs) (gS svs szs)) (ha : GA K E X (e :: es) t s) (hkw : GK K E X kws tk sk) (hall : (backToKw pos (keywordEach kws X.env)).all (·.1.isSome) = true := by rfl) (hks : (backToKw pos (keywordEach kws X.env)).filterMap (·.1) = ks := by rfl)
    (hdb : (x == ("__debug__" : Str)) = false := by decide) (he : starEach (e :: es) X.env = (false, eval e X.env) :: starEach es X.env := by rfl)
    (hpl : ((backTo pos (starEach (e :: es) X.env)).any (·.1) || (backToKw pos (keywordEach kws X.env)).any (·.1.isNone)) = false := by rfl) :
    GE K E X (.Call (.Name x p) (e :: es) kws pos) (tCallN n ks.length (lift K sp) gV E t tk) (sCallN n ks.length sp gS s sk) := ⟨pe_callN F hr hg hm hk hb hx ha.pe hkw.pe hall hks hdb he hpl, fun σ F H δ m SX S Q r h c =>
  ha.sim σ F H δ m SX _ _ r h fun vs F1 H1 svs m1 s1 M1 v1 h1 => hkw.sim σ F1 H1 δ m1 SX _ _ (r.go s1 M1) h1 fun zs F2 H2 szs m2 s2 M2 v2 h2 => by
    obtain ⟨l1, l2, q⟩ := h2
    have s12 := s1.trans s2
    exact ⟨by rw [vrs_length v1]; exact l1, by rw [vrs_length v2]; exact l2, F2, _, m2, SX, S, M2, hgS F2 _ _ _ _ (vrs_sub s2 v1) v2, q, r.ex.go s12, c.go s12⟩⟩
/-- the default of a keyword-only parameter, if it is an object -/
def kwAt (f x : Str) (K : PySem.W.Frag) : Addr := match K.lookup (He.ga K f) with
  | some ⟨_, _, .func fd, _⟩ => (match fd.kwdefaults with
    | .ref D => (match PySem.W.nsIn K D x with
      | some (some (.ref a)) => a
      | _ => 0)
    | _ => 0)
  | _ => 0
/-- the empty tuple of the module -/
def EmptyT (K : PySem.W.Frag) (a : Addr) : Prop := ∃ (o : Obj) (n : Nat), K.lookup a = some o ∧ o.cls = .type "tuple" ∧ o.data = .seq #[] n
def emB (K : PySem.W.Frag) (a : Addr) : Bool := match K.lookup a with
  | some ⟨.type c, _, .seq its _, _⟩ => decide (c = "tuple") && decide (its = #[])
  | _ => false
theorem emB_ok {K : PySem.W.Frag} {a : Addr} (h : emB K a = true) : EmptyT K a := by
  unfold emB at h
  cases q : K.lookup a with
  | none => rw [q] at h; cases h
  | some o =>
    obtain ⟨oc, od, dt, osl⟩ := o
    rw [q] at h
    cases oc with
    | type c =>
      cases dt with
      | seq its n =>
        obtain ⟨h1, h2⟩ := He.ba (show (decide (c = "tuple") && decide (its = #[])) = true from h)
        have e1 := of_decide_eq_true h1
        have e2 := of_decide_eq_true h2
        subst e1 e2
        exact ⟨_, n, q, rfl, rfl⟩
      | _ => cases h
    | _ => cases dt <;> cases h
theorem vals_rev : ∀ {vs : List V} {us : List Value}, Vals vs us → Vals vs.reverse us.reverse
  | _, _, .nil => .nil
  | _, _, .cons a b => by
    rw [List.reverse_cons, List.reverse_cons]
    exact (vals_rev b).append (.cons a .nil)
/-! ### plain tuples are tuples -/
mutual
inductive Wk : SV → SV → Prop
  | refl (x : SV) : Wk x x
  | tup {xs ys : List SV} : Wks xs ys → Wk (.tup xs) (.tup ys)
  | ptup {xs ys : List SV} : Wks xs ys → Wk (.ptup xs) (.tup ys)
inductive Wks : List SV → List SV → Prop
  | nil : Wks [] []
  | cons {x y : SV} {xs ys : List SV} : Wk x y → Wks xs ys → Wks (x :: xs) (y :: ys)
end
theorem Wks.same : ∀ xs : List SV, Wks xs xs
  | [] => .nil
  | x :: xs => .cons (.refl x) (Wks.same xs)
theorem Wks.map {α : Type} {f g : α → SV} (h : ∀ a, Wk (f a) (g a)) : ∀ xs : List α, Wks (xs.map f) (xs.map g)
  | [] => .nil
  | x :: xs => .cons (h x) (Wks.map h xs)
mutual
theorem vr_wk {K : PySem.W.Frag} {F : Hp} : ∀ {v : V} {x y : SV}, Wk x y → VR K F v x → VR K F v y
  | _, _, _, .refl _, h => h
  | _, _, _, .tup a, .tup g r => .tup g (vrs_wk a r)
  | _, _, _, .ptup a, .ptup g _ r => .tup (.inl (.inr ⟨_, g⟩)) (vrs_wk a r)
theorem vrs_wk {K : PySem.W.Frag} {F : Hp} : ∀ {vs : List V} {xs ys : List SV}, Wks xs ys → VRs K F vs xs → VRs K F vs ys
  | _, _, _, .nil, h => h
  | _, _, _, .cons a b, .cons r t => .cons (vr_wk a r) (vrs_wk b t)
end
section
variable {P : Program} {w : World} {K : PySem.W.Frag} {mg : Str → Option Value} {base : Heap} {CX : CXT} {k : Nat} {f : Addr} {fd : FuncData} {ps : List Str} {sp sp' : SpS}
theorem fn_wk (F : FnOk P w K mg base CX k f fd ps (lift K sp)) (h : ∀ vs m SX S, sp' vs m SX S → ∃ ws, Wks vs ws ∧ sp ws m SX S) : FnOk P w K mg base CX k f fd ps (lift K sp') := by
  have key : ∀ vs H Q E, lift K sp' vs H Q E → lift K sp vs H Q E := fun vs H Q E ⟨F0, svs, m, SX, S, M, r, hs, x, c⟩ => by
    obtain ⟨ws, h1, h2⟩ := h svs m SX S hs
    exact ⟨F0, ws, m, SX, S, M, vrs_wk h1 r, h2, x, c⟩
  exact ⟨fun vs H Q E h => F.len _ _ _ _ (key _ _ _ _ h), fun A outer s H args us vs Q E hr he hb hv hs => F.run A outer s H args us vs Q E hr he hb hv (key _ _ _ _ hs)⟩
end
end Sy

set_option Elab.async false
set_option linter.all false
set_option maxRecDepth 100000
set_option maxHeartbeats 4000000
/-! the truth of a list, of a tuple -/
namespace Sy
open PySem PySem.Spec PyProof.Rows L2
def sTruL (a : SE) : STt := fun SX δ m S => a SX δ m fun x m1 => ∃ ys, Its m1 x ys ∧ S (!ys.isEmpty) m1
end Sy

set_option Elab.async false
set_option linter.all false
set_option maxRecDepth 100000
set_option maxHeartbeats 4000000
/-! a, b, .. = a list -/
namespace Sy
open PySem PySem.Spec PyProof.Rows L2
def hLstU (n : Nat) (r : SGs) : SG := fun SX v δ m S => ∃ ys, ItsL m v ys ∧ ys.length = n ∧ r SX ys δ m S
end Sy

set_option Elab.async false
set_option linter.all false
set_option maxRecDepth 100000
namespace Sy
open PySem PySem.Spec PyProof.Rows L2 PySem.W
/-! ### min of a list of alike data -/
def rMinE (K : PySem.W.Frag) : List V → Hp → VK → Prop := fun vs H Q => ∃ (a : Addr) (xs : List V) (d : PyData) (ds : List PyData), vs = [V.ref a] ∧ SqL K H a xs ∧ DpAll K H xs (d :: ds) ∧ AlikeAll (d :: ds) ∧ PyData.depthAll (d :: ds) ≤ 8 ∧ ∀ (i : Nat) x, xs[i]? = some x → (d :: ds)[i]? = some (minD d ds) → Q x H
def sMinE : SRC := fun vs m S => match vs with
  | [x] => ∃ xs d ds, ItsL m x xs ∧ Rds m xs (d :: ds) ∧ AlikeAll (d :: ds) ∧ PyData.depthAll (d :: ds) ≤ 8 ∧ ∀ (i : Nat) y, xs[i]? = some y → (d :: ds)[i]? = some (minD d ds) → S y m
  | _ => False
def pdt (q : Int × Int) : PyData := .tuple [.int q.1, .int q.2]
end Sy

set_option Elab.async false
set_option linter.all false
set_option maxRecDepth 100000
/-! len(set(xs)), where all of xs are one int -/
namespace Sy
open PySem PySem.Spec PyProof.Rows L2 PySem.W
def tLenSame (K : PySem.W.Frag) (ta : TE) : TE := fun σ H Q => ta σ H fun x H1 => ∃ (l : Addr) (n : Int) (ns : List Int), x = .ref l ∧ SqL K H1 l (ns.map V.int) ∧ (∀ k ∈ ns, k = n) ∧ 0 < ns.length ∧ ns.length ≤ 4000 ∧ Q (.int (1 : Nat)) H1
def sLenSame (a : SE) : SE := fun SX δ m S => a SX δ m fun x m1 => ∃ (n : Int) (ns : List Int), ItsL m1 x (ns.map .int) ∧ (∀ k ∈ ns, k = n) ∧ 0 < ns.length ∧ ns.length < 64 ∧ S (.int (1 : Nat)) m1
end Sy

set_option Elab.async false
set_option linter.all false
set_option maxRecDepth 100000
/-! a tuple written down, its object known -/
namespace Sy
open PySem PySem.Spec PyProof.Rows L2 PySem.W
def tTupD (t : TA) : TE := fun σ H Q => t σ H fun xs H1 => xs.length ≤ sizeLine ∧ ∀ (p : Addr) (o : Obj), H1 p = none → o.dict = none → Q (.ref p) (upd H1 p (.frz o (.tup xs)))
def sTupD (a : SA) : SE := fun SX δ m S => a SX δ m fun xs m1 => xs.length ≤ sizeLine ∧ S (.ptup xs) m1
end Sy

set_option Elab.async false
set_option linter.all false
set_option maxRecDepth 100000
set_option maxHeartbeats 4000000
/-! super().__init__(..) of an own exception over ValueError -/
namespace Sy
open PySem PySem.Spec PyProof.Rows L2 PySem.W
/-- what the written part says of the __init__ at f, its class C, its cell cc, its code at cda -/
structure SupC (P : Program) (K : PySem.W.Frag) (C f cc cda : Addr) (fd : FuncData) : Prop where
  T : OexC K C
  fn : ∃ oc od osl, K.lookup f = some ⟨oc, od, .func fd, osl⟩
  code : ∃ ccl cdd vs ccs file tf, K.lookup cda = some ⟨ccl, cdd, .fields vs, ccs⟩ ∧ vs[2]? = some (.str file tf) ∧ ((P.main.file : Str) == file) = true
  cell : ∃ cl cld csl, K.lookup cc = some ⟨cl, cld, .cell (some (.ref C)), csl⟩
  sub : mroIn K C (.ref C) = some true
  init : ks_superIn K C C "__init__" = some (some (.builtin "ValueError.__init__"))
  subB : subIn K (.ref C) (.type "ValueError") = some true
  any : nsIn K cStatics "thirdparty.any" = some none
  top : (P.main.scope.names.lookup ("super" : Str)).isSome = false
section
variable {X : Cx} {pins : List (Addr × Obj)} {σ : L2.St} {H : Hp} {s : Shared} {C f cc cda a : Addr} {fd : FuncData} {ar : Arg} {d0 : Option Addr} {E : Value → Shared → Prop} {body : List Stmt} {p0 p1 : Pos} {whole : Sem Value} {Q : Value → Shared → Prop}
theorem sup_obj (S : SupC X.prog X.K C f cc cda fd) (hcode : X.env.code = .ref cda) (hfu : X.env.func = some f) (hcc : X.env.cells.lookup ("__class__" : Str) = some cc) (hks : X.env.kindOf "super" = some .globalImplicit) (hkc : X.env.kindOf "__class__" = some .free) (hm : X.mg "super" = none)
    (hp : (fd.params.posonlyargs ++ fd.params.args).head? = some ar) (hN : X.N[0]? = some ar.arg) (hl : X.env.kindOf ar.arg = some .local) (hv : Vis X.env.scope ar.arg) (I : Inv X pins σ H s) (h0 : σ[0]? = some (some (.ref a))) (eo : H a = some (exo a C d0))
    (h : ∀ so s', Inv X pins σ H s' → s'.heap.get? so = some (ks_superObj C a C) → Q (.ref so) s') :
    _root_.PySem.wpAt (model X.prog X.w) X.A (.func body X.env) (attributeBase (.Call (.Name "super" p0) [] [] p1) "__init__" X.env whole) Q E s := by
  obtain ⟨oc, od, osl, lf⟩ := S.fn
  obtain ⟨ccl, cdd, vs, ccs, file, tf, lc, hvs, hfile⟩ := S.code
  obtain ⟨cl, cld, csl, lcell⟩ := S.cell
  obtain ⟨nm, q, N, bs, bm, sn, sub, ab, col, dd, k0, k1, k2, k3, k5, hC, hbm⟩ := S.T.cls
  obtain ⟨mb, h1, h2⟩ := I.mod.blt
  refine ks_wpAt_super_base hks hkc (by decide) hfu (I.kIn _ _ lf) rfl hp hcode (I.kIn _ _ lc) rfl hvs hfile S.top ?_
  refine ks_loadName_global I.ok.kind hks (Calls.loadGlobal_builtin (by rw [I.ok.glob]; exact I.mod.glob.keeps I.bk) hm (by rw [I.ok.blt]; exact h1.keeps I.bk) ((h2 _ (by decide)).trans (show bootBuiltins "super" = some (.type "super") by decide +kernel)) ⟨rfl, ?_⟩)
  refine wpAny_loadName_free I.ok.kind hkc hcc ⟨_, I.kIn _ _ lcell, rfl⟩ ?_
  obtain ⟨m, hns, hlk⟩ := I.loc
  obtain ⟨u, ru, lk⟩ := hlk 0 ar.arg (.ref a) hN h0 hv
  obtain rfl : u = Value.ref a := ru
  have hm0 : m ar.arg = some (.ref a) := by
    rcases lk with lk | lk
    · exact lk.2
    · rw [hl] at lk
      rcases lk.1 with z | z <;> cases z
  refine wpAny_loadName_local I.ok.kind hl hns hm0 ?_
  obtain ⟨t1, ho⟩ := exo_at I.hok eo
  have hC' := I.kIn _ _ hC
  have sub1 := looks_mroIn (M := model X.prog X.w) I.kIn S.sub
  obtain ⟨hp, g, d, t, os⟩ := s
  refine ks_wpAny_isType_cls hC' rfl ⟨rfl, ?_⟩
  refine ks_wpAny_call_super hC' rfl ho rfl (fun c z => nomatch z) sub1 fun h' e k => ?_
  exact h _ _ (I.kept (t' := t) k) e
theorem sup_call {so : Addr} {pl : Sem Bool} {pos : Pos} {e1 : Expr} {rest : List Expr} {ta : TA} {Qv : Hp → Prop} (S : SupC X.prog X.K C f cc cda fd) (I : Inv X pins σ H s) (eo : H a = some (exo a C none)) (hso : s.heap.get? so = some (ks_superObj C a C)) (ha : PA X (e1 :: rest) ta)
    (h : ta σ H fun vs H1 => vs.length ≤ 1000 ∧ H1 a = some (exo a C none) ∧ Qv H1) (he : starEach (e1 :: rest) X.env = (false, eval e1 X.env) :: starEach rest X.env := by rfl) (hpl : (backTo pos (starEach rest X.env)).any (·.1) = false := by rfl) :
    wpAny (model X.prog X.w) X.A (getMethod (.ref so) "__init__" pl) (fun fx s2 => wpAny (model X.prog X.w) X.A (callWith pos fx.1 fx.2 (backTo pos (starEach (e1 :: rest) X.env)) []) (fun _ s' => ∃ H1, Inv X pins σ H1 s' ∧ Qv H1) X.xe s2) X.xe s := by
  obtain ⟨nm, q, N, bs, bm, sn, sub, ab, col, dd, k0, k1, k2, k3, k5, hC, hbm⟩ := S.T.cls
  have hcl : clsIn X.K C = some { name := nm, bases := bs, mro := .ref C :: bm, ns := N, qualname := q, hasDict := true, slotNames := sn, subclasses := sub, abstract := ab, collection := col, hasDel := false } := by unfold clsIn; rw [hC] <;> rfl
  have hin := S.init
  unfold ks_superIn at hin
  rw [hcl] at hin
  obtain ⟨t1, ho⟩ := exo_at I.hok eo
  have IA : InstAt s.heap a { cls := .ref C, dict := none, data := .fields #[.ref t1, .none, .none, .none, .bool false, .none] } C none := ⟨ho, rfl, rfl, trivial⟩
  have hI : Looks (model X.prog X.w) s.heap (isInstance (.ref a) (.type "ValueError")) true := IA.type.andThen (looks_subIn I.kIn S.subB)
  have ne : a ≠ C := ks_ne I.kIn IA hcl
  have opq : Looks (model X.prog X.w) s.heap (opaqueClassAbove (.ref C)) none := looks_opaque I.kIn S.any
  have kin := I.kIn
  obtain ⟨hp, g, d, t, os⟩ := s
  refine kxs_getMethod kxs_ValueError hso opq (l₀ := .ref C :: bm) (fun A Q E s k qq => wpAny_bind ((looks_clsIn kin hcl) A _ E s k (wpAny_pure qq))) rfl kin hin hI ne (by decide) ?_
  have kp : ∀ b o, hp.get? b = some o → (hp.push (kxs_mw "ValueError.__init__" a)).get? b = some o := fun b o e => Heap.get?_push_of_some _ e
  have I1 : Inv X pins σ H ⟨hp.push (kxs_mw "ValueError.__init__" a), g, d, t + 1, os⟩ := I.kept (t' := t + 1) kp
  have I2 : Inv X ((hp.objs.size, kxs_mw "ValueError.__init__" a) :: pins) σ H ⟨hp.push (kxs_mw "ValueError.__init__" a), g, d, t + 1, os⟩ := I1.pins_of fun p hp' => by
    rcases List.mem_cons.mp hp' with rfl | hp'
    · exact ⟨Heap.get?_push_size _ rfl, I.hok.fresh (Nat.le_refl _), Nat.ne_of_gt I.lt, I.nofs (Nat.le_refl _), fun v z => nomatch z⟩
    · exact I1.pin p (List.mem_append_right _ hp')
  show wpAny _ _ (callWith pos (.ref hp.objs.size) [] (backTo pos (starEach (e1 :: rest) X.env)) []) _ _ _
  refine kxs_callWith (i := "ValueError.__init__") (x := a) (by rw [he]; exact hpl) ?_
  have hr := ha.run pos _ _ σ H _ I2 h
  rw [he] at hr ⊢
  refine Calls.evalArgs_plain (thn hr fun us s1 hh => ?_)
  obtain ⟨vs, H1, I3, r3, hz, eo3, q3⟩ := hh
  have hu : s1.heap.get? hp.objs.size = some (kxs_mw "ValueError.__init__" a) := (I3.pin (hp.objs.size, kxs_mw "ValueError.__init__" a) (List.mem_append_right _ List.mem_cons_self)).1
  have I4 : Inv X pins σ H1 s1 := I3.pins_of fun p hp' => I3.pin p (List.mem_append_right _ (List.mem_cons_of_mem _ hp'))
  have hlen : us.length ≤ sizeLine := by
    rw [← Paired.length r3, sizeLine_eq]
    omega
  refine ⟨hu, ?_⟩
  obtain ⟨t2, ho3⟩ := exo_at I4.hok eo3
  have hC3 := I4.kIn _ _ hC
  have fin : ∀ h' : Heap, (∀ b o, b ≠ a → s1.heap.get? b = some o → h'.get? b = some o) → (∃ t4 : Addr, h'.get? a = some ({ cls := .ref C, dict := none, data := .fields #[.ref t4, .none, .none, .none, .bool false, .none] } : Obj)) → ∃ H1, Inv X pins σ H1 { s1 with heap := h' } ∧ Qv H1 := fun h' k ⟨t4, hx⟩ => by
    have J := I4.write (t' := s1.toks) (x := a) (e := a) (o := exo a C none) (by rw [eo3]; exact True.intro) (.inl rfl) k ⟨_, hx⟩ (exo_ok hx)
    have eu : upd H1 a (exo a C none) = H1 := by
      funext c
      by_cases hc : c = a
      · rw [hc, upd_same, eo3]
      · rw [upd_ne hc]
    rw [eu] at J
    exact ⟨H1, J, q3⟩
  obtain ⟨h3, g3, d3, t3, os3⟩ := s1
  refine wpAny_call (codeAny_of_tree (show wpAny _ _ (callAny (.ref hp.objs.size) ⟨us, []⟩) _ _ _ from ?_))
  unfold callAny
  refine wpAny_bind (wpAny_load hu (by
    simp only [kxs_mw, show (Value.type "method-wrapper" == Value.type "method" || Value.type "method-wrapper" == Value.type "builtin_function_or_method" || Value.type "method-wrapper" == Value.type "method-wrapper") = true from by decide, if_true]
    refine KFB.if_so (by decide) (wpAny_bind (check_bound_init F.excBase_ValueError.toExcCallFacts hC3 ho3 rfl (wpAny_bind (wpAny_pure (wpAny_pure ⟨plainId_quiet F.excBase_ValueError.init.plain _, codeAny_builtin F.excBase_ValueError.initEntry ?_⟩)))))
    refine exc_init_tree (cls := .ref C) (t0 := t2) (dv := none) (c2 := .none) (c3 := .none) (b4 := .bool false) ho3 hlen fun h' k hx _ => ?_
    exact fin h' k ⟨_, hx⟩))
end
end Sy
namespace Sy
open PySem PySem.Spec PyProof.Rows L2 PySem.W NdefX
section
variable {CX : CXT} {P : Program} {w : World} {K : PySem.W.Frag} {mg : Str → Option Value} {base : Heap} {N ps : List Str} {C fI cc cda : Addr} {name q : Str} {params : Arguments} {scope : Scope} {doc pm ct : Value} {k : Nat} {sp : Sp} {e1 : Expr} {p0 p1 p2 p3 p4 : Pos} {rest : List Stmt} {fd : FuncData} {ar : Arg}
abbrev initBody (p0 p1 p2 p3 p4 : Pos) (e1 : Expr) (rest : List Stmt) : List Stmt := .Expr (.Call (.Attribute (.Call (.Name "super" p0) [] [] p1) "__init__" p2) [e1] [] p3) p4 :: rest
abbrev initF (name q : Str) (params : Arguments) (body : List Stmt) (scope : Scope) (cc cda : Addr) : NF := ⟨name, q, params, body, scope, [("__class__", cc)], cda⟩
/-- an own exception's __init__: super().__init__(e1), and more -/
theorem init_ok (hfd : fd = (initF name q params (initBody p0 p1 p2 p3 p4 e1 rest) scope cc cda).fd doc pm ct) (S : SupC P K C fI cc cda fd) (hcd : codeIn K (.ref cda) q = true) (NS : NScope N ps ["__class__"] scope) (len : ∀ vs H Q E, sp vs H Q E → vs.length = ps.length)
    (hm : mg "super" = none) (hks : scope.names.lookup ("super" : Str) = some .globalImplicit) (hp : (params.posonlyargs ++ params.args).head? = some ar) (hN : N[0]? = some ar.arg) (hl : scope.names.lookup ar.arg = some .local) (hv : Vis scope ar.arg) {pl : Addr → Sem Bool}
    (hi : ∀ L, interactive (envF (initF name q params (initBody p0 p1 p2 p3 p4 e1 rest) scope cc cda) fI L) = false) (hsw : ∀ L, swapsWith (.Call (.Attribute (.Call (.Name "super" p0) [] [] p1) "__init__" p2) [e1] [] p3) none p4.line (envF (initF name q params (initBody p0 p1 p2 p3 p4 e1 rest) scope cc cda) fI L) = pure false)
    (hev : ∀ L, eval (.Call (.Attribute (.Call (.Name "super" p0) [] [] p1) "__init__" p2) [e1] [] p3) (envF (initF name q params (initBody p0 p1 p2 p3 p4 e1 rest) scope cc cda) fI L) = (do
      let ov ← attributeBase (.Call (.Name "super" p0) [] [] p1) "__init__" (envF (initF name q params (initBody p0 p1 p2 p3 p4 e1 rest) scope cc cda) fI L) (eval (.Call (.Name "super" p0) [] [] p1) (envF (initF name q params (initBody p0 p1 p2 p3 p4 e1 rest) scope cc cda) fI L))
      standAt p2.atName
      let (f, first) ← holding [ov] (getMethod ov "__init__" (pl L))
      callWith p3 f first (backTo p3 (starEach [e1] (envF (initF name q params (initBody p0 p1 p2 p3 p4 e1 rest) scope cc cda) fI L))) []))
    (hst : ∀ L, starEach [e1] (envF (initF name q params (initBody p0 p1 p2 p3 p4 e1 rest) scope cc cda) fI L) = (false, eval e1 (envF (initF name q params (initBody p0 p1 p2 p3 p4 e1 rest) scope cc cda) fI L)) :: starEach [] (envF (initF name q params (initBody p0 p1 p2 p3 p4 e1 rest) scope cc cda) fI L))
    (hbt : ∀ L, (backTo p3 (starEach [] (envF (initF name q params (initBody p0 p1 p2 p3 p4 e1 rest) scope cc cda) fI L))).any (·.1) = false)
    (hbody : ∀ (A : Around) (outer : List Env) (s : Shared) (H : Hp) (vs : List V) (Q : VK) (E : XK), Room k (A.deeper (envF (initF name q params (initBody p0 p1 p2 p3 p4 e1 rest) scope cc cda) fI s.heap.objs.size)) → sp vs H Q E →
      ∃ a ta t, vs[0]? = some (.ref a) ∧ H a = some (exo a C none) ∧ PA (ncx CX P w K mg base N (initF name q params (initBody p0 p1 p2 p3 p4 e1 rest) scope cc cda) fI A outer s H E) [e1] ta ∧ PSs (ncx CX P w K mg base N (initF name q params (initBody p0 p1 p2 p3 p4 e1 rest) scope cc cda) fI A outer s H E) rest t ∧
        ta (startF N vs [some (.ref C)]) H fun ws H1 => ws.length ≤ 1000 ∧ H1 a = some (exo a C none) ∧ t { nx := fun _ H' => Q .non H', rt := Q } (startF N vs [some (.ref C)]) H1) : FnOk P w K mg base CX (k + 1) fI fd ps sp := by
  refine ⟨len, fun A outer s H args us vs Q E hr e0 hb r hsp => ?_⟩
  have hlen := len _ _ _ _ hsp
  have KX : K.In s.heap := e0.mod.kin.keeps fun b o e => (e0.bs b o e).1
  have lim : s.heap.NoLimit := e0.mod.nolimit.keeps fun b o e => (e0.bs b o e).1
  obtain ⟨oc, od, osl, lf⟩ := S.fn
  obtain ⟨cl, cld, csl, lcell⟩ := S.cell
  have hcc : H cc = none := (e0.bs _ _ (e0.mod.kin _ _ lcell)).2
  have CA : CellsAt [("__class__", cc)] ["__class__"] [some (V.ref C)] s.heap H := by
    have one : ∀ y c, ([("__class__", cc)] : List (Str × Addr)).lookup y = some c → y = "__class__" ∧ c = cc := fun y c e => by
      simp only [List.lookup] at e
      split at e
      · next z => exact ⟨by simpa using z, (Option.some.inj e).symm⟩
      · cases e
    refine ⟨rfl, fun y c e => ?_, fun x y c e1 e2 => (one x c e1).1.trans (one y c e2).1.symm, fun i y hi => ⟨cc, ?_, fun v hv => ?_⟩⟩
    · obtain ⟨_, rfl⟩ := one y c e
      exact ⟨hcc, _, _, KX _ _ lcell, rfl⟩
    · cases i with
      | zero => cases hi; rfl
      | succ i => simp at hi
    · cases i with
      | zero => cases hv; exact ⟨_, rfl, _, KX _ _ lcell, rfl⟩
      | succ i => simp at hv
  subst hfd
  refine ks_codeAny_call_defAt (binds := ps.zip us) hr.depth (KX _ _ lf) rfl lim (codeRec_of KX hcd) rfl hb NS.nocell (fun ⟨n, _⟩ hy => NS.par n (List.of_mem_zip hy).1) (fun h1 hns kp => ?_) NS.co NS.gen NS.kind
  obtain ⟨a, ta, t, hva, eo, hta, ht, hq⟩ := hbody A outer s H vs Q E (hr.deeper _) hsp
  have I : Inv (ncx CX P w K mg base N (initF name q params (initBody p0 p1 p2 p3 p4 e1 rest) scope cc cda) fI A outer s H E) [] (startF N vs [some (.ref C)]) H { s with heap := h1, toks := s.toks + (ps.zip us).length } := inv_startN NS hr.hd e0 hlen r CA hns kp
  have h0 : (startF N vs [some (.ref C)])[0]? = some (some (.ref a)) := by
    have l0 : 0 < vs.length := (List.getElem?_eq_some_iff.mp hva).1
    unfold startF
    rw [List.getElem?_append_left (by rw [List.length_map]; exact l0), List.getElem?_map, hva]
    rfl
  have fin : ∀ {σ' : L2.St} {H' : Hp} {v : V} {u : Value} {s' : Shared}, Inv (ncx CX P w K mg base N (initF name q params (initBody p0 p1 p2 p3 p4 e1 rest) scope cc cda) fI A outer s H E) [] σ' H' s' → L2.RelV v u → Q v H' → CE outer P w H s Q u s' := fun J rv qq => ⟨_, _, J.os, J.bare, J.base, J.hok, rv, qq⟩
  show _root_.PySem.wpAt (model P w) (A.deeper (envF (initF name q params (initBody p0 p1 p2 p3 p4 e1 rest) scope cc cda) fI s.heap.objs.size)) (.func (initBody p0 p1 p2 p3 p4 e1 rest) (envF (initF name q params (initBody p0 p1 p2 p3 p4 e1 rest) scope cc cda) fI s.heap.objs.size)) (execs (initBody p0 p1 p2 p3 p4 e1 rest) (envF (initF name q params (initBody p0 p1 p2 p3 p4 e1 rest) scope cc cda) fI s.heap.objs.size)) _ _ _
  have lcc : (envF (initF name q params (initBody p0 p1 p2 p3 p4 e1 rest) scope cc cda) fI s.heap.objs.size).cells.lookup ("__class__" : Str) = some cc := by
    show ([("__class__", cc)] : List (Str × Addr)).lookup ("__class__" : Str) = some cc
    simp [List.lookup]
  refine ks_wpAt_execs_cons (ks_wpAt_Expr_any (ks_wpAt_MethodCall (sup_obj (X := ncx CX P w K mg base N (initF name q params (initBody p0 p1 p2 p3 p4 e1 rest) scope cc cda) fI A outer s H E) S rfl rfl lcc hks (NS.frk _ (by simp)) hm hp hN hl hv I h0 eo fun so s' I' hso => ?_) (hev _)) (hi _) (hsw _))
  refine wpAny_mono (sup_call S I' eo hso hta hq (hst _) (hbt _)) (fun fx s2 hs => wpAny_mono hs (fun v s3 hz => ?_) fun e s3 hz => hz) fun e s2 hs => hs
  obtain ⟨H1, I1, q1⟩ := hz
  refine wpAt_of_wpAny (wpAny_mono (ht.run [] s3 _ H1 _ I1 q1) (fun fl s4 hf => ?_) fun e s4 hs => hs)
  cases fl with
  | ret u =>
    obtain ⟨v, σ', H', J, rv, qq⟩ := hf
    exact fin J rv qq
  | next =>
    obtain ⟨σ', H', J, qq⟩ := hf
    exact fin (v := V.non) (u := Value.none) J rfl qq
  | brk =>
    obtain ⟨_, _, _, z⟩ := hf
    exact z.elim
  | cont =>
    obtain ⟨_, _, _, z⟩ := hf
    exact z.elim
end
end Sy

set_option Elab.async false
set_option linter.all false
set_option maxRecDepth 100000
set_option maxHeartbeats 4000000
/-! raise of an own exception that has fields -/
namespace Sy
open PySem PySem.Spec PyProof.Rows L2 PySem.W
def spIni2 (C : Addr) (f1 f2 : Str) : Sp := fun vs H Q _ => ∃ (a : Addr) (i j : Int), vs = [.ref a, .int i, .int j] ∧ i.natAbs.log2 < 1920 ∧ j.natAbs.log2 < 1920 ∧ H a = some (exo a C none) ∧ ∀ dx, H dx = none → dx ≠ a → Q .non (upd (upd (upd H dx (exd dx [(f1, V.int i)])) a (exo a C (some dx))) dx (exd dx [(f2, V.int j), (f1, V.int i)]))
def spIni1 (C : Addr) (f1 : Str) : Sp := fun vs H Q _ => ∃ (a : Addr) (i : Int), vs = [.ref a, .int i] ∧ i.natAbs.log2 < 1920 ∧ H a = some (exo a C none) ∧ ∀ dx, H dx = none → dx ≠ a → Q .non (upd (upd H dx (exd dx [(f1, V.int i)])) a (exo a C (some dx)))
def sRaiseI2 (C : Addr) (f1 f2 : Str) (sa : SA) : SS := fun SX _ δ m => sa SX δ m fun vs m1 => ∃ i j : Int, vs = [.int i, .int j] ∧ i.natAbs.log2 < 1920 ∧ j.natAbs.log2 < 1920 ∧ SX ⟨C, some [(f2, .int j), (f1, .int i)]⟩ m1
def sRaiseI1 (C : Addr) (f1 : Str) (sa : SA) : SS := fun SX _ δ m => sa SX δ m fun vs m1 => ∃ i : Int, vs = [.int i] ∧ i.natAbs.log2 < 1920 ∧ SX ⟨C, some [(f1, .int i)]⟩ m1
theorem let_go {H H2 : Hp} {a dx : Addr} {fs : List (Str × V)} (ha : H a = none) (h : ∀ c, c ≠ a → c ≠ dx → H2 c = H c) : upd (L2.del H2 a) dx (.xd fs) = upd H dx (.xd fs) := by
  funext c
  by_cases h1 : c = dx
  · rw [h1, upd_same, upd_same]
  · rw [upd_ne h1, upd_ne h1]
    by_cases h2 : c = a
    · rw [h2, ha]; exact L2.del_same
    · rw [L2.del_ne h2]; exact h c h2 h1
section
variable {K : PySem.W.Frag} {E : XK} {X : Cx} {CX : CXT} {k : Nat} {fI C : Addr} {fd : FuncData} {ps : List Str} {x f1 f2 : Str} {p pos pos2 : Pos} {e : Expr} {es : List Expr} {ta : TA} {sa : SA}
theorem gs_raiseI1 (hc : X.calm = true) (tk : Takes X (fun cls d _ H => E cls d H)) (T : OexC X.K C) (iC : findIn X.K (.ref C) "__init__" = some (some (.ref fI))) (tI : typeIn X.K (.ref fI) = some (.type "function")) (F1 : FnOk X.prog X.w X.K X.mg X.base CX k fI fd ps (spIni1 C f1)) (hr : Room (k + 1) X.A) (hb : Binds X.K fd ps []) (hx : Passes CX X (fun _ _ _ => False)) (hg : Gl X x) (hm : X.mg x = some (.ref C)) (ha : GA K E X (e :: es) ta sa)
    (hdb : (x == ("__debug__" : Str)) = false := by decide) (he : starEach (e :: es) X.env = (false, eval e X.env) :: starEach es X.env := by rfl) (hpl : (backTo pos (starEach es X.env)).any (·.1) = false := by rfl) :
    GS K E X (.Raise (some (.Call (.Name x p) (e :: es) [] pos)) none pos2) (fun _ σ H => tMkO C (spIni1 C f1) [] ta σ H E) (sRaiseI1 C f1 sa) := by
  refine ⟨ps_raise hc tk (pmk_oex T iC tI F1 hr hb .nil hx hg hm ha.pe hdb he hpl), fun σ F H δ m SX D Es r h c => ?_⟩
  refine ha.sim σ F H δ m SX _ _ r h fun vs F' H1 svs m1 s1 M1 v1 h1 => ?_
  obtain ⟨i, rfl, hi, q⟩ := h1
  obtain ⟨v, rfl, rv⟩ := vrs_one v1
  obtain rfl := vr_int rv
  refine ⟨by show 1 ≤ 1000; decide, fun a hna => ⟨a, i, rfl, hi, upd_same, fun dx hdx ne => ⟨rfl, dx, _, upd_same, (upd_ne ne).trans upd_same, ?_, ?_⟩⟩⟩
  · rw [upd_ne ne] at hdx; exact hdx
  · have hd1 : H1 dx = none := by rw [upd_ne ne] at hdx; exact hdx
    rw [let_go hna fun c c1 c2 => by rw [upd_ne c1, upd_ne c2, upd_ne c1]]
    exact r.ex ⟨C, some [(f1, .int i)]⟩ (some dx) F' _ m1 s1 (M1.hid hd1) ⟨dx, _, rfl, upd_same, M1.sub.gone hd1, M1.gone hd1, .cons (.int _) .nil⟩ q
end
end Sy

set_option Elab.async false
set_option linter.all false
set_option maxRecDepth 100000
set_option maxHeartbeats 4000000
/-! the top's facts with own exceptions that have an __init__ with super() -/
namespace Sy
open PySem PySem.Spec PyProof.Rows L2 PySem.W He NdefX
def cellsO (o : Obj) : List Addr := match o.data with
  | .func fd => fd.closure.map (·.2)
  | _ => []
def growF (g : Addr → Option Obj) : Nat → List Addr → List Addr
  | 0, f => f
  | n + 1, f => f ++ growF g n (f.flatMap fun a => (g a).elim [] He.refsD)
def asC (g : Addr → Option Obj) (n : Nat) : List Addr := growF g n [mainGlobals] ++ ((growF g n [mainGlobals]).flatMap fun a => match g a with
  | some o => cellsO o
  | none => []) ++ [cStatics]
abbrev FnC : Type := Option (Str × Str × Arguments × FuncBody × Scope × Addr × Addr)
def fnC (K : PySem.W.Frag) (C : Str) : FnC := match K.lookup (ma K (ga K C) "__init__") with
  | some ⟨_, _, .func fd, _⟩ => some (fd.name, fd.qualname, fd.params, fd.body, fd.scope, fd.globals, fd.builtins)
  | _ => none
structure CelD where
  cls : Str
  qual : Str
  params : Arguments
  body : List Stmt
  scope : Scope
def CelD.val (d : CelD) : FnC := some ("__init__", d.qual, d.params, .stmts d.body, d.scope, mainGlobals, builtinsNs)
/-- the class -/
def oexB (K : PySem.W.Frag) (C : Addr) : Bool := (match K.lookup C with
    | some ⟨.type t, _, .cls cd, sl⟩ => (match cd.mro, sl.toList with
      | .ref C' :: bm, [_, _, _, _, some (.builtin n), _] => t == "type" && (C' == C && (n == "ValueError.__new__" && (!cd.hasDel && (cd.hasDict && PySem.HandSPX.refsVE bm))))
      | _, _ => false)
    | _ => false) &&
  (eqO (findIn K (.ref C) "__setattr__") (some (some (.builtin "object.__setattr__"))) && (decide (subIn K (.ref C) (.type "BaseException") = some true) && (decide (typeIn K (.ref C) = some (.type "type")) && keepIn K (.ref C))))
theorem oexB_ok {K : PySem.W.Frag} {C : Addr} (h : oexB K C = true) : OexC K C := by
  obtain ⟨h1, h⟩ := ba h
  obtain ⟨h2, h⟩ := ba h
  obtain ⟨h3, h⟩ := ba h
  obtain ⟨h4, h5⟩ := ba h
  refine ⟨?_, eqO_ok h2, of_decide_eq_true h3, of_decide_eq_true h4, h5⟩
  split at h1
  · rename_i t dd cd sl ho
    split at h1
    · rename_i C' bm k0 k1 k2 k3 n k5 hm hs
      simp only [Bool.and_eq_true, beq_iff_eq, Bool.not_eq_true'] at h1
      obtain ⟨rfl, rfl, rfl, hdel, hd, hr⟩ := h1
      obtain ⟨nm, bs, mro, ns, qn, hdc, sn, sub, ab, col, del⟩ := cd
      dsimp only at hm hdel hd
      subst hm hdel hd
      have hsl : sl = #[k0, k1, k2, k3, some (.builtin "ValueError.__new__"), k5] := by
        obtain ⟨l⟩ := sl
        simp only at hs
        rw [hs]
      subst hsl
      exact ⟨nm, qn, ns, bs, bm, sn, sub, ab, col, dd, k0, k1, k2, k3, k5, ho, hr⟩
    · cases h1
  · cases h1
def supB (K : PySem.W.Frag) (file : Str) (d : CelD) : Bool := oexB K (ga K d.cls) && ((match K.lookup (ma K (ga K d.cls) "__init__") with
    | some ⟨_, _, .func fd, _⟩ => (match fd.defaults, fd.kwdefaults, fd.annotations, fd.closure, fd.code with
      | .none, .none, none, [(x, cc)], .ref c => (x == "__class__") && (codeIn K (.ref c) d.qual && ((match K.lookup cc with
          | some ⟨_, _, .cell (some (.ref a)), _⟩ => a == ga K d.cls
          | _ => false) && (match K.lookup c with
          | some ⟨_, _, .fields vs, _⟩ => (match vs.toList with
            | _ :: _ :: .str n _ :: _ => file == n
            | _ => false)
          | _ => false)))
      | _, _, _, _, _ => false)
    | _ => false) &&
  (decide (mroIn K (ga K d.cls) (.ref (ga K d.cls)) = some true) && (eqO (ks_superIn K (ga K d.cls) (ga K d.cls) "__init__") (some (some (.builtin "ValueError.__init__"))) && (decide (subIn K (.ref (ga K d.cls)) (.type "ValueError") = some true) &&
  (eqO (nsIn K cStatics "thirdparty.any") (some none) && (eqO (findIn K (.ref (ga K d.cls)) "__init__") (some (some (.ref (ma K (ga K d.cls) "__init__")))) && decide (typeIn K (.ref (ma K (ga K d.cls) "__init__")) = some (.type "function"))))))))
/-- what is known of such a class -/
structure KxC (P : Program) (K : PySem.W.Frag) (d : CelD) (fd : FuncData) (cc cda : Addr) : Prop where
  e : ∃ doc pm ct, fd = (initF "__init__" d.qual d.params d.body d.scope cc cda).fd doc pm ct
  S : SupC P K (ga K d.cls) (ma K (ga K d.cls) "__init__") cc cda fd
  code : codeIn K (.ref cda) d.qual = true
  iC : findIn K (.ref (ga K d.cls)) "__init__" = some (some (.ref (ma K (ga K d.cls) "__init__")))
  tI : typeIn K (.ref (ma K (ga K d.cls) "__init__")) = some (.type "function")
theorem supB_ok {P : Program} {K : PySem.W.Frag} {d : CelD} (e : fnC K d.cls = d.val) (h : supB K P.main.file d = true) (htop : (P.main.scope.names.lookup ("super" : Str)).isSome = false) : ∃ fd cc cda, KxC P K d fd cc cda := by
  obtain ⟨h1, h⟩ := ba h
  obtain ⟨h2, h⟩ := ba h
  obtain ⟨h3, h⟩ := ba h
  obtain ⟨h4, h⟩ := ba h
  obtain ⟨h5, h⟩ := ba h
  obtain ⟨h6, h⟩ := ba h
  obtain ⟨h7, h8⟩ := ba h
  unfold fnC at e
  split at h2
  · rename_i oc od fd osl ho
    rw [ho] at e
    obtain ⟨n1, n2, n3, n4, n5, n6, n7, n8, n9, n10, n11, n12, n13, n14, n15⟩ := fd
    dsimp only at h2
    split at h2
    · rename_i x cc c
      have e2 : (some (n1, n2, n3, n4, n5, n6, n15) : FnC) = some (("__init__" : Str), d.qual, d.params, .stmts d.body, d.scope, mainGlobals, builtinsNs) := e
      simp only [Option.some.injEq, Prod.mk.injEq] at e2
      obtain ⟨q1, q2, q3, q4, q5, q6, q7⟩ := e2
      subst q1 q2 q3 q4 q5 q6 q7
      obtain ⟨z1, z⟩ := ba h2
      obtain ⟨z2, z⟩ := ba z
      obtain ⟨z3, z4⟩ := ba z
      have z1 := beq_iff_eq.mp z1
      subst z1
      refine ⟨_, cc, c, ⟨_, _, _, rfl⟩, ⟨oexB_ok h1, ⟨_, _, _, ho⟩, ?_, ?_, of_decide_eq_true h3, eqO_ok h4, of_decide_eq_true h5, eqO_ok h6, htop⟩, z2, eqO_ok h7, of_decide_eq_true h8⟩
      · split at z4
        · rename_i oc2 od2 vs sl2 ho2
          split at z4
          · rename_i y1 y2 n tf r hn
            exact ⟨_, _, vs, _, n, tf, ho2, by rw [← Array.getElem?_toList, hn]; rfl, z4⟩
          · cases z4
        · cases z4
      · split at z3
        · rename_i oc2 od2 a sl2 ho2
          have z3 := beq_iff_eq.mp z3
          subst z3
          exact ⟨_, _, _, ho2⟩
        · cases z3
    · cases h2
  · cases h2
/-! ### the Hook -/
structure SaysC (fa : List Fa) (fn : List DefD) (ts : List Tab) (tf : List Defn) (cs : List CelD) (ex : PySem.W.Frag → Bool) (w : World) (h : Heap) (K : PySem.W.Frag) : Prop where
  x : SaysX fa fn ts tf ex w h K
  c : cs.map (fun d => fnC K d.cls) = cs.map CelD.val
abbrev AlC : Type := AlX × List FnC
def obsXC (n : Nat) (fa : List Fa) (fn : List DefD) (ts : List Tab) (tf : List Defn) (ex : PySem.W.Frag → Bool) (g : Addr → Option Obj) : AlX := (obsT fa fn ts (frT g (asC g n)), ex (frT g (asC g n)) && tabsB g tf (frT g (asC g n)))
def obsC (n : Nat) (fa : List Fa) (fn : List DefD) (ts : List Tab) (tf : List Defn) (cs : List CelD) (ex : PySem.W.Frag → Bool) (g : Addr → Option Obj) : AlC := (obsXC n fa fn ts tf ex g, cs.map fun d => fnC (frT g (asC g n)) d.cls)
def valC (fn : List DefD) (ts : List Tab) (cs : List CelD) (w : World) : AlC := (valX fn ts w, cs.map CelD.val)
theorem saysC_of {n : Nat} {fa : List Fa} {fn : List DefD} {ts : List Tab} {tf : List Defn} {cs : List CelD} {ex : PySem.W.Frag → Bool} {w : World} {h : Heap} (e0 : obsC n fa fn ts tf cs ex h.get? = valC fn ts cs w) : SaysC fa fn ts tf cs ex w h (frT h.get? (asC h.get? n)) := by
  have e : obsXC n fa fn ts tf ex h.get? = valX fn ts w := congrArg (fun z : AlC => z.1) e0
  have ec : cs.map (fun d => fnC (frT h.get? (asC h.get? n)) d.cls) = cs.map CelD.val := congrArg (fun z : AlC => z.2) e0
  have e1 : obsT fa fn ts (frT h.get? (asC h.get? n)) = valT fn ts w := congrArg (fun z : AlX => z.1) e
  have e2 : (ex (frT h.get? (asC h.get? n)) && tabsB h.get? tf (frT h.get? (asC h.get? n))) = true := congrArg (fun z : AlX => z.2) e
  obtain ⟨h1, h2⟩ := ba e2
  have key : ∀ p ∈ tf, PySem.W.codeHdIn (frT h.get? (asC h.get? n)) (cT (frT h.get? (asC h.get? n)) p).1 (cT (frT h.get? (asC h.get? n)) p).2 = true ∧ ∃ o, h.get? (cT (frT h.get? (asC h.get? n)) p).2 = some o ∧ emptyTab o = true := fun p hp => by
    obtain ⟨h3, h4⟩ := ba (List.all_eq_true.mp h2 p hp)
    refine ⟨h3, ?_⟩
    cases q : h.get? (cT (frT h.get? (asC h.get? n)) p).2 with
    | none =>
      rw [q] at h4
      cases h4
    | some o =>
      rw [q] at h4
      exact ⟨o, rfl, h4⟩
  exact ⟨⟨e1, h1, fun p hp => (key p hp).1, fun p hp => by
    obtain ⟨_, o, q, z⟩ := key p hp
    exact frT_none q z, fun p hp => by
    obtain ⟨_, o, q, z⟩ := key p hp
    rw [q, emptyTab_eq z]⟩, ec⟩
def hookC (n : Nat) (fa : List Fa) (fn : List DefD) (ts : List Tab) (tf : List Defn) (cs : List CelD) (ex : PySem.W.Frag → Bool) : PySem.W.Hook where
  α := AlC
  obs := fun s => obsC n fa fn ts tf cs ex s.heap.get?
  val := fun w => valC fn ts cs w
  says := fun w h => ∃ K : PySem.W.Frag, K.In h ∧ SaysC fa fn ts tf cs ex w h K
  of := fun _ _ e => ⟨_, frT_in, saysC_of e⟩
  keeps := fun _ _ _ ⟨K, hK, c⟩ k => ⟨K, PySem.W.Frag.In.keeps hK k, ⟨⟨c.x.t, c.x.more, c.x.hd, c.x.out, fun p hp => k _ _ (c.x.empty p hp)⟩, c.c⟩⟩
theorem obsC_eq {n : Nat} {fa : List Fa} {fn : List DefD} {ts : List Tab} {tf : List Defn} {cs : List CelD} {ex : PySem.W.Frag → Bool} {g : Addr → Option Obj} {s : Shared} (h : ∀ a, g a = s.heap.get? a) : obsC n fa fn ts tf cs ex g = (hookC n fa fn ts tf cs ex).obs s := by
  have e : g = s.heap.get? := funext h
  rw [e] <;> rfl
theorem SaysC.at {fa : List Fa} {fn : List DefD} {ts : List Tab} {tf : List Defn} {cs : List CelD} {ex : PySem.W.Frag → Bool} {w : World} {h : Heap} {K : PySem.W.Frag} (c : SaysC fa fn ts tf cs ex w h K) (i : Nat) {d : CelD} (e : cs[i]? = some d := by rfl) : fnC K d.cls = d.val := by
  have e2 : (cs.map fun d => fnC K d.cls)[i]? = (cs.map CelD.val)[i]? := by rw [c.c]
  rw [List.getElem?_map, List.getElem?_map, e] at e2
  exact Option.some.inj e2
end Sy

set_option Elab.async false
set_option linter.all false
set_option maxRecDepth 100000
set_option maxHeartbeats 4000000
namespace Hn
open PySem PySem.Spec PyProof.Rows L2 Sy
def top (i : Nat) : Stmt := PySem.Challenge.pw_hushnotice_k03_notices_and_hears_refused.main.body.getD i (.Pass ⟨0, 0, 0, 0⟩)
abbrev s_is_number : Stmt := top 29
abbrev s_is_whole : Stmt := top 30
abbrev s_is_tuple_of : Stmt := top 31
abbrev s_is_tuple_up_to : Stmt := top 32
abbrev s_is_stretch : Stmt := top 33
abbrev s_can_be_hushed : Stmt := top 34
abbrev s_can_be_gather : Stmt := top 35
abbrev s_first_bad_part : Stmt := top 36
abbrev s_refuse_bad_rules : Stmt := top 37
abbrev s_refuse_bad_moment : Stmt := top 38
abbrev s_can_be_notice : Stmt := top 39
abbrev s_refuse_bad_notices : Stmt := top 40
abbrev s_can_be_hear : Stmt := top 41
abbrev s_refuse_bad_hears : Stmt := top 42
abbrev s_is_in_stretch : Stmt := top 45
abbrev s_hushed_hours : Stmt := top 46
abbrev s_first_free : Stmt := top 47
abbrev s_judged_course : Stmt := top 54
abbrev s_walked : Stmt := top 55
abbrev s_wheeled : Stmt := top 56
abbrev s_row_of : Stmt := top 63
abbrev s_written : Stmt := top 64
abbrev s_law_begun : Stmt := top 66
abbrev s_law_take : Stmt := top 67
abbrev s_law_alike : Stmt := top 68
abbrev s_law_told : Stmt := top 69
abbrev s_law_all : Stmt := top 70
abbrev s_law_stretches : Stmt := top 71
abbrev s_law_rule : Stmt := top 72
abbrev s_law_rules : Stmt := top 73
abbrev s_law_notices : Stmt := top 74
abbrev s_law_hears : Stmt := top 75
abbrev s_law_odd : Stmt := top 76
abbrev s_law_works : Stmt := top 77
abbrev s_law : Stmt := top 78
theorem sc_is_number : FnScope ["x"] ["x"] (defScope s_is_number) := ⟨rfl, rfl, rfl, by decide +kernel, rfl, by decide +kernel, by decide +kernel⟩
theorem sc_is_whole : FnScope ["x", "low", "high"] ["x", "low", "high"] (defScope s_is_whole) := ⟨rfl, rfl, rfl, by decide +kernel, rfl, by decide +kernel, by decide +kernel⟩
theorem sc_is_tuple_of : FnScope ["x", "many"] ["x", "many"] (defScope s_is_tuple_of) := ⟨rfl, rfl, rfl, by decide +kernel, rfl, by decide +kernel, by decide +kernel⟩
theorem sc_is_tuple_up_to : FnScope ["x", "most"] ["x", "most"] (defScope s_is_tuple_up_to) := ⟨rfl, rfl, rfl, by decide +kernel, rfl, by decide +kernel, by decide +kernel⟩
theorem sc_is_stretch : FnScope ["x", "begin", "end"] ["x"] (defScope s_is_stretch) := ⟨rfl, rfl, rfl, by decide +kernel, rfl, by decide +kernel, by decide +kernel⟩
theorem sc_can_be_hushed : FnScope ["hushed", "x"] ["hushed"] (defScope s_can_be_hushed) := ⟨rfl, rfl, rfl, by decide +kernel, rfl, by decide +kernel, by decide +kernel⟩
theorem sc_can_be_gather : FnScope ["gather", "lowest", "pair", "kind", "span"] ["gather"] (defScope s_can_be_gather) := ⟨rfl, rfl, rfl, by decide +kernel, rfl, by decide +kernel, by decide +kernel⟩
theorem sc_first_bad_part : FnScope ["row", "many", "hushed", "least", "gather", "wait", "further", "fits"] ["row", "many"] (defScope s_first_bad_part) := ⟨rfl, rfl, rfl, by decide +kernel, rfl, by decide +kernel, by decide +kernel⟩
theorem sc_refuse_bad_rules : FnScope ["rules", "many", "person", "part"] ["rules"] (defScope s_refuse_bad_rules) := ⟨rfl, rfl, rfl, by decide +kernel, rfl, by decide +kernel, by decide +kernel⟩
theorem sc_refuse_bad_moment : FnScope ["moment", "last"] ["moment", "last"] (defScope s_refuse_bad_moment) := ⟨rfl, rfl, rfl, by decide +kernel, rfl, by decide +kernel, by decide +kernel⟩
theorem sc_can_be_notice : FnScope ["row", "many_persons", "earliest", "person", "rank", "kind", "born", "fits"] ["row", "many_persons", "earliest"] (defScope s_can_be_notice) := ⟨rfl, rfl, rfl, by decide +kernel, rfl, by decide +kernel, by decide +kernel⟩
theorem sc_refuse_bad_notices : FnScope ["rules", "notices", "earliest", "number", "row"] ["rules", "notices"] (defScope s_refuse_bad_notices) := ⟨rfl, rfl, rfl, by decide +kernel, rfl, by decide +kernel, by decide +kernel⟩
theorem sc_can_be_hear : FnScope ["row", "many_persons", "many_notices", "earliest", "moment", "person", "notice", "fits"] ["row", "many_persons", "many_notices", "earliest"] (defScope s_can_be_hear) := ⟨rfl, rfl, rfl, by decide +kernel, rfl, by decide +kernel, by decide +kernel⟩
theorem sc_refuse_bad_hears : FnScope ["rules", "notices", "hears", "earliest", "number", "row"] ["rules", "notices", "hears"] (defScope s_refuse_bad_hears) := ⟨rfl, rfl, rfl, by decide +kernel, rfl, by decide +kernel, by decide +kernel⟩
theorem sc_judged_course : FnScope ["rules", "notices", "hears", "until"] ["rules", "notices", "hears", "until"] (defScope s_judged_course) := ⟨rfl, rfl, rfl, by decide +kernel, rfl, by decide +kernel, by decide +kernel⟩
theorem sc_walked : FnScope ["rules", "notices", "hears", "until", "course", "moment"] ["rules", "notices", "hears", "until"] (defScope s_walked) := ⟨rfl, rfl, rfl, by decide +kernel, rfl, by decide +kernel, by decide +kernel⟩
theorem sc_wheeled : FnScope ["rules", "notices", "hears", "until", "course", "moment"] ["rules", "notices", "hears", "until"] (defScope s_wheeled) := ⟨rfl, rfl, rfl, by decide +kernel, rfl, by decide +kernel, by decide +kernel⟩
theorem sc_written : FnScope ["rules", "notices", "rows", "hushed", "least", "gather", "wait", "further", "stretch", "pair", "notice"] ["rules", "notices"] (defScope s_written) := ⟨rfl, rfl, rfl, by decide +kernel, rfl, by decide +kernel, by decide +kernel⟩
theorem sc_law_begun : FnScope ["_law_script", "_law_stirred", "_law_cell"] ["_law_script"] (defScope s_law_begun) := ⟨rfl, rfl, rfl, by decide +kernel, rfl, by decide +kernel, by decide +kernel⟩
theorem sc_law_take : FnScope ["_law_box", "_law_many", "_law_number"] ["_law_box", "_law_many"] (defScope s_law_take) := ⟨rfl, rfl, rfl, by decide +kernel, rfl, by decide +kernel, by decide +kernel⟩
theorem sc_law_alike : FnScope ["_law_found", "_law_due", "_law_k"] ["_law_found", "_law_due"] (defScope s_law_alike) := ⟨rfl, rfl, rfl, by decide +kernel, rfl, by decide +kernel, by decide +kernel⟩
theorem sc_law_told : FnScope ["_law_work", "e", "_law_kinds", "_law_words", "_law_word"] ["_law_work"] (defScope s_law_told) := ⟨rfl, rfl, rfl, by decide +kernel, rfl, by decide +kernel, by decide +kernel⟩
theorem sc_law_all : FnScope ["_law_works_here", "_law_due", "_law_work"] ["_law_works_here", "_law_due"] (defScope s_law_all) := ⟨rfl, rfl, rfl, by decide +kernel, rfl, by decide +kernel, by decide +kernel⟩
theorem sc_law_stretches : FnScope ["_law_box", "_law_found", "_law_turn", "_law_begin"] ["_law_box"] (defScope s_law_stretches) := ⟨rfl, rfl, rfl, by decide +kernel, rfl, by decide +kernel, by decide +kernel⟩
theorem sc_law_rule : FnScope ["_law_box", "_law_many", "_law_gather", "_law_kind", "_law_wait", "_law_further"] ["_law_box", "_law_many"] (defScope s_law_rule) := ⟨rfl, rfl, rfl, by decide +kernel, rfl, by decide +kernel, by decide +kernel⟩
theorem sc_law_rules : FnScope ["_law_box", "_law_many", "_law_person"] ["_law_box"] (defScope s_law_rules) := ⟨rfl, rfl, rfl, by decide +kernel, rfl, by decide +kernel, by decide +kernel⟩
theorem sc_law_notices : FnScope ["_law_box", "_law_rules_here", "_law_most", "_law_found", "_law_born", "_law_few", "_law_turn"] ["_law_box", "_law_rules_here", "_law_most"] (defScope s_law_notices) := ⟨rfl, rfl, rfl, by decide +kernel, rfl, by decide +kernel, by decide +kernel⟩
theorem sc_law_hears : FnScope ["_law_box", "_law_rules_here", "_law_notices_here", "_law_most", "_law_found", "_law_moment", "_law_turn", "_law_notice", "_law_person"] ["_law_box", "_law_rules_here", "_law_notices_here", "_law_most"] (defScope s_law_hears) := ⟨rfl, rfl, rfl, by decide +kernel, rfl, by decide +kernel, by decide +kernel⟩
theorem sc_law_odd : FnScope ["_law_box", "_law_row", "_law_tops", "_law_ahead", "_law_far", "_law_k", "_law_bad", "_law_some"] ["_law_box", "_law_row", "_law_tops", "_law_ahead"] (defScope s_law_odd) := ⟨rfl, rfl, rfl, by decide +kernel, rfl, by decide +kernel, by decide +kernel⟩
theorem sc_law_works : FnScope ["_law_rules_here", "_law_some", "_law_heard", "_law_limit", "_law_works_here"] ["_law_rules_here", "_law_some", "_law_heard", "_law_limit"] (defScope s_law_works) := ⟨rfl, rfl, rfl, by decide +kernel, rfl, by decide +kernel, by decide +kernel⟩
theorem sc_law : FnScope ["_law_script", "_law_box", "_law_turn", "_law_rules_here", "_law_notices_here", "_law_heard", "_law_far", "_law_at", "_law_edge", "_law_row", "_law_odd_here", "_law_bad", "_law_handed", "_law_great", "_law_top", "_law_works_here", "_law_falls", "_law_limit"] ["_law_script"] (defScope s_law) := ⟨rfl, rfl, rfl, by decide +kernel, rfl, by decide +kernel, by decide +kernel⟩
abbrev s_Person___init__ : Stmt := inClass (top 49) 0
abbrev s_Person_lets_by : Stmt := inClass (top 49) 1
abbrev s_Notice___init__ : Stmt := inClass (top 50) 0
abbrev s_Notice_fate : Stmt := inClass (top 50) 1
abbrev s_Course___init__ : Stmt := inClass (top 51) 0
abbrev s_Course_pass_moment : Stmt := inClass (top 51) 1
abbrev s_Course_take_hears : Stmt := inClass (top 51) 2
abbrev s_Course_shut_heaps : Stmt := inClass (top 51) 3
abbrev s_Course_send_on : Stmt := inClass (top 51) 4
abbrev s_Course_bring : Stmt := inClass (top 51) 5
abbrev s_Course_tell_ready : Stmt := inClass (top 51) 6
abbrev s_Course_tell : Stmt := inClass (top 51) 7
abbrev s_Course_next_moment : Stmt := inClass (top 51) 8
abbrev s_Course_outcome : Stmt := inClass (top 51) 9
open He in
structure Tx (K : PySem.W.Frag) (mg : Str → Option Value) where
  fd_is_number : FuncData
  F_is_number : FnP K "is_number" s_is_number (ga K "is_number") fd_is_number
  fd_is_whole : FuncData
  F_is_whole : FnP K "is_whole" s_is_whole (ga K "is_whole") fd_is_whole
  fd_is_tuple_of : FuncData
  F_is_tuple_of : FnP K "is_tuple_of" s_is_tuple_of (ga K "is_tuple_of") fd_is_tuple_of
  fd_is_tuple_up_to : FuncData
  F_is_tuple_up_to : FnP K "is_tuple_up_to" s_is_tuple_up_to (ga K "is_tuple_up_to") fd_is_tuple_up_to
  fd_is_stretch : FuncData
  F_is_stretch : FnP K "is_stretch" s_is_stretch (ga K "is_stretch") fd_is_stretch
  fd_can_be_hushed : FuncData
  F_can_be_hushed : FnP K "can_be_hushed" s_can_be_hushed (ga K "can_be_hushed") fd_can_be_hushed
  fd_can_be_gather : FuncData
  F_can_be_gather : FnP K "can_be_gather" s_can_be_gather (ga K "can_be_gather") fd_can_be_gather
  fd_first_bad_part : FuncData
  F_first_bad_part : FnP K "first_bad_part" s_first_bad_part (ga K "first_bad_part") fd_first_bad_part
  fd_refuse_bad_rules : FuncData
  F_refuse_bad_rules : FnP K "refuse_bad_rules" s_refuse_bad_rules (ga K "refuse_bad_rules") fd_refuse_bad_rules
  fd_refuse_bad_moment : FuncData
  F_refuse_bad_moment : FunD K "refuse_bad_moment" "refuse_bad_moment" (defArgs s_refuse_bad_moment) (defBody s_refuse_bad_moment) (defScope s_refuse_bad_moment) [V.int (1000000)] [] (ga K "refuse_bad_moment") fd_refuse_bad_moment
  fd_can_be_notice : FuncData
  F_can_be_notice : FnP K "can_be_notice" s_can_be_notice (ga K "can_be_notice") fd_can_be_notice
  fd_refuse_bad_notices : FuncData
  F_refuse_bad_notices : FnP K "refuse_bad_notices" s_refuse_bad_notices (ga K "refuse_bad_notices") fd_refuse_bad_notices
  fd_can_be_hear : FuncData
  F_can_be_hear : FnP K "can_be_hear" s_can_be_hear (ga K "can_be_hear") fd_can_be_hear
  fd_refuse_bad_hears : FuncData
  F_refuse_bad_hears : FnP K "refuse_bad_hears" s_refuse_bad_hears (ga K "refuse_bad_hears") fd_refuse_bad_hears
  fd_is_in_stretch : FuncData
  F_is_in_stretch : FnP K "is_in_stretch" s_is_in_stretch (ga K "is_in_stretch") fd_is_in_stretch
  fd_hushed_hours : FuncData
  F_hushed_hours : FnP K "hushed_hours" s_hushed_hours (ga K "hushed_hours") fd_hushed_hours
  fd_first_free : FuncData
  F_first_free : FnP K "first_free" s_first_free (ga K "first_free") fd_first_free
  fd_judged_course : FuncData
  F_judged_course : FnP K "judged_course" s_judged_course (ga K "judged_course") fd_judged_course
  fd_walked : FuncData
  F_walked : FunD K "walked" "walked" (defArgs s_walked) (defBody s_walked) (defScope s_walked) [] [("hears", V.ref (kwAt "walked" "hears" K)), ("until", V.int (600))] (ga K "walked") fd_walked
  fd_wheeled : FuncData
  F_wheeled : FunD K "wheeled" "wheeled" (defArgs s_wheeled) (defBody s_wheeled) (defScope s_wheeled) [] [("hears", V.ref (kwAt "wheeled" "hears" K)), ("until", V.int (600))] (ga K "wheeled") fd_wheeled
  fd_row_of : FuncData
  F_row_of : FnP K "row_of" s_row_of (ga K "row_of") fd_row_of
  fd_written : FuncData
  F_written : FnP K "written" s_written (ga K "written") fd_written
  fd__law_begun : FuncData
  F__law_begun : FnP K "_law_begun" s_law_begun (ga K "_law_begun") fd__law_begun
  fd__law_take : FuncData
  F__law_take : FnP K "_law_take" s_law_take (ga K "_law_take") fd__law_take
  fd__law_alike : FuncData
  F__law_alike : FnP K "_law_alike" s_law_alike (ga K "_law_alike") fd__law_alike
  fd__law_told : FuncData
  F__law_told : FnP K "_law_told" s_law_told (ga K "_law_told") fd__law_told
  fd__law_all : FuncData
  F__law_all : FnP K "_law_all" s_law_all (ga K "_law_all") fd__law_all
  fd__law_stretches : FuncData
  F__law_stretches : FnP K "_law_stretches" s_law_stretches (ga K "_law_stretches") fd__law_stretches
  fd__law_rule : FuncData
  F__law_rule : FnP K "_law_rule" s_law_rule (ga K "_law_rule") fd__law_rule
  fd__law_rules : FuncData
  F__law_rules : FnP K "_law_rules" s_law_rules (ga K "_law_rules") fd__law_rules
  fd__law_notices : FuncData
  F__law_notices : FnP K "_law_notices" s_law_notices (ga K "_law_notices") fd__law_notices
  fd__law_hears : FuncData
  F__law_hears : FnP K "_law_hears" s_law_hears (ga K "_law_hears") fd__law_hears
  fd__law_odd : FuncData
  F__law_odd : FnP K "_law_odd" s_law_odd (ga K "_law_odd") fd__law_odd
  fd__law_works : FuncData
  F__law_works : FnP K "_law_works" s_law_works (ga K "_law_works") fd__law_works
  fd_law : FuncData
  F_law : FnP K "law" s_law (ga K "law") fd_law
  g_is_number : mg "is_number" = some (.ref (ga K "is_number"))
  k_is_number : PySem.W.keepIn K (.ref (ga K "is_number")) = true
  g_is_whole : mg "is_whole" = some (.ref (ga K "is_whole"))
  k_is_whole : PySem.W.keepIn K (.ref (ga K "is_whole")) = true
  g_is_tuple_of : mg "is_tuple_of" = some (.ref (ga K "is_tuple_of"))
  k_is_tuple_of : PySem.W.keepIn K (.ref (ga K "is_tuple_of")) = true
  g_is_tuple_up_to : mg "is_tuple_up_to" = some (.ref (ga K "is_tuple_up_to"))
  k_is_tuple_up_to : PySem.W.keepIn K (.ref (ga K "is_tuple_up_to")) = true
  g_is_stretch : mg "is_stretch" = some (.ref (ga K "is_stretch"))
  k_is_stretch : PySem.W.keepIn K (.ref (ga K "is_stretch")) = true
  g_can_be_hushed : mg "can_be_hushed" = some (.ref (ga K "can_be_hushed"))
  k_can_be_hushed : PySem.W.keepIn K (.ref (ga K "can_be_hushed")) = true
  g_can_be_gather : mg "can_be_gather" = some (.ref (ga K "can_be_gather"))
  k_can_be_gather : PySem.W.keepIn K (.ref (ga K "can_be_gather")) = true
  g_first_bad_part : mg "first_bad_part" = some (.ref (ga K "first_bad_part"))
  k_first_bad_part : PySem.W.keepIn K (.ref (ga K "first_bad_part")) = true
  g_refuse_bad_rules : mg "refuse_bad_rules" = some (.ref (ga K "refuse_bad_rules"))
  k_refuse_bad_rules : PySem.W.keepIn K (.ref (ga K "refuse_bad_rules")) = true
  g_refuse_bad_moment : mg "refuse_bad_moment" = some (.ref (ga K "refuse_bad_moment"))
  k_refuse_bad_moment : PySem.W.keepIn K (.ref (ga K "refuse_bad_moment")) = true
  g_can_be_notice : mg "can_be_notice" = some (.ref (ga K "can_be_notice"))
  k_can_be_notice : PySem.W.keepIn K (.ref (ga K "can_be_notice")) = true
  g_refuse_bad_notices : mg "refuse_bad_notices" = some (.ref (ga K "refuse_bad_notices"))
  k_refuse_bad_notices : PySem.W.keepIn K (.ref (ga K "refuse_bad_notices")) = true
  g_can_be_hear : mg "can_be_hear" = some (.ref (ga K "can_be_hear"))
  k_can_be_hear : PySem.W.keepIn K (.ref (ga K "can_be_hear")) = true
  g_refuse_bad_hears : mg "refuse_bad_hears" = some (.ref (ga K "refuse_bad_hears"))
  k_refuse_bad_hears : PySem.W.keepIn K (.ref (ga K "refuse_bad_hears")) = true
  g_is_in_stretch : mg "is_in_stretch" = some (.ref (ga K "is_in_stretch"))
  k_is_in_stretch : PySem.W.keepIn K (.ref (ga K "is_in_stretch")) = true
  g_hushed_hours : mg "hushed_hours" = some (.ref (ga K "hushed_hours"))
  k_hushed_hours : PySem.W.keepIn K (.ref (ga K "hushed_hours")) = true
  g_first_free : mg "first_free" = some (.ref (ga K "first_free"))
  k_first_free : PySem.W.keepIn K (.ref (ga K "first_free")) = true
  g_judged_course : mg "judged_course" = some (.ref (ga K "judged_course"))
  k_judged_course : PySem.W.keepIn K (.ref (ga K "judged_course")) = true
  g_walked : mg "walked" = some (.ref (ga K "walked"))
  k_walked : PySem.W.keepIn K (.ref (ga K "walked")) = true
  g_wheeled : mg "wheeled" = some (.ref (ga K "wheeled"))
  k_wheeled : PySem.W.keepIn K (.ref (ga K "wheeled")) = true
  g_row_of : mg "row_of" = some (.ref (ga K "row_of"))
  k_row_of : PySem.W.keepIn K (.ref (ga K "row_of")) = true
  g_written : mg "written" = some (.ref (ga K "written"))
  k_written : PySem.W.keepIn K (.ref (ga K "written")) = true
  g__law_begun : mg "_law_begun" = some (.ref (ga K "_law_begun"))
  k__law_begun : PySem.W.keepIn K (.ref (ga K "_law_begun")) = true
  g__law_take : mg "_law_take" = some (.ref (ga K "_law_take"))
  k__law_take : PySem.W.keepIn K (.ref (ga K "_law_take")) = true
  g__law_alike : mg "_law_alike" = some (.ref (ga K "_law_alike"))
  k__law_alike : PySem.W.keepIn K (.ref (ga K "_law_alike")) = true
  g__law_told : mg "_law_told" = some (.ref (ga K "_law_told"))
  k__law_told : PySem.W.keepIn K (.ref (ga K "_law_told")) = true
  g__law_all : mg "_law_all" = some (.ref (ga K "_law_all"))
  k__law_all : PySem.W.keepIn K (.ref (ga K "_law_all")) = true
  g__law_stretches : mg "_law_stretches" = some (.ref (ga K "_law_stretches"))
  k__law_stretches : PySem.W.keepIn K (.ref (ga K "_law_stretches")) = true
  g__law_rule : mg "_law_rule" = some (.ref (ga K "_law_rule"))
  k__law_rule : PySem.W.keepIn K (.ref (ga K "_law_rule")) = true
  g__law_rules : mg "_law_rules" = some (.ref (ga K "_law_rules"))
  k__law_rules : PySem.W.keepIn K (.ref (ga K "_law_rules")) = true
  g__law_notices : mg "_law_notices" = some (.ref (ga K "_law_notices"))
  k__law_notices : PySem.W.keepIn K (.ref (ga K "_law_notices")) = true
  g__law_hears : mg "_law_hears" = some (.ref (ga K "_law_hears"))
  k__law_hears : PySem.W.keepIn K (.ref (ga K "_law_hears")) = true
  g__law_odd : mg "_law_odd" = some (.ref (ga K "_law_odd"))
  k__law_odd : PySem.W.keepIn K (.ref (ga K "_law_odd")) = true
  g__law_works : mg "_law_works" = some (.ref (ga K "_law_works"))
  k__law_works : PySem.W.keepIn K (.ref (ga K "_law_works")) = true
  g_law : mg "law" = some (.ref (ga K "law"))
  k_law : PySem.W.keepIn K (.ref (ga K "law")) = true
  g_NoticeError : mg "NoticeError" = some (.ref (ga K "NoticeError"))
  k_NoticeError : PySem.W.keepIn K (.ref (ga K "NoticeError")) = true
  g_BadRules : mg "BadRules" = some (.ref (ga K "BadRules"))
  k_BadRules : PySem.W.keepIn K (.ref (ga K "BadRules")) = true
  g_BadPerson : mg "BadPerson" = some (.ref (ga K "BadPerson"))
  k_BadPerson : PySem.W.keepIn K (.ref (ga K "BadPerson")) = true
  g_BadMoment : mg "BadMoment" = some (.ref (ga K "BadMoment"))
  k_BadMoment : PySem.W.keepIn K (.ref (ga K "BadMoment")) = true
  g_BadNotices : mg "BadNotices" = some (.ref (ga K "BadNotices"))
  k_BadNotices : PySem.W.keepIn K (.ref (ga K "BadNotices")) = true
  g_BadHears : mg "BadHears" = some (.ref (ga K "BadHears"))
  k_BadHears : PySem.W.keepIn K (.ref (ga K "BadHears")) = true
  g_BadDevice : mg "BadDevice" = some (.ref (ga K "BadDevice"))
  k_BadDevice : PySem.W.keepIn K (.ref (ga K "BadDevice")) = true
  g_BadBell : mg "BadBell" = some (.ref (ga K "BadBell"))
  k_BadBell : PySem.W.keepIn K (.ref (ga K "BadBell")) = true
  g_NotRinging : mg "NotRinging" = some (.ref (ga K "NotRinging"))
  k_NotRinging : PySem.W.keepIn K (.ref (ga K "NotRinging")) = true
  g_IsOff : mg "IsOff" = some (.ref (ga K "IsOff"))
  k_IsOff : PySem.W.keepIn K (.ref (ga K "IsOff")) = true
  g_BadText : mg "BadText" = some (.ref (ga K "BadText"))
  k_BadText : PySem.W.keepIn K (.ref (ga K "BadText")) = true
  g_Person : mg "Person" = some (.ref (ga K "Person"))
  k_Person : PySem.W.keepIn K (.ref (ga K "Person")) = true
  g_Notice : mg "Notice" = some (.ref (ga K "Notice"))
  k_Notice : PySem.W.keepIn K (.ref (ga K "Notice")) = true
  g_Course : mg "Course" = some (.ref (ga K "Course"))
  k_Course : PySem.W.keepIn K (.ref (ga K "Course")) = true
  x_NoticeError : PySem.W.excIn K (ga K "NoticeError") veBase "ValueError.__new__" = true
  e_NoticeError : PySem.W.subIn K (.ref (ga K "NoticeError")) (.type "BaseException") = some true
  t_NoticeError : PySem.W.typeIn K (.ref (ga K "NoticeError")) = some (.type "type")
  x_BadPerson : PySem.W.excIn K (ga K "BadPerson") veBase "ValueError.__new__" = true
  e_BadPerson : PySem.W.subIn K (.ref (ga K "BadPerson")) (.type "BaseException") = some true
  t_BadPerson : PySem.W.typeIn K (.ref (ga K "BadPerson")) = some (.type "type")
  x_BadMoment : PySem.W.excIn K (ga K "BadMoment") veBase "ValueError.__new__" = true
  e_BadMoment : PySem.W.subIn K (.ref (ga K "BadMoment")) (.type "BaseException") = some true
  t_BadMoment : PySem.W.typeIn K (.ref (ga K "BadMoment")) = some (.type "type")
  x_BadDevice : PySem.W.excIn K (ga K "BadDevice") veBase "ValueError.__new__" = true
  e_BadDevice : PySem.W.subIn K (.ref (ga K "BadDevice")) (.type "BaseException") = some true
  t_BadDevice : PySem.W.typeIn K (.ref (ga K "BadDevice")) = some (.type "type")
  x_BadBell : PySem.W.excIn K (ga K "BadBell") veBase "ValueError.__new__" = true
  e_BadBell : PySem.W.subIn K (.ref (ga K "BadBell")) (.type "BaseException") = some true
  t_BadBell : PySem.W.typeIn K (.ref (ga K "BadBell")) = some (.type "type")
  x_NotRinging : PySem.W.excIn K (ga K "NotRinging") veBase "ValueError.__new__" = true
  e_NotRinging : PySem.W.subIn K (.ref (ga K "NotRinging")) (.type "BaseException") = some true
  t_NotRinging : PySem.W.typeIn K (.ref (ga K "NotRinging")) = some (.type "type")
  x_IsOff : PySem.W.excIn K (ga K "IsOff") veBase "ValueError.__new__" = true
  e_IsOff : PySem.W.subIn K (.ref (ga K "IsOff")) (.type "BaseException") = some true
  t_IsOff : PySem.W.typeIn K (.ref (ga K "IsOff")) = some (.type "type")
  i_MOST_PERSONS : ∃ t, mg "MOST_PERSONS" = some (.int (6) t)
  i_MANY_PARTS : ∃ t, mg "MANY_PARTS" = some (.int (5) t)
  i_MOST_STRETCHES : ∃ t, mg "MOST_STRETCHES" = some (.int (3) t)
  i_LAST_HOUR : ∃ t, mg "LAST_HOUR" = some (.int (23) t)
  i_MOST_LEAST : ∃ t, mg "MOST_LEAST" = some (.int (4) t)
  i_MOST_GATHERED : ∃ t, mg "MOST_GATHERED" = some (.int (4) t)
  i_LAST_KIND : ∃ t, mg "LAST_KIND" = some (.int (7) t)
  i_MOST_SPAN : ∃ t, mg "MOST_SPAN" = some (.int (12) t)
  i_MOST_WAIT : ∃ t, mg "MOST_WAIT" = some (.int (24) t)
  i_LAST_MOMENT : ∃ t, mg "LAST_MOMENT" = some (.int (1000000) t)
  i_MOST_NOTICES : ∃ t, mg "MOST_NOTICES" = some (.int (30) t)
  i_LAST_RANK : ∃ t, mg "LAST_RANK" = some (.int (3) t)
  i_LAST_BORN : ∃ t, mg "LAST_BORN" = some (.int (300) t)
  i_MOST_HEARS : ∃ t, mg "MOST_HEARS" = some (.int (60) t)
  i_LAST_HEAR : ∃ t, mg "LAST_HEAR" = some (.int (600) t)
  i_NO_PART : ∃ t, mg "NO_PART" = some (.int (-1) t)
  i_DAY : ∃ t, mg "DAY" = some (.int (24) t)
  i_MOST_UNTIL : ∃ t, mg "MOST_UNTIL" = some (.int (600) t)
  i_PERSON : ∃ t, mg "PERSON" = some (.str "person" t)
  i_HUSH : ∃ t, mg "HUSH" = some (.str "hush" t)
  i_GATHER : ∃ t, mg "GATHER" = some (.str "gather" t)
  i_NOTICE : ∃ t, mg "NOTICE" = some (.str "notice" t)
  i_NONE : ∃ t, mg "NONE" = some (.str "-" t)
  e_walked_hears : EmptyT K (kwAt "walked" "hears" K)
  e_wheeled_hears : EmptyT K (kwAt "wheeled" "hears" K)
  c_Person : Cls K (ga K "Person")
  mk_Person : Mk K (ga K "Person") (ma K (ga K "Person") "__init__")
  n_Person_hours : NoAttr K (ga K "Person") "hours"
  n_Person_spans : NoAttr K (ga K "Person") "spans"
  n_Person_least : NoAttr K (ga K "Person") "least"
  n_Person_wait : NoAttr K (ga K "Person") "wait"
  n_Person_further : NoAttr K (ga K "Person") "further"
  fd_Person___init__ : FuncData
  F_Person___init__ : FnM K "__init__" "Person.__init__" s_Person___init__ (ma K (ga K "Person") "__init__") fd_Person___init__
  M_Person___init__ : Meth K (ga K "Person") "__init__" (ma K (ga K "Person") "__init__")
  fd_Person_lets_by : FuncData
  F_Person_lets_by : FnM K "lets_by" "Person.lets_by" s_Person_lets_by (ma K (ga K "Person") "lets_by") fd_Person_lets_by
  M_Person_lets_by : Meth K (ga K "Person") "lets_by" (ma K (ga K "Person") "lets_by")
  c_Notice : Cls K (ga K "Notice")
  mk_Notice : Mk K (ga K "Notice") (ma K (ga K "Notice") "__init__")
  n_Notice_number : NoAttr K (ga K "Notice") "number"
  n_Notice_went : NoAttr K (ga K "Notice") "went"
  n_Notice_told : NoAttr K (ga K "Notice") "told"
  n_Notice_goes_on : NoAttr K (ga K "Notice") "goes_on"
  n_Notice_heard : NoAttr K (ga K "Notice") "heard"
  n_Notice_given_up : NoAttr K (ga K "Notice") "given_up"
  n_Notice_first : NoAttr K (ga K "Notice") "first"
  n_Notice_rank : NoAttr K (ga K "Notice") "rank"
  n_Notice_kind : NoAttr K (ga K "Notice") "kind"
  n_Notice_born : NoAttr K (ga K "Notice") "born"
  fd_Notice___init__ : FuncData
  F_Notice___init__ : FnM K "__init__" "Notice.__init__" s_Notice___init__ (ma K (ga K "Notice") "__init__") fd_Notice___init__
  M_Notice___init__ : Meth K (ga K "Notice") "__init__" (ma K (ga K "Notice") "__init__")
  fd_Notice_fate : FuncData
  F_Notice_fate : FnM K "fate" "Notice.fate" s_Notice_fate (ma K (ga K "Notice") "fate") fd_Notice_fate
  M_Notice_fate : Meth K (ga K "Notice") "fate" (ma K (ga K "Notice") "fate")
  c_Course : Cls K (ga K "Course")
  mk_Course : Mk K (ga K "Course") (ma K (ga K "Course") "__init__")
  n_Course_persons : NoAttr K (ga K "Course") "persons"
  n_Course_notices : NoAttr K (ga K "Course") "notices"
  n_Course_hears : NoAttr K (ga K "Course") "hears"
  n_Course_heaps : NoAttr K (ga K "Course") "heaps"
  n_Course_ready : NoAttr K (ga K "Course") "ready"
  n_Course_rows : NoAttr K (ga K "Course") "rows"
  fd_Course___init__ : FuncData
  F_Course___init__ : FnM K "__init__" "Course.__init__" s_Course___init__ (ma K (ga K "Course") "__init__") fd_Course___init__
  M_Course___init__ : Meth K (ga K "Course") "__init__" (ma K (ga K "Course") "__init__")
  fd_Course_pass_moment : FuncData
  F_Course_pass_moment : FnM K "pass_moment" "Course.pass_moment" s_Course_pass_moment (ma K (ga K "Course") "pass_moment") fd_Course_pass_moment
  M_Course_pass_moment : Meth K (ga K "Course") "pass_moment" (ma K (ga K "Course") "pass_moment")
  fd_Course_take_hears : FuncData
  F_Course_take_hears : FnM K "take_hears" "Course.take_hears" s_Course_take_hears (ma K (ga K "Course") "take_hears") fd_Course_take_hears
  M_Course_take_hears : Meth K (ga K "Course") "take_hears" (ma K (ga K "Course") "take_hears")
  fd_Course_shut_heaps : FuncData
  F_Course_shut_heaps : FnM K "shut_heaps" "Course.shut_heaps" s_Course_shut_heaps (ma K (ga K "Course") "shut_heaps") fd_Course_shut_heaps
  M_Course_shut_heaps : Meth K (ga K "Course") "shut_heaps" (ma K (ga K "Course") "shut_heaps")
  fd_Course_send_on : FuncData
  F_Course_send_on : FnM K "send_on" "Course.send_on" s_Course_send_on (ma K (ga K "Course") "send_on") fd_Course_send_on
  M_Course_send_on : Meth K (ga K "Course") "send_on" (ma K (ga K "Course") "send_on")
  fd_Course_bring : FuncData
  F_Course_bring : FnM K "bring" "Course.bring" s_Course_bring (ma K (ga K "Course") "bring") fd_Course_bring
  M_Course_bring : Meth K (ga K "Course") "bring" (ma K (ga K "Course") "bring")
  fd_Course_tell_ready : FuncData
  F_Course_tell_ready : FnM K "tell_ready" "Course.tell_ready" s_Course_tell_ready (ma K (ga K "Course") "tell_ready") fd_Course_tell_ready
  M_Course_tell_ready : Meth K (ga K "Course") "tell_ready" (ma K (ga K "Course") "tell_ready")
  fd_Course_tell : FuncData
  F_Course_tell : FnM K "tell" "Course.tell" s_Course_tell (ma K (ga K "Course") "tell") fd_Course_tell
  M_Course_tell : Meth K (ga K "Course") "tell" (ma K (ga K "Course") "tell")
  fd_Course_next_moment : FuncData
  F_Course_next_moment : FnM K "next_moment" "Course.next_moment" s_Course_next_moment (ma K (ga K "Course") "next_moment") fd_Course_next_moment
  M_Course_next_moment : Meth K (ga K "Course") "next_moment" (ma K (ga K "Course") "next_moment")
  fd_Course_outcome : FuncData
  F_Course_outcome : FnM K "outcome" "Course.outcome" s_Course_outcome (ma K (ga K "Course") "outcome") fd_Course_outcome
  M_Course_outcome : Meth K (ga K "Course") "outcome" (ma K (ga K "Course") "outcome")
  z_isinstance : mg "isinstance" = none
  z_bool : mg "bool" = none
  z_int : mg "int" = none
  z_tuple : mg "tuple" = none
  z_list : mg "list" = none
  z_len : mg "len" = none
  z_all : mg "all" = none
  z_any : mg "any" = none
  z_range : mg "range" = none
  z_min : mg "min" = none
  z_max : mg "max" = none
  z_sum : mg "sum" = none
  z_str : mg "str" = none
  z_sorted : mg "sorted" = none
  z_enumerate : mg "enumerate" = none
  z_zip : mg "zip" = none
  z_dict : mg "dict" = none
  z_set : mg "set" = none
  z_ValueError : mg "ValueError" = none
section
variable {K : PySem.W.Frag} {mg : Str → Option Value}
theorem b_is_number (T : Tx K mg) : Binds K T.fd_is_number ["x"] [] := FunD.bindsN T.F_is_number fun _ _ _ _ _ _ us hl => match us, hl with | [_], _ => rfl
theorem b_is_whole (T : Tx K mg) : Binds K T.fd_is_whole ["x", "low", "high"] [] := FunD.bindsN T.F_is_whole fun _ _ _ _ _ _ us hl => match us, hl with | [_, _, _], _ => rfl
theorem b_is_tuple_of (T : Tx K mg) : Binds K T.fd_is_tuple_of ["x", "many"] [] := FunD.bindsN T.F_is_tuple_of fun _ _ _ _ _ _ us hl => match us, hl with | [_, _], _ => rfl
theorem b_is_tuple_up_to (T : Tx K mg) : Binds K T.fd_is_tuple_up_to ["x", "most"] [] := FunD.bindsN T.F_is_tuple_up_to fun _ _ _ _ _ _ us hl => match us, hl with | [_, _], _ => rfl
theorem b_is_stretch (T : Tx K mg) : Binds K T.fd_is_stretch ["x"] [] := FunD.bindsN T.F_is_stretch fun _ _ _ _ _ _ us hl => match us, hl with | [_], _ => rfl
theorem b_can_be_hushed (T : Tx K mg) : Binds K T.fd_can_be_hushed ["hushed"] [] := FunD.bindsN T.F_can_be_hushed fun _ _ _ _ _ _ us hl => match us, hl with | [_], _ => rfl
theorem b_can_be_gather (T : Tx K mg) : Binds K T.fd_can_be_gather ["gather"] [] := FunD.bindsN T.F_can_be_gather fun _ _ _ _ _ _ us hl => match us, hl with | [_], _ => rfl
theorem b_first_bad_part (T : Tx K mg) : Binds K T.fd_first_bad_part ["row", "many"] [] := FunD.bindsN T.F_first_bad_part fun _ _ _ _ _ _ us hl => match us, hl with | [_, _], _ => rfl
theorem b_refuse_bad_rules (T : Tx K mg) : Binds K T.fd_refuse_bad_rules ["rules"] [] := FunD.bindsN T.F_refuse_bad_rules fun _ _ _ _ _ _ us hl => match us, hl with | [_], _ => rfl
theorem bd_refuse_bad_moment_2 (T : Tx K mg) : ∃ ds, Vals [] ds ∧ Binds K T.fd_refuse_bad_moment ["moment", "last"] ds := FunD.binds1 T.F_refuse_bad_moment (ps := ["moment", "last"]) 2 1 (by simp) rfl fun T0 kV doc pm an cdv ct us its h1 h2 => match us, its, h1, h2 with | [_, _], [_], _, _ => ⟨_, rfl, rfl⟩
theorem b_can_be_notice (T : Tx K mg) : Binds K T.fd_can_be_notice ["row", "many_persons", "earliest"] [] := FunD.bindsN T.F_can_be_notice fun _ _ _ _ _ _ us hl => match us, hl with | [_, _, _], _ => rfl
theorem b_refuse_bad_notices (T : Tx K mg) : Binds K T.fd_refuse_bad_notices ["rules", "notices"] [] := FunD.bindsN T.F_refuse_bad_notices fun _ _ _ _ _ _ us hl => match us, hl with | [_, _], _ => rfl
theorem b_can_be_hear (T : Tx K mg) : Binds K T.fd_can_be_hear ["row", "many_persons", "many_notices", "earliest"] [] := FunD.bindsN T.F_can_be_hear fun _ _ _ _ _ _ us hl => match us, hl with | [_, _, _, _], _ => rfl
theorem b_refuse_bad_hears (T : Tx K mg) : Binds K T.fd_refuse_bad_hears ["rules", "notices", "hears"] [] := FunD.bindsN T.F_refuse_bad_hears fun _ _ _ _ _ _ us hl => match us, hl with | [_, _, _], _ => rfl
theorem b_judged_course (T : Tx K mg) : Binds K T.fd_judged_course ["rules", "notices", "hears", "until"] [] := FunD.bindsN T.F_judged_course fun _ _ _ _ _ _ us hl => match us, hl with | [_, _, _, _], _ => rfl
theorem b_written (T : Tx K mg) : Binds K T.fd_written ["rules", "notices"] [] := FunD.bindsN T.F_written fun _ _ _ _ _ _ us hl => match us, hl with | [_, _], _ => rfl
theorem b_law_begun (T : Tx K mg) : Binds K T.fd__law_begun ["_law_script"] [] := FunD.bindsN T.F__law_begun fun _ _ _ _ _ _ us hl => match us, hl with | [_], _ => rfl
theorem b_law_take (T : Tx K mg) : Binds K T.fd__law_take ["_law_box", "_law_many"] [] := FunD.bindsN T.F__law_take fun _ _ _ _ _ _ us hl => match us, hl with | [_, _], _ => rfl
theorem b_law_alike (T : Tx K mg) : Binds K T.fd__law_alike ["_law_found", "_law_due"] [] := FunD.bindsN T.F__law_alike fun _ _ _ _ _ _ us hl => match us, hl with | [_, _], _ => rfl
theorem b_law_told (T : Tx K mg) : Binds K T.fd__law_told ["_law_work"] [] := FunD.bindsN T.F__law_told fun _ _ _ _ _ _ us hl => match us, hl with | [_], _ => rfl
theorem b_law_all (T : Tx K mg) : Binds K T.fd__law_all ["_law_works_here", "_law_due"] [] := FunD.bindsN T.F__law_all fun _ _ _ _ _ _ us hl => match us, hl with | [_, _], _ => rfl
theorem b_law_stretches (T : Tx K mg) : Binds K T.fd__law_stretches ["_law_box"] [] := FunD.bindsN T.F__law_stretches fun _ _ _ _ _ _ us hl => match us, hl with | [_], _ => rfl
theorem b_law_rule (T : Tx K mg) : Binds K T.fd__law_rule ["_law_box", "_law_many"] [] := FunD.bindsN T.F__law_rule fun _ _ _ _ _ _ us hl => match us, hl with | [_, _], _ => rfl
theorem b_law_rules (T : Tx K mg) : Binds K T.fd__law_rules ["_law_box"] [] := FunD.bindsN T.F__law_rules fun _ _ _ _ _ _ us hl => match us, hl with | [_], _ => rfl
theorem b_law_notices (T : Tx K mg) : Binds K T.fd__law_notices ["_law_box", "_law_rules_here", "_law_most"] [] := FunD.bindsN T.F__law_notices fun _ _ _ _ _ _ us hl => match us, hl with | [_, _, _], _ => rfl
theorem b_law_hears (T : Tx K mg) : Binds K T.fd__law_hears ["_law_box", "_law_rules_here", "_law_notices_here", "_law_most"] [] := FunD.bindsN T.F__law_hears fun _ _ _ _ _ _ us hl => match us, hl with | [_, _, _, _], _ => rfl
theorem b_law_odd (T : Tx K mg) : Binds K T.fd__law_odd ["_law_box", "_law_row", "_law_tops", "_law_ahead"] [] := FunD.bindsN T.F__law_odd fun _ _ _ _ _ _ us hl => match us, hl with | [_, _, _, _], _ => rfl
theorem b_law_works (T : Tx K mg) : Binds K T.fd__law_works ["_law_rules_here", "_law_some", "_law_heard", "_law_limit"] [] := FunD.bindsN T.F__law_works fun _ _ _ _ _ _ us hl => match us, hl with | [_, _, _, _], _ => rfl
theorem kb_walked_hu (T : Tx K mg) : ∃ mv : List Value, KBn K T.fd_walked ["rules", "notices", "hears", "until"] 2 ["hears", "until"] (fun us ws => us ++ ws) (fun us ws => us ++ ws) := FunD.kbinds0 T.F_walked 2 ["hears", "until"] [] (fun us mv ws => us ++ ws) (by simp) (by simp) (fun r1 r2 r3 => r1.append r3) fun D doc pm an cdv ct us mv ws h1 h2 h3 => match us, mv, ws, h1, h2, h3 with | [_, _], [], [_, _], _, _, _ => rfl
theorem kb_wheeled_uh (T : Tx K mg) : ∃ mv : List Value, KBn K T.fd_wheeled ["rules", "notices", "hears", "until"] 2 ["until", "hears"] (fun us ws => us ++ ws.reverse) (fun us ws => us ++ ws.reverse) := FunD.kbinds0 T.F_wheeled 2 ["until", "hears"] [] (fun us mv ws => us ++ ws.reverse) (by simp) (by simp) (fun r1 r2 r3 => r1.append (vals_rev r3)) fun D doc pm an cdv ct us mv ws h1 h2 h3 => match us, mv, ws, h1, h2, h3 with | [_, _], [], [_, _], _, _, _ => rfl
end
end Hn

set_option Elab.async false
set_option linter.all false
set_option maxRecDepth 100000
set_option maxHeartbeats 0
namespace Hn
open PySem PySem.Spec PyProof.Rows L2 Sy
abbrev s_BadRules_init : Stmt := inClass (top 2) 0
def cel_BadRules : CelD := ⟨"BadRules", "BadRules.__init__", defArgs s_BadRules_init, defBody s_BadRules_init, defScope s_BadRules_init⟩
abbrev s_BadNotices_init : Stmt := inClass (top 5) 0
def cel_BadNotices : CelD := ⟨"BadNotices", "BadNotices.__init__", defArgs s_BadNotices_init, defBody s_BadNotices_init, defScope s_BadNotices_init⟩
abbrev s_BadHears_init : Stmt := inClass (top 6) 0
def cel_BadHears : CelD := ⟨"BadHears", "BadHears.__init__", defArgs s_BadHears_init, defBody s_BadHears_init, defScope s_BadHears_init⟩
abbrev s_BadText_init : Stmt := inClass (top 11) 0
def cel_BadText : CelD := ⟨"BadText", "BadText.__init__", defArgs s_BadText_init, defBody s_BadText_init, defScope s_BadText_init⟩
def d_is_number : He.DefD := ⟨("is_number", none), "is_number", "is_number", defArgs s_is_number, defBody s_is_number, defScope s_is_number, [], []⟩
def d_is_whole : He.DefD := ⟨("is_whole", none), "is_whole", "is_whole", defArgs s_is_whole, defBody s_is_whole, defScope s_is_whole, [], []⟩
def d_is_tuple_of : He.DefD := ⟨("is_tuple_of", none), "is_tuple_of", "is_tuple_of", defArgs s_is_tuple_of, defBody s_is_tuple_of, defScope s_is_tuple_of, [], []⟩
def d_is_tuple_up_to : He.DefD := ⟨("is_tuple_up_to", none), "is_tuple_up_to", "is_tuple_up_to", defArgs s_is_tuple_up_to, defBody s_is_tuple_up_to, defScope s_is_tuple_up_to, [], []⟩
def d_is_stretch : He.DefD := ⟨("is_stretch", none), "is_stretch", "is_stretch", defArgs s_is_stretch, defBody s_is_stretch, defScope s_is_stretch, [], []⟩
def d_can_be_hushed : He.DefD := ⟨("can_be_hushed", none), "can_be_hushed", "can_be_hushed", defArgs s_can_be_hushed, defBody s_can_be_hushed, defScope s_can_be_hushed, [], []⟩
def d_can_be_gather : He.DefD := ⟨("can_be_gather", none), "can_be_gather", "can_be_gather", defArgs s_can_be_gather, defBody s_can_be_gather, defScope s_can_be_gather, [], []⟩
def d_first_bad_part : He.DefD := ⟨("first_bad_part", none), "first_bad_part", "first_bad_part", defArgs s_first_bad_part, defBody s_first_bad_part, defScope s_first_bad_part, [], []⟩
def d_refuse_bad_rules : He.DefD := ⟨("refuse_bad_rules", none), "refuse_bad_rules", "refuse_bad_rules", defArgs s_refuse_bad_rules, defBody s_refuse_bad_rules, defScope s_refuse_bad_rules, [], []⟩
def d_refuse_bad_moment : He.DefD := ⟨("refuse_bad_moment", none), "refuse_bad_moment", "refuse_bad_moment", defArgs s_refuse_bad_moment, defBody s_refuse_bad_moment, defScope s_refuse_bad_moment, [.int (1000000)], []⟩
def d_can_be_notice : He.DefD := ⟨("can_be_notice", none), "can_be_notice", "can_be_notice", defArgs s_can_be_notice, defBody s_can_be_notice, defScope s_can_be_notice, [], []⟩
def d_refuse_bad_notices : He.DefD := ⟨("refuse_bad_notices", none), "refuse_bad_notices", "refuse_bad_notices", defArgs s_refuse_bad_notices, defBody s_refuse_bad_notices, defScope s_refuse_bad_notices, [], []⟩
def d_can_be_hear : He.DefD := ⟨("can_be_hear", none), "can_be_hear", "can_be_hear", defArgs s_can_be_hear, defBody s_can_be_hear, defScope s_can_be_hear, [], []⟩
def d_refuse_bad_hears : He.DefD := ⟨("refuse_bad_hears", none), "refuse_bad_hears", "refuse_bad_hears", defArgs s_refuse_bad_hears, defBody s_refuse_bad_hears, defScope s_refuse_bad_hears, [], []⟩
def d_is_in_stretch : He.DefD := ⟨("is_in_stretch", none), "is_in_stretch", "is_in_stretch", defArgs s_is_in_stretch, defBody s_is_in_stretch, defScope s_is_in_stretch, [], []⟩
def d_hushed_hours : He.DefD := ⟨("hushed_hours", none), "hushed_hours", "hushed_hours", defArgs s_hushed_hours, defBody s_hushed_hours, defScope s_hushed_hours, [], []⟩
def d_first_free : He.DefD := ⟨("first_free", none), "first_free", "first_free", defArgs s_first_free, defBody s_first_free, defScope s_first_free, [], []⟩
def d_judged_course : He.DefD := ⟨("judged_course", none), "judged_course", "judged_course", defArgs s_judged_course, defBody s_judged_course, defScope s_judged_course, [], []⟩
def d_walked : He.DefD := ⟨("walked", none), "walked", "walked", defArgs s_walked, defBody s_walked, defScope s_walked, [], [("hears", .adr (kwAt "walked" "hears")), ("until", .int (600))]⟩
def d_wheeled : He.DefD := ⟨("wheeled", none), "wheeled", "wheeled", defArgs s_wheeled, defBody s_wheeled, defScope s_wheeled, [], [("hears", .adr (kwAt "wheeled" "hears")), ("until", .int (600))]⟩
def d_row_of : He.DefD := ⟨("row_of", none), "row_of", "row_of", defArgs s_row_of, defBody s_row_of, defScope s_row_of, [], []⟩
def d_written : He.DefD := ⟨("written", none), "written", "written", defArgs s_written, defBody s_written, defScope s_written, [], []⟩
def d_law_begun : He.DefD := ⟨("_law_begun", none), "_law_begun", "_law_begun", defArgs s_law_begun, defBody s_law_begun, defScope s_law_begun, [], []⟩
def d_law_take : He.DefD := ⟨("_law_take", none), "_law_take", "_law_take", defArgs s_law_take, defBody s_law_take, defScope s_law_take, [], []⟩
def d_law_alike : He.DefD := ⟨("_law_alike", none), "_law_alike", "_law_alike", defArgs s_law_alike, defBody s_law_alike, defScope s_law_alike, [], []⟩
def d_law_told : He.DefD := ⟨("_law_told", none), "_law_told", "_law_told", defArgs s_law_told, defBody s_law_told, defScope s_law_told, [], []⟩
def d_law_all : He.DefD := ⟨("_law_all", none), "_law_all", "_law_all", defArgs s_law_all, defBody s_law_all, defScope s_law_all, [], []⟩
def d_law_stretches : He.DefD := ⟨("_law_stretches", none), "_law_stretches", "_law_stretches", defArgs s_law_stretches, defBody s_law_stretches, defScope s_law_stretches, [], []⟩
def d_law_rule : He.DefD := ⟨("_law_rule", none), "_law_rule", "_law_rule", defArgs s_law_rule, defBody s_law_rule, defScope s_law_rule, [], []⟩
def d_law_rules : He.DefD := ⟨("_law_rules", none), "_law_rules", "_law_rules", defArgs s_law_rules, defBody s_law_rules, defScope s_law_rules, [], []⟩
def d_law_notices : He.DefD := ⟨("_law_notices", none), "_law_notices", "_law_notices", defArgs s_law_notices, defBody s_law_notices, defScope s_law_notices, [], []⟩
def d_law_hears : He.DefD := ⟨("_law_hears", none), "_law_hears", "_law_hears", defArgs s_law_hears, defBody s_law_hears, defScope s_law_hears, [], []⟩
def d_law_odd : He.DefD := ⟨("_law_odd", none), "_law_odd", "_law_odd", defArgs s_law_odd, defBody s_law_odd, defScope s_law_odd, [], []⟩
def d_law_works : He.DefD := ⟨("_law_works", none), "_law_works", "_law_works", defArgs s_law_works, defBody s_law_works, defScope s_law_works, [], []⟩
def d_law : He.DefD := ⟨("law", none), "law", "law", defArgs s_law, defBody s_law, defScope s_law, [], []⟩
def d_Person___init__ : He.DefD := ⟨("Person", some "__init__"), "__init__", "Person.__init__", defArgs s_Person___init__, defBody s_Person___init__, defScope s_Person___init__, [], []⟩
def d_Person_lets_by : He.DefD := ⟨("Person", some "lets_by"), "lets_by", "Person.lets_by", defArgs s_Person_lets_by, defBody s_Person_lets_by, defScope s_Person_lets_by, [], []⟩
def d_Notice___init__ : He.DefD := ⟨("Notice", some "__init__"), "__init__", "Notice.__init__", defArgs s_Notice___init__, defBody s_Notice___init__, defScope s_Notice___init__, [], []⟩
def d_Notice_fate : He.DefD := ⟨("Notice", some "fate"), "fate", "Notice.fate", defArgs s_Notice_fate, defBody s_Notice_fate, defScope s_Notice_fate, [], []⟩
def d_Course___init__ : He.DefD := ⟨("Course", some "__init__"), "__init__", "Course.__init__", defArgs s_Course___init__, defBody s_Course___init__, defScope s_Course___init__, [], []⟩
def d_Course_pass_moment : He.DefD := ⟨("Course", some "pass_moment"), "pass_moment", "Course.pass_moment", defArgs s_Course_pass_moment, defBody s_Course_pass_moment, defScope s_Course_pass_moment, [], []⟩
def d_Course_take_hears : He.DefD := ⟨("Course", some "take_hears"), "take_hears", "Course.take_hears", defArgs s_Course_take_hears, defBody s_Course_take_hears, defScope s_Course_take_hears, [], []⟩
def d_Course_shut_heaps : He.DefD := ⟨("Course", some "shut_heaps"), "shut_heaps", "Course.shut_heaps", defArgs s_Course_shut_heaps, defBody s_Course_shut_heaps, defScope s_Course_shut_heaps, [], []⟩
def d_Course_send_on : He.DefD := ⟨("Course", some "send_on"), "send_on", "Course.send_on", defArgs s_Course_send_on, defBody s_Course_send_on, defScope s_Course_send_on, [], []⟩
def d_Course_bring : He.DefD := ⟨("Course", some "bring"), "bring", "Course.bring", defArgs s_Course_bring, defBody s_Course_bring, defScope s_Course_bring, [], []⟩
def d_Course_tell_ready : He.DefD := ⟨("Course", some "tell_ready"), "tell_ready", "Course.tell_ready", defArgs s_Course_tell_ready, defBody s_Course_tell_ready, defScope s_Course_tell_ready, [], []⟩
def d_Course_tell : He.DefD := ⟨("Course", some "tell"), "tell", "Course.tell", defArgs s_Course_tell, defBody s_Course_tell, defScope s_Course_tell, [], []⟩
def d_Course_next_moment : He.DefD := ⟨("Course", some "next_moment"), "next_moment", "Course.next_moment", defArgs s_Course_next_moment, defBody s_Course_next_moment, defScope s_Course_next_moment, [], []⟩
def d_Course_outcome : He.DefD := ⟨("Course", some "outcome"), "outcome", "Course.outcome", defArgs s_Course_outcome, defBody s_Course_outcome, defScope s_Course_outcome, [], []⟩
def fn_0 : List He.DefD := [d_is_number, d_is_whole, d_is_tuple_of, d_is_tuple_up_to, d_is_stretch, d_can_be_hushed, d_can_be_gather, d_first_bad_part, d_refuse_bad_rules, d_refuse_bad_moment, d_can_be_notice, d_refuse_bad_notices, d_can_be_hear, d_refuse_bad_hears, d_is_in_stretch, d_hushed_hours, d_first_free, d_judged_course, d_walked, d_wheeled, d_row_of, d_written, d_law_begun, d_law_take, d_law_alike, d_law_told, d_law_all, d_law_stretches, d_law_rule, d_law_rules]
def fn_1 : List He.DefD := [d_law_notices, d_law_hears, d_law_odd, d_law_works, d_law, d_Person___init__, d_Person_lets_by, d_Notice___init__, d_Notice_fate, d_Course___init__, d_Course_pass_moment, d_Course_take_hears, d_Course_shut_heaps, d_Course_send_on, d_Course_bring, d_Course_tell_ready, d_Course_tell, d_Course_next_moment, d_Course_outcome]
def fn : List He.DefD := fn_0 ++ fn_1
def fa_0 : List He.Fa := [.glo "is_number", .glo "is_whole", .glo "is_tuple_of", .glo "is_tuple_up_to", .glo "is_stretch", .glo "can_be_hushed", .glo "can_be_gather", .glo "first_bad_part", .glo "refuse_bad_rules", .glo "refuse_bad_moment", .glo "can_be_notice", .glo "refuse_bad_notices", .glo "can_be_hear", .glo "refuse_bad_hears", .glo "is_in_stretch", .glo "hushed_hours", .glo "first_free", .glo "judged_course", .glo "walked", .glo "wheeled", .glo "row_of", .glo "written", .glo "_law_begun", .glo "_law_take", .glo "_law_alike", .glo "_law_told", .glo "_law_all", .glo "_law_stretches", .glo "_law_rule", .glo "_law_rules"]
def fa_1 : List He.Fa := [.glo "_law_notices", .glo "_law_hears", .glo "_law_odd", .glo "_law_works", .glo "law", .glo "NoticeError", .glo "BadRules", .glo "BadPerson", .glo "BadMoment", .glo "BadNotices", .glo "BadHears", .glo "BadDevice", .glo "BadBell", .glo "NotRinging", .glo "IsOff", .glo "BadText", .glo "Person", .glo "Notice", .glo "Course", .free "isinstance", .free "bool", .free "int", .free "tuple", .free "list", .free "len", .free "all", .free "any", .free "range", .free "min", .free "max"]
def fa_2 : List He.Fa := [.free "sum", .free "str", .free "sorted", .free "enumerate", .free "zip", .free "dict", .free "set", .free "ValueError", .exc "NoticeError", .exc "BadPerson", .exc "BadMoment", .exc "BadDevice", .exc "BadBell", .exc "NotRinging", .exc "IsOff", .int "MOST_PERSONS" (6), .int "MANY_PARTS" (5), .int "MOST_STRETCHES" (3), .int "LAST_HOUR" (23), .int "MOST_LEAST" (4), .int "MOST_GATHERED" (4), .int "LAST_KIND" (7), .int "MOST_SPAN" (12), .int "MOST_WAIT" (24), .int "LAST_MOMENT" (1000000), .int "MOST_NOTICES" (30), .int "LAST_RANK" (3), .int "LAST_BORN" (300), .int "MOST_HEARS" (60), .int "LAST_HEAR" (600)]
def fa_3 : List He.Fa := [.int "NO_PART" (-1), .int "DAY" (24), .int "MOST_UNTIL" (600), .str "PERSON" "person", .str "HUSH" "hush", .str "GATHER" "gather", .str "NOTICE" "notice", .str "NONE" "-", .keep "NoticeError", .keep "BadRules", .keep "BadPerson", .keep "BadMoment", .keep "BadNotices", .keep "BadHears", .keep "BadDevice", .keep "BadBell", .keep "NotRinging", .keep "IsOff", .keep "BadText", .keep "Person", .keep "Notice", .keep "Course", .exm "NoticeError" "NoticeError" true, .exm "BadRules" "NoticeError" true, .exm "BadPerson" "NoticeError" true, .exm "BadMoment" "NoticeError" true, .exm "BadNotices" "NoticeError" true, .exm "BadHears" "NoticeError" true, .exm "BadDevice" "NoticeError" true, .exm "BadBell" "NoticeError" true]
def fa_4 : List He.Fa := [.exm "NotRinging" "NoticeError" true, .exm "IsOff" "NoticeError" true, .exm "BadText" "NoticeError" true, .free "super", .noat "BadRules" "person", .noat "BadRules" "part", .noat "BadNotices" "number", .noat "BadHears" "number", .noat "BadText" "row", .cls "Person", .mkr "Person", .noat "Person" "hours", .noat "Person" "spans", .noat "Person" "least", .noat "Person" "wait", .noat "Person" "further", .meth "Person" "__init__", .meth "Person" "lets_by", .cls "Notice", .mkr "Notice", .noat "Notice" "number", .noat "Notice" "went", .noat "Notice" "told", .noat "Notice" "goes_on", .noat "Notice" "heard", .noat "Notice" "given_up", .noat "Notice" "first", .noat "Notice" "rank", .noat "Notice" "kind", .noat "Notice" "born"]
def fa_5 : List He.Fa := [.meth "Notice" "__init__", .meth "Notice" "fate", .cls "Course", .mkr "Course", .noat "Course" "persons", .noat "Course" "notices", .noat "Course" "hears", .noat "Course" "heaps", .noat "Course" "ready", .noat "Course" "rows", .meth "Course" "__init__", .meth "Course" "pass_moment", .meth "Course" "take_hears", .meth "Course" "shut_heaps", .meth "Course" "send_on", .meth "Course" "bring", .meth "Course" "tell_ready", .meth "Course" "tell", .meth "Course" "next_moment", .meth "Course" "outcome"]
def fa : List He.Fa := fa_0 ++ fa_1 ++ fa_2 ++ fa_3 ++ fa_4 ++ fa_5
def tf : List He.Defn := [("_law_works", none), ("law", none)]
def names_0 : List PySem.Str := ["NoticeError", "BadRules", "BadPerson", "BadMoment", "BadNotices", "BadHears", "BadDevice", "BadBell", "NotRinging", "IsOff", "BadText", "MOST_PERSONS", "MANY_PARTS", "MOST_STRETCHES", "LAST_HOUR", "MOST_LEAST", "MOST_GATHERED", "LAST_KIND", "MOST_SPAN", "MOST_WAIT", "LAST_MOMENT", "MOST_NOTICES", "LAST_RANK", "LAST_BORN", "MOST_HEARS", "LAST_HEAR", "NO_PART", "is_number", "is_whole", "is_tuple_of"]
def names_1 : List PySem.Str := ["is_tuple_up_to", "is_stretch", "can_be_hushed", "can_be_gather", "first_bad_part", "refuse_bad_rules", "refuse_bad_moment", "can_be_notice", "refuse_bad_notices", "can_be_hear", "refuse_bad_hears", "DAY", "is_in_stretch", "hushed_hours", "first_free", "Person", "Notice", "Course", "MOST_UNTIL", "judged_course", "walked", "wheeled", "PERSON", "HUSH", "GATHER", "NOTICE", "NONE", "row_of", "written", "_law_begun"]
def names_2 : List PySem.Str := ["_law_take", "_law_alike", "_law_told", "_law_all", "_law_stretches", "_law_rule", "_law_rules", "_law_notices", "_law_hears", "_law_odd", "_law_works"]
def names : List PySem.Str := names_0 ++ names_1 ++ names_2
def exOne (K : PySem.W.Frag) (X : Str) (L : List (Str × Bool)) : Bool := He.eqO (PySem.W.findIn K (.ref (He.ga K X)) "__getattribute__") (some (some (.builtin "BaseException.__getattribute__"))) && (He.eqO (PySem.W.findIn K (.ref (He.ga K X)) "__getattr__") (some none) &&
  (decide (PySem.W.subIn K (.ref (He.ga K X)) (.type "BaseException") = some true) && (PySem.W.hasDictIn K (He.ga K X) && (He.eqO (PySem.W.findIn K (.ref (He.ga K X)) "__class__") (some (some (.builtin "object.__class__"))) && (He.eqO (PySem.W.specialIn K (.builtin "object.__class__") "__get__") (some (some (.builtin "getset_descriptor.__get__"))) &&
  (decide (PySem.W.takesIn K (.builtin "object.__class__") = some true) && (decide (PySem.W.mroIn K (He.ga K X) (.type "object") = some true) && (decide (PySem.W.kitOne K (.ref (He.ga K X)) (.type "ValueError") = some true) && L.all fun q => decide (PySem.W.kitOne K (.ref (He.ga K X)) (.ref (He.ga K q.1)) = some q.2)))))))))
theorem exOne_ok {K : PySem.W.Frag} {X : Str} {L : List (Str × Bool)} (h : exOne K X L = true) : ExcC K (He.ga K X) ∧ PySem.W.kitOne K (.ref (He.ga K X)) (.type "ValueError") = some true ∧ ∀ q ∈ L, PySem.W.kitOne K (.ref (He.ga K X)) (.ref (He.ga K q.1)) = some q.2 := by
  obtain ⟨h1, h⟩ := He.ba h
  obtain ⟨h2, h⟩ := He.ba h
  obtain ⟨h3, h⟩ := He.ba h
  obtain ⟨h4, h⟩ := He.ba h
  obtain ⟨h5, h⟩ := He.ba h
  obtain ⟨h6, h⟩ := He.ba h
  obtain ⟨h7, h⟩ := He.ba h
  obtain ⟨h8, h⟩ := He.ba h
  obtain ⟨h9, h⟩ := He.ba h
  exact ⟨⟨He.eqO_ok h1, He.eqO_ok h2, of_decide_eq_true h3, h4, He.eqO_ok h5, He.eqO_ok h6, of_decide_eq_true h7, of_decide_eq_true h8⟩, of_decide_eq_true h9, fun q hq => of_decide_eq_true (List.all_eq_true.mp h q hq)⟩
def kin_BadNotices : List (Str × Bool) := [("BadBell", false), ("BadDevice", false), ("BadHears", false), ("BadMoment", false), ("BadNotices", true), ("BadPerson", false), ("BadRules", false), ("BadText", false), ("IsOff", false), ("NotRinging", false)]
def kin_BadHears : List (Str × Bool) := [("BadBell", false), ("BadDevice", false), ("BadHears", true), ("BadMoment", false), ("BadNotices", false), ("BadPerson", false), ("BadRules", false), ("BadText", false), ("IsOff", false), ("NotRinging", false)]
def kin_BadMoment : List (Str × Bool) := [("BadBell", false), ("BadDevice", false), ("BadHears", false), ("BadMoment", true), ("BadNotices", false), ("BadPerson", false), ("BadRules", false), ("BadText", false), ("IsOff", false), ("NotRinging", false)]
def exb (K : PySem.W.Frag) : Bool := exOne K "BadNotices" kin_BadNotices && exOne K "BadHears" kin_BadHears && exOne K "BadMoment" kin_BadMoment && emB K (kwAt "walked" "hears" K) && emB K (kwAt "wheeled" "hears" K) && Sy.supB K PySem.Challenge.rw_hushnotice_k03_notices_and_hears_refused.prog.main.file cel_BadRules && Sy.supB K PySem.Challenge.rw_hushnotice_k03_notices_and_hears_refused.prog.main.file cel_BadNotices && Sy.supB K PySem.Challenge.rw_hushnotice_k03_notices_and_hears_refused.prog.main.file cel_BadHears && Sy.supB K PySem.Challenge.rw_hushnotice_k03_notices_and_hears_refused.prog.main.file cel_BadText && decide ((He.cT K ("_law_works", none)).2 ≠ (He.cT K ("law", none)).2)
abbrev R : PySem.W.OpenRow := PySem.W.OpenLaw.row PySem.Challenge.rw_hushnotice_k03_notices_and_hears_refused
def cs : List Sy.CelD := [cel_BadRules, cel_BadNotices, cel_BadHears, cel_BadText]
abbrev hk : PySem.W.Hook := Sy.hookC 5 fa fn [] tf cs exb
def ob (s : PySem.W.SharedT) : Sy.AlC := Sy.obsC 5 fa fn [] tf cs exb (HandSHeadRun.getT s)
theorem ob_eq (s : PySem.W.SharedT) : ob s = hk.obs s.abs := Sy.obsC_eq (HandSHeadRun.getT_eq s)
theorem run (w : World) : HandSHeadRun.RunEq R (PySem.W.view R.prog [78]) hk ob 8000 names w := by
  intro os
  kernel_rfl
end Hn
set_option Elab.async false
set_option linter.all false
set_option maxRecDepth 100000
set_option maxHeartbeats 4000000
/-! a caught own exception that has fields: isinstance, e.f -/
namespace Sy
open PySem PySem.Spec PyProof.Rows L2
def rIsED (K : PySem.W.Frag) (D a dd : Addr) : List V → Hp → VK → Prop := fun xs H Q => ∃ (c : V) (cv : Value) (b : Bool), xs = [.ref a, c] ∧ (∀ u, RelV c u → u = cv) ∧ PySem.W.kitOne K (.ref D) cv = some b ∧ (∃ fs, H dd = some (.xd fs)) ∧ Q (.bl b) H
theorem inst_xd {X : Cx} {pins : List (Addr × Obj)} {σ : L2.St} {H : Hp} {s : Shared} {a D dd : Addr} {oe : Obj} {fs : List (Str × V)} (I : Inv X pins σ H s) (hp : (a, oe) ∈ X.pn ++ pins) (hz : Zc (.ref D) (some dd) oe) (hf : ∃ vs, oe.data = .fields vs) (e : H dd = some (.xd fs)) :
    ∃ od, PySem.W.InstAt s.heap a oe D (some od) := by
  obtain ⟨hget, _⟩ := I.pin (a, oe) hp
  obtain ⟨vs, hv⟩ := hf
  have hx : ObjOk X.prog X.w H s.heap dd (.xd fs) := I.hok dd _ e
  obtain ⟨mA, hns, hr⟩ := hx
  obtain ⟨od, ho, hl⟩ := lookIn_ns hns
  exact ⟨od, hget, hz.1, by unfold PySem.W.notCls; rw [hv] <;> rfl, by rw [hz.2]; exact ho⟩
theorem call_isED {X : Cx} {a D dd : Addr} {oe : Obj} {pn : List (Addr × Obj)} (C : ExcC X.K D) (hz : Zc (.ref D) (some dd) oe) (hf : ∃ vs, oe.data = .fields vs) : CallR (X.suite a ((a, oe) :: pn)) (.builtin "isinstance") (rIsED X.K D a dd) := by
  intro pins s σ H xs us Q I r h
  obtain ⟨c, cv, b, rfl, hcv, e, ⟨fs, hdd⟩, q⟩ := h
  cases r with
  | cons rx rr =>
    cases rr with
    | cons rt rr =>
      cases rr
      cases rx
      have ec := hcv _ rt
      subst ec
      obtain ⟨od, J⟩ := inst_xd I (List.mem_append.mpr (.inl List.mem_cons_self)) hz hf hdd
      obtain ⟨cdD, hcD, _⟩ := PySem.W.any_some C.hd
      exact PySem.W.kia_one (PySem.W.kitx_exc (by rw [hcD]; rfl) C.hg C.hk C.hs C.ha C.hn C.ht C.hm) I.kIn J e (fun z => nomatch z) fun tk => ⟨.bl b, H, I.kept (t' := tk) fun _ _ z => z, rfl, q⟩
def sIsED (K : PySem.W.Frag) (D a dd : Addr) : SRC := fun vs m S => match vs with
  | [.ref b, .ref C] => b = a ∧ (∃ fs, m dd = some (.xd fs)) ∧ ∃ k, PySem.W.kitOne K (.ref D) (.ref C) = some k ∧ S (.bl k) m
  | [.ref b, .ty n] => b = a ∧ (∃ fs, m dd = some (.xd fs)) ∧ ∃ k, PySem.W.kitOne K (.ref D) (.type n) = some k ∧ S (.bl k) m
  | _ => False
theorem sim_isED {K : PySem.W.Frag} {D a dd : Addr} : SimC K (rIsED K D a dd) (sIsED K D a dd) := fun F H m xs as S Q M rs h c => by
  unfold sIsED at h
  split at h
  · obtain ⟨rfl, ⟨fs, e⟩, k, hk, q⟩ := h
    obtain ⟨v, w, rfl, rv, rw_⟩ := vrs_two rs
    obtain rfl := vr_ref rv
    obtain rfl := vr_ref rw_
    obtain ⟨us, e2, _⟩ := (M.at_ dd _ e).2
    exact ⟨.ref _, .ref _, k, rfl, fun u e => e, hk, ⟨us, e2⟩, c _ F H _ m (.refl F) M (.bl _) q⟩
  · obtain ⟨rfl, ⟨fs, e⟩, k, hk, q⟩ := h
    obtain ⟨v, w, rfl, rv, rw_⟩ := vrs_two rs
    obtain rfl := vr_ref rv
    obtain rfl := vr_ty rw_
    obtain ⟨us, e2, _⟩ := (M.at_ dd _ e).2
    exact ⟨.ty _, .type _, k, rfl, fun u e => e, hk, ⟨us, e2⟩, c _ F H _ m (.refl F) M (.bl _) q⟩
  · exact h.elim
def sXf (a dd : Addr) (f : Str) (se : SE) : SE := fun SX δ m S => se SX δ m fun x m1 => x = .ref a ∧ ∃ fs v, m1 dd = some (.xd fs) ∧ fs.lookup f = some v ∧ S v m1
theorem xf_of {K : PySem.W.Frag} {C : Addr} (h : ExcC K C) : XfC K C := ⟨h.hg, h.hk, h.hs, h.hd⟩
theorem ge_xf {K : PySem.W.Frag} {E : XK} {X : Cx} {a C dd : Addr} {oe : Obj} {pn : List (Addr × Obj)} {e : Expr} {te : TE} {se : SE} {pos : Pos} {n : Str} (T : XfC X.K C) (hno : PySem.W.findIn X.K (.ref C) n = some none)
    (hz : Zc (.ref C) (some dd) oe) (hf : ∃ vs, oe.data = .fields vs) (he : GE K E (X.suite a ((a, oe) :: pn)) e te se) (hb : attributeBase e n X.env (eval e X.env) = eval e X.env := by rfl) :
    GE K E (X.suite a ((a, oe) :: pn)) (.Attribute e n pos) (tXf a (.ref C) (some dd) C n te) (sXf a dd n se) := by
  refine ⟨pe_xf T hno hz hf he.pe hb, fun σ F H δ m SX S Q r h c => ?_⟩
  refine he.sim σ F H δ m SX _ _ r h fun v F' H1 sv m1 s1 M1 v1 h1 => ?_
  obtain ⟨rfl, fs, x, e1, e2, q⟩ := h1
  obtain rfl := vr_ref v1
  obtain ⟨us, e3, kr⟩ := (M1.at_ dd _ e1).2
  obtain ⟨y, e4, ry⟩ := kr_look kr e2
  exact ⟨rfl, rfl, dd, us, y, rfl, e3, e4, c _ F' H1 _ m1 s1 M1 ry q⟩
end Sy

set_option Elab.async false
set_option linter.all false
set_option maxRecDepth 100000
set_option maxHeartbeats 4000000
/-! a tuple times an int -/
namespace Sy
open PySem PySem.Spec PyProof.Rows L2
def rRepT1 (K : PySem.W.Frag) : R2 := fun x y H Q => ∃ l xs, x = .ref l ∧ y = .int 1 ∧ SqT K H l xs ∧ Q (.ref l) H
def rRepTA (K : PySem.W.Frag) : R2 := fun x y H Q => rRepT K x y H Q ∨ rRepT1 K x y H Q
def sRepT : SR2 := fun x y m S => match x, y with
  | .tup xs, .int k => xs ≠ [] ∧ (1 ≤ k ∧ k ≤ 1000) ∧ xs.length ≤ 1000 ∧ S (.tup (List.replicate k.toNat xs).flatten) m
  | _, _ => False
end Sy

set_option Elab.async false
set_option linter.all false
set_option maxRecDepth 100000
set_option maxHeartbeats 4000000
/-! A call that needs tuples and lists alone: what else stands in the memory stays as it is (frame). -/
namespace Sy
open PySem PySem.Spec PyProof.Rows L2 LamX NdefX Lm
/-- a cell and its value -/
def CellO (v : V) (c : Addr) : HO := .ext fun h => ∃ u, RelV v u ∧ h.IsCell c (some u)
theorem cellO_ok {P : Program} {w : World} {H : Hp} {h : Heap} {c : Addr} {v : V} {u : Value} (r : RelV v u) (z : h.IsCell c (some u)) : ObjOk P w H h c (CellO v c) := by
  obtain ⟨o, ho, hd⟩ := z
  exact ⟨⟨u, r, o, ho, hd⟩, ⟨o, ho⟩, fun h1 h2 ⟨u, r, o, ho, hd⟩ st => ⟨u, r, o, st o ho, hd⟩⟩
theorem cellO_at {P : Program} {w : World} {H : Hp} {h : Heap} {c : Addr} {v : V} (x : HOk P w H h) (e : H c = some (CellO v c)) : ∃ u, RelV v u ∧ h.IsCell c (some u) := (x c _ e).1
def coreO : HO → Bool
  | .tup _ => true
  | .lst _ => true
  | .frz _ (.tup _) => true
  | .frz _ (.lst _) => true
  | _ => false
theorem core_ok {P : Program} {w : World} {H H' : Hp} {h : Heap} {a : Addr} {u : HO} (c : coreO u = true) (x : ObjOk P w H h a u) : ObjOk P w H' h a u := by
  cases u with
  | tup xs => exact x
  | lst xs => exact x
  | frz o v =>
    cases v with
    | tup xs => exact x
    | lst xs => exact x
    | _ => cases c
  | _ => cases c
theorem core_still {u : HO} (c : coreO u = true) (s : Still u) : ∃ xs, u = .tup xs := by
  cases u with
  | tup xs => exact ⟨_, rfl⟩
  | ext φ => cases c
  | own x => cases c
  | _ => exact (show False from s).elim
def lstM (m : Mem) : Mem := fun b => match m b with
  | some (.lst xs) => some (.lst xs)
  | _ => none
theorem lstM_some {m : Mem} {b : Addr} {o : MO} (h : lstM m b = some o) : ∃ xs, o = .lst xs ∧ m b = some (.lst xs) := by
  unfold lstM at h
  split at h
  · cases h
    exact ⟨_, rfl, by assumption⟩
  · cases h
theorem lstM_of {m : Mem} {b : Addr} {xs : List SV} (h : m b = some (.lst xs)) : lstM m b = some (.lst xs) := by
  unfold lstM
  rw [h]
def coF (F : Hp) : Hp := fun b => match F b with
  | some u => if coreO u then some u else none
  | none => none
theorem coF_some {F : Hp} {b : Addr} {u : HO} : coF F b = some u ↔ F b = some u ∧ coreO u = true := by
  unfold coF
  cases e : F b with
  | none => simp
  | some x =>
    show (if coreO x then some x else none) = some u ↔ _
    by_cases c : coreO x = true
    · rw [if_pos c]
      exact ⟨fun z => ⟨z, by cases z; exact c⟩, fun z => z.1⟩
    · rw [if_neg c]
      refine ⟨fun z => (nomatch z), fun z => ?_⟩
      obtain ⟨z1, z2⟩ := z
      cases z1
      exact absurd z2 c
def coH (F : Hp) (m : Mem) (H : Hp) : Hp := fun b => match H b with
  | some u => if coreO u && ((F b).isSome || (lstM m b).isSome) then some u else none
  | none => none
theorem coH_some {F H : Hp} {m : Mem} {b : Addr} {u : HO} : coH F m H b = some u ↔ H b = some u ∧ coreO u = true ∧ ((F b).isSome || (lstM m b).isSome) = true := by
  unfold coH
  cases e : H b with
  | none => simp
  | some x =>
    show (if coreO x && ((F b).isSome || (lstM m b).isSome) then some x else none) = some u ↔ _
    by_cases c : (coreO x && ((F b).isSome || (lstM m b).isSome)) = true
    · rw [if_pos c]
      rw [Bool.and_eq_true] at c
      refine ⟨fun z => ?_, fun z => z.1⟩
      cases z
      exact ⟨rfl, c.1, c.2⟩
    · rw [if_neg c]
      refine ⟨fun z => (nomatch z), fun z => ?_⟩
      obtain ⟨z1, z2, z3⟩ := z
      cases z1
      exact absurd (by rw [z2, z3]; rfl) c
theorem coH_none {F H : Hp} {m : Mem} {b : Addr} (h : H b = none) : coH F m H b = none := by
  unfold coH
  rw [h]
theorem sub_co (F : Hp) : Sub (coF F) F := fun b u e => (coF_some.mp e).1
theorem rd_co {F : Hp} {a : Addr} {u : HO} (c : coreO u = true) (c2 : ∀ o, coreO (.frz o u) = true) (r : L2.Rd F a u) : L2.Rd (coF F) a u := by
  rcases r with r | ⟨o, r⟩
  · exact .inl (coF_some.mpr ⟨r, c⟩)
  · exact .inr ⟨o, coF_some.mpr ⟨r, c2 o⟩⟩
mutual
theorem vr_co {K : PySem.W.Frag} {F : Hp} : ∀ {v : V} {d : SV}, VR K F v d → VR K (coF F) v d
  | _, _, .non => .non
  | _, _, .bl b => .bl b
  | _, _, .int i => .int i
  | _, _, .str x => .str x
  | _, _, .ty x => .ty x
  | _, _, .ref x => .ref x
  | _, _, .tup h r => .tup (h.elim (fun z => Or.inl (rd_co (u := .tup _) rfl (fun _ => rfl) z)) Or.inr) (vrs_co r)
  | _, _, .lst h r => .lst (h.elim (fun z => Or.inl (rd_co (u := .lst _) rfl (fun _ => rfl) z)) Or.inr) (vrs_co r)
  | _, _, .kt h => .kt (coF_some.mpr ⟨h, rfl⟩)
  | _, _, .ptup h d r => .ptup (coF_some.mpr ⟨h, rfl⟩) d (vrs_co r)
theorem vrs_co {K : PySem.W.Frag} {F : Hp} : ∀ {vs : List V} {ds : List SV}, VRs K F vs ds → VRs K (coF F) vs ds
  | _, _, .nil => .nil
  | _, _, .cons r t => .cons (vr_co r) (vrs_co t)
end
section
variable {K : PySem.W.Frag} {F H F' H' F1 H1 : Hp} {m m' m1 : Mem} {a : Addr}
theorem mr_co (M : MR K F H m) : MR K (coF F) (coH F m H) (lstM m) where
  sub := fun b u e => by
    obtain ⟨z1, z2⟩ := coF_some.mp e
    exact coH_some.mpr ⟨M.sub b u z1, z2, by rw [z1]; rfl⟩
  at_ := fun b o e => by
    obtain ⟨xs, rfl, hm⟩ := lstM_some e
    obtain ⟨z1, vs, z2, z3⟩ := M.at_ b _ hm
    refine ⟨(sub_co F).gone z1, vs, coH_some.mpr ⟨z2, rfl, by rw [e]; simp⟩, vrs_co z3⟩
/-- what a thing's description leans on -/
theorem mor_keep3 (sF : Sub F F') (ha : ∀ u, H a = some u → H' a = some u) (st : ∀ b u, H b = some u → Still u → H' b = some u) (hF : ∀ b x, H b = some (.own x) → F b = none → F' b = none)
    (hm : ∀ b x, H b = some (.own x) → m b = none → m' b = none) : ∀ {o : MO}, MOR K F H m a o → MOR K F' H' m' a o := fun {o} h => by
  cases o with
  | lst xs => obtain ⟨vs, h1, h2⟩ := h; exact ⟨vs, ha _ h1, vrs_sub sF h2⟩
  | dK xs => obtain ⟨vs, h1, h2⟩ := h; exact ⟨vs, ha _ h1, kr_sub sF h2⟩
  | dT xs => obtain ⟨vs, h1, h2⟩ := h; exact ⟨vs, ha _ h1, kr_sub sF h2⟩
  | xd xs => obtain ⟨vs, h1, h2⟩ := h; exact ⟨vs, ha _ h1, kr_sub sF h2⟩
  | ins C fs =>
    obtain ⟨dx, us, h1, h2, h3, h4, h5⟩ := h
    exact ⟨dx, us, ha _ h1, st _ _ h2 trivial, hF _ _ h2 h3, hm _ _ h2 h4, kr_sub sF h5⟩
  | box c => obtain ⟨sv, h1⟩ := h; exact ⟨sv, ha _ h1⟩
  | bxi => obtain ⟨ns, h1, h2⟩ := h; exact ⟨ns, ha _ h1, h2⟩
  | tab nm =>
    obtain ⟨ps, h1, h2, h3⟩ := h
    refine ⟨ps, ha _ h1, h2, fun pos cv hc => ?_⟩
    obtain ⟨c, e1, e2⟩ := h3 pos cv hc
    exact ⟨c, e1, st _ _ e2 trivial⟩
  | lam mk e d =>
    obtain ⟨c, dV, h1, h2, h3, h4⟩ := h
    refine ⟨c, dV, ha _ h1, st _ _ h2 trivial, h3, ?_⟩
    cases d with
    | none => exact h4
    | some i =>
      obtain ⟨T, e1, e2⟩ := h4
      exact ⟨T, e1, st _ _ e2 trivial⟩
  | pred ψ =>
    obtain ⟨⟨u, h1, h2⟩, h3⟩ := h
    exact ⟨⟨u, ha _ h1, h2⟩, fun F2 H2 s2 k2 => h3 F2 H2 (sF.trans s2) fun b u' e1 e2 => k2 b u' (st b u' e1 e2) e2⟩
  | raw u => exact ⟨ha _ h.1, h.2⟩
  | lk u kvs =>
    obtain ⟨h1, od, us, h2, h3⟩ := h
    exact ⟨ha _ h1, od, us, h2, kr_sub sF h3⟩
end
/-! ### back again -/
def mgH (H H0 H1 : Hp) : Hp := fun b => match H0 b with
  | some _ => H1 b
  | none => match H b with
    | some o => some o
    | none => H1 b
def mgF (F F1 : Hp) : Hp := fun b => match F b with
  | some o => some o
  | none => F1 b
def mgM (m m1 : Mem) : Mem := fun b => match m b with
  | some (.lst _) => m1 b
  | some o => some o
  | none => m1 b
theorem mgM_lst {m m1 : Mem} {b : Addr} {xs : List SV} (h : m b = some (.lst xs)) : mgM m m1 b = m1 b := by
  unfold mgM
  rw [h]
theorem mgM_none {m m1 : Mem} {b : Addr} (h : m b = none) : mgM m m1 b = m1 b := by
  unfold mgM
  rw [h]
theorem mgM_oth {m m1 : Mem} {b : Addr} {o : MO} (h : m b = some o) (n : ∀ xs, o ≠ .lst xs) : mgM m m1 b = some o := by
  unfold mgM
  rw [h]
  cases o with
  | lst xs => exact absurd rfl (n xs)
  | _ => rfl
theorem le_mg {m m1 : Mem} (l : Le (lstM m) m1) : Le m (mgM m m1) := fun b o e => by
  cases o with
  | lst xs =>
    rw [mgM_lst e]
    exact l b _ (lstM_of e)
  | _ => exact mgM_oth e fun _ z => nomatch z
structure Gd (H H0 H1 : Hp) : Prop where
  free : ∀ b o, H b = some o → H0 b = none → H1 b = none
  tup : ∀ b xs, H0 b = some (.tup xs) → H1 b = some (.tup xs)
section
variable {K : PySem.W.Frag} {F H F1 H1 : Hp} {m m1 : Mem} {a : Addr}
theorem mg_out {H0 : Hp} {b : Addr} {u : HO} (h : H b = some u) (n : H0 b = none) : mgH H H0 H1 b = some u := by
  unfold mgH
  rw [n, h]
theorem mg_in {H0 : Hp} {b : Addr} {u : HO} (h : H0 b = some u) : mgH H H0 H1 b = H1 b := by
  unfold mgH
  rw [h]
theorem mg_fresh {H0 : Hp} {b : Addr} (h : H b = none) (n : H0 b = none) : mgH H H0 H1 b = H1 b := by
  unfold mgH
  rw [n, h]
theorem mg_of {H0 : Hp} (G : Gd H H0 H1) {b : Addr} {u : HO} (h : H1 b = some u) : mgH H H0 H1 b = some u := by
  cases e : H0 b with
  | some x => rw [mg_in e, h]
  | none =>
    cases e2 : H b with
    | none => rw [mg_fresh e2 e, h]
    | some o =>
      have z := G.free b o e2 e
      rw [h] at z
      cases z
theorem mg_still (G : Gd H (coH F m H) H1) {b : Addr} {u : HO} (h : H b = some u) (s : Still u) : mgH H (coH F m H) H1 b = some u := by
  cases e : coH F m H b with
  | none => exact mg_out h e
  | some x =>
    obtain ⟨z1, z2, _⟩ := coH_some.mp e
    rw [h] at z1
    cases z1
    obtain ⟨xs, rfl⟩ := core_still z2 s
    rw [mg_in e]
    exact G.tup b xs e
theorem mgF_some {b : Addr} {o : HO} (h : F b = some o) : mgF F F1 b = some o := by
  unfold mgF
  rw [h]
theorem mgF_none {b : Addr} (h : F b = none) : mgF F F1 b = F1 b := by
  unfold mgF
  rw [h]
theorem mr_mg (M : MR K F H m) (M1 : MR K F1 H1 m1) (sF : Sub (coF F) F1) (G : Gd H (coH F m H) H1) : MR K (mgF F F1) (mgH H (coH F m H) H1) (mgM m m1) ∧ Sub F (mgF F F1) ∧ Sub F1 (mgF F F1) ∧
    (∀ b, F1 b = none → (∃ u, H1 b = some u) → mgF F F1 b = none) ∧ (∀ b, m1 b = none → (∃ u, H1 b = some u) → mgM m m1 b = none) := by
  have out : ∀ b u, H b = some u → (F b = none ∨ coreO u = false) → lstM m b = none → coH F m H b = none := fun b u h1 h2 h3 => by
    cases e : coH F m H b with
    | none => rfl
    | some x =>
      obtain ⟨z1, z2, z3⟩ := coH_some.mp e
      rw [h1] at z1
      cases z1
      rcases h2 with h2 | h2
      · rw [h2, h3] at z3; cases z3
      · rw [h2] at z2; cases z2
  have nl : ∀ b u, F b = some u → lstM m b = none := fun b u h => by
    cases e : lstM m b with
    | none => rfl
    | some o =>
      obtain ⟨xs, _, hm⟩ := lstM_some e
      have := (M.at_ b _ hm).1
      rw [h] at this; cases this
  have both : ∀ b x, F b = some x → ∀ y, H1 b = some y → F1 b = some x := fun b x h1 y h2 => by
    cases c : coreO x with
    | true => exact sF b x (coF_some.mpr ⟨h1, c⟩)
    | false =>
      have z := G.free b x (M.sub b x h1) (out b x (M.sub b x h1) (.inr c) (nl b x h1))
      rw [h2] at z; cases z
  have s2 : Sub F (mgF F F1) := fun b o h => mgF_some h
  have s3 : Sub F1 (mgF F F1) := fun b o h => by
    cases e : F b with
    | none => rw [mgF_none e]; exact h
    | some x =>
      have z := both b x e o (M1.sub b o h)
      rw [h] at z
      cases z
      exact mgF_some e
  have fz : ∀ b, F1 b = none → (∃ u, H1 b = some u) → mgF F F1 b = none := fun b h ⟨u, hu⟩ => by
    cases e : F b with
    | none => rw [mgF_none e]; exact h
    | some x =>
      have z := both b x e u hu
      rw [h] at z; cases z
  have oth : ∀ b o, m b = some o → (∀ xs, o ≠ .lst xs) → coH F m H b = none := fun b o h n => by
    obtain ⟨u, hu⟩ := M.have_ h
    refine out b u hu (.inl (M.at_ b o h).1) ?_
    cases e : lstM m b with
    | none => rfl
    | some y =>
      obtain ⟨xs, _, hm⟩ := lstM_some e
      rw [h] at hm
      cases hm
      exact absurd rfl (n xs)
  have mz : ∀ b, m1 b = none → (∃ u, H1 b = some u) → mgM m m1 b = none := fun b h ⟨u, hu⟩ => by
    cases e : m b with
    | none => rw [mgM_none e]; exact h
    | some o =>
      cases o with
      | lst xs => rw [mgM_lst e]; exact h
      | _ =>
        exfalso
        obtain ⟨v, hv⟩ := M.have_ e
        have z := G.free b v hv (oth b _ e fun _ z => nomatch z)
        rw [hu] at z; cases z
  have new : ∀ b o, mgM m m1 b = m1 b → mgM m m1 b = some o → mgF F F1 b = none ∧ MOR K (mgF F F1) (mgH H (coH F m H) H1) (mgM m m1) b o := fun b o e h => by
    rw [e] at h
    obtain ⟨z1, z2⟩ := M1.at_ b o h
    exact ⟨fz b z1 (mor_some z2), mor_keep3 s3 (fun u hu => mg_of G hu) (fun b u hu _ => mg_of G hu) (fun b x hx hb => fz b hb ⟨_, hx⟩) (fun b x hx hb => mz b hb ⟨_, hx⟩) z2⟩
  have old : ∀ b o, m b = some o → (∀ xs, o ≠ .lst xs) → mgF F F1 b = none ∧ MOR K (mgF F F1) (mgH H (coH F m H) H1) (mgM m m1) b o := fun b o h n => by
    have c := oth b o h n
    obtain ⟨z1, z2⟩ := M.at_ b o h
    obtain ⟨u, hu⟩ := M.have_ h
    have e1 : H1 b = none := G.free b u hu c
    have ownNo : ∀ b x, H b = some (.own x) → coH F m H b = none := fun b x hx => by
      cases e : coH F m H b with
      | none => rfl
      | some y =>
        obtain ⟨q1, q2, _⟩ := coH_some.mp e
        rw [hx] at q1; cases q1; cases q2
    refine ⟨by rw [mgF_none z1]; exact M1.sub.gone e1, mor_keep3 s2 (fun v hv => mg_out hv c) (fun b' v hv s => mg_still G hv s) (fun b' x hx hb => ?_) (fun b' x hx hb => ?_) z2⟩
    · rw [mgF_none hb]
      exact M1.sub.gone (G.free b' _ hx (ownNo b' x hx))
    · rw [mgM_none hb]
      exact M1.gone (G.free b' _ hx (ownNo b' x hx))
  refine ⟨⟨fun b o h => ?_, fun b o h => ?_⟩, s2, s3, fz, mz⟩
  · cases e : F b with
    | none =>
      rw [mgF_none e] at h
      exact mg_of G (M1.sub b o h)
    | some x =>
      rw [mgF_some e] at h
      cases h
      cases c : coH F m H b with
      | none => exact mg_out (M.sub b o e) c
      | some y =>
        obtain ⟨q1, q2, _⟩ := coH_some.mp c
        rw [M.sub b o e] at q1
        cases q1
        exact mg_of G (M1.sub b o (sF b o (coF_some.mpr ⟨e, q2⟩)))
  · cases e : m b with
    | none => exact new b o (mgM_none e) h
    | some y =>
      by_cases n : ∃ xs, y = .lst xs
      · obtain ⟨xs, rfl⟩ := n
        exact new b o (mgM_lst e) h
      · have n : ∀ xs, y ≠ .lst xs := fun xs z => n ⟨xs, z⟩
        rw [mgM_oth e n] at h
        cases h
        exact old b _ e n
end
/-! ### the heap -/
section
variable {P : Program} {w : World} {F H H1 : Hp} {m : Mem} {h h' : Heap} {fs : List Addr}
theorem objOk_get {a : Addr} {o : HO} (x : ObjOk P w H h a o) : ∃ ob, h.get? a = some ob := by
  cases e : h.get? a with
  | some ob => exact ⟨ob, rfl⟩
  | none =>
    exfalso
    have z := ObjOk.lt (h := h) x
    induction o with
    | lst xs => obtain ⟨_, _, _, _, q⟩ := x; rw [e] at q; cases q
    | tup xs => obtain ⟨_, _, _, _, q, _⟩ := x; rw [e] at q; cases q
    | dK kvs => obtain ⟨_, _, _, _, _, _, _, q, _⟩ := x; rw [e] at q; cases q
    | dT kvs => obtain ⟨_, _, _, _, _, _, _, q, _⟩ := x; rw [e] at q; cases q
    | set S n => obtain ⟨_, _, _, _, q, _⟩ := x; rw [e] at q; cases q
    | ins C dx fs => obtain ⟨_, _, _, q, _⟩ := x; rw [e] at q; cases q
    | own y => obtain ⟨_, q⟩ := x; rw [e] at q; cases q
    | xd fs => obtain ⟨_, ⟨_, _, _, q, _⟩, _⟩ := x; rw [e] at q; cases q
    | rng lo hi => obtain ⟨_, _, _, q⟩ := x; rw [e] at q; cases q
    | frz ob u _ => obtain ⟨q, _⟩ := x; rw [e] at q; cases q
    | tbl ps => have q : h.get? a = some _ := x; rw [e] at q; cases q
    | met f y => have q : h.get? a = some _ := x; rw [e] at q; cases q
    | ext φ => obtain ⟨_, ⟨_, q⟩, _⟩ := x; rw [e] at q; cases q
theorem hok_co (x : HOk P w H h) : HOk P w (coH F m H) h := fun a o e => by
  obtain ⟨z1, z2, _⟩ := coH_some.mp e
  exact core_ok z2 (x a o z1)
theorem hok_mg (x : HOk P w H h) (y : HOk P w H1 h') (G : Gd H (coH F m H) H1) (keep : ∀ b o u, h.get? b = some o → H b = some u → coH F m H b = none → h'.get? b = some o) : HOk P w (mgH H (coH F m H) H1) h' := fun a o e => by
  have new : H1 a = some o → ObjOk P w (mgH H (coH F m H) H1) h' a o := fun e => (y a o e).stay (fun _ _ _ q => q) (fun b hb => mg_of G hb) (fun b xs hb => mg_of G hb)
  cases c : coH F m H a with
  | some z =>
    rw [mg_in c] at e
    exact new e
  | none =>
    cases d : H a with
    | none =>
      rw [mg_fresh d c] at e
      exact new e
    | some u =>
      rw [mg_out d c] at e
      cases e
      refine (x a o d).stay (fun b v hb q => ?_) (fun b hb => mg_still G hb trivial) (fun b xs hb => mg_still G hb trivial)
      rcases hb with rfl | hb
      · exact keep _ _ _ q d c
      · refine keep _ _ _ q hb ?_
        cases e : coH F m H b with
        | none => rfl
        | some z =>
          obtain ⟨q1, q2, _⟩ := coH_some.mp e
          rw [hb] at q1; cases q1; cases q2
theorem un_gd (x : HOk P w H h) (u : Un fs [] (coH F m H) H1 h h') : Gd H (coH F m H) H1 := ⟨fun b o e c => by
  obtain ⟨ob, hb⟩ := objOk_get (x b o e)
  exact u.free b ob hb c List.not_mem_nil, u.tups⟩
theorem un_mg (x : HOk P w H h) (u : Un fs [] (coH F m H) H1 h h') : Un fs [] H (mgH H (coH F m H) H1) h h' where
  keep := fun b o q n hb hx => u.keep b o q (coH_none n) hb hx
  slot := fun b o q n hb hx => u.slot b o q (coH_none n) hb hx
  free := fun b o q n hx => by rw [mg_fresh n (coH_none n)]; exact u.free b o q (coH_none n) hx
  there := u.there
  tups := fun b xs e => mg_still (un_gd x u) e trivial
  frzs := fun b o v e => by
    cases c : coH F m H b with
    | none => exact mg_out e c
    | some z =>
      obtain ⟨q1, q2, _⟩ := coH_some.mp c
      rw [e] at q1; cases q1
      rw [mg_in c]
      exact u.frzs b o v c
  tbls := fun b ps e => by
    cases c : coH F m H b with
    | none => exact ⟨#[], by rw [mg_out e c]; simp⟩
    | some z =>
      obtain ⟨q1, q2, _⟩ := coH_some.mp c
      rw [e] at q1; cases q1; cases q2
theorem ub_gd {B : Heap} (x : HOk P w H h) (u : UB fs (coH F m H) H1 h B h') : Gd H (coH F m H) H1 := ⟨fun b o e c => by
  obtain ⟨ob, hb⟩ := objOk_get (x b o e)
  exact u.free b ob hb c, u.tups⟩
theorem ub_mg {B : Heap} (x : HOk P w H h) (u : UB fs (coH F m H) H1 h B h') : UB fs H (mgH H (coH F m H) H1) h B h' where
  keep := fun b o q n hb => u.keep b o q (coH_none n) hb
  slot := fun b o q hb => u.slot b o q hb
  free := fun b o q n => by rw [mg_fresh n (coH_none n)]; exact u.free b o q (coH_none n)
  there := u.there
  tups := fun b xs e => mg_still (ub_gd x u) e trivial
  frzs := fun b o v e => by
    cases c : coH F m H b with
    | none => exact mg_out e c
    | some z =>
      obtain ⟨q1, q2, _⟩ := coH_some.mp c
      rw [e] at q1; cases q1
      rw [mg_in c]
      exact u.frzs b o v c
  tbls := fun b ps e => by
    cases c : coH F m H b with
    | none => exact ⟨#[], by rw [mg_out e c]; simp⟩
    | some z =>
      obtain ⟨q1, q2, _⟩ := coH_some.mp c
      rw [e] at q1; cases q1; cases q2
end
/-- a call, framed -/
theorem act_frame {P : Program} {w : World} {K : PySem.W.Frag} {mg : Str → Option Value} {base : Heap} {A : Around} {outer : List Env} {s : Shared} {F H : Hp} {m : Mem} {E : XK} {SX : SXK} {S : SV → Mem → Prop} {Q : VK} {c : Code} (M : MR K F H m) (e0 : Env0 P w K mg base A outer s H) (hE : ExOk K F E SX) (cQ : Cn K F S Q)
    (inner : ∀ (Q0 : VK) (E0 : XK), Env0 P w K mg base A outer s (coH F m H) → MR K (coF F) (coH F m H) (lstM m) → ExOk K (coF F) E0 (fun x m1 => SX x (mgM m m1)) → Cn K (coF F) (fun v m1 => S v (mgM m m1)) Q0 → codeAny (model P w) A c (CR (L2.CX P w) outer P w (coH F m H) s Q0 E0) s) :
    codeAny (model P w) A c (CR (L2.CX P w) outer P w H s Q E) s := by
  refine codeAny_mono (inner (fun v H1 => Gd H (coH F m H) H1 → Q v (mgH H (coH F m H) H1)) (fun cls d H1 => Gd H (coH F m H) H1 → E cls d (mgH H (coH F m H) H1)) ⟨e0.frames, e0.mod, fun b o q => ⟨(e0.bs b o q).1, coH_none (e0.bs b o q).2⟩, e0.bsz, e0.funs, fun b hb => coH_none (e0.frf b hb), hok_co e0.hok, e0.bare⟩ (mr_co M) ?_ ?_) fun r s' hq => ?_
  · intro x d F1 H1 m1 sF M1 hx hS G
    obtain ⟨M2, s2, s3, fz, mz⟩ := mr_mg M M1 sF G
    refine hE x d _ _ _ s2 M2 ?_ hS
    unfold XOk at hx ⊢
    cases ef : x.fs with
    | none => rw [ef] at hx; exact hx
    | some fs =>
      rw [ef] at hx
      obtain ⟨dd, us, h1, h2, h3, h4, h5⟩ := hx
      exact ⟨dd, us, h1, mg_of G h2, fz dd h3 ⟨_, h2⟩, mz dd h4 ⟨_, h2⟩, kr_sub s3 h5⟩
  · intro v F1 H1 sv m1 sF M1 rv hS G
    obtain ⟨M2, s2, s3, fz, mz⟩ := mr_mg M M1 sF G
    exact cQ v _ _ sv _ s2 M2 (vr_sub s3 rv) hS
  · have frf : ∀ b u, H b = some u → b ∉ frs outer := fun b u hb hm => by
      have z := e0.frf b hm
      rw [hb] at z; cases z
    cases r with
    | ok f =>
      cases f with
      | ret u =>
        obtain ⟨v, H1, q1, q2, q3, q4, q5, q6⟩ := hq
        have G := un_gd e0.hok q3
        exact ⟨v, _, q1, q2, un_mg e0.hok q3, hok_mg e0.hok q4 G fun b o u hb hu hc => q3.keep b o hb hc (frf b u hu) List.not_mem_nil, q5, q6 G⟩
      | next => exact hq
      | brk => exact hq
      | cont => exact hq
    | error e =>
      obtain ⟨a, B, H1, cls, d, q1, q2, q3, q4, q5, q6, q7, q8⟩ := hq
      have G := ub_gd e0.hok q4
      refine ⟨a, B, _, cls, d, q1, q2, hok_mg e0.hok q3 G fun b o u hb hu hc => q4.keep b o hb hc (frf b u hu), ub_mg e0.hok q4, ?_, q6, q7, q8 G⟩
      cases c : coH F m H a with
      | some z => rw [mg_in c]; exact q5
      | none =>
        cases z : H a with
        | none => rw [mg_fresh z c]; exact q5
        | some u =>
          exfalso
          obtain ⟨ob, hb⟩ := objOk_get (e0.hok a u z)
          obtain ⟨o', ho'⟩ := q4.there a ob hb (frf a u z)
          have z2 : B.get? a = none := q2.2.1
          rw [ho'] at z2; cases z2
end Sy

set_option Elab.async false
set_option linter.all false
set_option maxRecDepth 100000
set_option maxHeartbeats 400000
/-! A lambda that leaves its def: its cells are told of as things of their own. -/
namespace Sy
open PySem PySem.Spec PyProof.Rows L2 LamX NdefX Lm
section
variable {CX : CXT} {P : Program} {w : World} {K : PySem.W.Frag} {mg : Str → Option Value} {base : Heap} {N ps fr : List Str} {F : NF} {e : Expr} {dV : Value} {f : Addr} {k : Nat} {tb : TE}
/-- a lambda's call; what is known of its objects is known of Hx -/
theorem lok2 {vs : List V} {ws : List (Option V)} {A : Around} {outer : List Env} {s : Shared} {H Hx : Hp} {Q : VK} {E : XK} (S : NScope N ps fr F.scope) (hl : vs.length = ps.length)
    (hb : ∀ (doc pm ctv : Value), ∃ us, Vals vs us ∧ BindsTo s (lfd F e dV doc pm ctv) ⟨[], []⟩ (ps.zip us)) (hr : Room (k + 1) A) (e0 : Env0 P w K mg base A outer s H) (hx : HOk P w Hx s.heap) (hf : Hx f = some (LamO f F e dV)) (hc : Hx F.c = some (CodeO F.c F.qual)) (C : CellsAt F.cl fr ws s.heap H)
    (ht : PE (ncx CX P w K mg base N F f A outer s H E) e tb) (hq : tb (startF N vs ws) H Q) : codeAny (model P w) A (.call (.ref f) ⟨[], []⟩) (CR CX outer P w H s Q E) s := by
  obtain ⟨od, sl, doc, pm, ctv, at_f⟩ := lamO_at hx hf; obtain ⟨us, rus, binds⟩ := hb doc pm ctv
  refine PySem.W.kla_callFunE hr.depth at_f rfl S.co S.gen rfl (codeO_at hx hc) (binds _ _ _ _ (wpAny_newFunctionEnv S.nocell (fun ⟨n, _⟩ hy => S.par n (List.of_mem_zip hy).1) (fun hp ns_hp same => ⟨(e0.mod.nolimit.keeps fun b o q => (e0.bs b o q).1).fresh _ same, ?_⟩) S.kind))
  show codeAny _ _ (.expr e (envF F f s.heap.objs.size)) _ _
  have J : Inv (ncx CX P w K mg base N F f A outer s H E) [] (startF N vs ws) H { s with heap := hp, toks := s.toks + (ps.zip us).length } := inv_startN S hr.hd e0 hl rus C ns_hp fun b o q => same.extBut b o (Nat.ne_of_lt (Heap.lt_size q)) (Heap.get?_push_of_some _ q)
  refine PySem.W.kla_codeExpr (wpAny_mono (ht.run [] _ (startF N vs ws) H Q J hq) (fun u s2 z => ?_) fun _ _ z => z)
  obtain ⟨v, H2, J2, rv, qv⟩ := z
  exact ⟨v, H2, J2.os, J2.bare, J2.base, J2.hok, rv, qv⟩
end
/-- a lambda that left its def -/
def EscC (P : Program) (w : World) (K : PySem.W.Frag) (mg : Str → Option Value) (k : Nat) (f : Addr) (φ : Phi) : Hp → Hp → Prop := fun F H => ∀ base, ActC P w K mg base k f φ F H
theorem wr_co {K : PySem.W.Frag} {F : Hp} {ws : List (Option V)} {ds : List (Option SV)} (h : WR K F ws ds) : WR K (coF F) ws ds := ⟨h.1, fun i d e => by
  obtain ⟨v, h1, h2⟩ := h.2 i d e
  exact ⟨v, h1, vr_co h2⟩⟩
section
variable {P : Program} {w : World} {K : PySem.W.Frag} {mg : Str → Option Value} {base : Heap} {k : Nat} {f c : Addr} {e : Expr} {N ps fr : List Str} {φ : Phi} {ds : List (Option SV)} {ws : List (Option V)} {F H : Hp}
theorem esc_core {dV : Value} {vs : List V} {svs : List SV} {F0 : NF} (S : NScope N ps fr F0.scope) (hlen : vs.length = ps.length) (hvs : ∀ F, VRs K F vs svs) (Z : Hp → Prop)
    (hb : ∀ (doc pm ctv : Value) (s : Shared) (H : Hp), HOk P w H s.heap → Z H → ∃ us, Vals vs us ∧ BindsTo s (lfd F0 e dV doc pm ctv) ⟨[], []⟩ (ps.zip us))
    (len : ws.length = fr.length) (inj : ∀ x y c, F0.cl.lookup x = some c → F0.cl.lookup y = some c → x = y) (all : ∀ y c, F0.cl.lookup y = some c → ∃ v, H c = some (CellO v c))
    (has : ∀ (i : Nat) (y : Str), fr[i]? = some y → ∃ c v, F0.cl.lookup y = some c ∧ ws[i]? = some (some v) ∧ H c = some (CellO v c))
    (hw : WR K F ws ds) (hf : H f = some (LamO f F0 e dV)) (hc : H F0.c = some (CodeO F0.c F0.qual)) (hZ : Z H)
    (st : ∀ m SX S, φ m SX S → φ (lstM m) (fun x m1 => SX x (mgM m m1)) (fun v m1 => S v (mgM m m1)))
    (hbody : ∀ (A : Around) (outer : List Env) (s : Shared) (H : Hp) (E : XK), Room k (A.deeper (envF F0 f s.heap.objs.size)) → ∃ tb sb, GE K E (ncx (L2.CX P w) P w K mg base N F0 f A outer s H E) e tb sb ∧ ∀ m SX Sv, φ m SX Sv → sb (fun x => Fg (SX x)) (startFD N.length svs ds) m (fun v => Fg (Sv v))) :
    ActC P w K mg base (k + 1) f φ F H := by
  refine ⟨⟨_, _, _, hf⟩, fun A outer s m Q E SX Sv hr e0 M hφ hE cQ => ?_⟩
  refine act_frame M e0 hE cQ fun Q0 E0 e1 M0 hE0 cQ0 => ?_
  obtain ⟨tb, sb, hder, hq⟩ := hbody A outer s (coH F m H) E0 (hr.deeper _)
  have cc : ∀ c v, H c = some (CellO v c) → coH F m H c = none ∧ ∃ u, RelV v u ∧ s.heap.IsCell c (some u) := fun c v z => by
    refine ⟨?_, cellO_at e0.hok z⟩
    cases q : coH F m H c with
    | none => rfl
    | some y =>
      obtain ⟨q1, q2, _⟩ := coH_some.mp q
      rw [z] at q1; cases q1; cases q2
  refine lok2 S hlen (fun doc pm ctv => hb doc pm ctv s H e0.hok hZ) hr e1 e0.hok hf hc ⟨len, fun y c z => ?_, inj, fun i y z => ?_⟩ hder.pe (hder.sim _ (coF F) _ _ (lstM m) (fun x => Fg fun m1 => SX x (mgM m m1)) (fun v => Fg fun m1 => Sv v (mgM m m1)) _ ⟨sr_startF (hvs _) (wr_co hw), M0, hE0.fg⟩ (hq _ _ _ (st _ _ _ hφ)) fun v F' H' sv m' s' M' rv ⟨m2, l2, q⟩ => cQ0 v F' H' sv m2 s' (M'.drop l2) rv q)
  · obtain ⟨v, h1⟩ := all y c z
    obtain ⟨h2, u, _, h3⟩ := cc c v h1
    exact ⟨h2, _, h3⟩
  · obtain ⟨c, v, h1, h2, h3⟩ := has i y z
    obtain ⟨_, u, h4, h5⟩ := cc c v h3
    refine ⟨c, h1, fun v' h => ?_⟩
    rw [h2] at h
    cases h
    exact ⟨u, h4, h5⟩
end
/-! ### the cells, told of -/
def adp (cells : List (Str × Addr)) (L : List (Str × Nat)) (σ : L2.St) (H : Hp) : Hp := fun b => match L.find? (fun q => decide (cells.lookup q.1 = some b)) with
  | some q => (match slotAt σ q.2 with
    | some v => some (CellO v b)
    | none => H b)
  | none => H b
section
variable {cells : List (Str × Addr)} {L : List (Str × Nat)} {σ : L2.St} {H : Hp} {b : Addr} {u : HO}
theorem adp_inv (h : adp cells L σ H b = some u) : H b = some u ∨ ∃ q v, q ∈ L ∧ cells.lookup q.1 = some b ∧ slotAt σ q.2 = some v ∧ u = CellO v b := by
  unfold adp at h
  split at h
  · rename_i q hq
    split at h
    · rename_i v hv
      cases h
      exact .inr ⟨q, v, List.mem_of_find?_eq_some hq, (by simpa using List.find?_some hq), hv, rfl⟩
    · exact .inl h
  · exact .inl h
theorem adp_of (hf : ∀ y c, cells.lookup y = some c → H c = none) (h : H b = some u) : adp cells L σ H b = some u := by
  unfold adp
  split
  · rename_i q hq
    have z := hf _ _ (by simpa using List.find?_some hq)
    rw [h] at z; cases z
  · exact h
theorem adp_none (hf : ∀ q ∈ L, cells.lookup q.1 ≠ some b) (h : H b = none) : adp cells L σ H b = none := by
  cases e : adp cells L σ H b with
  | none => rfl
  | some u =>
    rcases adp_inv e with z | ⟨q, v, h1, h2, _⟩
    · rw [h] at z; cases z
    · exact absurd h2 (hf q h1)
theorem adp_at {q : Str × Nat} {v : V} (hq : q ∈ L) (hl : cells.lookup q.1 = some b) (hv : slotAt σ q.2 = some v) (hu : ∀ r ∈ L, cells.lookup r.1 = some b → r = q) : adp cells L σ H b = some (CellO v b) := by
  unfold adp
  cases e : L.find? (fun q => decide (cells.lookup q.1 = some b)) with
  | none =>
    have z := List.find?_eq_none.mp e q hq
    exact absurd (decide_eq_true hl) z
  | some r =>
    obtain rfl := hu r (List.mem_of_find?_eq_some e) (by simpa using List.find?_some e)
    show (match slotAt σ r.2 with | some v => some (CellO v b) | none => H b) = _
    rw [hv]
end
section
variable {X : Cx} {pins : List (Addr × Obj)} {σ : L2.St} {H : Hp} {s : Shared} {L : List (Str × Nat)}
theorem un_adp (J : Inv X pins σ H s) (hfn : ∀ x, X.fn x = true) : Un X.fs X.ex X.H_0 (adp X.env.cells L σ H) X.s_0.heap s.heap := by
  have B := J.base
  exact ⟨B.keep, B.slot, fun b o q n hx => adp_none (fun r _ z => absurd (J.ok.cab _ _ (hfn _) z) (Nat.not_le.mpr (Heap.lt_size q))) (B.free b o q n hx), B.there,
    fun b xs e => adp_of J.freeC (B.tups b xs e), fun b o u e => adp_of J.freeC (B.frzs b o u e), fun b ps e => by
      obtain ⟨more, z⟩ := B.tbls b ps e
      exact ⟨more, adp_of J.freeC z⟩⟩
theorem hok_adp (J : Inv X pins σ H s) (cp : Caps X X.env.cells (L.map (·.1)) (L.map (·.2))) : HOk X.prog X.w (adp X.env.cells L σ H) s.heap := fun a o e => by
  rcases adp_inv e with z | ⟨q, v, h1, h2, h3, rfl⟩
  · exact (J.hok a o z).stay (fun _ _ _ q => q) (fun b hb => adp_of J.freeC hb) (fun b xs hb => adp_of J.freeC hb)
  · obtain ⟨i, hi⟩ := List.mem_iff_getElem?.mp h1
    obtain ⟨c, h4, h5⟩ := (cells_of J cp).has i q.1 (by rw [List.getElem?_map, hi]; rfl)
    rw [h2] at h4
    cases h4
    obtain ⟨u, r, z⟩ := h5 v (by rw [List.getElem?_map, List.getElem?_map, hi]; show some (slotAt σ q.2) = _; rw [h3])
    exact cellO_ok r z
end
theorem fn_ofC {CX : CXT} {P : Program} {w : World} {K : PySem.W.Frag} {mg : Str → Option Value} {base : Heap} {k : Nat} {f : Addr} {name qual : Str} {params : Arguments} {st : Stmt} {e : Expr} {pos : Pos} {scope : Scope} {dV kV doc pm cdv ct oc : Value} {an od : Option Addr}
    {osl : Array (Option Value)} {N ps : List Str} {sp : Sp} {L : List (Str × Nat)} (lk : K.lookup f = some ⟨oc, od, .func (PySem.W.fnOf name qual params [st, .Return (some e) pos] scope dV kV doc pm an cdv ct), osl⟩) (hcd : PySem.W.codeIn K cdv qual = true) (S : FnScope N ps scope)
    (len : ∀ vs H Q E, sp vs H Q E → vs.length = ps.length) (kin : ∀ q ∈ L, scope.names.lookup q.1 = some .cell ∨ scope.names.lookup q.1 = some .free) (hat : L.map (fun q => N[q.2]?) = L.map fun q => some q.1)
    (hbody : ∀ (A : Around) (outer : List Env) (s : Shared) (H : Hp) (vs : List V) (Q : VK) (E : XK), Room k (A.deeper (envOfC qual scope s.heap.objs.size f cdv)) → sp vs H Q E → ∃ t te, PS (cxOf CX P w K mg base N qual scope f cdv A outer s H E) st t ∧ PE (cxOf CX P w K mg base N qual scope f cdv A outer s H E) e te ∧
        t { nx := fun σ H1 => te σ H1 fun v H2 => (∀ y c, (cxOf CX P w K mg base N qual scope f cdv A outer s H E).env.cells.lookup y = some c → H2 c = none) → (cxOf CX P w K mg base N qual scope f cdv A outer s H E).Ok → Q v (adp (cxOf CX P w K mg base N qual scope f cdv A outer s H E).env.cells L σ H2), rt := fun _ _ => False } (start N vs) H) :
    FnOk P w K mg base CX (k + 1) f (PySem.W.fnOf name qual params [st, .Return (some e) pos] scope dV kV doc pm an cdv ct) ps sp := by
  refine ⟨len, fun A outer s H args us vs Q E room env0 binds rus wish => ?_⟩
  have in_s : K.In s.heap := env0.mod.kin.keeps fun b o q => (env0.bs b o q).1
  have kinds : ∀ y ∈ ps.zip us, scope.names.lookup y.1 = some .local ∨ (scope.names.lookup y.1 = some .cell ∧ ((cellsFrom (s.heap.objs.size + 1) scope.names []).lookup y.1).isSome = true) :=
    fun ⟨n, v⟩ hy => (S.par n (List.of_mem_zip hy).1).elim .inl fun q => .inr ⟨q, PySem.W.cellsFrom_some _ _ _ (.inl q)⟩
  refine codeAny_call_function room.depth (in_s _ _ lk) rfl S.co S.gen rfl (PySem.W.codeRec_of in_s hcd) (binds _ _ _ _ (wpAny_newFunctionEnv_cells S.kind kinds fun env he s1 x => ?_))
  subst he
  refine ⟨(env0.mod.nolimit.keeps fun b o q => (env0.bs b o q).1).keeps x.toInCall.keep, codeAny_func ?_⟩
  obtain ⟨t, te, ht, hte, hq⟩ := hbody A outer s H vs Q E (room.deeper _) wish
  have J0 : Inv (cxOf CX P w K mg base N qual scope f cdv A outer s H E) [] (start N vs) H s1 := inv_start S room.hd env0 (len _ _ _ _ wish) rus x
  refine wpAny_execs_cons (wpAny_mono (ht.run [] s1 (start N vs) H _ J0 hq) (fun fl s' hs => ?_) fun _ _ hs => hs)
  cases fl with
  | ret u => obtain ⟨_, _, _, _, _, q⟩ := hs; exact False.elim q
  | brk =>
    obtain ⟨_, _, _, q⟩ := hs
    exact False.elim q
  | cont =>
    obtain ⟨_, _, _, q⟩ := hs
    exact False.elim q
  | next =>
    obtain ⟨σ', H', I', q⟩ := hs
    refine wpAny_execs_cons (wpAny_Return_some (wpAny_mono (hte.run [] s' σ' H' _ I' q) (fun v s2 hs => ?_) fun e s' hs => hs))
    obtain ⟨x, H2, J, rv, q⟩ := hs
    exact ⟨x, _, J.os, J.bare, un_adp J fun _ => rfl, hok_adp J ⟨fun _ _ z => z, fun y hy => by
      obtain ⟨q, hq, rfl⟩ := List.mem_map.mp hy
      exact kin q hq, fun _ _ _ z => z, by rw [List.map_map, List.map_map]; exact hat⟩, rv, q J.freeC J.ok⟩
/-! ### a def that hands out lambdas -/
/-- the cells, told of in H -/
def CellsIn (X : Cx) (fr : List Str) (js : List Nat) (σ : L2.St) (H : Hp) : Prop := ∀ (i : Nat) (y : Str) (v : V), fr[i]? = some y → (js.map (slotAt σ))[i]? = some (some v) → ∃ c, X.env.cells.lookup y = some c ∧ H c = some (CellO v c)
def BehE (P : Program) (w : World) (K : PySem.W.Frag) (mg : Str → Option Value) (X : Cx) (k : Nat) (fr : List Str) (js : List Nat) (δ : DS) (mk : Addr → NF) (e : Expr) (d : Option Int) (φ : Phi) : Prop :=
  ∀ (σ : L2.St) (F H : Hp) (f c : Addr) (dV : Value), X.Ok → SR K F σ δ → CellsIn X fr js σ H → H f = some (LamO f (mk c) e dV) → H c = some (CodeO (mk c).c (mk c).qual) → (mk c).c = c → (match d with | none => dV = .none | some i => ∃ T, dV = .ref T ∧ H T = some (.tup [.int i])) → EscC P w K mg k f φ F H
inductive EscM (P : Program) (w : World) (K : PySem.W.Frag) (mg : Str → Option Value) (X : Cx) (k : Nat) (fr : List Str) (js : List Nat) (δ : DS) : Mem → Mem → Prop
  | refl (m : Mem) : EscM P w K mg X k fr js δ m m
  | step {m m' : Mem} {f : Addr} {mk : Addr → NF} {e : Expr} {d : Option Int} (φ : Phi) : m f = some (.lam mk e d) → BehE P w K mg X k fr js δ mk e d φ → EscM P w K mg X k fr js δ (up m f (.pred (EscC P w K mg k f φ))) m' → EscM P w K mg X k fr js δ m m'
/-- one thing is told of in another way -/
theorem MR.retell {K : PySem.W.Frag} {F H : Hp} {m : Mem} {f : Addr} {o0 o : MO} (M : MR K F H m) (h0 : m f = some o0) (n : MOR K F H (up m f o) f o) : MR K F H (up m f o) where
  sub := M.sub
  at_ := fun b u hb => by
    by_cases e : b = f
    · subst e
      rw [up_same] at hb; cases hb
      exact ⟨(M.at_ b o0 h0).1, n⟩
    · rw [up_ne e] at hb
      exact ⟨(M.at_ b u hb).1, mor_keep3 (.refl F) (fun _ q => q) (fun _ _ q _ => q) (fun _ _ _ q => q) (fun c x _ hc => by rw [up_ne (fun z => by rw [z, h0] at hc; cases hc)]; exact hc) (M.at_ b u hb).2⟩
theorem escM_ok {P : Program} {w : World} {K : PySem.W.Frag} {mg : Str → Option Value} {X : Cx} {k : Nat} {fr : List Str} {js : List Nat} {δ : DS} {m m' : Mem} {σ : L2.St} {F H : Hp} (h : EscM P w K mg X k fr js δ m m') (ok : X.Ok) (ci : CellsIn X fr js σ H) (sr : SR K F σ δ) (M : MR K F H m) : MR K F H m' := by
  induction h with
  | refl => exact M
  | step φ hm hb _ ih =>
    refine ih (M.retell hm ?_)
    obtain ⟨c, dV, h1, h2, h3, h4⟩ := (M.at_ _ _ hm).2
    refine ⟨⟨_, h1, trivial, fun _ z => nomatch z⟩, fun F' H' sF kH => hb σ F' H' _ c dV ok (sr.sub sF) (fun i y v e1 e2 => ?_) (kH _ _ h1 trivial) (kH _ _ h2 trivial) h3 ?_⟩
    · obtain ⟨c, q1, q2⟩ := ci i y v e1 e2
      exact ⟨c, q1, kH _ _ q2 trivial⟩
    · split
      · exact h4
      · obtain ⟨T, e1, e2⟩ := h4
        exact ⟨T, e1, kH _ _ e2 trivial⟩
theorem mr_adp {K : PySem.W.Frag} {F H : Hp} {m : Mem} {cells : List (Str × Addr)} {L : List (Str × Nat)} {σ : L2.St} (hf : ∀ y c, cells.lookup y = some c → H c = none) (M : MR K F H m) : MR K F (adp cells L σ H) m where
  sub := fun b o e => adp_of hf (M.sub b o e)
  at_ := fun b o e => ⟨(M.at_ b o e).1, mor_keep3 (.refl F) (fun _ q => adp_of hf q) (fun _ _ q _ => adp_of hf q) (fun _ _ _ q => q) (fun _ _ _ q => q) (M.at_ b o e).2⟩
theorem fn_syC {CX : CXT} {P : Program} {w : World} {K : PySem.W.Frag} {mg : Str → Option Value} {base : Heap} {k kk : Nat} {f : Addr} {name qual : Str} {params : Arguments} {st : Stmt} {e : Expr} {pos : Pos} {scope : Scope} {dV kV doc pm cdv ct oc : Value} {an od : Option Addr}
    {osl : Array (Option Value)} {N ps : List Str} {sp : SpS} {fr : List Str} {js : List Nat} (lk : K.lookup f = some ⟨oc, od, .func (PySem.W.fnOf name qual params [st, .Return (some e) pos] scope dV kV doc pm an cdv ct), osl⟩) (hcd : PySem.W.codeIn K cdv qual = true) (S : FnScope N ps scope)
    (hl : ∀ svs m SX Sv, sp svs m SX Sv → svs.length = ps.length) (kin : ∀ y ∈ fr, scope.names.lookup y = some .cell ∨ scope.names.lookup y = some .free) (hat : js.map (fun j => N[j]?) = fr.map some) (nd : ∀ q ∈ fr.zip js, ∀ r ∈ fr.zip js, q.1 = r.1 → q = r)
    (hev : ∀ (A : Around) (outer : List Env) (s : Shared) (H : Hp) (E : XK), Room k (A.deeper (envOfC qual scope s.heap.objs.size f cdv)) → ∃ ts ss te se, GS K E (cxOf CX P w K mg base N qual scope f cdv A outer s H E) st ts ss ∧ GE K E (cxOf CX P w K mg base N qual scope f cdv A outer s H E) e te se ∧
      ∀ svs m SX Sv, sp svs m SX Sv → ss (fun x => Fg (SX x)) { nx := fun δ m1 => se (fun x => Fg (SX x)) δ m1 fun v m2 => ∃ m3, EscM P w K mg (cxOf CX P w K mg base N qual scope f cdv A outer s H E) kk fr js δ m2 m3 ∧ Fg (Sv v) m3, rt := fun _ _ => False } (startD N.length svs) m) :
    FnOk P w K mg base CX (k + 1) f (PySem.W.fnOf name qual params [st, .Return (some e) pos] scope dV kV doc pm an cdv ct) ps (lift K sp) := by
  have hlen : fr.length = js.length := by
    have z := congrArg List.length hat
    simpa using z.symm
  refine fn_ofC (L := fr.zip js) lk hcd S (fun vs H Q E h => by
    obtain ⟨F, svs, m, SX, Sv, _, h2, h3, _⟩ := h
    rw [vrs_length h2]; exact hl _ _ _ _ h3) (fun q hq => kin q.1 (List.of_mem_zip hq).1) ?_ (fun A outer s H vs Q E hr h => ?_)
  · have z1 : (fr.zip js).map (fun q => N[q.2]?) = js.map fun j => N[j]? := by
      rw [show (fun q : Str × Nat => N[q.2]?) = (fun j => N[j]?) ∘ Prod.snd from rfl, ← List.map_map, List.map_snd_zip (by omega)]
    have z2 : (fr.zip js).map (fun q => some q.1) = fr.map some := by
      rw [show (fun q : Str × Nat => some q.1) = some ∘ Prod.fst from rfl, ← List.map_map, List.map_fst_zip (by omega)]
    rw [z1, z2, hat]
  · obtain ⟨F, svs, m, SX, Sv, M, r, hsp, hx, c⟩ := h
    obtain ⟨ts, ss, te, se, hd1, hd2, hev⟩ := hev A outer s H E hr
    refine ⟨ts, te, hd1.pe, hd2.pe, ?_⟩
    refine hd1.sim _ F H _ m (fun x => Fg (SX x)) _ _ ⟨SR.start r, M, hx.fg⟩ (hev svs m SX Sv hsp) ⟨fun σ' δ' F' H' m' s' sr' M' q => ?_, fun _ _ _ _ _ _ _ _ q => q.elim, fun _ _ _ _ _ _ _ _ q => q.elim, fun _ _ _ _ _ _ _ _ q => q.elim⟩
    refine hd2.sim σ' F' H' δ' m' (fun x => Fg (SX x)) _ _ ⟨sr', M', hx.fg.go s'⟩ q fun v F2 H2 sv m2 s2 M2 rv ⟨m3, esc, fg⟩ hfree ok => ?_
    have M3 := escM_ok (σ := σ') esc ok (fun i y v' e1 e2 => by
      rw [List.getElem?_map] at e2
      obtain ⟨j, e3, e4⟩ := Option.map_eq_some_iff.mp e2
      obtain ⟨c', hc⟩ := ok.has y ((kin y (List.mem_of_getElem? e1)).imp id id)
      have hz : (fr.zip js)[i]? = some (y, j) := by
        rw [List.getElem?_zip_eq_some]
        exact ⟨e1, e3⟩
      refine ⟨c', hc, adp_at (List.mem_of_getElem? hz) hc e4 fun r hr2 hr3 => nd _ hr2 _ (List.mem_of_getElem? hz) (ok.inj _ _ _ hr3 hc)⟩) (sr'.sub s2) (mr_adp hfree M2)
    obtain ⟨m4, l4, q4⟩ := fg
    exact c v F2 _ sv m4 (s'.trans s2) (M3.drop l4) rv q4
/-! ### what an escaped lambda does -/
section
variable {P : Program} {w : World} {K : PySem.W.Frag} {mg : Str → Option Value} {base : Heap} {k : Nat} {f c : Addr} {e : Expr} {N ps fr : List Str} {js : List Nat} {φ : Phi} {xs : List SV} {F H : Hp} {X : Cx} {σ : L2.St}
theorem esc_cells {ds : List (Option SV)} {F0 : NF} (S : NScope N ps fr F0.scope) (cp : Caps X F0.cl fr js) (ok : X.Ok) (hcl : ∀ y c, F0.cl.lookup y = some c → y ∈ fr) (hw : WR K F (js.map (slotAt σ)) ds) (hds : ∀ d ∈ ds, ∃ x, d = some x) (ci : CellsIn X fr js σ H) :
    (js.map (slotAt σ)).length = fr.length ∧ (∀ x y c, F0.cl.lookup x = some c → F0.cl.lookup y = some c → x = y) ∧ (∀ y c, F0.cl.lookup y = some c → ∃ v, H c = some (CellO v c)) ∧
    (∀ (i : Nat) (y : Str), fr[i]? = some y → ∃ c v, F0.cl.lookup y = some c ∧ (js.map (slotAt σ))[i]? = some (some v) ∧ H c = some (CellO v c)) := by
  have hl : js.length = fr.length := by
    have z := congrArg List.length cp.at_
    simpa using z
  have hl2 : (js.map (slotAt σ)).length = fr.length := by rw [List.length_map]; exact hl
  have has : ∀ (i : Nat) (y : Str), fr[i]? = some y → ∃ c v, F0.cl.lookup y = some c ∧ (js.map (slotAt σ))[i]? = some (some v) ∧ H c = some (CellO v c) := fun i y e => by
    have hi := (List.getElem?_eq_some_iff.mp e).1
    have hi2 : i < ds.length := by rw [← hw.1]; omega
    obtain ⟨x, hx⟩ := hds _ (List.getElem_mem hi2)
    obtain ⟨v, h1, h2⟩ := hw.2 i x (by rw [List.getElem?_eq_getElem hi2, hx])
    obtain ⟨c, h3, h4⟩ := ci i y v e h1
    exact ⟨c, v, cp.sup y (List.mem_of_getElem? e) c h3, h1, h4⟩
  refine ⟨hl2, fun x y c e1 e2 => ok.inj x y c (cp.sub _ _ e1) (cp.sub _ _ e2), fun y c e => ?_, has⟩
  obtain ⟨i, hi⟩ := List.mem_iff_getElem?.mp (hcl y c e)
  obtain ⟨c', v, h1, h2, h3⟩ := has i y hi
  rw [e] at h1
  cases h1
  exact ⟨v, h3⟩
theorem clo_fr {cells : List (Str × Addr)} {scope : Scope} (S : NScope N ps fr scope) {y : Str} {c : Addr} (e : (cloFrom cells scope.names []).lookup y = some c) : y ∈ fr := by
  rcases cloFrom_mem (PySem.mem_of_lookup e) with hm | ⟨h1, h2⟩
  · cases hm
  · exact S.free _ h1 rfl
end
/-! ### handed on to a callee -/
inductive Conv2 (P : Program) (w : World) (K : PySem.W.Frag) (mg : Str → Option Value) (X : Cx) (k : Nat) (base' : Heap) (δ : DS) : Mem → Mem → Prop
  | refl (m : Mem) : Conv2 P w K mg X k base' δ m m
  | lam {m m1 m' : Mem} : Conv P w K mg X k base' δ m m1 → Conv2 P w K mg X k base' δ m1 m' → Conv2 P w K mg X k base' δ m m'
  | esc {m m' : Mem} {f : Addr} {φ : Phi} : m f = some (.pred (EscC P w K mg k f φ)) → Conv2 P w K mg X k base' δ (up m f (.pred (ActC P w K mg base' k f φ))) m' → Conv2 P w K mg X k base' δ m m'
theorem conv2_ok {P : Program} {w : World} {K : PySem.W.Frag} {mg : Str → Option Value} {X : Cx} {k : Nat} {base' : Heap} {δ : DS} {m m' : Mem} {σ : L2.St} {F H : Hp} (h : Conv2 P w K mg X k base' δ m m') (g : Grd X base' σ) (sr : SR K F σ δ) (M : MR K F H m) : MR K F H m' := by
  induction h with
  | refl => exact M
  | lam c _ ih => exact ih (conv_ok c g sr M)
  | esc hm _ ih =>
    refine ih (M.retell hm ?_)
    obtain ⟨h1, h2⟩ := (M.at_ _ _ hm).2
    exact ⟨h1, fun F' H' sF kH => h2 F' H' sF kH base'⟩
def sCallB2 (P : Program) (w : World) (K : PySem.W.Frag) (mg : Str → Option Value) (X : Cx) (k : Nat) (sp : Heap → SpS) (a : SA) : SE := fun SX δ m S => a SX δ m fun vs m1 => ∀ base', ∃ m2, Conv2 P w K mg X k base' δ m1 m2 ∧ sp base' vs m2 (fun _ _ => False) S
theorem ge_callBase2 {X : Cx} {K : PySem.W.Frag} {E : XK} {x : Str} {f : Addr} {fd : FuncData} {ps : List Str} {k k2 : Nat} {sp : Heap → SpS} {e : Expr} {es : List Expr} {t : TA} {sa : SA} {p pos : Pos} (F : ∀ base', FnOk X.prog X.w X.K X.mg base' CX0 k f fd ps (lift K (sp base'))) (hr : Room k X.A) (hg : Gl X x) (hm : X.mg x = some (.ref f)) (hk : PySem.W.keepIn X.K (.ref f) = true) (hb : Binds X.K fd ps [])
    (ha : GA K E X (e :: es) t sa) (hfn : ∀ x, X.fn x = true) (hst : X.stack = X.env :: X.outer) (hfr : X.env.frame = some X.env.locals) (hdb : (x == ("__debug__" : Str)) = false := by decide) (he : starEach (e :: es) X.env = (false, eval e X.env) :: starEach es X.env := by rfl) (hpl : (backTo pos (starEach es X.env)).any (·.1) = false := by rfl) (hK : X.K = K := by rfl) :
    GE K E X (.Call (.Name x p) (e :: es) [] pos) (tCallB X (fun b => lift K (sp b)) t) (sCallB2 X.prog X.w K X.mg X k2 sp sa) :=
  ⟨pe_callBase F hr hg hm hk hb ha.pe hfn hst hfr hdb he hpl, fun σ F0 H δ m SX S Q r h c => ha.sim σ F0 H δ m SX _ _ r h fun vs F1 H1 svs m1 s1 M1 v1 h1 => fun base' hok hC => by
    obtain ⟨m2, cv, q⟩ := h1 base'
    exact ⟨F1, svs, m2, fun _ _ => False, S, conv2_ok cv ⟨hok, hC⟩ (r.sr.sub s1) M1, v1, q, fun x d F' H' m' _ _ _ z => z.elim, c.go s1⟩⟩
end Sy

set_option Elab.async false
set_option linter.all false
set_option maxRecDepth 100000
set_option maxHeartbeats 400000
/-! What an escaped lambda does, told of the frame that made it. -/
namespace Sy
open PySem PySem.Spec PyProof.Rows L2 LamX NdefX Lm
theorem esc_beh {P : Program} {w : World} {K : PySem.W.Frag} {mg : Str → Option Value} {base : Heap} {k : Nat} {f : Addr} {e : Expr} {N ps fr : List Str} {js : List Nat} {φ : Phi} {ds : List (Option SV)} {F H : Hp} {X : Cx} {σ : L2.St} {dV : Value} {vs : List V} {svs : List SV} {F0 : NF}
    (S : NScope N ps fr F0.scope) (hlen : vs.length = ps.length) (hvs : ∀ F, VRs K F vs svs) (Z : Hp → Prop)
    (hb : ∀ (doc pm ctv : Value) (s : Shared) (H : Hp), HOk P w H s.heap → Z H → ∃ us, Vals vs us ∧ BindsTo s (lfd F0 e dV doc pm ctv) ⟨[], []⟩ (ps.zip us))
    (ok : X.Ok) (cp : Caps X F0.cl fr js) (hclo : F0.cl = cloFrom X.env.cells F0.scope.names []) (ci : CellsIn X fr js σ H) (hw : WR K F (js.map (slotAt σ)) ds) (hds : ds.all Option.isSome = true) (hf : H f = some (LamO f F0 e dV)) (hc : H F0.c = some (CodeO F0.c F0.qual)) (hZ : Z H)
    (st : ∀ m SX S, φ m SX S → φ (lstM m) (fun x m1 => SX x (mgM m m1)) (fun v m1 => S v (mgM m m1)))
    (hbody : ∀ (A : Around) (outer : List Env) (s : Shared) (H : Hp) (E : XK), Room k (A.deeper (envF F0 f s.heap.objs.size)) → ∃ tb sb, GE K E (ncx (L2.CX P w) P w K mg base N F0 f A outer s H E) e tb sb ∧ ∀ m SX Sv, φ m SX Sv → sb (fun x => Fg (SX x)) (startFD N.length svs ds) m (fun v => Fg (Sv v))) :
    ActC P w K mg base (k + 1) f φ F H := by
  obtain ⟨z1, z2, z3, z4⟩ := esc_cells S cp ok (fun y c e => by
    rw [hclo] at e
    exact clo_fr S e) hw (fun d hd => Option.isSome_iff_exists.mp (List.all_eq_true.mp hds d hd)) ci
  exact esc_core S hlen hvs Z hb z1 z2 z3 z4 hw hf hc hZ st hbody
theorem dd_lstM {m : Mem} {x : SV} (h : DD m x) : DD (lstM m) x := by
  refine DD.rec (motive_1 := fun x _ => DD (lstM m) x) (motive_2 := fun xs _ => DDs (lstM m) xs) .non (fun b => .bl b) (fun i => .int i) (fun s => .str s) (fun _ ih => .tup ih) .lst (fun h => .ref (lstM_of h)) .nil (fun _ _ a b => .cons a b) h
theorem its_lstM {m : Mem} {x : SV} {ys : List SV} (h : Its m x ys) : Its (lstM m) x ys := by
  cases x <;> first
    | exact h
    | exact lstM_of h
theorem ty_lstM {m : Mem} {x : SV} {t : String} (h : tyS m x t) : tyS (lstM m) x t := by
  cases x <;> first
    | exact h
    | exact ⟨h.1, h.2.1, lstM_of h.2.2⟩
    | (obtain ⟨h1, xs, h2⟩ := h; exact ⟨h1, xs, lstM_of h2⟩)
end Sy

set_option Elab.async false
set_option linter.all false
set_option maxRecDepth 100000
set_option maxHeartbeats 400000
/-! xs[a:c] = ys where c may lie behind the list's end. -/
namespace Sy
open PySem PySem.Spec PyProof.Rows L2
theorem cut_bounds {a c n : Nat} (hac : a ≤ c) (ha : a ≤ n) : sliceBounds (some (a : Int)) (some (c : Int)) none n = ((a : Int), ((min c n : Nat) : Int), 1) := by
  rw [sliceBounds_plain]
  show (((clipAt n (a : Int) : Nat) : Int), ((clipAt n (c : Int) : Nat) : Int), (1 : Int)) = _
  rw [clipAt_nat, clipAt_nat, Nat.min_eq_left ha]
section
variable {prog : Program} {w : World} {A : Around} {E : Value → Shared → Prop} {s : Shared}
theorem setItem_cut {l b sl : Addr} {xs ys : Array Value} {i j : Nat} {vl vu : Value} {a c : Nat} {Q : Unit → Shared → Prop} (hx : s.heap.get? l = some { cls := .type "list", data := .seq xs i }) (hy : s.heap.get? b = some { cls := .type "list", data := .seq ys j })
    (ne : l ≠ b) (hs : s.heap.IsSliceOf sl vl vu .none) (pl : IsPart vl (some (a : Int))) (pu : IsPart vu (some (c : Int))) (hac : a ≤ c) (ha : a ≤ xs.size) (hz : xs.size + ys.size ≤ sizeLine)
    (q : Q () { s with heap := s.heap.update l (Obj.mapSeq fun zs => zs.extract 0 a ++ ys ++ zs.extract (min c xs.size) zs.size) }) : wpAny (model prog w) A (setItem (.ref l) (.ref sl) (.ref b)) Q E s := by
  have Lx : s.heap.IsList l xs := PySem.IsL.isList hx
  have Ly : s.heap.IsList b ys := PySem.IsL.isList hy
  obtain ⟨so, h1, h2, h3⟩ := id hs
  have ts : s.TypeIs (.ref sl) "slice" := ⟨so, h1, h2⟩
  have other : Builtin.List.listSameRef (.ref l) (.ref b) = false := beq_eq_false_iff_ne.mpr ne
  have top : (max (a : Int) ((min c xs.size : Nat) : Int)).toNat = min c xs.size := by omega
  have big : ((fun zs : Array Value => zs.extract 0 a ++ ys ++ zs.extract (min c xs.size) zs.size) xs).size ≤ sizeLine + 1 := by (simp only [Array.size_append, Array.size_extract]; omega)
  unfold setItem; try with_reducible refine wpAny_holding ?_
  all_goals first | refine wpAny_bind (wpAny_pure ?_) | skip
  refine wpAny_bind (wpAny_sequenceKey Lx.typeIs (by decide) (wpAny_bind (wpAny_callSpecial?_slot (name := Str.ofString "__setitem__") Lx.typeIs slot_list_setitem (wpAny_call_entry slot_list_setitem Lx.typeIs entry_list_setitem ?_ (args_list_setitem _ _ _)))))
  show wpAny _ _ (Builtin.List.listSubscript? (.ref sl) >>= _) _ _ s; refine wpAny_bind ?_; unfold Builtin.List.listSubscript?
  refine wpAny_bind (wpAny_specialOf ts slice_no_index ?_); simp only [Option.isNone_none, if_true]
  refine wpAny_pure ?_; show wpAny _ _ (typeOf (.ref sl) >>= _) _ _ s
  refine wpAny_bind (wpAny_typeOf ts ?_); first | rw [if_neg (by decide)] | refine PySem.W.KFB.if_not (by decide) ?_
  rw [listSliceParts_eq]
  refine wpAny_bind (wpAny_bind (wpAny_field h1 h3 (x := .none) rfl (wpAny_bind (wpAny_listPart .none ?_)))); rw [if_neg (show ¬ ((rawPart none == rawInt 0) = true) from Bool.false_ne_true)]
  refine wpAny_bind (wpAny_field h1 h3 (x := vl) rfl (wpAny_bind (wpAny_listPart pl (wpAny_bind (wpAny_field h1 h3 (x := vu) rfl (wpAny_bind (wpAny_listPart pu (wpAny_pure ?_))))))))
  first | simp only [other, Bool.false_eq_true, if_false] | refine PySem.W.KFB.if_not other ?_
  refine wpAny_bind (m := Builtin.List.listAllItems (.ref b) "must assign iterable to extended slice") ?_; unfold Builtin.List.listAllItems
  refine wpAny_bind (wpAny_typeOf Ly.typeIs ?_); first | refine PySem.W.KFB.if_so (by decide) ?_ | rw [if_pos (by decide)]
  unfold Builtin.List.listItems; refine wpAny_bind (wpAny_seqItems hy rfl (wpAny_pure (wpAny_bind (wpAny_bind (wpAny_seqItems hx rfl (wpAny_pure ?_))))))
  refine wpAny_bind (wpAny_of_eq ((sliceIndices_raw (some (a : Int)) (some (c : Int)) none xs.size (by simp)).trans (congrArg (pure : Int × Int × Int → Sem (Int × Int × Int)) (cut_bounds hac ha))) ?_)
  show wpAny _ _ (if ((1 : Int) == 1) = true then _ else _) _ _ s; rw [if_pos (by decide)]
  refine wpAny_bind (wpAny_rule ?_); first | simp only [notLongL hz, Bool.false_eq_true, if_false] | refine PySem.W.KFB.if_not (notLongL hz) ?_
  all_goals first | refine wpAny_bind (wpAny_pure ?_) | skip
  show wpAny _ _ (updateSeq l (fun zs => zs.extract 0 ((a : Int)).toNat ++ ys ++ zs.extract (max (a : Int) ((min c xs.size : Nat) : Int)).toNat zs.size) >>= _) _ _ s
  rw [top, Int.toNat_natCast]; refine wpAny_bind (wpAny_updateSeq (hz := Nat.le_trans (Nat.le_add_right _ _) hz) (_hz' := big) hx rfl (wpAny_bind (wpAny_letGo ?_)))
  first | exact wpAny_bind (wpAny_pure (wpAny_pure ⟨.none, rfl, wpAny_pure q⟩)) | exact wpAny_pure ⟨.none, rfl, wpAny_pure q⟩
end
def SlO (a c : Int) (sl : Addr) : HO := .ext fun h => ∃ vl vu, RelV (.int a) vl ∧ RelV (.int c) vu ∧ h.IsSliceOf sl vl vu .none
def tSlO (tl th : TE) : TE := fun σ H Q => tl σ H fun x H1 => th σ H1 fun y H2 => ∃ a c, x = .int a ∧ y = .int c ∧ ∀ sl, H2 sl = none → Q (.ref sl) (upd H2 sl (SlO a c sl))
def rSetSl : TSet := fun o i v H Q => ∃ l sl b xs ys a c, o = .ref l ∧ i = .ref sl ∧ v = .ref b ∧ l ≠ b ∧ H sl = some (SlO a c sl) ∧ H l = some (.lst xs) ∧ H b = some (.lst ys) ∧ (0 ≤ a ∧ a ≤ c ∧ a ≤ xs.length) ∧ xs.length + ys.length ≤ sizeLine ∧ Q (upd H l (.lst (xs.take a.toNat ++ ys ++ xs.drop c.toNat)))
section
variable {X : Cx} {lo hi : Expr} {tl th : TE} {p2 : Pos}
theorem pe_slO (hl : PE X lo tl) (hu : PE X hi th) : PE X (.Slice (some lo) (some hi) none p2) (tSlO tl th) := by
  refine ⟨fun pins s σ H Q I h => ?_⟩
  refine wpAny_Slice ?_
  refine thn (hl.run pins s σ H _ I h) fun vl s1 ⟨x, H1, I1, r1, q1⟩ => thn (hu.run pins s1 σ H1 _ I1 q1) fun vu s2 ⟨y, H2, I2, r2, a, c, e1, e2, q2⟩ => ?_
  subst e1
  subst e2
  rw [evalPart_none]
  refine wpAny_pure ⟨.ref s2.heap.objs.size, _, I2.laid (t' := s2.toks) (o := SlO a c s2.heap.objs.size) (fun b ob q => Heap.get?_push_of_some _ q) (Nat.le_refl _) ?_, rfl, q2 _ (I2.hok.fresh (Nat.le_refl _))⟩
  refine ⟨⟨vl, vu, r1, r2, Heap.IsSliceOf.new ..⟩, ⟨_, Heap.get?_push_size _ rfl⟩, fun h1 h2 ⟨vl, vu, r1, r2, o, z1, z2⟩ st => ⟨vl, vu, r1, r2, o, st _ z1, z2⟩⟩
theorem set_sl : PSet X rSetSl := by
  intro pins s σ H o i v ov iv u Q I ro ri rv h
  obtain ⟨l, sl, b, xs, ys, a, c, rfl, rfl, rfl, ne, hs, hl, hb, ⟨h0, hac, ha⟩, hz, q⟩ := h
  cases ro
  cases ri
  cases rv
  obtain ⟨vl, vu, ⟨ta, rfl⟩, ⟨tc, rfl⟩, hs⟩ := (I.hok sl _ hs).1
  obtain ⟨z, its, n, r, _, e⟩ := I.lstM hl
  obtain ⟨z2, its2, n2, r2, _, e2⟩ := I.lstM hb
  have hn : its.length = xs.length := r.length.symm
  have hn2 : its2.length = ys.length := r2.length.symm
  obtain ⟨a, rfl⟩ := Int.eq_ofNat_of_zero_le h0
  obtain ⟨c, rfl⟩ := Int.eq_ofNat_of_zero_le (Int.le_trans h0 hac)
  rw [Int.toNat_natCast, Int.toNat_natCast] at q
  refine setItem_cut (a := a) (c := c) e e2 ne hs (.int _ _) (.int _ _) (by omega) (by rw [List.size_toArray]; omega) (by rw [List.size_toArray, List.size_toArray]; omega) ⟨_, I.lset (its' := its.take a ++ its2 ++ its.drop c) (t' := s.toks) hl e ?_ ((Vals.append (r.take _) r2).append (r.drop _)) ?_, q⟩
  · show its.toArray.extract 0 a ++ its2.toArray ++ its.toArray.extract (min c its.toArray.size) its.toArray.size = _
    rw [splice_eq, List.size_toArray]
    congr 2
    by_cases hc : c ≤ its.length
    · rw [Nat.min_eq_left hc]
    · rw [Nat.min_eq_right (by omega), List.drop_length, List.drop_of_length_le (by omega)]
  · rw [List.length_append, List.length_append, List.length_take, List.length_drop]
    omega
theorem pg_slc {o i : Expr} {to ti : TE} {t : TSet} {pos : Pos} (ho : PE X o to) (hi : PE X i ti) (hs : PSet X t) (ha : ∀ v, assign (.Subscript o i pos) X.env v = (do { let ov ← holding [v] (eval o X.env); let iv ← holding [v, ov] (eval i X.env); standAt pos; holding [v, ov, iv] (setItem ov iv v); release [iv, v, ov] [] })) : PG X (.Subscript o i pos) (gSub to ti t) :=
  ⟨fun pins s σ H v u Q I r h => by
    rw [ha]
    exact wpAny_bind (wpAny_holding (thn (ho.run pins s σ H _ I h) fun ov s1 ⟨x, H1, I1, r1, q1⟩ => wpAny_bind (wpAny_holding (thn (hi.run pins s1 σ H1 _ I1 q1) fun iv s2 ⟨y, H2, I2, r2, q2⟩ =>
      wpAny_bind (wpAny_standAt (wpAny_bind (wpAny_holding (thn (hs pins s2 σ H2 x y v ov iv u _ I2 r1 r2 r q2) fun _ s3 ⟨H3, I3, q3⟩ => wpAny_release ⟨σ, H3, I3, q3⟩))))))))⟩
end
def hSetSl (so sl sh : SE) : SG := fun SX v δ m S => so SX δ m fun x m1 => sl SX δ m1 fun i m2 => sh SX δ m2 fun j m3 => match x, i, j, v with
  | .ref l, .int a, .int c, .ref b => l ≠ b ∧ ∃ xs ys, m3 l = some (.lst xs) ∧ m3 b = some (.lst ys) ∧ (0 ≤ a ∧ a ≤ c ∧ a ≤ xs.length) ∧ xs.length + ys.length ≤ sizeLine ∧ S δ (up m3 l (.lst (xs.take a.toNat ++ ys ++ xs.drop c.toNat)))
  | _, _, _, _ => False
theorem MR.garb {K : PySem.W.Frag} {F H : Hp} {m : Mem} {p : Addr} {o : HO} (M : MR K F H m) (hp : H p = none) : MR K F (upd H p o) m where
  sub := M.sub.free (M.sub.gone hp)
  at_ := fun b u e => ⟨(M.at_ b u e).1, mor_keep3 (.refl F) (fun v hv => (upd_ne (ne_of_none hv hp)).trans hv) (fun c v hv _ => (upd_ne (ne_of_none hv hp)).trans hv) (fun _ _ _ q => q) (fun _ _ _ q => q) (M.at_ b u e).2⟩
section
variable {K : PySem.W.Frag} {E : XK} {X : Cx} {o lo hi : Expr} {to tl th : TE} {so sl sh : SE} {p2 pos : Pos}
theorem gg_setSl (ho : GE K E X o to so) (hl : GE K E X lo tl sl) (hh : GE K E X hi th sh) (ha : ∀ v, assign (.Subscript o (.Slice (some lo) (some hi) none p2) pos) X.env v = (do { let ov ← holding [v] (eval o X.env); let iv ← holding [v, ov] (eval (.Slice (some lo) (some hi) none p2) X.env); standAt pos; holding [v, ov, iv] (setItem ov iv v); release [iv, v, ov] [] }) := by intro _; rfl) : GG K E X (.Subscript o (.Slice (some lo) (some hi) none p2) pos) (gSub to (tSlO tl th) rSetSl) (hSetSl so sl sh) := ⟨pg_slc ho.pe (pe_slO hl.pe hh.pe) set_sl ha, fun σ F H δ m SX v sv S Q r rv h c =>
  ho.sim σ F H δ m SX _ _ r h fun x F1 H1 sx m1 s1 M1 v1 h1 => hl.sim σ F1 H1 δ m1 SX _ _ (r.go s1 M1) h1 fun y F2 H2 sy m2 s2 M2 v2 h2 => hh.sim σ F2 H2 δ m2 SX _ _ ((r.go s1 M1).go s2 M2) h2 fun z F3 H3 sz m3 s3 M3 v3 h3 => by
    have s123 := (s1.trans s2).trans s3
    have rv := vr_sub s123 rv
    cases v1 <;> cases v2 <;> cases v3 <;> cases rv <;> first
      | exact (show False from h3).elim
      | skip
    obtain ⟨ne, xs, ys, e1, e2, hb, hz, q⟩ := (show _ ∧ ∃ xs ys, _ from h3)
    obtain ⟨vs, e3, r3⟩ := M3.lst_ e1
    obtain ⟨ws, e4, r4⟩ := M3.lst_ e2
    refine ⟨_, _, rfl, rfl, fun sl hsl => ?_⟩
    have M4 := fun o => M3.garb (o := o) hsl
    refine ⟨_, sl, _, vs, ws, _, _, rfl, rfl, rfl, ne, upd_same, (upd_ne (ne_of_none e3 hsl)).trans e3, (upd_ne (ne_of_none e4 hsl)).trans e4, by rw [vrs_length r3]; exact hb, by rw [vrs_length r3, vrs_length r4]; exact hz, ?_⟩
    exact c _ δ F3 _ _ s123 (r.sr.sub s123) ((M4 _).setL e1 (vrs_append (vrs_append (vrs_take _ r3) r4) (vrs_drop _ r3))) q⟩
end
end Sy

set_option Elab.async false
set_option linter.all false
set_option maxRecDepth 100000
set_option maxHeartbeats 8000000
namespace Hn
open PySem PySem.Spec PyProof.Rows L2 Sy Lm
section
variable {P : Program} {w : World} {K : PySem.W.Frag} {mg : Str → Option Value} {base : Heap}
local macro_rules | `(tactic| walk_at "r") => `(tactic| (conv => whnf))
local macro_rules | `(tactic| walk_at "sp") => `(tactic| (first | rfl | contradiction | exact (False.elim ‹_›)))
local macro_rules | `(tactic| walk_at "len") => `(tactic| (exact Nat.le_trans (show _ ≤ 100000 by first | (simp; done) | (rw [rngS_length]; decide)) (by decide)))
local macro_rules | `(tactic| walk_at "f") => `(tactic| (refine Br_i (fun hb => Bool.noConfusion (show false = true from hb)) (fun _ => ?_)))
local macro_rules | `(tactic| walk_at "t") => `(tactic| (refine Br_i (fun _ => ?_) (fun hb => Bool.noConfusion (show true = false from hb))))
local macro_rules | `(tactic| walk_at "le") => `(tactic| first | exact Le.refl _ | (refine Le.put ?_; walk_at "le") | (refine Le.new ?_ (by assumption); walk_at "le"))
def spNum : SpS := fun vs m _ S => match vs with
  | [x] => Dat m x ∧ S (.bl (isInt x)) m
  | _ => False
def isWh (x : SV) (lo hi : Int) : Bool := match x with
  | .int i => decide (lo ≤ i) && decide (i ≤ hi)
  | _ => false
def spWhole : SpS := fun vs m _ S => match vs with
  | [x, .int lo, .int hi] => Dat m x ∧ S (.bl (isWh x lo hi)) m
  | _ => False
def isTupN (x : SV) (n : Int) : Bool := match x with
  | .tup xs => decide ((xs.length : Int) = n)
  | _ => false
def isTupU (x : SV) (n : Int) : Bool := match x with
  | .tup xs => decide ((xs.length : Int) ≤ n)
  | _ => false
def spTupN : SpS := fun vs m _ S => match vs with
  | [x, .int n] => Dat m x ∧ S (.bl (isTupN x n)) m
  | _ => False
def spTupU : SpS := fun vs m _ S => match vs with
  | [x, .int n] => Dat m x ∧ S (.bl (isTupU x n)) m
  | _ => False
theorem ok_is_number (T : Tx K mg) : FnOk P w K mg base CX0 1 (He.ga K "is_number") T.fd_is_number ["x"] (lift K spNum) := by
  refine fn_sy T.F_is_number sc_is_number (fun svs m SX Sv h => ?_) (fun cdv A outer s H E hr => ⟨_, _, (gss_one (gs_ret (ge_and (ge_callB (cr_isi K) sim_isi (by rfl) T.z_isinstance (by decide +kernel) (ga_cons (gv 0) (ga_cons (ge_ty (n := "int") (by rfl) T.z_int (by decide +kernel)) ga_nil))) (ge_one (ge_not (ge_callB (cr_isi K) sim_isi (by rfl) T.z_isinstance (by decide +kernel) (ga_cons (gv 0) (ga_cons (ge_ty (n := "bool") (by rfl) T.z_bool (by decide +kernel)) ga_nil)))))))), fun svs m SX Sv h => ?_⟩)
  · unfold spNum at h
    split at h <;> first | rfl | exact h.elim
  · unfold spNum at h
    split at h
    · obtain ⟨⟨t, ht⟩, q⟩ := h
      have e := tyS_int ht
      walk_at "r"
      refine ⟨by decide, t, ht, ?_⟩
      walk_at "r"
      refine Br_i (fun h1 => ?_) (fun h1 => ?_)
      · walk_at "r"
        refine ⟨by decide, t, ht, ?_⟩
        walk_at "r"
        rw [← e, h1, Bool.true_and] at q
        exact .of q
      · rw [← e, h1, Bool.false_and] at q
        exact .of q
    · exact h.elim
theorem ok_is_whole (T : Tx K mg) : FnOk P w K mg base CX0 2 (He.ga K "is_whole") T.fd_is_whole ["x", "low", "high"] (lift K spWhole) := by
  have G_is_number := ok_is_number (P := P) (w := w) (base := base) T
  have b_is_number := b_is_number T
  refine fn_sy T.F_is_whole sc_is_whole (fun svs m SX Sv h => ?_) (fun cdv A outer s H E hr => ⟨_, _, (gss_one (gs_ret (ge_and (ge_call G_is_number (hr) (by rfl) T.g_is_number T.k_is_number b_is_number .nil (fun _ => .nil) pass0 (ga_cons (gv 0) ga_nil)) (ge_one (ge_chain op_le op_le sim_le sim_le (gv 1) (gv 0) (gv 2)))))), fun svs m SX Sv h => ?_⟩)
  · unfold spWhole at h
    split at h <;> first | rfl | exact h.elim
  · unfold spWhole at h
    split at h
    · obtain ⟨ht, q⟩ := h
      walk_at "r"
      refine ⟨ht, ?_⟩
      walk_at "r"
      refine Br_i (fun h1 => ?_) (fun h1 => ?_)
      · rename_i x _ _
        cases x <;> first | (cases h1; done) | skip
        walk_at "r"
        refine Br_i (fun h2 => ?_) (fun h2 => ?_)
        · walk_at "r"
          unfold isWh at q
          simp only at q
          rw [h2, Bool.true_and] at q
          exact .of q
        · unfold isWh at q
          simp only at q
          rw [h2, Bool.false_and] at q
          exact .of q
      · rename_i x _ _
        cases x <;> first | exact .of q | (cases h1; done)
    · exact h.elim
theorem ok_is_tuple_of (T : Tx K mg) : FnOk P w K mg base CX0 1 (He.ga K "is_tuple_of") T.fd_is_tuple_of ["x", "many"] (lift K spTupN) := by
  refine fn_sy T.F_is_tuple_of sc_is_tuple_of (fun svs m SX Sv h => ?_) (fun cdv A outer s H E hr => ⟨_, _, (gss_one (gs_ret (ge_and (ge_callB (cr_isi K) sim_isi (by rfl) T.z_isinstance (by decide +kernel) (ga_cons (gv 0) (ga_cons (ge_ty (n := "tuple") (by rfl) T.z_tuple (by decide +kernel)) ga_nil))) (ge_one (ge_cmp (op_eqG K hr.units) sim_eq (ge_callB (cr_len K) sim_len (by rfl) T.z_len (by decide +kernel) (ga_cons (gv 0) ga_nil)) (gv 1) (nomark _)))))), fun svs m SX Sv h => ?_⟩)
  · unfold spTupN at h
    split at h <;> first | rfl | exact h.elim
  · unfold spTupN at h
    split at h
    · obtain ⟨⟨t, ht⟩, q⟩ := h
      walk_at "r"
      refine ⟨by decide, t, ht, ?_⟩
      walk_at "r"
      refine Br_i (fun h1 => ?_) (fun h1 => ?_)
      · rename_i x n
        cases x <;> first
          | (exact (show False from ht).elim)
          | (cases (show t = _ from ht); first | (cases h1; done) | skip)
          | (obtain ⟨rfl, _⟩ := (show t = "list" ∧ _ from ht); cases h1; done)
        walk_at "r"
        refine ⟨_, rfl, ?_⟩
        walk_at "r"
        exact .of q
      · rename_i x n
        cases x <;> first
          | exact .of q
          | (cases (show t = _ from ht); cases h1; done)
    · exact h.elim
theorem ok_is_tuple_up_to (T : Tx K mg) : FnOk P w K mg base CX0 1 (He.ga K "is_tuple_up_to") T.fd_is_tuple_up_to ["x", "most"] (lift K spTupU) := by
  refine fn_sy T.F_is_tuple_up_to sc_is_tuple_up_to (fun svs m SX Sv h => ?_) (fun cdv A outer s H E hr => ⟨_, _, (gss_one (gs_ret (ge_and (ge_callB (cr_isi K) sim_isi (by rfl) T.z_isinstance (by decide +kernel) (ga_cons (gv 0) (ga_cons (ge_ty (n := "tuple") (by rfl) T.z_tuple (by decide +kernel)) ga_nil))) (ge_one (ge_cmp op_le sim_le (ge_callB (cr_len K) sim_len (by rfl) T.z_len (by decide +kernel) (ga_cons (gv 0) ga_nil)) (gv 1) (nomark _)))))), fun svs m SX Sv h => ?_⟩)
  · unfold spTupU at h
    split at h <;> first | rfl | exact h.elim
  · unfold spTupU at h
    split at h
    · obtain ⟨⟨t, ht⟩, q⟩ := h
      walk_at "r"
      refine ⟨by decide, t, ht, ?_⟩
      walk_at "r"
      refine Br_i (fun h1 => ?_) (fun h1 => ?_)
      · rename_i x n
        cases x <;> first
          | (exact (show False from ht).elim)
          | (cases (show t = _ from ht); first | (cases h1; done) | skip)
          | (obtain ⟨rfl, _⟩ := (show t = "list" ∧ _ from ht); cases h1; done)
        walk_at "r"
        refine ⟨_, rfl, ?_⟩
        walk_at "r"
        exact .of q
      · rename_i x n
        cases x <;> first
          | exact .of q
          | (cases (show t = _ from ht); cases h1; done)
    · exact h.elim
end
end Hn

set_option Elab.async false
set_option linter.all false
set_option maxRecDepth 100000
set_option maxHeartbeats 8000000
namespace Hn
open PySem PySem.Spec PyProof.Rows L2 Sy Lm
section
variable {P : Program} {w : World} {K : PySem.W.Frag} {mg : Str → Option Value} {base : Heap}
local macro_rules | `(tactic| walk_at "r") => `(tactic| (conv => whnf))
local macro_rules | `(tactic| walk_at "sp") => `(tactic| (first | rfl | contradiction | exact (False.elim ‹_›)))
local macro_rules | `(tactic| walk_at "len") => `(tactic| (exact Nat.le_trans (show _ ≤ 100000 by first | (simp; done) | (rw [rngS_length]; decide)) (by decide)))
local macro_rules | `(tactic| walk_at "f") => `(tactic| (refine Br_i (fun hb => Bool.noConfusion (show false = true from hb)) (fun _ => ?_)))
local macro_rules | `(tactic| walk_at "t") => `(tactic| (refine Br_i (fun _ => ?_) (fun hb => Bool.noConfusion (show true = false from hb))))
local macro_rules | `(tactic| walk_at "le") => `(tactic| first | exact Le.refl _ | (refine Le.put ?_; walk_at "le") | (refine Le.new ?_ (by assumption); walk_at "le"))
def neI : SV → SV → Bool
  | .int a, .int b => !decide (a = b)
  | _, _ => false
def isStr : SV → Bool
  | .tup [x, y] => isWh x 0 23 && (isWh y 0 23 && neI x y)
  | _ => false
theorem wh_int {d : SV} {lo hi : Int} (h : isWh d lo hi = true) : ∃ i, d = .int i ∧ lo ≤ i ∧ i ≤ hi := by
  cases d with
  | int i =>
    simp [isWh] at h
    exact ⟨i, rfl, h.1, h.2⟩
  | _ => cases h
theorem tup2 {x : SV} (h : isTupN x 2 = true) : ∃ a b, x = .tup [a, b] := by
  cases x with
  | tup xs => rcases xs with _ | ⟨a, _ | ⟨b, _ | ⟨c, r⟩⟩⟩ <;> first | exact ⟨_, _, rfl⟩ | (simp [isTupN] at h; done) | (simp [isTupN] at h; omega)
  | _ => cases h
theorem not_tup2 {x : SV} (h : isTupN x 2 = false) : isStr x = false := by
  cases x with
  | tup xs => rcases xs with _ | ⟨a, _ | ⟨b, _ | ⟨c, r⟩⟩⟩ <;> first | rfl | (simp [isTupN] at h; done)
  | _ => rfl
def spStr : SpS := fun vs m _ S => match vs with
  | [x] => DD m x ∧ S (.bl (isStr x)) m
  | _ => False
def canHush : SV → Bool
  | .tup xs => decide ((xs.length : Int) ≤ 3) && xs.all isStr
  | _ => false
def spHush : SpS := fun vs m _ S => match vs with
  | [x] => DD m x ∧ S (.bl (canHush x)) m
  | _ => False
def gath : Int → List SV → Bool
  | _, [] => true
  | lo, .tup [.int k, s] :: r => isWh (.int k) lo 7 && isWh s 1 12 && gath (k + 1) r
  | _, _ :: _ => false
def canGath : SV → Bool
  | .tup ds => decide ((ds.length : Int) ≤ 4) && gath 0 ds
  | _ => false
def spGath : SpS := fun vs m _ S => match vs with
  | [x] => DD m x ∧ S (.bl (canGath x)) m
  | _ => False
theorem line_le {n : Nat} (h : n ≤ 100000) : n ≤ sizeLine := Nat.le_trans h (by decide)
theorem ok_is_stretch (T : Tx K mg) : FnOk P w K mg base CX0 3 (He.ga K "is_stretch") T.fd_is_stretch ["x"] (lift K spStr) := by
  have G_is_tuple_of := ok_is_tuple_of (P := P) (w := w) (base := base) T
  have b_is_tuple_of := b_is_tuple_of T
  have G_is_whole := ok_is_whole (P := P) (w := w) (base := base) T
  have b_is_whole := b_is_whole T
  refine fn_sy T.F_is_stretch sc_is_stretch (fun svs m SX Sv h => ?_) (fun cdv A outer s H E hr => ⟨_, _, (gss_cons (gs_if (gt_not (gt_val (ge_call G_is_tuple_of (hr.mono (by decide)) (by rfl) T.g_is_tuple_of T.k_is_tuple_of b_is_tuple_of .nil (fun _ => .nil) pass0 (ga_cons (gv 0) (ga_cons ge_int ga_nil))))) (gss_one (gs_ret ge_bl)) gss_nil)
      (gss_cons (gs_asg (gv 0) (gg_tup 2 (by rfl) (ggs_cons (gg_name (i := 1) sc_is_stretch.nd rfl (.inl rfl)) (ggs_cons (gg_name (i := 2) sc_is_stretch.nd rfl (.inl rfl)) ggs_nil))))
      (gss_one (gs_ret (ge_and (ge_call G_is_whole (hr) (by rfl) T.g_is_whole T.k_is_whole b_is_whole .nil (fun _ => .nil) pass0 (ga_cons (gv 1) (ga_cons ge_int (ga_cons (ge_gi (by rfl) T.i_LAST_HOUR) ga_nil)))) (ge_and (ge_call G_is_whole (hr) (by rfl) T.g_is_whole T.k_is_whole b_is_whole .nil (fun _ => .nil) pass0 (ga_cons (gv 2) (ga_cons ge_int (ga_cons (ge_gi (by rfl) T.i_LAST_HOUR) ga_nil)))) (ge_one (ge_cmp (op_neG K hr.units) sim_ne (gv 1) (gv 2) (nomark _))))))))), fun svs m SX Sv h => ?_⟩)
  · unfold spStr at h
    split at h <;> first | rfl | exact h.elim
  · unfold spStr at h
    split at h
    · rename_i x
      obtain ⟨hd, q⟩ := h
      walk_at "r"
      refine ⟨hd.dat, ?_⟩
      walk_at "r"
      refine Br_i (fun h1 => ?_) (fun h1 => ?_)
      · walk_at "r"
        rw [not_tup2 (by simpa using h1)] at q
        exact .of q
      · obtain ⟨a, b, rfl⟩ := tup2 (by simpa using h1)
        cases hd with
        | tup hd =>
          walk_at "r"
          refine ⟨rfl, ?_⟩
          walk_at "r"
          refine ⟨(hd.mem (by simp)).dat, ?_⟩
          walk_at "r"
          refine Br_i (fun h2 => ?_) (fun h2 => ?_)
          · walk_at "r"
            refine ⟨(hd.mem (by simp)).dat, ?_⟩
            walk_at "r"
            refine Br_i (fun h3 => ?_) (fun h3 => ?_)
            · obtain ⟨i, rfl, _⟩ := wh_int h2
              obtain ⟨j, rfl, _⟩ := wh_int h3
              walk_at "r"
              rw [show isStr (.tup [.int i, .int j]) = !decide (i = j) by simp only [isStr, h2, h3, Bool.true_and, neI]] at q
              exact .of q
            · rw [show isStr (.tup [a, b]) = false by simp only [isStr, h2, h3, Bool.true_and, Bool.false_and]] at q
              exact .of q
          · rw [show isStr (.tup [a, b]) = false by simp only [isStr, h2, Bool.false_and]] at q
            exact .of q
    · exact h.elim
theorem ok_can_be_hushed (T : Tx K mg) : FnOk P w K mg base CX0 4 (He.ga K "can_be_hushed") T.fd_can_be_hushed ["hushed"] (lift K spHush) := by
  have G_is_stretch := ok_is_stretch (P := P) (w := w) (base := base) T
  have b_is_stretch := b_is_stretch T
  have G_is_tuple_up_to := ok_is_tuple_up_to (P := P) (w := w) (base := base) T
  have b_is_tuple_up_to := b_is_tuple_up_to T
  refine fn_sy T.F_can_be_hushed sc_can_be_hushed (fun svs m SX Sv h => ?_) (fun cdv A outer s H E hr => ⟨_, _, (gss_one (gs_ret (ge_and (ge_call G_is_tuple_up_to (hr.mono (by decide)) (by rfl) T.g_is_tuple_up_to T.k_is_tuple_up_to b_is_tuple_up_to .nil (fun _ => .nil) pass0 (ga_cons (gv 0) (ga_cons (ge_gi (by rfl) T.i_MOST_STRETCHES) ga_nil))) (ge_one (ge_callB (cr_allG K) sim_all (by rfl) T.z_all (by decide +kernel) (ga_cons (ge_lc (own := [("x", 1)]) (by rfl) sc_can_be_hushed.nd (gi_seq (gv 0)) (blkOk_by (own := [("x", 1)]) (N := ["hushed", "x"]) (sc := (defScope s_can_be_hushed)) (by decide +kernel)) (fun _ _ _ _ _ => (gg_name (i := 1) sc_can_be_hushed.nd rfl (.inl rfl))) (wp_name (by decide)) (fun _ _ _ _ _ => gts_nil) (fun _ _ _ _ _ => (ge_call G_is_stretch (hr) (by rfl) T.g_is_stretch T.k_is_stretch b_is_stretch .nil (fun _ => .nil) pass0 (ga_cons (gv 1) ga_nil)))) ga_nil)))))), fun svs m SX Sv h => ?_⟩)
  · unfold spHush at h
    split at h <;> first | rfl | exact h.elim
  · unfold spHush at h
    split at h
    · rename_i x
      obtain ⟨hd, q⟩ := h
      walk_at "r"
      refine ⟨hd.dat, ?_⟩
      walk_at "r"
      refine Br_i (fun h1 => ?_) (fun h1 => ?_)
      · cases x with
        | tup xs =>
          have hl : xs.length ≤ 3 := by simp [isTupU] at h1; omega
          cases hd with
          | tup hd =>
            walk_at "r"
            refine ⟨xs, rfl, line_le (by omega), fun p hp => ?_⟩
            refine lc_map (fun x => .bl (isStr x)) (fun _ => trivial) (fun x hx acc K1 k => ?_) ?_
            · walk_at "r"
              exact ⟨(hd.mem hx).le (Le.new (.refl m) hp), k _ (.refl _)⟩
            · walk_at "r"
              refine ⟨xs.map isStr, ?_, ?_⟩
              · walk_at "r"
                rw [up_same, List.map_map]
                rfl
              · refine ⟨m, Le.new (.refl m) hp, ?_⟩
                rw [show canHush (.tup xs) = (xs.map isStr).all id by
                  show (decide ((xs.length : Int) ≤ 3) && xs.all isStr) = _
                  rw [decide_eq_true (by omega), Bool.true_and, List.all_map]
                  rfl] at q
                exact q
        | _ => cases h1
      · rw [show canHush x = false by
          cases x <;> first | rfl | (show (decide _ && _) = false; rw [show decide _ = false from h1, Bool.false_and])] at q
        exact .of q
    · exact h.elim
end
end Hn

set_option Elab.async false
set_option linter.all false
set_option maxRecDepth 100000
set_option maxHeartbeats 8000000
namespace Hn
open PySem PySem.Spec PyProof.Rows L2 Sy Lm
section
variable {P : Program} {w : World} {K : PySem.W.Frag} {mg : Str → Option Value} {base : Heap}
local macro_rules | `(tactic| walk_at "r") => `(tactic| (conv => whnf))
local macro_rules | `(tactic| walk_at "sp") => `(tactic| (first | rfl | contradiction | exact (False.elim ‹_›)))
local macro_rules | `(tactic| walk_at "len") => `(tactic| (exact Nat.le_trans (show _ ≤ 100000 by first | (simp; done) | (rw [rngS_length]; decide)) (by decide)))
local macro_rules | `(tactic| walk_at "f") => `(tactic| (refine Br_i (fun hb => Bool.noConfusion (show false = true from hb)) (fun _ => ?_)))
local macro_rules | `(tactic| walk_at "t") => `(tactic| (refine Br_i (fun _ => ?_) (fun hb => Bool.noConfusion (show true = false from hb))))
local macro_rules | `(tactic| walk_at "le") => `(tactic| first | exact Le.refl _ | (refine Le.put ?_; walk_at "le") | (refine Le.new ?_ (by assumption); walk_at "le"))
theorem gath_tup {lo : Int} {x : SV} {r : List SV} (h : isTupN x 2 = false) : gath lo (x :: r) = false := by
  cases x with
  | tup xs => rcases xs with _ | ⟨a, _ | ⟨b, _ | ⟨c, q⟩⟩⟩ <;> first | rfl | (simp [isTupN] at h; done) | (cases a <;> rfl)
  | _ => rfl
theorem ok_can_be_gather (T : Tx K mg) : FnOk P w K mg base CX0 3 (He.ga K "can_be_gather") T.fd_can_be_gather ["gather"] (lift K spGath) := by
  have G_is_tuple_of := ok_is_tuple_of (P := P) (w := w) (base := base) T
  have b_is_tuple_of := b_is_tuple_of T
  have G_is_tuple_up_to := ok_is_tuple_up_to (P := P) (w := w) (base := base) T
  have b_is_tuple_up_to := b_is_tuple_up_to T
  have G_is_whole := ok_is_whole (P := P) (w := w) (base := base) T
  have b_is_whole := b_is_whole T
  refine fn_sy T.F_can_be_gather sc_can_be_gather (fun svs m SX Sv h => ?_) (fun cdv A outer s H E hr => ⟨_, _, (gss_cons (gs_if (gt_not (gt_val (ge_call G_is_tuple_up_to (hr.mono (by decide)) (by rfl) T.g_is_tuple_up_to T.k_is_tuple_up_to b_is_tuple_up_to .nil (fun _ => .nil) pass0 (ga_cons (gv 0) (ga_cons (ge_gi (by rfl) T.i_MOST_GATHERED) ga_nil))))) (gss_one (gs_ret ge_bl)) gss_nil)
      (gss_cons (gs_set (i := 1) sc_can_be_gather.nd rfl (.inl rfl) ge_int)
      (gss_cons (gs_for PassesOwn.never rfl (gi_seq (gv 0)) (gg_name (i := 2) sc_can_be_gather.nd rfl (.inl rfl))
      (gss_cons (gs_if (gt_not (gt_val (ge_call G_is_tuple_of (hr.mono (by decide)) (by rfl) T.g_is_tuple_of T.k_is_tuple_of b_is_tuple_of .nil (fun _ => .nil) pass0 (ga_cons (gv 2) (ga_cons ge_int ga_nil))))) (gss_one (gs_ret ge_bl)) gss_nil)
      (gss_cons (gs_asg (gv 2) (gg_tup 2 (by rfl) (ggs_cons (gg_name (i := 3) sc_can_be_gather.nd rfl (.inl rfl)) (ggs_cons (gg_name (i := 4) sc_can_be_gather.nd rfl (.inl rfl)) ggs_nil))))
      (gss_cons (gs_if (gw_pt (gw_or (gt_not (gt_val (ge_call G_is_whole (hr) (by rfl) T.g_is_whole T.k_is_whole b_is_whole .nil (fun _ => .nil) pass0 (ga_cons (gv 3) (ga_cons (gv 1) (ga_cons (ge_gi (by rfl) T.i_LAST_KIND) ga_nil)))))) (gw_or1 (gt_not (gt_val (ge_call G_is_whole (hr) (by rfl) T.g_is_whole T.k_is_whole b_is_whole .nil (fun _ => .nil) pass0 (ga_cons (gv 4) (ga_cons ge_int (ga_cons (ge_gi (by rfl) T.i_MOST_SPAN) ga_nil))))))))) (gss_one (gs_ret ge_bl)) gss_nil)
      (gss_one (gs_set (i := 1) sc_can_be_gather.nd rfl (.inl rfl) (ge_op (op_addG K) sim_add (gv 3) ge_int)))))))
      (gss_one (gs_ret ge_bl))))), fun svs m SX Sv h => ?_⟩)
  · unfold spGath at h
    split at h <;> first | rfl | exact h.elim
  · unfold spGath at h
    split at h
    · rename_i x
      obtain ⟨hd, q⟩ := h
      walk_at "r"
      refine ⟨hd.dat, ?_⟩
      walk_at "r"
      refine Br_i (fun h1 => ?_) (fun h1 => ?_)
      · walk_at "r"
        rw [show canGath x = false by
          cases x <;> first | rfl | (show (decide _ && _) = false; rw [show decide _ = false by simpa [isTupU] using h1, Bool.false_and])] at q
        exact .of q
      · obtain ⟨xs, rfl⟩ : ∃ xs, x = .tup xs := by cases x <;> first | exact ⟨_, rfl⟩ | (cases h1; done)
        have hl : xs.length ≤ 4 := by simp [isTupU] at h1; omega
        have hg : canGath (.tup xs) = gath 0 xs := by
          show (decide ((xs.length : Int) ≤ 4) && gath 0 xs) = _
          rw [decide_eq_true (by omega), Bool.true_and]
        cases hd with
        | tup hd =>
          walk_at "r"
          refine ⟨xs, rfl, ?_⟩
          walk_at "r"
          refine for_inv (fun r δ m' => m' = m ∧ ∃ lo a b c, δ = [some (.tup xs), some (.int lo), a, b, c] ∧ gath lo r = gath 0 xs ∧ DDs m r) ⟨rfl, 0, none, none, none, rfl, rfl, hd⟩ (fun x r δ m' h => ?_) (fun δ m' h => ?_)
          · obtain ⟨rfl, lo, a, b, c, rfl, hr, hdr⟩ := h
            refine ⟨trivial, ?_⟩
            cases hdr with
            | cons hdx hdr =>
              walk_at "r"
              refine ⟨hdx.dat, ?_⟩
              walk_at "r"
              refine Br_i (fun h2 => ?_) (fun h2 => ?_)
              · walk_at "r"
                rw [hg, ← hr, gath_tup (by simpa using h2)] at q
                exact .of q
              · obtain ⟨k, s, rfl⟩ := tup2 (by simpa using h2)
                cases hdx with
                | tup hks =>
                  walk_at "r"
                  refine ⟨rfl, ?_⟩
                  walk_at "r"
                  refine ⟨(hks.mem (by simp)).dat, ?_⟩
                  have stop : (isWh k lo 7 && isWh s 1 12) = false → Fg (Sv (.bl false)) m' := fun e => by
                    rw [hg, ← hr, show gath lo (.tup [k, s] :: r) = false by
                      cases k <;> first | rfl | (show (isWh _ lo 7 && isWh s 1 12 && _) = false; rw [e, Bool.false_and])] at q
                    exact .of q
                  walk_at "r"
                  refine Br_i (fun h3 => ?_) (fun h3 => ?_)
                  · walk_at "r"
                    exact Br_t (by walk_at "r"; exact stop (by rw [show isWh k lo 7 = false by simpa using h3, Bool.false_and]))
                  · walk_at "r"
                    refine ⟨(hks.mem (by simp)).dat, ?_⟩
                    walk_at "r"
                    refine Br_i (fun h4 => ?_) (fun h4 => ?_)
                    · walk_at "r"
                      exact stop (by rw [show isWh s 1 12 = false by simpa using h4, Bool.and_false])
                    · have h3 : isWh k lo 7 = true := by simpa using h3
                      have h4 : isWh s 1 12 = true := by simpa using h4
                      obtain ⟨i, rfl, _⟩ := wh_int h3
                      walk_at "r"
                      refine .of ⟨rfl, i + 1, _, _, _, rfl, ?_, hdr⟩
                      rw [← hr]
                      show _ = (isWh (.int i) lo 7 && isWh s 1 12 && gath (i + 1) r)
                      rw [h3, h4]
                      rfl
          · obtain ⟨rfl, lo, a, b, c, rfl, hr, hdr⟩ := h
            refine ⟨trivial, ?_⟩
            walk_at "r"
            rw [hg, ← hr] at q
            exact .of q
    · exact h.elim
end
end Hn

set_option Elab.async false
set_option linter.all false
set_option maxRecDepth 100000
set_option maxHeartbeats 8000000
namespace Hn
open PySem PySem.Spec PyProof.Rows L2 Sy Lm
section
variable {P : Program} {w : World} {K : PySem.W.Frag} {mg : Str → Option Value} {base : Heap}
local macro_rules | `(tactic| walk_at "r") => `(tactic| (conv => whnf))
local macro_rules | `(tactic| walk_at "sp") => `(tactic| (first | rfl | contradiction | exact (False.elim ‹_›)))
local macro_rules | `(tactic| walk_at "len") => `(tactic| (exact Nat.le_trans (show _ ≤ 100000 by first | (simp; done) | (rw [rngS_length]; decide)) (by decide)))
local macro_rules | `(tactic| walk_at "f") => `(tactic| (refine Br_i (fun hb => Bool.noConfusion (show false = true from hb)) (fun _ => ?_)))
local macro_rules | `(tactic| walk_at "t") => `(tactic| (refine Br_i (fun _ => ?_) (fun hb => Bool.noConfusion (show true = false from hb))))
local macro_rules | `(tactic| walk_at "le") => `(tactic| first | exact Le.refl _ | (refine Le.put ?_; walk_at "le") | (refine Le.new ?_ (by assumption); walk_at "le"))
def firstF : List Bool → Option Nat
  | [] => none
  | false :: _ => some 0
  | true :: r => (firstF r).map (· + 1)
theorem firstF_none : ∀ {bs : List Bool}, firstF bs = none ↔ bs.all id = true
  | [] => by simp [firstF]
  | false :: r => by simp [firstF]
  | true :: r => by simp [firstF, firstF_none (bs := r)]
theorem firstF_some : ∀ {bs : List Bool} {j : Nat}, firstF bs = some j → bs[j]? = some false ∧ ∀ i, i < j → bs[i]? = some true
  | [], _, h => by simp [firstF] at h
  | false :: r, j, h => by
    simp [firstF] at h
    subst h
    exact ⟨rfl, fun i hi => absurd hi (Nat.not_lt_zero _)⟩
  | true :: r, j, h => by
    simp only [firstF, Option.map_eq_some_iff] at h
    obtain ⟨k, h1, rfl⟩ := h
    obtain ⟨h2, h3⟩ := firstF_some h1
    refine ⟨by simpa using h2, fun i hi => ?_⟩
    cases i with
    | zero => rfl
    | succ i => simpa using h3 i (by omega)
def optV : Option Int → SV
  | none => .non
  | some i => .int i
def fitsOf (h l g w f : SV) (many : Int) : List Bool := [canHush h, isWh l 0 4, canGath g, isNon w || isWh w 1 24, isNon f || isWh f 0 (many - 1)]
def firstB (x : SV) (many : Int) : Option Int := match x with
  | .tup [h, l, g, w, f] => (firstF (fitsOf h l g w f many)).map fun (j : Nat) => (j : Int)
  | _ => some (-1)
def spFirst : SpS := fun vs m _ S => match vs with
  | [x, .int many] => DD m x ∧ S (optV (firstB x many)) m
  | _ => False
theorem tup5 {x : SV} (h : isTupN x 5 = true) : ∃ a b c d e, x = .tup [a, b, c, d, e] := by
  cases x with
  | tup xs => rcases xs with _ | ⟨a, _ | ⟨b, _ | ⟨c, _ | ⟨d, _ | ⟨e, _ | ⟨f, r⟩⟩⟩⟩⟩⟩ <;> first | exact ⟨_, _, _, _, _, rfl⟩ | (simp [isTupN] at h; done) | (simp [isTupN] at h; omega)
  | _ => cases h
theorem not_tup5 {x : SV} {many : Int} (h : isTupN x 5 = false) : firstB x many = some (-1) := by
  cases x with
  | tup xs => rcases xs with _ | ⟨a, _ | ⟨b, _ | ⟨c, _ | ⟨d, _ | ⟨e, _ | ⟨f, r⟩⟩⟩⟩⟩⟩ <;> first | rfl | (simp [isTupN] at h; done)
  | _ => rfl
theorem flat_bls : ∀ bs : List Bool, (bs.map SV.bl).all flatS = true
  | [] => rfl
  | _ :: r => by rw [List.map_cons, List.all_cons, flat_bls r]; rfl
theorem ok_first_bad_part (T : Tx K mg) : FnOk P w K mg base CX0 5 (He.ga K "first_bad_part") T.fd_first_bad_part ["row", "many"] (lift K spFirst) := by
  have G_can_be_gather := ok_can_be_gather (P := P) (w := w) (base := base) T
  have b_can_be_gather := b_can_be_gather T
  have G_can_be_hushed := ok_can_be_hushed (P := P) (w := w) (base := base) T
  have b_can_be_hushed := b_can_be_hushed T
  have G_is_tuple_of := ok_is_tuple_of (P := P) (w := w) (base := base) T
  have b_is_tuple_of := b_is_tuple_of T
  have G_is_whole := ok_is_whole (P := P) (w := w) (base := base) T
  have b_is_whole := b_is_whole T
  refine fn_sy T.F_first_bad_part sc_first_bad_part (fun svs m SX Sv h => ?_) (fun cdv A outer s H E hr => ⟨_, _, (gss_cons (gs_if (gt_not (gt_val (ge_call G_is_tuple_of (hr.mono (by decide)) (by rfl) T.g_is_tuple_of T.k_is_tuple_of b_is_tuple_of .nil (fun _ => .nil) pass0 (ga_cons (gv 0) (ga_cons (ge_gi (by rfl) T.i_MANY_PARTS) ga_nil))))) (gss_one (gs_ret (ge_gi (by rfl) T.i_NO_PART))) gss_nil)
      (gss_cons (gs_asg (gv 0) (gg_tup 5 (by rfl) (ggs_cons (gg_name (i := 2) sc_first_bad_part.nd rfl (.inl rfl)) (ggs_cons (gg_name (i := 3) sc_first_bad_part.nd rfl (.inl rfl)) (ggs_cons (gg_name (i := 4) sc_first_bad_part.nd rfl (.inl rfl)) (ggs_cons (gg_name (i := 5) sc_first_bad_part.nd rfl (.inl rfl)) (ggs_cons (gg_name (i := 6) sc_first_bad_part.nd rfl (.inl rfl)) ggs_nil)))))))
      (gss_cons (gs_set (i := 7) sc_first_bad_part.nd rfl (.inl rfl) (ge_lst (ga_cons (ge_call G_can_be_hushed (hr) (by rfl) T.g_can_be_hushed T.k_can_be_hushed b_can_be_hushed .nil (fun _ => .nil) pass0 (ga_cons (gv 2) ga_nil)) (ga_cons (ge_call G_is_whole (hr.mono (by decide)) (by rfl) T.g_is_whole T.k_is_whole b_is_whole .nil (fun _ => .nil) pass0 (ga_cons (gv 3) (ga_cons ge_int (ga_cons (ge_gi (by rfl) T.i_MOST_LEAST) ga_nil)))) (ga_cons (ge_call G_can_be_gather (hr.mono (by decide)) (by rfl) T.g_can_be_gather T.k_can_be_gather b_can_be_gather .nil (fun _ => .nil) pass0 (ga_cons (gv 4) ga_nil)) (ga_cons (ge_or (ge_cmp op_isN sim_isN (gv 5) ge_non (nomark _)) (ge_one (ge_call G_is_whole (hr.mono (by decide)) (by rfl) T.g_is_whole T.k_is_whole b_is_whole .nil (fun _ => .nil) pass0 (ga_cons (gv 5) (ga_cons ge_int (ga_cons (ge_gi (by rfl) T.i_MOST_WAIT) ga_nil)))))) (ga_cons (ge_or (ge_cmp op_isN sim_isN (gv 6) ge_non (nomark _)) (ge_one (ge_call G_is_whole (hr.mono (by decide)) (by rfl) T.g_is_whole T.k_is_whole b_is_whole .nil (fun _ => .nil) pass0 (ga_cons (gv 6) (ga_cons ge_int (ga_cons (ge_op op_sub sim_sub (gv 1) ge_int) ga_nil)))))) ga_nil)))))))
      (gss_cons (gs_if (gt_val (ge_callB (cr_allG K) sim_all (by rfl) T.z_all (by decide +kernel) (ga_cons (gv 7) ga_nil))) (gss_one (gs_ret ge_non)) gss_nil)
      (gss_one (gs_ret (ge_bm PySem.F.plainAttrs_list PySem.F.slot_list_index PySem.F.type_list_index (mt_indexG K) simk_L sim_index (gv 7) (ga_cons ge_bl ga_nil)))))))), fun svs m SX Sv h => ?_⟩)
  · unfold spFirst at h
    split at h <;> first | rfl | exact h.elim
  · unfold spFirst at h
    split at h
    · rename_i x many
      obtain ⟨hd, q⟩ := h
      walk_at "r"
      refine ⟨hd.dat, ?_⟩
      walk_at "r"
      refine Br_i (fun h1 => ?_) (fun h1 => ?_)
      · walk_at "r"
        rw [not_tup5 (by simpa using h1)] at q
        exact .of q
      · obtain ⟨a, b, c, d, e, rfl⟩ := tup5 (by simpa using h1)
        cases hd with
        | tup hd =>
          have da := hd.mem (x := a) (by simp)
          have db := hd.mem (x := b) (by simp)
          have dc := hd.mem (x := c) (by simp)
          have dd := hd.mem (x := d) (by simp)
          have de := hd.mem (x := e) (by simp)
          have q : Sv (optV ((firstF (fitsOf a b c d e many)).map fun (j : Nat) => (j : Int))) m := q
          walk_at "r"
          refine ⟨rfl, ?_⟩
          walk_at "r"
          refine ⟨da, ?_⟩
          walk_at "r"
          refine ⟨db.dat, ?_⟩
          walk_at "r"
          refine ⟨dc, ?_⟩
          have last : ∀ (bw bf : Bool), bw = (isNon d || isWh d 1 24) → bf = (isNon e || isWh e 0 (many - 1)) → ∀ p, m p = none → ∀ (bs : List Bool), bs = [canHush a, isWh b 0 4, canGath c, bw, bf] → (bs.all id = true → Fg (Sv .non) (up m p (.lst (bs.map .bl)))) ∧ (bs.all id = false → ∃ j : Nat, bs[j]? = some false ∧ (∀ i, i < j → bs[i]? = some true) ∧ Fg (Sv (.int j)) (up m p (.lst (bs.map .bl)))) := by
            intro bw bf e1 e2 p hp bs e3
            have e4 : fitsOf a b c d e many = bs := by rw [e3, e1, e2]; rfl
            rw [e4] at q
            refine ⟨fun ha => ?_, fun ha => ?_⟩
            · rw [firstF_none.mpr ha] at q
              exact ⟨m, .new (.refl m) hp, q⟩
            · cases hj : firstF bs with
              | none => rw [firstF_none.mp hj] at ha; cases ha
              | some j =>
                obtain ⟨h2, h3⟩ := firstF_some hj
                rw [hj] at q
                exact ⟨j, h2, h3, m, .new (.refl m) hp, q⟩
          refine Br_i (fun h2 => ?_) (fun h2 => ?_)
          · walk_at "r"
            refine Br_i (fun h3 => ?_) (fun h3 => ?_)
            · walk_at "r"
              refine ⟨by walk_at "len", fun p hp => ?_⟩
              obtain ⟨l1, l2⟩ := last (true) (true) (by rw [h2]; rfl) (by rw [h3]; rfl) p hp _ rfl
              walk_at "r"
              refine ⟨[canHush a, isWh b 0 4, canGath c, true, true], ?_, ?_⟩
              · walk_at "r"
                rw [up_same]
                rfl
              walk_at "r"
              refine Br_i (fun h4 => ?_) (fun h4 => ?_)
              · walk_at "r"
                exact l1 h4
              · obtain ⟨j, h5, h6, h7⟩ := l2 h4
                walk_at "r"
                refine ⟨⟨_, up_same⟩, ?_⟩
                walk_at "r"
                refine ⟨_, j, .bl false, up_same, rfl, flat_bls [canHush a, isWh b 0 4, canGath c, true, true], ?_, rfl, fun i z hi hz => ?_, ?_⟩
                · show ([canHush a, isWh b 0 4, canGath c, true, true].map SV.bl)[j]? = _
                  rw [List.getElem?_map, h5]
                  rfl
                · have hz : ([canHush a, isWh b 0 4, canGath c, true, true].map SV.bl)[i]? = some z := hz
                  rw [List.getElem?_map, h6 i hi] at hz
                  cases hz
                  rfl
                · walk_at "r"
                  exact h7
            · walk_at "r"
              refine ⟨de.dat, ?_⟩
              walk_at "r"
              refine ⟨by walk_at "len", fun p hp => ?_⟩
              obtain ⟨l1, l2⟩ := last (true) (isWh e 0 (many - 1)) (by rw [h2]; rfl) (by rw [h3]; rfl) p hp _ rfl
              walk_at "r"
              refine ⟨[canHush a, isWh b 0 4, canGath c, true, isWh e 0 (many - 1)], ?_, ?_⟩
              · walk_at "r"
                rw [up_same]
                rfl
              walk_at "r"
              refine Br_i (fun h4 => ?_) (fun h4 => ?_)
              · walk_at "r"
                exact l1 h4
              · obtain ⟨j, h5, h6, h7⟩ := l2 h4
                walk_at "r"
                refine ⟨⟨_, up_same⟩, ?_⟩
                walk_at "r"
                refine ⟨_, j, .bl false, up_same, rfl, flat_bls [canHush a, isWh b 0 4, canGath c, true, isWh e 0 (many - 1)], ?_, rfl, fun i z hi hz => ?_, ?_⟩
                · show ([canHush a, isWh b 0 4, canGath c, true, isWh e 0 (many - 1)].map SV.bl)[j]? = _
                  rw [List.getElem?_map, h5]
                  rfl
                · have hz : ([canHush a, isWh b 0 4, canGath c, true, isWh e 0 (many - 1)].map SV.bl)[i]? = some z := hz
                  rw [List.getElem?_map, h6 i hi] at hz
                  cases hz
                  rfl
                · walk_at "r"
                  exact h7
          · walk_at "r"
            refine ⟨dd.dat, ?_⟩
            walk_at "r"
            refine Br_i (fun h3 => ?_) (fun h3 => ?_)
            · walk_at "r"
              refine ⟨by walk_at "len", fun p hp => ?_⟩
              obtain ⟨l1, l2⟩ := last (isWh d 1 24) (true) (by rw [h2]; rfl) (by rw [h3]; rfl) p hp _ rfl
              walk_at "r"
              refine ⟨[canHush a, isWh b 0 4, canGath c, isWh d 1 24, true], ?_, ?_⟩
              · walk_at "r"
                rw [up_same]
                rfl
              walk_at "r"
              refine Br_i (fun h4 => ?_) (fun h4 => ?_)
              · walk_at "r"
                exact l1 h4
              · obtain ⟨j, h5, h6, h7⟩ := l2 h4
                walk_at "r"
                refine ⟨⟨_, up_same⟩, ?_⟩
                walk_at "r"
                refine ⟨_, j, .bl false, up_same, rfl, flat_bls [canHush a, isWh b 0 4, canGath c, isWh d 1 24, true], ?_, rfl, fun i z hi hz => ?_, ?_⟩
                · show ([canHush a, isWh b 0 4, canGath c, isWh d 1 24, true].map SV.bl)[j]? = _
                  rw [List.getElem?_map, h5]
                  rfl
                · have hz : ([canHush a, isWh b 0 4, canGath c, isWh d 1 24, true].map SV.bl)[i]? = some z := hz
                  rw [List.getElem?_map, h6 i hi] at hz
                  cases hz
                  rfl
                · walk_at "r"
                  exact h7
            · walk_at "r"
              refine ⟨de.dat, ?_⟩
              walk_at "r"
              refine ⟨by walk_at "len", fun p hp => ?_⟩
              obtain ⟨l1, l2⟩ := last (isWh d 1 24) (isWh e 0 (many - 1)) (by rw [h2]; rfl) (by rw [h3]; rfl) p hp _ rfl
              walk_at "r"
              refine ⟨[canHush a, isWh b 0 4, canGath c, isWh d 1 24, isWh e 0 (many - 1)], ?_, ?_⟩
              · walk_at "r"
                rw [up_same]
                rfl
              walk_at "r"
              refine Br_i (fun h4 => ?_) (fun h4 => ?_)
              · walk_at "r"
                exact l1 h4
              · obtain ⟨j, h5, h6, h7⟩ := l2 h4
                walk_at "r"
                refine ⟨⟨_, up_same⟩, ?_⟩
                walk_at "r"
                refine ⟨_, j, .bl false, up_same, rfl, flat_bls [canHush a, isWh b 0 4, canGath c, isWh d 1 24, isWh e 0 (many - 1)], ?_, rfl, fun i z hi hz => ?_, ?_⟩
                · show ([canHush a, isWh b 0 4, canGath c, isWh d 1 24, isWh e 0 (many - 1)].map SV.bl)[j]? = _
                  rw [List.getElem?_map, h5]
                  rfl
                · have hz : ([canHush a, isWh b 0 4, canGath c, isWh d 1 24, isWh e 0 (many - 1)].map SV.bl)[i]? = some z := hz
                  rw [List.getElem?_map, h6 i hi] at hz
                  cases hz
                  rfl
                · walk_at "r"
                  exact h7
    · exact h.elim
end
end Hn

set_option Elab.async false
set_option linter.all false
set_option maxRecDepth 100000
set_option maxHeartbeats 8000000
namespace Hn
open PySem PySem.Spec PyProof.Rows L2 Sy Lm
section
variable {P : Program} {w : World} {K : PySem.W.Frag} {mg : Str → Option Value} {base : Heap}
local macro_rules | `(tactic| walk_at "r") => `(tactic| (conv => whnf))
local macro_rules | `(tactic| walk_at "sp") => `(tactic| (first | rfl | contradiction | exact (False.elim ‹_›)))
local macro_rules | `(tactic| walk_at "len") => `(tactic| (exact Nat.le_trans (show _ ≤ 100000 by first | (simp; done) | (rw [rngS_length]; decide)) (by decide)))
local macro_rules | `(tactic| walk_at "f") => `(tactic| (refine Br_i (fun hb => Bool.noConfusion (show false = true from hb)) (fun _ => ?_)))
local macro_rules | `(tactic| walk_at "t") => `(tactic| (refine Br_i (fun _ => ?_) (fun hb => Bool.noConfusion (show true = false from hb))))
local macro_rules | `(tactic| walk_at "le") => `(tactic| first | exact Le.refl _ | (refine Le.put ?_; walk_at "le") | (refine Le.new ?_ (by assumption); walk_at "le"))
structure PR where
  hs : List (Int × Int)
  least : Int
  gs : List (Int × Int)
  wait : Option Int
  fur : Option Int
def pairV (p : Int × Int) : SV := .tup [.int p.1, .int p.2]
def PR.sv (r : PR) : SV := .tup [.tup (r.hs.map pairV), .int r.least, .tup (r.gs.map pairV), optV r.wait, optV r.fur]
def gOk : Int → List (Int × Int) → Prop
  | _, [] => True
  | lo, p :: r => lo ≤ p.1 ∧ p.1 ≤ 7 ∧ 1 ≤ p.2 ∧ p.2 ≤ 12 ∧ gOk (p.1 + 1) r
structure PR.Ok (many : Nat) (r : PR) : Prop where
  hl : r.hs.length ≤ 3
  hs : ∀ p ∈ r.hs, (0 ≤ p.1 ∧ p.1 ≤ 23) ∧ (0 ≤ p.2 ∧ p.2 ≤ 23) ∧ p.1 ≠ p.2
  le : 0 ≤ r.least ∧ r.least ≤ 4
  gl : r.gs.length ≤ 4
  gs : gOk 0 r.gs
  wt : ∀ i, r.wait = some i → 1 ≤ i ∧ i ≤ 24
  fu : ∀ i, r.fur = some i → 0 ≤ i ∧ i < many
def RV (R : List PR) : SV := .tup (R.map PR.sv)
structure RulesOk (R : List PR) : Prop where
  one : 1 ≤ R.length
  six : R.length ≤ 6
  all : ∀ r ∈ R, r.Ok R.length
theorem wh_of {i lo hi : Int} (h1 : lo ≤ i) (h2 : i ≤ hi) : isWh (.int i) lo hi = true := by
  show (decide (lo ≤ i) && decide (i ≤ hi)) = true
  rw [decide_eq_true h1, decide_eq_true h2]
  rfl
theorem gath_of : ∀ (gs : List (Int × Int)) (lo : Int), gOk lo gs → gath lo (gs.map pairV) = true
  | [], _, _ => rfl
  | p :: r, lo, h => by
    obtain ⟨h1, h2, h3, h4, h5⟩ := h
    show (isWh (.int p.1) lo 7 && isWh (.int p.2) 1 12 && gath (p.1 + 1) (r.map pairV)) = true
    rw [wh_of h1 h2, wh_of h3 h4, gath_of r _ h5]
    rfl
theorem PR.Ok.good {many : Nat} {r : PR} (h : r.Ok many) : firstB r.sv (many : Int) = none := by
  have h1 : canHush (.tup (r.hs.map pairV)) = true := by
    have hl := h.hl
    show (decide (((r.hs.map pairV).length : Int) ≤ 3) && (r.hs.map pairV).all isStr) = true
    rw [decide_eq_true (by rw [List.length_map]; omega), Bool.true_and, List.all_map, List.all_eq_true]
    intro p hp
    obtain ⟨a, b, c⟩ := h.hs p hp
    show (isWh (.int p.1) 0 23 && (isWh (.int p.2) 0 23 && !decide (p.1 = p.2))) = true
    rw [wh_of a.1 a.2, wh_of b.1 b.2, decide_eq_false c]
    rfl
  have h2 : canGath (.tup (r.gs.map pairV)) = true := by
    have hl := h.gl
    show (decide (((r.gs.map pairV).length : Int) ≤ 4) && gath 0 (r.gs.map pairV)) = true
    rw [decide_eq_true (by rw [List.length_map]; omega), Bool.true_and]
    exact gath_of _ _ h.gs
  have h3 : isWh (.int r.least) 0 4 = true := wh_of h.le.1 h.le.2
  have h4 : (isNon (optV r.wait) || isWh (optV r.wait) 1 24) = true := by
    cases e : r.wait with
    | none => rfl
    | some i =>
      obtain ⟨a, b⟩ := h.wt i e
      show (false || isWh (.int i) 1 24) = true
      rw [wh_of a b]
      rfl
  have h5 : (isNon (optV r.fur) || isWh (optV r.fur) 0 ((many : Int) - 1)) = true := by
    cases e : r.fur with
    | none => rfl
    | some i =>
      obtain ⟨a, b⟩ := h.fu i e
      show (false || isWh (.int i) 0 ((many : Int) - 1)) = true
      rw [wh_of a (by omega)]
      rfl
  show ((firstF (fitsOf _ _ _ _ _ _)).map fun (j : Nat) => (j : Int)) = none
  rw [firstF_none.mpr]
  · rfl
  · unfold fitsOf
    rw [h1, h2, h3, h4, h5]
    rfl
theorem dd_opt {m : Mem} (o : Option Int) : DD m (optV o) := by cases o <;> constructor
theorem dd_pairs {m : Mem} (ps : List (Int × Int)) : DD m (.tup (ps.map pairV)) := .tup (.of fun x hx => by
  obtain ⟨p, _, rfl⟩ := List.mem_map.mp hx
  exact .tup (.cons (.int _) (.cons (.int _) .nil)))
theorem PR.dd {m : Mem} (r : PR) : DD m r.sv := .tup (.cons (dd_pairs _) (.cons (.int _) (.cons (dd_pairs _) (.cons (dd_opt _) (.cons (dd_opt _) .nil)))))
def spRules : SpS := fun vs m _ S => ∃ R, vs = [RV R] ∧ RulesOk R ∧ S .non m
theorem rv_get {R : List PR} {i : Nat} (h : i < R.length) : atI (R.map PR.sv) (i : Int) = some (R[i]).sv := atI_nat (by rw [List.getElem?_map, List.getElem?_eq_getElem h]; rfl)
theorem ok_refuse_bad_rules (T : Tx K mg) : FnOk P w K mg base CX0 6 (He.ga K "refuse_bad_rules") T.fd_refuse_bad_rules ["rules"] (lift K spRules) := by
  have G_first_bad_part := ok_first_bad_part (P := P) (w := w) (base := base) T
  have b_first_bad_part := b_first_bad_part T
  refine fn_sy T.F_refuse_bad_rules sc_refuse_bad_rules (fun svs m SX Sv h => ?_) (fun cdv A outer s H E hr => ⟨_, _, (gss_cons (gs_if (gw_pt (gw_or (gt_not (gt_val (ge_callB (cr_isi K) sim_isi (by rfl) T.z_isinstance (by decide +kernel) (ga_cons (gv 0) (ga_cons (ge_ty (n := "tuple") (by rfl) T.z_tuple (by decide +kernel)) ga_nil))))) (gw_or1 (gt_cmp (op_eqG K hr.units) sim_eq (ge_callB (cr_len K) sim_len (by rfl) T.z_len (by decide +kernel) (ga_cons (gv 0) ga_nil)) ge_int (nomark _))))) (gss_one gs_never) gss_nil)
      (gss_cons (gs_set (i := 1) sc_refuse_bad_rules.nd rfl (.inl rfl) (ge_callB (call_min2 rfl) sim_min2 (by rfl) T.z_min (by decide +kernel) (ga_cons (ge_callB (cr_len K) sim_len (by rfl) T.z_len (by decide +kernel) (ga_cons (gv 0) ga_nil)) (ga_cons (ge_gi (by rfl) T.i_MOST_PERSONS) ga_nil))))
      (gss_cons (gs_for PassesOwn.never rfl (gi_range1 (by rfl) T.z_range (ga_cons (gv 1) ga_nil)) (gg_name (i := 2) sc_refuse_bad_rules.nd rfl (.inl rfl))
      (gss_cons (gs_set (i := 3) sc_refuse_bad_rules.nd rfl (.inl rfl) (ge_call G_first_bad_part (hr) (by rfl) T.g_first_bad_part T.k_first_bad_part b_first_bad_part .nil (fun _ => .nil) pass0 (ga_cons (ge_ix (ix_G K) sim_ix (gv 0) (gv 2) (fun _ _ => rfl)) (ga_cons (gv 1) ga_nil))))
      (gss_one (gs_if (gt_cmp op_notN sim_notN (gv 3) ge_non (nomark _)) (gss_one gs_never) gss_nil))))
      (gss_one (gs_if (gt_cmp op_gt sim_gt (ge_callB (cr_len K) sim_len (by rfl) T.z_len (by decide +kernel) (ga_cons (gv 0) ga_nil)) (ge_gi (by rfl) T.i_MOST_PERSONS) (nomark _)) (gss_one gs_never) gss_nil))))), fun svs m SX Sv h => ?_⟩)
  · obtain ⟨R, rfl, _⟩ := h
    rfl
  · obtain ⟨R, rfl, ok, q⟩ := h
    have h1 := ok.one
    have h6 := ok.six
    walk_at "r"
    refine ⟨by decide, _, rfl, ?_⟩
    walk_at "r"
    walk_at "f"
    walk_at "r"
    refine ⟨_, rfl, ?_⟩
    walk_at "r"
    refine Br_i (fun h2 => ?_) (fun h2 => ?_)
    · have := of_decide_eq_true h2
      rw [List.length_map] at this
      omega
    walk_at "r"
    refine ⟨_, rfl, ?_⟩
    walk_at "r"
    rw [List.length_map, if_neg (by omega)]
    refine ⟨⟨by omega, by omega⟩, ?_⟩
    walk_at "r"
    refine for_inv (fun r δ m' => m' = m ∧ ∃ a b, δ = [some (RV R), some (.int R.length), a, b] ∧ ∀ x ∈ r, ∃ i : Nat, x = .int i ∧ i < R.length) ⟨rfl, none, none, rfl, fun x hx => ?_⟩ (fun x r δ m' h => ?_) (fun δ m' h => ?_)
    · obtain ⟨i, hi⟩ := List.getElem?_of_mem hx
      obtain ⟨h3, h4⟩ := rngS_get _ _ _ _ hi
      exact ⟨i, by rw [h4]; simp, by omega⟩
    · obtain ⟨rfl, a, b, rfl, hr⟩ := h
      obtain ⟨i, rfl, hi⟩ := hr x List.mem_cons_self
      refine ⟨trivial, ?_⟩
      walk_at "r"
      refine ⟨_, rv_get hi, ?_⟩
      walk_at "r"
      refine ⟨PR.dd _, ?_⟩
      rw [(ok.all _ (List.getElem_mem hi)).good]
      walk_at "r"
      refine Br_f ?_
      walk_at "r"
      exact .of ⟨rfl, _, _, rfl, fun x hx => hr x (List.mem_cons_of_mem _ hx)⟩
    · obtain ⟨rfl, a, b, rfl, _⟩ := h
      refine ⟨trivial, ?_⟩
      walk_at "r"
      refine ⟨_, rfl, ?_⟩
      walk_at "r"
      refine Br_i (fun h2 => ?_) (fun h2 => ?_)
      · have := of_decide_eq_true h2
        rw [List.length_map] at this
        omega
      · exact .of q
/-- the same with plain tuples for what dict() takes -/
def PR.pv (r : PR) : SV := .tup [.tup (r.hs.map pairV), .int r.least, .ptup (r.gs.map pairV), optV r.wait, optV r.fur]
def PV (R : List PR) : SV := .tup (R.map PR.pv)
theorem pv_wk (r : PR) : Wk r.pv r.sv := .tup (.cons (.refl _) (.cons (.refl _) (.cons (.ptup (Wks.same _)) (Wks.same _))))
theorem PV_wk (R : List PR) : Wk (PV R) (RV R) := .tup (Wks.map pv_wk R)
def spRulesP : SpS := fun vs m _ S => ∃ R, vs = [PV R] ∧ RulesOk R ∧ S .non m
theorem ok_refuse_bad_rulesP (T : Tx K mg) : FnOk P w K mg base CX0 6 (He.ga K "refuse_bad_rules") T.fd_refuse_bad_rules ["rules"] (lift K spRulesP) := fn_wk (ok_refuse_bad_rules T) fun vs m SX S ⟨R, e, ok, q⟩ => ⟨[RV R], by rw [e]; exact .cons (PV_wk R) .nil, R, rfl, ok, q⟩
end
end Hn

set_option Elab.async false
set_option linter.all false
set_option maxRecDepth 100000
set_option maxHeartbeats 8000000
namespace Hn
open PySem PySem.Spec PyProof.Rows L2 Sy Lm
section
variable {P : Program} {w : World} {K : PySem.W.Frag} {mg : Str → Option Value} {base : Heap}
local macro_rules | `(tactic| walk_at "r") => `(tactic| (conv => whnf))
local macro_rules | `(tactic| walk_at "sp") => `(tactic| (first | rfl | contradiction | exact (False.elim ‹_›)))
local macro_rules | `(tactic| walk_at "len") => `(tactic| (exact Nat.le_trans (show _ ≤ 100000 by first | (simp; done) | (rw [rngS_length]; decide)) (by decide)))
local macro_rules | `(tactic| walk_at "f") => `(tactic| (refine Br_i (fun hb => Bool.noConfusion (show false = true from hb)) (fun _ => ?_)))
local macro_rules | `(tactic| walk_at "t") => `(tactic| (refine Br_i (fun _ => ?_) (fun hb => Bool.noConfusion (show true = false from hb))))
local macro_rules | `(tactic| walk_at "le") => `(tactic| first | exact Le.refl _ | (refine Le.put ?_; walk_at "le") | (refine Le.new ?_ (by assumption); walk_at "le"))
open NdefX
theorem app_le {x y : Str} {a b n : Nat} (hx : x.length ≤ a) (hy : y.length ≤ b) (h : a + b ≤ n) : (x ++ y).length ≤ n := by
  rw [strLen_append]
  omega
theorem int_len {i : Int} (h : i.natAbs.log2 < 1920) : (Str.ofString (toString i)).length ≤ 1921 := by
  rw [PySem.ofString_length]
  exact int_text_length_le (by decide) h
class Kx_BadRules (P : Program) (K : PySem.W.Frag) : Prop where
  k : ∃ fd cc cda, KxC P K cel_BadRules fd cc cda
  na_person : PySem.W.findIn K (.ref (He.ga K "BadRules")) "person" = some none
  na_part : PySem.W.findIn K (.ref (He.ga K "BadRules")) "part" = some none
class Kx_BadNotices (P : Program) (K : PySem.W.Frag) : Prop where
  k : ∃ fd cc cda, KxC P K cel_BadNotices fd cc cda
  na_number : PySem.W.findIn K (.ref (He.ga K "BadNotices")) "number" = some none
theorem nsc_BadNotices : NScope ["self", "number", "__class__"] ["self", "number"] ["__class__"] cel_BadNotices.scope := nscope_by (by decide +kernel)
theorem ini_BadNotices (KX : Kx_BadNotices P K) (zs : mg "super" = none) : ∃ fd, Binds K fd ["self", "number"] [] ∧ FnOk P w K mg base CX0 1 (He.ma K (He.ga K "BadNotices") "__init__") fd ["self", "number"] (spIni1 (He.ga K "BadNotices") "number") := by
  obtain ⟨fd, cc, cda, kx⟩ := KX.k
  obtain ⟨doc, pm, ct, e⟩ := kx.e
  refine ⟨fd, ?_, init_ok e kx.S kx.code nsc_BadNotices (fun vs H Q E h => ?_) zs (by decide +kernel) rfl rfl (by decide +kernel) (by first | exact Or.inl rfl | exact Or.inr (Or.inl rfl) | exact Or.inr (Or.inr rfl)) (fun L => rfl) (fun L => rfl) (fun L => rfl) (fun L => rfl) (fun L => rfl) (fun A outer s H vs Q E hr h => ?_)⟩
  · rw [e]
    exact .all fun us hl => match us, hl with | [_, _], _ => rfl
  · obtain ⟨a, i, rfl, _⟩ := h
    rfl
  · obtain ⟨a, i, rfl, hi, ha, q⟩ := h
    refine ⟨a, _, _, rfl, ha, pa_cons (pe_joined (.cons pe_str (.cons (pe_fmt (pv 1)) .nil))) pa_nil, (pss_one (ps_ost (pv 0) (pv 1))), ?_⟩
    refine ⟨_, rfl, line_le (Nat.le_trans ((app_le (n := 100) (show Str.empty.length ≤ 0 from Nat.le_refl 0) (show _ ≤ 100 by decide) (by decide))) (by decide)), ?_⟩
    refine ⟨_, rfl, .inr ⟨_, rfl, hi, _, rfl, line_le (Nat.le_trans ((app_le (n := 2021) (app_le (n := 100) (show Str.empty.length ≤ 0 from Nat.le_refl 0) (show _ ≤ 100 by decide) (by decide)) (int_len hi) (by decide))) (by decide)), ?_⟩⟩
    refine ⟨show 1 ≤ 1000 by decide, ha, ?_⟩
    exact ⟨_, rfl, _, rfl, a, _, rfl, kx.S.T, KX.na_number, .inl ⟨ha, fun dx h1 h2 => q dx h1 h2⟩⟩
class Kx_BadHears (P : Program) (K : PySem.W.Frag) : Prop where
  k : ∃ fd cc cda, KxC P K cel_BadHears fd cc cda
  na_number : PySem.W.findIn K (.ref (He.ga K "BadHears")) "number" = some none
theorem nsc_BadHears : NScope ["self", "number", "__class__"] ["self", "number"] ["__class__"] cel_BadHears.scope := nscope_by (by decide +kernel)
theorem ini_BadHears (KX : Kx_BadHears P K) (zs : mg "super" = none) : ∃ fd, Binds K fd ["self", "number"] [] ∧ FnOk P w K mg base CX0 1 (He.ma K (He.ga K "BadHears") "__init__") fd ["self", "number"] (spIni1 (He.ga K "BadHears") "number") := by
  obtain ⟨fd, cc, cda, kx⟩ := KX.k
  obtain ⟨doc, pm, ct, e⟩ := kx.e
  refine ⟨fd, ?_, init_ok e kx.S kx.code nsc_BadHears (fun vs H Q E h => ?_) zs (by decide +kernel) rfl rfl (by decide +kernel) (by first | exact Or.inl rfl | exact Or.inr (Or.inl rfl) | exact Or.inr (Or.inr rfl)) (fun L => rfl) (fun L => rfl) (fun L => rfl) (fun L => rfl) (fun L => rfl) (fun A outer s H vs Q E hr h => ?_)⟩
  · rw [e]
    exact .all fun us hl => match us, hl with | [_, _], _ => rfl
  · obtain ⟨a, i, rfl, _⟩ := h
    rfl
  · obtain ⟨a, i, rfl, hi, ha, q⟩ := h
    refine ⟨a, _, _, rfl, ha, pa_cons (pe_joined (.cons pe_str (.cons (pe_fmt (pv 1)) .nil))) pa_nil, (pss_one (ps_ost (pv 0) (pv 1))), ?_⟩
    refine ⟨_, rfl, line_le (Nat.le_trans ((app_le (n := 100) (show Str.empty.length ≤ 0 from Nat.le_refl 0) (show _ ≤ 100 by decide) (by decide))) (by decide)), ?_⟩
    refine ⟨_, rfl, .inr ⟨_, rfl, hi, _, rfl, line_le (Nat.le_trans ((app_le (n := 2021) (app_le (n := 100) (show Str.empty.length ≤ 0 from Nat.le_refl 0) (show _ ≤ 100 by decide) (by decide)) (int_len hi) (by decide))) (by decide)), ?_⟩⟩
    refine ⟨show 1 ≤ 1000 by decide, ha, ?_⟩
    exact ⟨_, rfl, _, rfl, a, _, rfl, kx.S.T, KX.na_number, .inl ⟨ha, fun dx h1 h2 => q dx h1 h2⟩⟩
class Kx_BadText (P : Program) (K : PySem.W.Frag) : Prop where
  k : ∃ fd cc cda, KxC P K cel_BadText fd cc cda
  na_row : PySem.W.findIn K (.ref (He.ga K "BadText")) "row" = some none
end
end Hn

set_option Elab.async false
set_option linter.all false
set_option maxRecDepth 100000
set_option maxHeartbeats 8000000
namespace Hn
open PySem PySem.Spec PyProof.Rows L2 Sy Lm
section
variable {P : Program} {w : World} {K : PySem.W.Frag} {mg : Str → Option Value} {base : Heap}
local macro_rules | `(tactic| walk_at "r") => `(tactic| (conv => whnf))
local macro_rules | `(tactic| walk_at "sp") => `(tactic| (first | rfl | contradiction | exact (False.elim ‹_›)))
local macro_rules | `(tactic| walk_at "len") => `(tactic| (exact Nat.le_trans (show _ ≤ 100000 by first | (simp; done) | (rw [rngS_length]; decide)) (by decide)))
local macro_rules | `(tactic| walk_at "f") => `(tactic| (refine Br_i (fun hb => Bool.noConfusion (show false = true from hb)) (fun _ => ?_)))
local macro_rules | `(tactic| walk_at "t") => `(tactic| (refine Br_i (fun _ => ?_) (fun hb => Bool.noConfusion (show true = false from hb))))
local macro_rules | `(tactic| walk_at "le") => `(tactic| first | exact Le.refl _ | (refine Le.put ?_; walk_at "le") | (refine Le.new ?_ (by assumption); walk_at "le"))
theorem lay_ints : ∀ ns : List Int, PyData.canLayAll0 (ns.map PyData.int) = true ∧ PyData.depthAll (ns.map PyData.int) ≤ 1
  | [] => ⟨by simp [PyData.canLayAll0], by simp [PyData.depthAll]⟩
  | n :: r => by
    have h := lay_ints r
    have h2 := h.2
    refine ⟨by simp [PyData.canLayAll0, PyData.canLay0, h.1], ?_⟩
    simp only [List.map_cons, PyData.depthAll, PyData.depth]
    omega
theorem shaped_ints : ∀ ns : List Int, SeqAt.shaped (.list (ns.map PyData.int)) = true := fun ns => by
  have h := lay_ints ns
  have h2 := h.2
  unfold SeqAt.shaped
  have h3 : (1 + PyData.depthAll (ns.map PyData.int)) ≤ 64 := by omega
  simp only [PyData.canLay0, PyData.depth, h.1, Bool.true_and]
  exact decide_eq_true (by first | exact h3 | (rw [Nat.add_comm]; exact h3))
theorem rds_ints {m : Mem} : ∀ ns : List Int, Rds m (ns.map SV.int) (ns.map PyData.int)
  | [] => .nil
  | _ :: r => .cons (.int _) (rds_ints r)
def spTakeO : SpS := fun vs m _ S => ∃ b c sv ns k, vs = [.ref b, .int k] ∧ m b = some (.lst [.ref c, .int sv]) ∧ m c = some (.lst (List.map SV.int ns)) ∧ ns.length ≤ 63 ∧ 0 < k ∧ k.natAbs < 2 ^ 8000 ∧
  ∀ (n : Int) (ns' : List Int) (sv' : Int), 0 ≤ n → n < k → ns'.length ≤ 63 → S (.int n) (up (up m c (.lst (ns'.map .int))) b (.lst [.ref c, .int sv']))
def IsBox (m : Mem) (b : Addr) : Prop := ∃ c, m b = some (.box c) ∧ m c = some .bxi
def spTake : SpS := fun vs m _ S => match vs with
  | [.ref b, .int k] => IsBox m b ∧ (0 < k ∧ k.natAbs < 2 ^ 8000) ∧ ∀ n : Int, 0 ≤ n → n < k → S (.int n) m
  | _ => False
theorem take_imp {vs : List V} {H : Hp} {Q : VK} {E : XK} (h : lift K spTake vs H Q E) : lift K spTakeO vs H Q E := by
  obtain ⟨F, svs, m, SX, S, M, r, h, hx, c⟩ := h
  unfold spTake at h
  split at h
  · rename_i b k
    obtain ⟨⟨c0, hb, hc⟩, ⟨k0, k1⟩, q⟩ := h
    have ne : c0 ≠ b := fun e => by rw [e, hb] at hc; cases hc
    obtain ⟨sv, eb⟩ := (M.at_ b _ hb).2
    obtain ⟨ns, ec, hl⟩ := (M.at_ c0 _ hc).2
    have M1 : MR K F H (up m c0 (.lst (ns.map .int))) := M.reab hc (fun u e x => by rw [ec] at e; cases e; exact x) ⟨_, ec, vrs_of_ints ns⟩
    have M2 : MR K F H (up (up m c0 (.lst (ns.map .int))) b (.lst [.ref c0, .int sv])) := M1.reab (by rw [up_ne (Ne.symm ne)]; exact hb) (fun u e x => by rw [eb] at e; cases e; exact x) ⟨_, eb, .cons (.ref _) (.cons (.int _) .nil)⟩
    refine ⟨F, _, _, SX, fun v m' => ∃ (n : Int) (ns' : List Int) (sv' : Int), v = .int n ∧ ns'.length ≤ 63 ∧ 0 ≤ n ∧ n < k ∧ m' = up (up m c0 (.lst (ns'.map .int))) b (.lst [.ref c0, .int sv']), M2, r, ⟨b, c0, sv, ns, k, rfl, up_same, by rw [up_ne ne]; exact up_same, hl, k0, k1, fun n ns' sv' n0 n1 hl' => ⟨n, ns', sv', rfl, hl', n0, n1, ?_⟩⟩, hx, fun v F' H' sv2 m2 s2 M3 v3 h3 => ?_⟩
    · rw [up_comm (a := b) (b := c0) (Ne.symm ne), up_up, up_up]
    · obtain ⟨n, ns', sv', rfl, hl', n0, n1, rfl⟩ := h3
      refine c v F' H' (.int n) m s2 ?_ v3 (q n n0 n1)
      obtain ⟨ws, e1, r1⟩ := M3.lst_ up_same
      obtain ⟨us, e2, r2⟩ := M3.lst_ (show (up (up m c0 (.lst (ns'.map .int))) b (.lst [.ref c0, .int sv'])) c0 = _ by rw [up_ne ne]; exact up_same)
      obtain rfl := vrs_ints r2
      obtain ⟨w1, w2, rfl, r3, r4⟩ := vrs_two r1
      obtain rfl := vr_ref r3
      obtain rfl := vr_int r4
      have M4 := M3.reab (o := .box c0) up_same (fun u e x => by rw [e1] at e; cases e; exact x) ⟨sv', e1⟩
      have M5 := M4.reab (a := c0) (o := .bxi) (o0 := .lst (ns'.map .int)) (by rw [up_ne ne, up_ne ne, up_same]) (fun u e x => by rw [e2] at e; cases e; exact x) ⟨ns', e2, hl'⟩
      rw [up_up, up_comm (Ne.symm ne), up_up] at M5
      rwa [up_id hc, up_id hb] at M5
  · exact h.elim
theorem okO_law_take (T : Tx K mg) : FnOk P w K mg base CX0 1 (He.ga K "_law_take") T.fd__law_take ["_law_box", "_law_many"] (lift K spTakeO) := by
  refine fn_sy T.F__law_take sc_law_take (fun svs m SX Sv h => ?_) (fun cdv A outer s H E hr => ⟨_, _, (gss_cons (gs_if (gt_cmp (op_eqG K hr.units) sim_eq (ge_ix (ix_G K) sim_ix (gv 0) ge_int (fun _ _ => rfl)) (ge_lst ga_nil) (nomark _)) (gss_cons (gs_asg (ge_op op_mod sim_mod (ge_op op_mulG sim_mul (ge_ix (ix_G K) sim_ix (gv 0) ge_int (fun _ _ => rfl)) ge_int) ge_int) (gg_subL (gv 0) ge_int))
      (gss_one (gs_ret (ge_op op_mod sim_mod (ge_op op_fdivG sim_fdiv (ge_ix (ix_G K) sim_ix (gv 0) ge_int (fun _ _ => rfl)) ge_int) (gv 1))))) gss_nil)
      (gss_cons (gs_set (i := 2) sc_law_take.nd rfl (.inl rfl) (ge_ix (ix_G K) sim_ix (ge_ix (ix_G K) sim_ix (gv 0) ge_int (fun _ _ => rfl)) ge_int (fun _ _ => rfl)))
      (gss_cons (gs_asg (ge_op op_fdivG sim_fdiv (gv 2) (gv 1)) (gg_subL (ge_ix (ix_G K) sim_ix (gv 0) ge_int (fun _ _ => rfl)) ge_int))
      (gss_cons (gs_if (gw_pt (gw_or (gt_cmp (op_eqG K hr.units) sim_eq (ge_ix (ix_G K) sim_ix (ge_ix (ix_G K) sim_ix (gv 0) ge_int (fun _ _ => rfl)) ge_int (fun _ _ => rfl)) ge_int (nomark _)) (gw_or1 (gt_cmp (op_eqG K hr.units) sim_eq (ge_ix (ix_G K) sim_ix (ge_ix (ix_G K) sim_ix (gv 0) ge_int (fun _ _ => rfl)) ge_int (fun _ _ => rfl)) (ge_un un_neg sim_neg ge_int) (nomark _))))) (gss_one (gs_expr (ge_bm PySem.F.plainAttrs_list PySem.F.slot_list_pop PySem.F.type_list_pop mt_popAt simk_L sim_popAt (ge_ix (ix_G K) sim_ix (gv 0) ge_int (fun _ _ => rfl)) (ga_cons ge_int ga_nil)))) gss_nil)
      (gss_one (gs_ret (ge_op op_mod sim_mod (gv 2) (gv 1)))))))), fun svs m SX Sv h => ?_⟩)
  · obtain ⟨b, c, sv, ns, k, rfl, _⟩ := h
    rfl
  · obtain ⟨b, c, sv, ns, k, rfl, hb, hc, hl, k0, k1, q⟩ := h
    have ne : c ≠ b := fun e => by
      rw [e, hb] at hc
      cases ns with
      | nil => cases hc
      | cons a r => injection (Option.some.inj hc) with z; injection z with z _; cases z
    walk_at "r"
    refine ⟨_, _, hb, rfl, ?_⟩
    walk_at "r"
    refine ⟨by walk_at "len", fun p hp => ?_⟩
    have hbp : up m p (.lst []) b = some (.lst [.ref c, .int sv]) := by rw [up_ne (mne hb hp)]; exact hb
    have hcp : up m p (.lst []) c = some (.lst (List.map SV.int ns)) := by rw [up_ne (mne hc hp)]; exact hc
    walk_at "r"
    refine ⟨_, _, .ref hcp (rds_ints ns), .ref up_same .nil, shaped_ints ns, rfl, ?_⟩
    have fin : ∀ (n : Int) (ns' : List Int) (sv' : Int) (m' : Mem), 0 ≤ n → n < k → ns'.length ≤ 63 → Le (up (up m c (.lst (ns'.map .int))) b (.lst [.ref c, .int sv'])) m' → Fg (Sv (.int n)) m' := fun n ns' sv' m' n0 n1 hl' le => ⟨_, le, q n ns' sv' n0 n1 hl'⟩
    have le0 : ∀ (X : List SV) (Y : List SV), Le (up (up m c (.lst X)) b (.lst Y)) (up (up (up m p (.lst [])) c (.lst X)) b (.lst Y)) := fun X Y => Le.put (Le.put (Le.new (.refl m) hp))
    cases ns with
    | nil =>
      refine Br_i (fun _ => ?_) (fun hb => by cases hb)
      walk_at "r"
      refine ⟨_, _, hbp, rfl, ?_⟩
      walk_at "r"
      refine ⟨.inl (.inr ⟨by decide, by decide⟩), ?_⟩
      walk_at "r"
      refine ⟨(by decide : (0 : Int) < 2147483647), ?_⟩
      walk_at "r"
      refine ⟨_, 1, hbp, rfl, ?_⟩
      walk_at "r"
      refine ⟨_, _, up_same, rfl, ?_⟩
      walk_at "r"
      refine ⟨.inl ⟨by decide, by decide⟩, ?_⟩
      walk_at "r"
      refine ⟨k0, ?_⟩
      refine fin _ [] _ _ (Int.emod_nonneg _ (by omega)) (Int.emod_lt_of_pos _ k0) (by simp) (Le.put ?_)
      rw [up_id (by exact hc)]
      exact Le.new (.refl m) hp
    | cons n r =>
      refine Br_i (fun hb => by cases hb) (fun _ => ?_)
      have ix0 : ∀ m : Nat, ixN (m + 1) 0 = some 0 := fun m => by
        unfold ixN
        rw [if_pos (by decide), if_pos (by omega)]
        rfl
      have at0 : ∀ (x : SV) (xs : List SV), atI (x :: xs) 0 = some x := fun x xs => atI_nat (j := 0) rfl
      walk_at "r"
      refine ⟨_, _, hbp, rfl, ?_⟩
      walk_at "r"
      refine ⟨_, _, hcp, at0 _ _, ?_⟩
      walk_at "r"
      refine ⟨.inr (wide_div k0 k1 (by decide) (by decide)), ?_⟩
      walk_at "r"
      refine ⟨_, _, hbp, rfl, ?_⟩
      walk_at "r"
      refine ⟨_, 0, hcp, ix0 _, ?_⟩
      have hbq : ∀ o, up (up m p (.lst [])) c o b = some (.lst [.ref c, .int sv]) := fun o => by rw [up_ne (Ne.symm ne)]; exact hbp
      walk_at "r"
      refine ⟨_, _, hbq _, rfl, ?_⟩
      walk_at "r"
      refine ⟨_, _, up_same, at0 _ _, ?_⟩
      have leb : ∀ X : List SV, Le (up (up m c (.lst X)) b (.lst [.ref c, .int sv])) (up (up m p (.lst [])) c (.lst X)) := fun X => by
        rw [up_id (by rw [up_ne (Ne.symm ne)]; exact hb)]
        exact Le.put (Le.new (.refl m) hp)
      have pop : ∀ SX' : SXK, sSeq (sDrop (sBM ckL sPopAt (sOp sIx (sVar 0) (sC (.int 0))) (sCons (sC (.int 0)) sNil))) (sRet (sOp sMod (sVar 2) (sVar 1))) SX' { nx := fun x m' => Fg (Sv .non) m', rt := fun v => Fg (Sv v) } [some (.ref b), some (.int k), some (.int n)] (up (up m p (.lst [])) c (.lst (List.set (List.map SV.int (n :: r)) 0 (.int (n / k))))) := fun SX' => by
        walk_at "r"
        refine ⟨_, _, hbq _, rfl, ?_⟩
        walk_at "r"
        refine ⟨⟨_, up_same⟩, ?_⟩
        walk_at "r"
        refine ⟨_, 0, _, up_same, by decide, by decide, (ixN_seq (ix0 _)).1, rfl, ?_⟩
        walk_at "r"
        refine ⟨k0, ?_⟩
        rw [up_up]
        exact fin _ r sv _ (Int.emod_nonneg _ (by omega)) (Int.emod_lt_of_pos _ k0) (by rw [List.length_cons] at hl; omega) (leb _)
      walk_at "r"
      refine Br_i (fun _ => Br_t (pop _)) (fun _ => ?_)
      walk_at "r"
      refine ⟨_, _, hbq _, rfl, ?_⟩
      walk_at "r"
      refine ⟨_, _, up_same, at0 _ _, ?_⟩
      walk_at "r"
      refine Br_i (fun _ => pop _) (fun _ => ?_)
      walk_at "r"
      refine ⟨k0, ?_⟩
      exact fin _ (n / k :: r) sv _ (Int.emod_nonneg _ (by omega)) (Int.emod_lt_of_pos _ k0) (by rw [List.length_cons] at hl ⊢; omega) (leb _)
theorem ok_law_take (T : Tx K mg) : FnOk P w K mg base CX0 1 (He.ga K "_law_take") T.fd__law_take ["_law_box", "_law_many"] (lift K spTake) := (okO_law_take T).imp fun _ _ _ _ h => take_imp h
end
end Hn

set_option Elab.async false
set_option linter.all false
set_option maxRecDepth 100000
set_option maxHeartbeats 8000000
namespace Hn
open PySem PySem.Spec PyProof.Rows L2 Sy Lm
section
variable {P : Program} {w : World} {K : PySem.W.Frag} {mg : Str → Option Value} {base : Heap}
local macro_rules | `(tactic| walk_at "r") => `(tactic| (conv => whnf))
local macro_rules | `(tactic| walk_at "sp") => `(tactic| (first | rfl | contradiction | exact (False.elim ‹_›)))
local macro_rules | `(tactic| walk_at "len") => `(tactic| (exact Nat.le_trans (show _ ≤ 100000 by first | (simp; done) | (rw [rngS_length]; decide)) (by decide)))
local macro_rules | `(tactic| walk_at "f") => `(tactic| (refine Br_i (fun hb => Bool.noConfusion (show false = true from hb)) (fun _ => ?_)))
local macro_rules | `(tactic| walk_at "t") => `(tactic| (refine Br_i (fun _ => ?_) (fun hb => Bool.noConfusion (show true = false from hb))))
local macro_rules | `(tactic| walk_at "le") => `(tactic| first | exact Le.refl _ | (refine Le.put ?_; walk_at "le") | (refine Le.new ?_ (by assumption); walk_at "le"))
def spBegunO : SpS := fun vs m _ S => ∃ ns : List Int, vs = [.lst (ns.map .int)] ∧ ns.length ≤ 63 ∧ ∀ (b c : Addr) (sv : Int), m c = none → m b = none → b ≠ c → S (.ref b) (up (up m c (.lst (ns.map .int))) b (.lst [.ref c, .int sv]))
def spBegun : SpS := fun vs m _ S => ∃ ns : List Int, vs = [.lst (ns.map .int)] ∧ ns.length ≤ 63 ∧ ∀ (b c : Addr), m c = none → m b = none → b ≠ c → S (.ref b) (up (up m c .bxi) b (.box c))
theorem begun_imp {vs : List V} {H : Hp} {Q : VK} {E : XK} (h : lift K spBegun vs H Q E) : lift K spBegunO vs H Q E := by
  obtain ⟨F, svs, m, SX, S, M, r, ⟨ns, rfl, hl, q⟩, hx, c⟩ := h
  refine ⟨F, _, m, SX, fun v m' => ∃ (b c : Addr) (sv : Int), v = .ref b ∧ m c = none ∧ m b = none ∧ b ≠ c ∧ m' = up (up m c (.lst (ns.map .int))) b (.lst [.ref c, .int sv]), M, r, ⟨ns, rfl, hl, fun b c sv h1 h2 h3 => ⟨b, c, sv, rfl, h1, h2, h3, rfl⟩⟩, hx, fun v F' H' sv2 m2 s2 M3 v3 h3 => ?_⟩
  obtain ⟨b, c0, sv', rfl, h1, h2, ne, rfl⟩ := h3
  refine c v F' H' (.ref b) _ s2 ?_ v3 (q b c0 h1 h2 ne)
  obtain ⟨ws, e1, r1⟩ := M3.lst_ up_same
  obtain ⟨us, e2, r2⟩ := M3.lst_ (show (up (up m c0 (.lst (ns.map .int))) b (.lst [.ref c0, .int sv'])) c0 = _ by rw [up_ne (Ne.symm ne)]; exact up_same)
  obtain rfl := vrs_ints r2
  obtain ⟨w1, w2, rfl, r3, r4⟩ := vrs_two r1
  obtain rfl := vr_ref r3
  obtain rfl := vr_int r4
  have M4 := M3.reab (o := .box c0) up_same (fun u e x => by rw [e1] at e; cases e; exact x) ⟨sv', e1⟩
  have M5 := M4.reab (a := c0) (o := .bxi) (o0 := .lst (ns.map .int)) (by rw [up_ne (Ne.symm ne), up_ne (Ne.symm ne), up_same]) (fun u e x => by rw [e2] at e; cases e; exact x) ⟨ns, e2, hl⟩
  rw [up_up, up_comm ne, up_up] at M5
  exact M5
theorem okO_law_begun (T : Tx K mg) : FnOk P w K mg base CX0 1 (He.ga K "_law_begun") T.fd__law_begun ["_law_script"] (lift K spBegunO) := by
  refine fn_sy T.F__law_begun sc_law_begun (fun svs m SX Sv h => ?_) (fun cdv A outer s H E hr => ⟨_, _, (gss_cons (gs_set (i := 1) sc_law_begun.nd rfl (.inl rfl) ge_int)
      (gss_cons (gs_for PassesOwn.never rfl (gi_seq (gv 0)) (gg_name (i := 2) sc_law_begun.nd rfl (.inl rfl))
      (gss_one (gs_set (i := 1) sc_law_begun.nd rfl (.inl rfl) (ge_op op_mod sim_mod (ge_op (op_addG K) sim_add (ge_op (op_addG K) sim_add (ge_op op_mulG sim_mul (gv 1) ge_int) (ge_op op_mulG sim_mul (gv 2) ge_int)) ge_int) ge_int))))
      (gss_one (gs_ret (ge_lst (ga_cons (ge_callTy (cr_lst K) sim_lstOf (by rfl) T.z_list (by decide +kernel) (ga_cons (gv 0) ga_nil)) (ga_cons (ge_op op_mulG sim_mul (gv 1) (ge_callTy call_int1 sim_int1 (by rfl) T.z_int (by decide +kernel) (ga_cons (ge_cmp op_gt sim_gt (ge_callB (cr_len K) sim_len (by rfl) T.z_len (by decide +kernel) (ga_cons (gv 0) ga_nil)) ge_int (nomark _)) ga_nil))) ga_nil))))))), fun svs m SX Sv h => ?_⟩)
  · obtain ⟨ns, rfl, _⟩ := h
    rfl
  · obtain ⟨ns, rfl, hl, q⟩ := h
    walk_at "r"
    refine ⟨_, rfl, ?_⟩
    refine for_inv (fun r δ m' => m' = m ∧ ∃ (st : Int) (a : Option SV), δ = [some (.lst (ns.map .int)), some (.int st), a] ∧ ∀ x ∈ r, ∃ i : Int, x = .int i) ⟨rfl, 0, none, rfl, fun x hx => by
      obtain ⟨i, _, e⟩ := List.mem_map.mp hx
      exact ⟨i, e.symm⟩⟩ (fun x r δ m' h => ?_) (fun δ m' h => ?_)
    · obtain ⟨rfl, st, a, rfl, hr⟩ := h
      obtain ⟨i, rfl⟩ := hr x List.mem_cons_self
      refine ⟨trivial, ?_⟩
      walk_at "r"
      refine ⟨.inl (.inr ⟨by decide, by decide⟩), ?_⟩
      walk_at "r"
      refine ⟨.inl (.inr ⟨by decide, by decide⟩), ?_⟩
      walk_at "r"
      refine ⟨(by decide : (0 : Int) < 2147483647), ?_⟩
      walk_at "r"
      exact .of ⟨rfl, _, _, rfl, fun x hx => hr x (List.mem_cons_of_mem _ hx)⟩
    · obtain ⟨rfl, st, a, rfl, _⟩ := h
      refine ⟨trivial, ?_⟩
      walk_at "r"
      refine ⟨_, rfl, fun c hc => ?_⟩
      walk_at "r"
      refine ⟨_, rfl, ?_⟩
      walk_at "r"
      refine ⟨.inl (.inr ?_), ?_⟩
      · split
        · exact ⟨by decide, by decide⟩
        · exact ⟨by decide, by decide⟩
      walk_at "r"
      refine ⟨by walk_at "len", fun b hb => ?_⟩
      have ne : c ≠ b := mne up_same hb
      rw [up_ne (Ne.symm ne)] at hb
      exact .of (q b c _ hc hb (Ne.symm ne))
theorem ok_law_begun (T : Tx K mg) : FnOk P w K mg base CX0 1 (He.ga K "_law_begun") T.fd__law_begun ["_law_script"] (lift K spBegun) := (okO_law_begun T).imp fun _ _ _ _ h => begun_imp h
end
end Hn

set_option Elab.async false
set_option linter.all false
set_option maxRecDepth 100000
set_option maxHeartbeats 8000000
namespace Hn
open PySem PySem.Spec PyProof.Rows L2 Sy Lm
section
variable {P : Program} {w : World} {K : PySem.W.Frag} {mg : Str → Option Value} {base : Heap}
local macro_rules | `(tactic| walk_at "r") => `(tactic| (conv => whnf))
local macro_rules | `(tactic| walk_at "sp") => `(tactic| (first | rfl | contradiction | exact (False.elim ‹_›)))
local macro_rules | `(tactic| walk_at "len") => `(tactic| (exact Nat.le_trans (show _ ≤ 100000 by first | (simp; done) | (rw [rngS_length]; decide)) (by decide)))
local macro_rules | `(tactic| walk_at "f") => `(tactic| (refine Br_i (fun hb => Bool.noConfusion (show false = true from hb)) (fun _ => ?_)))
local macro_rules | `(tactic| walk_at "t") => `(tactic| (refine Br_i (fun _ => ?_) (fun hb => Bool.noConfusion (show true = false from hb))))
local macro_rules | `(tactic| walk_at "le") => `(tactic| first | exact Le.refl _ | (refine Le.put ?_; walk_at "le") | (refine Le.new ?_ (by assumption); walk_at "le"))
theorem IsBox.le {a m : Mem} {b : Addr} (h : IsBox a b) (l : Le a m) : IsBox m b := by
  obtain ⟨c, h1, h2⟩ := h
  exact ⟨c, l _ _ h1, l _ _ h2⟩
theorem IsBox.new {m : Mem} {b p : Addr} {o : MO} (h : IsBox m b) (hp : m p = none) : IsBox (up m p o) b := h.le (Le.new (.refl m) hp)
theorem _root_.Sy.Le.over {a m : Mem} {f : Addr} {o : MO} (h : Le a m) (n : a f = none) : Le a (up m f o) := fun x u e => by rw [up_ne (mne e n)]; exact h x u e
theorem kp {m : Mem} {a p : Addr} {o u : MO} (h : m a = some o) (n : m p = none) : up m p u a = some o := by rw [up_ne (mne h n)]; exact h
theorem pick2 {a b : SV} {n : Int} (h0 : 0 ≤ n) (h1 : n < 2) : atI [a, b] n = some (if n = 0 then a else b) := by
  rcases (by omega : n = 0 ∨ n = 1) with rfl | rfl
  · exact atI_nat (j := 0) rfl
  · exact atI_nat (j := 1) rfl
theorem pick3 {a b c : SV} {n : Int} (h0 : 0 ≤ n) (h1 : n < 3) : atI [a, b, c] n = some (if n = 0 then a else if n = 1 then b else c) := by
  rcases (by omega : n = 0 ∨ n = 1 ∨ n = 2) with rfl | rfl | rfl
  · exact atI_nat (j := 0) rfl
  · exact atI_nat (j := 1) rfl
  · exact atI_nat (j := 2) rfl
theorem ite_int {c : Prop} [Decidable c] {a b : Int} : (if c then SV.int a else .int b) = .int (if c then a else b) := by split <;> rfl
theorem small {k : Int} (h0 : 0 < k) (h : k ≤ 10 ^ 30) : 0 < k ∧ k.natAbs < 2 ^ 8000 := ⟨h0, Nat.lt_of_le_of_lt (m := 10 ^ 30) (by omega) (by decide +kernel)⟩
def stOk (p : Int × Int) : Prop := (0 ≤ p.1 ∧ p.1 ≤ 23) ∧ (0 ≤ p.2 ∧ p.2 ≤ 23) ∧ p.1 ≠ p.2
def spStretches : SpS := fun vs m _ S => match vs with
  | [.ref b] => IsBox m b ∧ ∀ hs : List (Int × Int), hs.length ≤ 3 → (∀ p ∈ hs, stOk p) → S (.tup (hs.map pairV)) m
  | _ => False
theorem ok_law_stretches (T : Tx K mg) : FnOk P w K mg base CX0 2 (He.ga K "_law_stretches") T.fd__law_stretches ["_law_box"] (lift K spStretches) := by
  have G_law_take := ok_law_take (P := P) (w := w) (base := base) T
  have b_law_take := b_law_take T
  refine fn_sy T.F__law_stretches sc_law_stretches (fun svs m SX Sv h => ?_) (fun cdv A outer s H E hr => ⟨_, _, (gss_cons (gs_set (i := 1) sc_law_stretches.nd rfl (.inl rfl) (ge_lst ga_nil))
      (gss_cons (gs_for PassesOwn.never rfl (gi_range1 (by rfl) T.z_range (ga_cons (ge_call G_law_take (hr) (by rfl) T.g__law_take T.k__law_take b_law_take .nil (fun _ => .nil) pass0 (ga_cons (gv 0) (ga_cons ge_int ga_nil))) ga_nil)) (gg_name (i := 2) sc_law_stretches.nd rfl (.inl rfl))
      (gss_cons (gs_set (i := 3) sc_law_stretches.nd rfl (.inl rfl) (ge_call G_law_take (hr) (by rfl) T.g__law_take T.k__law_take b_law_take .nil (fun _ => .nil) pass0 (ga_cons (gv 0) (ga_cons ge_int ga_nil))))
      (gss_one (gs_expr (ge_bm PySem.F.plainAttrs_list PySem.F.slot_list_append PySem.F.type_list_append mt_append simk_L sim_append (gv 1) (ga_cons (ge_tup (ga_cons (gv 3) (ga_cons (ge_op op_mod sim_mod (ge_op (op_addG K) sim_add (ge_op (op_addG K) sim_add (gv 3) ge_int) (ge_call G_law_take (hr) (by rfl) T.g__law_take T.k__law_take b_law_take .nil (fun _ => .nil) pass0 (ga_cons (gv 0) (ga_cons (ge_ix (ix_G K) sim_ix (ge_lst (ga_cons ge_int (ga_cons ge_int ga_nil))) (ge_call G_law_take (hr) (by rfl) T.g__law_take T.k__law_take b_law_take .nil (fun _ => .nil) pass0 (ga_cons (gv 0) (ga_cons ge_int ga_nil))) (fun _ _ => rfl)) ga_nil)))) ge_int) ga_nil))) ga_nil))))))
      (gss_one (gs_ret (ge_callTy (cr_tup K) sim_tupOf (by rfl) T.z_tuple (by decide +kernel) (ga_cons (gv 1) ga_nil)))))), fun svs m SX Sv h => ?_⟩)
  · unfold spStretches at h
    split at h <;> first | rfl | exact h.elim
  · unfold spStretches at h
    split at h
    · rename_i b
      obtain ⟨hb, q⟩ := h
      walk_at "r"
      refine ⟨by walk_at "len", fun p hp => ?_⟩
      walk_at "r"
      refine ⟨hb.new hp, small (by decide) (by decide), fun n n0 n1 => ?_⟩
      walk_at "r"
      refine ⟨⟨by omega, by omega⟩, ?_⟩
      refine for_inv (fun r δ m' => ∃ (hs : List (Int × Int)) (a c : Option SV), m' = up m p (.lst (hs.map pairV)) ∧ δ = [some (.ref b), some (.ref p), a, c] ∧ hs.length + r.length ≤ 3 ∧ ∀ p ∈ hs, stOk p) ⟨[], none, none, rfl, rfl, by rw [rngS_length]; simp; omega, fun p h => by cases h⟩ (fun x r δ m' h => ?_) (fun δ m' h => ?_)
      · obtain ⟨hs, a, c, rfl, rfl, hl, ok⟩ := h
        refine ⟨trivial, ?_⟩
        walk_at "r"
        refine ⟨hb.new hp, small (by decide) (by decide), fun g g0 g1 => ?_⟩
        walk_at "r"
        refine ⟨⟨_, up_same⟩, ?_⟩
        walk_at "r"
        refine ⟨by walk_at "len", fun p2 hp2 => ?_⟩
        have bx : IsBox (up (up m p (.lst (hs.map pairV))) p2 (.lst [.int 23, .int 9])) b := (hb.new hp).new hp2
        walk_at "r"
        refine ⟨bx, small (by decide) (by decide), fun i i0 i1 => ?_⟩
        walk_at "r"
        refine ⟨_, _, up_same, pick2 i0 i1, ?_⟩
        rw [ite_int]
        walk_at "r"
        refine ⟨bx, small (by split <;> decide) (by split <;> decide), fun e e0 e1 => ?_⟩
        have e2 : e < 23 := by split at e1 <;> omega
        walk_at "r"
        refine ⟨(by decide : (0 : Int) < 24), ?_⟩
        walk_at "r"
        refine ⟨by walk_at "len", ?_⟩
        walk_at "r"
        refine ⟨_, by rw [up_ne (mne up_same hp2), up_same], line_le (by simp at hl ⊢; omega), ?_⟩
        walk_at "r"
        refine ⟨up m p (.lst ((hs ++ [(g, (g + 1 + e) % 24)]).map pairV)), by rw [List.map_append]; walk_at "le", hs ++ [(g, (g + 1 + e) % 24)], _, _, rfl, rfl, by rw [List.length_append]; simp at hl ⊢; omega, fun y hy => ?_⟩
        rcases List.mem_append.mp hy with hy | hy
        · exact ok y hy
        · obtain rfl := List.mem_singleton.mp hy
          refine ⟨⟨g0, by show g ≤ 23; omega⟩, ⟨?_, ?_⟩, ?_⟩
          · show 0 ≤ (g + 1 + e) % 24; omega
          · show (g + 1 + e) % 24 ≤ 23; omega
          · show g ≠ (g + 1 + e) % 24; omega
      · obtain ⟨hs, a, c, rfl, rfl, hl, ok⟩ := h
        refine ⟨trivial, ?_⟩
        walk_at "r"
        refine ⟨_, up_same, ?_⟩
        walk_at "r"
        exact ⟨m, by walk_at "le", q hs (by simpa using hl) ok⟩
    · exact h.elim
theorem gOk_snoc {k s : Int} (hk : k ≤ 7) (h1 : 1 ≤ s) (h2 : s ≤ 12) : ∀ {gs : List (Int × Int)} {lo : Int}, gOk lo gs → (∀ p ∈ gs, p.1 < k) → lo ≤ k → gOk lo (gs ++ [(k, s)])
  | [], lo, _, _, h => ⟨h, hk, h1, h2, trivial⟩
  | p :: r, lo, ⟨a, b, c, d, e⟩, hp, h => ⟨a, b, c, d, gOk_snoc hk h1 h2 e (fun q hq => hp q (List.mem_cons_of_mem _ hq)) (by have := hp p List.mem_cons_self; omega)⟩
def spRule : SpS := fun vs m _ S => match vs with
  | [.ref b, .int many] => IsBox m b ∧ (1 ≤ many ∧ many ≤ 6) ∧ ∀ r : PR, r.Ok many.toNat → S r.pv m
  | _ => False
theorem ok_law_rule (T : Tx K mg) : FnOk P w K mg base CX0 3 (He.ga K "_law_rule") T.fd__law_rule ["_law_box", "_law_many"] (lift K spRule) := by
  have G_law_stretches := ok_law_stretches (P := P) (w := w) (base := base) T
  have b_law_stretches := b_law_stretches T
  have G_law_take := ok_law_take (P := P) (w := w) (base := base) T
  have b_law_take := b_law_take T
  refine fn_sy T.F__law_rule sc_law_rule (fun svs m SX Sv h => ?_) (fun cdv A outer s H E hr => ⟨_, _, (gss_cons (gs_set (i := 2) sc_law_rule.nd rfl (.inl rfl) (ge_lst ga_nil))
      (gss_cons (gs_for PassesOwn.never rfl (gi_range1 (by rfl) T.z_range (ga_cons ge_int ga_nil)) (gg_name (i := 3) sc_law_rule.nd rfl (.inl rfl))
      (gss_one (gs_if (gw_pt (gw_and (gt_cmp op_lt sim_lt (ge_callB (cr_len K) sim_len (by rfl) T.z_len (by decide +kernel) (ga_cons (gv 2) ga_nil)) ge_int (nomark _)) (gw_and1 (gt_cmp (op_eqG K hr.units) sim_eq (ge_call G_law_take (hr.mono (by decide)) (by rfl) T.g__law_take T.k__law_take b_law_take .nil (fun _ => .nil) pass0 (ga_cons (gv 0) (ga_cons ge_int ga_nil))) ge_int (nomark _))))) (gss_one (gs_expr (ge_bm PySem.F.plainAttrs_list PySem.F.slot_list_append PySem.F.type_list_append mt_append simk_L sim_append (gv 2) (ga_cons (ge_tup (ga_cons (gv 3) (ga_cons (ge_op (op_addG K) sim_add ge_int (ge_call G_law_take (hr.mono (by decide)) (by rfl) T.g__law_take T.k__law_take b_law_take .nil (fun _ => .nil) pass0 (ga_cons (gv 0) (ga_cons (ge_ix (ix_G K) sim_ix (ge_lst (ga_cons ge_int (ga_cons ge_int ga_nil))) (ge_call G_law_take (hr.mono (by decide)) (by rfl) T.g__law_take T.k__law_take b_law_take .nil (fun _ => .nil) pass0 (ga_cons (gv 0) (ga_cons ge_int ga_nil))) (fun _ _ => rfl)) ga_nil)))) ga_nil))) ga_nil)))) gss_nil)))
      (gss_cons (gs_set (i := 4) sc_law_rule.nd rfl (.inl rfl) (ge_ix (ix_G K) sim_ix (ge_lst (ga_cons ge_non (ga_cons (ge_op (op_addG K) sim_add ge_int (ge_call G_law_take (hr.mono (by decide)) (by rfl) T.g__law_take T.k__law_take b_law_take .nil (fun _ => .nil) pass0 (ga_cons (gv 0) (ga_cons (ge_ix (ix_G K) sim_ix (ge_lst (ga_cons ge_int (ga_cons ge_int ga_nil))) (ge_call G_law_take (hr.mono (by decide)) (by rfl) T.g__law_take T.k__law_take b_law_take .nil (fun _ => .nil) pass0 (ga_cons (gv 0) (ga_cons ge_int ga_nil))) (fun _ _ => rfl)) ga_nil)))) (ga_cons ge_int ga_nil)))) (ge_call G_law_take (hr.mono (by decide)) (by rfl) T.g__law_take T.k__law_take b_law_take .nil (fun _ => .nil) pass0 (ga_cons (gv 0) (ga_cons ge_int ga_nil))) (fun _ _ => rfl)))
      (gss_cons (gs_set (i := 5) sc_law_rule.nd rfl (.inl rfl) (ge_ix (ix_G K) sim_ix (ge_lst (ga_cons ge_non (ga_cons (ge_call G_law_take (hr.mono (by decide)) (by rfl) T.g__law_take T.k__law_take b_law_take .nil (fun _ => .nil) pass0 (ga_cons (gv 0) (ga_cons (gv 1) ga_nil))) (ga_cons (ge_call G_law_take (hr.mono (by decide)) (by rfl) T.g__law_take T.k__law_take b_law_take .nil (fun _ => .nil) pass0 (ga_cons (gv 0) (ga_cons (gv 1) ga_nil))) ga_nil)))) (ge_call G_law_take (hr.mono (by decide)) (by rfl) T.g__law_take T.k__law_take b_law_take .nil (fun _ => .nil) pass0 (ga_cons (gv 0) (ga_cons ge_int ga_nil))) (fun _ _ => rfl)))
      (gss_one (gs_ret (ge_tup (ga_cons (ge_call G_law_stretches (hr) (by rfl) T.g__law_stretches T.k__law_stretches b_law_stretches .nil (fun _ => .nil) pass0 (ga_cons (gv 0) ga_nil)) (ga_cons (ge_call G_law_take (hr.mono (by decide)) (by rfl) T.g__law_take T.k__law_take b_law_take .nil (fun _ => .nil) pass0 (ga_cons (gv 0) (ga_cons ge_int ga_nil))) (ga_cons (ge_callTy (cr_tupP K) sim_tupP (by rfl) T.z_tuple (by decide +kernel) (ga_cons (gv 2) ga_nil)) (ga_cons (gv 4) (ga_cons (gv 5) ga_nil)))))))))))), fun svs m SX Sv h => ?_⟩)
  · unfold spRule at h
    split at h <;> first | rfl | exact h.elim
  · unfold spRule at h
    split at h
    · rename_i b many
      obtain ⟨hb, ⟨m1, m6⟩, q⟩ := h
      walk_at "r"
      refine ⟨by walk_at "len", fun p hp => ?_⟩
      walk_at "r"
      refine ⟨⟨by decide, by decide⟩, ?_⟩
      refine for_inv (fun r δ m' => ∃ (gs : List (Int × Int)) (k : Nat) (a : Option SV), m' = up m p (.lst (gs.map pairV)) ∧ δ = [some (.ref b), some (.int many), some (.ref p), a, none, none] ∧ r = rngS k (8 - k) ∧ k ≤ 8 ∧ gs.length ≤ 4 ∧ gOk 0 gs ∧ ∀ p ∈ gs, p.1 < k) ⟨[], 0, none, rfl, rfl, rfl, by omega, by simp, trivial, fun p h => by cases h⟩ (fun x r δ m' h => ?_) (fun δ m' h => ?_)
      · obtain ⟨gs, k, a, rfl, rfl, hr, hk, hl, hg, hlt⟩ := h
        have hk8 : k < 8 := by
          by_cases e : k < 8
          · exact e
          · rw [show 8 - k = 0 by omega] at hr; cases hr
        rw [show 8 - k = (8 - (k + 1)) + 1 by omega] at hr
        obtain ⟨rfl, rfl⟩ := List.cons.inj hr
        refine ⟨trivial, ?_⟩
        have stay : Fg (fun m' => ∃ (gs : List (Int × Int)) (k' : Nat) (a : Option SV), m' = up m p (.lst (gs.map pairV)) ∧ [some (.ref b), some (.int many), some (.ref p), some (.int k), none, none] = [some (SV.ref b), some (.int many), some (.ref p), a, none, none] ∧ rngS ((k : Int) + 1) (8 - (k + 1)) = rngS k' (8 - k') ∧ k' ≤ 8 ∧ gs.length ≤ 4 ∧ gOk 0 gs ∧ ∀ p ∈ gs, p.1 < k') (up m p (.lst (gs.map pairV))) :=
          .of ⟨gs, k + 1, _, rfl, rfl, rfl, by omega, hl, hg, fun y hy => by have := hlt y hy; push_cast; omega⟩
        walk_at "r"
        refine ⟨_, up_same, ?_⟩
        walk_at "r"
        refine Br_i (fun h2 => ?_) (fun h2 => ?_)
        · have hl4 : gs.length < 4 := by
            have := of_decide_eq_true h2
            rw [List.length_map] at this
            omega
          walk_at "r"
          refine ⟨hb.new hp, small (by decide) (by decide), fun g g0 g1 => ?_⟩
          walk_at "r"
          refine Br_i (fun h3 => ?_) (fun h3 => ?_)
          · walk_at "r"
            refine ⟨⟨_, up_same⟩, ?_⟩
            walk_at "r"
            refine ⟨by walk_at "len", fun p2 hp2 => ?_⟩
            have bx : IsBox (up (up m p (.lst (gs.map pairV))) p2 (.lst [.int 3, .int 12])) b := (hb.new hp).new hp2
            walk_at "r"
            refine ⟨bx, small (by decide) (by decide), fun i i0 i1 => ?_⟩
            walk_at "r"
            refine ⟨_, _, up_same, pick2 i0 i1, ?_⟩
            rw [ite_int]
            walk_at "r"
            refine ⟨bx, small (by split <;> decide) (by split <;> decide), fun e e0 e1 => ?_⟩
            have e2 : e < 12 := by split at e1 <;> omega
            walk_at "r"
            refine ⟨by walk_at "len", ?_⟩
            walk_at "r"
            refine ⟨_, by rw [up_ne (mne up_same hp2), up_same], line_le (by simp; omega), ?_⟩
            walk_at "r"
            refine ⟨up m p (.lst ((gs ++ [((k : Int), 1 + e)]).map pairV)), by rw [List.map_append]; walk_at "le", gs ++ [((k : Int), 1 + e)], k + 1, _, rfl, rfl, rfl, by omega, by rw [List.length_append]; simp; omega, gOk_snoc (by omega) (by omega) (by omega) hg hlt (by omega), fun y hy => ?_⟩
            rcases List.mem_append.mp hy with hy | hy
            · have := hlt y hy; push_cast; omega
            · obtain rfl := List.mem_singleton.mp hy
              show (k : Int) < _
              push_cast
              omega
          · exact stay
        · walk_at "f"
          exact stay
      · obtain ⟨gs, k, a, rfl, rfl, hr, hk, hl, hg, hlt⟩ := h
        refine ⟨trivial, ?_⟩
        walk_at "r"
        refine ⟨by walk_at "len", fun p2 hp2 => ?_⟩
        have bx := (hb.new (o := .lst (gs.map pairV)) hp).new (o := .lst [.int 6, .int 24]) hp2
        walk_at "r"
        refine ⟨bx, small (by decide) (by decide), fun i i0 i1 => ?_⟩
        walk_at "r"
        refine ⟨_, _, up_same, pick2 i0 i1, ?_⟩
        rw [ite_int]
        walk_at "r"
        refine ⟨bx, small (by split <;> decide) (by split <;> decide), fun e e0 e1 => ?_⟩
        have e2 : e < 24 := by split at e1 <;> omega
        walk_at "r"
        refine ⟨by walk_at "len", fun p3 hp3 => ?_⟩
        have bx3 := bx.new (o := .lst [.non, .int (1 + e), .int 2]) hp3
        walk_at "r"
        refine ⟨bx3, small (by decide) (by decide), fun j j0 j1 => ?_⟩
        walk_at "r"
        refine ⟨_, _, up_same, pick3 j0 j1, ?_⟩
        obtain ⟨wt, hw, hwt⟩ : ∃ wt : Option Int, (if j = 0 then SV.non else if j = 1 then .int (1 + e) else .int 2) = optV wt ∧ ∀ i, wt = some i → 1 ≤ i ∧ i ≤ 24 := by
          split
          · exact ⟨none, rfl, fun i h => by cases h⟩
          · split
            · exact ⟨some (1 + e), rfl, fun i h => by cases h; omega⟩
            · exact ⟨some 2, rfl, fun i h => by cases h; omega⟩
        rw [hw]
        walk_at "r"
        refine ⟨bx3, small (by omega) (by omega), fun f1 f10 f11 => ?_⟩
        walk_at "r"
        refine ⟨bx3, small (by omega) (by omega), fun f2 f20 f21 => ?_⟩
        walk_at "r"
        refine ⟨by walk_at "len", fun p4 hp4 => ?_⟩
        have bx4 := bx3.new (o := .lst [.non, .int f1, .int f2]) hp4
        walk_at "r"
        refine ⟨bx4, small (by decide) (by decide), fun j' j0' j1' => ?_⟩
        walk_at "r"
        refine ⟨_, _, up_same, pick3 j0' j1', ?_⟩
        obtain ⟨fu, hf, hfu⟩ : ∃ fu : Option Int, (if j' = 0 then SV.non else if j' = 1 then .int f1 else .int f2) = optV fu ∧ ∀ i, fu = some i → 0 ≤ i ∧ i < many.toNat := by
          split
          · exact ⟨none, rfl, fun i h => by cases h⟩
          · split
            · exact ⟨some f1, rfl, fun i h => by cases h; omega⟩
            · exact ⟨some f2, rfl, fun i h => by cases h; omega⟩
        rw [hf]
        walk_at "r"
        refine ⟨bx4, fun hs hsl hso => ?_⟩
        walk_at "r"
        refine ⟨bx4, small (by decide) (by decide), fun le le0 le1 => ?_⟩
        walk_at "r"
        refine ⟨_, kp (kp (kp up_same hp2) hp3) hp4, ?_⟩
        walk_at "r"
        refine ⟨by walk_at "len", ?_⟩
        exact ⟨m, by walk_at "le", q ⟨hs, le, gs, wt, fu⟩ ⟨hsl, hso, ⟨le0, by show le ≤ 4; omega⟩, hl, hg, hwt, hfu⟩⟩
    · exact h.elim
def spDrawn : SpS := fun vs m _ S => match vs with
  | [.ref b] => IsBox m b ∧ ∀ R : List PR, RulesOk R → S (PV R) m
  | _ => False
theorem ok_law_rules (T : Tx K mg) : FnOk P w K mg base CX0 4 (He.ga K "_law_rules") T.fd__law_rules ["_law_box"] (lift K spDrawn) := by
  have G_law_rule := ok_law_rule (P := P) (w := w) (base := base) T
  have b_law_rule := b_law_rule T
  have G_law_take := ok_law_take (P := P) (w := w) (base := base) T
  have b_law_take := b_law_take T
  refine fn_sy T.F__law_rules sc_law_rules (fun svs m SX Sv h => ?_) (fun cdv A outer s H E hr => ⟨_, _, (gss_cons (gs_set (i := 1) sc_law_rules.nd rfl (.inr rfl) (ge_op (op_addG K) sim_add ge_int (ge_call G_law_take (hr.mono (by decide)) (by rfl) T.g__law_take T.k__law_take b_law_take .nil (fun _ => .nil) pass0 (ga_cons (gv 0) (ga_cons ge_int ga_nil)))))
      (gss_one (gs_ret (ge_callTy (cr_tup K) sim_tupOf (by rfl) T.z_tuple (by decide +kernel) (ga_cons (ge_lc (own := [("_law_person", 2)]) (by rfl) sc_law_rules.nd (gi_range1 (by rfl) T.z_range (ga_cons (gv 1) ga_nil)) (blkOk_by (own := [("_law_person", 2)]) (N := ["_law_box", "_law_many", "_law_person"]) (sc := (defScope s_law_rules)) (by decide +kernel)) (fun _ _ _ _ _ => (gg_name (i := 2) sc_law_rules.nd rfl (.inl rfl))) (wp_name (by decide)) (fun _ _ _ _ _ => gts_nil) (fun _ _ _ _ _ => (ge_call G_law_rule (hr) (by rfl) T.g__law_rule T.k__law_rule b_law_rule .nil (fun _ => .nil) pass0 (ga_cons (gv 0) (ga_cons (gv 1) ga_nil))))) ga_nil))))), fun svs m SX Sv h => ?_⟩)
  · unfold spDrawn at h
    split at h <;> first | rfl | exact h.elim
  · unfold spDrawn at h
    split at h
    · rename_i b
      obtain ⟨hb, q⟩ := h
      walk_at "r"
      refine ⟨hb, small (by decide) (by decide), fun n n0 n1 => ?_⟩
      walk_at "r"
      refine ⟨⟨by omega, by omega⟩, by rw [rngS_length]; exact line_le (by omega), fun p hp => ?_⟩
      refine lc_inv (fun r acc m' => m' = up m p (.lst acc) ∧ ∃ R : List PR, acc = R.map PR.pv ∧ R.length + r.length = (1 + n).toNat ∧ ∀ x ∈ R, x.Ok (1 + n).toNat) ⟨rfl, [], rfl, by rw [rngS_length]; simp, fun x h => by cases h⟩ (fun x r acc m' h => ?_) (fun acc m' h => ?_)
      · obtain ⟨rfl, R, rfl, hl, ok⟩ := h
        refine ⟨trivial, ?_⟩
        walk_at "r"
        walk_at "t"
        walk_at "r"
        refine ⟨hb.new hp, ⟨by omega, by omega⟩, fun y hy => ?_⟩
        refine ⟨up_same, .of ⟨by rw [up_up], R ++ [y], by rw [List.map_append]; rfl, by rw [List.length_append]; simp at hl ⊢; omega, fun z hz => ?_⟩⟩
        rcases List.mem_append.mp hz with hz | hz
        · exact ok z hz
        · obtain rfl := List.mem_singleton.mp hz
          exact hy
      · obtain ⟨rfl, R, rfl, hl, ok⟩ := h
        have hl : R.length = (1 + n).toNat := by simpa using hl
        refine ⟨trivial, ?_⟩
        walk_at "r"
        refine ⟨_, up_same, ?_⟩
        exact ⟨m, by walk_at "le", q R ⟨by omega, by omega, fun r hr => by rw [hl]; exact ok r hr⟩⟩
    · exact h.elim
end
end Hn

set_option Elab.async false
set_option linter.all false
set_option maxRecDepth 100000
set_option maxHeartbeats 8000000
namespace Hn
open PySem PySem.Spec PyProof.Rows L2 Sy Lm
section
variable {P : Program} {w : World} {K : PySem.W.Frag} {mg : Str → Option Value} {base : Heap}
local macro_rules | `(tactic| walk_at "r") => `(tactic| (conv => whnf))
local macro_rules | `(tactic| walk_at "sp") => `(tactic| (first | rfl | contradiction | exact (False.elim ‹_›)))
local macro_rules | `(tactic| walk_at "len") => `(tactic| (exact Nat.le_trans (show _ ≤ 100000 by first | (simp; done) | (rw [rngS_length]; decide)) (by decide)))
local macro_rules | `(tactic| walk_at "f") => `(tactic| (refine Br_i (fun hb => Bool.noConfusion (show false = true from hb)) (fun _ => ?_)))
local macro_rules | `(tactic| walk_at "t") => `(tactic| (refine Br_i (fun _ => ?_) (fun hb => Bool.noConfusion (show true = false from hb))))
local macro_rules | `(tactic| walk_at "le") => `(tactic| first | exact Le.refl _ | (refine Le.put ?_; walk_at "le") | (refine Le.new ?_ (by assumption); walk_at "le"))
mutual
def eqD : PyData → PyData → Bool
  | .none, .none => true
  | .bool a, .bool b => decide (a = b)
  | .int a, .int b => decide (a = b)
  | .str a, .str b => decide (a = b)
  | .list a, .list b => eqDs a b
  | .tuple a, .tuple b => eqDs a b
  | _, _ => false
def eqDs : List PyData → List PyData → Bool
  | [], [] => true
  | a :: r, b :: s => eqD a b && eqDs r s
  | _, _ => false
end
mutual
def dpt : PyData → Nat
  | .list a => 1 + dpts a
  | .tuple a => 1 + dpts a
  | _ => 0
def dpts : List PyData → Nat
  | [] => 0
  | a :: r => max (dpt a) (dpts r)
end
theorem dpts_get : ∀ {ds : List PyData} {i : Nat} {d : PyData}, ds[i]? = some d → dpt d ≤ dpts ds
  | [], _, _, h => by simp at h
  | a :: r, 0, d, h => by
    simp at h
    subst h
    simp only [dpts]
    omega
  | a :: r, i + 1, d, h => by
    have := dpts_get (ds := r) (i := i) (by simpa using h)
    simp only [dpts]
    omega
theorem eqDs_get : ∀ {a b : List PyData}, a.length = b.length → ((∀ (i : Nat) x y, a[i]? = some x → b[i]? = some y → eqD x y = true) ↔ eqDs a b = true)
  | [], [], _ => by simp [eqDs]
  | [], _ :: _, h => by cases h
  | _ :: _, [], h => by cases h
  | x :: a, y :: b, h => by
    have ih := eqDs_get (a := a) (b := b) (by simpa using h)
    simp only [eqDs, Bool.and_eq_true]
    constructor
    · intro q
      exact ⟨q 0 x y rfl rfl, ih.mp fun i u v hu hv => q (i + 1) u v (by simpa using hu) (by simpa using hv)⟩
    · rintro ⟨q1, q2⟩ i u v hu hv
      cases i with
      | zero => simp at hu hv; subst hu; subst hv; exact q1
      | succ i => exact ih.mpr q2 i u v (by simpa using hu) (by simpa using hv)
theorem eqDs_len : ∀ {a b : List PyData}, eqDs a b = true → a.length = b.length
  | [], [], _ => rfl
  | [], _ :: _, h => by simp [eqDs] at h
  | _ :: _, [], h => by simp [eqDs] at h
  | x :: a, y :: b, h => by
    simp only [eqDs, Bool.and_eq_true] at h
    simp [eqDs_len h.2]
mutual
/-- no list is too long -/
def smD : PyData → Prop
  | .list a => a.length ≤ 100000 ∧ smDs a
  | .tuple a => a.length ≤ 100000 ∧ smDs a
  | _ => True
def smDs : List PyData → Prop
  | [] => True
  | a :: r => smD a ∧ smDs r
end
theorem smDs_get : ∀ {ds : List PyData} {i : Nat} {d : PyData}, smDs ds → ds[i]? = some d → smD d
  | [], _, _, _, h => by simp at h
  | a :: r, 0, d, ⟨h1, _⟩, h => by
    simp at h
    subst h
    exact h1
  | a :: r, i + 1, d, ⟨_, h2⟩, h => smDs_get (ds := r) (i := i) h2 (by simpa using h)
def spAlike : Nat → SpS
  | n => fun vs m _ S => ∃ x y d e, vs = [x, y] ∧ Rd m x d ∧ Rd m y e ∧ dpt e < n ∧ smD e ∧ S (.bl (eqD d e)) m
theorem fn_never {k : Nat} {f : Addr} {fd : FuncData} {ps : List Str} {sp : SpS} {CX : CXT} (h : ∀ vs m SX S, ¬ sp vs m SX S) : FnOk P w K mg base CX k f fd ps (lift K sp) :=
  ⟨fun vs H Q E ⟨F, svs, m, SX, S, _, _, z, _⟩ => (h _ _ _ _ z).elim, fun A outer s H args us vs Q E _ _ _ _ ⟨F, svs, m, SX, S, _, _, z, _⟩ => (h _ _ _ _ z).elim⟩
/-- the kind of a datum -/
def tyP : PyData → String
  | .none => "NoneType"
  | .bool _ => "bool"
  | .int _ => "int"
  | .str _ => "str"
  | .list _ => "list"
  | .tuple _ => "tuple"
  | .dict _ => "dict"
theorem rd_ty {m : Mem} {x : SV} {d : PyData} (h : Rd m x d) : tyS m x (tyP d) := by
  cases h with
  | ref e _ => exact ⟨rfl, _, e⟩
  | _ => rfl
theorem rds_len {m : Mem} : ∀ {xs : List SV} {ds : List PyData}, Rds m xs ds → xs.length = ds.length
  | _, _, .nil => rfl
  | _, _, .cons _ t => by rw [List.length_cons, List.length_cons, rds_len t]
theorem rds_get {m : Mem} : ∀ {xs : List SV} {ds : List PyData} {i : Nat} {d : PyData}, Rds m xs ds → ds[i]? = some d → ∃ x, xs[i]? = some x ∧ Rd m x d
  | _, _, _, _, .nil, h => by simp at h
  | _, _, 0, _, .cons a _, h => by simp at h; subst h; exact ⟨_, rfl, a⟩
  | _, _, i + 1, _, .cons _ t, h => by
    obtain ⟨x, h1, h2⟩ := rds_get (i := i) t (by simpa using h)
    exact ⟨x, by simpa using h1, h2⟩
theorem ok_law_alike (T : Tx K mg) : ∀ n, FnOk P w K mg base CX0 n (He.ga K "_law_alike") T.fd__law_alike ["_law_found", "_law_due"] (lift K (spAlike n)) := by
  intro n
  induction n with
  | zero => exact fn_never fun vs m SX S ⟨_, _, _, _, _, _, _, z, _⟩ => Nat.not_lt_zero _ z
  | succ n G_law_alike =>
  have b_law_alike := b_law_alike T
  refine fn_sy T.F__law_alike sc_law_alike (fun svs m SX Sv h => ?_) (fun cdv A outer s H E hr => ⟨_, _, (gss_cons (gs_if (gt_cmp op_isN sim_isN (gv 1) ge_non (nomark _)) (gss_one (gs_ret (ge_cmp op_isN sim_isN (gv 0) ge_non (nomark _)))) gss_nil)
      (gss_cons (gs_if (gt_val (ge_callB (cr_isi K) sim_isi (by rfl) T.z_isinstance (by decide +kernel) (ga_cons (gv 1) (ga_cons (ge_ty (n := "bool") (by rfl) T.z_bool (by decide +kernel)) ga_nil)))) (gss_one (gs_ret (ge_and (ge_callB (cr_isi K) sim_isi (by rfl) T.z_isinstance (by decide +kernel) (ga_cons (gv 0) (ga_cons (ge_ty (n := "bool") (by rfl) T.z_bool (by decide +kernel)) ga_nil))) (ge_one (ge_cmp (op_eqG K hr.units) sim_eq (gv 0) (gv 1) (nomark _)))))) gss_nil)
      (gss_cons (gs_if (gt_val (ge_callB (cr_isi K) sim_isi (by rfl) T.z_isinstance (by decide +kernel) (ga_cons (gv 1) (ga_cons (ge_ty (n := "int") (by rfl) T.z_int (by decide +kernel)) ga_nil)))) (gss_one (gs_ret (ge_and (ge_callB (cr_isi K) sim_isi (by rfl) T.z_isinstance (by decide +kernel) (ga_cons (gv 0) (ga_cons (ge_ty (n := "int") (by rfl) T.z_int (by decide +kernel)) ga_nil))) (ge_and (ge_not (ge_callB (cr_isi K) sim_isi (by rfl) T.z_isinstance (by decide +kernel) (ga_cons (gv 0) (ga_cons (ge_ty (n := "bool") (by rfl) T.z_bool (by decide +kernel)) ga_nil)))) (ge_one (ge_cmp (op_eqG K hr.units) sim_eq (gv 0) (gv 1) (nomark _))))))) gss_nil)
      (gss_cons (gs_if (gt_val (ge_callB (cr_isi K) sim_isi (by rfl) T.z_isinstance (by decide +kernel) (ga_cons (gv 1) (ga_cons (ge_ty (n := "str") (by rfl) T.z_str (by decide +kernel)) ga_nil)))) (gss_one (gs_ret (ge_and (ge_callB (cr_isi K) sim_isi (by rfl) T.z_isinstance (by decide +kernel) (ga_cons (gv 0) (ga_cons (ge_ty (n := "str") (by rfl) T.z_str (by decide +kernel)) ga_nil))) (ge_one (ge_cmp (op_eqG K hr.units) sim_eq (gv 0) (gv 1) (nomark _)))))) gss_nil)
      (gss_cons (gs_if (gw_pt (gw_or (gt_cmp (op_neG K hr.units) sim_ne (ge_callB (cr_isi K) sim_isi (by rfl) T.z_isinstance (by decide +kernel) (ga_cons (gv 1) (ga_cons (ge_ty (n := "tuple") (by rfl) T.z_tuple (by decide +kernel)) ga_nil))) (ge_callB (cr_isi K) sim_isi (by rfl) T.z_isinstance (by decide +kernel) (ga_cons (gv 0) (ga_cons (ge_ty (n := "tuple") (by rfl) T.z_tuple (by decide +kernel)) ga_nil))) (nomark _)) (gw_or1 (gt_cmp (op_neG K hr.units) sim_ne (ge_callB (cr_isi K) sim_isi (by rfl) T.z_isinstance (by decide +kernel) (ga_cons (gv 1) (ga_cons (ge_ty (n := "list") (by rfl) T.z_list (by decide +kernel)) ga_nil))) (ge_callB (cr_isi K) sim_isi (by rfl) T.z_isinstance (by decide +kernel) (ga_cons (gv 0) (ga_cons (ge_ty (n := "list") (by rfl) T.z_list (by decide +kernel)) ga_nil))) (nomark _))))) (gss_one (gs_ret ge_bl)) gss_nil)
      (gss_cons (gs_if (gt_cmp (op_neG K hr.units) sim_ne (ge_callB (cr_len K) sim_len (by rfl) T.z_len (by decide +kernel) (ga_cons (gv 0) ga_nil)) (ge_callB (cr_len K) sim_len (by rfl) T.z_len (by decide +kernel) (ga_cons (gv 1) ga_nil)) (nomark _)) (gss_one (gs_ret ge_bl)) gss_nil)
      (gss_cons (gs_for PassesOwn.never rfl (gi_range1 (by rfl) T.z_range (ga_cons (ge_callB (cr_len K) sim_len (by rfl) T.z_len (by decide +kernel) (ga_cons (gv 1) ga_nil)) ga_nil)) (gg_name (i := 2) sc_law_alike.nd rfl (.inl rfl))
      (gss_one (gs_if (gt_not (gt_val (ge_call G_law_alike (hr) (by rfl) T.g__law_alike T.k__law_alike b_law_alike .nil (fun _ => .nil) pass0 (ga_cons (ge_ix (ix_G K) sim_ix (gv 0) (gv 2) (fun _ _ => rfl)) (ga_cons (ge_ix (ix_G K) sim_ix (gv 1) (gv 2) (fun _ _ => rfl)) ga_nil))))) (gss_one (gs_ret ge_bl)) gss_nil)))
      (gss_one (gs_ret ge_bl))))))))), fun svs m SX Sv h => ?_⟩)
  · obtain ⟨x, y, d, e, rfl, _⟩ := h
    rfl
  · obtain ⟨x, y, d, e, rfl, hx, hy, hlt, hsm, q⟩ := h
    have tx := rd_ty hx
    have ty := rd_ty hy
    have qf : ∀ b, eqD d e = b → Fg (Sv (.bl b)) m := fun b hb => by rw [hb] at q; exact .of q
    walk_at "r"
    cases hy with
    | non =>
      walk_at "t"
      walk_at "r"
      exact qf _ (by cases hx <;> rfl)
    | bl b =>
      walk_at "f"
      walk_at "r"
      refine ⟨by decide, _, rfl, ?_⟩
      walk_at "r"
      walk_at "t"
      walk_at "r"
      refine ⟨by decide, _, tx, ?_⟩
      walk_at "r"
      cases hx with
      | bl a =>
        walk_at "t"
        walk_at "r"
        exact qf _ rfl
      | _ =>
        walk_at "f"
        exact qf _ rfl
    | int b =>
      walk_at "f"
      walk_at "r"
      refine ⟨by decide, _, rfl, ?_⟩
      walk_at "r"
      walk_at "f"
      walk_at "r"
      refine ⟨by decide, _, rfl, ?_⟩
      walk_at "r"
      walk_at "t"
      walk_at "r"
      refine ⟨by decide, _, tx, ?_⟩
      walk_at "r"
      cases hx with
      | int a =>
        walk_at "t"
        walk_at "r"
        refine ⟨by decide, _, rfl, ?_⟩
        walk_at "r"
        walk_at "t"
        walk_at "r"
        exact qf _ rfl
      | bl a =>
        walk_at "t"
        walk_at "r"
        refine ⟨by decide, _, rfl, ?_⟩
        walk_at "r"
        walk_at "f"
        exact qf _ rfl
      | _ =>
        walk_at "f"
        exact qf _ rfl
    | str b =>
      walk_at "f"
      walk_at "r"
      refine ⟨by decide, _, rfl, ?_⟩
      walk_at "r"
      walk_at "f"
      walk_at "r"
      refine ⟨by decide, _, rfl, ?_⟩
      walk_at "r"
      walk_at "f"
      walk_at "r"
      refine ⟨by decide, _, rfl, ?_⟩
      walk_at "r"
      walk_at "t"
      walk_at "r"
      refine ⟨by decide, _, tx, ?_⟩
      walk_at "r"
      cases hx with
      | str a =>
        walk_at "t"
        walk_at "r"
        exact qf _ rfl
      | _ =>
        walk_at "f"
        exact qf _ rfl
    | @tup ys es ry =>
      walk_at "f"
      walk_at "r"
      refine ⟨by decide, _, rfl, ?_⟩
      walk_at "r"
      walk_at "f"
      walk_at "r"
      refine ⟨by decide, _, rfl, ?_⟩
      walk_at "r"
      walk_at "f"
      walk_at "r"
      refine ⟨by decide, _, rfl, ?_⟩
      walk_at "r"
      walk_at "f"
      walk_at "r"
      refine ⟨by decide, _, rfl, ?_⟩
      walk_at "r"
      refine ⟨by decide, _, tx, ?_⟩
      walk_at "r"
      cases hx with
      | @tup xs ds rx =>
        walk_at "f"
        walk_at "r"
        refine ⟨by decide, _, rfl, ?_⟩
        walk_at "r"
        refine ⟨by decide, _, rfl, ?_⟩
        walk_at "r"
        walk_at "f"
        walk_at "r"
        refine ⟨_, rfl, ?_⟩
        walk_at "r"
        refine ⟨_, rfl, ?_⟩
        walk_at "r"
        have lx := rds_len rx
        have ly := rds_len ry
        refine Br_i (fun hl => ?_) (fun hl => ?_)
        · walk_at "r"
          refine qf _ ?_
          show eqDs ds es = false
          cases hq : eqDs ds es with
          | false => rfl
          | true =>
            have := eqDs_len hq
            have hl : (!decide ((xs.length : Int) = ys.length)) = true := hl
            simp at hl
            omega
        · have hll : ds.length = es.length := by
            have hl : (!decide ((xs.length : Int) = ys.length)) = false := hl
            simp at hl
            omega
          walk_at "r"
          refine ⟨_, rfl, ?_⟩
          walk_at "r"
          have hsm : es.length ≤ 100000 ∧ smDs es := hsm
          refine ⟨⟨by omega, by omega⟩, ?_⟩
          have hlt : 1 + dpts es < n + 1 := hlt
          refine for_inv (fun r δ m' => m' = m ∧ ∃ (k : Nat) (a : Option SV), δ = [some (SV.tup xs), some (SV.tup ys), a] ∧ r = rngS k (ys.length - k) ∧ k ≤ ys.length ∧ (∀ (i : Nat) u v, i < k → ds[i]? = some u → es[i]? = some v → eqD u v = true)) ⟨rfl, 0, none, rfl, rfl, Nat.zero_le _, fun i u v h => absurd h (Nat.not_lt_zero _)⟩ (fun x r δ m' h => ?_) (fun δ m' h => ?_)
          · obtain ⟨rfl, k, a, rfl, hr, hk, hall⟩ := h
            refine ⟨trivial, ?_⟩
            have hk1 : k < ys.length := by
              by_cases e : k < ys.length
              · exact e
              · rw [show ys.length - k = 0 by omega] at hr; cases hr
            rw [show ys.length - k = (ys.length - (k + 1)) + 1 by omega] at hr
            obtain ⟨rfl, rfl⟩ := List.cons.inj hr
            obtain ⟨u, hu⟩ : ∃ u, ds[k]? = some u := ⟨_, List.getElem?_eq_getElem (by omega)⟩
            obtain ⟨v, hv⟩ : ∃ v, es[k]? = some v := ⟨_, List.getElem?_eq_getElem (by omega)⟩
            obtain ⟨su, hsu, ru⟩ := rds_get rx hu
            obtain ⟨sv, hsv, rv⟩ := rds_get ry hv
            walk_at "r"
            refine ⟨_, atI_nat hsu, ?_⟩
            walk_at "r"
            refine ⟨_, atI_nat hsv, ?_⟩
            walk_at "r"
            refine ⟨_, _, _, _, rfl, ru, rv, by have := dpts_get hv; omega, smDs_get hsm.2 hv, ?_⟩
            walk_at "r"
            refine Br_i (fun hb => ?_) (fun hb => ?_)
            · walk_at "r"
              refine qf _ ?_
              show eqDs ds es = false
              cases hq : eqDs ds es with
              | false => rfl
              | true =>
                have hb : (!eqD u v) = true := hb
                rw [(eqDs_get hll).mpr hq k u v hu hv] at hb
                cases hb
            · have hb : (!eqD u v) = false := hb
              walk_at "r"
              refine .of ⟨rfl, k + 1, _, rfl, rfl, hk1, fun i u' v' hi h1 h2 => ?_⟩
              by_cases e : i = k
              · subst e
                rw [hu] at h1
                rw [hv] at h2
                cases h1
                cases h2
                simpa using hb
              · exact hall i u' v' (by omega) h1 h2
          · obtain ⟨rfl, k, a, rfl, hr, hk, hall⟩ := h
            refine ⟨trivial, ?_⟩
            walk_at "r"
            have hk1 : k = ys.length := by
              by_cases e : k < ys.length
              · rw [show ys.length - k = (ys.length - (k + 1)) + 1 by omega] at hr; cases hr
              · omega
            refine qf _ ?_
            show eqDs ds es = true
            exact (eqDs_get hll).mp fun i u v h1 h2 => hall i u v (by have := (List.getElem?_eq_some_iff.mp h2).1; omega) h1 h2
      | _ =>
        walk_at "t"
        walk_at "r"
        walk_at "t"
        walk_at "r"
        exact qf _ rfl
    | @lst ys es ry =>
      walk_at "f"
      walk_at "r"
      refine ⟨by decide, _, rfl, ?_⟩
      walk_at "r"
      walk_at "f"
      walk_at "r"
      refine ⟨by decide, _, rfl, ?_⟩
      walk_at "r"
      walk_at "f"
      walk_at "r"
      refine ⟨by decide, _, rfl, ?_⟩
      walk_at "r"
      walk_at "f"
      walk_at "r"
      refine ⟨by decide, _, rfl, ?_⟩
      walk_at "r"
      refine ⟨by decide, _, tx, ?_⟩
      walk_at "r"
      cases hx with
      | @lst xs ds rx =>
        walk_at "f"
        walk_at "r"
        refine ⟨by decide, _, rfl, ?_⟩
        walk_at "r"
        refine ⟨by decide, _, rfl, ?_⟩
        walk_at "r"
        walk_at "f"
        walk_at "r"
        refine ⟨_, rfl, ?_⟩
        walk_at "r"
        refine ⟨_, rfl, ?_⟩
        walk_at "r"
        have lx := rds_len rx
        have ly := rds_len ry
        refine Br_i (fun hl => ?_) (fun hl => ?_)
        · walk_at "r"
          refine qf _ ?_
          show eqDs ds es = false
          cases hq : eqDs ds es with
          | false => rfl
          | true =>
            have := eqDs_len hq
            have hl : (!decide ((xs.length : Int) = ys.length)) = true := hl
            simp at hl
            omega
        · have hll : ds.length = es.length := by
            have hl : (!decide ((xs.length : Int) = ys.length)) = false := hl
            simp at hl
            omega
          walk_at "r"
          refine ⟨_, rfl, ?_⟩
          walk_at "r"
          have hsm : es.length ≤ 100000 ∧ smDs es := hsm
          refine ⟨⟨by omega, by omega⟩, ?_⟩
          have hlt : 1 + dpts es < n + 1 := hlt
          refine for_inv (fun r δ m' => m' = m ∧ ∃ (k : Nat) (a : Option SV), δ = [some (SV.lst xs), some (SV.lst ys), a] ∧ r = rngS k (ys.length - k) ∧ k ≤ ys.length ∧ (∀ (i : Nat) u v, i < k → ds[i]? = some u → es[i]? = some v → eqD u v = true)) ⟨rfl, 0, none, rfl, rfl, Nat.zero_le _, fun i u v h => absurd h (Nat.not_lt_zero _)⟩ (fun x r δ m' h => ?_) (fun δ m' h => ?_)
          · obtain ⟨rfl, k, a, rfl, hr, hk, hall⟩ := h
            refine ⟨trivial, ?_⟩
            have hk1 : k < ys.length := by
              by_cases e : k < ys.length
              · exact e
              · rw [show ys.length - k = 0 by omega] at hr; cases hr
            rw [show ys.length - k = (ys.length - (k + 1)) + 1 by omega] at hr
            obtain ⟨rfl, rfl⟩ := List.cons.inj hr
            obtain ⟨u, hu⟩ : ∃ u, ds[k]? = some u := ⟨_, List.getElem?_eq_getElem (by omega)⟩
            obtain ⟨v, hv⟩ : ∃ v, es[k]? = some v := ⟨_, List.getElem?_eq_getElem (by omega)⟩
            obtain ⟨su, hsu, ru⟩ := rds_get rx hu
            obtain ⟨sv, hsv, rv⟩ := rds_get ry hv
            walk_at "r"
            refine ⟨_, atI_nat hsu, ?_⟩
            walk_at "r"
            refine ⟨_, atI_nat hsv, ?_⟩
            walk_at "r"
            refine ⟨_, _, _, _, rfl, ru, rv, by have := dpts_get hv; omega, smDs_get hsm.2 hv, ?_⟩
            walk_at "r"
            refine Br_i (fun hb => ?_) (fun hb => ?_)
            · walk_at "r"
              refine qf _ ?_
              show eqDs ds es = false
              cases hq : eqDs ds es with
              | false => rfl
              | true =>
                have hb : (!eqD u v) = true := hb
                rw [(eqDs_get hll).mpr hq k u v hu hv] at hb
                cases hb
            · have hb : (!eqD u v) = false := hb
              walk_at "r"
              refine .of ⟨rfl, k + 1, _, rfl, rfl, hk1, fun i u' v' hi h1 h2 => ?_⟩
              by_cases e : i = k
              · subst e
                rw [hu] at h1
                rw [hv] at h2
                cases h1
                cases h2
                simpa using hb
              · exact hall i u' v' (by omega) h1 h2
          · obtain ⟨rfl, k, a, rfl, hr, hk, hall⟩ := h
            refine ⟨trivial, ?_⟩
            walk_at "r"
            have hk1 : k = ys.length := by
              by_cases e : k < ys.length
              · rw [show ys.length - k = (ys.length - (k + 1)) + 1 by omega] at hr; cases hr
              · omega
            refine qf _ ?_
            show eqDs ds es = true
            exact (eqDs_get hll).mp fun i u v h1 h2 => hall i u v (by have := (List.getElem?_eq_some_iff.mp h2).1; omega) h1 h2
      | @ref ax xs ds e2 rx =>
        walk_at "f"
        walk_at "r"
        refine ⟨by decide, _, rfl, ?_⟩
        walk_at "r"
        refine ⟨by decide, _, ⟨rfl, _, e2⟩, ?_⟩
        walk_at "r"
        walk_at "f"
        walk_at "r"
        refine ⟨_, e2, ?_⟩
        walk_at "r"
        refine ⟨_, rfl, ?_⟩
        walk_at "r"
        have lx := rds_len rx
        have ly := rds_len ry
        refine Br_i (fun hl => ?_) (fun hl => ?_)
        · walk_at "r"
          refine qf _ ?_
          show eqDs ds es = false
          cases hq : eqDs ds es with
          | false => rfl
          | true =>
            have := eqDs_len hq
            have hl : (!decide ((xs.length : Int) = ys.length)) = true := hl
            simp at hl
            omega
        · have hll : ds.length = es.length := by
            have hl : (!decide ((xs.length : Int) = ys.length)) = false := hl
            simp at hl
            omega
          walk_at "r"
          refine ⟨_, rfl, ?_⟩
          walk_at "r"
          have hsm : es.length ≤ 100000 ∧ smDs es := hsm
          refine ⟨⟨by omega, by omega⟩, ?_⟩
          have hlt : 1 + dpts es < n + 1 := hlt
          refine for_inv (fun r δ m' => m' = m ∧ ∃ (k : Nat) (a : Option SV), δ = [some (SV.ref ax), some (SV.lst ys), a] ∧ r = rngS k (ys.length - k) ∧ k ≤ ys.length ∧ (∀ (i : Nat) u v, i < k → ds[i]? = some u → es[i]? = some v → eqD u v = true)) ⟨rfl, 0, none, rfl, rfl, Nat.zero_le _, fun i u v h => absurd h (Nat.not_lt_zero _)⟩ (fun x r δ m' h => ?_) (fun δ m' h => ?_)
          · obtain ⟨rfl, k, a, rfl, hr, hk, hall⟩ := h
            refine ⟨trivial, ?_⟩
            have hk1 : k < ys.length := by
              by_cases e : k < ys.length
              · exact e
              · rw [show ys.length - k = 0 by omega] at hr; cases hr
            rw [show ys.length - k = (ys.length - (k + 1)) + 1 by omega] at hr
            obtain ⟨rfl, rfl⟩ := List.cons.inj hr
            obtain ⟨u, hu⟩ : ∃ u, ds[k]? = some u := ⟨_, List.getElem?_eq_getElem (by omega)⟩
            obtain ⟨v, hv⟩ : ∃ v, es[k]? = some v := ⟨_, List.getElem?_eq_getElem (by omega)⟩
            obtain ⟨su, hsu, ru⟩ := rds_get rx hu
            obtain ⟨sv, hsv, rv⟩ := rds_get ry hv
            walk_at "r"
            refine ⟨_, _, e2, atI_nat hsu, ?_⟩
            walk_at "r"
            refine ⟨_, atI_nat hsv, ?_⟩
            walk_at "r"
            refine ⟨_, _, _, _, rfl, ru, rv, by have := dpts_get hv; omega, smDs_get hsm.2 hv, ?_⟩
            walk_at "r"
            refine Br_i (fun hb => ?_) (fun hb => ?_)
            · walk_at "r"
              refine qf _ ?_
              show eqDs ds es = false
              cases hq : eqDs ds es with
              | false => rfl
              | true =>
                have hb : (!eqD u v) = true := hb
                rw [(eqDs_get hll).mpr hq k u v hu hv] at hb
                cases hb
            · have hb : (!eqD u v) = false := hb
              walk_at "r"
              refine .of ⟨rfl, k + 1, _, rfl, rfl, hk1, fun i u' v' hi h1 h2 => ?_⟩
              by_cases e : i = k
              · subst e
                rw [hu] at h1
                rw [hv] at h2
                cases h1
                cases h2
                simpa using hb
              · exact hall i u' v' (by omega) h1 h2
          · obtain ⟨rfl, k, a, rfl, hr, hk, hall⟩ := h
            refine ⟨trivial, ?_⟩
            walk_at "r"
            have hk1 : k = ys.length := by
              by_cases e : k < ys.length
              · rw [show ys.length - k = (ys.length - (k + 1)) + 1 by omega] at hr; cases hr
              · omega
            refine qf _ ?_
            show eqDs ds es = true
            exact (eqDs_get hll).mp fun i u v h1 h2 => hall i u v (by have := (List.getElem?_eq_some_iff.mp h2).1; omega) h1 h2
      | tup rx =>
        walk_at "t"
        walk_at "r"
        walk_at "t"
        walk_at "r"
        exact qf _ rfl
      | _ =>
        walk_at "f"
        walk_at "r"
        refine ⟨by decide, _, rfl, ?_⟩
        walk_at "r"
        refine ⟨by decide, _, rfl, ?_⟩
        walk_at "r"
        walk_at "t"
        walk_at "r"
        exact qf _ rfl
    | @ref ay ys es e1 ry =>
      walk_at "f"
      walk_at "r"
      refine ⟨by decide, _, ⟨rfl, _, e1⟩, ?_⟩
      walk_at "r"
      walk_at "f"
      walk_at "r"
      refine ⟨by decide, _, ⟨rfl, _, e1⟩, ?_⟩
      walk_at "r"
      walk_at "f"
      walk_at "r"
      refine ⟨by decide, _, ⟨rfl, _, e1⟩, ?_⟩
      walk_at "r"
      walk_at "f"
      walk_at "r"
      refine ⟨by decide, _, ⟨rfl, _, e1⟩, ?_⟩
      walk_at "r"
      refine ⟨by decide, _, tx, ?_⟩
      walk_at "r"
      cases hx with
      | @lst xs ds rx =>
        walk_at "f"
        walk_at "r"
        refine ⟨by decide, _, ⟨rfl, _, e1⟩, ?_⟩
        walk_at "r"
        refine ⟨by decide, _, rfl, ?_⟩
        walk_at "r"
        walk_at "f"
        walk_at "r"
        refine ⟨_, rfl, ?_⟩
        walk_at "r"
        refine ⟨_, e1, ?_⟩
        walk_at "r"
        have lx := rds_len rx
        have ly := rds_len ry
        refine Br_i (fun hl => ?_) (fun hl => ?_)
        · walk_at "r"
          refine qf _ ?_
          show eqDs ds es = false
          cases hq : eqDs ds es with
          | false => rfl
          | true =>
            have := eqDs_len hq
            have hl : (!decide ((xs.length : Int) = ys.length)) = true := hl
            simp at hl
            omega
        · have hll : ds.length = es.length := by
            have hl : (!decide ((xs.length : Int) = ys.length)) = false := hl
            simp at hl
            omega
          walk_at "r"
          refine ⟨_, e1, ?_⟩
          walk_at "r"
          have hsm : es.length ≤ 100000 ∧ smDs es := hsm
          refine ⟨⟨by omega, by omega⟩, ?_⟩
          have hlt : 1 + dpts es < n + 1 := hlt
          refine for_inv (fun r δ m' => m' = m ∧ ∃ (k : Nat) (a : Option SV), δ = [some (SV.lst xs), some (SV.ref ay), a] ∧ r = rngS k (ys.length - k) ∧ k ≤ ys.length ∧ (∀ (i : Nat) u v, i < k → ds[i]? = some u → es[i]? = some v → eqD u v = true)) ⟨rfl, 0, none, rfl, rfl, Nat.zero_le _, fun i u v h => absurd h (Nat.not_lt_zero _)⟩ (fun x r δ m' h => ?_) (fun δ m' h => ?_)
          · obtain ⟨rfl, k, a, rfl, hr, hk, hall⟩ := h
            refine ⟨trivial, ?_⟩
            have hk1 : k < ys.length := by
              by_cases e : k < ys.length
              · exact e
              · rw [show ys.length - k = 0 by omega] at hr; cases hr
            rw [show ys.length - k = (ys.length - (k + 1)) + 1 by omega] at hr
            obtain ⟨rfl, rfl⟩ := List.cons.inj hr
            obtain ⟨u, hu⟩ : ∃ u, ds[k]? = some u := ⟨_, List.getElem?_eq_getElem (by omega)⟩
            obtain ⟨v, hv⟩ : ∃ v, es[k]? = some v := ⟨_, List.getElem?_eq_getElem (by omega)⟩
            obtain ⟨su, hsu, ru⟩ := rds_get rx hu
            obtain ⟨sv, hsv, rv⟩ := rds_get ry hv
            walk_at "r"
            refine ⟨_, atI_nat hsu, ?_⟩
            walk_at "r"
            refine ⟨_, _, e1, atI_nat hsv, ?_⟩
            walk_at "r"
            refine ⟨_, _, _, _, rfl, ru, rv, by have := dpts_get hv; omega, smDs_get hsm.2 hv, ?_⟩
            walk_at "r"
            refine Br_i (fun hb => ?_) (fun hb => ?_)
            · walk_at "r"
              refine qf _ ?_
              show eqDs ds es = false
              cases hq : eqDs ds es with
              | false => rfl
              | true =>
                have hb : (!eqD u v) = true := hb
                rw [(eqDs_get hll).mpr hq k u v hu hv] at hb
                cases hb
            · have hb : (!eqD u v) = false := hb
              walk_at "r"
              refine .of ⟨rfl, k + 1, _, rfl, rfl, hk1, fun i u' v' hi h1 h2 => ?_⟩
              by_cases e : i = k
              · subst e
                rw [hu] at h1
                rw [hv] at h2
                cases h1
                cases h2
                simpa using hb
              · exact hall i u' v' (by omega) h1 h2
          · obtain ⟨rfl, k, a, rfl, hr, hk, hall⟩ := h
            refine ⟨trivial, ?_⟩
            walk_at "r"
            have hk1 : k = ys.length := by
              by_cases e : k < ys.length
              · rw [show ys.length - k = (ys.length - (k + 1)) + 1 by omega] at hr; cases hr
              · omega
            refine qf _ ?_
            show eqDs ds es = true
            exact (eqDs_get hll).mp fun i u v h1 h2 => hall i u v (by have := (List.getElem?_eq_some_iff.mp h2).1; omega) h1 h2
      | @ref ax xs ds e2 rx =>
        walk_at "f"
        walk_at "r"
        refine ⟨by decide, _, ⟨rfl, _, e1⟩, ?_⟩
        walk_at "r"
        refine ⟨by decide, _, ⟨rfl, _, e2⟩, ?_⟩
        walk_at "r"
        walk_at "f"
        walk_at "r"
        refine ⟨_, e2, ?_⟩
        walk_at "r"
        refine ⟨_, e1, ?_⟩
        walk_at "r"
        have lx := rds_len rx
        have ly := rds_len ry
        refine Br_i (fun hl => ?_) (fun hl => ?_)
        · walk_at "r"
          refine qf _ ?_
          show eqDs ds es = false
          cases hq : eqDs ds es with
          | false => rfl
          | true =>
            have := eqDs_len hq
            have hl : (!decide ((xs.length : Int) = ys.length)) = true := hl
            simp at hl
            omega
        · have hll : ds.length = es.length := by
            have hl : (!decide ((xs.length : Int) = ys.length)) = false := hl
            simp at hl
            omega
          walk_at "r"
          refine ⟨_, e1, ?_⟩
          walk_at "r"
          have hsm : es.length ≤ 100000 ∧ smDs es := hsm
          refine ⟨⟨by omega, by omega⟩, ?_⟩
          have hlt : 1 + dpts es < n + 1 := hlt
          refine for_inv (fun r δ m' => m' = m ∧ ∃ (k : Nat) (a : Option SV), δ = [some (SV.ref ax), some (SV.ref ay), a] ∧ r = rngS k (ys.length - k) ∧ k ≤ ys.length ∧ (∀ (i : Nat) u v, i < k → ds[i]? = some u → es[i]? = some v → eqD u v = true)) ⟨rfl, 0, none, rfl, rfl, Nat.zero_le _, fun i u v h => absurd h (Nat.not_lt_zero _)⟩ (fun x r δ m' h => ?_) (fun δ m' h => ?_)
          · obtain ⟨rfl, k, a, rfl, hr, hk, hall⟩ := h
            refine ⟨trivial, ?_⟩
            have hk1 : k < ys.length := by
              by_cases e : k < ys.length
              · exact e
              · rw [show ys.length - k = 0 by omega] at hr; cases hr
            rw [show ys.length - k = (ys.length - (k + 1)) + 1 by omega] at hr
            obtain ⟨rfl, rfl⟩ := List.cons.inj hr
            obtain ⟨u, hu⟩ : ∃ u, ds[k]? = some u := ⟨_, List.getElem?_eq_getElem (by omega)⟩
            obtain ⟨v, hv⟩ : ∃ v, es[k]? = some v := ⟨_, List.getElem?_eq_getElem (by omega)⟩
            obtain ⟨su, hsu, ru⟩ := rds_get rx hu
            obtain ⟨sv, hsv, rv⟩ := rds_get ry hv
            walk_at "r"
            refine ⟨_, _, e2, atI_nat hsu, ?_⟩
            walk_at "r"
            refine ⟨_, _, e1, atI_nat hsv, ?_⟩
            walk_at "r"
            refine ⟨_, _, _, _, rfl, ru, rv, by have := dpts_get hv; omega, smDs_get hsm.2 hv, ?_⟩
            walk_at "r"
            refine Br_i (fun hb => ?_) (fun hb => ?_)
            · walk_at "r"
              refine qf _ ?_
              show eqDs ds es = false
              cases hq : eqDs ds es with
              | false => rfl
              | true =>
                have hb : (!eqD u v) = true := hb
                rw [(eqDs_get hll).mpr hq k u v hu hv] at hb
                cases hb
            · have hb : (!eqD u v) = false := hb
              walk_at "r"
              refine .of ⟨rfl, k + 1, _, rfl, rfl, hk1, fun i u' v' hi h1 h2 => ?_⟩
              by_cases e : i = k
              · subst e
                rw [hu] at h1
                rw [hv] at h2
                cases h1
                cases h2
                simpa using hb
              · exact hall i u' v' (by omega) h1 h2
          · obtain ⟨rfl, k, a, rfl, hr, hk, hall⟩ := h
            refine ⟨trivial, ?_⟩
            walk_at "r"
            have hk1 : k = ys.length := by
              by_cases e : k < ys.length
              · rw [show ys.length - k = (ys.length - (k + 1)) + 1 by omega] at hr; cases hr
              · omega
            refine qf _ ?_
            show eqDs ds es = true
            exact (eqDs_get hll).mp fun i u v h1 h2 => hall i u v (by have := (List.getElem?_eq_some_iff.mp h2).1; omega) h1 h2
      | tup rx =>
        walk_at "t"
        walk_at "r"
        walk_at "t"
        walk_at "r"
        exact qf _ rfl
      | _ =>
        walk_at "f"
        walk_at "r"
        refine ⟨by decide, _, ⟨rfl, _, e1⟩, ?_⟩
        walk_at "r"
        refine ⟨by decide, _, rfl, ?_⟩
        walk_at "r"
        walk_at "t"
        walk_at "r"
        exact qf _ rfl
end
end Hn

set_option Elab.async false
set_option linter.all false
set_option maxRecDepth 100000
set_option maxHeartbeats 8000000
namespace Hn
open PySem PySem.Spec PyProof.Rows L2 Sy Lm
section
variable {P : Program} {w : World} {K : PySem.W.Frag} {mg : Str → Option Value} {base : Heap}
local macro_rules | `(tactic| walk_at "r") => `(tactic| (conv => whnf))
local macro_rules | `(tactic| walk_at "sp") => `(tactic| (first | rfl | contradiction | exact (False.elim ‹_›)))
local macro_rules | `(tactic| walk_at "len") => `(tactic| (exact Nat.le_trans (show _ ≤ 100000 by first | (simp; done) | (rw [rngS_length]; decide)) (by decide)))
local macro_rules | `(tactic| walk_at "f") => `(tactic| (refine Br_i (fun hb => Bool.noConfusion (show false = true from hb)) (fun _ => ?_)))
local macro_rules | `(tactic| walk_at "t") => `(tactic| (refine Br_i (fun _ => ?_) (fun hb => Bool.noConfusion (show true = false from hb))))
local macro_rules | `(tactic| walk_at "le") => `(tactic| first | exact Le.refl _ | (refine Le.put ?_; walk_at "le") | (refine Le.new ?_ (by assumption); walk_at "le"))
def inStr (b e h : Int) : Bool := if b < e then decide (b ≤ h) && decide (h < e) else decide (b ≤ h) || decide (h < e)
def spInStr : SpS := fun vs m _ S => match vs with
  | [.int h, .int b, .int e] => S (.bl (inStr b e h)) m
  | _ => False
/-- whether one of the stretches holds the hour -/
def inSome (hs : List (Int × Int)) (h : Int) : Bool := hs.any fun p => inStr p.1 p.2 h
def hoursB (hs : List (Int × Int)) : List Bool := (List.range 24).map fun i => inSome hs (i : Nat)
def svInt (f : Int → SV) : SV → SV
  | .int i => f i
  | x => x
def spHours : SpS := fun vs m _ S => ∃ hs : List (Int × Int), vs = [.tup (hs.map pairV)] ∧ hs.length ≤ 1000 ∧ ∀ p, m p = none → S (.ref p) (up m p (.lst ((hoursB hs).map .bl)))
def spJudged (C : Addr) : SpS := fun vs m SX S => ∃ R x, vs = [RV R, x] ∧ RulesOk R ∧ Dat m x ∧ (∀ (i : Nat) (h : i < R.length), x = .int i → ∀ p, m p = none → S (.ref p) (up m p (.lst ((hoursB R[i].hs).map .bl)))) ∧ (isWh x 0 (R.length - 1) = false → SX ⟨C, none⟩ m)
def ffGo (bs : Int → Bool) : Nat → Int → Option Int
  | 0, _ => none
  | n + 1, t => if bs (t % 24) = true then ffGo bs n (t + 1) else some t
/-- the first moment from this one on that isn't hushed -/
def firstFree (hs : List (Int × Int)) (t : Int) : Option Int := ffGo (inSome hs) 24 t
def spFree : SpS := fun vs m _ S => ∃ p hs mo, vs = [.ref p, .int mo] ∧ m p = some (.lst ((hoursB hs).map .bl)) ∧ -(10 ^ 9) ≤ mo ∧ mo ≤ 10 ^ 9 ∧ S (optV (firstFree hs mo)) m
end
end Hn

set_option Elab.async false
set_option linter.all false
set_option maxRecDepth 100000
set_option maxHeartbeats 8000000
namespace Hn
open PySem PySem.Spec PyProof.Rows L2 Sy Lm
section
variable {P : Program} {w : World} {K : PySem.W.Frag} {mg : Str → Option Value} {base : Heap}
local macro_rules | `(tactic| walk_at "r") => `(tactic| (conv => whnf))
local macro_rules | `(tactic| walk_at "sp") => `(tactic| (first | rfl | contradiction | exact (False.elim ‹_›)))
local macro_rules | `(tactic| walk_at "len") => `(tactic| (exact Nat.le_trans (show _ ≤ 100000 by first | (simp; done) | (rw [rngS_length]; decide)) (by decide)))
local macro_rules | `(tactic| walk_at "f") => `(tactic| (refine Br_i (fun hb => Bool.noConfusion (show false = true from hb)) (fun _ => ?_)))
local macro_rules | `(tactic| walk_at "t") => `(tactic| (refine Br_i (fun _ => ?_) (fun hb => Bool.noConfusion (show true = false from hb))))
local macro_rules | `(tactic| walk_at "le") => `(tactic| first | exact Le.refl _ | (refine Le.put ?_; walk_at "le") | (refine Le.new ?_ (by assumption); walk_at "le"))
/-! ### notices on their way: the plain model -/
structure Pl where
  per : Int
  key : Option Int
  at_ : Int
  deriving DecidableEq
structure NW where
  rank : Int
  went : List Int
  told : List Int
  due : Option Int
  heard : Option (Int × Int)
  gone : Bool
  place : Option Pl
structure NR where
  per : Int
  rank : Int
  kind : Int
  born : Int
abbrev RowT := Sy.Row
abbrev Hr := Int × Int × Int
abbrev WS := Nat → NW
def setW (W : WS) (j : Nat) (x : NW) : WS := fun i => if i = j then x else W i
def dfR : PR := ⟨[], 0, [], none, none⟩
def pr (R : List PR) (p : Int) : PR := R.getD p.toNat dfR
def dfN : NR := ⟨0, 0, 0, 0⟩
def ntc (N : List NR) (j : Nat) : NR := N.getD j dfN
def spanOf (gs : List (Int × Int)) (k : Int) : Option Int := (gs.find? fun g => decide (g.1 = k)).map (·.2)
def openAt (n : Nat) (W : WS) (p k t : Int) : Option Int := (List.range n).findSome? fun j => match (W j).place with
  | some pl => if pl.per = p ∧ pl.key = some k ∧ t < pl.at_ then some pl.at_ else none
  | none => none
def placeOf (R : List PR) (n : Nat) (W : WS) (p k rank t : Int) : Pl := match spanOf (pr R p).gs k with
  | none => ⟨p, none, t⟩
  | some s => if rank = 3 then ⟨p, none, t⟩ else ⟨p, some k, (openAt n W p k t).getD (t + s)⟩
def xGone (x : NW) : NW := ⟨x.rank, x.went, x.told, none, x.heard, true, x.place⟩
def xUp (x : NW) : NW := ⟨min (x.rank + 1) 3, x.went, x.told, none, x.heard, x.gone, x.place⟩
def xHear (x : NW) (p t : Int) : NW := ⟨x.rank, x.went, x.told, none, some (p, t), x.gone, x.place⟩
def xPut (x : NW) (p : Int) (pl : Pl) : NW := ⟨x.rank, x.went ++ [p], x.told, x.due, x.heard, x.gone, some pl⟩
def bringW (R : List PR) (N : List NR) (W : WS) (j : Nat) (p t : Int) : WS := setW W j (xPut (W j) p (placeOf R N.length W p (ntc N j).kind (W j).rank t))
def sendW (R : List PR) (N : List NR) (W : WS) (j : Nat) (t : Int) : WS := match (pr R ((W j).went.getLastD 0)).fur with
  | none => setW W j (xGone (W j))
  | some q => if q ∈ (W j).went then setW W j (xGone (W j))
    else bringW R N (setW W j (xUp (W j))) j q t
def moveW (R : List PR) (N : List NR) (W : WS) (t : Int) : WS := (List.range N.length).foldl (fun W j => if (W j).due = some t then sendW R N W j t else W) W
def bornW (R : List PR) (N : List NR) (W : WS) (t : Int) : WS := (List.range N.length).foldl (fun W j => if (ntc N j).born = t then bringW R N W j (ntc N j).per t else W) W
def hear1 (W : WS) (t : Int) (h : Hr) : WS := if h.1 = t ∧ h.2.1 ∈ (W h.2.2.toNat).told ∧ (W h.2.2.toNat).heard = none then setW W h.2.2.toNat (xHear (W h.2.2.toNat) h.2.1 t) else W
def hearW (hs : List Hr) (W : WS) (t : Int) : WS := hs.foldl (fun W h => hear1 W t h) W
def unh (W : WS) (ms : List Nat) : List Nat := ms.filter fun j => (W j).heard.isNone
def topOf (W : WS) : List Nat → Int
  | [] => 0
  | j :: r => max (W j).rank (topOf W r)
def letsBy (r : PR) (top t : Int) : Bool := !inSome r.hs (t % 24) || decide (r.least ≤ top)
def mates (n : Nat) (W : WS) (j : Nat) : List Nat := (List.range n).filter fun i => (W i).heard.isNone && (decide ((W i).place = (W j).place) && (decide (i = j) || match (W j).place with
  | some pl => pl.key.isSome
  | none => false))
def toldNow (R : List PR) (n : Nat) (W : WS) (t : Int) (j : Nat) : Bool := match (W j).place with
  | none => false
  | some pl => (W j).heard.isNone && (decide (pl.at_ ≤ t) && letsBy (pr R pl.per) (topOf W (mates n W j)) t)
def tell1 (R : List PR) (t p : Int) (x : NW) : NW := ⟨x.rank, x.went, x.told ++ [p], (match (pr R p).wait with
  | none => x.due
  | some w => some (t + w)), x.heard, x.gone, none⟩
def perOf (x : NW) : Int := match x.place with
  | some pl => pl.per
  | none => 0
def tellW (R : List PR) (n : Nat) (W : WS) (t : Int) : WS := fun j => if (decide (j < n) && toldNow R n W t j) = true then tell1 R t (perOf (W j)) (W j) else W j
def natI (ms : List Nat) : List Int := ms.map fun j : Nat => (j : Int)
def rowsW (R : List PR) (n : Nat) (W : WS) (t : Int) : List RowT := (List.range n).filterMap fun j => if (toldNow R n W t j && decide ((mates n W j).head? = some j)) = true then some (t, perOf (W j), natI (mates n W j)) else none
def ini (N : List NR) : WS := fun j => ⟨(ntc N j).rank, [], [], none, none, false, none⟩
def beforeTell (R : List PR) (N : List NR) (hs : List Hr) (W : WS) (t : Int) : WS := bornW R N (moveW R N (hearW hs W t) t) t
def stepW (R : List PR) (N : List NR) (hs : List Hr) (W : WS) (t : Int) : WS := tellW R N.length (beforeTell R N hs W t) t
/-- ahead of moment t -/
def stW (R : List PR) (N : List NR) (hs : List Hr) : Nat → WS
  | 0 => ini N
  | t + 1 => stepW R N hs (stW R N hs t) t
def rowLe (a b : RowT) : Bool := !HT.lexLt (keyR b) (keyR a)
def srtR (rs : List RowT) : List RowT := rs.mergeSort rowLe
/-- the rows of moment t -/
def rowsAt (R : List PR) (N : List NR) (hs : List Hr) (t : Nat) : List RowT := srtR (rowsW R N.length (beforeTell R N hs (stW R N hs t) t) t)
def rowsUp (R : List PR) (N : List NR) (hs : List Hr) : Nat → List RowT
  | 0 => []
  | t + 1 => rowsUp R N hs t ++ rowsAt R N hs t
/-! sorted rows -/
end
end Hn

set_option Elab.async false
set_option linter.all false
set_option maxRecDepth 100000
set_option maxHeartbeats 8000000
namespace Hn
open PySem PySem.Spec PyProof.Rows L2 Sy Lm
section
variable {P : Program} {w : World} {K : PySem.W.Frag} {mg : Str → Option Value} {base : Heap}
local macro_rules | `(tactic| walk_at "r") => `(tactic| (conv => whnf))
local macro_rules | `(tactic| walk_at "sp") => `(tactic| (first | rfl | contradiction | exact (False.elim ‹_›)))
local macro_rules | `(tactic| walk_at "len") => `(tactic| (exact Nat.le_trans (show _ ≤ 100000 by first | (simp; done) | (rw [rngS_length]; decide)) (by decide)))
local macro_rules | `(tactic| walk_at "f") => `(tactic| (refine Br_i (fun hb => Bool.noConfusion (show false = true from hb)) (fun _ => ?_)))
local macro_rules | `(tactic| walk_at "t") => `(tactic| (refine Br_i (fun _ => ?_) (fun hb => Bool.noConfusion (show true = false from hb))))
local macro_rules | `(tactic| walk_at "le") => `(tactic| first | exact Le.refl _ | (refine Le.put ?_; walk_at "le") | (refine Le.new ?_ (by assumption); walk_at "le"))
/-! what holds of notices on their way -/
structure Good (R : List PR) (N : List NR) (W : WS) (t : Int) (U : Nat → Prop) : Prop where
  nd : ∀ j, j < N.length → (W j).went.Nodup
  rg : ∀ j, j < N.length → ∀ p ∈ (W j).went, 0 ≤ p ∧ p < R.length
  tl : ∀ j, j < N.length → (W j).told.length + (if (W j).place.isSome = true then 1 else 0) ≤ (W j).went.length
  ti : ∀ j, j < N.length → ∀ p ∈ (W j).told, p ∈ (W j).went
  pl : ∀ j, j < N.length → ∀ pl, (W j).place = some pl → (W j).went.getLast? = some pl.per ∧ pl.per ∉ (W j).told
  du : ∀ j, j < N.length → ∀ d, (W j).due = some d → (W j).place = none ∧ (W j).heard = none ∧ (W j).went ≠ []
  rk : ∀ j, j < N.length → 0 ≤ (W j).rank ∧ (W j).rank ≤ 3
  uq : ∀ i j, i < N.length → j < N.length → ∀ p k r r', (W i).place = some ⟨p, some k, r⟩ → (W j).place = some ⟨p, some k, r'⟩ → t < r → t < r' → r = r'
  un : ∀ j, j < N.length → U j → W j = ini N j
/-! open heaps -/
end
end Hn

set_option Elab.async false
set_option linter.all false
set_option maxRecDepth 100000
set_option maxHeartbeats 8000000
namespace Hn
open PySem PySem.Spec PyProof.Rows L2 Sy Lm
section
variable {P : Program} {w : World} {K : PySem.W.Frag} {mg : Str → Option Value} {base : Heap}
local macro_rules | `(tactic| walk_at "r") => `(tactic| (conv => whnf))
local macro_rules | `(tactic| walk_at "sp") => `(tactic| (first | rfl | contradiction | exact (False.elim ‹_›)))
local macro_rules | `(tactic| walk_at "len") => `(tactic| (exact Nat.le_trans (show _ ≤ 100000 by first | (simp; done) | (rw [rngS_length]; decide)) (by decide)))
local macro_rules | `(tactic| walk_at "f") => `(tactic| (refine Br_i (fun hb => Bool.noConfusion (show false = true from hb)) (fun _ => ?_)))
local macro_rules | `(tactic| walk_at "t") => `(tactic| (refine Br_i (fun _ => ?_) (fun hb => Bool.noConfusion (show true = false from hb))))
local macro_rules | `(tactic| walk_at "le") => `(tactic| first | exact Le.refl _ | (refine Le.put ?_; walk_at "le") | (refine Le.new ?_ (by assumption); walk_at "le"))
structure NtOk (R : List PR) (N : List NR) : Prop where
  len : N.length ≤ 30
  all : ∀ x ∈ N, (0 ≤ x.per ∧ x.per < R.length) ∧ (0 ≤ x.rank ∧ x.rank ≤ 3) ∧ (0 ≤ x.kind ∧ x.kind ≤ 7) ∧ (0 ≤ x.born ∧ x.born ≤ 300)
  rise : N.Pairwise fun a b => a.born ≤ b.born
theorem ntc_get {N : List NR} {j : Nat} (h : j < N.length) : ntc N j = N[j] := by
  unfold ntc
  rw [List.getD_eq_getElem?_getD, List.getElem?_eq_getElem h]
  rfl
theorem ntc_mem {N : List NR} {j : Nat} (h : j < N.length) : ntc N j ∈ N := by rw [ntc_get h]; exact List.getElem_mem _
/-- who is still to be born at moment t, behind which are those of l -/
def Yet (N : List NR) (t : Int) (l : List Nat) : Nat → Prop := fun j => t < (ntc N j).born ∨ ((ntc N j).born = t ∧ j ∈ l)
end
end Hn

set_option Elab.async false
set_option linter.all false
set_option maxRecDepth 100000
set_option maxHeartbeats 8000000
namespace Hn
open PySem PySem.Spec PyProof.Rows L2 Sy Lm
section
variable {P : Program} {w : World} {K : PySem.W.Frag} {mg : Str → Option Value} {base : Heap}
local macro_rules | `(tactic| walk_at "r") => `(tactic| (conv => whnf))
local macro_rules | `(tactic| walk_at "sp") => `(tactic| (first | rfl | contradiction | exact (False.elim ‹_›)))
local macro_rules | `(tactic| walk_at "len") => `(tactic| (exact Nat.le_trans (show _ ≤ 100000 by first | (simp; done) | (rw [rngS_length]; decide)) (by decide)))
local macro_rules | `(tactic| walk_at "f") => `(tactic| (refine Br_i (fun hb => Bool.noConfusion (show false = true from hb)) (fun _ => ?_)))
local macro_rules | `(tactic| walk_at "t") => `(tactic| (refine Br_i (fun _ => ?_) (fun hb => Bool.noConfusion (show true = false from hb))))
local macro_rules | `(tactic| walk_at "le") => `(tactic| first | exact Le.refl _ | (refine Le.put ?_; walk_at "le") | (refine Le.new ?_ (by assumption); walk_at "le"))
/-! heaps and what is ready, as entries -/
structure Ent where
  pl : Pl
  ms : List Nat
structure Bat (n : Nat) (W : WS) (t : Int) (es : List Ent) : Prop where
  ne : ∀ e ∈ es, e.ms ≠ []
  nd : ∀ e ∈ es, e.ms.Nodup
  at_ : ∀ e ∈ es, ∀ j ∈ e.ms, j < n ∧ (W j).place = some e.pl
  one : ∀ e ∈ es, e.pl.key = none → ∃ j, e.ms = [j]
  pw : es.Pairwise fun e f => e.pl ≠ f.pl ∨ (e.pl.key = none ∧ ∀ j ∈ e.ms, j ∉ f.ms)
  all : ∀ j, j < n → ∀ pl, (W j).place = some pl → (W j).heard = none ∨ t < pl.at_ → ∃ e ∈ es, e.pl = pl ∧ j ∈ e.ms
end
end Hn

set_option Elab.async false
set_option linter.all false
set_option maxRecDepth 100000
set_option maxHeartbeats 8000000
namespace Hn
open PySem PySem.Spec PyProof.Rows L2 Sy Lm
section
variable {P : Program} {w : World} {K : PySem.W.Frag} {mg : Str → Option Value} {base : Heap}
local macro_rules | `(tactic| walk_at "r") => `(tactic| (conv => whnf))
local macro_rules | `(tactic| walk_at "sp") => `(tactic| (first | rfl | contradiction | exact (False.elim ‹_›)))
local macro_rules | `(tactic| walk_at "len") => `(tactic| (exact Nat.le_trans (show _ ≤ 100000 by first | (simp; done) | (rw [rngS_length]; decide)) (by decide)))
local macro_rules | `(tactic| walk_at "f") => `(tactic| (refine Br_i (fun hb => Bool.noConfusion (show false = true from hb)) (fun _ => ?_)))
local macro_rules | `(tactic| walk_at "t") => `(tactic| (refine Br_i (fun _ => ?_) (fun hb => Bool.noConfusion (show true = false from hb))))
local macro_rules | `(tactic| walk_at "le") => `(tactic| first | exact Le.refl _ | (refine Le.put ?_; walk_at "le") | (refine Le.new ?_ (by assumption); walk_at "le"))
/-! what is told, by entries -/
def leftOf (W : WS) (e : Ent) : List Nat := unh W e.ms
def tells (R : List PR) (W : WS) (t : Int) (e : Ent) : Bool := decide (e.pl.at_ ≤ t) && (!(leftOf W e).isEmpty && letsBy (pr R e.pl.per) (topOf W (leftOf W e)) t)
def stays (R : List PR) (W : WS) (t : Int) (e : Ent) : Bool := decide (t < e.pl.at_) || (!(leftOf W e).isEmpty && !letsBy (pr R e.pl.per) (topOf W (leftOf W e)) t)
def rowOf (W : WS) (t : Int) (e : Ent) : RowT := (t, e.pl.per, srtI (natI (leftOf W e)))
section
variable {R : List PR} {n : Nat} {W : WS} {t : Int} {es : List Ent}
end
end
end Hn

set_option Elab.async false
set_option linter.all false
set_option maxRecDepth 100000
set_option maxHeartbeats 8000000
namespace Hn
open PySem PySem.Spec PyProof.Rows L2 Sy Lm
section
variable {P : Program} {w : World} {K : PySem.W.Frag} {mg : Str → Option Value} {base : Heap}
local macro_rules | `(tactic| walk_at "r") => `(tactic| (conv => whnf))
local macro_rules | `(tactic| walk_at "sp") => `(tactic| (first | rfl | contradiction | exact (False.elim ‹_›)))
local macro_rules | `(tactic| walk_at "len") => `(tactic| (exact Nat.le_trans (show _ ≤ 100000 by first | (simp; done) | (rw [rngS_length]; decide)) (by decide)))
local macro_rules | `(tactic| walk_at "f") => `(tactic| (refine Br_i (fun hb => Bool.noConfusion (show false = true from hb)) (fun _ => ?_)))
local macro_rules | `(tactic| walk_at "t") => `(tactic| (refine Br_i (fun _ => ?_) (fun hb => Bool.noConfusion (show true = false from hb))))
local macro_rules | `(tactic| walk_at "le") => `(tactic| first | exact Le.refl _ | (refine Le.put ?_; walk_at "le") | (refine Le.new ?_ (by assumption); walk_at "le"))
def NR.sv (x : NR) : SV := .tup [.int x.per, .int x.rank, .int x.kind, .int x.born]
def hrS (h : Hr) : SV := .tup [.int h.1, .int h.2.1, .int h.2.2]
/-- whether this can be a notice, born at this moment at the earliest -/
def canNt (x : SV) (many lo : Int) : Bool := match x with
  | .tup [a, b, c, d] => isWh a 0 (many - 1) && (isWh b 0 3 && (isWh c 0 7 && isWh d lo 300))
  | _ => false
def canHr (x : SV) (mp mn lo : Int) : Bool := match x with
  | .tup [a, b, c] => isWh a lo 600 && (isWh b 0 (mp - 1) && isWh c 0 (mn - 1))
  | _ => false
def spCanNt : SpS := fun vs m _ S => match vs with
  | [x, .int many, .int lo] => DD m x ∧ S (.bl (canNt x many lo)) m
  | _ => False
def spCanHr : SpS := fun vs m _ S => match vs with
  | [x, .int mp, .int mn, .int lo] => DD m x ∧ S (.bl (canHr x mp mn lo)) m
  | _ => False
theorem tup4 {x : SV} (h : isTupN x 4 = true) : ∃ a b c d, x = .tup [a, b, c, d] := by
  cases x with
  | tup xs => rcases xs with _ | ⟨a, _ | ⟨b, _ | ⟨c, _ | ⟨d, _ | ⟨e, r⟩⟩⟩⟩⟩ <;> first | exact ⟨_, _, _, _, rfl⟩ | (simp [isTupN] at h; done) | (simp [isTupN] at h; omega)
  | _ => cases h
theorem not_tup4 {x : SV} {many lo : Int} (h : isTupN x 4 = false) : canNt x many lo = false := by
  cases x with
  | tup xs => rcases xs with _ | ⟨a, _ | ⟨b, _ | ⟨c, _ | ⟨d, _ | ⟨e, r⟩⟩⟩⟩⟩ <;> first | rfl | (simp [isTupN] at h; done)
  | _ => rfl
theorem tup3 {x : SV} (h : isTupN x 3 = true) : ∃ a b c, x = .tup [a, b, c] := by
  cases x with
  | tup xs => rcases xs with _ | ⟨a, _ | ⟨b, _ | ⟨c, _ | ⟨d, r⟩⟩⟩⟩ <;> first | exact ⟨_, _, _, rfl⟩ | (simp [isTupN] at h; done) | (simp [isTupN] at h; omega)
  | _ => cases h
theorem not_tup3 {x : SV} {mp mn lo : Int} (h : isTupN x 3 = false) : canHr x mp mn lo = false := by
  cases x with
  | tup xs => rcases xs with _ | ⟨a, _ | ⟨b, _ | ⟨c, _ | ⟨d, r⟩⟩⟩⟩ <;> first | rfl | (simp [isTupN] at h; done)
  | _ => rfl
theorem ok_can_be_notice (T : Tx K mg) : FnOk P w K mg base CX0 3 (He.ga K "can_be_notice") T.fd_can_be_notice ["row", "many_persons", "earliest"] (lift K spCanNt) := by
  have G_is_tuple_of := ok_is_tuple_of (P := P) (w := w) (base := base) T
  have b_is_tuple_of := b_is_tuple_of T
  have G_is_whole := ok_is_whole (P := P) (w := w) (base := base) T
  have b_is_whole := b_is_whole T
  refine fn_sy T.F_can_be_notice sc_can_be_notice (fun svs m SX Sv h => ?_) (fun cdv A outer s H E hr => ⟨_, _, (gss_cons (gs_if (gt_not (gt_val (ge_call G_is_tuple_of (hr.mono (by decide)) (by rfl) T.g_is_tuple_of T.k_is_tuple_of b_is_tuple_of .nil (fun _ => .nil) pass0 (ga_cons (gv 0) (ga_cons ge_int ga_nil))))) (gss_one (gs_ret ge_bl)) gss_nil)
      (gss_cons (gs_asg (gv 0) (gg_tup 4 (by rfl) (ggs_cons (gg_name (i := 3) sc_can_be_notice.nd rfl (.inl rfl)) (ggs_cons (gg_name (i := 4) sc_can_be_notice.nd rfl (.inl rfl)) (ggs_cons (gg_name (i := 5) sc_can_be_notice.nd rfl (.inl rfl)) (ggs_cons (gg_name (i := 6) sc_can_be_notice.nd rfl (.inl rfl)) ggs_nil))))))
      (gss_cons (gs_set (i := 7) sc_can_be_notice.nd rfl (.inl rfl) (ge_lst (ga_cons (ge_call G_is_whole (hr) (by rfl) T.g_is_whole T.k_is_whole b_is_whole .nil (fun _ => .nil) pass0 (ga_cons (gv 3) (ga_cons ge_int (ga_cons (ge_op op_sub sim_sub (gv 1) ge_int) ga_nil)))) (ga_cons (ge_call G_is_whole (hr) (by rfl) T.g_is_whole T.k_is_whole b_is_whole .nil (fun _ => .nil) pass0 (ga_cons (gv 4) (ga_cons ge_int (ga_cons (ge_gi (by rfl) T.i_LAST_RANK) ga_nil)))) (ga_cons (ge_call G_is_whole (hr) (by rfl) T.g_is_whole T.k_is_whole b_is_whole .nil (fun _ => .nil) pass0 (ga_cons (gv 5) (ga_cons ge_int (ga_cons (ge_gi (by rfl) T.i_LAST_KIND) ga_nil)))) (ga_cons (ge_call G_is_whole (hr) (by rfl) T.g_is_whole T.k_is_whole b_is_whole .nil (fun _ => .nil) pass0 (ga_cons (gv 6) (ga_cons (gv 2) (ga_cons (ge_gi (by rfl) T.i_LAST_BORN) ga_nil)))) ga_nil))))))
      (gss_one (gs_ret (ge_callB (cr_allG K) sim_all (by rfl) T.z_all (by decide +kernel) (ga_cons (gv 7) ga_nil))))))), fun svs m SX Sv h => ?_⟩)
  · unfold spCanNt at h
    split at h <;> first | rfl | exact h.elim
  · unfold spCanNt at h
    split at h
    · rename_i x many lo
      obtain ⟨hd, q⟩ := h
      walk_at "r"
      refine ⟨hd.dat, ?_⟩
      walk_at "r"
      refine Br_i (fun h1 => ?_) (fun h1 => ?_)
      · walk_at "r"
        rw [not_tup4 (by simpa using h1)] at q
        exact .of q
      · obtain ⟨a, b, c, d, rfl⟩ := tup4 (by simpa using h1)
        cases hd with
        | tup hd =>
          have q : Sv (.bl (isWh a 0 (many - 1) && (isWh b 0 3 && (isWh c 0 7 && isWh d lo 300)))) m := q
          walk_at "r"
          refine ⟨rfl, ?_⟩
          walk_at "r"
          refine ⟨(hd.mem (by simp)).dat, ?_⟩
          walk_at "r"
          refine ⟨(hd.mem (by simp)).dat, ?_⟩
          walk_at "r"
          refine ⟨(hd.mem (by simp)).dat, ?_⟩
          walk_at "r"
          refine ⟨(hd.mem (by simp)).dat, ?_⟩
          walk_at "r"
          refine ⟨by walk_at "len", fun p hp => ?_⟩
          walk_at "r"
          refine ⟨[isWh a 0 (many - 1), isWh b 0 3, isWh c 0 7, isWh d lo 300], up_same, ?_⟩
          have e : [isWh a 0 (many - 1), isWh b 0 3, isWh c 0 7, isWh d lo 300].all id = (isWh a 0 (many - 1) && (isWh b 0 3 && (isWh c 0 7 && isWh d lo 300))) := by simp
          rw [e]
          exact ⟨m, .new (.refl m) hp, q⟩
    · exact h.elim
theorem ok_can_be_hear (T : Tx K mg) : FnOk P w K mg base CX0 3 (He.ga K "can_be_hear") T.fd_can_be_hear ["row", "many_persons", "many_notices", "earliest"] (lift K spCanHr) := by
  have G_is_tuple_of := ok_is_tuple_of (P := P) (w := w) (base := base) T
  have b_is_tuple_of := b_is_tuple_of T
  have G_is_whole := ok_is_whole (P := P) (w := w) (base := base) T
  have b_is_whole := b_is_whole T
  refine fn_sy T.F_can_be_hear sc_can_be_hear (fun svs m SX Sv h => ?_) (fun cdv A outer s H E hr => ⟨_, _, (gss_cons (gs_if (gt_not (gt_val (ge_call G_is_tuple_of (hr.mono (by decide)) (by rfl) T.g_is_tuple_of T.k_is_tuple_of b_is_tuple_of .nil (fun _ => .nil) pass0 (ga_cons (gv 0) (ga_cons ge_int ga_nil))))) (gss_one (gs_ret ge_bl)) gss_nil)
      (gss_cons (gs_asg (gv 0) (gg_tup 3 (by rfl) (ggs_cons (gg_name (i := 4) sc_can_be_hear.nd rfl (.inl rfl)) (ggs_cons (gg_name (i := 5) sc_can_be_hear.nd rfl (.inl rfl)) (ggs_cons (gg_name (i := 6) sc_can_be_hear.nd rfl (.inl rfl)) ggs_nil)))))
      (gss_cons (gs_set (i := 7) sc_can_be_hear.nd rfl (.inl rfl) (ge_lst (ga_cons (ge_call G_is_whole (hr) (by rfl) T.g_is_whole T.k_is_whole b_is_whole .nil (fun _ => .nil) pass0 (ga_cons (gv 4) (ga_cons (gv 3) (ga_cons (ge_gi (by rfl) T.i_LAST_HEAR) ga_nil)))) (ga_cons (ge_call G_is_whole (hr) (by rfl) T.g_is_whole T.k_is_whole b_is_whole .nil (fun _ => .nil) pass0 (ga_cons (gv 5) (ga_cons ge_int (ga_cons (ge_op op_sub sim_sub (gv 1) ge_int) ga_nil)))) (ga_cons (ge_call G_is_whole (hr) (by rfl) T.g_is_whole T.k_is_whole b_is_whole .nil (fun _ => .nil) pass0 (ga_cons (gv 6) (ga_cons ge_int (ga_cons (ge_op op_sub sim_sub (gv 2) ge_int) ga_nil)))) ga_nil)))))
      (gss_one (gs_ret (ge_callB (cr_allG K) sim_all (by rfl) T.z_all (by decide +kernel) (ga_cons (gv 7) ga_nil))))))), fun svs m SX Sv h => ?_⟩)
  · unfold spCanHr at h
    split at h <;> first | rfl | exact h.elim
  · unfold spCanHr at h
    split at h
    · rename_i x mp mn lo
      obtain ⟨hd, q⟩ := h
      walk_at "r"
      refine ⟨hd.dat, ?_⟩
      walk_at "r"
      refine Br_i (fun h1 => ?_) (fun h1 => ?_)
      · walk_at "r"
        rw [not_tup3 (by simpa using h1)] at q
        exact .of q
      · obtain ⟨a, b, c, rfl⟩ := tup3 (by simpa using h1)
        cases hd with
        | tup hd =>
          have q : Sv (.bl (isWh a lo 600 && (isWh b 0 (mp - 1) && isWh c 0 (mn - 1)))) m := q
          walk_at "r"
          refine ⟨rfl, ?_⟩
          walk_at "r"
          refine ⟨(hd.mem (by simp)).dat, ?_⟩
          walk_at "r"
          refine ⟨(hd.mem (by simp)).dat, ?_⟩
          walk_at "r"
          refine ⟨(hd.mem (by simp)).dat, ?_⟩
          walk_at "r"
          refine ⟨by walk_at "len", fun p hp => ?_⟩
          walk_at "r"
          refine ⟨[isWh a lo 600, isWh b 0 (mp - 1), isWh c 0 (mn - 1)], up_same, ?_⟩
          have e : [isWh a lo 600, isWh b 0 (mp - 1), isWh c 0 (mn - 1)].all id = (isWh a lo 600 && (isWh b 0 (mp - 1) && isWh c 0 (mn - 1))) := by simp
          rw [e]
          exact ⟨m, .new (.refl m) hp, q⟩
    · exact h.elim
theorem nr_dd {m : Mem} (x : NR) : DD m x.sv := .tup (.cons (.int _) (.cons (.int _) (.cons (.int _) (.cons (.int _) .nil))))
theorem hr_dd {m : Mem} (x : Hr) : DD m (hrS x) := .tup (.cons (.int _) (.cons (.int _) (.cons (.int _) .nil)))
structure HrOk (R : List PR) (N : List NR) (H : List Hr) : Prop where
  len : H.length ≤ 60
  all : ∀ h ∈ H, (0 ≤ h.1 ∧ h.1 ≤ 600) ∧ (0 ≤ h.2.1 ∧ h.2.1 < R.length) ∧ (0 ≤ h.2.2 ∧ h.2.2 < N.length)
  rise : H.Pairwise fun a b => a.1 ≤ b.1
def spNtOk : SpS := fun vs m _ S => ∃ R N a, vs = [PV R, .ref a] ∧ m a = some (.lst (N.map NR.sv)) ∧ NtOk R N ∧ S .non m
def spHrOk : SpS := fun vs m _ S => ∃ R N H a x, vs = [PV R, .ref a, x] ∧ m a = some (.lst (N.map NR.sv)) ∧ Its m x (H.map hrS) ∧ HrOk R N H ∧ (∃ t, tyS m x t ∧ (isB t "list" || isB t "tuple") = true) ∧ S .non m
theorem enS_cons {i : Int} {x : SV} {r : List SV} : enS i (x :: r) = .tup [.int i, x] :: enS (i + 1) r := rfl
theorem drop_cons' {α : Type} {l : List α} {j : Nat} {x : α} {r : List α} (h : l.drop j = x :: r) : l[j]? = some x ∧ l.drop (j + 1) = r := by
  have e : l[j]? = some x := by
    have z := congrArg (fun l => l[0]?) h
    simpa using z
  refine ⟨e, ?_⟩
  rw [← List.drop_drop, h]
  rfl
def spMoOk : SpS := fun vs m _ S => ∃ t u : Int, vs = [.int t, .int u] ∧ 0 ≤ t ∧ t ≤ u ∧ S .non m
end
end Hn

set_option Elab.async false
set_option linter.all false
set_option maxRecDepth 100000
set_option maxHeartbeats 8000000
namespace Hn
open PySem PySem.Spec PyProof.Rows L2 Sy Lm
section
variable {P : Program} {w : World} {K : PySem.W.Frag} {mg : Str → Option Value} {base : Heap}
local macro_rules | `(tactic| walk_at "r") => `(tactic| (conv => whnf))
local macro_rules | `(tactic| walk_at "sp") => `(tactic| (first | rfl | contradiction | exact (False.elim ‹_›)))
local macro_rules | `(tactic| walk_at "len") => `(tactic| (exact Nat.le_trans (show _ ≤ 100000 by first | (simp; done) | (rw [rngS_length]; decide)) (by decide)))
local macro_rules | `(tactic| walk_at "f") => `(tactic| (refine Br_i (fun hb => Bool.noConfusion (show false = true from hb)) (fun _ => ?_)))
local macro_rules | `(tactic| walk_at "t") => `(tactic| (refine Br_i (fun _ => ?_) (fun hb => Bool.noConfusion (show true = false from hb))))
local macro_rules | `(tactic| walk_at "le") => `(tactic| first | exact Le.refl _ | (refine Le.put ?_; walk_at "le") | (refine Le.new ?_ (by assumption); walk_at "le"))
theorem put_le {a m' : Mem} {p : Addr} {o o' : MO} (l : Le (up a p o) m') : Le (up a p o') (up m' p o') := by
  have z := Le.put (p := p) (o := o') l
  rwa [up_up] at z
theorem le_new {a m' : Mem} {p q : Addr} {o o' : MO} (l : Le (up a p o) m') (h : m' q = none) : Le (up a p o) (up m' q o') := l.new h
theorem len_pv (R : List PR) : (R.map PR.pv).length = R.length := List.length_map _
theorem ntok_snoc {R : List PR} {N : List NR} {x : NR} (no : NtOk R N) (hl : N.length < 30) (hx : (0 ≤ x.per ∧ x.per < R.length) ∧ (0 ≤ x.rank ∧ x.rank ≤ 3) ∧ (0 ≤ x.kind ∧ x.kind ≤ 7) ∧ (0 ≤ x.born ∧ x.born ≤ 300)) (hb : ∀ y ∈ N, y.born ≤ x.born) : NtOk R (N ++ [x]) :=
  ⟨by rw [List.length_append]; simp; omega, fun y hy => by
    rcases List.mem_append.mp hy with hy | hy
    · exact no.all y hy
    · rw [List.mem_singleton.mp hy]; exact hx, by
    rw [List.pairwise_append]
    exact ⟨no.rise, List.pairwise_singleton _ _, fun a ha b hb2 => by rw [List.mem_singleton.mp hb2]; exact hb a ha⟩⟩
def spNotices : SpS := fun vs m _ S => ∃ (b : Addr) (R : List PR) (most : Int), vs = [.ref b, PV R, .int most] ∧ IsBox m b ∧ RulesOk R ∧ (0 ≤ most ∧ most ≤ 30) ∧ ∀ N p, NtOk R N → (N.length : Int) ≤ most → m p = none → S (.ref p) (up m p (.lst (N.map NR.sv)))
theorem ok_law_notices (T : Tx K mg) : FnOk P w K mg base CX0 2 (He.ga K "_law_notices") T.fd__law_notices ["_law_box", "_law_rules_here", "_law_most"] (lift K spNotices) := by
  have G_law_take := ok_law_take (P := P) (w := w) (base := base) T
  have b_law_take := b_law_take T
  refine fn_sy T.F__law_notices sc_law_notices (fun svs m SX Sv h => ?_) (fun cdv A outer s H E hr => ⟨_, _, (gss_cons (gs_par3 (i := 3) (j := 4) (l := 5) (by rfl) sc_law_notices.nd rfl rfl rfl (by decide) (by decide) (by decide) rfl rfl rfl (ga_cons (ge_lst ga_nil) (ga_cons (ge_call G_law_take (hr) (by rfl) T.g__law_take T.k__law_take b_law_take .nil (fun _ => .nil) pass0 (ga_cons (gv 0) (ga_cons ge_int ga_nil))) (ga_cons (ge_ix (ix_G K) sim_ix (ge_lst (ga_cons ge_int (ga_cons ge_int ga_nil))) (ge_call G_law_take (hr) (by rfl) T.g__law_take T.k__law_take b_law_take .nil (fun _ => .nil) pass0 (ga_cons (gv 0) (ga_cons ge_int ga_nil))) (fun _ _ => rfl)) ga_nil))))
      (gss_cons (gs_for PassesOwn.never rfl (gi_range1 (by rfl) T.z_range (ga_cons (ge_call G_law_take (hr) (by rfl) T.g__law_take T.k__law_take b_law_take .nil (fun _ => .nil) pass0 (ga_cons (gv 0) (ga_cons (ge_op (op_addG K) sim_add (gv 2) ge_int) ga_nil))) ga_nil)) (gg_name (i := 6) sc_law_notices.nd rfl (.inl rfl))
      (gss_cons (gs_set (i := 4) sc_law_notices.nd rfl (.inl rfl) (ge_callB (call_min2 rfl) sim_min2 (by rfl) T.z_min (by decide +kernel) (ga_cons ge_int (ga_cons (ge_op (op_addG K) sim_add (gv 4) (ge_call G_law_take (hr) (by rfl) T.g__law_take T.k__law_take b_law_take .nil (fun _ => .nil) pass0 (ga_cons (gv 0) (ga_cons (ge_ix (ix_G K) sim_ix (ge_lst (ga_cons ge_int (ga_cons ge_int (ga_cons ge_int ga_nil)))) (ge_call G_law_take (hr) (by rfl) T.g__law_take T.k__law_take b_law_take .nil (fun _ => .nil) pass0 (ga_cons (gv 0) (ga_cons ge_int ga_nil))) (fun _ _ => rfl)) ga_nil)))) ga_nil))))
      (gss_one (gs_expr (ge_bm PySem.F.plainAttrs_list PySem.F.slot_list_append PySem.F.type_list_append mt_append simk_L sim_append (gv 3) (ga_cons (ge_tup (ga_cons (ge_call G_law_take (hr) (by rfl) T.g__law_take T.k__law_take b_law_take .nil (fun _ => .nil) pass0 (ga_cons (gv 0) (ga_cons (ge_callB (cr_len K) sim_len (by rfl) T.z_len (by decide +kernel) (ga_cons (gv 1) ga_nil)) ga_nil))) (ga_cons (ge_call G_law_take (hr) (by rfl) T.g__law_take T.k__law_take b_law_take .nil (fun _ => .nil) pass0 (ga_cons (gv 0) (ga_cons ge_int ga_nil))) (ga_cons (ge_call G_law_take (hr) (by rfl) T.g__law_take T.k__law_take b_law_take .nil (fun _ => .nil) pass0 (ga_cons (gv 0) (ga_cons (gv 5) ga_nil))) (ga_cons (gv 4) ga_nil))))) ga_nil))))))
      (gss_one (gs_ret (gv 3))))), fun svs m SX Sv h => ?_⟩)
  · obtain ⟨b, R, most, rfl, _⟩ := h
    rfl
  · obtain ⟨b, R, most, rfl, hb, ok, hm, q⟩ := h
    have r1 := ok.one
    have r6 := ok.six
    walk_at "r"
    refine ⟨by walk_at "len", fun p hp => ?_⟩
    walk_at "r"
    refine ⟨hb.new hp, small (by decide) (by decide), fun bn b0 b1 => ?_⟩
    walk_at "r"
    refine ⟨by walk_at "len", fun p2 hp2 => ?_⟩
    walk_at "r"
    refine ⟨(hb.new hp).new hp2, small (by decide) (by decide), fun i i0 i1 => ?_⟩
    walk_at "r"
    refine ⟨_, _, up_same, pick2 i0 i1, ?_⟩
    rw [ite_int]
    obtain ⟨few, ef, f1, f8⟩ : ∃ few : Int, (if i = 0 then (2 : Int) else 8) = few ∧ 1 ≤ few ∧ few ≤ 8 := by
      split
      · exact ⟨2, rfl, by decide, by decide⟩
      · exact ⟨8, rfl, by decide, by decide⟩
    rw [ef]
    walk_at "r"
    refine ⟨(hb.new hp).new hp2, small (by omega) (by omega), fun n n0 n1 => ?_⟩
    walk_at "r"
    refine ⟨⟨by omega, by omega⟩, ?_⟩
    refine for_inv (fun r δ m' => ∃ (N : List NR) (bn : Int) (x : Option SV), Le (up m p (.lst (N.map NR.sv))) m' ∧ δ = [some (.ref b), some (PV R), some (.int most), some (.ref p), some (.int bn), some (.int few), x] ∧ NtOk R N ∧ (N.length : Int) + r.length ≤ n ∧ (0 ≤ bn ∧ bn ≤ 300) ∧ ∀ y ∈ N, y.born ≤ bn) ⟨[], bn, none, Le.new (.refl _) hp2, rfl, ⟨Nat.zero_le _, fun x h => (nomatch h), .nil⟩, by rw [rngS_length]; simp; omega, ⟨b0, by omega⟩, fun y h => nomatch h⟩ (fun x r δ m' h => ?_) (fun δ m' h => ?_)
    · obtain ⟨N, bn, x0, l, rfl, no, hl, hbn, hy⟩ := h
      have hb' : IsBox m' b := (hb.new hp).le l
      rw [List.length_cons] at hl
      have hN : N.length < 30 := by push_cast at hl; omega
      refine ⟨trivial, ?_⟩
      walk_at "r"
      refine ⟨by walk_at "len", fun p3 hp3 => ?_⟩
      have b3 := hb'.new (o := .lst [.int 2, .int 9, .int 40]) hp3
      have l3 := le_new (o' := .lst [.int 2, .int 9, .int 40]) l hp3
      have e3 : up m' p3 (.lst [.int 2, .int 9, .int 40]) p3 = _ := up_same
      generalize up m' p3 (.lst [.int 2, .int 9, .int 40]) = m3 at *
      walk_at "r"
      refine ⟨b3, small (by decide) (by decide), fun j j0 j1 => ?_⟩
      walk_at "r"
      refine ⟨_, _, e3, pick3 j0 j1, ?_⟩
      rw [show (if j = 0 then SV.int 2 else if j = 1 then .int 9 else .int 40) = .int (if j = 0 then 2 else if j = 1 then 9 else 40) by split <;> first | rfl | (split <;> rfl)]
      walk_at "r"
      refine ⟨b3, small (by split <;> first | decide | (split <;> decide)) (by split <;> first | decide | (split <;> decide)), fun d d0 d1 => ?_⟩
      walk_at "r"
      have em : (if bn + d < 300 then bn + d else 300) = min 300 (bn + d) := by split <;> omega
      rw [em]
      refine ⟨⟨_, l3 _ _ up_same⟩, ?_⟩
      walk_at "r"
      refine ⟨_, rfl, ?_⟩
      walk_at "r"
      rw [len_pv]
      refine ⟨b3, small (by omega) (by omega), fun a1 a10 a11 => ?_⟩
      walk_at "r"
      refine ⟨b3, small (by decide) (by decide), fun a2 a20 a21 => ?_⟩
      walk_at "r"
      refine ⟨b3, small (by omega) (by omega), fun a3 a30 a31 => ?_⟩
      walk_at "r"
      refine ⟨by walk_at "len", ?_⟩
      walk_at "r"
      refine ⟨_, l3 _ _ up_same, line_le (by rw [List.length_map]; omega), ?_⟩
      have l4 := put_le (o' := .lst ((N ++ [(⟨a1, a2, a3, min 300 (bn + d)⟩ : NR)]).map NR.sv)) l3
      have e4 : (N ++ [(⟨a1, a2, a3, min 300 (bn + d)⟩ : NR)]).map NR.sv = N.map NR.sv ++ [.tup [.int a1, .int a2, .int a3, .int (min 300 (bn + d))]] := by rw [List.map_append]; rfl
      rw [e4] at l4
      walk_at "r"
      refine .of ⟨N ++ [⟨a1, a2, a3, min 300 (bn + d)⟩], min 300 (bn + d), _, by rw [e4]; exact l4, rfl, ntok_snoc no hN ⟨⟨a10, a11⟩, ⟨a20, by show a2 ≤ 3; omega⟩, ⟨a30, by show a3 ≤ 7; omega⟩, by show 0 ≤ min 300 (bn + d); omega, by show min 300 (bn + d) ≤ 300; omega⟩ fun y h => by have := hy y h; show y.born ≤ min 300 (bn + d); have := (no.all y h).2.2.2; omega, by rw [List.length_append]; simp; omega, ⟨by omega, by omega⟩, fun y h => ?_⟩
      rcases List.mem_append.mp h with h | h
      · have := hy y h
        have := (no.all y h).2.2.2
        omega
      · rw [List.mem_singleton.mp h]
        exact Int.le_refl _
    · obtain ⟨N, bn, x0, l, rfl, no, hl, hbn, hy⟩ := h
      refine ⟨trivial, ?_⟩
      walk_at "r"
      exact ⟨_, l, q N p no (by simp at hl; omega) hp⟩
end
end Hn

set_option Elab.async false
set_option linter.all false
set_option maxRecDepth 100000
set_option maxHeartbeats 8000000
namespace Hn
open PySem PySem.Spec PyProof.Rows L2 Sy Lm
section
variable {P : Program} {w : World} {K : PySem.W.Frag} {mg : Str → Option Value} {base : Heap}
local macro_rules | `(tactic| walk_at "r") => `(tactic| (conv => whnf))
local macro_rules | `(tactic| walk_at "sp") => `(tactic| (first | rfl | contradiction | exact (False.elim ‹_›)))
local macro_rules | `(tactic| walk_at "len") => `(tactic| (exact Nat.le_trans (show _ ≤ 100000 by first | (simp; done) | (rw [rngS_length]; decide)) (by decide)))
local macro_rules | `(tactic| walk_at "f") => `(tactic| (refine Br_i (fun hb => Bool.noConfusion (show false = true from hb)) (fun _ => ?_)))
local macro_rules | `(tactic| walk_at "t") => `(tactic| (refine Br_i (fun _ => ?_) (fun hb => Bool.noConfusion (show true = false from hb))))
local macro_rules | `(tactic| walk_at "le") => `(tactic| first | exact Le.refl _ | (refine Le.put ?_; walk_at "le") | (refine Le.new ?_ (by assumption); walk_at "le"))
def NR.dt (x : NR) : PyData := .tuple [.int x.per, .int x.rank, .int x.kind, .int x.born]
def hrDt (h : Hr) : PyData := .tuple [.int h.1, .int h.2.1, .int h.2.2]
theorem rds_map {α : Type} {m : Mem} {f : α → SV} {g : α → PyData} (h : ∀ x, Rd m (f x) (g x)) : ∀ l : List α, Rds m (l.map f) (l.map g)
  | [] => .nil
  | x :: r => .cons (h x) (rds_map h r)
theorem rd_nr {m : Mem} (x : NR) : Rd m x.sv x.dt := .tup (.cons (.int _) (.cons (.int _) (.cons (.int _) (.cons (.int _) .nil))))
theorem shp_nr (x : NR) : Shp 2 x.dt := by
  refine (shp_list (n := 1) (ds := [.int x.per, .int x.rank, .int x.kind, .int x.born]) fun d hd => ?_).2
  simp only [List.mem_cons, List.not_mem_nil, or_false] at hd
  rcases hd with rfl | rfl | rfl | rfl <;> exact shp_int _
theorem shd_nrs (N : List NR) : SeqAt.shaped (.list (N.map NR.dt)) = true := shp_ok (n := 3) (shp_list fun d hd => by
  obtain ⟨x, _, rfl⟩ := List.mem_map.mp hd
  exact shp_nr x).1 (by decide)
theorem eqv_nil (ds : List PyData) : PyData.eqv (.list ds) (.list []) = ds.isEmpty := by cases ds <;> simp [PyData.eqv, PyData.eqvAll]
theorem hrok_snoc {R : List PR} {N : List NR} {H : List Hr} {x : Hr} (ok : HrOk R N H) (hl : H.length < 60) (hx : (0 ≤ x.1 ∧ x.1 ≤ 600) ∧ (0 ≤ x.2.1 ∧ x.2.1 < R.length) ∧ (0 ≤ x.2.2 ∧ x.2.2 < N.length)) (hb : ∀ y ∈ H, y.1 ≤ x.1) : HrOk R N (H ++ [x]) :=
  ⟨by rw [List.length_append]; simp; omega, fun y hy => by
    rcases List.mem_append.mp hy with hy | hy
    · exact ok.all y hy
    · rw [List.mem_singleton.mp hy]; exact hx, by
    rw [List.pairwise_append]
    exact ⟨ok.rise, List.pairwise_singleton _ _, fun a ha b hb2 => by rw [List.mem_singleton.mp hb2]; exact hb a ha⟩⟩
theorem nsv_at {N : List NR} {i : Int} (h : 0 ≤ i ∧ i < N.length) : atI (N.map NR.sv) i = some (ntc N i.toNat).sv := by
  obtain ⟨j, rfl⟩ : ∃ j : Nat, i = (j : Int) := ⟨i.toNat, by omega⟩
  refine atI_nat ?_
  rw [List.getElem?_map, List.getElem?_eq_getElem (by omega), show ((j : Nat) : Int).toNat = j by omega, ntc_get (by omega)]
  rfl
def spHears : SpS := fun vs m _ S => ∃ (b a : Addr) (R : List PR) (N : List NR) (most : Int), vs = [.ref b, PV R, .ref a, .int most] ∧ IsBox m b ∧ m a = some (.lst (N.map NR.sv)) ∧ RulesOk R ∧ NtOk R N ∧ (0 ≤ most ∧ most ≤ 60) ∧ ∀ H p, HrOk R N H → (H.length : Int) ≤ most → m p = none → S (.ref p) (up m p (.lst (H.map hrS)))
theorem ok_law_hears (T : Tx K mg) : FnOk P w K mg base CX0 2 (He.ga K "_law_hears") T.fd__law_hears ["_law_box", "_law_rules_here", "_law_notices_here", "_law_most"] (lift K spHears) := by
  have G_law_take := ok_law_take (P := P) (w := w) (base := base) T
  have b_law_take := b_law_take T
  refine fn_sy T.F__law_hears sc_law_hears (fun svs m SX Sv h => ?_) (fun cdv A outer s H E hr => ⟨_, _, (gss_cons (gs_par (i := 4) (j := 5) (by rfl) sc_law_hears.nd rfl rfl (by decide) rfl rfl (ga_cons (ge_lst ga_nil) (ga_cons ge_int ga_nil)))
      (gss_cons (gs_for PassesOwn.never rfl (gi_range1 (by rfl) T.z_range (ga_cons (ge_ifE (gt_cmp (op_neG K hr.units) sim_ne (gv 2) (ge_lst ga_nil) (nomark _)) (ge_call G_law_take (hr) (by rfl) T.g__law_take T.k__law_take b_law_take .nil (fun _ => .nil) pass0 (ga_cons (gv 0) (ga_cons (ge_op (op_addG K) sim_add (gv 3) ge_int) ga_nil))) ge_int) ga_nil)) (gg_name (i := 6) sc_law_hears.nd rfl (.inl rfl))
      (gss_cons (gs_set (i := 5) sc_law_hears.nd rfl (.inl rfl) (ge_callB (call_min2 rfl) sim_min2 (by rfl) T.z_min (by decide +kernel) (ga_cons ge_int (ga_cons (ge_op (op_addG K) sim_add (gv 5) (ge_call G_law_take (hr) (by rfl) T.g__law_take T.k__law_take b_law_take .nil (fun _ => .nil) pass0 (ga_cons (gv 0) (ga_cons (ge_ix (ix_G K) sim_ix (ge_lst (ga_cons ge_int (ga_cons ge_int ga_nil))) (ge_call G_law_take (hr) (by rfl) T.g__law_take T.k__law_take b_law_take .nil (fun _ => .nil) pass0 (ga_cons (gv 0) (ga_cons ge_int ga_nil))) (fun _ _ => rfl)) ga_nil)))) ga_nil))))
      (gss_cons (gs_set (i := 7) sc_law_hears.nd rfl (.inl rfl) (ge_call G_law_take (hr) (by rfl) T.g__law_take T.k__law_take b_law_take .nil (fun _ => .nil) pass0 (ga_cons (gv 0) (ga_cons (ge_callB (cr_len K) sim_len (by rfl) T.z_len (by decide +kernel) (ga_cons (gv 2) ga_nil)) ga_nil))))
      (gss_cons (gs_set (i := 8) sc_law_hears.nd rfl (.inl rfl) (ge_ix (ix_G K) sim_ix (ge_lst (ga_cons (ge_ix (ix_G K) sim_ix (ge_ix (ix_G K) sim_ix (gv 2) (gv 7) (fun _ _ => rfl)) ge_int (fun _ _ => rfl)) (ga_cons (ge_call G_law_take (hr) (by rfl) T.g__law_take T.k__law_take b_law_take .nil (fun _ => .nil) pass0 (ga_cons (gv 0) (ga_cons (ge_callB (cr_len K) sim_len (by rfl) T.z_len (by decide +kernel) (ga_cons (gv 1) ga_nil)) ga_nil))) ga_nil))) (ge_call G_law_take (hr) (by rfl) T.g__law_take T.k__law_take b_law_take .nil (fun _ => .nil) pass0 (ga_cons (gv 0) (ga_cons ge_int ga_nil))) (fun _ _ => rfl)))
      (gss_one (gs_expr (ge_bm PySem.F.plainAttrs_list PySem.F.slot_list_append PySem.F.type_list_append mt_append simk_L sim_append (gv 4) (ga_cons (ge_tup (ga_cons (gv 5) (ga_cons (gv 8) (ga_cons (gv 7) ga_nil)))) ga_nil))))))))
      (gss_one (gs_ret (gv 4))))), fun svs m SX Sv h => ?_⟩)
  · obtain ⟨b, a, R, N, most, rfl, _⟩ := h
    rfl
  · obtain ⟨b, a, R, N, most, rfl, hb, ha, ok, no, hm, q⟩ := h
    have r1 := ok.one
    have r6 := ok.six
    have n30 := no.len
    walk_at "r"
    refine ⟨by walk_at "len", fun p hp => ?_⟩
    walk_at "r"
    refine ⟨by walk_at "len", fun p2 hp2 => ?_⟩
    walk_at "r"
    refine ⟨_, _, .ref (kp (kp ha hp) hp2) (rds_map rd_nr N), .ref up_same .nil, shd_nrs N, rfl, ?_⟩
    rw [eqv_nil]
    cases hN : N with
    | nil =>
      walk_at "r"
      walk_at "f"
      walk_at "r"
      refine ⟨⟨by decide, by decide⟩, ?_⟩
      refine for_inv (fun r δ m' => r = [] ∧ δ = [some (.ref b), some (PV R), some (.ref a), some (.int most), some (.ref p), some (.int 0), none, none, none] ∧ Le (up m p (.lst [])) m') ⟨rfl, rfl, .new (.refl _) hp2⟩ (fun x r δ m' h => by cases h.1) (fun δ m' h => ?_)
      obtain ⟨_, rfl, l⟩ := h
      refine ⟨trivial, ?_⟩
      walk_at "r"
      exact ⟨_, l, q [] p ⟨Nat.zero_le _, fun x h => (nomatch h), .nil⟩ (by simp; omega) hp⟩
    | cons z zs =>
      rw [← hN]
      have hne : (N.map NR.dt).isEmpty = false := by rw [hN]; rfl
      rw [hne]
      walk_at "r"
      walk_at "t"
      walk_at "r"
      have bx := (hb.new (o := .lst []) hp).new (o := .lst []) hp2
      refine ⟨bx, small (by omega) (by omega), fun n n0 n1 => ?_⟩
      walk_at "r"
      refine ⟨⟨by omega, by omega⟩, ?_⟩
      have npos : 0 < N.length := by rw [hN]; simp
      refine for_inv (fun r δ m' => ∃ (H : List Hr) (mo : Int) (x y z : Option SV), Le (up m p (.lst (H.map hrS))) m' ∧ δ = [some (.ref b), some (PV R), some (.ref a), some (.int most), some (.ref p), some (.int mo), x, y, z] ∧ HrOk R N H ∧ (H.length : Int) + r.length ≤ n ∧ (0 ≤ mo ∧ mo ≤ 600) ∧ ∀ y ∈ H, y.1 ≤ mo) ⟨[], 0, none, none, none, .new (.refl _) hp2, rfl, ⟨Nat.zero_le _, fun x h => (nomatch h), .nil⟩, by rw [rngS_length]; simp; omega, ⟨by decide, by decide⟩, fun y h => nomatch h⟩ (fun x r δ m' h => ?_) (fun δ m' h => ?_)
      · obtain ⟨H, mo, x0, y0, z0, l, rfl, ho, hl, hmo, hy⟩ := h
        have hb' : IsBox m' b := (hb.new hp).le l
        rw [List.length_cons] at hl
        have hH : H.length < 60 := by push_cast at hl; omega
        refine ⟨trivial, ?_⟩
        walk_at "r"
        refine ⟨by walk_at "len", fun p3 hp3 => ?_⟩
        have b3 := hb'.new (o := .lst [.int 3, .int 20]) hp3
        have l3 := le_new (o' := .lst [.int 3, .int 20]) l hp3
        have e3 : up m' p3 (.lst [.int 3, .int 20]) p3 = _ := up_same
        generalize up m' p3 (.lst [.int 3, .int 20]) = m3 at *
        walk_at "r"
        refine ⟨b3, small (by decide) (by decide), fun j j0 j1 => ?_⟩
        walk_at "r"
        refine ⟨_, _, e3, pick2 j0 j1, ?_⟩
        rw [ite_int]
        walk_at "r"
        refine ⟨b3, small (by split <;> decide) (by split <;> decide), fun d d0 d1 => ?_⟩
        walk_at "r"
        have em : (if mo + d < 600 then mo + d else 600) = min 600 (mo + d) := by split <;> omega
        rw [em]
        have ha3 : m3 a = _ := l3 _ _ (kp ha hp)
        refine ⟨_, ha3, ?_⟩
        walk_at "r"
        rw [List.length_map]
        refine ⟨b3, small (by omega) (by omega), fun nn nn0 nn1 => ?_⟩
        walk_at "r"
        refine ⟨_, _, ha3, nsv_at ⟨nn0, nn1⟩, ?_⟩
        walk_at "r"
        refine ⟨_, atI_nat (j := 0) rfl, ?_⟩
        walk_at "r"
        refine ⟨_, rfl, ?_⟩
        walk_at "r"
        rw [len_pv]
        refine ⟨b3, small (by omega) (by omega), fun pp pp0 pp1 => ?_⟩
        walk_at "r"
        refine ⟨by walk_at "len", fun p4 hp4 => ?_⟩
        have b4 := b3.new (o := .lst [.int (ntc N nn.toNat).per, .int pp]) hp4
        have l4 := le_new (o' := .lst [.int (ntc N nn.toNat).per, .int pp]) l3 hp4
        have e4 : up m3 p4 (.lst [.int (ntc N nn.toNat).per, .int pp]) p4 = _ := up_same
        generalize up m3 p4 (.lst [.int (ntc N nn.toNat).per, .int pp]) = m4 at *
        walk_at "r"
        refine ⟨b4, small (by decide) (by decide), fun k k0 k1 => ?_⟩
        walk_at "r"
        refine ⟨_, _, e4, pick2 k0 k1, ?_⟩
        rw [ite_int]
        have hper := (no.all _ (ntc_mem (j := nn.toNat) (by omega))).1
        obtain ⟨per, eper, per0, per1⟩ : ∃ per : Int, (if k = 0 then (ntc N nn.toNat).per else pp) = per ∧ 0 ≤ per ∧ per < R.length := by
          split
          · exact ⟨_, rfl, hper.1, hper.2⟩
          · exact ⟨_, rfl, pp0, pp1⟩
        rw [eper]
        walk_at "r"
        refine ⟨⟨_, l4 _ _ up_same⟩, ?_⟩
        walk_at "r"
        refine ⟨by walk_at "len", ?_⟩
        walk_at "r"
        refine ⟨_, l4 _ _ up_same, line_le (by rw [List.length_map]; omega), ?_⟩
        have e5 : (H ++ [((min 600 (mo + d), per, nn) : Hr)]).map hrS = H.map hrS ++ [.tup [.int (min 600 (mo + d)), .int per, .int nn]] := by rw [List.map_append]; rfl
        have l5 := put_le (o' := .lst ((H ++ [((min 600 (mo + d), per, nn) : Hr)]).map hrS)) l4
        rw [e5] at l5
        walk_at "r"
        refine .of ⟨H ++ [(min 600 (mo + d), per, nn)], min 600 (mo + d), _, _, _, by rw [e5]; exact l5, rfl, hrok_snoc ho hH ⟨⟨by show 0 ≤ min 600 (mo + d); omega, by show min 600 (mo + d) ≤ 600; omega⟩, ⟨per0, per1⟩, ⟨nn0, nn1⟩⟩ fun y h => by have := hy y h; have := (ho.all y h).1.2; show y.1 ≤ min 600 (mo + d); omega, by rw [List.length_append]; simp; omega, ⟨by omega, by omega⟩, fun y h => ?_⟩
        rcases List.mem_append.mp h with h | h
        · have := hy y h
          have := (ho.all y h).1.2
          omega
        · rw [List.mem_singleton.mp h]
          exact Int.le_refl _
      · obtain ⟨H, mo, x0, y0, z0, l, rfl, ho, hl, hmo, hy⟩ := h
        refine ⟨trivial, ?_⟩
        walk_at "r"
        exact ⟨_, l, q H p ho (by simp at hl; omega) hp⟩
end
end Hn

set_option Elab.async false
set_option linter.all false
set_option maxRecDepth 100000
set_option maxHeartbeats 8000000
namespace Hn
open PySem PySem.Spec PyProof.Rows L2 Sy Lm
section
variable {P : Program} {w : World} {K : PySem.W.Frag} {mg : Str → Option Value} {base : Heap}
local macro_rules | `(tactic| walk_at "r") => `(tactic| (conv => whnf))
local macro_rules | `(tactic| walk_at "sp") => `(tactic| (first | rfl | contradiction | exact (False.elim ‹_›)))
local macro_rules | `(tactic| walk_at "len") => `(tactic| (exact Nat.le_trans (show _ ≤ 100000 by first | (simp; done) | (rw [rngS_length]; decide)) (by decide)))
local macro_rules | `(tactic| walk_at "f") => `(tactic| (refine Br_i (fun hb => Bool.noConfusion (show false = true from hb)) (fun _ => ?_)))
local macro_rules | `(tactic| walk_at "t") => `(tactic| (refine Br_i (fun _ => ?_) (fun hb => Bool.noConfusion (show true = false from hb))))
local macro_rules | `(tactic| walk_at "le") => `(tactic| first | exact Le.refl _ | (refine Le.put ?_; walk_at "le") | (refine Le.new ?_ (by assumption); walk_at "le"))
class Own (P : Program) (K : PySem.W.Frag) (mg : Str → Option Value) : Prop where
  zs : mg "super" = none
  k_BadRules : Kx_BadRules P K
  k_BadNotices : Kx_BadNotices P K
  k_BadHears : Kx_BadHears P K
  k_BadText : Kx_BadText P K

def nX (K : PySem.W.Frag) (C : String) (n : Int) : XO := ⟨He.ga K C, some [("number", .int n)]⟩
theorem log_small {i : Int} (h1 : -1 ≤ i) (h2 : i ≤ 100) : i.natAbs.log2 < 1920 := Nat.lt_of_le_of_lt (Nat.log2_le_self _) (by omega)
def lastB (N : List NR) : Int := (N.map NR.born).getLastD 0
def lastH (N : List Hr) : Int := (N.map (·.1)).getLastD 0
/-- these rows, the odd one (or none) behind N good ones -/
def spNtA (K : PySem.W.Frag) : SpS := fun vs m SX S => ∃ R N a tail, vs = [PV R, .ref a] ∧ m a = some (.lst (N.map NR.sv ++ tail)) ∧ NtOk R N ∧
  ((tail = [] ∧ S .non m) ∨ ∃ odd rest, tail = odd :: rest ∧ DD m odd ∧ (N.length = 30 ∨ canNt odd R.length (lastB N) = false) ∧ SX (nX K "BadNotices" N.length) m)
def spHrA (K : PySem.W.Frag) : SpS := fun vs m SX S => ∃ R N H a x tail, vs = [PV R, .ref a, x] ∧ m a = some (.lst (N.map NR.sv)) ∧ Its m x (H.map hrS ++ tail) ∧ HrOk R N H ∧ (∃ t, tyS m x t ∧ (isB t "list" || isB t "tuple") = true) ∧
  ((tail = [] ∧ S .non m) ∨ ∃ odd rest, tail = odd :: rest ∧ DD m odd ∧ (H.length = 60 ∨ canHr odd R.length N.length (lastH H) = false) ∧ SX (nX K "BadHears" H.length) m)
def spMoA (K : PySem.W.Frag) : SpS := fun vs m SX S => ∃ x u, vs = [x, .int u] ∧ DD m x ∧ (isWh x 0 u = true → S .non m) ∧ (isWh x 0 u = false → SX ⟨He.ga K "BadMoment", none⟩ m)
theorem lastB_at {N : List NR} {j : Nat} {z : NR} (h : N[j]? = some z) (e : N.length = j + 1) : lastB N = z.born := by
  unfold lastB
  have hj := (List.getElem?_eq_some_iff.mp h)
  obtain ⟨h1, h2⟩ := hj
  rw [List.getLastD_eq_getLast?, List.getLast?_eq_getElem?, List.length_map, e, List.getElem?_map]
  show (Option.map NR.born N[j]?).getD 0 = _
  rw [h]
  rfl
theorem lastH_at {N : List Hr} {j : Nat} {z : Hr} (h : N[j]? = some z) (e : N.length = j + 1) : lastH N = z.1 := by
  unfold lastH
  rw [List.getLastD_eq_getLast?, List.getLast?_eq_getElem?, List.length_map, e, List.getElem?_map]
  show (Option.map (·.1) N[j]?).getD 0 = _
  rw [h]
  rfl
theorem okB_refuse_bad_notices (T : Tx K mg) [OW : Own P K mg] : FnOk P w K mg base (L2.CX P w) 4 (He.ga K "refuse_bad_notices") T.fd_refuse_bad_notices ["rules", "notices"] (lift K (spNtA K)) := by
  obtain ⟨fd_BadNotices, cc_BadNotices, cda_BadNotices, kx_BadNotices⟩ := OW.k_BadNotices.k
  obtain ⟨fdI_BadNotices, hb_BadNotices, F1_BadNotices⟩ := ini_BadNotices (P := P) (w := w) (mg := mg) (base := base) OW.k_BadNotices OW.zs
  have G_can_be_notice := ok_can_be_notice (P := P) (w := w) (base := base) T
  have b_can_be_notice := b_can_be_notice T
  refine fn_syX T.F_refuse_bad_notices sc_refuse_bad_notices (fun svs m SX Sv h => ?_) (fun cdv A outer s H E hr => ⟨_, _, (gss_cons (gs_if (gt_not (gt_val (ge_callB (cr_isi K) sim_isi (by rfl) T.z_isinstance (by decide +kernel) (ga_cons (gv 1) (ga_cons (ge_ty (n := "list") (by rfl) T.z_list (by decide +kernel)) ga_nil))))) (gss_one (gs_raiseI1 rfl (takes_of rfl rfl rfl rfl) kx_BadNotices.S.T kx_BadNotices.iC kx_BadNotices.tI F1_BadNotices (hr.mono (by decide)) hb_BadNotices pass0 (by rfl) T.g_BadNotices (ga_cons ge_int ga_nil))) gss_nil)
      (gss_cons (gs_set (i := 2) sc_refuse_bad_notices.nd rfl (.inl rfl) ge_int)
      (gss_one (gs_for (passes_of rfl) rfl (gi_enumerate (by rfl) T.z_enumerate (ga_cons (gv 1) ga_nil)) (gg_tup 2 (by rfl) (ggs_cons (gg_name (i := 3) sc_refuse_bad_notices.nd rfl (.inl rfl)) (ggs_cons (gg_name (i := 4) sc_refuse_bad_notices.nd rfl (.inl rfl)) ggs_nil)))
      (gss_cons (gs_if (gw_pt (gw_or (gt_cmp (op_eqG K hr.units) sim_eq (gv 3) (ge_gi (by rfl) T.i_MOST_NOTICES) (nomark _)) (gw_or1 (gt_not (gt_val (ge_call G_can_be_notice (hr) (by rfl) T.g_can_be_notice T.k_can_be_notice b_can_be_notice .nil (fun _ => .nil) pass0 (ga_cons (gv 4) (ga_cons (ge_callB (cr_len K) sim_len (by rfl) T.z_len (by decide +kernel) (ga_cons (gv 0) ga_nil)) (ga_cons (gv 2) ga_nil))))))))) (gss_one (gs_raiseI1 rfl (takes_of rfl rfl rfl rfl) kx_BadNotices.S.T kx_BadNotices.iC kx_BadNotices.tI F1_BadNotices (hr.mono (by decide)) hb_BadNotices pass0 (by rfl) T.g_BadNotices (ga_cons (gv 3) ga_nil))) gss_nil)
      (gss_one (gs_set (i := 2) sc_refuse_bad_notices.nd rfl (.inl rfl) (ge_ix (ix_G K) sim_ix (gv 4) ge_int (fun _ _ => rfl))))))))), fun svs m SX Sv h => ?_⟩)
  · obtain ⟨R, N, a, tail, rfl, _⟩ := h
    rfl
  · obtain ⟨R, N, a, tail, rfl, ha, ok, hq⟩ := h
    have hl := ok.len
    walk_at "r"
    refine ⟨by decide, _, ⟨rfl, _, ha⟩, ?_⟩
    walk_at "r"
    walk_at "f"
    walk_at "r"
    refine ⟨_, ha, ?_⟩
    refine for_inv (fun r δ m' => m' = m ∧ ∃ (j : Nat) (lo : Int) (x y : Option SV), δ = [some (PV R), some (.ref a), some (.int lo), x, y] ∧ r = enS j ((N.drop j).map NR.sv ++ tail) ∧ j ≤ N.length ∧ (∀ z ∈ N.drop j, lo ≤ z.born) ∧ (j = N.length → lo = lastB N)) ⟨rfl, 0, 0, none, none, rfl, rfl, Nat.zero_le _, fun z hz => (ok.all z hz).2.2.2.1, fun e => by
      have e2 : N = [] := List.eq_nil_of_length_eq_zero e.symm
      rw [e2]; rfl⟩ (fun x r δ m' h => ?_) (fun δ m' h => ?_)
    · obtain ⟨rfl, j, lo, a3, a4, rfl, hr, hj, hlo, hla⟩ := h
      cases hd : N.drop j with
      | nil =>
        have ej : j = N.length := by
          have := List.drop_eq_nil_iff.mp hd
          omega
        rw [hd, List.map_nil, List.nil_append] at hr
        rcases hq with ⟨rfl, _⟩ | ⟨odd, rest, rfl, dodd, hb, q⟩
        · cases hr
        rw [enS_cons] at hr
        obtain ⟨rfl, rfl⟩ := List.cons.inj hr
        refine ⟨ha, ?_⟩
        walk_at "r"
        refine ⟨rfl, ?_⟩
        walk_at "r"
        refine Br_i (fun h2 => ?_) (fun h2 => ?_)
        · walk_at "r"
          walk_at "t"
          walk_at "r"
          rw [ej]
          exact ⟨_, rfl, log_small (by omega) (by omega), .of q⟩
        · have h3 := of_decide_eq_false h2
          walk_at "r"
          refine ⟨_, rfl, ?_⟩
          walk_at "r"
          refine ⟨dodd, ?_⟩
          have cn : canNt odd ((R.map PR.pv).length : Int) lo = false := by
            rw [List.length_map, hla ej]
            rcases hb with hb | hb
            · omega
            · exact hb
          rw [cn]
          walk_at "r"
          walk_at "t"
          walk_at "r"
          rw [ej]
          exact ⟨_, rfl, log_small (by omega) (by omega), .of q⟩
      | cons z zs =>
        obtain ⟨hz, hd2⟩ := drop_cons' hd
        have hj2 := (List.getElem?_eq_some_iff.mp hz).1
        rw [hd, List.map_cons, List.cons_append, enS_cons] at hr
        obtain ⟨rfl, rfl⟩ := List.cons.inj hr
        have hm : z ∈ N := List.mem_of_getElem? hz
        obtain ⟨⟨p0, p1⟩, ⟨r0, r1⟩, ⟨k0, k1⟩, ⟨b0, b1⟩⟩ := ok.all z hm
        have hlz := hlo z (by rw [hd]; exact List.mem_cons_self)
        refine ⟨ha, ?_⟩
        walk_at "r"
        refine ⟨rfl, ?_⟩
        walk_at "r"
        refine Br_i (fun h2 => ?_) (fun _ => ?_)
        · have := of_decide_eq_true h2
          omega
        walk_at "r"
        refine ⟨_, rfl, ?_⟩
        walk_at "r"
        refine ⟨nr_dd z, ?_⟩
        have cn : canNt z.sv ((R.map PR.pv).length : Int) lo = true := by
          show (isWh (.int z.per) 0 _ && (isWh (.int z.rank) 0 3 && (isWh (.int z.kind) 0 7 && isWh (.int z.born) lo 300))) = true
          rw [wh_of p0 (by rw [List.length_map]; omega), wh_of r0 r1, wh_of k0 k1, wh_of hlz b1]
          rfl
        rw [cn]
        walk_at "r"
        walk_at "f"
        walk_at "r"
        refine ⟨_, atI_nat (j := 3) rfl, ?_⟩
        walk_at "r"
        refine .of ⟨rfl, j + 1, z.born, _, _, rfl, by rw [hd2]; push_cast; rfl, hj2, fun y hy => ?_, fun e => (lastB_at hz e.symm).symm⟩
        rw [hd2] at hy
        have pw := ok.rise.drop (i := j)
        rw [hd] at pw
        exact (List.pairwise_cons.mp pw).1 y hy
    · obtain ⟨rfl, j, lo, a3, a4, rfl, hr, hj, hlo, hla⟩ := h
      refine ⟨ha, ?_⟩
      walk_at "r"
      rcases hq with ⟨_, q⟩ | ⟨odd, rest, rfl, _⟩
      · exact .of q
      · exfalso
        have z := congrArg List.length hr
        cases hd : N.drop j with
        | nil => rw [hd] at hr; cases hr
        | cons y ys => rw [hd] at hr; cases hr
theorem okB_refuse_bad_hears (T : Tx K mg) [OW : Own P K mg] : FnOk P w K mg base (L2.CX P w) 4 (He.ga K "refuse_bad_hears") T.fd_refuse_bad_hears ["rules", "notices", "hears"] (lift K (spHrA K)) := by
  obtain ⟨fd_BadHears, cc_BadHears, cda_BadHears, kx_BadHears⟩ := OW.k_BadHears.k
  obtain ⟨fdI_BadHears, hb_BadHears, F1_BadHears⟩ := ini_BadHears (P := P) (w := w) (mg := mg) (base := base) OW.k_BadHears OW.zs
  have G_can_be_hear := ok_can_be_hear (P := P) (w := w) (base := base) T
  have b_can_be_hear := b_can_be_hear T
  refine fn_syX T.F_refuse_bad_hears sc_refuse_bad_hears (fun svs m SX Sv h => ?_) (fun cdv A outer s H E hr => ⟨_, _, (gss_cons (gs_if (gt_not (gt_val (ge_isi2 (tA := "list") (tB := "tuple") (by rfl) T.z_isinstance (gv 2) (by rfl) T.z_list (by rfl) T.z_tuple (by decide +kernel) (by decide +kernel)))) (gss_one (gs_raiseI1 rfl (takes_of rfl rfl rfl rfl) kx_BadHears.S.T kx_BadHears.iC kx_BadHears.tI F1_BadHears (hr.mono (by decide)) hb_BadHears pass0 (by rfl) T.g_BadHears (ga_cons ge_int ga_nil))) gss_nil)
      (gss_cons (gs_set (i := 3) sc_refuse_bad_hears.nd rfl (.inl rfl) ge_int)
      (gss_one (gs_for (passes_of rfl) rfl (gi_enumerate2 (by rfl) T.z_enumerate (ga_cons (gv 2) ga_nil)) (gg_tup 2 (by rfl) (ggs_cons (gg_name (i := 4) sc_refuse_bad_hears.nd rfl (.inl rfl)) (ggs_cons (gg_name (i := 5) sc_refuse_bad_hears.nd rfl (.inl rfl)) ggs_nil)))
      (gss_cons (gs_if (gw_pt (gw_or (gt_cmp (op_eqG K hr.units) sim_eq (gv 4) (ge_gi (by rfl) T.i_MOST_HEARS) (nomark _)) (gw_or1 (gt_not (gt_val (ge_call G_can_be_hear (hr) (by rfl) T.g_can_be_hear T.k_can_be_hear b_can_be_hear .nil (fun _ => .nil) pass0 (ga_cons (gv 5) (ga_cons (ge_callB (cr_len K) sim_len (by rfl) T.z_len (by decide +kernel) (ga_cons (gv 0) ga_nil)) (ga_cons (ge_callB (cr_len K) sim_len (by rfl) T.z_len (by decide +kernel) (ga_cons (gv 1) ga_nil)) (ga_cons (gv 3) ga_nil)))))))))) (gss_one (gs_raiseI1 rfl (takes_of rfl rfl rfl rfl) kx_BadHears.S.T kx_BadHears.iC kx_BadHears.tI F1_BadHears (hr.mono (by decide)) hb_BadHears pass0 (by rfl) T.g_BadHears (ga_cons (gv 4) ga_nil))) gss_nil)
      (gss_one (gs_set (i := 3) sc_refuse_bad_hears.nd rfl (.inl rfl) (ge_ix (ix_G K) sim_ix (gv 5) ge_int (fun _ _ => rfl))))))))), fun svs m SX Sv h => ?_⟩)
  · obtain ⟨R, N, H, a, x, tail, rfl, _⟩ := h
    rfl
  · obtain ⟨R, N, H, a, x, tail, rfl, ha, hx, ok, ⟨t, ht, hb⟩, hq⟩ := h
    have hl := ok.len
    walk_at "r"
    refine ⟨by decide, by decide, t, ht, ?_⟩
    rw [hb]
    walk_at "r"
    walk_at "f"
    walk_at "r"
    refine ⟨_, hx, ?_⟩
    refine for_inv (fun r δ m' => m' = m ∧ ∃ (j : Nat) (lo : Int) (y z : Option SV), δ = [some (PV R), some (.ref a), some x, some (.int lo), y, z] ∧ r = enS j ((H.drop j).map hrS ++ tail) ∧ j ≤ H.length ∧ (∀ z ∈ H.drop j, lo ≤ z.1) ∧ (j = H.length → lo = lastH H)) ⟨rfl, 0, 0, none, none, rfl, rfl, Nat.zero_le _, fun z hz => (ok.all z hz).1.1, fun e => by
      have e2 : H = [] := List.eq_nil_of_length_eq_zero e.symm
      rw [e2]; rfl⟩ (fun y r δ m' h => ?_) (fun δ m' h => ?_)
    · obtain ⟨rfl, j, lo, a3, a4, rfl, hr, hj, hlo, hla⟩ := h
      cases hd : H.drop j with
      | nil =>
        have ej : j = H.length := by
          have := List.drop_eq_nil_iff.mp hd
          omega
        rw [hd, List.map_nil, List.nil_append] at hr
        rcases hq with ⟨rfl, _⟩ | ⟨odd, rest, rfl, dodd, hb, q⟩
        · cases hr
        rw [enS_cons] at hr
        obtain ⟨rfl, rfl⟩ := List.cons.inj hr
        refine ⟨?_, ?_⟩
        · cases x <;> first
            | exact trivial
            | exact hx
            | exact (show False from hx).elim
        walk_at "r"
        refine ⟨rfl, ?_⟩
        walk_at "r"
        refine Br_i (fun h2 => ?_) (fun h2 => ?_)
        · walk_at "r"
          walk_at "t"
          walk_at "r"
          rw [ej]
          exact ⟨_, rfl, log_small (by omega) (by omega), .of q⟩
        · have h3 := of_decide_eq_false h2
          walk_at "r"
          refine ⟨_, rfl, ?_⟩
          walk_at "r"
          refine ⟨_, ha, ?_⟩
          walk_at "r"
          refine ⟨dodd, ?_⟩
          have cn : canHr odd ((R.map PR.pv).length : Int) ((N.map NR.sv).length : Int) lo = false := by
            rw [List.length_map, List.length_map, hla ej]
            rcases hb with hb | hb
            · omega
            · exact hb
          rw [cn]
          walk_at "r"
          walk_at "t"
          walk_at "r"
          rw [ej]
          exact ⟨_, rfl, log_small (by omega) (by omega), .of q⟩
      | cons z zs =>
        obtain ⟨hz, hd2⟩ := drop_cons' hd
        have hj2 := (List.getElem?_eq_some_iff.mp hz).1
        rw [hd, List.map_cons, List.cons_append, enS_cons] at hr
        obtain ⟨rfl, rfl⟩ := List.cons.inj hr
        have hm : z ∈ H := List.mem_of_getElem? hz
        obtain ⟨⟨t0, t1⟩, ⟨p0, p1⟩, ⟨n0, n1⟩⟩ := ok.all z hm
        have hlz := hlo z (by rw [hd]; exact List.mem_cons_self)
        refine ⟨?_, ?_⟩
        · cases x <;> first
            | exact trivial
            | exact hx
            | exact (show False from hx).elim
        walk_at "r"
        refine ⟨rfl, ?_⟩
        walk_at "r"
        refine Br_i (fun h2 => ?_) (fun _ => ?_)
        · have := of_decide_eq_true h2
          omega
        walk_at "r"
        refine ⟨_, rfl, ?_⟩
        walk_at "r"
        refine ⟨_, ha, ?_⟩
        walk_at "r"
        refine ⟨hr_dd z, ?_⟩
        have cn : canHr (hrS z) ((R.map PR.pv).length : Int) ((N.map NR.sv).length : Int) lo = true := by
          show (isWh (.int z.1) lo 600 && (isWh (.int z.2.1) 0 _ && isWh (.int z.2.2) 0 _)) = true
          rw [wh_of hlz t1, wh_of p0 (by rw [List.length_map]; omega), wh_of n0 (by rw [List.length_map]; omega)]
          rfl
        rw [cn]
        walk_at "r"
        walk_at "f"
        walk_at "r"
        refine ⟨_, atI_nat (j := 0) rfl, ?_⟩
        walk_at "r"
        refine .of ⟨rfl, j + 1, z.1, _, _, rfl, by rw [hd2]; push_cast; rfl, hj2, fun y hy => ?_, fun e => (lastH_at hz e.symm).symm⟩
        rw [hd2] at hy
        have pw := ok.rise.drop (i := j)
        rw [hd] at pw
        exact (List.pairwise_cons.mp pw).1 y hy
    · obtain ⟨rfl, j, lo, a3, a4, rfl, hr, hj, hlo, hla⟩ := h
      refine ⟨?_, ?_⟩
      · cases x <;> first
          | exact trivial
          | exact hx
          | exact (show False from hx).elim
      walk_at "r"
      rcases hq with ⟨_, q⟩ | ⟨odd, rest, rfl, _⟩
      · exact .of q
      · exfalso
        cases hd : H.drop j with
        | nil => rw [hd] at hr; cases hr
        | cons y ys => rw [hd] at hr; cases hr
theorem okB_refuse_bad_moment (T : Tx K mg) [OW : Own P K mg] : FnOk P w K mg base (L2.CX P w) 4 (He.ga K "refuse_bad_moment") T.fd_refuse_bad_moment ["moment", "last"] (lift K (spMoA K)) := by
  have G_is_whole := ok_is_whole (P := P) (w := w) (base := base) T
  have b_is_whole := b_is_whole T
  refine fn_syX T.F_refuse_bad_moment sc_refuse_bad_moment (fun svs m SX Sv h => ?_) (fun cdv A outer s H E hr => ⟨_, _, (gss_one (gs_if (gt_not (gt_val (ge_call G_is_whole (hr.mono (by decide)) (by rfl) T.g_is_whole T.k_is_whole b_is_whole .nil (fun _ => .nil) pass0 (ga_cons (gv 0) (ga_cons ge_int (ga_cons (gv 1) ga_nil)))))) (gss_one (gs_raise (ps_raise rfl (takes_of rfl rfl rfl rfl) (pmk_own PySem.F.excBase_ValueError T.x_BadMoment T.g_BadMoment T.k_BadMoment (raises_own T.e_BadMoment T.t_BadMoment) (by exact rfl))))) gss_nil)), fun svs m SX Sv h => ?_⟩)
  · obtain ⟨x, u, rfl, _⟩ := h
    rfl
  · obtain ⟨x, u, rfl, dx, q1, q2⟩ := h
    walk_at "r"
    refine ⟨dx.dat, ?_⟩
    walk_at "r"
    refine Br_i (fun h2 => ?_) (fun h2 => ?_)
    · walk_at "r"
      exact .of (q2 (by simpa using h2))
    · exact .of (q1 (by simpa using h2))
end
end Hn

set_option Elab.async false
set_option linter.all false
set_option maxRecDepth 100000
set_option maxHeartbeats 8000000
namespace Hn
open PySem PySem.Spec PyProof.Rows L2 Sy Lm
section
variable {P : Program} {w : World} {K : PySem.W.Frag} {mg : Str → Option Value} {base : Heap}
local macro_rules | `(tactic| walk_at "r") => `(tactic| (conv => whnf))
local macro_rules | `(tactic| walk_at "sp") => `(tactic| (first | rfl | contradiction | exact (False.elim ‹_›)))
local macro_rules | `(tactic| walk_at "len") => `(tactic| (exact Nat.le_trans (show _ ≤ 100000 by first | (simp; done) | (rw [rngS_length]; decide)) (by decide)))
local macro_rules | `(tactic| walk_at "f") => `(tactic| (refine Br_i (fun hb => Bool.noConfusion (show false = true from hb)) (fun _ => ?_)))
local macro_rules | `(tactic| walk_at "t") => `(tactic| (refine Br_i (fun _ => ?_) (fun hb => Bool.noConfusion (show true = false from hb))))
local macro_rules | `(tactic| walk_at "le") => `(tactic| first | exact Le.refl _ | (refine Le.put ?_; walk_at "le") | (refine Le.new ?_ (by assumption); walk_at "le"))
/-- what is refused, and by what -/
def BadW (K : PySem.W.Frag) (R : List PR) (m : Mem) (a : Addr) (x u : SV) (e : XO) : Prop :=
  (∃ N odd rest, m a = some (.lst (N.map NR.sv ++ odd :: rest)) ∧ NtOk R N ∧ DD m odd ∧ (N.length = 30 ∨ canNt odd R.length (lastB N) = false) ∧ e = nX K "BadNotices" N.length) ∨
  (∃ N H odd rest, m a = some (.lst (N.map NR.sv)) ∧ NtOk R N ∧ Its m x (H.map hrS ++ odd :: rest) ∧ HrOk R N H ∧ (∃ t, tyS m x t ∧ (isB t "list" || isB t "tuple") = true) ∧ DD m odd ∧ (H.length = 60 ∨ canHr odd R.length N.length (lastH H) = false) ∧ e = nX K "BadHears" H.length) ∨
  ∃ N H, m a = some (.lst (N.map NR.sv)) ∧ NtOk R N ∧ Its m x (H.map hrS) ∧ HrOk R N H ∧ (∃ t, tyS m x t ∧ (isB t "list" || isB t "tuple") = true) ∧ DD m u ∧ isWh u 0 600 = false ∧ e = ⟨He.ga K "BadMoment", none⟩
def spBadC (K : PySem.W.Frag) : SpS := fun vs m SX S => ∃ R a x u e, vs = [PV R, .ref a, x, u] ∧ RulesOk R ∧ BadW K R m a x u e ∧ SX e m
def spBadT (K : PySem.W.Frag) : SpS := fun vs m SX S => ∃ R a N odd rest, vs = [PV R, .ref a] ∧ RulesOk R ∧ m a = some (.lst (N.map NR.sv ++ odd :: rest)) ∧ NtOk R N ∧ DD m odd ∧ (N.length = 30 ∨ canNt odd R.length (lastB N) = false) ∧ SX (nX K "BadNotices" N.length) m
theorem okB_judged_course (T : Tx K mg) [OW : Own P K mg] : FnOk P w K mg base (L2.CX P w) 7 (He.ga K "judged_course") T.fd_judged_course ["rules", "notices", "hears", "until"] (lift K (spBadC K)) := by
  have G_refuse_bad_hears := okB_refuse_bad_hears (P := P) (w := w) (base := base) T
  have b_refuse_bad_hears := b_refuse_bad_hears T
  have G_refuse_bad_moment := okB_refuse_bad_moment (P := P) (w := w) (base := base) T
  have G_refuse_bad_notices := okB_refuse_bad_notices (P := P) (w := w) (base := base) T
  have b_refuse_bad_notices := b_refuse_bad_notices T
  have G_refuse_bad_rules := ok_refuse_bad_rulesP (P := P) (w := w) (base := base) T
  have b_refuse_bad_rules := b_refuse_bad_rules T
  obtain ⟨ds_refuse_bad_moment_2, hv_refuse_bad_moment_2, bd_refuse_bad_moment_2⟩ := bd_refuse_bad_moment_2 T
  refine fn_syX T.F_judged_course sc_judged_course (fun svs m SX Sv h => ?_) (fun cdv A outer s H E hr => ⟨_, _, (gss_cons (gs_expr (ge_call G_refuse_bad_rules (hr) (by rfl) T.g_refuse_bad_rules T.k_refuse_bad_rules b_refuse_bad_rules .nil (fun _ => .nil) pass0 (ga_cons (gv 0) ga_nil)))
      (gss_cons (gs_expr (ge_call G_refuse_bad_notices ((hr.mono (by decide))) (by rfl) T.g_refuse_bad_notices T.k_refuse_bad_notices b_refuse_bad_notices .nil (fun _ => .nil) passE (ga_cons (gv 0) (ga_cons (gv 1) ga_nil))))
      (gss_cons (gs_expr (ge_call G_refuse_bad_hears (hr.mono (by decide)) (by rfl) T.g_refuse_bad_hears T.k_refuse_bad_hears b_refuse_bad_hears .nil (fun _ => .nil) passE (ga_cons (gv 0) (ga_cons (gv 1) (ga_cons (gv 2) ga_nil)))))
      (gss_cons (gs_expr (ge_call G_refuse_bad_moment (hr.mono (by decide)) (by rfl) T.g_refuse_bad_moment T.k_refuse_bad_moment bd_refuse_bad_moment_2 hv_refuse_bad_moment_2 (fun _ => .nil) passE (ga_cons (gv 3) (ga_cons (ge_gi (by rfl) T.i_MOST_UNTIL) ga_nil))))
      (gss_one gs_never))))), fun svs m SX Sv h => ?_⟩)
  · obtain ⟨R, a, x, u, e, rfl, _⟩ := h
    rfl
  · obtain ⟨R, a, x, u, e, rfl, ok, hb, q⟩ := h
    walk_at "r"
    refine ⟨R, rfl, ok, ?_⟩
    walk_at "r"
    rcases hb with ⟨N, odd, rest, ha, no, dodd, hc, rfl⟩ | hb
    · exact ⟨R, N, a, _, rfl, ha, no, .inr ⟨odd, rest, rfl, dodd, hc, .of q⟩⟩
    rcases hb with ⟨N, H, odd, rest, ha, no, hx, ho, ht, dodd, hc, rfl⟩ | ⟨N, H, ha, no, hx, ho, ht, du, hu, rfl⟩
    · refine ⟨R, N, a, [], rfl, by rw [List.append_nil]; exact ha, no, .inl ⟨rfl, ?_⟩⟩
      walk_at "r"
      exact ⟨R, N, H, a, x, _, rfl, ha, hx, ho, ht, .inr ⟨odd, rest, rfl, dodd, hc, .of q⟩⟩
    · refine ⟨R, N, a, [], rfl, by rw [List.append_nil]; exact ha, no, .inl ⟨rfl, ?_⟩⟩
      walk_at "r"
      refine ⟨R, N, H, a, x, [], rfl, ha, by rw [List.append_nil]; exact hx, ho, ht, .inl ⟨rfl, ?_⟩⟩
      walk_at "r"
      refine ⟨u, 600, rfl, du, fun z => ?_, fun _ => .of q⟩
      rw [hu] at z; cases z
theorem okB_walked (T : Tx K mg) [OW : Own P K mg] : FnOk P w K mg base (L2.CX P w) 8 (He.ga K "walked") T.fd_walked ["rules", "notices", "hears", "until"] (lift K (spBadC K)) := by
  have G_judged_course := okB_judged_course (P := P) (w := w) (base := base) T
  have b_judged_course := b_judged_course T
  refine fn_syX T.F_walked sc_walked (fun svs m SX Sv h => ?_) (fun cdv A outer s H E hr => ⟨_, _, (gss_cons (gs_set (i := 4) sc_walked.nd rfl (.inl rfl) (ge_call G_judged_course (hr) (by rfl) T.g_judged_course T.k_judged_course b_judged_course .nil (fun _ => .nil) passE (ga_cons (gv 0) (ga_cons (gv 1) (ga_cons (gv 2) (ga_cons (gv 3) ga_nil))))))
      (gss_cons gs_never
      (gss_one gs_never))), fun svs m SX Sv h => ?_⟩)
  · obtain ⟨R, a, x, u, e, rfl, _⟩ := h
    rfl
  · obtain ⟨R, a, x, u, e, rfl, ok, hb, q⟩ := h
    walk_at "r"
    exact ⟨R, a, x, u, e, rfl, ok, hb, .of q⟩
theorem okB_wheeled (T : Tx K mg) [OW : Own P K mg] : FnOk P w K mg base (L2.CX P w) 8 (He.ga K "wheeled") T.fd_wheeled ["rules", "notices", "hears", "until"] (lift K (spBadC K)) := by
  have G_judged_course := okB_judged_course (P := P) (w := w) (base := base) T
  have b_judged_course := b_judged_course T
  refine fn_syX T.F_wheeled sc_wheeled (fun svs m SX Sv h => ?_) (fun cdv A outer s H E hr => ⟨_, _, (gss_cons (gs_set (i := 4) sc_wheeled.nd rfl (.inl rfl) (ge_call G_judged_course (hr) (by rfl) T.g_judged_course T.k_judged_course b_judged_course .nil (fun _ => .nil) passE (ga_cons (gv 0) (ga_cons (gv 1) (ga_cons (gv 2) (ga_cons (gv 3) ga_nil))))))
      (gss_cons gs_never
      (gss_cons gs_never
      (gss_one gs_never)))), fun svs m SX Sv h => ?_⟩)
  · obtain ⟨R, a, x, u, e, rfl, _⟩ := h
    rfl
  · obtain ⟨R, a, x, u, e, rfl, ok, hb, q⟩ := h
    walk_at "r"
    exact ⟨R, a, x, u, e, rfl, ok, hb, .of q⟩
theorem okB_written (T : Tx K mg) [OW : Own P K mg] : FnOk P w K mg base (L2.CX P w) 7 (He.ga K "written") T.fd_written ["rules", "notices"] (lift K (spBadT K)) := by
  have G_refuse_bad_notices := okB_refuse_bad_notices (P := P) (w := w) (base := base) T
  have b_refuse_bad_notices := b_refuse_bad_notices T
  have G_refuse_bad_rules := ok_refuse_bad_rulesP (P := P) (w := w) (base := base) T
  have b_refuse_bad_rules := b_refuse_bad_rules T
  refine fn_syX T.F_written sc_written (fun svs m SX Sv h => ?_) (fun cdv A outer s H E hr => ⟨_, _, (gss_cons (gs_expr (ge_call G_refuse_bad_rules (hr) (by rfl) T.g_refuse_bad_rules T.k_refuse_bad_rules b_refuse_bad_rules .nil (fun _ => .nil) pass0 (ga_cons (gv 0) ga_nil)))
      (gss_cons (gs_expr (ge_call G_refuse_bad_notices (hr.mono (by decide)) (by rfl) T.g_refuse_bad_notices T.k_refuse_bad_notices b_refuse_bad_notices .nil (fun _ => .nil) passE (ga_cons (gv 0) (ga_cons (gv 1) ga_nil))))
      (gss_cons gs_never
      (gss_cons gs_never
      (gss_cons gs_never
      (gss_one gs_never)))))), fun svs m SX Sv h => ?_⟩)
  · obtain ⟨R, a, N, odd, rest, rfl, _⟩ := h
    rfl
  · obtain ⟨R, a, N, odd, rest, rfl, ok, ha, no, dodd, hc, q⟩ := h
    walk_at "r"
    refine ⟨R, rfl, ok, ?_⟩
    walk_at "r"
    exact ⟨R, N, a, _, rfl, ha, no, .inr ⟨odd, rest, rfl, dodd, hc, .of q⟩⟩
end
end Hn

set_option Elab.async false
set_option linter.all false
set_option maxRecDepth 100000
set_option maxHeartbeats 8000000
namespace Hn
open PySem PySem.Spec PyProof.Rows L2 Sy Lm
section
variable {P : Program} {w : World} {K : PySem.W.Frag} {mg : Str → Option Value} {base : Heap}
local macro_rules | `(tactic| walk_at "r") => `(tactic| (conv => whnf))
local macro_rules | `(tactic| walk_at "sp") => `(tactic| (first | rfl | contradiction | exact (False.elim ‹_›)))
local macro_rules | `(tactic| walk_at "len") => `(tactic| (exact Nat.le_trans (show _ ≤ 100000 by first | (simp; done) | (rw [rngS_length]; decide)) (by decide)))
local macro_rules | `(tactic| walk_at "f") => `(tactic| (refine Br_i (fun hb => Bool.noConfusion (show false = true from hb)) (fun _ => ?_)))
local macro_rules | `(tactic| walk_at "t") => `(tactic| (refine Br_i (fun _ => ?_) (fun hb => Bool.noConfusion (show true = false from hb))))
local macro_rules | `(tactic| walk_at "le") => `(tactic| first | exact Le.refl _ | (refine Le.put ?_; walk_at "le") | (refine Le.new ?_ (by assumption); walk_at "le"))

def told_body : List Stmt := match defBody s_law_told with
  | [.Expr _ _, .Try _ [.ExceptHandler _ _ b _] _ _ _] => b
  | [.Try _ [.ExceptHandler _ _ b _] _ _ _] => b
  | _ => []
/-- what K says of a class of errors: it is one of the ten, a NoticeError, a ValueError -/
structure Kd_BadNotices (K : PySem.W.Frag) : Prop where
  ec : ExcC K (He.ga K "BadNotices")
  exm : PySem.W.exmOne K (.ref (He.ga K "BadNotices")) (.ref (He.ga K "NoticeError")) = some true
  ve : PySem.W.kitOne K (.ref (He.ga K "BadNotices")) (.type "ValueError") = some true
  k_BadBell : PySem.W.kitOne K (.ref (He.ga K "BadNotices")) (.ref (He.ga K "BadBell")) = some false
  k_BadDevice : PySem.W.kitOne K (.ref (He.ga K "BadNotices")) (.ref (He.ga K "BadDevice")) = some false
  k_BadHears : PySem.W.kitOne K (.ref (He.ga K "BadNotices")) (.ref (He.ga K "BadHears")) = some false
  k_BadMoment : PySem.W.kitOne K (.ref (He.ga K "BadNotices")) (.ref (He.ga K "BadMoment")) = some false
  k_BadNotices : PySem.W.kitOne K (.ref (He.ga K "BadNotices")) (.ref (He.ga K "BadNotices")) = some true
  k_BadPerson : PySem.W.kitOne K (.ref (He.ga K "BadNotices")) (.ref (He.ga K "BadPerson")) = some false
  k_BadRules : PySem.W.kitOne K (.ref (He.ga K "BadNotices")) (.ref (He.ga K "BadRules")) = some false
  k_BadText : PySem.W.kitOne K (.ref (He.ga K "BadNotices")) (.ref (He.ga K "BadText")) = some false
  k_IsOff : PySem.W.kitOne K (.ref (He.ga K "BadNotices")) (.ref (He.ga K "IsOff")) = some false
  k_NotRinging : PySem.W.kitOne K (.ref (He.ga K "BadNotices")) (.ref (He.ga K "NotRinging")) = some false
theorem told_suite_BadNotices (T : Tx K mg) [OW : Own P K mg] (KD : Kd_BadNotices K) {x : Str} {f : Addr} {cdv : Value} {A : Around} {outer : List Env} {s : Shared} {H0 : Hp} {E E2 : XK} {k : Nat} (hr : Room k (cxOf CX0 P w K mg base ["_law_work", "e", "_law_kinds", "_law_words", "_law_word"] x (defScope s_law_told) f cdv A outer s H0 E).nox.A) :
    ∃ (ts : Addr → Addr → TS) (ss : Addr → Addr → SS), (∀ (a dd : Addr) (oe : Obj) (pn : List (Addr × Obj)), Zc (.ref (He.ga K "BadNotices")) (some dd) oe → (∃ vs, oe.data = .fields vs) → GSs K E2 ((cxOf CX0 P w K mg base ["_law_work", "e", "_law_kinds", "_law_words", "_law_word"] x (defScope s_law_told) f cdv A outer s H0 E).nox.suite a ((a, oe) :: pn)) told_body (ts a dd) (ss a dd)) ∧
      ∀ (a dd : Addr) (i : Int) (D : SEnds) (v : Option SV) (SX : SXK) (m : Mem), m dd = some (.xd [("number", .int i)]) → (∀ m', Le m m' → D.rt (.tup [.str "BadNotices", .int i]) m') → ss a dd SX D [v, some (.ref a), none, none, none] m := by
  refine ⟨_, _, fun a dd oe pn hz hf => (gss_cons (gs_set (i := 2) sc_law_told.nd rfl (.inl rfl) (ge_lst (ga_cons (ge_callB (call_isED KD.ec hz hf) sim_isED (by rfl) T.z_isinstance (by decide +kernel) (ga_cons (gv 1) (ga_cons (ge_gr (by rfl) T.g_BadBell) ga_nil))) (ga_cons (ge_callB (call_isED KD.ec hz hf) sim_isED (by rfl) T.z_isinstance (by decide +kernel) (ga_cons (gv 1) (ga_cons (ge_gr (by rfl) T.g_BadDevice) ga_nil))) (ga_cons (ge_callB (call_isED KD.ec hz hf) sim_isED (by rfl) T.z_isinstance (by decide +kernel) (ga_cons (gv 1) (ga_cons (ge_gr (by rfl) T.g_BadHears) ga_nil))) (ga_cons (ge_callB (call_isED KD.ec hz hf) sim_isED (by rfl) T.z_isinstance (by decide +kernel) (ga_cons (gv 1) (ga_cons (ge_gr (by rfl) T.g_BadMoment) ga_nil))) ga_nil))))))
      (gss_cons (gs_set (i := 2) sc_law_told.nd rfl (.inl rfl) (ge_op (op_addG K) sim_add (gv 2) (ge_lst (ga_cons (ge_callB (call_isED KD.ec hz hf) sim_isED (by rfl) T.z_isinstance (by decide +kernel) (ga_cons (gv 1) (ga_cons (ge_gr (by rfl) T.g_BadNotices) ga_nil))) (ga_cons (ge_callB (call_isED KD.ec hz hf) sim_isED (by rfl) T.z_isinstance (by decide +kernel) (ga_cons (gv 1) (ga_cons (ge_gr (by rfl) T.g_BadPerson) ga_nil))) (ga_cons (ge_callB (call_isED KD.ec hz hf) sim_isED (by rfl) T.z_isinstance (by decide +kernel) (ga_cons (gv 1) (ga_cons (ge_gr (by rfl) T.g_BadRules) ga_nil))) ga_nil))))))
      (gss_cons (gs_set (i := 2) sc_law_told.nd rfl (.inl rfl) (ge_op (op_addG K) sim_add (gv 2) (ge_lst (ga_cons (ge_callB (call_isED KD.ec hz hf) sim_isED (by rfl) T.z_isinstance (by decide +kernel) (ga_cons (gv 1) (ga_cons (ge_gr (by rfl) T.g_BadText) ga_nil))) (ga_cons (ge_callB (call_isED KD.ec hz hf) sim_isED (by rfl) T.z_isinstance (by decide +kernel) (ga_cons (gv 1) (ga_cons (ge_gr (by rfl) T.g_IsOff) ga_nil))) (ga_cons (ge_callB (call_isED KD.ec hz hf) sim_isED (by rfl) T.z_isinstance (by decide +kernel) (ga_cons (gv 1) (ga_cons (ge_gr (by rfl) T.g_NotRinging) ga_nil))) ga_nil))))))
      (gss_cons (gs_if (gw_pt (gw_or (gt_cmp (op_neG K hr.units) sim_ne (ge_bm PySem.F.plainAttrs_list PySem.F.slot_list_count PySem.F.type_list_count (mt_countG K) simk_L sim_count (gv 2) (ga_cons ge_bl ga_nil)) ge_int (nomark _)) (gw_or1 (gt_not (gt_val (ge_callB (call_isED KD.ec hz hf) sim_isED (by rfl) T.z_isinstance (by decide +kernel) (ga_cons (gv 1) (ga_cons (ge_ty (n := "ValueError") (by rfl) T.z_ValueError (by decide +kernel)) ga_nil)))))))) (gss_one gs_never) gss_nil)
      (gss_cons (gs_set (i := 3) sc_law_told.nd rfl (.inl rfl) (ge_lst (ga_cons ge_str (ga_cons ge_str (ga_cons ge_str (ga_cons ge_str (ga_cons ge_str (ga_cons ge_str (ga_cons ge_str (ga_cons ge_str ga_nil))))))))))
      (gss_cons (gs_set (i := 4) sc_law_told.nd rfl (.inl rfl) (ge_ix (ix_G K) sim_ix (ge_op (op_addG K) sim_add (gv 3) (ge_lst (ga_cons ge_str (ga_cons ge_str ga_nil)))) (ge_bm PySem.F.plainAttrs_list PySem.F.slot_list_index PySem.F.type_list_index (mt_indexG K) simk_L sim_index (gv 2) (ga_cons ge_bl ga_nil)) (fun _ _ => rfl)))
      (gss_cons (gs_if (gt_cmp (op_eqG K hr.units) sim_eq (gv 4) ge_str (nomark _)) (gss_one (gs_ret (ge_tup (ga_cons (gv 4) (ga_cons ge_never (ga_cons ge_never ga_nil)))))) gss_nil)
      (gss_cons (gs_if (gt_cmp (op_eqG K hr.units) sim_eq (gv 4) ge_str (nomark _)) (gss_one (gs_ret (ge_tup (ga_cons (gv 4) (ga_cons ge_never ga_nil))))) gss_nil)
      (gss_one (gs_ret (ge_tup (ga_cons (gv 4) (ga_cons (ge_ifE (gt_cmp (op_inG K) (sim_in false) (gv 4) (ge_tup (ga_cons ge_str (ga_cons ge_str ga_nil))) (by with_unfolding_all rfl)) (ge_xf (xf_of KD.ec) OW.k_BadNotices.na_number hz hf (gv 1)) ge_int) ga_nil))))))))))))), fun a dd i D v SX m hdd q => ?_⟩
  have q : ∀ m', Le m m' → D.rt (.tup [.str "BadNotices", .int i]) m' := q
  walk_at "r"
  refine ⟨rfl, ⟨_, hdd⟩, _, KD.k_BadBell, ?_⟩
  walk_at "r"
  refine ⟨rfl, ⟨_, hdd⟩, _, KD.k_BadDevice, ?_⟩
  walk_at "r"
  refine ⟨rfl, ⟨_, hdd⟩, _, KD.k_BadHears, ?_⟩
  walk_at "r"
  refine ⟨rfl, ⟨_, hdd⟩, _, KD.k_BadMoment, ?_⟩
  walk_at "r"
  refine ⟨by walk_at "len", fun p1 h1 => ?_⟩
  have d1 := fun o => kp (u := o) hdd h1
  walk_at "r"
  refine ⟨rfl, ⟨_, d1 _⟩, _, KD.k_BadNotices, ?_⟩
  walk_at "r"
  refine ⟨rfl, ⟨_, d1 _⟩, _, KD.k_BadPerson, ?_⟩
  walk_at "r"
  refine ⟨rfl, ⟨_, d1 _⟩, _, KD.k_BadRules, ?_⟩
  walk_at "r"
  refine ⟨by walk_at "len", fun p2 h2 => ?_⟩
  walk_at "r"
  refine ⟨_, _, kp up_same h2, up_same, by walk_at "len", fun p3 h3 => ?_⟩
  have d3 := fun o3 => kp (u := o3) (kp (d1 _) h2) h3
  walk_at "r"
  refine ⟨rfl, ⟨_, d3 _⟩, _, KD.k_BadText, ?_⟩
  walk_at "r"
  refine ⟨rfl, ⟨_, d3 _⟩, _, KD.k_IsOff, ?_⟩
  walk_at "r"
  refine ⟨rfl, ⟨_, d3 _⟩, _, KD.k_NotRinging, ?_⟩
  walk_at "r"
  refine ⟨by walk_at "len", fun p4 h4 => ?_⟩
  walk_at "r"
  refine ⟨_, _, kp up_same h4, up_same, by walk_at "len", fun p5 h5 => ?_⟩
  have l5 : Le m (up (up (up (up (up m p1 _) p2 _) p3 _) p4 _) p5 (.lst [SV.bl false, SV.bl false, SV.bl false, SV.bl false, SV.bl true, SV.bl false, SV.bl false, SV.bl false, SV.bl false, SV.bl false])) := .new (.new (.new (.new (.new (.refl m) h1) h2) h3) h4) h5
  rw [show ([SV.bl _, .bl _, .bl _, .bl _] ++ [.bl _, .bl _, .bl _] ++ [.bl _, .bl _, .bl _] : List SV) = [SV.bl false, SV.bl false, SV.bl false, SV.bl false, SV.bl true, SV.bl false, SV.bl false, SV.bl false, SV.bl false, SV.bl false] from rfl]
  generalize hm5 : up (up (up (up (up m p1 _) p2 _) p3 _) p4 _) p5 (.lst [SV.bl false, SV.bl false, SV.bl false, SV.bl false, SV.bl true, SV.bl false, SV.bl false, SV.bl false, SV.bl false, SV.bl false]) = m5 at l5 ⊢
  have e5 : m5 p5 = some (.lst [SV.bl false, SV.bl false, SV.bl false, SV.bl false, SV.bl true, SV.bl false, SV.bl false, SV.bl false, SV.bl false, SV.bl false]) := by rw [← hm5]; exact up_same
  have d5 := l5 _ _ hdd
  clear hm5 h1 h2 h3 h4 h5 d1 d3
  walk_at "r"
  refine ⟨⟨_, e5⟩, ?_⟩
  walk_at "r"
  refine ⟨_, e5, rfl, rfl, ?_⟩
  walk_at "r"
  walk_at "f"
  walk_at "r"
  refine ⟨rfl, ⟨_, d5⟩, _, KD.ve, ?_⟩
  walk_at "r"
  walk_at "f"
  walk_at "r"
  refine ⟨by walk_at "len", fun p6 h6 => ?_⟩
  walk_at "r"
  refine ⟨by walk_at "len", fun p7 h7 => ?_⟩
  walk_at "r"
  refine ⟨_, _, kp up_same h7, up_same, by walk_at "len", fun p8 h8 => ?_⟩
  have e8 := kp (u := .lst ([SV.str "BadBell", SV.str "BadDevice", SV.str "BadHears", SV.str "BadMoment", SV.str "BadNotices", SV.str "BadPerson", SV.str "BadRules", SV.str "BadText"] ++ [SV.str "IsOff", SV.str "NotRinging"])) (kp (kp e5 h6) h7) h8
  have d8 := fun o8 => kp (u := o8) (kp (kp d5 h6) h7) h8
  walk_at "r"
  refine ⟨⟨_, e8⟩, ?_⟩
  walk_at "r"
  refine ⟨_, 4, _, e8, rfl, rfl, rfl, rfl, fun i z hi hz => ?_, ?_⟩
  · have hm2 : i = 0 ∨ i = 1 ∨ i = 2 ∨ i = 3 := by omega
    rcases hm2 with rfl | rfl | rfl | rfl <;> cases hz <;> rfl
  walk_at "r"
  refine ⟨_, _, up_same, atI_nat (j := 4) rfl, ?_⟩
  walk_at "r"
  walk_at "f"
  walk_at "r"
  walk_at "f"
  walk_at "r"
  refine ⟨by walk_at "len", ?_⟩
  walk_at "r"
  refine ⟨_, rfl, rfl, rfl, ?_⟩
  walk_at "r"
  walk_at "t"
  walk_at "r"
  refine ⟨rfl, _, _, d8 _, rfl, ?_⟩
  walk_at "r"
  refine ⟨by walk_at "len", ?_⟩
  exact q _ (.new (.new (.new l5 h6) h7) h8)
def spTold_BadNotices (P : Program) (w : World) (K : PySem.W.Frag) (mg : Str → Option Value) (base : Heap) : SpS := fun vs m _ S => ∃ f φ, vs = [.ref f] ∧ m f = some (.pred (ActC P w K mg base 9 f φ)) ∧ φ m (fun x m' => ∃ i : Int, x = ⟨He.ga K "BadNotices", some [("number", .int i)]⟩ ∧ ∀ m2, Le m' m2 → S (.tup [.str "BadNotices", .int i]) m2) S
theorem ok_law_told_BadNotices (T : Tx K mg) [OW : Own P K mg] (KD : Kd_BadNotices K) : FnOk P w K mg base CX0 (9 + 1) (He.ga K "_law_told") T.fd__law_told ["_law_work"] (lift K (spTold_BadNotices P w K mg base)) := by
  refine FunD.ok T.F__law_told sc_law_told (fun vs H Q E h => ?_) (fun cdv A outer s H vs Q E hr h => ?_)
  · obtain ⟨F, svs, m, SX, Sv, _, h2, ⟨f, φ, rfl, _⟩, _⟩ := h
    rw [vrs_length h2]; rfl
  obtain ⟨F, svs, m, SX, Sv, M, r, ⟨f, φ, rfl, hm, hφ⟩, hx, c⟩ := h
  obtain ⟨ts, ss, h1, h2⟩ := told_suite_BadNotices (P := P) (w := w) (base := base) T KD (x := "_law_told") (f := He.ga K "_law_told") (cdv := cdv) (A := A) (outer := outer) (s := s) (H0 := H) (E := E) (E2 := fun _ _ _ => True) hr
  refine ⟨_, PSs.nox (pss_one (ps_try_as (i := 1) (c := .ref (He.ga K "NoticeError")) (tb := fun W => tRet (tWork P w K mg base 9 0 W)) (ts := fun a cls d D σ H => cls = .ref (He.ga K "BadNotices") ∧ ∃ dd, d = some dd ∧ ts a dd D σ H) rfl rfl sc_law_told.nd rfl rfl ⟨(by rfl), (by decide), .inl T.g_NoticeError⟩ LamX.takes0
    (fun W pn xe tk _ => pss_one (ps_ret (pe_work tk hr (Nat.le_refl _) rfl (.inl rfl)))) (fun a oe cls d pn hz hf => ⟨fun pins s σ H D I h => ?_⟩))), ?_⟩
  · obtain ⟨rfl, dd, rfl, h⟩ := h
    exact (h1 a dd oe pn hz hf).pe.run pins s σ H D I h
  · obtain ⟨v0, rfl, rv⟩ := vrs_one r
    obtain rfl := vr_ref rv
    refine ⟨F, f, φ, m, _, Sv, rfl, M, hm, hφ, fun x d F' H' m' sF M' hx' ⟨i, e, q⟩ => ?_, c⟩
    subst e
    obtain ⟨dd, us, rfl, g2, g3, g4, g5⟩ := hx'
    refine ⟨true, KD.exm, fun _ a ha => ⟨rfl, dd, rfl, ?_⟩, fun z => by cases z⟩
    exact (h1 a dd ⟨.ref (He.ga K "BadNotices"), some dd, .fields #[], #[]⟩ [] ⟨rfl, rfl⟩ ⟨_, rfl⟩).sim _ F' H' [none, some (.ref a), none, none, none] (up m' dd (.xd [("number", .int i)])) (fun _ _ => True) { nx := fun _ _ => False, rt := Sv } _ ⟨⟨rfl, fun i d e => by
      match i with
      | 0 => cases e
      | 1 => cases e; exact ⟨_, rfl, .ref a⟩
      | n + 2 =>
        have z := List.mem_of_getElem? (show ([none, none, none] : DS)[n]? = some (some d) from e)
        simp at z⟩, M'.adopt g4 g3 (fun x z => by rw [g2] at z; cases z) ⟨us, g2, g5⟩, fun x d F2 H2 m2 _ _ _ _ => trivial⟩ (h2 a dd i _ _ _ _ up_same fun m2 l2 => q m2 (Le.trans (.new (.refl m') g4) l2)) ⟨fun _ _ _ _ _ _ _ _ z => z.elim, c.go sF, fun _ _ _ _ _ _ _ _ z => z.elim, fun _ _ _ _ _ _ _ _ z => z.elim⟩
/-- what K says of a class of errors: it is one of the ten, a NoticeError, a ValueError -/
structure Kd_BadHears (K : PySem.W.Frag) : Prop where
  ec : ExcC K (He.ga K "BadHears")
  exm : PySem.W.exmOne K (.ref (He.ga K "BadHears")) (.ref (He.ga K "NoticeError")) = some true
  ve : PySem.W.kitOne K (.ref (He.ga K "BadHears")) (.type "ValueError") = some true
  k_BadBell : PySem.W.kitOne K (.ref (He.ga K "BadHears")) (.ref (He.ga K "BadBell")) = some false
  k_BadDevice : PySem.W.kitOne K (.ref (He.ga K "BadHears")) (.ref (He.ga K "BadDevice")) = some false
  k_BadHears : PySem.W.kitOne K (.ref (He.ga K "BadHears")) (.ref (He.ga K "BadHears")) = some true
  k_BadMoment : PySem.W.kitOne K (.ref (He.ga K "BadHears")) (.ref (He.ga K "BadMoment")) = some false
  k_BadNotices : PySem.W.kitOne K (.ref (He.ga K "BadHears")) (.ref (He.ga K "BadNotices")) = some false
  k_BadPerson : PySem.W.kitOne K (.ref (He.ga K "BadHears")) (.ref (He.ga K "BadPerson")) = some false
  k_BadRules : PySem.W.kitOne K (.ref (He.ga K "BadHears")) (.ref (He.ga K "BadRules")) = some false
  k_BadText : PySem.W.kitOne K (.ref (He.ga K "BadHears")) (.ref (He.ga K "BadText")) = some false
  k_IsOff : PySem.W.kitOne K (.ref (He.ga K "BadHears")) (.ref (He.ga K "IsOff")) = some false
  k_NotRinging : PySem.W.kitOne K (.ref (He.ga K "BadHears")) (.ref (He.ga K "NotRinging")) = some false
theorem told_suite_BadHears (T : Tx K mg) [OW : Own P K mg] (KD : Kd_BadHears K) {x : Str} {f : Addr} {cdv : Value} {A : Around} {outer : List Env} {s : Shared} {H0 : Hp} {E E2 : XK} {k : Nat} (hr : Room k (cxOf CX0 P w K mg base ["_law_work", "e", "_law_kinds", "_law_words", "_law_word"] x (defScope s_law_told) f cdv A outer s H0 E).nox.A) :
    ∃ (ts : Addr → Addr → TS) (ss : Addr → Addr → SS), (∀ (a dd : Addr) (oe : Obj) (pn : List (Addr × Obj)), Zc (.ref (He.ga K "BadHears")) (some dd) oe → (∃ vs, oe.data = .fields vs) → GSs K E2 ((cxOf CX0 P w K mg base ["_law_work", "e", "_law_kinds", "_law_words", "_law_word"] x (defScope s_law_told) f cdv A outer s H0 E).nox.suite a ((a, oe) :: pn)) told_body (ts a dd) (ss a dd)) ∧
      ∀ (a dd : Addr) (i : Int) (D : SEnds) (v : Option SV) (SX : SXK) (m : Mem), m dd = some (.xd [("number", .int i)]) → (∀ m', Le m m' → D.rt (.tup [.str "BadHears", .int i]) m') → ss a dd SX D [v, some (.ref a), none, none, none] m := by
  refine ⟨_, _, fun a dd oe pn hz hf => (gss_cons (gs_set (i := 2) sc_law_told.nd rfl (.inl rfl) (ge_lst (ga_cons (ge_callB (call_isED KD.ec hz hf) sim_isED (by rfl) T.z_isinstance (by decide +kernel) (ga_cons (gv 1) (ga_cons (ge_gr (by rfl) T.g_BadBell) ga_nil))) (ga_cons (ge_callB (call_isED KD.ec hz hf) sim_isED (by rfl) T.z_isinstance (by decide +kernel) (ga_cons (gv 1) (ga_cons (ge_gr (by rfl) T.g_BadDevice) ga_nil))) (ga_cons (ge_callB (call_isED KD.ec hz hf) sim_isED (by rfl) T.z_isinstance (by decide +kernel) (ga_cons (gv 1) (ga_cons (ge_gr (by rfl) T.g_BadHears) ga_nil))) (ga_cons (ge_callB (call_isED KD.ec hz hf) sim_isED (by rfl) T.z_isinstance (by decide +kernel) (ga_cons (gv 1) (ga_cons (ge_gr (by rfl) T.g_BadMoment) ga_nil))) ga_nil))))))
      (gss_cons (gs_set (i := 2) sc_law_told.nd rfl (.inl rfl) (ge_op (op_addG K) sim_add (gv 2) (ge_lst (ga_cons (ge_callB (call_isED KD.ec hz hf) sim_isED (by rfl) T.z_isinstance (by decide +kernel) (ga_cons (gv 1) (ga_cons (ge_gr (by rfl) T.g_BadNotices) ga_nil))) (ga_cons (ge_callB (call_isED KD.ec hz hf) sim_isED (by rfl) T.z_isinstance (by decide +kernel) (ga_cons (gv 1) (ga_cons (ge_gr (by rfl) T.g_BadPerson) ga_nil))) (ga_cons (ge_callB (call_isED KD.ec hz hf) sim_isED (by rfl) T.z_isinstance (by decide +kernel) (ga_cons (gv 1) (ga_cons (ge_gr (by rfl) T.g_BadRules) ga_nil))) ga_nil))))))
      (gss_cons (gs_set (i := 2) sc_law_told.nd rfl (.inl rfl) (ge_op (op_addG K) sim_add (gv 2) (ge_lst (ga_cons (ge_callB (call_isED KD.ec hz hf) sim_isED (by rfl) T.z_isinstance (by decide +kernel) (ga_cons (gv 1) (ga_cons (ge_gr (by rfl) T.g_BadText) ga_nil))) (ga_cons (ge_callB (call_isED KD.ec hz hf) sim_isED (by rfl) T.z_isinstance (by decide +kernel) (ga_cons (gv 1) (ga_cons (ge_gr (by rfl) T.g_IsOff) ga_nil))) (ga_cons (ge_callB (call_isED KD.ec hz hf) sim_isED (by rfl) T.z_isinstance (by decide +kernel) (ga_cons (gv 1) (ga_cons (ge_gr (by rfl) T.g_NotRinging) ga_nil))) ga_nil))))))
      (gss_cons (gs_if (gw_pt (gw_or (gt_cmp (op_neG K hr.units) sim_ne (ge_bm PySem.F.plainAttrs_list PySem.F.slot_list_count PySem.F.type_list_count (mt_countG K) simk_L sim_count (gv 2) (ga_cons ge_bl ga_nil)) ge_int (nomark _)) (gw_or1 (gt_not (gt_val (ge_callB (call_isED KD.ec hz hf) sim_isED (by rfl) T.z_isinstance (by decide +kernel) (ga_cons (gv 1) (ga_cons (ge_ty (n := "ValueError") (by rfl) T.z_ValueError (by decide +kernel)) ga_nil)))))))) (gss_one gs_never) gss_nil)
      (gss_cons (gs_set (i := 3) sc_law_told.nd rfl (.inl rfl) (ge_lst (ga_cons ge_str (ga_cons ge_str (ga_cons ge_str (ga_cons ge_str (ga_cons ge_str (ga_cons ge_str (ga_cons ge_str (ga_cons ge_str ga_nil))))))))))
      (gss_cons (gs_set (i := 4) sc_law_told.nd rfl (.inl rfl) (ge_ix (ix_G K) sim_ix (ge_op (op_addG K) sim_add (gv 3) (ge_lst (ga_cons ge_str (ga_cons ge_str ga_nil)))) (ge_bm PySem.F.plainAttrs_list PySem.F.slot_list_index PySem.F.type_list_index (mt_indexG K) simk_L sim_index (gv 2) (ga_cons ge_bl ga_nil)) (fun _ _ => rfl)))
      (gss_cons (gs_if (gt_cmp (op_eqG K hr.units) sim_eq (gv 4) ge_str (nomark _)) (gss_one (gs_ret (ge_tup (ga_cons (gv 4) (ga_cons ge_never (ga_cons ge_never ga_nil)))))) gss_nil)
      (gss_cons (gs_if (gt_cmp (op_eqG K hr.units) sim_eq (gv 4) ge_str (nomark _)) (gss_one (gs_ret (ge_tup (ga_cons (gv 4) (ga_cons ge_never ga_nil))))) gss_nil)
      (gss_one (gs_ret (ge_tup (ga_cons (gv 4) (ga_cons (ge_ifE (gt_cmp (op_inG K) (sim_in false) (gv 4) (ge_tup (ga_cons ge_str (ga_cons ge_str ga_nil))) (by with_unfolding_all rfl)) (ge_xf (xf_of KD.ec) OW.k_BadHears.na_number hz hf (gv 1)) ge_int) ga_nil))))))))))))), fun a dd i D v SX m hdd q => ?_⟩
  have q : ∀ m', Le m m' → D.rt (.tup [.str "BadHears", .int i]) m' := q
  walk_at "r"
  refine ⟨rfl, ⟨_, hdd⟩, _, KD.k_BadBell, ?_⟩
  walk_at "r"
  refine ⟨rfl, ⟨_, hdd⟩, _, KD.k_BadDevice, ?_⟩
  walk_at "r"
  refine ⟨rfl, ⟨_, hdd⟩, _, KD.k_BadHears, ?_⟩
  walk_at "r"
  refine ⟨rfl, ⟨_, hdd⟩, _, KD.k_BadMoment, ?_⟩
  walk_at "r"
  refine ⟨by walk_at "len", fun p1 h1 => ?_⟩
  have d1 := fun o => kp (u := o) hdd h1
  walk_at "r"
  refine ⟨rfl, ⟨_, d1 _⟩, _, KD.k_BadNotices, ?_⟩
  walk_at "r"
  refine ⟨rfl, ⟨_, d1 _⟩, _, KD.k_BadPerson, ?_⟩
  walk_at "r"
  refine ⟨rfl, ⟨_, d1 _⟩, _, KD.k_BadRules, ?_⟩
  walk_at "r"
  refine ⟨by walk_at "len", fun p2 h2 => ?_⟩
  walk_at "r"
  refine ⟨_, _, kp up_same h2, up_same, by walk_at "len", fun p3 h3 => ?_⟩
  have d3 := fun o3 => kp (u := o3) (kp (d1 _) h2) h3
  walk_at "r"
  refine ⟨rfl, ⟨_, d3 _⟩, _, KD.k_BadText, ?_⟩
  walk_at "r"
  refine ⟨rfl, ⟨_, d3 _⟩, _, KD.k_IsOff, ?_⟩
  walk_at "r"
  refine ⟨rfl, ⟨_, d3 _⟩, _, KD.k_NotRinging, ?_⟩
  walk_at "r"
  refine ⟨by walk_at "len", fun p4 h4 => ?_⟩
  walk_at "r"
  refine ⟨_, _, kp up_same h4, up_same, by walk_at "len", fun p5 h5 => ?_⟩
  have l5 : Le m (up (up (up (up (up m p1 _) p2 _) p3 _) p4 _) p5 (.lst [SV.bl false, SV.bl false, SV.bl true, SV.bl false, SV.bl false, SV.bl false, SV.bl false, SV.bl false, SV.bl false, SV.bl false])) := .new (.new (.new (.new (.new (.refl m) h1) h2) h3) h4) h5
  rw [show ([SV.bl _, .bl _, .bl _, .bl _] ++ [.bl _, .bl _, .bl _] ++ [.bl _, .bl _, .bl _] : List SV) = [SV.bl false, SV.bl false, SV.bl true, SV.bl false, SV.bl false, SV.bl false, SV.bl false, SV.bl false, SV.bl false, SV.bl false] from rfl]
  generalize hm5 : up (up (up (up (up m p1 _) p2 _) p3 _) p4 _) p5 (.lst [SV.bl false, SV.bl false, SV.bl true, SV.bl false, SV.bl false, SV.bl false, SV.bl false, SV.bl false, SV.bl false, SV.bl false]) = m5 at l5 ⊢
  have e5 : m5 p5 = some (.lst [SV.bl false, SV.bl false, SV.bl true, SV.bl false, SV.bl false, SV.bl false, SV.bl false, SV.bl false, SV.bl false, SV.bl false]) := by rw [← hm5]; exact up_same
  have d5 := l5 _ _ hdd
  clear hm5 h1 h2 h3 h4 h5 d1 d3
  walk_at "r"
  refine ⟨⟨_, e5⟩, ?_⟩
  walk_at "r"
  refine ⟨_, e5, rfl, rfl, ?_⟩
  walk_at "r"
  walk_at "f"
  walk_at "r"
  refine ⟨rfl, ⟨_, d5⟩, _, KD.ve, ?_⟩
  walk_at "r"
  walk_at "f"
  walk_at "r"
  refine ⟨by walk_at "len", fun p6 h6 => ?_⟩
  walk_at "r"
  refine ⟨by walk_at "len", fun p7 h7 => ?_⟩
  walk_at "r"
  refine ⟨_, _, kp up_same h7, up_same, by walk_at "len", fun p8 h8 => ?_⟩
  have e8 := kp (u := .lst ([SV.str "BadBell", SV.str "BadDevice", SV.str "BadHears", SV.str "BadMoment", SV.str "BadNotices", SV.str "BadPerson", SV.str "BadRules", SV.str "BadText"] ++ [SV.str "IsOff", SV.str "NotRinging"])) (kp (kp e5 h6) h7) h8
  have d8 := fun o8 => kp (u := o8) (kp (kp d5 h6) h7) h8
  walk_at "r"
  refine ⟨⟨_, e8⟩, ?_⟩
  walk_at "r"
  refine ⟨_, 2, _, e8, rfl, rfl, rfl, rfl, fun i z hi hz => ?_, ?_⟩
  · have hm2 : i = 0 ∨ i = 1 := by omega
    rcases hm2 with rfl | rfl <;> cases hz <;> rfl
  walk_at "r"
  refine ⟨_, _, up_same, atI_nat (j := 2) rfl, ?_⟩
  walk_at "r"
  walk_at "f"
  walk_at "r"
  walk_at "f"
  walk_at "r"
  refine ⟨by walk_at "len", ?_⟩
  walk_at "r"
  refine ⟨_, rfl, rfl, rfl, ?_⟩
  walk_at "r"
  walk_at "t"
  walk_at "r"
  refine ⟨rfl, _, _, d8 _, rfl, ?_⟩
  walk_at "r"
  refine ⟨by walk_at "len", ?_⟩
  exact q _ (.new (.new (.new l5 h6) h7) h8)
def spTold_BadHears (P : Program) (w : World) (K : PySem.W.Frag) (mg : Str → Option Value) (base : Heap) : SpS := fun vs m _ S => ∃ f φ, vs = [.ref f] ∧ m f = some (.pred (ActC P w K mg base 9 f φ)) ∧ φ m (fun x m' => ∃ i : Int, x = ⟨He.ga K "BadHears", some [("number", .int i)]⟩ ∧ ∀ m2, Le m' m2 → S (.tup [.str "BadHears", .int i]) m2) S
theorem ok_law_told_BadHears (T : Tx K mg) [OW : Own P K mg] (KD : Kd_BadHears K) : FnOk P w K mg base CX0 (9 + 1) (He.ga K "_law_told") T.fd__law_told ["_law_work"] (lift K (spTold_BadHears P w K mg base)) := by
  refine FunD.ok T.F__law_told sc_law_told (fun vs H Q E h => ?_) (fun cdv A outer s H vs Q E hr h => ?_)
  · obtain ⟨F, svs, m, SX, Sv, _, h2, ⟨f, φ, rfl, _⟩, _⟩ := h
    rw [vrs_length h2]; rfl
  obtain ⟨F, svs, m, SX, Sv, M, r, ⟨f, φ, rfl, hm, hφ⟩, hx, c⟩ := h
  obtain ⟨ts, ss, h1, h2⟩ := told_suite_BadHears (P := P) (w := w) (base := base) T KD (x := "_law_told") (f := He.ga K "_law_told") (cdv := cdv) (A := A) (outer := outer) (s := s) (H0 := H) (E := E) (E2 := fun _ _ _ => True) hr
  refine ⟨_, PSs.nox (pss_one (ps_try_as (i := 1) (c := .ref (He.ga K "NoticeError")) (tb := fun W => tRet (tWork P w K mg base 9 0 W)) (ts := fun a cls d D σ H => cls = .ref (He.ga K "BadHears") ∧ ∃ dd, d = some dd ∧ ts a dd D σ H) rfl rfl sc_law_told.nd rfl rfl ⟨(by rfl), (by decide), .inl T.g_NoticeError⟩ LamX.takes0
    (fun W pn xe tk _ => pss_one (ps_ret (pe_work tk hr (Nat.le_refl _) rfl (.inl rfl)))) (fun a oe cls d pn hz hf => ⟨fun pins s σ H D I h => ?_⟩))), ?_⟩
  · obtain ⟨rfl, dd, rfl, h⟩ := h
    exact (h1 a dd oe pn hz hf).pe.run pins s σ H D I h
  · obtain ⟨v0, rfl, rv⟩ := vrs_one r
    obtain rfl := vr_ref rv
    refine ⟨F, f, φ, m, _, Sv, rfl, M, hm, hφ, fun x d F' H' m' sF M' hx' ⟨i, e, q⟩ => ?_, c⟩
    subst e
    obtain ⟨dd, us, rfl, g2, g3, g4, g5⟩ := hx'
    refine ⟨true, KD.exm, fun _ a ha => ⟨rfl, dd, rfl, ?_⟩, fun z => by cases z⟩
    exact (h1 a dd ⟨.ref (He.ga K "BadHears"), some dd, .fields #[], #[]⟩ [] ⟨rfl, rfl⟩ ⟨_, rfl⟩).sim _ F' H' [none, some (.ref a), none, none, none] (up m' dd (.xd [("number", .int i)])) (fun _ _ => True) { nx := fun _ _ => False, rt := Sv } _ ⟨⟨rfl, fun i d e => by
      match i with
      | 0 => cases e
      | 1 => cases e; exact ⟨_, rfl, .ref a⟩
      | n + 2 =>
        have z := List.mem_of_getElem? (show ([none, none, none] : DS)[n]? = some (some d) from e)
        simp at z⟩, M'.adopt g4 g3 (fun x z => by rw [g2] at z; cases z) ⟨us, g2, g5⟩, fun x d F2 H2 m2 _ _ _ _ => trivial⟩ (h2 a dd i _ _ _ _ up_same fun m2 l2 => q m2 (Le.trans (.new (.refl m') g4) l2)) ⟨fun _ _ _ _ _ _ _ _ z => z.elim, c.go sF, fun _ _ _ _ _ _ _ _ z => z.elim, fun _ _ _ _ _ _ _ _ z => z.elim⟩
/-- what K says of a class of errors without a dict of its own: it is one of the ten, a NoticeError, a ValueError -/
structure Kd_BadMoment (K : PySem.W.Frag) : Prop where
  ec : ExcC K (He.ga K "BadMoment")
  exm : PySem.W.exmOne K (.ref (He.ga K "BadMoment")) (.ref (He.ga K "NoticeError")) = some true
  ve : PySem.W.kitOne K (.ref (He.ga K "BadMoment")) (.type "ValueError") = some true
  k_BadBell : PySem.W.kitOne K (.ref (He.ga K "BadMoment")) (.ref (He.ga K "BadBell")) = some false
  k_BadDevice : PySem.W.kitOne K (.ref (He.ga K "BadMoment")) (.ref (He.ga K "BadDevice")) = some false
  k_BadHears : PySem.W.kitOne K (.ref (He.ga K "BadMoment")) (.ref (He.ga K "BadHears")) = some false
  k_BadMoment : PySem.W.kitOne K (.ref (He.ga K "BadMoment")) (.ref (He.ga K "BadMoment")) = some true
  k_BadNotices : PySem.W.kitOne K (.ref (He.ga K "BadMoment")) (.ref (He.ga K "BadNotices")) = some false
  k_BadPerson : PySem.W.kitOne K (.ref (He.ga K "BadMoment")) (.ref (He.ga K "BadPerson")) = some false
  k_BadRules : PySem.W.kitOne K (.ref (He.ga K "BadMoment")) (.ref (He.ga K "BadRules")) = some false
  k_BadText : PySem.W.kitOne K (.ref (He.ga K "BadMoment")) (.ref (He.ga K "BadText")) = some false
  k_IsOff : PySem.W.kitOne K (.ref (He.ga K "BadMoment")) (.ref (He.ga K "IsOff")) = some false
  k_NotRinging : PySem.W.kitOne K (.ref (He.ga K "BadMoment")) (.ref (He.ga K "NotRinging")) = some false


theorem told_suite_BadMoment (T : Tx K mg) (KD : Kd_BadMoment K) {x : Str} {f : Addr} {cdv : Value} {A : Around} {outer : List Env} {s : Shared} {H0 : Hp} {E E2 : XK} {k : Nat} (hr : Room k (cxOf CX0 P w K mg base ["_law_work", "e", "_law_kinds", "_law_words", "_law_word"] x (defScope s_law_told) f cdv A outer s H0 E).nox.A) :
    ∃ (ts : Addr → TS) (ss : Addr → SS), (∀ (a : Addr) (oe : Obj) (pn : List (Addr × Obj)), Zc (.ref (He.ga K "BadMoment")) none oe → (∃ vs, oe.data = .fields vs) → GSs K E2 ((cxOf CX0 P w K mg base ["_law_work", "e", "_law_kinds", "_law_words", "_law_word"] x (defScope s_law_told) f cdv A outer s H0 E).nox.suite a ((a, oe) :: pn)) told_body (ts a) (ss a)) ∧
      ∀ (a : Addr) (D : SEnds) (v : Option SV) (SX : SXK) (m : Mem), (∀ m', Le m m' → D.rt (.tup [.str "BadMoment", .int 0]) m') → ss a SX D [v, some (.ref a), none, none, none] m := by
  refine ⟨_, _, fun a oe pn hz hf => (gss_cons (gs_set (i := 2) sc_law_told.nd rfl (.inl rfl) (ge_lst (ga_cons (ge_callB (call_isE KD.ec hz hf) sim_isE (by rfl) T.z_isinstance (by decide +kernel) (ga_cons (gv 1) (ga_cons (ge_gr (by rfl) T.g_BadBell) ga_nil))) (ga_cons (ge_callB (call_isE KD.ec hz hf) sim_isE (by rfl) T.z_isinstance (by decide +kernel) (ga_cons (gv 1) (ga_cons (ge_gr (by rfl) T.g_BadDevice) ga_nil))) (ga_cons (ge_callB (call_isE KD.ec hz hf) sim_isE (by rfl) T.z_isinstance (by decide +kernel) (ga_cons (gv 1) (ga_cons (ge_gr (by rfl) T.g_BadHears) ga_nil))) (ga_cons (ge_callB (call_isE KD.ec hz hf) sim_isE (by rfl) T.z_isinstance (by decide +kernel) (ga_cons (gv 1) (ga_cons (ge_gr (by rfl) T.g_BadMoment) ga_nil))) ga_nil))))))
      (gss_cons (gs_set (i := 2) sc_law_told.nd rfl (.inl rfl) (ge_op (op_addG K) sim_add (gv 2) (ge_lst (ga_cons (ge_callB (call_isE KD.ec hz hf) sim_isE (by rfl) T.z_isinstance (by decide +kernel) (ga_cons (gv 1) (ga_cons (ge_gr (by rfl) T.g_BadNotices) ga_nil))) (ga_cons (ge_callB (call_isE KD.ec hz hf) sim_isE (by rfl) T.z_isinstance (by decide +kernel) (ga_cons (gv 1) (ga_cons (ge_gr (by rfl) T.g_BadPerson) ga_nil))) (ga_cons (ge_callB (call_isE KD.ec hz hf) sim_isE (by rfl) T.z_isinstance (by decide +kernel) (ga_cons (gv 1) (ga_cons (ge_gr (by rfl) T.g_BadRules) ga_nil))) ga_nil))))))
      (gss_cons (gs_set (i := 2) sc_law_told.nd rfl (.inl rfl) (ge_op (op_addG K) sim_add (gv 2) (ge_lst (ga_cons (ge_callB (call_isE KD.ec hz hf) sim_isE (by rfl) T.z_isinstance (by decide +kernel) (ga_cons (gv 1) (ga_cons (ge_gr (by rfl) T.g_BadText) ga_nil))) (ga_cons (ge_callB (call_isE KD.ec hz hf) sim_isE (by rfl) T.z_isinstance (by decide +kernel) (ga_cons (gv 1) (ga_cons (ge_gr (by rfl) T.g_IsOff) ga_nil))) (ga_cons (ge_callB (call_isE KD.ec hz hf) sim_isE (by rfl) T.z_isinstance (by decide +kernel) (ga_cons (gv 1) (ga_cons (ge_gr (by rfl) T.g_NotRinging) ga_nil))) ga_nil))))))
      (gss_cons (gs_if (gw_pt (gw_or (gt_cmp (op_neG K hr.units) sim_ne (ge_bm PySem.F.plainAttrs_list PySem.F.slot_list_count PySem.F.type_list_count (mt_countG K) simk_L sim_count (gv 2) (ga_cons ge_bl ga_nil)) ge_int (nomark _)) (gw_or1 (gt_not (gt_val (ge_callB (call_isE KD.ec hz hf) sim_isE (by rfl) T.z_isinstance (by decide +kernel) (ga_cons (gv 1) (ga_cons (ge_ty (n := "ValueError") (by rfl) T.z_ValueError (by decide +kernel)) ga_nil)))))))) (gss_one gs_never) gss_nil)
      (gss_cons (gs_set (i := 3) sc_law_told.nd rfl (.inl rfl) (ge_lst (ga_cons ge_str (ga_cons ge_str (ga_cons ge_str (ga_cons ge_str (ga_cons ge_str (ga_cons ge_str (ga_cons ge_str (ga_cons ge_str ga_nil))))))))))
      (gss_cons (gs_set (i := 4) sc_law_told.nd rfl (.inl rfl) (ge_ix (ix_G K) sim_ix (ge_op (op_addG K) sim_add (gv 3) (ge_lst (ga_cons ge_str (ga_cons ge_str ga_nil)))) (ge_bm PySem.F.plainAttrs_list PySem.F.slot_list_index PySem.F.type_list_index (mt_indexG K) simk_L sim_index (gv 2) (ga_cons ge_bl ga_nil)) (fun _ _ => rfl)))
      (gss_cons (gs_if (gt_cmp (op_eqG K hr.units) sim_eq (gv 4) ge_str (nomark _)) (gss_one gs_never) gss_nil)
      (gss_cons (gs_if (gt_cmp (op_eqG K hr.units) sim_eq (gv 4) ge_str (nomark _)) (gss_one gs_never) gss_nil)
      (gss_one (gs_ret (ge_tup (ga_cons (gv 4) (ga_cons (ge_ifE (gt_cmp (op_inG K) (sim_in false) (gv 4) (ge_tup (ga_cons ge_str (ga_cons ge_str ga_nil))) (by with_unfolding_all rfl)) ge_never ge_int) ga_nil))))))))))))), fun a D v SX m q => ?_⟩
  have q : ∀ m', Le m m' → D.rt (.tup [.str "BadMoment", .int 0]) m' := q
  walk_at "r"
  refine ⟨rfl, _, KD.k_BadBell, ?_⟩
  walk_at "r"
  refine ⟨rfl, _, KD.k_BadDevice, ?_⟩
  walk_at "r"
  refine ⟨rfl, _, KD.k_BadHears, ?_⟩
  walk_at "r"
  refine ⟨rfl, _, KD.k_BadMoment, ?_⟩
  walk_at "r"
  refine ⟨by walk_at "len", fun p1 h1 => ?_⟩
  walk_at "r"
  refine ⟨rfl, _, KD.k_BadNotices, ?_⟩
  walk_at "r"
  refine ⟨rfl, _, KD.k_BadPerson, ?_⟩
  walk_at "r"
  refine ⟨rfl, _, KD.k_BadRules, ?_⟩
  walk_at "r"
  refine ⟨by walk_at "len", fun p2 h2 => ?_⟩
  walk_at "r"
  refine ⟨_, _, kp up_same h2, up_same, by walk_at "len", fun p3 h3 => ?_⟩
  walk_at "r"
  refine ⟨rfl, _, KD.k_BadText, ?_⟩
  walk_at "r"
  refine ⟨rfl, _, KD.k_IsOff, ?_⟩
  walk_at "r"
  refine ⟨rfl, _, KD.k_NotRinging, ?_⟩
  walk_at "r"
  refine ⟨by walk_at "len", fun p4 h4 => ?_⟩
  walk_at "r"
  refine ⟨_, _, kp up_same h4, up_same, by walk_at "len", fun p5 h5 => ?_⟩
  have l5 : Le m (up (up (up (up (up m p1 _) p2 _) p3 _) p4 _) p5 (.lst [SV.bl false, SV.bl false, SV.bl false, SV.bl true, SV.bl false, SV.bl false, SV.bl false, SV.bl false, SV.bl false, SV.bl false])) := .new (.new (.new (.new (.new (.refl m) h1) h2) h3) h4) h5
  rw [show ([SV.bl _, .bl _, .bl _, .bl _] ++ [.bl _, .bl _, .bl _] ++ [.bl _, .bl _, .bl _] : List SV) = [SV.bl false, SV.bl false, SV.bl false, SV.bl true, SV.bl false, SV.bl false, SV.bl false, SV.bl false, SV.bl false, SV.bl false] from rfl]
  generalize hm5 : up (up (up (up (up m p1 _) p2 _) p3 _) p4 _) p5 (.lst [SV.bl false, SV.bl false, SV.bl false, SV.bl true, SV.bl false, SV.bl false, SV.bl false, SV.bl false, SV.bl false, SV.bl false]) = m5 at l5 ⊢
  have e5 : m5 p5 = some (.lst [SV.bl false, SV.bl false, SV.bl false, SV.bl true, SV.bl false, SV.bl false, SV.bl false, SV.bl false, SV.bl false, SV.bl false]) := by rw [← hm5]; exact up_same
  clear hm5 h1 h2 h3 h4 h5
  walk_at "r"
  refine ⟨⟨_, e5⟩, ?_⟩
  walk_at "r"
  refine ⟨_, e5, rfl, rfl, ?_⟩
  walk_at "r"
  walk_at "f"
  walk_at "r"
  refine ⟨rfl, _, KD.ve, ?_⟩
  walk_at "r"
  walk_at "f"
  walk_at "r"
  refine ⟨by walk_at "len", fun p6 h6 => ?_⟩
  walk_at "r"
  refine ⟨by walk_at "len", fun p7 h7 => ?_⟩
  walk_at "r"
  refine ⟨_, _, kp up_same h7, up_same, by walk_at "len", fun p8 h8 => ?_⟩
  have e8 := kp (u := .lst ([SV.str "BadBell", SV.str "BadDevice", SV.str "BadHears", SV.str "BadMoment", SV.str "BadNotices", SV.str "BadPerson", SV.str "BadRules", SV.str "BadText"] ++ [SV.str "IsOff", SV.str "NotRinging"])) (kp (kp e5 h6) h7) h8
  walk_at "r"
  refine ⟨⟨_, e8⟩, ?_⟩
  walk_at "r"
  refine ⟨_, 3, _, e8, rfl, rfl, rfl, rfl, fun i z hi hz => ?_, ?_⟩
  · have hm2 : i = 0 ∨ i = 1 ∨ i = 2 := by omega
    rcases hm2 with rfl | rfl | rfl <;> cases hz <;> rfl
  walk_at "r"
  refine ⟨_, _, up_same, atI_nat (j := 3) rfl, ?_⟩
  walk_at "r"
  walk_at "f"
  walk_at "r"
  walk_at "f"
  walk_at "r"
  refine ⟨by walk_at "len", ?_⟩
  walk_at "r"
  refine ⟨_, rfl, rfl, rfl, ?_⟩
  walk_at "r"
  walk_at "f"
  walk_at "r"
  refine ⟨by walk_at "len", ?_⟩
  exact q _ (.new (.new (.new l5 h6) h7) h8)
def spTold_BadMoment (P : Program) (w : World) (K : PySem.W.Frag) (mg : Str → Option Value) (base : Heap) : SpS := fun vs m _ S => ∃ f φ, vs = [.ref f] ∧ m f = some (.pred (ActC P w K mg base 9 f φ)) ∧ φ m (fun x m' => x = ⟨He.ga K "BadMoment", none⟩ ∧ ∀ m2, Le m' m2 → S (.tup [.str "BadMoment", .int 0]) m2) S
theorem ok_law_told_BadMoment (T : Tx K mg) (KD : Kd_BadMoment K) : FnOk P w K mg base CX0 (9 + 1) (He.ga K "_law_told") T.fd__law_told ["_law_work"] (lift K (spTold_BadMoment P w K mg base)) := by
  refine FunD.ok T.F__law_told sc_law_told (fun vs H Q E h => ?_) (fun cdv A outer s H vs Q E hr h => ?_)
  · obtain ⟨F, svs, m, SX, Sv, _, h2, ⟨f, φ, rfl, _⟩, _⟩ := h
    rw [vrs_length h2]; rfl
  obtain ⟨F, svs, m, SX, Sv, M, r, ⟨f, φ, rfl, hm, hφ⟩, hx, c⟩ := h
  obtain ⟨ts, ss, h1, h2⟩ := told_suite_BadMoment (P := P) (w := w) (base := base) T KD (x := "_law_told") (f := He.ga K "_law_told") (cdv := cdv) (A := A) (outer := outer) (s := s) (H0 := H) (E := E) (E2 := fun _ _ _ => True) hr
  refine ⟨_, PSs.nox (pss_one (ps_try_as (i := 1) (c := .ref (He.ga K "NoticeError")) (tb := fun W => tRet (tWork P w K mg base 9 0 W)) (ts := fun a cls d D σ H => cls = .ref (He.ga K "BadMoment") ∧ d = none ∧ ts a D σ H) rfl rfl sc_law_told.nd rfl rfl ⟨(by rfl), (by decide), .inl T.g_NoticeError⟩ LamX.takes0
    (fun W pn xe tk _ => pss_one (ps_ret (pe_work tk hr (Nat.le_refl _) rfl (.inl rfl)))) (fun a oe cls d pn hz hf => ⟨fun pins s σ H D I h => ?_⟩))), ?_⟩
  · obtain ⟨rfl, rfl, h⟩ := h
    exact (h1 a oe pn hz hf).pe.run pins s σ H D I h
  · obtain ⟨v0, rfl, rv⟩ := vrs_one r
    obtain rfl := vr_ref rv
    refine ⟨F, f, φ, m, _, Sv, rfl, M, hm, hφ, fun x d F' H' m' sF M' hx' ⟨e, q⟩ => ?_, c⟩
    subst e
    obtain rfl : d = none := hx'
    refine ⟨true, KD.exm, fun _ a ha => ⟨rfl, rfl, ?_⟩, fun z => by cases z⟩
    exact (h1 a ⟨.ref (He.ga K "BadMoment"), none, .fields #[], #[]⟩ [] ⟨rfl, rfl⟩ ⟨_, rfl⟩).sim _ F' H' [none, some (.ref a), none, none, none] m' (fun _ _ => True) { nx := fun _ _ => False, rt := Sv } _ ⟨⟨rfl, fun i d e => by
      match i with
      | 0 => cases e
      | 1 => cases e; exact ⟨_, rfl, .ref a⟩
      | n + 2 =>
        have z := List.mem_of_getElem? (show ([none, none, none] : DS)[n]? = some (some d) from e)
        simp at z⟩, M', fun x d F2 H2 m2 _ _ _ _ => trivial⟩ (h2 a _ _ _ m' q) ⟨fun _ _ _ _ _ _ _ _ z => z.elim, c.go sF, fun _ _ _ _ _ _ _ _ z => z.elim, fun _ _ _ _ _ _ _ _ z => z.elim⟩
end
end Hn

set_option Elab.async false
set_option linter.all false
set_option maxRecDepth 100000
set_option maxHeartbeats 8000000
namespace Hn
open PySem PySem.Spec PyProof.Rows L2 Sy Lm
section
variable {P : Program} {w : World} {K : PySem.W.Frag} {mg : Str → Option Value} {base : Heap}
local macro_rules | `(tactic| walk_at "r") => `(tactic| (conv => whnf))
local macro_rules | `(tactic| walk_at "sp") => `(tactic| (first | rfl | contradiction | exact (False.elim ‹_›)))
local macro_rules | `(tactic| walk_at "len") => `(tactic| (exact Nat.le_trans (show _ ≤ 100000 by first | (simp; done) | (rw [rngS_length]; decide)) (by decide)))
local macro_rules | `(tactic| walk_at "f") => `(tactic| (refine Br_i (fun hb => Bool.noConfusion (show false = true from hb)) (fun _ => ?_)))
local macro_rules | `(tactic| walk_at "t") => `(tactic| (refine Br_i (fun _ => ?_) (fun hb => Bool.noConfusion (show true = false from hb))))
local macro_rules | `(tactic| walk_at "le") => `(tactic| first | exact Le.refl _ | (refine Le.put ?_; walk_at "le") | (refine Le.new ?_ (by assumption); walk_at "le"))
def spAll_BadNotices (P : Program) (w : World) (K : PySem.W.Frag) (mg : Str → Option Value) (base : Heap) : SpS := fun vs m _ S => ∃ (l : Addr) (fs : List Addr) (i : Int), vs = [.ref l, .tup [.str "BadNotices", .int i]] ∧ m l = some (.lst (fs.map .ref)) ∧
  (∀ f ∈ fs, ∃ φ : Phi, m f = some (.pred (ActC P w K mg base 9 f φ)) ∧ ∀ (m' : Mem) (SX : SXK) (S' : SV → Mem → Prop), Le m m' → (∀ m2, Le m' m2 → SX ⟨He.ga K "BadNotices", some [("number", .int i)]⟩ m2) → φ m' SX S') ∧ fs.length ≤ 100 ∧ S (.bl true) m
theorem ok_law_all_BadNotices (T : Tx K mg) [OW : Own P K mg] (KD : Kd_BadNotices K) : FnOk P w K mg base CX0 (9 + 2) (He.ga K "_law_all") T.fd__law_all ["_law_works_here", "_law_due"] (lift K (spAll_BadNotices P w K mg base)) := by
  have G_law_alike := ok_law_alike (P := P) (w := w) (base := base) T 3
  have b_law_alike := b_law_alike T
  have G_law_told := ok_law_told_BadNotices (P := P) (w := w) (base := base) T KD
  have b_law_told := b_law_told T
  refine fn_sy T.F__law_all sc_law_all (fun svs m SX Sv h => ?_) (fun cdv A outer s H E hr => ⟨_, _, (gss_one (gs_ret (ge_cmp (op_eqG K hr.units) sim_eq (ge_lc (own := [("_law_work", 2)]) (by rfl) sc_law_all.nd (gi_seq (gv 0)) (blkOk_by (own := [("_law_work", 2)]) (N := ["_law_works_here", "_law_due", "_law_work"]) (sc := (defScope s_law_all)) (by decide +kernel)) (fun _ _ _ _ _ => (gg_name (i := 2) sc_law_all.nd rfl (.inl rfl))) (wp_name (by decide)) (fun _ _ _ _ _ => (gts_one (gt_not (gt_val (ge_call G_law_alike ((hr.mono (by decide))) (by rfl) T.g__law_alike T.k__law_alike b_law_alike .nil (fun _ => .nil) pass0 (ga_cons (ge_call G_law_told (hr) (by rfl) T.g__law_told T.k__law_told b_law_told .nil (fun _ => .nil) pass0 (ga_cons (gv 2) ga_nil)) (ga_cons (gv 1) ga_nil))))))) (fun _ _ _ _ _ => (gv 2))) (ge_lst ga_nil) (nomark _)))), fun svs m SX Sv h => ?_⟩)
  · obtain ⟨l, fs, i, rfl, _⟩ := h
    rfl
  · obtain ⟨l, fs, i, rfl, hl, hf, hlen, q⟩ := h
    walk_at "r"
    refine ⟨_, hl, ?_⟩
    walk_at "r"
    refine ⟨by rw [List.length_map]; exact line_le (by omega), fun p hp => ?_⟩
    refine lc_filt (fun _ => false) id (fun acc => kp hl hp) (fun x hx acc K1 K0 _ h0 => ?_) ?_
    · obtain ⟨f, hfs, rfl⟩ := List.mem_map.mp hx
      obtain ⟨φ, hm, hφ⟩ := hf f hfs
      walk_at "r"
      refine ⟨f, φ, rfl, kp hm hp, hφ _ _ _ (.new (.refl m) hp) fun m2 l2 => ⟨i, rfl, fun m3 l3 => ?_⟩⟩
      walk_at "r"
      refine ⟨_, _, _, _, rfl, .tup (.cons (.str _) (.cons (.int _) .nil)), .tup (.cons (.str _) (.cons (.int _) .nil)), (by show 1 + dpts _ < 3; simp [dpts, dpt]), ⟨by show _ ≤ 100000; simp, trivial, trivial, trivial⟩, ?_⟩
      walk_at "r"
      refine Br_i (fun hb => ?_) (fun _ => h0 _ (l2.trans l3) rfl)
      exfalso
      simp [eqD, eqDs] at hb
    · walk_at "r"
      refine ⟨by walk_at "len", fun p2 hp2 => ?_⟩
      have hz : ((fs.map SV.ref).filter (fun _ => false)).map id = [] := by simp
      rw [hz] at hp2 ⊢
      walk_at "r"
      refine ⟨.list [], .list [], .ref (kp up_same hp2) .nil, .ref up_same .nil, rfl, rfl, ?_⟩
      exact ⟨m, by walk_at "le", q⟩
def spAll_BadHears (P : Program) (w : World) (K : PySem.W.Frag) (mg : Str → Option Value) (base : Heap) : SpS := fun vs m _ S => ∃ (l : Addr) (fs : List Addr) (i : Int), vs = [.ref l, .tup [.str "BadHears", .int i]] ∧ m l = some (.lst (fs.map .ref)) ∧
  (∀ f ∈ fs, ∃ φ : Phi, m f = some (.pred (ActC P w K mg base 9 f φ)) ∧ ∀ (m' : Mem) (SX : SXK) (S' : SV → Mem → Prop), Le m m' → (∀ m2, Le m' m2 → SX ⟨He.ga K "BadHears", some [("number", .int i)]⟩ m2) → φ m' SX S') ∧ fs.length ≤ 100 ∧ S (.bl true) m
theorem ok_law_all_BadHears (T : Tx K mg) [OW : Own P K mg] (KD : Kd_BadHears K) : FnOk P w K mg base CX0 (9 + 2) (He.ga K "_law_all") T.fd__law_all ["_law_works_here", "_law_due"] (lift K (spAll_BadHears P w K mg base)) := by
  have G_law_alike := ok_law_alike (P := P) (w := w) (base := base) T 3
  have b_law_alike := b_law_alike T
  have G_law_told := ok_law_told_BadHears (P := P) (w := w) (base := base) T KD
  have b_law_told := b_law_told T
  refine fn_sy T.F__law_all sc_law_all (fun svs m SX Sv h => ?_) (fun cdv A outer s H E hr => ⟨_, _, (gss_one (gs_ret (ge_cmp (op_eqG K hr.units) sim_eq (ge_lc (own := [("_law_work", 2)]) (by rfl) sc_law_all.nd (gi_seq (gv 0)) (blkOk_by (own := [("_law_work", 2)]) (N := ["_law_works_here", "_law_due", "_law_work"]) (sc := (defScope s_law_all)) (by decide +kernel)) (fun _ _ _ _ _ => (gg_name (i := 2) sc_law_all.nd rfl (.inl rfl))) (wp_name (by decide)) (fun _ _ _ _ _ => (gts_one (gt_not (gt_val (ge_call G_law_alike ((hr.mono (by decide))) (by rfl) T.g__law_alike T.k__law_alike b_law_alike .nil (fun _ => .nil) pass0 (ga_cons (ge_call G_law_told (hr) (by rfl) T.g__law_told T.k__law_told b_law_told .nil (fun _ => .nil) pass0 (ga_cons (gv 2) ga_nil)) (ga_cons (gv 1) ga_nil))))))) (fun _ _ _ _ _ => (gv 2))) (ge_lst ga_nil) (nomark _)))), fun svs m SX Sv h => ?_⟩)
  · obtain ⟨l, fs, i, rfl, _⟩ := h
    rfl
  · obtain ⟨l, fs, i, rfl, hl, hf, hlen, q⟩ := h
    walk_at "r"
    refine ⟨_, hl, ?_⟩
    walk_at "r"
    refine ⟨by rw [List.length_map]; exact line_le (by omega), fun p hp => ?_⟩
    refine lc_filt (fun _ => false) id (fun acc => kp hl hp) (fun x hx acc K1 K0 _ h0 => ?_) ?_
    · obtain ⟨f, hfs, rfl⟩ := List.mem_map.mp hx
      obtain ⟨φ, hm, hφ⟩ := hf f hfs
      walk_at "r"
      refine ⟨f, φ, rfl, kp hm hp, hφ _ _ _ (.new (.refl m) hp) fun m2 l2 => ⟨i, rfl, fun m3 l3 => ?_⟩⟩
      walk_at "r"
      refine ⟨_, _, _, _, rfl, .tup (.cons (.str _) (.cons (.int _) .nil)), .tup (.cons (.str _) (.cons (.int _) .nil)), (by show 1 + dpts _ < 3; simp [dpts, dpt]), ⟨by show _ ≤ 100000; simp, trivial, trivial, trivial⟩, ?_⟩
      walk_at "r"
      refine Br_i (fun hb => ?_) (fun _ => h0 _ (l2.trans l3) rfl)
      exfalso
      simp [eqD, eqDs] at hb
    · walk_at "r"
      refine ⟨by walk_at "len", fun p2 hp2 => ?_⟩
      have hz : ((fs.map SV.ref).filter (fun _ => false)).map id = [] := by simp
      rw [hz] at hp2 ⊢
      walk_at "r"
      refine ⟨.list [], .list [], .ref (kp up_same hp2) .nil, .ref up_same .nil, rfl, rfl, ?_⟩
      exact ⟨m, by walk_at "le", q⟩
def spAll_BadMoment (P : Program) (w : World) (K : PySem.W.Frag) (mg : Str → Option Value) (base : Heap) : SpS := fun vs m _ S => ∃ (l : Addr) (fs : List Addr), vs = [.ref l, .tup [.str "BadMoment", .int 0]] ∧ m l = some (.lst (fs.map .ref)) ∧
  (∀ f ∈ fs, ∃ φ : Phi, m f = some (.pred (ActC P w K mg base 9 f φ)) ∧ ∀ (m' : Mem) (SX : SXK) (S' : SV → Mem → Prop), Le m m' → (∀ m2, Le m' m2 → SX ⟨He.ga K "BadMoment", none⟩ m2) → φ m' SX S') ∧ fs.length ≤ 100 ∧ S (.bl true) m
theorem ok_law_all_BadMoment (T : Tx K mg) (KD : Kd_BadMoment K) : FnOk P w K mg base CX0 (9 + 2) (He.ga K "_law_all") T.fd__law_all ["_law_works_here", "_law_due"] (lift K (spAll_BadMoment P w K mg base)) := by
  have G_law_alike := ok_law_alike (P := P) (w := w) (base := base) T 3
  have b_law_alike := b_law_alike T
  have G_law_told := ok_law_told_BadMoment (P := P) (w := w) (base := base) T KD
  have b_law_told := b_law_told T
  refine fn_sy T.F__law_all sc_law_all (fun svs m SX Sv h => ?_) (fun cdv A outer s H E hr => ⟨_, _, (gss_one (gs_ret (ge_cmp (op_eqG K hr.units) sim_eq (ge_lc (own := [("_law_work", 2)]) (by rfl) sc_law_all.nd (gi_seq (gv 0)) (blkOk_by (own := [("_law_work", 2)]) (N := ["_law_works_here", "_law_due", "_law_work"]) (sc := (defScope s_law_all)) (by decide +kernel)) (fun _ _ _ _ _ => (gg_name (i := 2) sc_law_all.nd rfl (.inl rfl))) (wp_name (by decide)) (fun _ _ _ _ _ => (gts_one (gt_not (gt_val (ge_call G_law_alike ((hr.mono (by decide))) (by rfl) T.g__law_alike T.k__law_alike b_law_alike .nil (fun _ => .nil) pass0 (ga_cons (ge_call G_law_told (hr) (by rfl) T.g__law_told T.k__law_told b_law_told .nil (fun _ => .nil) pass0 (ga_cons (gv 2) ga_nil)) (ga_cons (gv 1) ga_nil))))))) (fun _ _ _ _ _ => (gv 2))) (ge_lst ga_nil) (nomark _)))), fun svs m SX Sv h => ?_⟩)
  · obtain ⟨l, fs, rfl, _⟩ := h
    rfl
  · obtain ⟨l, fs, rfl, hl, hf, hlen, q⟩ := h
    walk_at "r"
    refine ⟨_, hl, ?_⟩
    walk_at "r"
    refine ⟨by rw [List.length_map]; exact line_le (by omega), fun p hp => ?_⟩
    refine lc_filt (fun _ => false) id (fun acc => kp hl hp) (fun x hx acc K1 K0 _ h0 => ?_) ?_
    · obtain ⟨f, hfs, rfl⟩ := List.mem_map.mp hx
      obtain ⟨φ, hm, hφ⟩ := hf f hfs
      walk_at "r"
      refine ⟨f, φ, rfl, kp hm hp, hφ _ _ _ (.new (.refl m) hp) fun m2 l2 => ⟨rfl, fun m3 l3 => ?_⟩⟩
      walk_at "r"
      refine ⟨_, _, _, _, rfl, .tup (.cons (.str _) (.cons (.int _) .nil)), .tup (.cons (.str _) (.cons (.int _) .nil)), by decide, ⟨by decide, trivial, trivial, trivial⟩, ?_⟩
      walk_at "r"
      refine Br_i (fun hb => ?_) (fun _ => h0 _ (l2.trans l3) rfl)
      exfalso
      have e : ∀ ds : List PyData, eqDs ds ds = eqDs ds ds := fun _ => rfl
      simp [eqD, eqDs] at hb
    · walk_at "r"
      refine ⟨by walk_at "len", fun p2 hp2 => ?_⟩
      have hz : ((fs.map SV.ref).filter (fun _ => false)).map id = [] := by simp
      rw [hz] at hp2 ⊢
      walk_at "r"
      refine ⟨.list [], .list [], .ref (kp up_same hp2) .nil, .ref up_same .nil, rfl, rfl, ?_⟩
      exact ⟨m, by walk_at "le", q⟩
end
end Hn

set_option Elab.async false
set_option linter.all false
set_option maxRecDepth 100000
set_option maxHeartbeats 8000000
namespace Hn
open PySem PySem.Spec PyProof.Rows L2 Sy Lm
section
variable {P : Program} {w : World} {K : PySem.W.Frag} {mg : Str → Option Value} {base : Heap}
local macro_rules | `(tactic| walk_at "r") => `(tactic| (conv => whnf))
local macro_rules | `(tactic| walk_at "sp") => `(tactic| (first | rfl | contradiction | exact (False.elim ‹_›)))
local macro_rules | `(tactic| walk_at "len") => `(tactic| (exact Nat.le_trans (show _ ≤ 100000 by first | (simp; done) | (rw [rngS_length]; decide)) (by decide)))
local macro_rules | `(tactic| walk_at "f") => `(tactic| (refine Br_i (fun hb => Bool.noConfusion (show false = true from hb)) (fun _ => ?_)))
local macro_rules | `(tactic| walk_at "t") => `(tactic| (refine Br_i (fun _ => ?_) (fun hb => Bool.noConfusion (show true = false from hb))))
local macro_rules | `(tactic| walk_at "le") => `(tactic| first | exact Le.refl _ | (refine Le.put ?_; walk_at "le") | (refine Le.new ?_ (by assumption); walk_at "le"))
/-- plain data, n deep -/
def Pdn (n : Nat) (m : Mem) (x : SV) : Prop := ∃ d, Rd m x d ∧ NoD d ∧ Shp n d
theorem pdns {n : Nat} {m : Mem} : ∀ {xs : List SV}, (∀ x ∈ xs, Pdn n m x) → ∃ ds, Rds m xs ds ∧ NoDs ds ∧ ∀ d ∈ ds, Shp n d
  | [], _ => ⟨[], .nil, trivial, fun _ h => nomatch h⟩
  | x :: xs, h => by
    obtain ⟨d, h1, h2, h3⟩ := h x List.mem_cons_self
    obtain ⟨ds, q1, q2, q3⟩ := pdns fun y hy => h y (List.mem_cons_of_mem _ hy)
    refine ⟨d :: ds, .cons h1 q1, ⟨h2, q2⟩, fun e he => ?_⟩
    rcases List.mem_cons.mp he with rfl | he
    · exact h3
    · exact q3 e he
theorem pdn_tup {n : Nat} {m : Mem} {xs : List SV} (h : ∀ x ∈ xs, Pdn n m x) : Pdn (n + 1) m (.tup xs) := by
  obtain ⟨ds, q1, q2, q3⟩ := pdns h
  exact ⟨.tuple ds, .tup q1, q2, (shp_list q3).2⟩
theorem pdn_ref {n : Nat} {m : Mem} {xs : List SV} {a : Addr} (ha : m a = some (.lst xs)) (h : ∀ x ∈ xs, Pdn n m x) : Pdn (n + 1) m (.ref a) := by
  obtain ⟨ds, q1, q2, q3⟩ := pdns h
  exact ⟨.list ds, .ref ha q1, q2, (shp_list q3).1⟩
theorem pdn_int {n : Nat} {m : Mem} (i : Int) : Pdn n m (.int i) := ⟨.int i, .int i, trivial, shp_int i⟩
theorem pdn_non {n : Nat} {m : Mem} : Pdn n m .non := ⟨.none, .non, trivial, shp_none⟩
theorem rd_leN {a m : Mem} (l : Le a m) {x : SV} {d : PyData} (h : Rd a x d) : Rd m x d := by
  refine Rd.rec (motive_1 := fun x d _ => Rd m x d) (motive_2 := fun xs ds _ => Rds m xs ds) .non (fun b => .bl b) (fun i => .int i) (fun s => .str s) (fun _ ih => .tup ih) (fun _ ih => .lst ih) (fun h _ ih => .ref (l _ _ h) ih) .nil (fun _ _ a b => .cons a b) h
theorem Pdn.le {n : Nat} {a m : Mem} (l : Le a m) {x : SV} (h : Pdn n a x) : Pdn n m x := by
  obtain ⟨d, h1, h2⟩ := h
  exact ⟨d, rd_leN l h1, h2⟩
/-- what no number from 0 to top is -/
def BadE (top : Int) (b : SV) : Prop := ∀ lo, 0 ≤ lo → isWh b lo top = false
def OddR (r t : List Int) (x : SV) : Prop := (∃ (k : Nat) (top : Int) (bad : SV), k < r.length ∧ t[k]? = some top ∧ BadE top bad ∧ x = .tup ((r.take k).map .int ++ bad :: (r.drop (k + 1)).map .int)) ∨ isTupN x r.length = false
def spOdd : SpS := fun vs m _ S => ∃ (b : Addr) (r t : List Int), vs = [.ref b, .tup (r.map .int), .tup (t.map .int), .int 0] ∧ IsBox m b ∧ r.length = t.length ∧ 1 ≤ r.length ∧ r.length ≤ 10 ∧ ∀ x m', Le m m' → DD m' x → Pdn 2 m' x → OddR r t x → S x m'
theorem cut_to {α : Type} (xs : List α) (k : Nat) : cutS' xs none (some (k : Int)) = xs.take k := by
  unfold cutS'
  rw [HT.sIx_none, HT.sIx_nat, Nat.sub_zero, List.drop_zero]
  by_cases h : k ≤ xs.length
  · rw [Nat.min_eq_left h]
  · rw [Nat.min_eq_right (by omega), List.take_length, List.take_of_length_le (by omega)]
theorem cut_from {α : Type} (xs : List α) (k : Nat) : cutS' xs (some (k : Int)) none = xs.drop k := by
  unfold cutS'
  rw [HT.sIx_none, HT.sIx_nat]
  by_cases h : k ≤ xs.length
  · rw [Nat.min_eq_left h, List.take_of_length_le (by rw [List.length_drop]; omega)]
  · rw [Nat.min_eq_right (by omega), List.drop_length, List.drop_of_length_le (by omega)]
    simp
theorem isTupN_ne {xs : List SV} {n : Nat} (h : xs.length ≠ n) : isTupN (.tup xs) n = false := by
  show decide ((xs.length : Int) = (n : Int)) = false
  exact decide_eq_false (by omega)
theorem odd_ok {m : Mem} {r t : List Int} {k : Nat} {top j : Int} {bad : SV} {pl : Addr} (hl : m pl = some (.lst (r.map .int))) (hk : k < r.length) (ht : t[k]? = some top) (hb : BadE top bad) (db : ∀ m, DD m bad) (pb : ∀ m, Pdn 1 m bad) (j0 : 0 ≤ j) (j1 : j < 10) :
    ∃ x, atI ((List.replicate (Int.toNat 5) [SV.tup (List.take k (List.map SV.int r) ++ [bad] ++ List.drop (k + 1) (List.map SV.int r))]).flatten ++ [SV.tup (cutS' (r.map SV.int) none (some (-1))), .tup (r.map SV.int ++ [.int 0]), .ref pl, .non, .tup []]) j = some x ∧ DD m x ∧ Pdn 2 m x ∧ OddR r t x := by
  have dr : ∀ x ∈ r.map SV.int, DD m x := fun x hx => by
    obtain ⟨i, _, rfl⟩ := List.mem_map.mp hx
    exact .int i
  have pr : ∀ x ∈ r.map SV.int, Pdn 1 m x := fun x hx => by
    obtain ⟨i, _, rfl⟩ := List.mem_map.mp hx
    exact pdn_int i
  have px : Pdn 2 m (SV.tup (List.take k (List.map SV.int r) ++ [bad] ++ List.drop (k + 1) (List.map SV.int r))) := pdn_tup fun x hx => by
    rcases List.mem_append.mp hx with hx | hx
    · rcases List.mem_append.mp hx with hx | hx
      · exact pr x (List.mem_of_mem_take hx)
      · obtain rfl := List.mem_singleton.mp hx
        exact pb m
    · exact pr x (List.mem_of_mem_drop hx)
  have dx : DD m (SV.tup (List.take k (List.map SV.int r) ++ [bad] ++ List.drop (k + 1) (List.map SV.int r))) := .tup (.of fun x hx => by
    rcases List.mem_append.mp hx with hx | hx
    · rcases List.mem_append.mp hx with hx | hx
      · exact dr x (List.mem_of_mem_take hx)
      · obtain rfl := List.mem_singleton.mp hx
        exact db m
    · exact dr x (List.mem_of_mem_drop hx))
  have ox : OddR r t (SV.tup (List.take k (List.map SV.int r) ++ [bad] ++ List.drop (k + 1) (List.map SV.int r))) := .inl ⟨k, top, bad, hk, ht, hb, by rw [List.map_take, List.map_drop, List.append_assoc]; rfl⟩
  have hcut : (cutS' (r.map SV.int) none (some (-1))).length = r.length - 1 := by
    unfold cutS'
    rw [HT.sIx_none, Nat.sub_zero, List.drop_zero, List.length_take, List.length_map]
    show min (HT.sIx r.length r.length (some (-1))) r.length = _
    unfold HT.sIx
    simp
    omega
  rcases (by omega : j = 0 ∨ j = 1 ∨ j = 2 ∨ j = 3 ∨ j = 4 ∨ j = 5 ∨ j = 6 ∨ j = 7 ∨ j = 8 ∨ j = 9) with rfl | rfl | rfl | rfl | rfl | rfl | rfl | rfl | rfl | rfl
  · exact ⟨_, atI_nat (j := 0) rfl, dx, px, ox⟩
  · exact ⟨_, atI_nat (j := 1) rfl, dx, px, ox⟩
  · exact ⟨_, atI_nat (j := 2) rfl, dx, px, ox⟩
  · exact ⟨_, atI_nat (j := 3) rfl, dx, px, ox⟩
  · exact ⟨_, atI_nat (j := 4) rfl, dx, px, ox⟩
  · refine ⟨_, atI_nat (j := 5) rfl, .tup (.of fun x hx => dr x (List.mem_of_mem_drop (List.mem_of_mem_take hx))), pdn_tup fun x hx => pr x (List.mem_of_mem_drop (List.mem_of_mem_take hx)), .inr (isTupN_ne (by rw [hcut]; omega))⟩
  · refine ⟨_, atI_nat (j := 6) rfl, .tup (.of fun x hx => ?_), pdn_tup fun x hx => ?_, .inr (isTupN_ne (by rw [List.length_append, List.length_map]; show _ + 1 ≠ _; omega))⟩
    · rcases List.mem_append.mp hx with hx | hx
      · exact dr x hx
      · obtain rfl := List.mem_singleton.mp hx
        exact .int 0
    · rcases List.mem_append.mp hx with hx | hx
      · exact pr x hx
      · obtain rfl := List.mem_singleton.mp hx
        exact pdn_int 0
  · exact ⟨_, atI_nat (j := 7) rfl, .ref hl, pdn_ref hl pr, .inr rfl⟩
  · exact ⟨_, atI_nat (j := 8) rfl, .non, pdn_non, .inr rfl⟩
  · exact ⟨_, atI_nat (j := 9) rfl, .tup .nil, pdn_tup (fun _ h => nomatch h), .inr (isTupN_ne (by show 0 ≠ _; omega))⟩
theorem badE_ok {top far j : Int} (f0 : 0 ≤ far) (j0 : 0 ≤ j) (j1 : j < 5) : ∃ x, atI [SV.int (top + 1 + far), .int (-1 - far), .non, .bl true, .str "1"] j = some x ∧ BadE top x ∧ (∀ m, DD m x) ∧ ∀ m, Pdn 1 m x := by
  rcases (by omega : j = 0 ∨ j = 1 ∨ j = 2 ∨ j = 3 ∨ j = 4) with rfl | rfl | rfl | rfl | rfl
  · refine ⟨_, atI_nat (j := 0) rfl, fun lo hl => ?_, fun _ => .int _, fun _ => pdn_int _⟩
    show (decide (lo ≤ top + 1 + far) && decide (top + 1 + far ≤ top)) = false
    rw [decide_eq_false (p := top + 1 + far ≤ top) (by omega), Bool.and_false]
  · refine ⟨_, atI_nat (j := 1) rfl, fun lo hl => ?_, fun _ => .int _, fun _ => pdn_int _⟩
    show (decide (lo ≤ -1 - far) && decide (-1 - far ≤ top)) = false
    rw [decide_eq_false (p := lo ≤ -1 - far) (by omega), Bool.false_and]
  · exact ⟨_, atI_nat (j := 2) rfl, fun lo hl => rfl, fun _ => .non, fun _ => pdn_non⟩
  · exact ⟨_, atI_nat (j := 3) rfl, fun lo hl => rfl, fun _ => .bl _, fun _ => ⟨_, .bl _, trivial, shp_bool _⟩⟩
  · exact ⟨_, atI_nat (j := 4) rfl, fun lo hl => rfl, fun _ => .str _, fun _ => ⟨_, .str _, trivial, shp_str (by decide +kernel)⟩⟩
theorem ok_law_odd (T : Tx K mg) : FnOk P w K mg base CX0 2 (He.ga K "_law_odd") T.fd__law_odd ["_law_box", "_law_row", "_law_tops", "_law_ahead"] (lift K spOdd) := by
  have G_law_take := ok_law_take (P := P) (w := w) (base := base) T
  have b_law_take := b_law_take T
  refine fn_sy T.F__law_odd sc_law_odd (fun svs m SX Sv h => ?_) (fun cdv A outer s H E hr => ⟨_, _, (gss_cons (gs_par (i := 4) (j := 5) (by rfl) sc_law_odd.nd rfl rfl (by decide) rfl rfl (ga_cons (ge_call G_law_take (hr) (by rfl) T.g__law_take T.k__law_take b_law_take .nil (fun _ => .nil) pass0 (ga_cons (gv 0) (ga_cons (ge_ix (ix_G K) sim_ix (ge_lst (ga_cons ge_int (ga_cons (ge_op op_pow sim_pow ge_int ge_int) ga_nil))) (ge_call G_law_take (hr) (by rfl) T.g__law_take T.k__law_take b_law_take .nil (fun _ => .nil) pass0 (ga_cons (gv 0) (ga_cons ge_int ga_nil))) (fun _ _ => rfl)) ga_nil))) (ga_cons (ge_call G_law_take (hr) (by rfl) T.g__law_take T.k__law_take b_law_take .nil (fun _ => .nil) pass0 (ga_cons (gv 0) (ga_cons (ge_callB (cr_len K) sim_len (by rfl) T.z_len (by decide +kernel) (ga_cons (gv 1) ga_nil)) ga_nil))) ga_nil)))
      (gss_cons (gs_set (i := 6) sc_law_odd.nd rfl (.inl rfl) (ge_ix (ix_G K) sim_ix (ge_lst (ga_cons (ge_op (op_addG K) sim_add (ge_op (op_addG K) sim_add (ge_ix (ix_G K) sim_ix (gv 2) (gv 5) (fun _ _ => rfl)) ge_int) (gv 4)) (ga_cons (ge_op op_sub sim_sub (ge_un un_neg sim_neg ge_int) (gv 4)) (ga_cons ge_non (ga_cons ge_bl (ga_cons ge_str ga_nil)))))) (ge_call G_law_take (hr) (by rfl) T.g__law_take T.k__law_take b_law_take .nil (fun _ => .nil) pass0 (ga_cons (gv 0) (ga_cons ge_int ga_nil))) (fun _ _ => rfl)))
      (gss_cons (gs_set (i := 7) sc_law_odd.nd rfl (.inl rfl) (ge_op (op_addG K) sim_add (ge_op op_rep sim_rep (ge_lst (ga_cons (ge_op (op_addG K) sim_add (ge_op (op_addG K) sim_add (ge_slice (gv 1) go_none (go_some (gv 5))) (ge_tup (ga_cons (gv 6) ga_nil))) (ge_slice (gv 1) (go_some (ge_op (op_addG K) sim_add (gv 5) ge_int)) go_none)) ga_nil)) ge_int) (ge_lst (ga_cons (ge_slice (gv 1) go_none (go_some (ge_un un_neg sim_neg ge_int))) (ga_cons (ge_op (op_addG K) sim_add (gv 1) (ge_tup (ga_cons ge_int ga_nil))) (ga_cons (ge_callTy (cr_lst K) sim_lstOf (by rfl) T.z_list (by decide +kernel) (ga_cons (gv 1) ga_nil)) (ga_cons ge_non (ga_cons (ge_tup ga_nil) ga_nil))))))))
      (gss_one (gs_ret (ge_ix (ix_G K) sim_ix (gv 7) (ge_call G_law_take (hr) (by rfl) T.g__law_take T.k__law_take b_law_take .nil (fun _ => .nil) pass0 (ga_cons (gv 0) (ga_cons ge_int ga_nil))) (fun _ _ => rfl))))))), fun svs m SX Sv h => ?_⟩)
  · obtain ⟨b, r, t, rfl, _⟩ := h
    rfl
  · obtain ⟨b, r, t, rfl, bx, ht, l1, l2, q⟩ := h
    walk_at "r"
    repeat (refine ⟨by walk_at "len", ?_⟩; walk_at "r")
    refine ⟨⟨by decide, by decide, by decide⟩, ?_⟩
    walk_at "r"
    refine ⟨by walk_at "len", fun p hp => ?_⟩
    walk_at "r"
    refine ⟨bx.new hp, small (by decide) (by decide), fun n n0 n1 => ?_⟩
    walk_at "r"
    refine ⟨_, _, up_same, pick2 n0 n1, ?_⟩
    rw [ite_int]
    walk_at "r"
    refine ⟨bx.new hp, small (by split <;> decide) (by split <;> decide), fun fa f0 f1 => ?_⟩
    generalize hma : up m p _ = ma
    have la : Le m ma := by rw [← hma]; exact .new (.refl m) hp
    have bxa : IsBox ma b := bx.le la
    clear hma
    have f9 : 0 ≤ fa := f0
    clear f1
    walk_at "r"
    refine ⟨_, rfl, ?_⟩
    walk_at "r"
    rw [List.length_map]
    refine ⟨bxa, small (by omega) (by omega), fun kk k0 k1 => ?_⟩
    obtain ⟨k, rfl⟩ : ∃ k : Nat, kk = (k : Int) := ⟨kk.toNat, by omega⟩
    have hk : k < r.length := by omega
    have hkt : k < t.length := by omega
    walk_at "r"
    refine ⟨_, atI_nat (by rw [List.getElem?_map, List.getElem?_eq_getElem hkt]; rfl), ?_⟩
    walk_at "r"
    repeat (refine ⟨by walk_at "len", ?_⟩; walk_at "r")
    intro p2 hp2
    walk_at "r"
    refine ⟨bxa.new hp2, small (by decide) (by decide), fun j j0 j1 => ?_⟩
    obtain ⟨bad, hix, hbad, dbad, pbad⟩ := badE_ok (top := t[k]) f9 j0 j1
    walk_at "r"
    refine ⟨_, _, up_same, hix, ?_⟩
    generalize hmb : up ma p2 _ = mb
    have lb : Le m mb := by rw [← hmb]; exact .new la hp2
    have bxb : IsBox mb b := bx.le lb
    clear hmb bxa la hp hp2
    walk_at "r"
    repeat (refine ⟨by walk_at "len", ?_⟩; walk_at "r")
    dsimp only [List.set]
    rw [cut_to]
    have hlt : ((r.map SV.int).take k).length = k := by rw [List.length_take, List.length_map]; omega
    refine ⟨line_le (by rw [hlt]; show k + 1 ≤ _; omega), ?_⟩
    walk_at "r"
    rw [show ((k : Int) + 1) = ((k + 1 : Nat) : Int) by omega, cut_from]
    have hbl : ((r.map SV.int).drop (k + 1)).length = r.length - (k + 1) := by rw [List.length_drop, List.length_map]
    refine ⟨line_le (by rw [List.length_append, hlt, hbl]; show k + 1 + _ ≤ _; omega), ?_⟩
    walk_at "r"
    repeat (refine ⟨by walk_at "len", ?_⟩; walk_at "r")
    intro p3 hp3
    walk_at "r"
    refine ⟨_, up_same, ⟨by decide, by decide, by show 1 * 5 ≤ sizeLine; decide⟩, fun p4 hp4 => ?_⟩
    walk_at "r"
    repeat (refine ⟨by walk_at "len", ?_⟩; walk_at "r")
    refine ⟨line_le (by rw [List.length_map]; show _ + 1 ≤ _; omega), ?_⟩
    walk_at "r"
    repeat (refine ⟨by walk_at "len", ?_⟩; walk_at "r")
    refine ⟨_, rfl, fun pl hl => ?_⟩
    walk_at "r"
    repeat (refine ⟨by walk_at "len", ?_⟩; walk_at "r")
    intro p5 hp5
    walk_at "r"
    refine ⟨_, _, kp (kp up_same hl) hp5, up_same, line_le (by simp), fun p6 hp6 => ?_⟩
    generalize hmc : up (up (up (up (up mb p3 _) p4 _) pl _) p5 _) p6 _ = mc
    have lc : Le m mc := by rw [← hmc]; exact .new (.new (.new (.new (.new lb hp3) hp4) hl) hp5) hp6
    have bxc : IsBox mc b := bx.le lc
    have e6 : mc p6 = some (.lst ((List.replicate (Int.toNat 5) [SV.tup (List.take k (List.map SV.int r) ++ [bad] ++ List.drop (k + 1) (List.map SV.int r))]).flatten ++ [SV.tup (cutS' (r.map SV.int) none (some (-1))), .tup (r.map SV.int ++ [.int 0]), .ref pl, .non, .tup []])) := by rw [← hmc]; exact up_same
    have el : mc pl = some (.lst (r.map .int)) := by rw [← hmc]; exact kp (kp up_same hp5) hp6
    clear hmc
    walk_at "r"
    refine ⟨bxc, small (by decide) (by decide), fun jj jj0 jj1 => ?_⟩
    obtain ⟨x, hx, dx, px, ox⟩ := odd_ok (t := t) el hk (List.getElem?_eq_getElem hkt) hbad dbad pbad jj0 jj1
    walk_at "r"
    refine ⟨_, _, e6, hx, ?_⟩
    exact .of (q _ _ lc dx px ox)
end
end Hn

set_option Elab.async false
set_option linter.all false
set_option maxRecDepth 100000
set_option maxHeartbeats 8000000
namespace Hn
open PySem PySem.Spec PyProof.Rows L2 Sy Lm
section
variable {P : Program} {w : World} {K : PySem.W.Frag} {mg : Str → Option Value} {base : Heap}
local macro_rules | `(tactic| walk_at "r") => `(tactic| (conv => whnf))
local macro_rules | `(tactic| walk_at "sp") => `(tactic| (first | rfl | contradiction | exact (False.elim ‹_›)))
local macro_rules | `(tactic| walk_at "len") => `(tactic| (exact Nat.le_trans (show _ ≤ 100000 by first | (simp; done) | (rw [rngS_length]; decide)) (by decide)))
local macro_rules | `(tactic| walk_at "f") => `(tactic| (refine Br_i (fun hb => Bool.noConfusion (show false = true from hb)) (fun _ => ?_)))
local macro_rules | `(tactic| walk_at "t") => `(tactic| (refine Br_i (fun _ => ?_) (fun hb => Bool.noConfusion (show true = false from hb))))
local macro_rules | `(tactic| walk_at "le") => `(tactic| first | exact Le.refl _ | (refine Le.put ?_; walk_at "le") | (refine Le.new ?_ (by assumption); walk_at "le"))
abbrev nmW : Nat → Nat → Str := fun _ _ => "_law_works.<locals>.<lambda>"
abbrev pW : He.Defn := ("_law_works", none)
theorem passN {N : List Str} {F : NdefX.NF} {f : Addr} {A : Around} {outer : List Env} {s : Shared} {H : Hp} {E : XK} : Passes (L2.CX P w) (NdefX.ncx (L2.CX P w) P w K mg base N F f A outer s H E) E :=
  passes_call (X := NdefX.ncx (L2.CX P w) P w K mg base N F f A outer s H E) (takes_of rfl rfl rfl rfl) fun _ _ _ _ z => z
theorem badW_lstM {K : PySem.W.Frag} {R : List PR} {m : Mem} {a : Addr} {x u : SV} {e : XO} (h : BadW K R m a x u e) : BadW K R (lstM m) a x u e := by
  rcases h with ⟨N, odd, rest, ha, no, dodd, hc, rfl⟩ | ⟨N, H, odd, rest, ha, no, hx, ho, ⟨t, ht, hb⟩, dodd, hc, rfl⟩ | ⟨N, H, ha, no, hx, ho, ⟨t, ht, hb⟩, du, hu, rfl⟩
  · exact .inl ⟨N, odd, rest, lstM_of ha, no, dd_lstM dodd, hc, rfl⟩
  · exact .inr (.inl ⟨N, H, odd, rest, lstM_of ha, no, its_lstM hx, ho, ⟨t, ty_lstM ht, hb⟩, dd_lstM dodd, hc, rfl⟩)
  · exact .inr (.inr ⟨N, H, lstM_of ha, no, its_lstM hx, ho, ⟨t, ty_lstM ht, hb⟩, dd_lstM du, hu, rfl⟩)
abbrev exW (K : PySem.W.Frag) (R : List PR) (a : Addr) (x u : SV) : Phi := fun m' SX _ => ∃ e, BadW K R m' a x u e ∧ ∀ m2, Le m' m2 → SX e m2
theorem exW_st {K : PySem.W.Frag} {R : List PR} {a : Addr} {x u : SV} : ∀ (m : Mem) (SX : SXK) (S : SV → Mem → Prop), exW K R a x u m SX S → exW K R a x u (lstM m) (fun x m1 => SX x (mgM m m1)) (fun v m1 => S v (mgM m m1)) := fun m SX S ⟨e, h, q⟩ => ⟨e, badW_lstM h, fun m2 l => q _ (le_mg l)⟩
theorem gS_hu : ∀ F vs zs svs szs, VRs K F vs svs → VRs K F zs szs → VRs K F (vs ++ zs) (svs ++ szs) := fun F vs zs svs szs h1 h2 => vrs_append h1 h2
theorem gS_uh : ∀ F vs zs svs szs, VRs K F vs svs → VRs K F zs szs → VRs K F (vs ++ zs.reverse) (svs ++ szs.reverse) := fun F vs zs svs szs h1 h2 => vrs_append h1 (vrs_rev h2)
def spWorks (P : Program) (w : World) (K : PySem.W.Frag) (mg : Str → Option Value) (t : Addr) (nm : Nat → Nat → Str) : SpS := fun vs m _ S => ∃ (R : List PR) (a : Addr) (x u : SV), vs = [PV R, .ref a, x, u] ∧ RulesOk R ∧ m t = some (.tab nm) ∧
  ∀ l f1 f2 m', Le m m' → m l = none → m f1 = none → m f2 = none → f1 ≠ f2 → m' l = some (.lst [.ref f1, .ref f2]) → m' f1 = some (.pred (EscC P w K mg 9 f1 (exW K R a x u))) → m' f2 = some (.pred (EscC P w K mg 9 f2 (exW K R a x u))) → S (.ref l) m'
theorem nw {m m' : Mem} {f : Addr} {o : MO} (h : m f = none) (e : up m f o = m') : m' f = some o ∧ Le m m' := by
  subst e
  exact ⟨up_same, .new (.refl _) h⟩
theorem ok_law_works (T : Tx K mg) [OW : Own P K mg] (TB : LamX.TabB base mg (He.cT K pW).1 (He.cT K pW).2) : FnOk P w K mg base CX0 1 (He.ga K "_law_works") T.fd__law_works ["_law_rules_here", "_law_some", "_law_heard", "_law_limit"] (lift K (spWorks P w K mg (He.cT K pW).2 nmW)) := by
  obtain ⟨mv_walked_hu, kb_walked_hu⟩ := kb_walked_hu T
  obtain ⟨mv_wheeled_uh, kb_wheeled_uh⟩ := kb_wheeled_uh T
  obtain ⟨oc, od, dV, kV, doc, pm, an, cdv, ct, osl, efd, lk, hcd, _, _⟩ := T.F__law_works.ex
  obtain ⟨c, rfl⟩ := He.codeIn_ref hcd
  rw [efd] at lk ⊢
  have ec : He.codeOf K pW = c := He.codeOf_eq lk rfl
  have TB : LamX.TabB base mg c (He.cT K pW).2 := by
    have z := TB
    rw [show (He.cT K pW).1 = c from ec] at z
    exact z
  refine fn_syC (kk := 9) (fr := ["_law_rules_here", "_law_some", "_law_heard", "_law_limit"]) (js := [0, 1, 2, 3]) lk hcd sc_law_works (fun svs m SX Sv h => ?_) (by decide +kernel) rfl (by decide) (fun A outer s H E hr => ?_)
  · obtain ⟨R, a, x, u, rfl, _⟩ := h
    rfl
  have hnm : ∀ {l k : Nat}, nmW l k = (cxOf CX0 P w K mg base ["_law_rules_here", "_law_some", "_law_heard", "_law_limit", "_law_works_here"] "_law_works" (defScope s_law_works) (He.ga K "_law_works") (.ref c) A outer s H E).env.qual ++ "<lambda>" := fun {l k} => by kernel_rfl
  refine ⟨_, _, _, _, (gs_set (i := 4) sc_law_works.nd rfl (.inl rfl) (ge_lst (ga_cons (ge_lam0 TB rfl hnm (NdefX.ndef_free (sc := defScope s_law_works) (fr := []) (by decide +kernel)) rfl) ga_nil))), (ge_op (op_addG K) sim_add (gv 4) (ge_lst (ga_cons (ge_lam1 TB rfl hnm (NdefX.ndef_free (sc := defScope s_law_works) (fr := []) (by decide +kernel)) rfl rfl) ga_nil))), fun svs m SX Sv h => ?_⟩
  obtain ⟨R, a, x, u, rfl, ok', hT, q⟩ := h
  walk_at "r"
  refine ⟨hT, fun f1 hf1 => ?_⟩
  generalize hmL1 : up m f1 _ = mL1
  obtain ⟨ef1, l1⟩ := nw hf1 hmL1
  walk_at "r"
  refine ⟨by walk_at "len", fun p1 hp1 => ?_⟩
  generalize hmA1 : up mL1 p1 _ = mA1
  obtain ⟨ep1, l2⟩ := nw hp1 hmA1
  have ef1 := l2 _ _ ef1
  have lq := l1.trans l2
  walk_at "r"
  refine ⟨lq _ _ hT, fun f2 hf2 => ?_⟩
  have n12 : f1 ≠ f2 := mne ef1 hf2
  have zf2 := lq.none hf2
  generalize hmL2 : up mA1 f2 _ = mL2
  obtain ⟨ef2, l3⟩ := nw hf2 hmL2
  have ef1 := l3 _ _ ef1
  have ep1 := l3 _ _ ep1
  have lq := lq.trans l3
  walk_at "r"
  refine ⟨by walk_at "len", fun p2 hp2 => ?_⟩
  generalize hmA2 : up mL2 p2 _ = mA2
  obtain ⟨ep2, l4⟩ := nw hp2 hmA2
  have ef1 := l4 _ _ ef1
  have ef2 := l4 _ _ ef2
  have ep1 := l4 _ _ ep1
  have lq := lq.trans l4
  walk_at "r"
  refine ⟨_, _, ep1, ep2, by walk_at "len", fun l hl => ?_⟩
  generalize hmB : up mA2 l _ = mB
  obtain ⟨el, l5⟩ := nw hl hmB
  have ef1 := l5 _ _ ef1
  have ef2 := l5 _ _ ef2
  have zl := lq.none hl
  have lq := lq.trans l5
  have nl1 : l ≠ f1 := fun e => by rw [e, ef1] at el; cases el
  have nl2 : l ≠ f2 := fun e => by rw [e, ef2] at el; cases el
  refine ⟨_, .step (f := f1) (exW K R a x u) ef1 ?_ (.step (f := f2) (exW K R a x u) ((up_ne (Ne.symm n12)).trans ef2) ?_ (.refl _)), ?_⟩
  · intro σ F H1 f c0 dV ok sr ci hf1 hc1 _ hd base'
    obtain rfl := hd
    refine esc_beh (k := 8) (fr := ["_law_rules_here", "_law_some", "_law_heard", "_law_limit"]) (js := [0, 1, 2, 3]) (N := ["_law_rules_here", "_law_some", "_law_heard", "_law_limit"]) (ps := []) (vs := []) (svs := []) (ds := [some (PV R), some (.ref a), some (x), some (u)]) (Z := fun _ => True) (NdefX.nscope_by ?nm) rfl (fun _ => .nil) (fun doc pm ctv s H hok hZ => ?bd) ok
      (NdefX.Caps.made ok (NdefX.ndef_free (sc := defScope s_law_works) (fr := ["_law_rules_here", "_law_some", "_law_heard", "_law_limit"]) (by decide +kernel)) (NdefX.ndef_fr (sc := defScope s_law_works) (fr := ["_law_rules_here", "_law_some", "_law_heard", "_law_limit"]) (by decide +kernel)) rfl) rfl ci (wr_of sr [0, 1, 2, 3]) rfl hf1 hc1 trivial exW_st (fun A2 outer2 sh2 H2 E2 hr => ⟨_, _, ge_callN (okB_walked (P := P) (w := w) (base := base') T) (hr.mono (by decide)) (by rfl) T.g_walked T.k_walked kb_walked_hu passN gS_hu (ga_cons (gv 0) (ga_cons (gv 1) ga_nil)) (gk_cons (gv 2) (gk_cons (gv 3) gk_nil)), fun m SX Sv h => ?_⟩)
    case nm => kernel_rfl
    case bd => exact ⟨[], .nil, .of_eq rfl⟩
    walk_at "r"
    obtain ⟨e, hb, hq⟩ := h
    exact ⟨rfl, rfl, R, a, x, u, e, rfl, ok', hb, .of (hq m (.refl m))⟩
  · intro σ F H1 f c0 dV ok sr ci hf1 hc1 _ hd base'
    obtain ⟨T0, rfl, hT0⟩ := hd
    refine esc_beh (k := 8) (fr := ["_law_rules_here", "_law_some", "_law_heard", "_law_limit"]) (js := [0, 1, 2, 3]) (N := ["_law_a", "_law_rules_here", "_law_some", "_law_heard", "_law_limit"]) (ps := ["_law_a"]) (vs := [.int 0]) (svs := [.int 0]) (ds := [some (PV R), some (.ref a), some (x), some (u)]) (Z := fun H => H T0 = some (.tup [.int 0])) (NdefX.nscope_by ?nm) rfl (fun _ => .cons (.int 0) .nil) (fun doc pm ctv s H hok hZ => ?bd) ok
      (NdefX.Caps.made ok (NdefX.ndef_free (sc := defScope s_law_works) (fr := ["_law_rules_here", "_law_some", "_law_heard", "_law_limit"]) (by decide +kernel)) (NdefX.ndef_fr (sc := defScope s_law_works) (fr := ["_law_rules_here", "_law_some", "_law_heard", "_law_limit"]) (by decide +kernel)) rfl) rfl ci (wr_of sr [0, 1, 2, 3]) rfl hf1 hc1 hT0 exW_st (fun A2 outer2 sh2 H2 E2 hr => ⟨_, _, ge_callN (okB_wheeled (P := P) (w := w) (base := base') T) (hr.mono (by decide)) (by rfl) T.g_wheeled T.k_wheeled kb_wheeled_uh passN gS_uh (ga_cons (gv 1) (ga_cons (gv 2) ga_nil)) (gk_cons (gv 4) (gk_cons (gv 3) gk_nil)), fun m SX Sv h => ?_⟩)
    case nm => kernel_rfl
    case bd => 
      obtain ⟨_, its, r, o, ho, hcl, n, hdt⟩ := hok T0 _ hZ
      obtain ⟨u, rfl, ru⟩ := r.one
      exact ⟨[u], r, .of_defaults (T := T0) rfl ho hdt rfl rfl⟩
    walk_at "r"
    obtain ⟨e, hb, hq⟩ := h
    exact ⟨rfl, rfl, R, a, x, u, e, rfl, ok', hb, .of (hq m (.refl m))⟩
  · refine .of (q l f1 f2 _ ((lq.over hf1).over zf2) zl hf1 zf2 n12 ?_ ?_ up_same)
    · rw [up_ne nl2, up_ne nl1]
      exact el
    · rw [up_ne n12]
      exact up_same
end
end Hn

set_option Elab.async false
set_option linter.all false
set_option maxRecDepth 100000
set_option maxHeartbeats 8000000
namespace Hn
open PySem PySem.Spec PyProof.Rows L2 Sy Lm
section
variable {P : Program} {w : World} {K : PySem.W.Frag} {mg : Str → Option Value} {base : Heap}
local macro_rules | `(tactic| walk_at "r") => `(tactic| (conv => whnf))
local macro_rules | `(tactic| walk_at "sp") => `(tactic| (first | rfl | contradiction | exact (False.elim ‹_›)))
local macro_rules | `(tactic| walk_at "len") => `(tactic| (exact Nat.le_trans (show _ ≤ 100000 by first | (simp; done) | (rw [rngS_length]; decide)) (by decide)))
local macro_rules | `(tactic| walk_at "f") => `(tactic| (refine Br_i (fun hb => Bool.noConfusion (show false = true from hb)) (fun _ => ?_)))
local macro_rules | `(tactic| walk_at "t") => `(tactic| (refine Br_i (fun _ => ?_) (fun hb => Bool.noConfusion (show true = false from hb))))
local macro_rules | `(tactic| walk_at "le") => `(tactic| first | exact Le.refl _ | (refine Le.put ?_; walk_at "le") | (refine Le.new ?_ (by assumption); walk_at "le"))
abbrev nm0 : Nat → Nat → Str := fun _ _ => "law.<locals>.<lambda>"
abbrev p0 : He.Defn := ("law", none)
def Mm (m0 : Mem) (pN pH : Addr) (N : List NR) (H : List Hr) (m : Mem) : Prop := Le m0 m ∧ m pN = some (.lst (N.map NR.sv)) ∧ m pH = some (.lst (H.map hrS))
theorem ntok_take {R : List PR} {N : List NR} (h : NtOk R N) (k : Nat) : NtOk R (N.take k) := ⟨by rw [List.length_take]; have := h.len; omega, fun y hy => h.all y (List.mem_of_mem_take hy), h.rise.sublist (List.take_sublist k N)⟩
theorem hrok_take {R : List PR} {N : List NR} {H : List Hr} (h : HrOk R N H) (k : Nat) : HrOk R N (H.take k) := ⟨by rw [List.length_take]; have := h.len; omega, fun y hy => h.all y (List.mem_of_mem_take hy), h.rise.sublist (List.take_sublist k H)⟩
theorem hrok_more {R : List PR} {N N' : List NR} {H : List Hr} (h : HrOk R N H) (e : N.length ≤ N'.length) : HrOk R N' H := ⟨h.len, fun y hy => by
  obtain ⟨h1, h2, h3, h4⟩ := h.all y hy
  exact ⟨h1, h2, h3, by omega⟩, h.rise⟩
theorem lastB_nn {R : List PR} {N : List NR} (h : NtOk R N) : 0 ≤ lastB N := by
  unfold lastB
  rw [List.getLastD_eq_getLast?]
  cases e : (N.map NR.born).getLast? with
  | none => exact Int.le_refl 0
  | some v =>
    obtain ⟨z, hz, rfl⟩ := List.mem_map.mp (List.mem_of_getLast? e)
    exact (h.all z hz).2.2.2.1
theorem lastH_nn {R : List PR} {N : List NR} {H : List Hr} (h : HrOk R N H) : 0 ≤ lastH H := by
  unfold lastH
  rw [List.getLastD_eq_getLast?]
  cases e : (H.map (·.1)).getLast? with
  | none => exact Int.le_refl 0
  | some v =>
    obtain ⟨z, hz, rfl⟩ := List.mem_map.mp (List.mem_of_getLast? e)
    exact (h.all z hz).1.1
theorem odd_nt {M lo : Int} {r : List Int} {x : SV} (h : OddR r [M - 1, 3, 7, 300] x) (hr : r.length = 4) (hl : 0 ≤ lo) : canNt x M lo = false := by
  rcases h with ⟨k, top, bad, hk, ht, hb, rfl⟩ | h
  · match r, hr with
    | [a, b, c, d], _ =>
      have hk : k < 4 := hk
      rcases (by omega : k = 0 ∨ k = 1 ∨ k = 2 ∨ k = 3) with rfl | rfl | rfl | rfl
      · cases ht
        show (isWh bad 0 (M - 1) && _) = false
        rw [hb 0 (Int.le_refl 0), Bool.false_and]
      · cases ht
        show (_ && (isWh bad 0 3 && _)) = false
        rw [hb 0 (Int.le_refl 0), Bool.false_and, Bool.and_false]
      · cases ht
        show (_ && (_ && (isWh bad 0 7 && _))) = false
        rw [hb 0 (Int.le_refl 0), Bool.false_and, Bool.and_false, Bool.and_false]
      · cases ht
        show (_ && (_ && (_ && isWh bad lo 300))) = false
        rw [hb lo hl, Bool.and_false, Bool.and_false, Bool.and_false]
  · rw [hr] at h
    exact not_tup4 h
theorem odd_hr {M n lo : Int} {r : List Int} {x : SV} (h : OddR r [600, M - 1, n - 1] x) (hr : r.length = 3) (hl : 0 ≤ lo) : canHr x M n lo = false := by
  rcases h with ⟨k, top, bad, hk, ht, hb, rfl⟩ | h
  · match r, hr with
    | [a, b, c], _ =>
      have hk : k < 3 := hk
      rcases (by omega : k = 0 ∨ k = 1 ∨ k = 2) with rfl | rfl | rfl
      · cases ht
        show (isWh bad lo 600 && _) = false
        rw [hb lo hl, Bool.false_and]
      · cases ht
        show (_ && (isWh bad 0 (M - 1) && _)) = false
        rw [hb 0 (Int.le_refl 0), Bool.false_and, Bool.and_false]
      · cases ht
        show (_ && (_ && isWh bad 0 (n - 1))) = false
        rw [hb 0 (Int.le_refl 0), Bool.and_false, Bool.and_false]
  · rw [hr] at h
    exact not_tup3 h
theorem cut_mid {N : List NR} {K : List SV} {odd : SV} {k : Nat} (hk : k ≤ N.length) : ∃ rest, (N.map NR.sv ++ K).take k ++ [odd] ++ (N.map NR.sv ++ K).drop (k + 1) = (N.take k).map NR.sv ++ odd :: rest ∧ ∀ x ∈ rest, x ∈ N.map NR.sv ++ K := by
  refine ⟨(N.map NR.sv ++ K).drop (k + 1), ?_, fun x hx => List.mem_of_mem_drop hx⟩
  rw [List.take_append_of_le_length (by rw [List.length_map]; exact hk), ← List.map_take, List.append_assoc]
  rfl
theorem nr_pdn {m : Mem} (z : NR) : Pdn 2 m z.sv := pdn_tup fun x hx => by
  have hx : x ∈ [SV.int z.per, .int z.rank, .int z.kind, .int z.born] := hx
  simp only [List.mem_cons, List.not_mem_nil, or_false] at hx
  rcases hx with rfl | rfl | rfl | rfl <;> exact pdn_int _
abbrev exT (K : PySem.W.Frag) (R : List PR) (pB : Addr) (N : List NR) (odd : SV) (rest : List SV) : Phi := fun m' SX _ => m' pB = some (.lst (N.map NR.sv ++ odd :: rest)) ∧ DD m' odd ∧ ∀ m2, Le m' m2 → SX (nX K "BadNotices" N.length) m2
theorem great_ok {n : Nat} (h : 30 ≤ n) : ∃ (odd : SV) (rest : List SV), (List.replicate n [SV.tup [.int 0, .int 0, .int 0, .int 5]]).flatten ++ [SV.tup [.int 0, .int 0, .int 0, .int 4]] = (List.replicate 30 (⟨0, 0, 0, 5⟩ : NR)).map NR.sv ++ odd :: rest ∧ ∀ m, DD m odd := by
  obtain ⟨j, rfl⟩ : ∃ j, n = 30 + j := ⟨n - 30, by omega⟩
  have e : (List.replicate (30 + j) [SV.tup [.int 0, .int 0, .int 0, .int 5]]).flatten = (List.replicate 30 (⟨0, 0, 0, 5⟩ : NR)).map NR.sv ++ List.replicate j (SV.tup [.int 0, .int 0, .int 0, .int 5]) := by
    rw [List.flatten_replicate_singleton, List.map_replicate, ← List.replicate_append_replicate]
    rfl
  have dd : ∀ (i : Int) (m : Mem), DD m (SV.tup [.int 0, .int 0, .int 0, .int i]) := fun i m => .tup (.cons (.int _) (.cons (.int _) (.cons (.int _) (.cons (.int _) .nil))))
  rw [e]
  cases j with
  | zero => exact ⟨_, [], by rw [List.replicate_zero, List.append_nil], dd 4⟩
  | succ j => exact ⟨_, List.replicate j _ ++ [_], by rw [List.replicate_succ, List.append_assoc]; rfl, dd 5⟩
theorem ntok30 {R : List PR} (h : 1 ≤ R.length) : NtOk R (List.replicate 30 ⟨0, 0, 0, 5⟩) := ⟨Nat.le_of_eq List.length_replicate, fun y hy => by
  rw [(List.mem_replicate.mp hy).2]
  exact ⟨⟨Int.le_refl _, by show (0 : Int) < R.length; omega⟩, ⟨by decide, by decide⟩, ⟨by decide, by decide⟩, ⟨by decide, by decide⟩⟩, List.pairwise_replicate.mpr (.inr (Int.le_refl _))⟩
theorem lim_ok {far j : Int} (f0 : 0 ≤ far) (j0 : 0 ≤ j) (j1 : j < 4) : ∃ x, atI [SV.int (601 + far), .int (-1 - far), .non, .bl true] j = some x ∧ isWh x 0 600 = false ∧ ∀ m, DD m x := by
  rcases (by omega : j = 0 ∨ j = 1 ∨ j = 2 ∨ j = 3) with rfl | rfl | rfl | rfl
  · refine ⟨_, atI_nat (j := 0) rfl, ?_, fun _ => .int _⟩
    show (decide (0 ≤ 601 + far) && decide (601 + far ≤ 600)) = false
    rw [decide_eq_false (p := 601 + far ≤ 600) (by omega), Bool.and_false]
  · refine ⟨_, atI_nat (j := 1) rfl, ?_, fun _ => .int _⟩
    show (decide (0 ≤ -1 - far) && decide (-1 - far ≤ 600)) = false
    rw [decide_eq_false (p := (0 : Int) ≤ -1 - far) (by omega), Bool.false_and]
  · exact ⟨_, atI_nat (j := 2) rfl, rfl, fun _ => .non⟩
  · exact ⟨_, atI_nat (j := 3) rfl, rfl, fun _ => .bl _⟩
theorem sixty : (List.replicate (Int.toNat 61) [SV.tup [.int 3, .int 0, .int 0]]).flatten = (List.replicate 60 ((3, 0, 0) : Hr)).map hrS ++ [SV.tup [.int 3, .int 0, .int 0]] := rfl
theorem hr60 {R : List PR} {N : List NR} (h : 1 ≤ R.length) (h2 : 1 ≤ N.length) : HrOk R N (List.replicate 60 (3, 0, 0)) := ⟨Nat.le_of_eq List.length_replicate, fun y hy => by
  rw [(List.mem_replicate.mp hy).2]
  exact ⟨⟨by show (0 : Int) ≤ 3; decide, by show (3 : Int) ≤ 600; decide⟩, ⟨Int.le_refl _, by show (0 : Int) < R.length; omega⟩, Int.le_refl _, by show (0 : Int) < N.length; omega⟩, List.pairwise_replicate.mpr (.inr (Int.le_refl _))⟩
theorem hrTop {R : List PR} {N : List NR} (h : 1 ≤ R.length) (h2 : 1 ≤ N.length) : HrOk R N [(600, (R.length : Int) - 1, (N.length : Int) - 1)] := ⟨by show 1 ≤ 60; decide, fun y hy => by
  obtain rfl := List.mem_singleton.mp hy
  exact ⟨⟨by show (0 : Int) ≤ 600; decide, Int.le_refl _⟩, ⟨by show (0 : Int) ≤ (R.length : Int) - 1; omega, by show (R.length : Int) - 1 < R.length; omega⟩, by show (0 : Int) ≤ (N.length : Int) - 1; omega, by show (N.length : Int) - 1 < N.length; omega⟩, List.pairwise_singleton _ _⟩
theorem le_has {a m : Mem} {p : Addr} {o : MO} (l : Le a m) (e : m p = some o) : Le (up a p o) m := fun b u h => by
  by_cases q : b = p
  · subst q
    rw [up_same] at h
    cases h
    exact e
  · rw [up_ne q] at h
    exact l b u h
theorem fall_ok {M n a b : Int} : canHr (SV.tup [.int 599, .int 0, .int 0]) M n (lastH [(600, a, b)]) = false := by
  show (isWh (.int 599) 600 600 && (isWh (.int 0) 0 (M - 1) && isWh (.int 0) 0 (n - 1))) = false
  rw [show isWh (.int 599) 600 600 = false from rfl, Bool.false_and]
def spLaw (t1 t2 : Addr) : SpS := fun vs m _ S => ∃ ns : List Int, vs = [.lst (ns.map .int)] ∧ ns.length ≤ 63 ∧ m t1 = some (.tab nmW) ∧ m t2 = some (.tab nm0) ∧ ∀ m', S (.bl true) m'
theorem ok_law (T : Tx K mg) [OW : Own P K mg] (KN : Kd_BadNotices K) (KH : Kd_BadHears K) (KM : Kd_BadMoment K) (TW : LamX.TabB base mg (He.cT K pW).1 (He.cT K pW).2) (TB : LamX.TabB base mg (He.cT K p0).1 (He.cT K p0).2) : FnOk P w K mg base (L2.CX P w) 20 (He.ga K "law") T.fd_law ["_law_script"] (lift K (spLaw (He.cT K pW).2 (He.cT K p0).2)) := by
  have G_law_begun := ok_law_begun (P := P) (w := w) (base := base) T
  have b_law_begun := b_law_begun T
  have G_law_hears := ok_law_hears (P := P) (w := w) (base := base) T
  have b_law_hears := b_law_hears T
  have G_law_notices := ok_law_notices (P := P) (w := w) (base := base) T
  have b_law_notices := b_law_notices T
  have G_law_odd := ok_law_odd (P := P) (w := w) (base := base) T
  have b_law_odd := b_law_odd T
  have G_law_rules := ok_law_rules (P := P) (w := w) (base := base) T
  have b_law_rules := b_law_rules T
  have G_law_take := ok_law_take (P := P) (w := w) (base := base) T
  have b_law_take := b_law_take T
  have G_law_works := ok_law_works (P := P) (w := w) (base := base) T TW
  have b_law_works := b_law_works T
  have b_law_all := b_law_all T
  obtain ⟨oc, od, dV, kV, doc, pm, an, cdv, ct, osl, efd, lk, hcd, _, _⟩ := T.F_law.ex
  obtain ⟨c, rfl⟩ := He.codeIn_ref hcd
  rw [efd] at lk ⊢
  have ec : He.codeOf K p0 = c := He.codeOf_eq lk rfl
  have TB : LamX.TabB base mg c (He.cT K p0).2 := by
    have z := TB
    rw [show (He.cT K p0).1 = c from ec] at z
    exact z
  refine fn_syT lk hcd sc_law (fun svs m SX Sv h => ?_) (fun A outer s H E hr => ?_)
  · obtain ⟨ns, rfl, _⟩ := h
    rfl
  have hnm : ∀ {l k : Nat}, nm0 l k = (cxOf (L2.CX P w) P w K mg base ["_law_script", "_law_box", "_law_turn", "_law_rules_here", "_law_notices_here", "_law_heard", "_law_far", "_law_at", "_law_edge", "_law_row", "_law_odd_here", "_law_bad", "_law_handed", "_law_great", "_law_top", "_law_works_here", "_law_falls", "_law_limit"] "law" (defScope s_law) (He.ga K "law") (.ref c) A outer s H E).env.qual ++ "<lambda>" := fun {l k} => by kernel_rfl
  refine ⟨_, _, (gss_cons (gs_set (i := 1) sc_law.nd rfl (.inl rfl) (ge_call G_law_begun ((hr.mono (by decide))) (by rfl) T.g__law_begun T.k__law_begun b_law_begun .nil (fun _ => .nil) pass0 (ga_cons (gv 0) ga_nil)))
      (gss_cons (gs_for (passes_of rfl) rfl (gi_range1 (by rfl) T.z_range (ga_cons ge_int ga_nil)) (gg_name (i := 2) sc_law.nd rfl (.inl rfl))
      (gss_cons (gs_set (i := 3) sc_law.nd rfl (.inr rfl) (ge_call G_law_rules ((hr.mono (by decide))) (by rfl) T.g__law_rules T.k__law_rules b_law_rules .nil (fun _ => .nil) pass0 (ga_cons (gv 1) ga_nil)))
      (gss_cons (gs_set (i := 4) sc_law.nd rfl (.inl rfl) (ge_call G_law_notices ((hr.mono (by decide))) (by rfl) T.g__law_notices T.k__law_notices b_law_notices .nil (fun _ => .nil) pass0 (ga_cons (gv 1) (ga_cons (gv 3) (ga_cons ge_int ga_nil)))))
      (gss_cons (gs_par (i := 5) (j := 6) (by rfl) sc_law.nd rfl rfl (by decide) rfl rfl (ga_cons (ge_call G_law_hears ((hr.mono (by decide))) (by rfl) T.g__law_hears T.k__law_hears b_law_hears .nil (fun _ => .nil) pass0 (ga_cons (gv 1) (ga_cons (gv 3) (ga_cons (gv 4) (ga_cons ge_int ga_nil))))) (ga_cons (ge_call G_law_take ((hr.mono (by decide))) (by rfl) T.g__law_take T.k__law_take b_law_take .nil (fun _ => .nil) pass0 (ga_cons (gv 1) (ga_cons (ge_ix (ix_G K) sim_ix (ge_lst (ga_cons ge_int (ga_cons (ge_op op_pow sim_pow ge_int ge_int) ga_nil))) (ge_call G_law_take ((hr.mono (by decide))) (by rfl) T.g__law_take T.k__law_take b_law_take .nil (fun _ => .nil) pass0 (ga_cons (gv 1) (ga_cons ge_int ga_nil))) (fun _ _ => rfl)) ga_nil))) ga_nil)))
      (gss_cons (gs_par (i := 7) (j := 8) (by rfl) sc_law.nd rfl rfl (by decide) rfl rfl (ga_cons (ge_call G_law_take ((hr.mono (by decide))) (by rfl) T.g__law_take T.k__law_take b_law_take .nil (fun _ => .nil) pass0 (ga_cons (gv 1) (ga_cons (ge_op (op_addG K) sim_add (ge_callB (cr_len K) sim_len (by rfl) T.z_len (by decide +kernel) (ga_cons (gv 4) ga_nil)) ge_int) ga_nil))) (ga_cons (ge_tup (ga_cons (ge_op op_sub sim_sub (ge_callB (cr_len K) sim_len (by rfl) T.z_len (by decide +kernel) (ga_cons (gv 3) ga_nil)) ge_int) (ga_cons ge_int (ga_cons ge_int (ga_cons ge_int ga_nil))))) ga_nil)))
      (gss_cons (gs_cut (gs_set (i := 9) sc_law.nd rfl (.inl rfl) (ge_ifE (gt_cmp op_lt sim_lt (gv 7) (ge_callB (cr_len K) sim_len (by rfl) T.z_len (by decide +kernel) (ga_cons (gv 4) ga_nil)) (nomark _)) (ge_ix (ix_G K) sim_ix (gv 4) (gv 7) (fun _ _ => rfl)) (gv 8))))
      (gss_cons (gs_set (i := 10) sc_law.nd rfl (.inl rfl) (ge_call G_law_odd ((hr.mono (by decide))) (by rfl) T.g__law_odd T.k__law_odd b_law_odd .nil (fun _ => .nil) pass0 (ga_cons (gv 1) (ga_cons (gv 9) (ga_cons (gv 8) (ga_cons ge_int ga_nil))))))
      (gss_cons (gs_set (i := 11) sc_law.nd rfl (.inr rfl) (ge_op (op_addG K) sim_add (ge_callTy (cr_lst K) sim_lstOf (by rfl) T.z_list (by decide +kernel) (ga_cons (gv 4) ga_nil)) (ge_op op_rep sim_rep (ge_lst (ga_cons ge_non ga_nil)) (ge_call G_law_take ((hr.mono (by decide))) (by rfl) T.g__law_take T.k__law_take b_law_take .nil (fun _ => .nil) pass0 (ga_cons (gv 1) (ga_cons ge_int ga_nil))))))
      (gss_cons (gs_asg (ge_lst (ga_cons (gv 10) ga_nil)) (gg_setSl (gv 11) (gv 7) (ge_op (op_addG K) sim_add (gv 7) ge_int)))
      (gss_cons (gs_set (i := 12) sc_law.nd rfl (.inl rfl) (ge_callTy (cr_lst K) sim_lstOf (by rfl) T.z_list (by decide +kernel) (ga_cons (gv 11) ga_nil)))
      (gss_cons (gs_cut (gs_if (gw_pt (gw_or (gt_not (gt_val (ge_callBase2 (k2 := 9) (sp := fun b => spAll_BadNotices P w K mg b) (fun b => ok_law_all_BadNotices (P := P) (w := w) (base := b) T KN) (hr.mono (by decide)) (by rfl) T.g__law_all T.k__law_all b_law_all (ga_cons (ge_call G_law_works ((hr.mono (by decide))) (by rfl) T.g__law_works T.k__law_works b_law_works .nil (fun _ => .nil) pass0 (ga_cons (gv 3) (ga_cons (gv 12) (ga_cons (ge_lst (ga_cons ge_non ga_nil)) (ga_cons (ge_un un_neg sim_neg ge_int) ga_nil))))) (ga_cons (ge_tup (ga_cons ge_str (ga_cons (gv 7) ga_nil))) ga_nil)) (fun _ => rfl) rfl rfl))) (gw_or1 (gt_cmp (op_neG K hr.units) sim_ne (gv 12) (gv 11) (nomark _))))) (gss_one (gs_ret ge_bl)) gss_nil))
      (gss_cons (gs_cut (gs_if (gt_not (gt_val (ge_callBase2 (k2 := 9) (sp := fun b => spAll_BadNotices P w K mg b) (fun b => ok_law_all_BadNotices (P := P) (w := w) (base := b) T KN) (hr.mono (by decide)) (by rfl) T.g__law_all T.k__law_all b_law_all (ga_cons (ge_lst (ga_cons (ge_lam0 TB rfl hnm (NdefX.ndef_free (sc := defScope s_law) (fr := []) (by decide +kernel)) rfl) ga_nil)) (ga_cons (ge_tup (ga_cons ge_str (ga_cons (gv 7) ga_nil))) ga_nil)) (fun _ => rfl) rfl rfl))) (gss_one (gs_ret ge_bl)) gss_nil))
      (gss_cons (gs_set (i := 13) sc_law.nd rfl (.inl rfl) (ge_op (op_addG K) sim_add (ge_op op_rep sim_rep (ge_lst (ga_cons (ge_tup (ga_cons ge_int (ga_cons ge_int (ga_cons ge_int (ga_cons ge_int ga_nil))))) ga_nil)) (ge_op (op_addG K) sim_add ge_int (ge_call G_law_take ((hr.mono (by decide))) (by rfl) T.g__law_take T.k__law_take b_law_take .nil (fun _ => .nil) pass0 (ga_cons (gv 1) (ga_cons ge_int ga_nil))))) (ge_lst (ga_cons (ge_tup (ga_cons ge_int (ga_cons ge_int (ga_cons ge_int (ga_cons ge_int ga_nil))))) ga_nil))))
      (gss_cons (gs_cut (gs_if (gt_not (gt_val (ge_callBase2 (k2 := 9) (sp := fun b => spAll_BadNotices P w K mg b) (fun b => ok_law_all_BadNotices (P := P) (w := w) (base := b) T KN) (hr.mono (by decide)) (by rfl) T.g__law_all T.k__law_all b_law_all (ga_cons (ge_call G_law_works ((hr.mono (by decide))) (by rfl) T.g__law_works T.k__law_works b_law_works .nil (fun _ => .nil) pass0 (ga_cons (gv 3) (ga_cons (gv 13) (ga_cons (ge_lst (ga_cons ge_non ga_nil)) (ga_cons (ge_un un_neg sim_neg ge_int) ga_nil))))) (ga_cons (ge_tup (ga_cons ge_str (ga_cons ge_int ga_nil))) ga_nil)) (fun _ => rfl) rfl rfl))) (gss_one (gs_ret ge_bl)) gss_nil))
      (gss_cons (gs_set (i := 4) sc_law.nd rfl (.inl rfl) (ge_op (op_addG K) sim_add (gv 4) (ge_lst (ga_cons (gv 8) ga_nil))))
      (gss_cons (gs_set (i := 14) sc_law.nd rfl (.inl rfl) (ge_tup (ga_cons ge_int (ga_cons (ge_op op_sub sim_sub (ge_callB (cr_len K) sim_len (by rfl) T.z_len (by decide +kernel) (ga_cons (gv 3) ga_nil)) ge_int) (ga_cons (ge_op op_sub sim_sub (ge_callB (cr_len K) sim_len (by rfl) T.z_len (by decide +kernel) (ga_cons (gv 4) ga_nil)) ge_int) ga_nil)))))
      (gss_cons (gs_set (i := 7) sc_law.nd rfl (.inl rfl) (ge_call G_law_take ((hr.mono (by decide))) (by rfl) T.g__law_take T.k__law_take b_law_take .nil (fun _ => .nil) pass0 (ga_cons (gv 1) (ga_cons (ge_op (op_addG K) sim_add (ge_callB (cr_len K) sim_len (by rfl) T.z_len (by decide +kernel) (ga_cons (gv 5) ga_nil)) ge_int) ga_nil))))
      (gss_cons (gs_cut (gs_set (i := 11) sc_law.nd rfl (.inr rfl) (ge_op (op_addG K) sim_add (ge_op (op_addG K) sim_add (ge_slice (gv 5) go_none (go_some (gv 7))) (ge_lst (ga_cons (ge_call G_law_odd ((hr.mono (by decide))) (by rfl) T.g__law_odd T.k__law_odd b_law_odd .nil (fun _ => .nil) pass0 (ga_cons (gv 1) (ga_cons (ge_ifE (gt_cmp op_lt sim_lt (gv 7) (ge_callB (cr_len K) sim_len (by rfl) T.z_len (by decide +kernel) (ga_cons (gv 5) ga_nil)) (nomark _)) (ge_ix (ix_G K) sim_ix (gv 5) (gv 7) (fun _ _ => rfl)) (gv 14)) (ga_cons (gv 14) (ga_cons ge_int ga_nil))))) ga_nil))) (ge_op op_rep sim_rep (ge_lst (ga_cons ge_non ga_nil)) (ge_call G_law_take ((hr.mono (by decide))) (by rfl) T.g__law_take T.k__law_take b_law_take .nil (fun _ => .nil) pass0 (ga_cons (gv 1) (ga_cons ge_int ga_nil)))))))
      (gss_cons (gs_cut (gs_if (gt_not (gt_val (ge_callBase2 (k2 := 9) (sp := fun b => spAll_BadHears P w K mg b) (fun b => ok_law_all_BadHears (P := P) (w := w) (base := b) T KH) (hr.mono (by decide)) (by rfl) T.g__law_all T.k__law_all b_law_all (ga_cons (ge_call G_law_works ((hr.mono (by decide))) (by rfl) T.g__law_works T.k__law_works b_law_works .nil (fun _ => .nil) pass0 (ga_cons (gv 3) (ga_cons (gv 4) (ga_cons (gv 11) (ga_cons (ge_un un_neg sim_neg ge_int) ga_nil))))) (ga_cons (ge_tup (ga_cons ge_str (ga_cons (gv 7) ga_nil))) ga_nil)) (fun _ => rfl) rfl rfl))) (gss_one (gs_ret ge_bl)) gss_nil))
      (gss_cons (gs_set (i := 15) sc_law.nd rfl (.inl rfl) (ge_call G_law_works ((hr.mono (by decide))) (by rfl) T.g__law_works T.k__law_works b_law_works .nil (fun _ => .nil) pass0 (ga_cons (gv 3) (ga_cons (gv 4) (ga_cons (ge_op op_rep sim_rep (ge_lst (ga_cons (ge_tup (ga_cons ge_int (ga_cons ge_int (ga_cons ge_int ga_nil)))) ga_nil)) ge_int) (ga_cons (ge_un un_neg sim_neg ge_int) ga_nil))))))
      (gss_cons (gs_set (i := 16) sc_law.nd rfl (.inl rfl) (ge_call G_law_works ((hr.mono (by decide))) (by rfl) T.g__law_works T.k__law_works b_law_works .nil (fun _ => .nil) pass0 (ga_cons (gv 3) (ga_cons (gv 4) (ga_cons (ge_lst (ga_cons (gv 14) (ga_cons (ge_tup (ga_cons ge_int (ga_cons ge_int (ga_cons ge_int ga_nil)))) ga_nil))) (ga_cons ge_int ga_nil))))))
      (gss_cons (gs_cut (gs_if (gw_pt (gw_or (gt_not (gt_val (ge_callBase2 (k2 := 9) (sp := fun b => spAll_BadHears P w K mg b) (fun b => ok_law_all_BadHears (P := P) (w := w) (base := b) T KH) (hr.mono (by decide)) (by rfl) T.g__law_all T.k__law_all b_law_all (ga_cons (gv 15) (ga_cons (ge_tup (ga_cons ge_str (ga_cons ge_int ga_nil))) ga_nil)) (fun _ => rfl) rfl rfl))) (gw_or1 (gt_not (gt_val (ge_callBase2 (k2 := 9) (sp := fun b => spAll_BadHears P w K mg b) (fun b => ok_law_all_BadHears (P := P) (w := w) (base := b) T KH) (hr.mono (by decide)) (by rfl) T.g__law_all T.k__law_all b_law_all (ga_cons (gv 16) (ga_cons (ge_tup (ga_cons ge_str (ga_cons ge_int ga_nil))) ga_nil)) (fun _ => rfl) rfl rfl)))))) (gss_one (gs_ret ge_bl)) gss_nil))
      (gss_cons (gs_set (i := 17) sc_law.nd rfl (.inl rfl) (ge_ix (ix_G K) sim_ix (ge_lst (ga_cons (ge_op (op_addG K) sim_add ge_int (gv 6)) (ga_cons (ge_op op_sub sim_sub (ge_un un_neg sim_neg ge_int) (gv 6)) (ga_cons ge_non (ga_cons ge_bl ga_nil))))) (ge_call G_law_take ((hr.mono (by decide))) (by rfl) T.g__law_take T.k__law_take b_law_take .nil (fun _ => .nil) pass0 (ga_cons (gv 1) (ga_cons ge_int ga_nil))) (fun _ _ => rfl)))
      (gss_cons (gs_set (i := 15) sc_law.nd rfl (.inl rfl) (ge_call G_law_works ((hr.mono (by decide))) (by rfl) T.g__law_works T.k__law_works b_law_works .nil (fun _ => .nil) pass0 (ga_cons (gv 3) (ga_cons (gv 4) (ga_cons (ge_callTy (cr_tup K) sim_tupOf (by rfl) T.z_tuple (by decide +kernel) (ga_cons (gv 5) ga_nil)) (ga_cons (gv 17) ga_nil))))))
      (gss_one (gs_if (gw_pt (gw_or (gt_not (gt_val (ge_callBase2 (k2 := 9) (sp := fun b => spAll_BadMoment P w K mg b) (fun b => ok_law_all_BadMoment (P := P) (w := w) (base := b) T KM) (hr.mono (by decide)) (by rfl) T.g__law_all T.k__law_all b_law_all (ga_cons (gv 15) (ga_cons (ge_tup (ga_cons ge_str (ga_cons ge_int ga_nil))) ga_nil)) (fun _ => rfl) rfl rfl))) (gw_or1 (gt_cmp (op_neG K hr.units) sim_ne (ge_gi (by rfl) T.i_MOST_UNTIL) ge_int (nomark _))))) (gss_one (gs_ret ge_bl)) gss_nil))))))))))))))))))))))))))
      (gss_one (gs_ret ge_bl)))), fun svs m SX Sv h => ?_⟩
  obtain ⟨ns, rfl, hl, hT1, hT2, q⟩ := h
  walk_at "r"
  refine ⟨ns, rfl, hl, fun b cx hcx hb ne => ?_⟩
  have hT10 : up (up m cx .bxi) b (.box cx) (He.cT K pW).2 = some (.tab nmW) := by rw [up_ne (mne hT1 hb), up_ne (mne hT1 hcx)]; exact hT1
  have hT20 : up (up m cx .bxi) b (.box cx) (He.cT K p0).2 = some (.tab nm0) := by rw [up_ne (mne hT2 hb), up_ne (mne hT2 hcx)]; exact hT2
  have bx : IsBox (up (up m cx .bxi) b (.box cx)) b := ⟨cx, up_same, by rw [up_ne (Ne.symm ne)]; exact up_same⟩
  generalize up (up m cx .bxi) b (.box cx) = m0 at hT10 hT20 bx
  clear hT1 hT2 hcx hb ne
  walk_at "r"
  refine ⟨⟨by decide, by decide⟩, ?_⟩
  refine for_inv (fun r δ m' => m' = m0 ∧ ∃ (a0 a1 a2 a3 a4 a5 a6 a7 a8 a9 a10 a11 a12 a13 a14 a15 : Option SV), δ = [some (.lst (ns.map .int)), some (.ref b), a0, a1, a2, a3, a4, a5, a6, a7, a8, a9, a10, a11, a12, a13, a14, a15]) ⟨rfl, none, none, none, none, none, none, none, none, none, none, none, none, none, none, none, none, rfl⟩ (fun x r δ m' h => ?_) (fun δ m' h => ?_)
  · obtain ⟨rfl, a0, a1, a2, a3, a4, a5, a6, a7, a8, a9, a10, a11, a12, a13, a14, a15, rfl⟩ := h
    refine ⟨trivial, ?_⟩
    walk_at "r"
    refine ⟨bx, fun R ok => ?_⟩
    have rk1 := ok.one
    have rk6 := ok.six
    walk_at "r"
    refine ⟨b, R, 9, rfl, bx, ok, ⟨by decide, by decide⟩, fun NN pN noN lN hpN => ?_⟩
    generalize hm1 : up m' pN _ = m1
    obtain ⟨eN, l1⟩ := nw hpN hm1
    walk_at "r"
    refine ⟨b, pN, R, NN, 9, rfl, bx.le l1, eN, ok, noN, ⟨by decide, by decide⟩, fun HH pH hoH lH hpH => ?_⟩
    generalize hm2 : up m1 pH _ = m2
    obtain ⟨eH, l2⟩ := nw hpH hm2
    have eN := l2 _ _ eN
    have lq := l1.trans l2
    walk_at "r"
    repeat (refine ⟨by walk_at "len", ?_⟩; walk_at "r")
    refine ⟨⟨by decide, by decide, by decide⟩, ?_⟩
    walk_at "r"
    refine ⟨by walk_at "len", fun p3 hp3 => ?_⟩
    generalize hm3 : up m2 p3 _ = m3
    obtain ⟨e3, l3⟩ := nw hp3 hm3
    have eN := l3 _ _ eN
    have eH := l3 _ _ eH
    have lq := lq.trans l3
    walk_at "r"
    refine ⟨bx.le lq, small (by decide) (by decide), fun n n0 n1 => ?_⟩
    walk_at "r"
    refine ⟨_, _, e3, pick2 n0 n1, ?_⟩
    rw [ite_int]
    walk_at "r"
    refine ⟨bx.le lq, small (by split <;> decide) (by split <;> decide), fun fa f0 f1 => ?_⟩
    clear f1
    walk_at "r"
    refine ⟨_, eN, ?_⟩
    walk_at "r"
    rw [List.length_map]
    have hN9 : NN.length ≤ 9 := by omega
    have hH9 : HH.length ≤ 9 := by omega
    refine ⟨bx.le lq, small (by omega) (by omega), fun at_ t0 t1 => ?_⟩
    obtain ⟨at_, rfl⟩ : ∃ k : Nat, at_ = (k : Int) := ⟨at_.toNat, by omega⟩
    walk_at "r"
    refine ⟨_, rfl, ?_⟩
    walk_at "r"
    repeat (refine ⟨by walk_at "len", ?_⟩; walk_at "r")
    rw [List.length_map]
    dsimp only [List.set]
    refine cut_by (fun δ m'' => Mm m' pN pH NN HH m'' ∧ ∃ r : List Int, r.length = 4 ∧ δ = [some (.lst (ns.map .int)), some (.ref b), some x, some (PV R), some (.ref pN), some (.ref pH), some (.int fa), some (.int at_), some (.tup ([(R.length : Int) - 1, 3, 7, 300].map .int)), some (.tup (r.map .int)), a8, a9, a10, a11, a12, a13, a14, a15]) ?_ (fun δ m4 hJ => ?_)
    · walk_at "r"
      refine ⟨_, eN, ?_⟩
      walk_at "r"
      refine Br_i (fun h5 => ?_) (fun h5 => ?_)
      · have h6 : at_ < NN.length := by
          have h7 := of_decide_eq_true h5
          rw [List.length_map] at h7
          omega
        walk_at "r"
        refine ⟨_, _, eN, atI_nat (by rw [List.getElem?_map, List.getElem?_eq_getElem h6]; rfl), ?_⟩
        walk_at "r"
        exact .of ⟨⟨lq, eN, eH⟩, [NN[at_].per, NN[at_].rank, NN[at_].kind, NN[at_].born], rfl, rfl⟩
      · walk_at "r"
        exact .of ⟨⟨lq, eN, eH⟩, [(R.length : Int) - 1, 3, 7, 300], rfl, rfl⟩

    obtain ⟨⟨lm, eN4, eH4⟩, r, hr4, rfl⟩ := hJ
    clear l1 l2 l3 lq eN eH e3 hpN hpH hp3 hm1 hm2 hm3
    walk_at "r"
    refine ⟨b, r, [(R.length : Int) - 1, 3, 7, 300], rfl, bx.le lm, hr4, by omega, by omega, fun odd m5 l5 dodd podd oodd => ?_⟩
    have hlo := lastB_nn (ntok_take noN at_)
    have hcan := odd_nt oodd hr4 hlo
    have eN := l5 _ _ eN4
    have eH := l5 _ _ eH4
    have lq := lm.trans l5
    walk_at "r"
    refine ⟨_, eN, fun p4 hp4 => ?_⟩
    generalize hm4 : up m5 p4 _ = m6
    obtain ⟨e4, l6⟩ := nw hp4 hm4
    have lv := l6
    have lq := lq.trans l6
    walk_at "r"
    refine ⟨by walk_at "len", fun p5 hp5 => ?_⟩
    generalize hm5 : up m6 p5 _ = m7
    obtain ⟨e5, l7⟩ := nw hp5 hm5
    have e4 := l7 _ _ e4
    have lv := lv.trans l7
    have lq := lq.trans l7
    walk_at "r"
    refine ⟨bx.le lq, small (by decide) (by decide), fun nn nn0 nn1 => ?_⟩
    walk_at "r"
    refine ⟨_, e5, ⟨by omega, by omega, line_le (by show 1 * nn.toNat ≤ _; omega)⟩, fun p6 hp6 => ?_⟩
    generalize hm6 : up m7 p6 _ = m8
    obtain ⟨e6, l8⟩ := nw hp6 hm6
    have e4 := l8 _ _ e4
    have lv := lv.trans l8
    have lq := lq.trans l8
    have hrl : (List.replicate nn.toNat [SV.non]).flatten.length = nn.toNat := by simp
    walk_at "r"
    refine ⟨_, _, e4, e6, line_le (by rw [List.length_map, hrl]; omega), fun pB hpB => ?_⟩
    generalize hm7 : up m8 pB _ = m9
    obtain ⟨eB, l9⟩ := nw hpB hm7
    have lv := lv.trans l9
    have lq := lq.trans l9
    have oB : m5 pB = none := (((l6.trans l7).trans l8)).none hpB
    walk_at "r"
    refine ⟨by walk_at "len", fun p8 hp8 => ?_⟩
    have nB8 := mne eB hp8
    generalize hm8 : up m9 p8 _ = m10
    obtain ⟨e8, l10⟩ := nw hp8 hm8
    have eB := l10 _ _ eB
    have lv := lv.trans l10
    have lq := lq.trans l10
    walk_at "r"
    refine ⟨nB8, _, _, eB, e8, ⟨by omega, by omega, by rw [List.length_append, List.length_map]; omega⟩, line_le (by rw [List.length_append, List.length_map, hrl]; show _ + 1 ≤ _; omega), ?_⟩
    obtain ⟨rest, hrest, hmem⟩ := cut_mid (N := NN) (K := (List.replicate nn.toNat [SV.non]).flatten) (odd := odd) (k := at_) (by omega)
    rw [show ((at_ : Int) + 1).toNat = at_ + 1 by omega, Int.toNat_natCast, hrest]
    generalize hm9 : up m10 pB _ = m11
    have eB : m11 pB = some (.lst ((NN.take at_).map NR.sv ++ odd :: rest)) := by rw [← hm9]; exact up_same
    have lv : Le m5 m11 := by rw [← hm9]; exact lv.over oB
    have lq : Le m' m11 := by rw [← hm9]; exact lq.over ((lm.trans l5).none oB)
    clear hm4 hm5 hm6 hm7 hm8 hm9 e4 e5 e6 e8 hp4 hp5 hp6 hpB hp8 l6 l7 l8 l9 l10 hrest nB8 oB hrl nn0 nn1
    have eN := lv _ _ eN
    have eH := lv _ _ eH
    have dodd := dodd.le lv
    have podd := podd.le lv
    walk_at "r"
    refine ⟨_, eB, fun pD hpD => ?_⟩
    generalize hm12 : up m11 pD _ = m12
    obtain ⟨eD, l12⟩ := nw hpD hm12
    have eB := l12 _ _ eB
    have eN := l12 _ _ eN
    have eH := l12 _ _ eH
    have dodd := dodd.le l12
    have podd := podd.le l12
    have lq := lq.trans l12
    clear hm12 hpD l12 lv l5 lm eN4 eH4
    walk_at "r"
    dsimp only [List.set]
    refine cut_by (fun δ m'' => Mm m' pN pH NN HH m'' ∧ ∃ (pB : Addr) (odd : SV) (rest : List SV) (b9 b10 b12 b15 : Option SV), m'' pB = some (.lst ((NN.take at_).map NR.sv ++ odd :: rest)) ∧ DD m'' odd ∧ canNt odd R.length (lastB (NN.take at_)) = false ∧ δ = [some (.lst (ns.map .int)), some (.ref b), some x, some (PV R), some (.ref pN), some (.ref pH), some (.int fa), some (.int at_), some (.tup ([(R.length : Int) - 1, 3, 7, 300].map .int)), b9, b10, some (.ref pB), b12, a11, a12, b15, a14, a15]) ?_ (fun δ m4 hJ => ?_)
    · walk_at "r"
      refine ⟨by walk_at "len", fun p9 hp9 => ?_⟩
      generalize hm13 : up m12 p9 _ = m13
      obtain ⟨e9, l13⟩ := nw hp9 hm13
      have lq := lq.trans l13
      have eD := l13 _ _ eD
      have eB := l13 _ _ eB
      have dodd := dodd.le l13
      have podd := podd.le l13
      have eN := l13 _ _ eN
      have eH := l13 _ _ eH
      walk_at "r"
      refine ⟨R, pD, .ref p9, .int (-1), rfl, ok, lq _ _ hT10, fun lw f1 f2 mw lmw zl z1 z2 n12 elw ef1 ef2 => ?_⟩
      walk_at "r"
      repeat (refine ⟨by walk_at "len", ?_⟩; walk_at "r")
      intro base'
      have nl1 : lw ≠ f1 := fun e => by rw [e, ef1] at elw; cases elw
      have nl2 : lw ≠ f2 := fun e => by rw [e, ef2] at elw; cases elw
      have hbw : ∀ m2, Le m13 m2 → BadW K R m2 pD (.ref p9) (.int (-1)) (nX K "BadNotices" (at_ : Int)) := fun m2 l => .inl ⟨NN.take at_, odd, rest, l _ _ eD, ntok_take noN at_, dodd.le l, .inr hcan, by rw [List.length_take, Nat.min_eq_left (by omega)]⟩
      refine ⟨_, .esc ef1 (.esc ((up_ne (Ne.symm n12)).trans ef2) (.refl _)), ?_⟩
      refine ⟨lw, [f1, f2], at_, rfl, by rw [up_ne nl2, up_ne nl1]; exact elw, fun f hf => ?_, by simp, ?_⟩
      · simp only [List.mem_cons, List.not_mem_nil, or_false] at hf
        rcases hf with rfl | rfl
        · exact ⟨exW K R pD (.ref p9) (.int (-1)), by rw [up_ne n12]; exact up_same, fun m2 SX S2 l h => ⟨_, hbw m2 (((lmw.over z1).over z2).trans l), h⟩⟩
        · exact ⟨exW K R pD (.ref p9) (.int (-1)), up_same, fun m2 SX S2 l h => ⟨_, hbw m2 (((lmw.over z1).over z2).trans l), h⟩⟩
      generalize hmZ : up (up mw f1 _) f2 _ = mZ
      have L : Le m13 mZ := by rw [← hmZ]; exact (lmw.over z1).over z2
      clear hmZ
      walk_at "r"
      walk_at "f"
      walk_at "r"
      obtain ⟨ds, q1, q2, q3⟩ := pdns (n := 2) (m := mZ) (xs := (NN.take at_).map NR.sv ++ odd :: rest) (fun y hy => by
        rcases List.mem_append.mp hy with hy | hy
        · obtain ⟨z, _, rfl⟩ := List.mem_map.mp hy
          exact nr_pdn z
        · rcases List.mem_cons.mp hy with rfl | hy
          · exact podd.le L
          · rcases List.mem_append.mp (hmem y hy) with hy | hy
            · obtain ⟨z, _, rfl⟩ := List.mem_map.mp hy
              exact nr_pdn z
            · obtain ⟨l, hl, hy⟩ := List.mem_flatten.mp hy
              rw [(List.mem_replicate.mp hl).2] at hy
              obtain rfl := List.mem_singleton.mp hy
              exact pdn_non)
      have qs := (shp_list q3).1
      refine ⟨.list ds, .list ds, .ref (L _ _ eD) q1, .ref (L _ _ eB) q1, shp_ok qs (by decide), shp_ok qs (by decide), ?_⟩
      rw [eqv_refl (.list ds) q2]
      walk_at "r"
      walk_at "f"
      walk_at "r"
      exact .of ⟨⟨lq.trans L, L _ _ eN, L _ _ eH⟩, pB, odd, rest, _, _, _, _, L _ _ eB, dodd.le L, hcan, rfl⟩
    obtain ⟨⟨lm, eN, eH⟩, pB, odd, rest, b9, b10, b12, b15, eB, dodd, hcan, rfl⟩ := hJ
    walk_at "r"
    refine cut_by (fun δ m'' => Mm m' pN pH NN HH m'' ∧ ∃ (c9 c10 c11 c12 c13 c15 : Option SV), δ = [some (.lst (ns.map .int)), some (.ref b), some x, some (PV R), some (.ref pN), some (.ref pH), some (.int fa), some (.int at_), some (.tup ([(R.length : Int) - 1, 3, 7, 300].map .int)), c9, c10, c11, c12, c13, a12, c15, a14, a15]) ?_ (fun δ m5 hJ => ?_)
    · walk_at "r"
      refine ⟨lm _ _ hT20, fun f hf => ?_⟩
      generalize hm6 : up m4 f _ = m6
      obtain ⟨ef, l6⟩ := nw hf hm6
      walk_at "r"
      refine ⟨by walk_at "len", fun la hla => ?_⟩
      generalize hm7 : up m6 la _ = m7
      obtain ⟨ela, l7⟩ := nw hla hm7
      have ef := l7 _ _ ef
      have nlf : la ≠ f := fun e => by rw [e, ef] at ela; cases ela
      have zf : m4 f = none := hf
      walk_at "r"
      repeat (refine ⟨by walk_at "len", ?_⟩; walk_at "r")
      intro base'
      refine ⟨_, .lam (.step (f := f) (exT K R pB (NN.take at_) odd rest) ef ?_ (.refl _)) (.refl _), ?_⟩
      · intro σ F H1 f c0 dV sr grd hf1 hc1 _ hd
        obtain rfl := hd
        refine act_core (k := 8) (fr := ["_law_rules_here", "_law_bad"]) (N := ["_law_rules_here", "_law_bad"]) (ps := []) (vs := []) (svs := []) (ws := [3, 11].map (NdefX.slotAt σ)) (ds := [some (PV R), some (.ref pB)]) (Z := fun _ => True) (NdefX.nscope_by ?nm) rfl (fun _ => .nil) (fun doc pm ctv s H hok hZ => ?bd)
          (grd.2 _ _ [3, 11] (NdefX.Caps.made grd.1 (NdefX.ndef_free (sc := defScope s_law) (fr := ["_law_rules_here", "_law_bad"]) (by decide +kernel)) (NdefX.ndef_fr (sc := defScope s_law) (fr := ["_law_rules_here", "_law_bad"]) (by decide +kernel)) rfl)) (wr_of sr [3, 11]) hf1 hc1 trivial (fun A2 outer2 sh2 H2 E2 hr => ⟨_, _, ge_call (okB_written (P := P) (w := w) (base := base') T) (hr.mono (by decide)) (by rfl) T.g_written T.k_written (Hn.b_written T) .nil (fun _ => .nil) passN (ga_cons (gv 0) (ga_cons (gv 1) ga_nil)), fun m SX Sv h => ?_⟩)
        case nm => kernel_rfl
        case bd => exact ⟨[], .nil, .of_eq rfl⟩
        walk_at "r"
        exact ⟨R, pB, NN.take at_, odd, rest, rfl, ok, h.1, ntok_take noN at_, h.2.1, .inr hcan, .of (h.2.2 m (.refl m))⟩
      have L0 : ∀ o, Le m4 (up m7 f o) := fun o => (l6.trans l7).over zf
      refine ⟨la, [f], at_, rfl, by rw [up_ne nlf]; exact ela, fun f' hf' => ?_, by simp, ?_⟩
      · obtain rfl := List.mem_singleton.mp hf'
        exact ⟨exT K R pB (NN.take at_) odd rest, up_same, fun m2 SX S2 l h => ⟨((L0 _).trans l) _ _ eB, dodd.le ((L0 _).trans l), by rw [List.length_take, Nat.min_eq_left (by omega)]; exact h⟩⟩
      generalize hmZ : up m7 f _ = mZ
      have L : Le m4 mZ := by rw [← hmZ]; exact L0 _
      clear hmZ
      walk_at "r"
      walk_at "f"
      exact .of ⟨⟨lm.trans L, L _ _ eN, L _ _ eH⟩, _, _, _, _, _, _, rfl⟩
    obtain ⟨⟨lm, eN, eH⟩, c9, c10, c11, c12, c13, c15, rfl⟩ := hJ
    walk_at "r"
    repeat (refine ⟨by walk_at "len", ?_⟩; walk_at "r")
    intro p1 hp1
    generalize hm6 : up m5 p1 _ = m6
    obtain ⟨e1, l6⟩ := nw hp1 hm6
    walk_at "r"
    refine ⟨bx.le (lm.trans l6), small (by decide) (by decide), fun k3 k30 k31 => ?_⟩
    walk_at "r"
    refine ⟨_, e1, ⟨by omega, by omega, line_le (by show 1 * (30 + k3).toNat ≤ _; omega)⟩, fun p2 hp2 => ?_⟩
    generalize hm7 : up m6 p2 _ = m7
    obtain ⟨e2, l7⟩ := nw hp2 hm7
    walk_at "r"
    repeat (refine ⟨by walk_at "len", ?_⟩; walk_at "r")
    intro p3 hp3
    generalize hm8 : up m7 p3 _ = m8
    obtain ⟨e3, l8⟩ := nw hp3 hm8
    have e2 := l8 _ _ e2
    walk_at "r"
    refine ⟨_, _, e2, e3, line_le (by simp; omega), fun pG hpG => ?_⟩
    generalize hm9 : up m8 pG _ = m9
    obtain ⟨eG, l9⟩ := nw hpG hm9
    obtain ⟨odd, rest, hgr, dodd⟩ := great_ok (n := (30 + k3).toNat) (by omega)
    rw [hgr] at eG
    have lv := ((l6.trans l7).trans l8).trans l9
    have lq := lm.trans lv
    have eN := lv _ _ eN
    have eH := lv _ _ eH
    clear hm6 hm7 hm8 hm9 l6 l7 l8 l9 hp1 hp2 hp3 hpG e1 e2 e3 hgr
    walk_at "r"
    dsimp only [List.set]
    refine cut_by (fun δ m'' => Mm m' pN pH NN HH m'' ∧ ∃ (c9 c10 c11 c12 c13 c15 : Option SV), δ = [some (.lst (ns.map .int)), some (.ref b), some x, some (PV R), some (.ref pN), some (.ref pH), some (.int fa), some (.int at_), some (.tup ([(R.length : Int) - 1, 3, 7, 300].map .int)), c9, c10, c11, c12, c13, a12, c15, a14, a15]) ?_ (fun δ m10 hJ => ?_)
    · walk_at "r"
      refine ⟨by walk_at "len", fun p9 hp9 => ?_⟩
      generalize hm13 : up m9 p9 _ = m13
      obtain ⟨e9, l13⟩ := nw hp9 hm13
      have lq := lq.trans l13
      have eG := l13 _ _ eG
      have eN := l13 _ _ eN
      have eH := l13 _ _ eH
      walk_at "r"
      refine ⟨R, pG, .ref p9, .int (-1), rfl, ok, lq _ _ hT10, fun lw f1 f2 mw lmw zl z1 z2 n12 elw ef1 ef2 => ?_⟩
      walk_at "r"
      repeat (refine ⟨by walk_at "len", ?_⟩; walk_at "r")
      intro base'
      have nl1 : lw ≠ f1 := fun e => by rw [e, ef1] at elw; cases elw
      have nl2 : lw ≠ f2 := fun e => by rw [e, ef2] at elw; cases elw
      have hbw : ∀ m2, Le m13 m2 → BadW K R m2 pG (.ref p9) (.int (-1)) (nX K "BadNotices" 30) := fun m2 l => .inl ⟨List.replicate 30 ⟨0, 0, 0, 5⟩, odd, rest, l _ _ eG, ntok30 (by omega), dodd m2, .inl List.length_replicate, by rw [List.length_replicate]; rfl⟩
      refine ⟨_, .esc ef1 (.esc ((up_ne (Ne.symm n12)).trans ef2) (.refl _)), ?_⟩
      refine ⟨lw, [f1, f2], 30, rfl, by rw [up_ne nl2, up_ne nl1]; exact elw, fun f hf => ?_, by simp, ?_⟩
      · simp only [List.mem_cons, List.not_mem_nil, or_false] at hf
        rcases hf with rfl | rfl
        · exact ⟨exW K R pG (.ref p9) (.int (-1)), by rw [up_ne n12]; exact up_same, fun m2 SX S2 l h => ⟨_, hbw m2 (((lmw.over z1).over z2).trans l), h⟩⟩
        · exact ⟨exW K R pG (.ref p9) (.int (-1)), up_same, fun m2 SX S2 l h => ⟨_, hbw m2 (((lmw.over z1).over z2).trans l), h⟩⟩
      generalize hmZ : up (up mw f1 _) f2 _ = mZ
      have L : Le m13 mZ := by rw [← hmZ]; exact (lmw.over z1).over z2
      clear hmZ
      walk_at "r"
      walk_at "f"
      exact .of ⟨⟨lq.trans L, L _ _ eN, L _ _ eH⟩, _, _, _, _, _, _, rfl⟩
    obtain ⟨⟨lm, eN, eH⟩, c9, c10, c11, c12, c13, c15, rfl⟩ := hJ
    clear lv lq dodd eG
    walk_at "r"
    refine ⟨by walk_at "len", fun p1 hp1 => ?_⟩
    generalize hm6 : up m10 p1 _ = m6
    obtain ⟨e1, l6⟩ := nw hp1 hm6
    have eN := l6 _ _ eN
    walk_at "r"
    refine ⟨_, _, eN, e1, line_le (by rw [List.length_map]; show _ + 1 ≤ _; omega), fun pM hpM => ?_⟩
    generalize hm7 : up m6 pM _ = m7
    obtain ⟨eM, l7⟩ := nw hpM hm7
    have eH := l7 _ _ (l6 _ _ eH)
    have lq := (lm.trans l6).trans l7
    obtain ⟨N', hN', hlN⟩ : ∃ N' : List NR, N' = NN ++ [⟨(R.length : Int) - 1, 3, 7, 300⟩] ∧ N'.length = NN.length + 1 := ⟨_, rfl, by rw [List.length_append]; rfl⟩
    have no' : NtOk R N' := by
      rw [hN']
      exact ntok_snoc noN (by omega) ⟨⟨by show (0 : Int) ≤ (R.length : Int) - 1; omega, by show (R.length : Int) - 1 < R.length; omega⟩, ⟨by show (0 : Int) ≤ 3; decide, by show (3 : Int) ≤ 3; decide⟩, ⟨by show (0 : Int) ≤ 7; decide, by show (7 : Int) ≤ 7; decide⟩, ⟨by show (0 : Int) ≤ 300; decide, by show (300 : Int) ≤ 300; decide⟩⟩ fun y hy => (noN.all y hy).2.2.2.2
    have ho' : HrOk R N' HH := hrok_more hoH (by omega)
    have eM : m7 pM = some (.lst (N'.map NR.sv)) := by rw [hN', List.map_append]; exact eM
    clear hN' hm6 hm7 e1 l6 l7 eN hp1 hpM lm
    walk_at "r"
    refine ⟨_, rfl, ?_⟩
    walk_at "r"
    refine ⟨_, eM, ?_⟩
    walk_at "r"
    repeat (refine ⟨by walk_at "len", ?_⟩; walk_at "r")
    rw [List.length_map, List.length_map]
    refine ⟨_, eH, ?_⟩
    walk_at "r"
    rw [List.length_map]
    refine ⟨bx.le lq, small (by omega) (by omega), fun at2 u0 u1 => ?_⟩
    obtain ⟨at2, rfl⟩ : ∃ k : Nat, at2 = (k : Int) := ⟨at2.toNat, by omega⟩
    walk_at "r"
    dsimp only [List.set]
    refine cut_by (fun δ m'' => Mm m' pM pH N' HH m'' ∧ ∃ (pB : Addr) (odd : SV) (rest : List SV) (b8 b9 b10 b12 b13 b15 : Option SV), m'' pB = some (.lst ((HH.take at2).map hrS ++ odd :: rest)) ∧ DD m'' odd ∧ canHr odd R.length N'.length (lastH (HH.take at2)) = false ∧ δ = [some (.lst (ns.map .int)), some (.ref b), some x, some (PV R), some (.ref pM), some (.ref pH), some (.int fa), some (.int at2), b8, b9, b10, some (.ref pB), b12, b13, some (.tup ([600, (R.length : Int) - 1, (N'.length : Int) - 1].map .int)), b15, a14, a15]) ?_ (fun δ m11 hJ => ?_)
    · walk_at "r"
      refine ⟨_, eH, fun p1 hp1 => ?_⟩
      rw [cut_to, ← List.map_take]
      generalize hm8 : up m7 p1 _ = m8
      obtain ⟨e1, l8⟩ := nw hp1 hm8
      have eM := l8 _ _ eM
      have eH := l8 _ _ eH
      have lq := lq.trans l8
      walk_at "r"
      refine ⟨_, eH, ?_⟩
      walk_at "r"
      rw [List.length_map]
      refine Br_i (fun h5 => ?_) (fun h5 => ?_)
      · have h6 : at2 < HH.length := by
          have h7 := of_decide_eq_true h5
          omega
        walk_at "r"
        refine ⟨_, _, eH, atI_nat (by rw [List.getElem?_map, List.getElem?_eq_getElem h6]; rfl), ?_⟩
        walk_at "r"
        refine ⟨b, [HH[at2].1, HH[at2].2.1, HH[at2].2.2], [600, (R.length : Int) - 1, (N'.length : Int) - 1], rfl, bx.le lq, rfl, by show 1 ≤ 3; decide, by show 3 ≤ 10; decide, fun odd m12 l12 dodd podd oodd => ?_⟩
        have hlo := lastH_nn (hrok_take ho' at2)
        have hcan := odd_hr oodd rfl hlo
        have e1 := l12 _ _ e1
        walk_at "r"
        refine ⟨by walk_at "len", fun p2 hp2 => ?_⟩
        generalize hm13 : up m12 p2 _ = m13
        obtain ⟨e2, l13⟩ := nw hp2 hm13
        have e1 := l13 _ _ e1
        walk_at "r"
        refine ⟨_, _, e1, e2, line_le (by rw [List.length_map, List.length_take]; show _ + 1 ≤ _; omega), fun p3 hp3 => ?_⟩
        generalize hm14 : up m13 p3 _ = m14
        obtain ⟨e3, l14⟩ := nw hp3 hm14
        walk_at "r"
        refine ⟨by walk_at "len", fun p4 hp4 => ?_⟩
        generalize hm15 : up m14 p4 _ = m15
        obtain ⟨e4, l15⟩ := nw hp4 hm15
        have e3 := l15 _ _ e3
        have lv := ((l12.trans l13).trans l14).trans l15
        walk_at "r"
        refine ⟨bx.le (lq.trans lv), small (by decide) (by decide), fun nn nn0 nn1 => ?_⟩
        walk_at "r"
        refine ⟨_, e4, ⟨by omega, by omega, line_le (by show 1 * nn.toNat ≤ _; omega)⟩, fun p5 hp5 => ?_⟩
        generalize hm16 : up m15 p5 _ = m16
        obtain ⟨e5, l16⟩ := nw hp5 hm16
        have e3 := l16 _ _ e3
        walk_at "r"
        refine ⟨_, _, e3, e5, line_le (by simp; omega), fun pB hpB => ?_⟩
        generalize hm17 : up m16 pB _ = m17
        obtain ⟨eB, l17⟩ := nw hpB hm17
        have lw := (((l13.trans l14).trans l15).trans l16).trans l17
        have lv := (lv.trans l16).trans l17
        rw [List.append_assoc] at eB
        walk_at "r"
        exact .of ⟨⟨lq.trans lv, lv _ _ eM, lv _ _ eH⟩, pB, odd, _, _, _, _, _, _, _, eB, dodd.le lw, hcan, rfl⟩
      · walk_at "r"
        refine ⟨b, [600, (R.length : Int) - 1, (N'.length : Int) - 1], [600, (R.length : Int) - 1, (N'.length : Int) - 1], rfl, bx.le lq, rfl, by show 1 ≤ 3; decide, by show 3 ≤ 10; decide, fun odd m12 l12 dodd podd oodd => ?_⟩
        have hlo := lastH_nn (hrok_take ho' at2)
        have hcan := odd_hr oodd rfl hlo
        have e1 := l12 _ _ e1
        walk_at "r"
        refine ⟨by walk_at "len", fun p2 hp2 => ?_⟩
        generalize hm13 : up m12 p2 _ = m13
        obtain ⟨e2, l13⟩ := nw hp2 hm13
        have e1 := l13 _ _ e1
        walk_at "r"
        refine ⟨_, _, e1, e2, line_le (by rw [List.length_map, List.length_take]; show _ + 1 ≤ _; omega), fun p3 hp3 => ?_⟩
        generalize hm14 : up m13 p3 _ = m14
        obtain ⟨e3, l14⟩ := nw hp3 hm14
        walk_at "r"
        refine ⟨by walk_at "len", fun p4 hp4 => ?_⟩
        generalize hm15 : up m14 p4 _ = m15
        obtain ⟨e4, l15⟩ := nw hp4 hm15
        have e3 := l15 _ _ e3
        have lv := ((l12.trans l13).trans l14).trans l15
        walk_at "r"
        refine ⟨bx.le (lq.trans lv), small (by decide) (by decide), fun nn nn0 nn1 => ?_⟩
        walk_at "r"
        refine ⟨_, e4, ⟨by omega, by omega, line_le (by show 1 * nn.toNat ≤ _; omega)⟩, fun p5 hp5 => ?_⟩
        generalize hm16 : up m15 p5 _ = m16
        obtain ⟨e5, l16⟩ := nw hp5 hm16
        have e3 := l16 _ _ e3
        walk_at "r"
        refine ⟨_, _, e3, e5, line_le (by simp; omega), fun pB hpB => ?_⟩
        generalize hm17 : up m16 pB _ = m17
        obtain ⟨eB, l17⟩ := nw hpB hm17
        have lw := (((l13.trans l14).trans l15).trans l16).trans l17
        have lv := (lv.trans l16).trans l17
        rw [List.append_assoc] at eB
        walk_at "r"
        exact .of ⟨⟨lq.trans lv, lv _ _ eM, lv _ _ eH⟩, pB, odd, _, _, _, _, _, _, _, eB, dodd.le lw, hcan, rfl⟩
    obtain ⟨⟨lm, eM, eH⟩, pB, odd, rest, b8, b9, b10, b12, b13, b15, eB, dodd, hcan, rfl⟩ := hJ
    clear lq
    have lr : Le m11 m11 := .refl _
    walk_at "r"
    refine cut_by (fun δ m'' => Mm m' pM pH N' HH m'' ∧ ∃ (b8 b9 b10 b11 b12 b13 b15 : Option SV), δ = [some (.lst (ns.map .int)), some (.ref b), some x, some (PV R), some (.ref pM), some (.ref pH), some (.int fa), some (.int at2), b8, b9, b10, b11, b12, b13, some (.tup ([600, (R.length : Int) - 1, (N'.length : Int) - 1].map .int)), b15, a14, a15]) ?_ (fun δ m12 hJ => ?_)
    · walk_at "r"
      refine ⟨R, pM, .ref pB, .int (-1), rfl, ok, lm _ _ hT10, fun lw f1 f2 mw lmw zl z1 z2 n12 elw ef1 ef2 => ?_⟩
      walk_at "r"
      repeat (refine ⟨by walk_at "len", ?_⟩; walk_at "r")
      intro base'
      have nl1 : lw ≠ f1 := fun e => by rw [e, ef1] at elw; cases elw
      have nl2 : lw ≠ f2 := fun e => by rw [e, ef2] at elw; cases elw
      have hbw : ∀ m2, Le m11 m2 → BadW K R m2 pM (.ref pB) (.int (-1)) (nX K "BadHears" (at2 : Int)) := fun m2 l => .inr (.inl ⟨N', HH.take at2, odd, rest, l _ _ eM, no', l _ _ eB, hrok_take ho' at2, ⟨"list", ⟨rfl, _, l _ _ eB⟩, rfl⟩, dodd.le l, .inr hcan, by rw [List.length_take, Nat.min_eq_left (by omega)]⟩)
      refine ⟨_, .esc ef1 (.esc ((up_ne (Ne.symm n12)).trans ef2) (.refl _)), ?_⟩
      refine ⟨lw, [f1, f2], at2, rfl, by rw [up_ne nl2, up_ne nl1]; exact elw, fun f hf => ?_, by simp, ?_⟩
      · simp only [List.mem_cons, List.not_mem_nil, or_false] at hf
        rcases hf with rfl | rfl
        · exact ⟨exW K R pM (.ref pB) (.int (-1)), by rw [up_ne n12]; exact up_same, fun m2 SX S2 l h => ⟨_, hbw m2 (((lmw.over z1).over z2).trans l), h⟩⟩
        · exact ⟨exW K R pM (.ref pB) (.int (-1)), up_same, fun m2 SX S2 l h => ⟨_, hbw m2 (((lmw.over z1).over z2).trans l), h⟩⟩
      generalize hmZ : up (up mw f1 _) f2 _ = mZ
      have L : Le m11 mZ := by rw [← hmZ]; exact (lmw.over z1).over z2
      clear hmZ
      walk_at "r"
      walk_at "f"
      exact .of ⟨⟨lm.trans L, L _ _ eM, L _ _ eH⟩, _, _, _, _, _, _, _, rfl⟩
    obtain ⟨⟨lm, eM, eH⟩, b8, b9, b10, b11, b12, b13, b15, rfl⟩ := hJ
    clear lr eB dodd hcan
    walk_at "r"
    repeat (refine ⟨by walk_at "len", ?_⟩; walk_at "r")
    intro p1 hp1
    generalize hm6 : up m12 p1 _ = m6
    obtain ⟨e1, l6⟩ := nw hp1 hm6
    walk_at "r"
    refine ⟨_, e1, ⟨by decide, by decide, line_le (by decide)⟩, fun p2 hp2 => ?_⟩
    rw [sixty]
    generalize hm7 : up m6 p2 _ = m8
    obtain ⟨e2, l7⟩ := nw hp2 hm7
    have lv := l6.trans l7
    have lq := lm.trans lv
    have eM := lv _ _ eM
    have eH := lv _ _ eH
    clear hm6 hm7 hp1 hp2 l6 l7 e1 lv lm
    walk_at "r"
    refine ⟨R, pM, .ref p2, .int (-1), rfl, ok, lq _ _ hT10, fun lw1 f11 f12 mw1 lmw1 zl1 z11 z12 n112 elw1 ef11 ef12 => ?_⟩
    walk_at "r"
    repeat (refine ⟨by walk_at "len", ?_⟩; walk_at "r")
    intro p3 hp3
    generalize hm9 : up mw1 p3 _ = m9
    obtain ⟨e3, l9⟩ := nw hp3 hm9
    have n11p : f11 ≠ p3 := mne ef11 hp3
    have n12p : f12 ≠ p3 := mne ef12 hp3
    have zp3 : m8 p3 = none := lmw1.none hp3
    have l89 := lmw1.trans l9
    have elw1 := l9 _ _ elw1
    have ef11 := l9 _ _ ef11
    have ef12 := l9 _ _ ef12
    walk_at "r"
    refine ⟨R, pM, .ref p3, .int 5, rfl, ok, (lq.trans l89) _ _ hT10, fun lw2 f21 f22 mw2 lmw2 zl2 z21 z22 n212 elw2 ef21 ef22 => ?_⟩
    obtain ⟨mb, hmb⟩ : ∃ mb, mb = up m8 p3 (.lst [.tup ([600, (R.length : Int) - 1, (N'.length : Int) - 1].map .int), .tup [.int 599, .int 0, .int 0]]) := ⟨_, rfl⟩
    have lb : Le mb mw2 := by rw [hmb]; exact le_has (l89.trans lmw2) (lmw2 _ _ e3)
    have y11 : mb f11 = none := by rw [hmb, up_ne n11p]; exact z11
    have y12 : mb f12 = none := by rw [hmb, up_ne n12p]; exact z12
    have y21 : mb f21 = none := by rw [hmb, up_ne (Ne.symm (mne e3 z21))]; exact l89.none z21
    have y22 : mb f22 = none := by rw [hmb, up_ne (Ne.symm (mne e3 z22))]; exact l89.none z22
    have n1121 := mne ef11 z21
    have n1122 := mne ef11 z22
    have n1221 := mne ef12 z21
    have n1222 := mne ef12 z22
    have elw1 := lmw2 _ _ elw1
    have ef11 := lmw2 _ _ ef11
    have ef12 := lmw2 _ _ ef12
    have lz8 : Le m8 mb := by rw [hmb]; exact .new (.refl _) zp3
    have e3 : mb p3 = some (.lst ([(600, (R.length : Int) - 1, (N'.length : Int) - 1)].map hrS ++ [SV.tup [.int 599, .int 0, .int 0]])) := by rw [hmb]; exact up_same
    clear hmb
    have eM := lz8 _ _ eM
    have eH := lz8 _ _ eH
    have e2 := lz8 _ _ e2
    have lq := lq.trans lz8
    clear lz8 zp3 hm9 l9 l89 lmw1 lmw2 z11 z12 z21 z22 hp3 zl1 zl2
    walk_at "r"
    dsimp only [List.set]
    refine cut_by (fun δ m'' => Mm m' pM pH N' HH m'' ∧ ∃ (b8 b9 b10 b11 b12 b13 b14 b15 b16 : Option SV), δ = [some (.lst (ns.map .int)), some (.ref b), some x, some (PV R), some (.ref pM), some (.ref pH), some (.int fa), some (.int at2), b8, b9, b10, b11, b12, b13, b14, b15, b16, a15]) ?_ (fun δ m14 hJ => ?_)
    · walk_at "r"
      have dd3 : ∀ (i j k : Int) (m : Mem), DD m (SV.tup [.int i, .int j, .int k]) := fun i j k m => .tup (.cons (.int _) (.cons (.int _) (.cons (.int _) .nil)))
      repeat (refine ⟨by walk_at "len", ?_⟩; walk_at "r")
      intro base'
      have nl1 : lw1 ≠ f11 := fun e => by rw [e, ef11] at elw1; cases elw1
      have nl2 : lw1 ≠ f12 := fun e => by rw [e, ef12] at elw1; cases elw1
      have hbw : ∀ m2, Le mb m2 → BadW K R m2 pM (.ref p2) (.int (-1)) (nX K "BadHears" 60) := fun m2 l => .inr (.inl ⟨N', List.replicate 60 (3, 0, 0), _, [], l _ _ eM, no', l _ _ e2, hr60 (by omega) (by omega), ⟨"list", ⟨rfl, _, l _ _ e2⟩, rfl⟩, dd3 3 0 0 m2, .inl List.length_replicate, by rw [List.length_replicate]; rfl⟩)
      refine ⟨_, .esc ef11 (.esc ((up_ne (Ne.symm n112)).trans ef12) (.refl _)), ?_⟩
      refine ⟨lw1, [f11, f12], 60, rfl, by rw [up_ne nl2, up_ne nl1]; exact elw1, fun f hf => ?_, by simp, ?_⟩
      · simp only [List.mem_cons, List.not_mem_nil, or_false] at hf
        rcases hf with rfl | rfl
        · exact ⟨exW K R pM (.ref p2) (.int (-1)), by rw [up_ne n112]; exact up_same, fun m2 SX S2 l h => ⟨_, hbw m2 (((lb.over y11).over y12).trans l), h⟩⟩
        · exact ⟨exW K R pM (.ref p2) (.int (-1)), up_same, fun m2 SX S2 l h => ⟨_, hbw m2 (((lb.over y11).over y12).trans l), h⟩⟩
      have q1 : lw2 ≠ f11 := fun e => by rw [e, ef11] at elw2; cases elw2
      have q2 : lw2 ≠ f12 := fun e => by rw [e, ef12] at elw2; cases elw2
      generalize hmZ : up (up mw2 f11 _) f12 _ = mZ1
      have lb1 : Le mb mZ1 := by rw [← hmZ]; exact (lb.over y11).over y12
      have elw2 : mZ1 lw2 = some (.lst [.ref f21, .ref f22]) := by rw [← hmZ, up_ne q2, up_ne q1]; exact elw2
      have ef21 : mZ1 f21 = some (.pred (EscC P w K mg 9 f21 (exW K R pM (.ref p3) (.int 5)))) := by rw [← hmZ, up_ne (Ne.symm n1221), up_ne (Ne.symm n1121)]; exact ef21
      have ef22 : mZ1 f22 = some (.pred (EscC P w K mg 9 f22 (exW K R pM (.ref p3) (.int 5)))) := by rw [← hmZ, up_ne (Ne.symm n1222), up_ne (Ne.symm n1122)]; exact ef22
      clear hmZ nl1 nl2 hbw
      walk_at "r"
      walk_at "f"
      walk_at "r"
      repeat (refine ⟨by walk_at "len", ?_⟩; walk_at "r")
      intro base'
      have nl1 : lw2 ≠ f21 := fun e => by rw [e, ef21] at elw2; cases elw2
      have nl2 : lw2 ≠ f22 := fun e => by rw [e, ef22] at elw2; cases elw2
      have hbw : ∀ m2, Le mb m2 → BadW K R m2 pM (.ref p3) (.int 5) (nX K "BadHears" 1) := fun m2 l => .inr (.inl ⟨N', [(600, (R.length : Int) - 1, (N'.length : Int) - 1)], _, [], l _ _ eM, no', l _ _ e3, hrTop (by omega) (by omega), ⟨"list", ⟨rfl, _, l _ _ e3⟩, rfl⟩, dd3 599 0 0 m2, .inr fall_ok, rfl⟩)
      refine ⟨_, .esc ef21 (.esc ((up_ne (Ne.symm n212)).trans ef22) (.refl _)), ?_⟩
      refine ⟨lw2, [f21, f22], 1, rfl, by rw [up_ne nl2, up_ne nl1]; exact elw2, fun f hf => ?_, by simp, ?_⟩
      · simp only [List.mem_cons, List.not_mem_nil, or_false] at hf
        rcases hf with rfl | rfl
        · exact ⟨exW K R pM (.ref p3) (.int 5), by rw [up_ne n212]; exact up_same, fun m2 SX S2 l h => ⟨_, hbw m2 (((lb1.over y21).over y22).trans l), h⟩⟩
        · exact ⟨exW K R pM (.ref p3) (.int 5), up_same, fun m2 SX S2 l h => ⟨_, hbw m2 (((lb1.over y21).over y22).trans l), h⟩⟩
      generalize hmZ : up (up mZ1 f21 _) f22 _ = mZ2
      have L : Le mb mZ2 := by rw [← hmZ]; exact (lb1.over y21).over y22
      clear hmZ
      walk_at "r"
      walk_at "f"
      exact .of ⟨⟨lq.trans L, L _ _ eM, L _ _ eH⟩, _, _, _, _, _, _, _, _, _, rfl⟩
    obtain ⟨⟨lm, eM, eH⟩, b8, b9, b10, b11, b12, b13, b14, b15, b16, rfl⟩ := hJ
    clear lq
    walk_at "r"
    repeat (refine ⟨by walk_at "len", ?_⟩; walk_at "r")
    intro p1 hp1
    generalize hm6 : up m14 p1 _ = m15
    obtain ⟨e1, l6⟩ := nw hp1 hm6
    have lq := lm.trans l6
    have eM := l6 _ _ eM
    have eH := l6 _ _ eH
    walk_at "r"
    refine ⟨bx.le lq, small (by decide) (by decide), fun j j0 j1 => ?_⟩
    obtain ⟨u, hu, hw, du⟩ := lim_ok f0 j0 j1
    walk_at "r"
    refine ⟨_, _, e1, hu, ?_⟩
    walk_at "r"
    refine ⟨_, eH, ?_⟩
    have lr : Le m15 m15 := .refl _
    walk_at "r"
    refine ⟨R, pM, .tup (HH.map hrS), u, rfl, ok, lq _ _ hT10, fun lw3 f31 f32 mw3 lmw3 zl3 y31 y32 n312 elw3 ef31 ef32 => ?_⟩
    walk_at "r"
    repeat (refine ⟨by walk_at "len", ?_⟩; walk_at "r")
    intro base'
    have nl1 : lw3 ≠ f31 := fun e => by rw [e, ef31] at elw3; cases elw3
    have nl2 : lw3 ≠ f32 := fun e => by rw [e, ef32] at elw3; cases elw3
    have hbw : ∀ m2, Le m15 m2 → BadW K R m2 pM (.tup (HH.map hrS)) (u) ⟨He.ga K "BadMoment", none⟩ := fun m2 l => .inr (.inr ⟨N', HH, l _ _ eM, no', rfl, ho', ⟨"tuple", rfl, rfl⟩, du m2, hw, rfl⟩)
    refine ⟨_, .esc ef31 (.esc ((up_ne (Ne.symm n312)).trans ef32) (.refl _)), ?_⟩
    refine ⟨lw3, [f31, f32], rfl, by rw [up_ne nl2, up_ne nl1]; exact elw3, fun f hf => ?_, by simp, ?_⟩
    · simp only [List.mem_cons, List.not_mem_nil, or_false] at hf
      rcases hf with rfl | rfl
      · exact ⟨exW K R pM (.tup (HH.map hrS)) (u), by rw [up_ne n312]; exact up_same, fun m2 SX S2 l h => ⟨_, hbw m2 (((lmw3.over y31).over y32).trans l), h⟩⟩
      · exact ⟨exW K R pM (.tup (HH.map hrS)) (u), up_same, fun m2 SX S2 l h => ⟨_, hbw m2 (((lmw3.over y31).over y32).trans l), h⟩⟩
    generalize hmZ : up (up mw3 f31 _) f32 _ = mZ3
    have L : Le m15 mZ3 := by rw [← hmZ]; exact (lmw3.over y31).over y32
    clear hmZ
    walk_at "r"
    walk_at "f"
    walk_at "r"
    walk_at "f"
    walk_at "r"
    exact ⟨m', lq.trans L, rfl, _, _, _, _, _, _, _, _, _, _, _, _, _, _, _, _, rfl⟩
  · obtain ⟨rfl, a0, a1, a2, a3, a4, a5, a6, a7, a8, a9, a10, a11, a12, a13, a14, a15, rfl⟩ := h
    refine ⟨trivial, ?_⟩
    walk_at "r"
    exact .of (q _)
end
end Hn

set_option Elab.async false
set_option linter.all false
set_option maxRecDepth 100000
set_option maxHeartbeats 0
namespace Hn
open PySem PySem.Spec PyProof.Rows L2 Sy
theorem tx_of {w : World} {h : Heap} {K : PySem.W.Frag} {mg : Str → Option Value} (X : K.In h) (G : h.Ns mainGlobals mg) (c : He.SaysX fa fn [] tf exb w h K) : Nonempty (Tx K mg) := by
  obtain ⟨f0, F0⟩ := c.t.d.def_ 0 (d := d_is_number) rfl
  obtain ⟨f1, F1⟩ := c.t.d.def_ 1 (d := d_is_whole) rfl
  obtain ⟨f2, F2⟩ := c.t.d.def_ 2 (d := d_is_tuple_of) rfl
  obtain ⟨f3, F3⟩ := c.t.d.def_ 3 (d := d_is_tuple_up_to) rfl
  obtain ⟨f4, F4⟩ := c.t.d.def_ 4 (d := d_is_stretch) rfl
  obtain ⟨f5, F5⟩ := c.t.d.def_ 5 (d := d_can_be_hushed) rfl
  obtain ⟨f6, F6⟩ := c.t.d.def_ 6 (d := d_can_be_gather) rfl
  obtain ⟨f7, F7⟩ := c.t.d.def_ 7 (d := d_first_bad_part) rfl
  obtain ⟨f8, F8⟩ := c.t.d.def_ 8 (d := d_refuse_bad_rules) rfl
  obtain ⟨f9, F9⟩ := c.t.d.def_ 9 (d := d_refuse_bad_moment) rfl
  obtain ⟨f10, F10⟩ := c.t.d.def_ 10 (d := d_can_be_notice) rfl
  obtain ⟨f11, F11⟩ := c.t.d.def_ 11 (d := d_refuse_bad_notices) rfl
  obtain ⟨f12, F12⟩ := c.t.d.def_ 12 (d := d_can_be_hear) rfl
  obtain ⟨f13, F13⟩ := c.t.d.def_ 13 (d := d_refuse_bad_hears) rfl
  obtain ⟨f14, F14⟩ := c.t.d.def_ 14 (d := d_is_in_stretch) rfl
  obtain ⟨f15, F15⟩ := c.t.d.def_ 15 (d := d_hushed_hours) rfl
  obtain ⟨f16, F16⟩ := c.t.d.def_ 16 (d := d_first_free) rfl
  obtain ⟨f17, F17⟩ := c.t.d.def_ 17 (d := d_judged_course) rfl
  obtain ⟨f18, F18⟩ := c.t.d.def_ 18 (d := d_walked) rfl
  obtain ⟨f19, F19⟩ := c.t.d.def_ 19 (d := d_wheeled) rfl
  obtain ⟨f20, F20⟩ := c.t.d.def_ 20 (d := d_row_of) rfl
  obtain ⟨f21, F21⟩ := c.t.d.def_ 21 (d := d_written) rfl
  obtain ⟨f22, F22⟩ := c.t.d.def_ 22 (d := d_law_begun) rfl
  obtain ⟨f23, F23⟩ := c.t.d.def_ 23 (d := d_law_take) rfl
  obtain ⟨f24, F24⟩ := c.t.d.def_ 24 (d := d_law_alike) rfl
  obtain ⟨f25, F25⟩ := c.t.d.def_ 25 (d := d_law_told) rfl
  obtain ⟨f26, F26⟩ := c.t.d.def_ 26 (d := d_law_all) rfl
  obtain ⟨f27, F27⟩ := c.t.d.def_ 27 (d := d_law_stretches) rfl
  obtain ⟨f28, F28⟩ := c.t.d.def_ 28 (d := d_law_rule) rfl
  obtain ⟨f29, F29⟩ := c.t.d.def_ 29 (d := d_law_rules) rfl
  obtain ⟨f30, F30⟩ := c.t.d.def_ 30 (d := d_law_notices) rfl
  obtain ⟨f31, F31⟩ := c.t.d.def_ 31 (d := d_law_hears) rfl
  obtain ⟨f32, F32⟩ := c.t.d.def_ 32 (d := d_law_odd) rfl
  obtain ⟨f33, F33⟩ := c.t.d.def_ 33 (d := d_law_works) rfl
  obtain ⟨f34, F34⟩ := c.t.d.def_ 34 (d := d_law) rfl
  obtain ⟨f35, F35⟩ := c.t.d.def_ 35 (d := d_Person___init__) rfl
  obtain ⟨f36, F36⟩ := c.t.d.def_ 36 (d := d_Person_lets_by) rfl
  obtain ⟨f37, F37⟩ := c.t.d.def_ 37 (d := d_Notice___init__) rfl
  obtain ⟨f38, F38⟩ := c.t.d.def_ 38 (d := d_Notice_fate) rfl
  obtain ⟨f39, F39⟩ := c.t.d.def_ 39 (d := d_Course___init__) rfl
  obtain ⟨f40, F40⟩ := c.t.d.def_ 40 (d := d_Course_pass_moment) rfl
  obtain ⟨f41, F41⟩ := c.t.d.def_ 41 (d := d_Course_take_hears) rfl
  obtain ⟨f42, F42⟩ := c.t.d.def_ 42 (d := d_Course_shut_heaps) rfl
  obtain ⟨f43, F43⟩ := c.t.d.def_ 43 (d := d_Course_send_on) rfl
  obtain ⟨f44, F44⟩ := c.t.d.def_ 44 (d := d_Course_bring) rfl
  obtain ⟨f45, F45⟩ := c.t.d.def_ 45 (d := d_Course_tell_ready) rfl
  obtain ⟨f46, F46⟩ := c.t.d.def_ 46 (d := d_Course_tell) rfl
  obtain ⟨f47, F47⟩ := c.t.d.def_ 47 (d := d_Course_next_moment) rfl
  obtain ⟨f48, F48⟩ := c.t.d.def_ 48 (d := d_Course_outcome) rfl
  exact ⟨{
    fd_Person___init__ := f35
    F_Person___init__ := F35
    fd_Person_lets_by := f36
    F_Person_lets_by := F36
    fd_Notice___init__ := f37
    F_Notice___init__ := F37
    fd_Notice_fate := f38
    F_Notice_fate := F38
    fd_Course___init__ := f39
    F_Course___init__ := F39
    fd_Course_pass_moment := f40
    F_Course_pass_moment := F40
    fd_Course_take_hears := f41
    F_Course_take_hears := F41
    fd_Course_shut_heaps := f42
    F_Course_shut_heaps := F42
    fd_Course_send_on := f43
    F_Course_send_on := F43
    fd_Course_bring := f44
    F_Course_bring := F44
    fd_Course_tell_ready := f45
    F_Course_tell_ready := F45
    fd_Course_tell := f46
    F_Course_tell := F46
    fd_Course_next_moment := f47
    F_Course_next_moment := F47
    fd_Course_outcome := f48
    F_Course_outcome := F48
    c_Person := He.cls_ok (c.t.d.fact 129 (f := .cls "Person") rfl)
    mk_Person := He.mkr_ok (c.t.d.fact 130 (f := .mkr "Person") rfl)
    n_Person_hours := He.noat_ok (c.t.d.fact 131 (f := .noat "Person" "hours") rfl)
    n_Person_spans := He.noat_ok (c.t.d.fact 132 (f := .noat "Person" "spans") rfl)
    n_Person_least := He.noat_ok (c.t.d.fact 133 (f := .noat "Person" "least") rfl)
    n_Person_wait := He.noat_ok (c.t.d.fact 134 (f := .noat "Person" "wait") rfl)
    n_Person_further := He.noat_ok (c.t.d.fact 135 (f := .noat "Person" "further") rfl)
    M_Person___init__ := He.meth_ok (c.t.d.fact 136 (f := .meth "Person" "__init__") rfl)
    M_Person_lets_by := He.meth_ok (c.t.d.fact 137 (f := .meth "Person" "lets_by") rfl)
    c_Notice := He.cls_ok (c.t.d.fact 138 (f := .cls "Notice") rfl)
    mk_Notice := He.mkr_ok (c.t.d.fact 139 (f := .mkr "Notice") rfl)
    n_Notice_number := He.noat_ok (c.t.d.fact 140 (f := .noat "Notice" "number") rfl)
    n_Notice_went := He.noat_ok (c.t.d.fact 141 (f := .noat "Notice" "went") rfl)
    n_Notice_told := He.noat_ok (c.t.d.fact 142 (f := .noat "Notice" "told") rfl)
    n_Notice_goes_on := He.noat_ok (c.t.d.fact 143 (f := .noat "Notice" "goes_on") rfl)
    n_Notice_heard := He.noat_ok (c.t.d.fact 144 (f := .noat "Notice" "heard") rfl)
    n_Notice_given_up := He.noat_ok (c.t.d.fact 145 (f := .noat "Notice" "given_up") rfl)
    n_Notice_first := He.noat_ok (c.t.d.fact 146 (f := .noat "Notice" "first") rfl)
    n_Notice_rank := He.noat_ok (c.t.d.fact 147 (f := .noat "Notice" "rank") rfl)
    n_Notice_kind := He.noat_ok (c.t.d.fact 148 (f := .noat "Notice" "kind") rfl)
    n_Notice_born := He.noat_ok (c.t.d.fact 149 (f := .noat "Notice" "born") rfl)
    M_Notice___init__ := He.meth_ok (c.t.d.fact 150 (f := .meth "Notice" "__init__") rfl)
    M_Notice_fate := He.meth_ok (c.t.d.fact 151 (f := .meth "Notice" "fate") rfl)
    c_Course := He.cls_ok (c.t.d.fact 152 (f := .cls "Course") rfl)
    mk_Course := He.mkr_ok (c.t.d.fact 153 (f := .mkr "Course") rfl)
    n_Course_persons := He.noat_ok (c.t.d.fact 154 (f := .noat "Course" "persons") rfl)
    n_Course_notices := He.noat_ok (c.t.d.fact 155 (f := .noat "Course" "notices") rfl)
    n_Course_hears := He.noat_ok (c.t.d.fact 156 (f := .noat "Course" "hears") rfl)
    n_Course_heaps := He.noat_ok (c.t.d.fact 157 (f := .noat "Course" "heaps") rfl)
    n_Course_ready := He.noat_ok (c.t.d.fact 158 (f := .noat "Course" "ready") rfl)
    n_Course_rows := He.noat_ok (c.t.d.fact 159 (f := .noat "Course" "rows") rfl)
    M_Course___init__ := He.meth_ok (c.t.d.fact 160 (f := .meth "Course" "__init__") rfl)
    M_Course_pass_moment := He.meth_ok (c.t.d.fact 161 (f := .meth "Course" "pass_moment") rfl)
    M_Course_take_hears := He.meth_ok (c.t.d.fact 162 (f := .meth "Course" "take_hears") rfl)
    M_Course_shut_heaps := He.meth_ok (c.t.d.fact 163 (f := .meth "Course" "shut_heaps") rfl)
    M_Course_send_on := He.meth_ok (c.t.d.fact 164 (f := .meth "Course" "send_on") rfl)
    M_Course_bring := He.meth_ok (c.t.d.fact 165 (f := .meth "Course" "bring") rfl)
    M_Course_tell_ready := He.meth_ok (c.t.d.fact 166 (f := .meth "Course" "tell_ready") rfl)
    M_Course_tell := He.meth_ok (c.t.d.fact 167 (f := .meth "Course" "tell") rfl)
    M_Course_next_moment := He.meth_ok (c.t.d.fact 168 (f := .meth "Course" "next_moment") rfl)
    M_Course_outcome := He.meth_ok (c.t.d.fact 169 (f := .meth "Course" "outcome") rfl)
    fd_is_number := f0
    F_is_number := F0
    fd_is_whole := f1
    F_is_whole := F1
    fd_is_tuple_of := f2
    F_is_tuple_of := F2
    fd_is_tuple_up_to := f3
    F_is_tuple_up_to := F3
    fd_is_stretch := f4
    F_is_stretch := F4
    fd_can_be_hushed := f5
    F_can_be_hushed := F5
    fd_can_be_gather := f6
    F_can_be_gather := F6
    fd_first_bad_part := f7
    F_first_bad_part := F7
    fd_refuse_bad_rules := f8
    F_refuse_bad_rules := F8
    fd_refuse_bad_moment := f9
    F_refuse_bad_moment := F9
    fd_can_be_notice := f10
    F_can_be_notice := F10
    fd_refuse_bad_notices := f11
    F_refuse_bad_notices := F11
    fd_can_be_hear := f12
    F_can_be_hear := F12
    fd_refuse_bad_hears := f13
    F_refuse_bad_hears := F13
    fd_is_in_stretch := f14
    F_is_in_stretch := F14
    fd_hushed_hours := f15
    F_hushed_hours := F15
    fd_first_free := f16
    F_first_free := F16
    fd_judged_course := f17
    F_judged_course := F17
    fd_walked := f18
    F_walked := F18
    fd_wheeled := f19
    F_wheeled := F19
    fd_row_of := f20
    F_row_of := F20
    fd_written := f21
    F_written := F21
    fd__law_begun := f22
    F__law_begun := F22
    fd__law_take := f23
    F__law_take := F23
    fd__law_alike := f24
    F__law_alike := F24
    fd__law_told := f25
    F__law_told := F25
    fd__law_all := f26
    F__law_all := F26
    fd__law_stretches := f27
    F__law_stretches := F27
    fd__law_rule := f28
    F__law_rule := F28
    fd__law_rules := f29
    F__law_rules := F29
    fd__law_notices := f30
    F__law_notices := F30
    fd__law_hears := f31
    F__law_hears := F31
    fd__law_odd := f32
    F__law_odd := F32
    fd__law_works := f33
    F__law_works := F33
    fd_law := f34
    F_law := F34
    g_is_number := He.glo_ok X G (c.t.d.fact 0 (f := .glo "is_number") rfl)
    k_is_number := F0.kp
    g_is_whole := He.glo_ok X G (c.t.d.fact 1 (f := .glo "is_whole") rfl)
    k_is_whole := F1.kp
    g_is_tuple_of := He.glo_ok X G (c.t.d.fact 2 (f := .glo "is_tuple_of") rfl)
    k_is_tuple_of := F2.kp
    g_is_tuple_up_to := He.glo_ok X G (c.t.d.fact 3 (f := .glo "is_tuple_up_to") rfl)
    k_is_tuple_up_to := F3.kp
    g_is_stretch := He.glo_ok X G (c.t.d.fact 4 (f := .glo "is_stretch") rfl)
    k_is_stretch := F4.kp
    g_can_be_hushed := He.glo_ok X G (c.t.d.fact 5 (f := .glo "can_be_hushed") rfl)
    k_can_be_hushed := F5.kp
    g_can_be_gather := He.glo_ok X G (c.t.d.fact 6 (f := .glo "can_be_gather") rfl)
    k_can_be_gather := F6.kp
    g_first_bad_part := He.glo_ok X G (c.t.d.fact 7 (f := .glo "first_bad_part") rfl)
    k_first_bad_part := F7.kp
    g_refuse_bad_rules := He.glo_ok X G (c.t.d.fact 8 (f := .glo "refuse_bad_rules") rfl)
    k_refuse_bad_rules := F8.kp
    g_refuse_bad_moment := He.glo_ok X G (c.t.d.fact 9 (f := .glo "refuse_bad_moment") rfl)
    k_refuse_bad_moment := F9.kp
    g_can_be_notice := He.glo_ok X G (c.t.d.fact 10 (f := .glo "can_be_notice") rfl)
    k_can_be_notice := F10.kp
    g_refuse_bad_notices := He.glo_ok X G (c.t.d.fact 11 (f := .glo "refuse_bad_notices") rfl)
    k_refuse_bad_notices := F11.kp
    g_can_be_hear := He.glo_ok X G (c.t.d.fact 12 (f := .glo "can_be_hear") rfl)
    k_can_be_hear := F12.kp
    g_refuse_bad_hears := He.glo_ok X G (c.t.d.fact 13 (f := .glo "refuse_bad_hears") rfl)
    k_refuse_bad_hears := F13.kp
    g_is_in_stretch := He.glo_ok X G (c.t.d.fact 14 (f := .glo "is_in_stretch") rfl)
    k_is_in_stretch := F14.kp
    g_hushed_hours := He.glo_ok X G (c.t.d.fact 15 (f := .glo "hushed_hours") rfl)
    k_hushed_hours := F15.kp
    g_first_free := He.glo_ok X G (c.t.d.fact 16 (f := .glo "first_free") rfl)
    k_first_free := F16.kp
    g_judged_course := He.glo_ok X G (c.t.d.fact 17 (f := .glo "judged_course") rfl)
    k_judged_course := F17.kp
    g_walked := He.glo_ok X G (c.t.d.fact 18 (f := .glo "walked") rfl)
    k_walked := F18.kp
    g_wheeled := He.glo_ok X G (c.t.d.fact 19 (f := .glo "wheeled") rfl)
    k_wheeled := F19.kp
    g_row_of := He.glo_ok X G (c.t.d.fact 20 (f := .glo "row_of") rfl)
    k_row_of := F20.kp
    g_written := He.glo_ok X G (c.t.d.fact 21 (f := .glo "written") rfl)
    k_written := F21.kp
    g__law_begun := He.glo_ok X G (c.t.d.fact 22 (f := .glo "_law_begun") rfl)
    k__law_begun := F22.kp
    g__law_take := He.glo_ok X G (c.t.d.fact 23 (f := .glo "_law_take") rfl)
    k__law_take := F23.kp
    g__law_alike := He.glo_ok X G (c.t.d.fact 24 (f := .glo "_law_alike") rfl)
    k__law_alike := F24.kp
    g__law_told := He.glo_ok X G (c.t.d.fact 25 (f := .glo "_law_told") rfl)
    k__law_told := F25.kp
    g__law_all := He.glo_ok X G (c.t.d.fact 26 (f := .glo "_law_all") rfl)
    k__law_all := F26.kp
    g__law_stretches := He.glo_ok X G (c.t.d.fact 27 (f := .glo "_law_stretches") rfl)
    k__law_stretches := F27.kp
    g__law_rule := He.glo_ok X G (c.t.d.fact 28 (f := .glo "_law_rule") rfl)
    k__law_rule := F28.kp
    g__law_rules := He.glo_ok X G (c.t.d.fact 29 (f := .glo "_law_rules") rfl)
    k__law_rules := F29.kp
    g__law_notices := He.glo_ok X G (c.t.d.fact 30 (f := .glo "_law_notices") rfl)
    k__law_notices := F30.kp
    g__law_hears := He.glo_ok X G (c.t.d.fact 31 (f := .glo "_law_hears") rfl)
    k__law_hears := F31.kp
    g__law_odd := He.glo_ok X G (c.t.d.fact 32 (f := .glo "_law_odd") rfl)
    k__law_odd := F32.kp
    g__law_works := He.glo_ok X G (c.t.d.fact 33 (f := .glo "_law_works") rfl)
    k__law_works := F33.kp
    g_law := He.glo_ok X G (c.t.d.fact 34 (f := .glo "law") rfl)
    k_law := F34.kp
    g_NoticeError := He.glo_ok X G (c.t.d.fact 35 (f := .glo "NoticeError") rfl)
    k_NoticeError := He.keep_ok (c.t.d.fact 98 (f := .keep "NoticeError") rfl)
    g_BadRules := He.glo_ok X G (c.t.d.fact 36 (f := .glo "BadRules") rfl)
    k_BadRules := He.keep_ok (c.t.d.fact 99 (f := .keep "BadRules") rfl)
    g_BadPerson := He.glo_ok X G (c.t.d.fact 37 (f := .glo "BadPerson") rfl)
    k_BadPerson := He.keep_ok (c.t.d.fact 100 (f := .keep "BadPerson") rfl)
    g_BadMoment := He.glo_ok X G (c.t.d.fact 38 (f := .glo "BadMoment") rfl)
    k_BadMoment := He.keep_ok (c.t.d.fact 101 (f := .keep "BadMoment") rfl)
    g_BadNotices := He.glo_ok X G (c.t.d.fact 39 (f := .glo "BadNotices") rfl)
    k_BadNotices := He.keep_ok (c.t.d.fact 102 (f := .keep "BadNotices") rfl)
    g_BadHears := He.glo_ok X G (c.t.d.fact 40 (f := .glo "BadHears") rfl)
    k_BadHears := He.keep_ok (c.t.d.fact 103 (f := .keep "BadHears") rfl)
    g_BadDevice := He.glo_ok X G (c.t.d.fact 41 (f := .glo "BadDevice") rfl)
    k_BadDevice := He.keep_ok (c.t.d.fact 104 (f := .keep "BadDevice") rfl)
    g_BadBell := He.glo_ok X G (c.t.d.fact 42 (f := .glo "BadBell") rfl)
    k_BadBell := He.keep_ok (c.t.d.fact 105 (f := .keep "BadBell") rfl)
    g_NotRinging := He.glo_ok X G (c.t.d.fact 43 (f := .glo "NotRinging") rfl)
    k_NotRinging := He.keep_ok (c.t.d.fact 106 (f := .keep "NotRinging") rfl)
    g_IsOff := He.glo_ok X G (c.t.d.fact 44 (f := .glo "IsOff") rfl)
    k_IsOff := He.keep_ok (c.t.d.fact 107 (f := .keep "IsOff") rfl)
    g_BadText := He.glo_ok X G (c.t.d.fact 45 (f := .glo "BadText") rfl)
    k_BadText := He.keep_ok (c.t.d.fact 108 (f := .keep "BadText") rfl)
    g_Person := He.glo_ok X G (c.t.d.fact 46 (f := .glo "Person") rfl)
    k_Person := He.keep_ok (c.t.d.fact 109 (f := .keep "Person") rfl)
    g_Notice := He.glo_ok X G (c.t.d.fact 47 (f := .glo "Notice") rfl)
    k_Notice := He.keep_ok (c.t.d.fact 110 (f := .keep "Notice") rfl)
    g_Course := He.glo_ok X G (c.t.d.fact 48 (f := .glo "Course") rfl)
    k_Course := He.keep_ok (c.t.d.fact 111 (f := .keep "Course") rfl)
    x_NoticeError := (He.exc_ok (c.t.d.fact 68 (f := .exc "NoticeError") rfl)).1
    e_NoticeError := (He.exc_ok (c.t.d.fact 68 (f := .exc "NoticeError") rfl)).2.2.1
    t_NoticeError := (He.exc_ok (c.t.d.fact 68 (f := .exc "NoticeError") rfl)).2.2.2
    x_BadPerson := (He.exc_ok (c.t.d.fact 69 (f := .exc "BadPerson") rfl)).1
    e_BadPerson := (He.exc_ok (c.t.d.fact 69 (f := .exc "BadPerson") rfl)).2.2.1
    t_BadPerson := (He.exc_ok (c.t.d.fact 69 (f := .exc "BadPerson") rfl)).2.2.2
    x_BadMoment := (He.exc_ok (c.t.d.fact 70 (f := .exc "BadMoment") rfl)).1
    e_BadMoment := (He.exc_ok (c.t.d.fact 70 (f := .exc "BadMoment") rfl)).2.2.1
    t_BadMoment := (He.exc_ok (c.t.d.fact 70 (f := .exc "BadMoment") rfl)).2.2.2
    x_BadDevice := (He.exc_ok (c.t.d.fact 71 (f := .exc "BadDevice") rfl)).1
    e_BadDevice := (He.exc_ok (c.t.d.fact 71 (f := .exc "BadDevice") rfl)).2.2.1
    t_BadDevice := (He.exc_ok (c.t.d.fact 71 (f := .exc "BadDevice") rfl)).2.2.2
    x_BadBell := (He.exc_ok (c.t.d.fact 72 (f := .exc "BadBell") rfl)).1
    e_BadBell := (He.exc_ok (c.t.d.fact 72 (f := .exc "BadBell") rfl)).2.2.1
    t_BadBell := (He.exc_ok (c.t.d.fact 72 (f := .exc "BadBell") rfl)).2.2.2
    x_NotRinging := (He.exc_ok (c.t.d.fact 73 (f := .exc "NotRinging") rfl)).1
    e_NotRinging := (He.exc_ok (c.t.d.fact 73 (f := .exc "NotRinging") rfl)).2.2.1
    t_NotRinging := (He.exc_ok (c.t.d.fact 73 (f := .exc "NotRinging") rfl)).2.2.2
    x_IsOff := (He.exc_ok (c.t.d.fact 74 (f := .exc "IsOff") rfl)).1
    e_IsOff := (He.exc_ok (c.t.d.fact 74 (f := .exc "IsOff") rfl)).2.2.1
    t_IsOff := (He.exc_ok (c.t.d.fact 74 (f := .exc "IsOff") rfl)).2.2.2
    i_MOST_PERSONS := He.int_ok X G (c.t.d.fact 75 (f := .int "MOST_PERSONS" (6)) rfl)
    i_MANY_PARTS := He.int_ok X G (c.t.d.fact 76 (f := .int "MANY_PARTS" (5)) rfl)
    i_MOST_STRETCHES := He.int_ok X G (c.t.d.fact 77 (f := .int "MOST_STRETCHES" (3)) rfl)
    i_LAST_HOUR := He.int_ok X G (c.t.d.fact 78 (f := .int "LAST_HOUR" (23)) rfl)
    i_MOST_LEAST := He.int_ok X G (c.t.d.fact 79 (f := .int "MOST_LEAST" (4)) rfl)
    i_MOST_GATHERED := He.int_ok X G (c.t.d.fact 80 (f := .int "MOST_GATHERED" (4)) rfl)
    i_LAST_KIND := He.int_ok X G (c.t.d.fact 81 (f := .int "LAST_KIND" (7)) rfl)
    i_MOST_SPAN := He.int_ok X G (c.t.d.fact 82 (f := .int "MOST_SPAN" (12)) rfl)
    i_MOST_WAIT := He.int_ok X G (c.t.d.fact 83 (f := .int "MOST_WAIT" (24)) rfl)
    i_LAST_MOMENT := He.int_ok X G (c.t.d.fact 84 (f := .int "LAST_MOMENT" (1000000)) rfl)
    i_MOST_NOTICES := He.int_ok X G (c.t.d.fact 85 (f := .int "MOST_NOTICES" (30)) rfl)
    i_LAST_RANK := He.int_ok X G (c.t.d.fact 86 (f := .int "LAST_RANK" (3)) rfl)
    i_LAST_BORN := He.int_ok X G (c.t.d.fact 87 (f := .int "LAST_BORN" (300)) rfl)
    i_MOST_HEARS := He.int_ok X G (c.t.d.fact 88 (f := .int "MOST_HEARS" (60)) rfl)
    i_LAST_HEAR := He.int_ok X G (c.t.d.fact 89 (f := .int "LAST_HEAR" (600)) rfl)
    i_NO_PART := He.int_ok X G (c.t.d.fact 90 (f := .int "NO_PART" (-1)) rfl)
    i_DAY := He.int_ok X G (c.t.d.fact 91 (f := .int "DAY" (24)) rfl)
    i_MOST_UNTIL := He.int_ok X G (c.t.d.fact 92 (f := .int "MOST_UNTIL" (600)) rfl)
    i_PERSON := He.str_ok X G (c.t.d.fact 93 (f := .str "PERSON" "person") rfl)
    i_HUSH := He.str_ok X G (c.t.d.fact 94 (f := .str "HUSH" "hush") rfl)
    i_GATHER := He.str_ok X G (c.t.d.fact 95 (f := .str "GATHER" "gather") rfl)
    i_NOTICE := He.str_ok X G (c.t.d.fact 96 (f := .str "NOTICE" "notice") rfl)
    i_NONE := He.str_ok X G (c.t.d.fact 97 (f := .str "NONE" "-") rfl)
    z_isinstance := He.free_ok X G (c.t.d.fact 49 (f := .free "isinstance") rfl)
    z_bool := He.free_ok X G (c.t.d.fact 50 (f := .free "bool") rfl)
    z_int := He.free_ok X G (c.t.d.fact 51 (f := .free "int") rfl)
    z_tuple := He.free_ok X G (c.t.d.fact 52 (f := .free "tuple") rfl)
    z_list := He.free_ok X G (c.t.d.fact 53 (f := .free "list") rfl)
    z_len := He.free_ok X G (c.t.d.fact 54 (f := .free "len") rfl)
    z_all := He.free_ok X G (c.t.d.fact 55 (f := .free "all") rfl)
    z_any := He.free_ok X G (c.t.d.fact 56 (f := .free "any") rfl)
    z_range := He.free_ok X G (c.t.d.fact 57 (f := .free "range") rfl)
    z_min := He.free_ok X G (c.t.d.fact 58 (f := .free "min") rfl)
    z_max := He.free_ok X G (c.t.d.fact 59 (f := .free "max") rfl)
    z_sum := He.free_ok X G (c.t.d.fact 60 (f := .free "sum") rfl)
    z_str := He.free_ok X G (c.t.d.fact 61 (f := .free "str") rfl)
    z_sorted := He.free_ok X G (c.t.d.fact 62 (f := .free "sorted") rfl)
    z_enumerate := He.free_ok X G (c.t.d.fact 63 (f := .free "enumerate") rfl)
    z_zip := He.free_ok X G (c.t.d.fact 64 (f := .free "zip") rfl)
    z_dict := He.free_ok X G (c.t.d.fact 65 (f := .free "dict") rfl)
    z_set := He.free_ok X G (c.t.d.fact 66 (f := .free "set") rfl)
    z_ValueError := He.free_ok X G (c.t.d.fact 67 (f := .free "ValueError") rfl)
    e_walked_hears := emB_ok ((He.ba (He.ba (He.ba (He.ba (He.ba (He.ba (He.ba c.more).1).1).1).1).1).1).2)
    e_wheeled_hears := emB_ok ((He.ba (He.ba (He.ba (He.ba (He.ba (He.ba c.more).1).1).1).1).1).2) }⟩
theorem kd_BadNotices {w : World} {h : Heap} {K : PySem.W.Frag} (c : He.SaysX fa fn [] tf exb w h K) : Kd_BadNotices K := by
  obtain ⟨h1, h2, h3⟩ := exOne_ok ((He.ba (He.ba (He.ba (He.ba (He.ba (He.ba (He.ba (He.ba (He.ba c.more).1).1).1).1).1).1).1).1).1)
  exact ⟨h1, He.exm_ok (c.t.d.fact 116 (f := .exm "BadNotices" "NoticeError" true) rfl), h2, h3 ("BadBell", false) (List.mem_of_getElem? (i := 0) rfl), h3 ("BadDevice", false) (List.mem_of_getElem? (i := 1) rfl), h3 ("BadHears", false) (List.mem_of_getElem? (i := 2) rfl), h3 ("BadMoment", false) (List.mem_of_getElem? (i := 3) rfl), h3 ("BadNotices", true) (List.mem_of_getElem? (i := 4) rfl), h3 ("BadPerson", false) (List.mem_of_getElem? (i := 5) rfl), h3 ("BadRules", false) (List.mem_of_getElem? (i := 6) rfl), h3 ("BadText", false) (List.mem_of_getElem? (i := 7) rfl), h3 ("IsOff", false) (List.mem_of_getElem? (i := 8) rfl), h3 ("NotRinging", false) (List.mem_of_getElem? (i := 9) rfl)⟩
theorem kd_BadHears {w : World} {h : Heap} {K : PySem.W.Frag} (c : He.SaysX fa fn [] tf exb w h K) : Kd_BadHears K := by
  obtain ⟨h1, h2, h3⟩ := exOne_ok ((He.ba (He.ba (He.ba (He.ba (He.ba (He.ba (He.ba (He.ba (He.ba c.more).1).1).1).1).1).1).1).1).2)
  exact ⟨h1, He.exm_ok (c.t.d.fact 117 (f := .exm "BadHears" "NoticeError" true) rfl), h2, h3 ("BadBell", false) (List.mem_of_getElem? (i := 0) rfl), h3 ("BadDevice", false) (List.mem_of_getElem? (i := 1) rfl), h3 ("BadHears", true) (List.mem_of_getElem? (i := 2) rfl), h3 ("BadMoment", false) (List.mem_of_getElem? (i := 3) rfl), h3 ("BadNotices", false) (List.mem_of_getElem? (i := 4) rfl), h3 ("BadPerson", false) (List.mem_of_getElem? (i := 5) rfl), h3 ("BadRules", false) (List.mem_of_getElem? (i := 6) rfl), h3 ("BadText", false) (List.mem_of_getElem? (i := 7) rfl), h3 ("IsOff", false) (List.mem_of_getElem? (i := 8) rfl), h3 ("NotRinging", false) (List.mem_of_getElem? (i := 9) rfl)⟩
theorem kd_BadMoment {w : World} {h : Heap} {K : PySem.W.Frag} (c : He.SaysX fa fn [] tf exb w h K) : Kd_BadMoment K := by
  obtain ⟨h1, h2, h3⟩ := exOne_ok ((He.ba (He.ba (He.ba (He.ba (He.ba (He.ba (He.ba (He.ba c.more).1).1).1).1).1).1).1).2)
  exact ⟨h1, He.exm_ok (c.t.d.fact 115 (f := .exm "BadMoment" "NoticeError" true) rfl), h2, h3 ("BadBell", false) (List.mem_of_getElem? (i := 0) rfl), h3 ("BadDevice", false) (List.mem_of_getElem? (i := 1) rfl), h3 ("BadHears", false) (List.mem_of_getElem? (i := 2) rfl), h3 ("BadMoment", true) (List.mem_of_getElem? (i := 3) rfl), h3 ("BadNotices", false) (List.mem_of_getElem? (i := 4) rfl), h3 ("BadPerson", false) (List.mem_of_getElem? (i := 5) rfl), h3 ("BadRules", false) (List.mem_of_getElem? (i := 6) rfl), h3 ("BadText", false) (List.mem_of_getElem? (i := 7) rfl), h3 ("IsOff", false) (List.mem_of_getElem? (i := 8) rfl), h3 ("NotRinging", false) (List.mem_of_getElem? (i := 9) rfl)⟩
theorem own_of {w : World} {h : Heap} {K : PySem.W.Frag} {mg : Str → Option Value} (X : K.In h) (G : h.Ns mainGlobals mg) (c : Sy.SaysC fa fn [] tf cs exb w h K) : Own PySem.Challenge.rw_hushnotice_k03_notices_and_hears_refused.prog K mg where
  zs := He.free_ok X G (c.x.t.d.fact 123 (f := .free "super") rfl)
  k_BadRules := { k := Sy.supB_ok (c.at 0) ((He.ba (He.ba (He.ba (He.ba (He.ba c.x.more).1).1).1).1).2) (by decide +kernel), na_person := He.noat_ok (c.x.t.d.fact 124 (f := .noat "BadRules" "person") rfl), na_part := He.noat_ok (c.x.t.d.fact 125 (f := .noat "BadRules" "part") rfl) }
  k_BadNotices := { k := Sy.supB_ok (c.at 1) ((He.ba (He.ba (He.ba (He.ba c.x.more).1).1).1).2) (by decide +kernel), na_number := He.noat_ok (c.x.t.d.fact 126 (f := .noat "BadNotices" "number") rfl) }
  k_BadHears := { k := Sy.supB_ok (c.at 2) ((He.ba (He.ba (He.ba c.x.more).1).1).2) (by decide +kernel), na_number := He.noat_ok (c.x.t.d.fact 127 (f := .noat "BadHears" "number") rfl) }
  k_BadText := { k := Sy.supB_ok (c.at 3) ((He.ba (He.ba c.x.more).1).2) (by decide +kernel), na_row := He.noat_ok (c.x.t.d.fact 128 (f := .noat "BadText" "row") rfl) }
end Hn
open PySem PySem.W PySem.Calls PyProof.Rows
theorem PySem.Challenge.cw_hushnotice_k03_notices_and_hears_refused_holds : PySem.Challenge.rw_hushnotice_k03_notices_and_hears_refused.Holds := by
  w_on; o_law
  refine HandSHeadRun.head_any (r := OpenLaw.row PySem.Challenge.rw_hushnotice_k03_notices_and_hears_refused) (q := view (OpenLaw.row PySem.Challenge.rw_hushnotice_k03_notices_and_hears_refused).prog [78]) (H := Hn.hk) (ob := Hn.ob) (M := 8000) (loose := Hn.names) (d := HandSHeadRun.topDef (OpenLaw.row PySem.Challenge.rw_hushnotice_k03_notices_and_hears_refused).prog 78) (kwd := []) Hn.ob_eq
    (by kernel_rfl) (fun s => by kernel_rfl) Hn.run (by kernel_rfl) (by kernel_rfl) (by kernel_rfl) (by rfl) (by first | assumption | decide +kernel) (by decide +kernel) ⟨rfl, rfl, rfl, rfl, rfl, by decide +kernel⟩ ?hw ?hc
  case hw => w_witness2
  case hc =>
    refine LamX.walk_ofTsE (l := PySem.Challenge.rw_hushnotice_k03_notices_and_hears_refused) (n := 63) (k := 20) (CX := fun w => L2.CX PySem.Challenge.rw_hushnotice_k03_notices_and_hears_refused.prog w) (x := "_law_script") rfl (by decide) rfl ⟨rfl, by decide, by decide⟩ (fun w mg fa h hY hns hmg => ?_) (fun w H s e s' hx => ?_)
    · obtain ⟨K, X, c⟩ := hY
      obtain ⟨T⟩ := Hn.tx_of X hns c.x
      have ef : fa = He.ga K "law" := by
        have z : mg "law" = some (.ref fa) := hmg
        rw [T.g_law] at z
        cases z
        rfl
      subst ef
      refine ⟨K, X, T.fd_law, Hn.tf.map fun p => He.cT K p, Sy.lift K (Hn.spLaw (He.cT K ("_law_works", none)).2 (He.cT K ("law", none)).2), fun p hp => ?_, fun p hp => ?_, fun p hp => ?_, fun s u => ?_, fun H a ns hl hb ht hq => ?_, fun base XB GB TB => ?_⟩
      · obtain ⟨q, hq, rfl⟩ := List.mem_map.mp hp
        exact c.x.empty q hq
      · obtain ⟨q, hq, rfl⟩ := List.mem_map.mp hp
        exact c.x.out q hq
      · obtain ⟨q, hq, rfl⟩ := List.mem_map.mp hp
        exact PySem.W.codeHd_of_K X (c.x.hd q hq)
      · obtain ⟨oc, od, dV, kV, doc, pm, an, cdv, ct, osl, e, lk, hcd, hD, hK⟩ := T.F_law.ex
        rw [e]
        rcases hD with ⟨_, rfl⟩ | ⟨n, _⟩
        · exact .of_eq rfl
        · exact absurd rfl n
      · have h1 : _ := ht (He.cT K ("_law_works", none)) (List.mem_map.mpr ⟨_, List.mem_cons_self, rfl⟩)
        have h2 : _ := ht (He.cT K ("law", none)) (List.mem_map.mpr ⟨_, List.mem_cons_of_mem _ (List.mem_singleton.mpr rfl), rfl⟩)
        have ne12 : (He.cT K ("_law_works", none)).2 ≠ (He.cT K ("law", none)).2 := of_decide_eq_true ((He.ba c.x.more).2)
        refine ⟨fun y => match H y with | some (.lst xs) => some (.lst xs) | some (.frz o u) => some (.frz o u) | _ => none, [.lst (ns.map .int)], fun b => if b = (He.cT K ("_law_works", none)).2 then some (.tab Hn.nmW) else if b = (He.cT K ("law", none)).2 then some (.tab Hn.nm0) else none, fun _ _ => False, fun v _ => v = .bl true, ⟨fun y o e => ?_, fun b u hu => ?_⟩, .cons (.lst (vs := ns.map L2.V.int) ?_ (Sy.vrs_of_ints ns)) .nil, ⟨ns, rfl, hl, by simp, by (show (if _ then _ else if _ then _ else _) = _; rw [if_neg (Ne.symm ne12), if_pos rfl]), fun _ => rfl⟩, fun x d F' H' m' _ _ _ z => z.elim, fun v F' H' sv m' _ _ rv e => ?_⟩
        · show H y = some o
          have e : (match H y with | some (.lst xs) => some (.lst xs) | some (.frz o u) => some (.frz o u) | _ => none : Option L2.HO) = some o := e
          split at e
          · rename_i q
            rw [q, e]
          · rename_i q
            rw [q, e]
          · cases e
        · have hu : (if b = (He.cT K ("_law_works", none)).2 then some (Sy.MO.tab Hn.nmW) else if b = (He.cT K ("law", none)).2 then some (Sy.MO.tab Hn.nm0) else none) = some u := hu
          split at hu
          · rename_i e
            cases hu
            refine ⟨?_, ?_⟩
            · show (match H b with | some (.lst xs) => some (.lst xs) | some (.frz o u) => some (.frz o u) | _ => none : Option L2.HO) = none
              rw [e, h1]
            · rw [e]
              exact .nil h1
          · split at hu
            · rename_i e
              cases hu
              refine ⟨?_, ?_⟩
              · show (match H b with | some (.lst xs) => some (.lst xs) | some (.frz o u) => some (.frz o u) | _ => none : Option L2.HO) = none
                rw [e, h2]
              · rw [e]
                exact .nil h2
            · cases hu
        · rcases hq with (hq | ⟨o, hq⟩) | hq
          · refine .inl (.inl ?_)
            show (match H a with | some (.lst xs) => some (.lst xs) | some (.frz o u) => some (.frz o u) | _ => none : Option L2.HO) = _
            rw [hq]
          · refine .inl (.inr ⟨o, ?_⟩)
            show (match H a with | some (.lst xs) => some (.lst xs) | some (.frz o u) => some (.frz o u) | _ => none : Option L2.HO) = _
            rw [hq]
          · exact .inr hq
        · subst e
          cases rv
          rfl
      · exact (haveI := Hn.own_of X hns c; Hn.ok_law T (Hn.kd_BadNotices c.x) (Hn.kd_BadHears c.x) (Hn.kd_BadMoment c.x) (TB _ (List.mem_map.mpr ⟨_, List.mem_cons_self, rfl⟩)) (TB _ (List.mem_map.mpr ⟨_, List.mem_cons_of_mem _ (List.mem_singleton.mpr rfl), rfl⟩)))
    · obtain ⟨_, _, _, _, _, _, _, _, _, _, _, _, z⟩ := hx
      exact z

