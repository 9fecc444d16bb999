import PyProof.Rows.All
import Wide.All
import OpenK.AllK
import Wide.FinOn
import HandS.Lambda
import HandS.Nested
import KE.KDflt
import HandS.ForMost
import HandS.Exc
import HandS.ExcOwn
import HandS.TryOnly
import HandS.WordsExc
import HandS.IsInst
import HandS.Defaults
import HandS.TupAny
import HandS.Wide
import HandS.ExcIs
import PyProof.SumAnyB
import PyProof.Rows.SumGenD
import HandS.Style
import HandS.MakeKwOnly
import HandS.More
import HandS.SetFor
import HandS.TupSets
import HandS.Strs
import HandS.Deep
import HandS.DictTup
import HandS.Conv
import KE.KDictWalk
import HandS.NamedTupSort
import HandS.SortKw
import HandS.SortRule
import HandS.Keys
import KE.GoesEnum
import KE.GoesMore
import KE.KDictPairs
import HandS.HeadHook2
import KE.DataMinMax
import HandS.Zip
import HandS.ExcInit
import HandS.FStr
import KE.KExcSuper
import HandS.HeadHook1
import HandS.HeadHook3
import HandS.HeadHook4
import KE.KExcIs
import HandS.ExcField
import HandS.TupMul
import PySem.Challenge.RW_hushnotice_k01_rules_refused
import KE.KStateDown
import Lean
import HandS.Base
import HandS.Call
import HandS.Ends
import HandS.Words
import HandS.Head0
import HandS.Head1
import HandS.Head2
import HandS.HeadEnd
import HandS.HeadWalk
set_option Elab.async false
set_option linter.all false
set_option maxRecDepth 100000
set_option maxHeartbeats 4000000
/-! Lambdas as values: made, kept in lists, called later by others. -/
namespace Lm
open PySem PySem.Spec PyProof.Rows L2 LamX NdefX
/-- the function data of a lambda: F its words (no statements), e its expression, dV its defaults -/
abbrev lfd (F : NF) (e : Expr) (dV doc pm ctv : Value) : FuncData := PySem.W.kdv_fn F.name F.qual F.params (.expr e) F.scope F.cl dV doc pm (.ref F.c) ctv
def LamO (f : Addr) (F : NF) (e : Expr) (dV : Value) : HO := .ext fun h => ∃ (od : Option Addr) (sl : Array (Option Value)) (doc pm ctv : Value), h.get? f = some (⟨.type "function", od, .func (lfd F e dV doc pm ctv), sl⟩ : Obj)
theorem lamO_at {P : Program} {w : World} {H : Hp} {h : Heap} {f : Addr} {F : NF} {e : Expr} {dV : Value} (hok : HOk P w H h) (q : H f = some (LamO f F e dV)) : ∃ (od : Option Addr) (sl : Array (Option Value)) (doc pm ctv : Value), h.get? f = some (⟨.type "function", od, .func (lfd F e dV doc pm ctv), sl⟩ : Obj) := by
  obtain ⟨z, _, _⟩ := hok f _ q
  exact z
section
variable {X : Cx} {pins : List (Addr × Obj)} {σ : L2.St} {H : Hp} {s : Shared}
theorem inv_lam {F : NF} {e : Expr} {dV : Value} {o : Obj} {t' : Nat} {doc pm ctv : Value} (I : Inv X pins σ H s) (ho : o = { cls := .type "function", data := .func (lfd F e dV doc pm ctv) }) :
    Inv X pins σ (upd H s.heap.objs.size (LamO s.heap.objs.size F e dV)) { s with heap := s.heap.push o, toks := t' } := by
  subst ho
  refine I.laid (a := s.heap.objs.size) (fun b u e => Heap.get?_push_of_some _ e) (Nat.le_refl _) ?_
  have z : (s.heap.push ({ cls := .type "function", data := .func (lfd F e dV doc pm ctv) } : Obj)).get? s.heap.objs.size = some ({ cls := .type "function", data := .func (lfd F e dV doc pm ctv) } : Obj) := Heap.get?_push_size _ rfl
  exact ⟨⟨_, _, doc, pm, ctv, z⟩, ⟨_, z⟩, fun h1 h2 ⟨od, sl, d, p, t, z⟩ st => ⟨od, sl, d, p, t, st _ z⟩⟩
/-- the lambda's words -/
abbrev NF.lam (X : Cx) (params : Arguments) (scope : Scope) (c' : Addr) : NF := ⟨"<lambda>", X.env.qual ++ "<lambda>", params, [], scope, cloFrom X.env.cells scope.names [], c'⟩
/-- the lambda's object is made: its code object is new, or found in the table -/
theorem lam_tail {nm : Nat → Nat → Str} {c P : Addr} {params : Arguments} {body : Expr} {scope : Scope} {pos : Pos} {dV : Value} {E : Value → Shared → Prop} {Q : Value → Shared → Prop} (I : Inv X pins σ H s) (TB : TabB X.base X.mg c P) (hcode : X.env.code = .ref c)
    (hn : nm pos.line pos.col = X.env.qual ++ "<lambda>") (hT : TabN H P nm) (hfree : ∀ y ∈ scope.names, y.2 = .free → ∃ c, X.env.cells.lookup y.1 = some c)
    (h : ∀ (f c' : Addr) (H1 : Hp) (s' : Shared), Inv X pins σ H1 s' → (∀ b o, b ≠ P → H b = some o → H1 b = some o) → (∀ b, H1 b = Option.none → H b = Option.none) → TabN H1 P nm → H f = none → H1 f = some (LamO f (NF.lam X params scope c') body dV) → H1 c' = some (CodeO c' (X.env.qual ++ "<lambda>")) →
      (∀ b o, H1 b = some o → H b = none → b = f ∨ b = c') → Q (.ref f) s') :
    wpAny (model X.prog X.w) X.A (makeTail "<lambda>" (X.env.qual ++ "<lambda>") params (.expr body) scope X.env dV .none none pos pos.line) Q E s := by
  obtain ⟨ps, hP, ht, ha⟩ := (show TabN H P nm from hT)
  have bP : s.heap.BuiltinsAt X.mg P := TB.bm.keeps I.bk
  have hP' : s.heap.get? P = some { cls := .none, data := .fields ps } := I.hok P _ hP
  cases hc : codeAmong pos ps.toList with
  | none =>
    refine PySem.W.kdv_makeTail (mg := X.mg) (c := c) (P := P) (ps := ps) (closure_ok hfree) I.ok.glob (I.mod.glob.keeps I.bk) hcode (TB.code.keeps I.bk) hP' ht hc TB.gP bP fun c' ctv doc h' tk hx hge hlt hrec htb => ?_
    obtain ⟨c2, oc, vs, t, e2, hoc, hd, hv⟩ := hrec
    cases e2
    have nC : H c' = none := I.hok.fresh hge
    have I1 := inv_table (t' := tk) (more := #[rawInt pos.line, rawInt pos.col, .ref c']) (h' := h') I hP (fun b o hb e => hx b o hb e) htb hge ⟨oc, vs, t, hoc, hd, hv⟩
    have hE : ∀ b o, b ≠ P → H b = some o → (upd (upd H P (.tbl (ps ++ #[rawInt pos.line, rawInt pos.col, .ref c']))) c' (CodeO c' (X.env.qual ++ "<lambda>"))) b = some o := fun b o n e => by
      rw [upd_ne (ne_of_none e nC), upd_ne n]
      exact e
    have eL : (ps ++ #[rawInt pos.line, rawInt pos.col, .ref c']).toList = ps.toList ++ [rawInt pos.line, rawInt pos.col, .ref c'] := by simp
    have nP : ∀ {b : Addr} {q : Str}, H b = some (CodeO b q) → b ≠ P := fun {b q} e z => by
      rw [z, hP] at e
      exact codeO_ne _ (Option.some.inj e).symm
    have T1 : TabN (upd (upd H P (.tbl (ps ++ #[rawInt pos.line, rawInt pos.col, .ref c']))) c' (CodeO c' (X.env.qual ++ "<lambda>"))) P nm := by
      refine ⟨_, by rw [upd_ne (ne_of_none hP nC), upd_same], by rw [eL]; exact PySem.TriplesOk_snoc _ _ _ _ ht, fun p' cv hcv => ?_⟩
      rw [eL] at hcv
      rcases among_app2 _ ht hcv with z | ⟨z, z1, z2⟩
      · obtain ⟨c0, e1, e2⟩ := ha p' cv z
        exact ⟨c0, e1, hE _ _ (nP e2) e2⟩
      · refine ⟨c', z, ?_⟩
        rw [← z1, ← z2, hn]
        exact upd_same
    have nF := I1.hok.fresh (Nat.le_refl _)
    have I2 := inv_lam (F := NF.lam X params scope c') (e := body) (dV := dV) (t' := tk) (doc := doc) (pm := (X.mg "__name__").getD .none) (ctv := ctv) I1 rfl
    refine h h'.objs.size c' _ _ I2 (fun b o n e => ?_) (fun b e => upd_none (upd_none (upd_none e))) (T1.ext fun b o e => ?_) (I.hok.fresh (Nat.le_trans hge (Nat.le_of_lt hlt))) upd_same ?_ (fun b o e n => ?_)
    · have e1 := hE b o n e
      exact (upd_ne (ne_of_none e1 nF)).trans e1
    · exact (upd_ne (ne_of_none e nF)).trans e
    · exact (upd_ne (Nat.ne_of_lt hlt)).trans upd_same
    · by_cases q1 : b = h'.objs.size
      · exact .inl q1
      · rw [upd_ne q1] at e
        by_cases q2 : b = c'
        · exact .inr q2
        · rw [upd_ne q2] at e
          by_cases q3 : b = P
          · rw [q3, hP] at n
            cases n
          · rw [upd_ne q3, n] at e
            cases e
  | some cv =>
    obtain ⟨c', e, hco⟩ := ha pos cv hc
    subst e
    rw [hn] at hco
    refine PySem.W.kdv_makeTailHit (mg := X.mg) (c := c) (P := P) (ps := ps) (closure_ok hfree) I.ok.glob (I.mod.glob.keeps I.bk) hcode (TB.code.keeps I.bk) hP' ht hc bP fun ctv doc h' tk hx hsz => ?_
    have I1 : Inv X pins σ H { s with heap := h', toks := tk } := I.kept hx
    have nF : H h'.objs.size = none := I1.hok.fresh (Nat.le_refl _)
    have I2 := inv_lam (F := NF.lam X params scope c') (e := body) (dV := dV) (t' := tk) (doc := doc) (pm := (X.mg "__name__").getD .none) (ctv := ctv) I1 rfl
    refine h h'.objs.size c' _ _ I2 (fun b o n e => ?_) (fun b e => upd_none e) (hT.ext fun b o e => ?_) nF upd_same ?_ (fun b o e n => ?_)
    · exact (upd_ne (ne_of_none e nF)).trans e
    · exact (upd_ne (ne_of_none e nF)).trans e
    · exact (upd_ne (ne_of_none hco nF)).trans hco
    · by_cases q1 : b = h'.objs.size
      · exact .inl q1
      · rw [upd_ne q1, n] at e
        cases e
/-- lambda: body -/
def tLam0 (P : Addr) (nm : Nat → Nat → Str) (mk : Addr → NF) (body : Expr) : TE := fun σ H Q => TabN H P nm ∧ ∀ (f c' : Addr) (H1 : Hp), (∀ b o, b ≠ P → H b = some o → H1 b = some o) → (∀ b, H1 b = Option.none → H b = Option.none) → TabN H1 P nm → H f = none → H1 f = some (LamO f (mk c') body .none) → H1 c' = some (CodeO c' (mk c').qual) →
  (∀ b o, H1 b = some o → H b = none → b = f ∨ b = c') → Q (.ref f) H1
theorem pe_lam0 {nm : Nat → Nat → Str} {c P : Addr} {params : Arguments} {body : Expr} {scope : Scope} {pos : Pos} (TB : TabB X.base X.mg c P) (hcode : X.env.code = .ref c) (hn : nm pos.line pos.col = X.env.qual ++ "<lambda>")
    (hfree : ∀ y ∈ scope.names, y.2 = .free → X.env.scope.names.lookup y.1 = some .cell ∨ X.env.scope.names.lookup y.1 = some .free) (hdef : defaultsOf params X.env = ([], [])) : PE X (.Lambda params body scope pos) (tLam0 P nm (NF.lam X params scope) body) := by
  refine ⟨fun pins s σ H Q I h => ?_⟩
  obtain ⟨hT, h⟩ := h
  refine PySem.W.kla_eval hdef ?_
  rw [makeFunction_eq]
  simp only [List.zip_nil_right, List.filterMap_nil, List.isEmpty_nil, if_true, pure_bind]
  have hfr : ∀ y ∈ scope.names, y.2 = .free → ∃ c, X.env.cells.lookup y.1 = some c := fun y hy e => (hfree y hy e).elim (fun z => I.ok.has _ (.inl z)) fun z => I.ok.has _ (.inr z)
  refine lam_tail I TB hcode hn hT hfr fun f c' H1 s' I1 k0 k1 T1 f0 f1 c1 nw => ?_
  exact ⟨.ref f, H1, I1, rfl, h f c' H1 k0 k1 T1 f0 f1 c1 nw⟩
/-- lambda a=0: body; the defaults' tuple stands at T -/
def tLam1 (P : Addr) (nm : Nat → Nat → Str) (mk : Addr → NF) (body : Expr) (i : Int) : TE := fun σ H Q => TabN H P nm ∧ ∀ (f c' T : Addr) (H1 : Hp), (∀ b o, b ≠ P → H b = some o → H1 b = some o) → (∀ b, H1 b = Option.none → H b = Option.none) → TabN H1 P nm → H f = none → H T = none → H1 T = some (.tup [.int i]) → H1 f = some (LamO f (mk c') body (.ref T)) → H1 c' = some (CodeO c' (mk c').qual) →
  (∀ b o, H1 b = some o → H b = none → b = f ∨ b = c' ∨ b = T) → Q (.ref f) H1
theorem pe_lam1 {nm : Nat → Nat → Str} {c P : Addr} {params : Arguments} {body : Expr} {scope : Scope} {pos p1 : Pos} {i : Int} {j : Nat} (TB : TabB X.base X.mg c P) (hcode : X.env.code = .ref c) (hn : nm pos.line pos.col = X.env.qual ++ "<lambda>")
    (hfree : ∀ y ∈ scope.names, y.2 = .free → X.env.scope.names.lookup y.1 = some .cell ∨ X.env.scope.names.lookup y.1 = some .free) (hd : params.defaults = [.Constant (.int i) j p1]) (hk : params.kw_defaults = []) : PE X (.Lambda params body scope pos) (tLam1 P nm (NF.lam X params scope) body i) := by
  refine ⟨fun pins s σ H Q I h => ?_⟩
  obtain ⟨hT, h⟩ := h
  refine PySem.W.kdv_lam (by rw [hd]; rfl) hk ?_
  rw [hd]
  refine PySem.W.kdv_all1 (thn ((pe_int (X := X) (i := i) (pos := p1)).run pins s σ H (fun v H1 => v = .int i ∧ H1 = H) I ⟨rfl, rfl⟩) fun u s1 ⟨v, H1, I1, r1, q1⟩ => ?_)
  obtain ⟨ev, eH⟩ := q1
  subst ev
  rw [eH] at I1
  obtain ⟨t, rfl⟩ : ∃ t, u = .int i t := r1
  refine PySem.W.kdv_all0 ?_
  rw [makeFunction_eq]
  simp only [List.zip_nil_right, List.filterMap_nil, List.isEmpty_nil, List.isEmpty_cons, Bool.false_eq_true, if_false, if_true, pure_bind]
  refine wpAny_bind (wpAny_newTextTuple ?_)
  have hf : H s1.heap.objs.size = none := I1.hok.fresh (Nat.le_refl _)
  have I2 : Inv X pins σ (upd H s1.heap.objs.size (.tup [.int i])) { s1 with heap := s1.heap.push { cls := .type "tuple", data := .seq [Value.int i t].toArray } } := I1.laid (t' := s1.toks) (fun b u e => Heap.get?_push_of_some _ e) (Nat.le_refl _) ⟨(by show 1 ≤ sizeLine; decide), [.int i t], .cons ⟨t, rfl⟩ .nil, ⟨_, Heap.get?_push_size _ rfl, rfl, _, rfl⟩⟩
  have hfr : ∀ y ∈ scope.names, y.2 = .free → ∃ c, X.env.cells.lookup y.1 = some c := fun y hy e => (hfree y hy e).elim (fun z => I.ok.has _ (.inl z)) fun z => I.ok.has _ (.inr z)
  have hT2 : TabN (upd H s1.heap.objs.size (.tup [.int i])) P nm := hT.ext fun b o e => (upd_ne (ne_of_none e hf)).trans e
  have hTP : s1.heap.objs.size ≠ P := fun z => by
    obtain ⟨ps, hP, _⟩ := hT
    rw [z, hP] at hf
    cases hf
  refine lam_tail I2 TB hcode hn hT2 hfr fun f c' H1 s' I1 k0 k1 T1 f0 f1 c1 nw => ?_
  refine ⟨.ref f, H1, I1, rfl, h f c' s1.heap.objs.size H1 (fun b o n e => k0 b o n ((upd_ne (ne_of_none e hf)).trans e)) (fun b e => upd_none (k1 b e)) T1 (upd_none f0) hf (k0 _ _ hTP upd_same) f1 c1 (fun b o e n => ?_)⟩
  by_cases q : b = s1.heap.objs.size
  · exact .inr (.inr q)
  · rcases nw b o e ((upd_ne q).trans n) with z | z
    · exact .inl z
    · exact .inr (.inl z)
end
/-! ### calls -/
section
variable {CX : CXT} {P : Program} {w : World} {K : PySem.W.Frag} {mg : Str → Option Value} {base : Heap} {N ps fr : List Str} {F : NF} {e : Expr} {dV : Value} {f : Addr} {k : Nat} {tb : List (Option V) → XK → TE}
/-- the lambda at f, called without arguments, at every state where its cells hold ws -/
def LOk (CX : CXT) (P : Program) (w : World) (K : PySem.W.Frag) (mg : Str → Option Value) (base : Heap) (k : Nat) (f : Addr) (F : NF) (e : Expr) (dV : Value) (fr : List Str) (ws : List (Option V)) (Z : Hp → Prop) (sp : Hp → VK → XK → Prop) : Prop :=
  ∀ (A : Around) (outer : List Env) (s : Shared) (H : Hp) (Q : VK) (E : XK), Room k A → Env0 P w K mg base A outer s H → H f = some (LamO f F e dV) → H F.c = some (CodeO F.c F.qual) → Z H → CellsAt F.cl fr ws s.heap H → sp H Q E →
    codeAny (model P w) A (.call (.ref f) ⟨[], []⟩) (CR CX outer P w H s Q E) s
theorem lok_of {vs : List V} {Z : Hp → Prop} {ws : List (Option V)} {sp : Hp → VK → XK → Prop} (S : NScope N ps fr F.scope) (hl : vs.length = ps.length)
    (hb : ∀ (doc pm ctv : Value) (s : Shared) (H : Hp), HOk P w H s.heap → Z H → ∃ us, Vals vs us ∧ BindsTo s (lfd F e dV doc pm ctv) ⟨[], []⟩ (ps.zip us))
    (hbody : ∀ (A : Around) (outer : List Env) (s : Shared) (H : Hp) (Q : VK) (E : XK), Room k (A.deeper (envF F f s.heap.objs.size)) → sp H Q E → ∃ tb, PE (ncx CX P w K mg base N F f A outer s H E) e tb ∧ tb (startF N vs ws) H Q) : LOk CX P w K mg base (k + 1) f F e dV fr ws Z sp := by
  intro A outer s H Q E hr e0 hf hc hZ C hsp
  have lim : s.heap.NoLimit := e0.mod.nolimit.keeps fun b o e => (e0.bs b o e).1
  obtain ⟨od, sl, doc, pm, ctv, ho⟩ := lamO_at e0.hok hf
  obtain ⟨us, r, hbd⟩ := hb doc pm ctv s H e0.hok hZ
  refine PySem.W.kla_callFunE hr.depth ho rfl S.co S.gen rfl (codeO_at e0.hok hc) (hbd _ _ _ _ ?_)
  refine wpAny_newFunctionEnv S.nocell (fun ⟨n, _⟩ hy => S.par n (List.of_mem_zip hy).1) (fun h₁ hns hsb => ⟨lim.fresh _ hsb, ?_⟩) S.kind
  show codeAny _ _ (.expr e (envF F f s.heap.objs.size)) _ _
  have kp : ∀ b o, s.heap.get? b = some o → h₁.get? b = some o := fun b o e => hsb.extBut b o (Nat.ne_of_lt (Heap.lt_size e)) (Heap.get?_push_of_some _ e)
  obtain ⟨tb, ht, hq⟩ := hbody A outer s H Q E (hr.deeper _) hsp
  have I : Inv (ncx CX P w K mg base N F f A outer s H E) [] (startF N vs ws) H { s with heap := h₁, toks := s.toks + (ps.zip us).length } := inv_startN S hr.hd e0 hl r C hns kp
  refine PySem.W.kla_codeExpr (wpAny_mono (ht.run [] _ (startF N vs ws) H Q I hq) (fun v s' hq => ?_) fun e s' hq => hq)
  obtain ⟨w', H', J', rv, q⟩ := hq
  exact ⟨w', H', J'.os, J'.bare, J'.base, J'.hok, rv, q⟩
end
end Lm

set_option Elab.async false
set_option linter.all false
set_option maxRecDepth 100000
set_option maxHeartbeats 4000000
/-! Symbolic values and a symbolic memory: tuples are values, lists, dicts, instances are owned cells of the memory; F (hidden) is the part of the abstract heap that no longer changes. -/
namespace Sy
open PySem PySem.Spec PyProof.Rows L2
inductive SV where
  | non | bl (b : Bool) | int (i : Int) | str (x : Str) | tup (xs : List SV) | lst (xs : List SV) | ref (a : Addr) | ty (n : String) | kt (k : List Key) | ptup (xs : List SV)
inductive MO where
  | lst (xs : List SV) | dK (kvs : List (Key × SV)) | dT (kvs : List (List Key × SV)) | ins (C : Addr) (fs : List (Str × SV)) | box (c : Addr) | bxi | tab (nm : Nat → Nat → Str) | lam (mk : Addr → NdefX.NF) (e : Expr) (d : Option Int) | pred (ψ : Hp → Hp → Prop) | xd (fs : List (Str × SV)) | raw (o : HO) | lk (o : HO) (kvs : List (List Key × SV))
abbrev Mem := Addr → Option MO
def up (m : Mem) (a : Addr) (o : MO) : Mem := fun b => if b = a then some o else m b
theorem up_same {m : Mem} {a : Addr} {o : MO} : up m a o a = some o := by unfold up; rw [if_pos rfl]
theorem up_ne {m : Mem} {a b : Addr} {o : MO} (h : b ≠ a) : up m a o b = m b := by unfold up; rw [if_neg h]
theorem up_up {m : Mem} {a : Addr} {o u : MO} : up (up m a o) a u = up m a u := by
  funext b; unfold up; split <;> rfl
theorem up_comm {m : Mem} {a b : Addr} {o u : MO} (h : a ≠ b) : up (up m a o) b u = up (up m b u) a o := by
  funext c; unfold up
  by_cases h1 : c = b
  · subst h1; rw [if_pos rfl, if_neg (Ne.symm h), if_pos rfl]
  · rw [if_neg h1]
    by_cases h2 : c = a
    · rw [if_pos h2, if_pos h2]
    · rw [if_neg h2, if_neg h2, if_neg h1]
theorem up_id {m : Mem} {a : Addr} {o : MO} (h : m a = some o) : up m a o = m := by
  funext b; unfold up; split
  · next e => rw [e, h]
  · rfl
theorem mne {m : Mem} {a b : Addr} {o : MO} (h : m a = some o) (n : m b = none) : a ≠ b := fun e => by rw [e, n] at h; cases h
def Le (a m : Mem) : Prop := ∀ b o, a b = some o → m b = some o
theorem Le.refl (m : Mem) : Le m m := fun _ _ h => h
theorem Le.trans {a b c : Mem} (h : Le a b) (k : Le b c) : Le a c := fun x o e => k x o (h x o e)
theorem Le.new {a m : Mem} {p : Addr} {o : MO} (h : Le a m) (n : m p = none) : Le a (up m p o) := fun x u e => by
  have e2 := h x u e
  rw [up_ne (mne e2 n)]
  exact e2
theorem Le.put {a m : Mem} {p : Addr} {o : MO} (h : Le a m) : Le (up a p o) (up m p o) := fun x u e => by
  by_cases q : x = p
  · subst q; rw [up_same] at e ⊢; exact e
  · rw [up_ne q] at e ⊢; exact h x u e
theorem Le.none {a m : Mem} {p : Addr} (h : Le a m) (n : m p = none) : a p = none := by
  cases q : a p with
  | none => rfl
  | some o => rw [h p o q] at n; cases n
inductive Fg (P : Mem → Prop) (m : Mem) : Prop where
  | mk (a : Mem) (l : Le a m) (h : P a) : Fg P m
theorem Fg.of {P : Mem → Prop} {m : Mem} (h : P m) : Fg P m := ⟨m, .refl m, h⟩
/-- frozen parts -/
def Sub (F H : Hp) : Prop := ∀ a o, F a = some o → H a = some o
theorem Sub.refl (H : Hp) : Sub H H := fun _ _ h => h
theorem Sub.trans {F G H : Hp} (a : Sub F G) (b : Sub G H) : Sub F H := fun x o h => b x o (a x o h)
theorem Sub.gone {F H : Hp} (e : Sub F H) {p : Addr} (h : H p = none) : F p = none := by
  cases q : F p with
  | none => rfl
  | some o => rw [e p o q] at h; cases h
theorem Sub.new {F : Hp} {p : Addr} {o : HO} (h : F p = none) : Sub F (upd F p o) := fun a u e => by
  rw [upd_ne (ne_of_none e h)]; exact e
theorem Sub.upd2 {F H : Hp} {p : Addr} {o : HO} (e : Sub F H) : Sub (upd F p o) (upd H p o) := fun a u h => by
  by_cases ha : a = p
  · subst ha; rw [upd_same] at h ⊢; exact h
  · rw [upd_ne ha] at h ⊢; exact e a u h
theorem Sub.free {F H : Hp} {p : Addr} {o : HO} (e : Sub F H) (h : F p = none) : Sub F (upd H p o) := fun a u ha => by
  rw [upd_ne (ne_of_none ha h)]; exact e a u ha
theorem Sub.in {F H : Hp} {p : Addr} {o : HO} (e : Sub F H) (h : H p = some o) : Sub (upd F p o) H := fun a u ha => by
  by_cases hp : a = p
  · subst hp; rw [upd_same] at ha; cases ha; exact h
  · rw [upd_ne hp] at ha; exact e a u ha
theorem sql_sub {K : PySem.W.Frag} {F H : Hp} {a : Addr} {xs : List V} (e : Sub F H) (h : SqL K F a xs) : SqL K H a xs := by
  rcases h with (h | ⟨o, h⟩) | h
  · exact .inl (.inl (e _ _ h))
  · exact .inl (.inr ⟨o, e _ _ h⟩)
  · exact .inr h
theorem sqt_sub {K : PySem.W.Frag} {F H : Hp} {a : Addr} {xs : List V} (e : Sub F H) (h : SqT K F a xs) : SqT K H a xs := by
  rcases h with (h | ⟨o, h⟩) | h
  · exact .inl (.inl (e _ _ h))
  · exact .inl (.inr ⟨o, e _ _ h⟩)
  · exact .inr h
/-! ### values -/
mutual
inductive VR (K : PySem.W.Frag) (F : Hp) : V → SV → Prop
  | non : VR K F .non .non
  | bl (b : Bool) : VR K F (.bl b) (.bl b)
  | int (i : Int) : VR K F (.int i) (.int i)
  | str (x : Str) : VR K F (.str x) (.str x)
  | ty (n : String) : VR K F (.ty n) (.ty n)
  | ref (a : Addr) : VR K F (.ref a) (.ref a)
  | tup {a : Addr} {vs : List V} {xs : List SV} : SqT K F a vs → VRs K F vs xs → VR K F (.ref a) (.tup xs)
  | lst {a : Addr} {vs : List V} {xs : List SV} : SqL K F a vs → VRs K F vs xs → VR K F (.ref a) (.lst xs)
  | kt {a : Addr} {k : List Key} : F a = some (.tup (k.map kV)) → VR K F (.ref a) (.kt k)
  | ptup {a : Addr} {o : Obj} {vs : List V} {xs : List SV} : F a = some (.frz o (.tup vs)) → o.dict = none → VRs K F vs xs → VR K F (.ref a) (.ptup xs)
inductive VRs (K : PySem.W.Frag) (F : Hp) : List V → List SV → Prop
  | nil : VRs K F [] []
  | cons {v : V} {x : SV} {vs : List V} {xs : List SV} : VR K F v x → VRs K F vs xs → VRs K F (v :: vs) (x :: xs)
end
mutual
theorem vr_sub {K : PySem.W.Frag} {F H : Hp} (e : Sub F H) : ∀ {v : V} {d : SV}, VR K F v d → VR K H v d
  | _, _, .non => .non
  | _, _, .bl b => .bl b
  | _, _, .int i => .int i
  | _, _, .str x => .str x
  | _, _, .ty x => .ty x
  | _, _, .ref x => .ref x
  | _, _, .lst h a => .lst (sql_sub e h) (vrs_sub e a)
  | _, _, .tup h a => .tup (sqt_sub e h) (vrs_sub e a)
  | _, _, .kt h => .kt (e _ _ h)
  | _, _, .ptup h n a => .ptup (e _ _ h) n (vrs_sub e a)
theorem vrs_sub {K : PySem.W.Frag} {F H : Hp} (e : Sub F H) : ∀ {vs : List V} {ds : List SV}, VRs K F vs ds → VRs K H vs ds
  | _, _, .nil => .nil
  | _, _, .cons a b => .cons (vr_sub e a) (vrs_sub e b)
end
section
variable {K : PySem.W.Frag} {F H : Hp}
theorem vrs_length : ∀ {vs : List V} {ds : List SV}, VRs K F vs ds → vs.length = ds.length
  | _, _, .nil => rfl
  | _, _, .cons _ b => by rw [List.length_cons, List.length_cons, vrs_length b]
theorem vrs_get : ∀ {vs : List V} {ds : List SV} {i : Nat} {d : SV}, VRs K F vs ds → ds[i]? = some d → ∃ v, vs[i]? = some v ∧ VR K F v d
  | _, _, _, _, .nil, e => by simp at e
  | _, _, 0, _, .cons r _, e => by simp at e; subst e; exact ⟨_, rfl, r⟩
  | _, _, i + 1, d, .cons _ t, e => by
    obtain ⟨u, h1, h2⟩ := vrs_get (i := i) (d := d) t (by simpa using e)
    exact ⟨u, by simpa using h1, h2⟩
theorem vrs_getV : ∀ {vs : List V} {ds : List SV} {i : Nat} {v : V}, VRs K F vs ds → vs[i]? = some v → ∃ d, ds[i]? = some d ∧ VR K F v d
  | _, _, _, _, .nil, e => by simp at e
  | _, _, 0, _, .cons r _, e => by simp at e; subst e; exact ⟨_, rfl, r⟩
  | _, _, i + 1, v, .cons _ t, e => by
    obtain ⟨u, h1, h2⟩ := vrs_getV (i := i) (v := v) t (by simpa using e)
    exact ⟨u, by simpa using h1, h2⟩
theorem vrs_append : ∀ {vs ws : List V} {ds es : List SV}, VRs K F vs ds → VRs K F ws es → VRs K F (vs ++ ws) (ds ++ es)
  | _, _, _, _, .nil, s => s
  | _, _, _, _, .cons r t, s => .cons r (vrs_append t s)
theorem vrs_take : ∀ {vs : List V} {ds : List SV} (n : Nat), VRs K F vs ds → VRs K F (vs.take n) (ds.take n)
  | _, _, 0, _ => .nil
  | _, _, _ + 1, .nil => .nil
  | _, _, n + 1, .cons r t => .cons r (vrs_take n t)
theorem vrs_drop : ∀ {vs : List V} {ds : List SV} (n : Nat), VRs K F vs ds → VRs K F (vs.drop n) (ds.drop n)
  | _, _, 0, r => r
  | _, _, _ + 1, .nil => .nil
  | _, _, n + 1, .cons _ t => vrs_drop n t
theorem vrs_set : ∀ {vs : List V} {ds : List SV} {v : V} {d : SV} (n : Nat), VRs K F vs ds → VR K F v d → VRs K F (vs.set n v) (ds.set n d)
  | _, _, _, _, _, .nil, _ => .nil
  | _, _, _, _, 0, .cons _ t, r => .cons r t
  | _, _, _, _, n + 1, .cons q t, r => .cons q (vrs_set n t r)
theorem vrs_erase : ∀ {vs : List V} {ds : List SV} (n : Nat), VRs K F vs ds → VRs K F (vs.eraseIdx n) (ds.eraseIdx n)
  | _, _, _, .nil => .nil
  | _, _, 0, .cons _ t => t
  | _, _, n + 1, .cons q t => .cons q (vrs_erase n t)
theorem vrs_ints : ∀ {vs : List V} {ns : List Int}, VRs K F vs (ns.map SV.int) → vs = ns.map V.int
  | _, [], .nil => rfl
  | _, _ :: _, .cons (.int _) t => by rw [vrs_ints t]; rfl
theorem vrs_of_ints : ∀ (ns : List Int), VRs K F (ns.map V.int) (ns.map SV.int)
  | [] => .nil
  | _ :: r => .cons (.int _) (vrs_of_ints r)
theorem vrs_bls : ∀ {vs : List V} {ns : List Bool}, VRs K F vs (ns.map SV.bl) → vs = ns.map V.bl
  | _, [], .nil => rfl
  | _, _ :: _, .cons (.bl _) t => by rw [vrs_bls t]; rfl
theorem vr_int {v : V} {i : Int} (h : VR K F v (.int i)) : v = .int i := by cases h; rfl
theorem vr_bl {v : V} {i : Bool} (h : VR K F v (.bl i)) : v = .bl i := by cases h; rfl
theorem vr_str {v : V} {i : Str} (h : VR K F v (.str i)) : v = .str i := by cases h; rfl
theorem vr_non {v : V} (h : VR K F v .non) : v = .non := by cases h; rfl
theorem vr_ref {v : V} {a : Addr} (h : VR K F v (.ref a)) : v = .ref a := by cases h; rfl
theorem vr_ty {v : V} {n : String} (h : VR K F v (.ty n)) : v = .ty n := by cases h; rfl
end
/-- keyed values -/
inductive KR {κ : Type} (K : PySem.W.Frag) (F : Hp) : List (κ × V) → List (κ × SV) → Prop
  | nil : KR K F [] []
  | cons {k : κ} {v : V} {x : SV} {vs : List (κ × V)} {xs : List (κ × SV)} : VR K F v x → KR K F vs xs → KR K F ((k, v) :: vs) ((k, x) :: xs)
section
variable {K : PySem.W.Frag} {F H : Hp} {κ : Type}
theorem kr_sub (e : Sub F H) : ∀ {vs : List (κ × V)} {xs : List (κ × SV)}, KR K F vs xs → KR K H vs xs
  | _, _, .nil => .nil
  | _, _, .cons a b => .cons (vr_sub e a) (kr_sub e b)
theorem kr_keys : ∀ {vs : List (κ × V)} {xs : List (κ × SV)}, KR K F vs xs → vs.map (·.1) = xs.map (·.1)
  | _, _, .nil => rfl
  | _, _, .cons _ b => by rw [List.map_cons, List.map_cons, kr_keys b]
theorem kr_length {vs : List (κ × V)} {xs : List (κ × SV)} (h : KR K F vs xs) : vs.length = xs.length := by
  have := congrArg List.length (kr_keys h)
  simpa using this
theorem kr_lookup [BEq κ] : ∀ {vs : List (κ × V)} {xs : List (κ × SV)} {k : κ}, KR K F vs xs → match xs.lookup k with | some x => ∃ v, vs.lookup k = some v ∧ VR K F v x | none => vs.lookup k = none
  | _, _, _, .nil => rfl
  | (k', v) :: vs, (_, x) :: xs, k, .cons r t => by
    rw [List.lookup_cons, List.lookup_cons]
    cases k == k' with
    | true => exact ⟨v, rfl, r⟩
    | false => exact kr_lookup t
end
/-! ### the memory -/
/-- what never changes where it stands -/
def Still : HO → Prop
  | .ext _ => True
  | .tup _ => True
  | .own _ => True
  | _ => False
def MOR (K : PySem.W.Frag) (F H : Hp) (m : Mem) (a : Addr) : MO → Prop
  | .lst xs => ∃ vs, H a = some (.lst vs) ∧ VRs K F vs xs
  | .dK kvs => ∃ us, H a = some (.dK us) ∧ KR K F us kvs
  | .dT kvs => ∃ us, H a = some (.dT us) ∧ KR K F us kvs
  | .ins C fs => ∃ dx us, H a = some (.ins C dx us) ∧ H dx = some (.own a) ∧ F dx = none ∧ m dx = none ∧ KR K F us fs
  | .xd fs => ∃ us, H a = some (.xd us) ∧ KR K F us fs
  | .box c => ∃ sv : Int, H a = some (.lst [.ref c, .int sv])
  | .bxi => ∃ ns : List Int, H a = some (.lst (ns.map V.int)) ∧ ns.length ≤ 63
  | .tab nm => NdefX.TabN H a nm
  | .lam mk e d => ∃ (c : Addr) (dV : Value), H a = some (Lm.LamO a (mk c) e dV) ∧ H c = some (LamX.CodeO (mk c).c (mk c).qual) ∧ (mk c).c = c ∧ (match d with | none => dV = .none | some i => ∃ T, dV = .ref T ∧ H T = some (.tup [.int i]))
  | .pred ψ => (∃ u, H a = some u ∧ Still u ∧ ∀ xs, u ≠ .tup xs) ∧ ∀ F' H', Sub F F' → (∀ b u, H b = some u → Still u → H' b = some u) → ψ F' H'
  | .raw o => H a = some o ∧ ∀ xs, o ≠ .tup xs
  | .lk o kvs => H a = some o ∧ ∃ od us, o = .frz od (.dT us) ∧ KR K F us kvs
structure MR (K : PySem.W.Frag) (F H : Hp) (m : Mem) : Prop where
  sub : Sub F H
  at_ : ∀ a o, m a = some o → F a = none ∧ MOR K F H m a o
section
variable {K : PySem.W.Frag} {F H F' H' : Hp} {m m' : Mem} {a p : Addr} {o : MO} {ho : HO}
theorem mor_some : ∀ {o : MO}, MOR K F H m a o → ∃ u, H a = some u
  | .lst _, ⟨_, h, _⟩ => ⟨_, h⟩
  | .dK _, ⟨_, h, _⟩ => ⟨_, h⟩
  | .dT _, ⟨_, h, _⟩ => ⟨_, h⟩
  | .ins _ _, ⟨_, _, h, _⟩ => ⟨_, h⟩
  | .xd _, ⟨_, h, _⟩ => ⟨_, h⟩
  | .box _, ⟨_, h⟩ => ⟨_, h⟩
  | .bxi, ⟨_, h, _⟩ => ⟨_, h⟩
  | .tab _, ⟨_, h, _⟩ => ⟨_, h⟩
  | .lam _ _ _, ⟨_, _, h, _⟩ => ⟨_, h⟩
  | .pred _, ⟨⟨u, h, _⟩, _⟩ => ⟨u, h⟩
  | .raw _, h => ⟨_, h.1⟩
  | .lk _ _, h => ⟨_, h.1⟩
theorem MR.have_ (M : MR K F H m) (h : m a = some o) : ∃ u, H a = some u := mor_some (M.at_ a o h).2
theorem MR.gone (M : MR K F H m) (h : H p = none) : m p = none := by
  cases q : m p with
  | none => rfl
  | some o =>
    obtain ⟨u, z⟩ := M.have_ q
    rw [h] at z; cases z
/-- another frame: what is tracked stays as it is, the frozen part grows where nothing is owned -/
theorem mor_keep (sF : Sub F F') (hm : ∀ b, m b = none → (∀ o', m' b = some o' → False) ∨ b = p) (hH : ∀ b u, b ≠ p → H b = some u → H' b = some u) (hp : ∀ u, H p = some u → ¬ Still u)
    (hF : ∀ b u, H b = some u → F b = none → F' b = none) : ∀ {o : MO}, a ≠ p → MOR K F H m a o → MOR K F' H' m' a o := fun {o} n h => by
  have key : ∀ b u, H b = some u → m b = none → b ≠ p → m' b = none := fun b u hb mb np => by
    cases q : m' b with
    | none => rfl
    | some o' =>
      rcases hm b mb with z | z
      · exact (z o' q).elim
      · exact (np z).elim
  have still : ∀ b u, H b = some u → Still u → H' b = some u := fun b u e1 e2 => hH b u (fun z => hp u (by rw [← z]; exact e1) e2) e1
  cases o with
  | lst xs => obtain ⟨vs, h1, h2⟩ := h; exact ⟨vs, hH _ _ n h1, vrs_sub sF h2⟩
  | dK xs => obtain ⟨vs, h1, h2⟩ := h; exact ⟨vs, hH _ _ n h1, kr_sub sF h2⟩
  | dT xs => obtain ⟨vs, h1, h2⟩ := h; exact ⟨vs, hH _ _ n h1, kr_sub sF h2⟩
  | xd xs => obtain ⟨vs, h1, h2⟩ := h; exact ⟨vs, hH _ _ n h1, kr_sub sF h2⟩
  | ins C fs =>
    obtain ⟨dx, us, h1, h2, h3, h4, h5⟩ := h
    have nd : dx ≠ p := fun z => by subst z; exact hp _ h2 trivial
    exact ⟨dx, us, hH _ _ n h1, hH _ _ nd h2, hF _ _ h2 h3, key _ _ h2 h4 nd, kr_sub sF h5⟩
  | box c => obtain ⟨sv, h1⟩ := h; exact ⟨sv, hH _ _ n h1⟩
  | bxi => obtain ⟨ns, h1, h2⟩ := h; exact ⟨ns, hH _ _ n h1, h2⟩
  | tab nm =>
    obtain ⟨ps, h1, h2, h3⟩ := h
    refine ⟨ps, hH _ _ n h1, h2, fun pos cv hc => ?_⟩
    obtain ⟨c, e1, e2⟩ := h3 pos cv hc
    exact ⟨c, e1, still _ _ e2 trivial⟩
  | lam mk e d =>
    obtain ⟨c, dV, h1, h2, h3, h4⟩ := h
    refine ⟨c, dV, hH _ _ n h1, still _ _ h2 trivial, h3, ?_⟩
    cases d with
    | none => exact h4
    | some i =>
      obtain ⟨T, e1, e2⟩ := h4
      exact ⟨T, e1, still _ _ e2 trivial⟩
  | pred ψ =>
    obtain ⟨⟨u, h1, h2⟩, h3⟩ := h
    exact ⟨⟨u, hH _ _ n h1, h2⟩, fun F2 H2 s2 k2 => h3 F2 H2 (sF.trans s2) fun b u' e1 e2 => k2 b u' (still b u' e1 e2) e2⟩
  | raw u => exact ⟨hH _ _ n h.1, h.2⟩
  | lk u kvs =>
    obtain ⟨h1, od, us, h2, h3⟩ := h
    exact ⟨hH _ _ n h1, od, us, h2, kr_sub sF h3⟩
/-- an owned cell changes -/
theorem MR.put {o0 : MO} (M : MR K F H m) (h0 : m a = some o0) (hown : ∀ u, H a = some u → ¬ Still u) (n : MOR K F (upd H a ho) (up m a o) a o) : MR K F (upd H a ho) (up m a o) where
  sub := M.sub.free (M.at_ a o0 h0).1
  at_ := fun b u hb => by
    by_cases e : b = a
    · subst e
      rw [up_same] at hb; cases hb
      exact ⟨(M.at_ b o0 h0).1, n⟩
    · rw [up_ne e] at hb
      refine ⟨(M.at_ b u hb).1, mor_keep (p := a) (.refl F) (fun c hc => ?_) (fun c u q1 q2 => (upd_ne q1).trans q2) hown (fun _ _ _ z => z) e (M.at_ b u hb).2⟩
      by_cases e2 : c = a
      · exact .inr e2
      · exact .inl fun o' z => by rw [up_ne e2, hc] at z; cases z
/-- an owned cell is told of in another way -/
theorem MR.reab {o0 : MO} (M : MR K F H m) (h0 : m a = some o0) (hown : ∀ u, H a = some u → ¬ Still u) (n : MOR K F H (up m a o) a o) : MR K F H (up m a o) where
  sub := M.sub
  at_ := fun b u hb => by
    by_cases e : b = a
    · subst e
      rw [up_same] at hb; cases hb
      exact ⟨(M.at_ b o0 h0).1, n⟩
    · rw [up_ne e] at hb
      refine ⟨(M.at_ b u hb).1, mor_keep (p := a) (.refl F) (fun c hc => ?_) (fun c u q1 q2 => q2) hown (fun _ _ _ z => z) e (M.at_ b u hb).2⟩
      by_cases e2 : c = a
      · exact .inr e2
      · exact .inl fun o' z => by rw [up_ne e2, hc] at z; cases z
/-- a thing that stands already is owned from now on -/
theorem MR.adopt (M : MR K F H m) (h0 : m a = none) (hF : F a = none) (hn : ∀ x, H a ≠ some (.own x)) (n : MOR K F H (up m a o) a o) : MR K F H (up m a o) where
  sub := M.sub
  at_ := fun b u hb => by
    by_cases e : b = a
    · subst e
      rw [up_same] at hb; cases hb
      exact ⟨hF, n⟩
    · rw [up_ne e] at hb
      obtain ⟨z1, z2⟩ := M.at_ b u hb
      refine ⟨z1, ?_⟩
      cases u with
      | ins C fs =>
        obtain ⟨dx, us, h1, h2, h3, h4, h5⟩ := z2
        exact ⟨dx, us, h1, h2, h3, by rw [up_ne (fun q => hn _ (by rw [← q]; exact h2))]; exact h4, h5⟩
      | _ => exact z2
/-- a lambda's making: the table at P grows, other things stay -/
theorem MR.table {P : Addr} {nm : Nat → Nat → Str} {H1 : Hp} (M : MR K F H m) (hP : m P = some (.tab nm)) (k : ∀ b o, b ≠ P → H b = some o → H1 b = some o) (t : NdefX.TabN H1 P nm) : MR K F H1 m where
  sub := fun b o e => k b o (fun z => by rw [z, (M.at_ P _ hP).1] at e; cases e) (M.sub b o e)
  at_ := fun b u hb => by
    obtain ⟨z1, z2⟩ := M.at_ b u hb
    refine ⟨z1, ?_⟩
    by_cases e : b = P
    · subst e
      rw [hP] at hb; cases hb
      exact t
    · exact mor_keep (p := P) (.refl F) (fun c hc => .inl fun o' z => by rw [hc] at z; cases z) (fun c u q1 q2 => k c u q1 q2) (fun u hu => by
        obtain ⟨ps, h1, _⟩ := (M.at_ P _ hP).2
        rw [h1] at hu; cases hu; exact fun z => z) (fun _ _ _ z => z) e z2
/-- a new owned cell -/
theorem MR.new_ (M : MR K F H m) (hp : H p = none) (n : MOR K F (upd H p ho) (up m p o) p o) : MR K F (upd H p ho) (up m p o) where
  sub := M.sub.free (M.sub.gone hp)
  at_ := fun b u hb => by
    by_cases e : b = p
    · subst e
      rw [up_same] at hb; cases hb
      exact ⟨M.sub.gone hp, n⟩
    · rw [up_ne e] at hb
      refine ⟨(M.at_ b u hb).1, mor_keep (p := p) (.refl F) (fun c hc => ?_) (fun c u q1 q2 => (upd_ne q1).trans q2) (fun u z => by rw [hp] at z; cases z) (fun _ _ _ z => z) e (M.at_ b u hb).2⟩
      by_cases e2 : c = p
      · exact .inr e2
      · exact .inl fun o' z => by rw [up_ne e2, hc] at z; cases z
/-- a new thing that isn't told of -/
theorem MR.hid (M : MR K F H m) (hp : H p = none) : MR K F (upd H p ho) m where
  sub := M.sub.free (M.sub.gone hp)
  at_ := fun b u hb => ⟨(M.at_ b u hb).1, mor_keep (p := p) (.refl F) (fun c hc => .inl fun o' z => by rw [hc] at z; cases z) (fun c u q1 q2 => (upd_ne q1).trans q2) (fun u z => by rw [hp] at z; cases z) (fun _ _ _ z => z) (fun e => by
    subst e
    obtain ⟨u, z⟩ := M.have_ hb
    rw [hp] at z; cases z) (M.at_ b u hb).2⟩
/-- a new frozen thing -/
theorem MR.frz (M : MR K F H m) (hp : H p = none) : MR K (upd F p ho) (upd H p ho) m where
  sub := M.sub.upd2
  at_ := fun b u hb => by
    have nb : b ≠ p := fun e => by
      subst e
      obtain ⟨u, z⟩ := M.have_ hb
      rw [hp] at z; cases z
    exact ⟨(upd_ne nb).trans (M.at_ b u hb).1, mor_keep (p := p) (Sub.new (M.sub.gone hp)) (fun c hc => .inl fun o' z => by rw [hc] at z; cases z) (fun c u q1 q2 => (upd_ne q1).trans q2) (fun u z => by rw [hp] at z; cases z) 
      (fun c u q1 q2 => (upd_ne (ne_of_none q1 hp)).trans q2) nb (M.at_ b u hb).2⟩
/-- cells are forgotten -/
theorem MR.drop (M : MR K F H m) (h : ∀ b o, m' b = some o → m b = some o) : MR K F H m' where
  sub := M.sub
  at_ := fun b u hb => by
    have z := M.at_ b u (h b u hb)
    refine ⟨z.1, ?_⟩
    have w := z.2
    have key : ∀ c, m c = none → m' c = none := fun c hc => by
      cases q : m' c with
      | none => rfl
      | some o' => rw [h c o' q] at hc; cases hc
    cases u with
    | ins C fs => obtain ⟨dx, us, h1, h2, h3, h4, h5⟩ := w; exact ⟨dx, us, h1, h2, h3, key _ h4, h5⟩
    | _ => exact w
def del (m : Mem) (a : Addr) : Mem := fun b => if b = a then none else m b
theorem MR.lst_ {xs : List SV} (M : MR K F H m) (h : m a = some (.lst xs)) : ∃ vs, H a = some (.lst vs) ∧ VRs K F vs xs := (M.at_ a _ h).2
theorem MR.nown {xs : List SV} (M : MR K F H m) (h : m a = some (.lst xs)) : ∀ u, H a = some u → ¬ Still u := fun u hu x => by
  obtain ⟨vs, z, _⟩ := M.lst_ h
  rw [z] at hu; cases hu; exact x
/-- a list gets another content -/
theorem MR.setL {xs ys : List SV} {ws : List V} (M : MR K F H m) (h : m a = some (.lst xs)) (r : VRs K F ws ys) : MR K F (upd H a (.lst ws)) (up m a (.lst ys)) := M.put h (M.nown h) ⟨ws, upd_same, r⟩
theorem MR.newL {ys : List SV} {ws : List V} (M : MR K F H m) (hp : H p = none) (r : VRs K F ws ys) : MR K F (upd H p (.lst ws)) (up m p (.lst ys)) := M.new_ hp ⟨ws, upd_same, r⟩
end
/-! ### slots -/
abbrev DS := List (Option SV)
structure SR (K : PySem.W.Frag) (F : Hp) (σ : L2.St) (δ : DS) : Prop where
  len : σ.length = δ.length
  at_ : ∀ (i : Nat) (d : SV), δ[i]? = some (some d) → ∃ v, σ[i]? = some (some v) ∧ VR K F v d
section
variable {K : PySem.W.Frag} {F F' H : Hp} {σ : L2.St} {δ : DS}
theorem SR.sub (h : SR K F σ δ) (s : Sub F F') : SR K F' σ δ := ⟨h.len, fun i d e => by
  obtain ⟨v, h1, h2⟩ := h.at_ i d e
  exact ⟨v, h1, vr_sub s h2⟩⟩
theorem SR.set {i : Nat} {v : V} {d : SV} (h : SR K F σ δ) (dv : VR K F v d) : SR K F (σ.set i (some v)) (δ.set i (some d)) := ⟨by rw [List.length_set, List.length_set]; exact h.len, fun j e hj => by
  by_cases hji : i = j
  · subst hji
    by_cases hl : i < δ.length
    · rw [List.getElem?_set_self hl] at hj
      cases hj
      exact ⟨v, List.getElem?_set_self (by rw [h.len]; exact hl), dv⟩
    · rw [List.getElem?_eq_none (by rw [List.length_set]; omega)] at hj
      cases hj
  · rw [List.getElem?_set_ne hji] at hj ⊢
    exact h.at_ j e hj⟩
theorem SR.setNo {i : Nat} {v : Option V} (h : SR K F σ δ) : SR K F (σ.set i v) (δ.set i none) := ⟨by rw [List.length_set, List.length_set]; exact h.len, fun j e hj => by
  by_cases hji : i = j
  · subst hji
    by_cases hl : i < δ.length
    · rw [List.getElem?_set_self hl] at hj
      cases hj
    · rw [List.getElem?_eq_none (by rw [List.length_set]; omega)] at hj
      cases hj
  · rw [List.getElem?_set_ne hji] at hj ⊢
    exact h.at_ j e hj⟩
def wipeD (δ : DS) : List Nat → DS
  | [] => δ
  | v :: vs => (wipeD δ vs).set v none
theorem SR.wipe (h : SR K F σ δ) : ∀ vs : List Nat, SR K F (L2.wipe σ vs) (wipeD δ vs)
  | [] => h
  | _ :: vs => (h.wipe vs).setNo
def startD (n : Nat) (ds : List SV) : DS := ds.map some ++ List.replicate (n - ds.length) none
theorem SR.start {N : List Str} {vs : List V} {ds : List SV} (h : VRs K F vs ds) : SR K F (L2.start N vs) (startD N.length ds) := ⟨by
  unfold L2.start startD
  rw [List.length_append, List.length_append, List.length_map, List.length_map, List.length_replicate, List.length_replicate, vrs_length h], fun i d e => by
  unfold startD at e
  unfold L2.start
  by_cases hi : i < ds.length
  · rw [List.getElem?_append_left (by rw [List.length_map]; exact hi), List.getElem?_map] at e
    obtain ⟨d', h1, h2⟩ := Option.map_eq_some_iff.mp e
    cases h2
    obtain ⟨v, h3, h4⟩ := vrs_get h h1
    refine ⟨v, ?_, h4⟩
    rw [List.getElem?_append_left (by rw [List.length_map, vrs_length h]; exact hi), List.getElem?_map, h3]
    rfl
  · rw [List.getElem?_append_right (by rw [List.length_map]; omega), List.getElem?_replicate] at e
    split at e <;> cases e⟩
end
end Sy

set_option Elab.async false
set_option linter.all false
set_option maxRecDepth 100000
set_option maxHeartbeats 4000000
/-! Readings told over symbolic values: expressions. -/
namespace Sy
open PySem PySem.Spec PyProof.Rows L2
/-- an exception: its class, its fields (none: no dict of its own) -/
structure XO where
  cls : Addr
  fs : Option (List (Str × SV)) := none
abbrev SXK := XO → Mem → Prop
def XOk (K : PySem.W.Frag) (F H : Hp) (m : Mem) (d : Option Addr) (x : XO) : Prop := match x.fs with
  | none => d = none
  | some fs => ∃ (dd : Addr) (us : List (Str × V)), d = some dd ∧ H dd = some (.xd us) ∧ F dd = none ∧ m dd = none ∧ KR K F us fs
def ExOk (K : PySem.W.Frag) (F : Hp) (E : XK) (SX : SXK) : Prop := ∀ x d F' H' m', Sub F F' → MR K F' H' m' → XOk K F' H' m' d x → SX x m' → E (.ref x.cls) d H'
theorem ExOk.go {K : PySem.W.Frag} {F F' : Hp} {E : XK} {SX : SXK} (h : ExOk K F E SX) (s : Sub F F') : ExOk K F' E SX := fun x d F2 H2 m2 s2 => h x d F2 H2 m2 (s.trans s2)
theorem ExOk.fg {K : PySem.W.Frag} {F : Hp} {E : XK} {SX : SXK} (h : ExOk K F E SX) : ExOk K F E (fun x => Fg (SX x)) := fun x d F' H' m' s M hx ⟨m2, l2, q⟩ => h x d F' H' m2 s (M.drop l2) (by
  unfold XOk at hx ⊢
  cases e : x.fs with
  | none => rw [e] at hx; exact hx
  | some fs =>
    rw [e] at hx
    obtain ⟨dd, us, h1, h2, h3, h4, h5⟩ := hx
    exact ⟨dd, us, h1, h2, h3, l2.none h4, h5⟩) q
/-- the state: slots, memory, the wish of exceptions -/
structure Rl (K : PySem.W.Frag) (E : XK) (σ : L2.St) (F H : Hp) (δ : DS) (m : Mem) (SX : SXK) : Prop where
  sr : SR K F σ δ
  mr : MR K F H m
  ex : ExOk K F E SX
section
variable {K : PySem.W.Frag} {E : XK} {σ σ' : L2.St} {F F' H H' : Hp} {δ δ' : DS} {m m' : Mem} {SX : SXK}
theorem Rl.go (r : Rl K E σ F H δ m SX) (s : Sub F F') (M : MR K F' H' m') : Rl K E σ F' H' δ m' SX := ⟨r.sr.sub s, M, r.ex.go s⟩
end
abbrev SE := SXK → DS → Mem → (SV → Mem → Prop) → Prop
abbrev SA := SXK → DS → Mem → (List SV → Mem → Prop) → Prop
abbrev STt := SXK → DS → Mem → (Bool → Mem → Prop) → Prop
def Cn (K : PySem.W.Frag) (F : Hp) (S : SV → Mem → Prop) (Q : VK) : Prop := ∀ v F' H' sv m', Sub F F' → MR K F' H' m' → VR K F' v sv → S sv m' → Q v H'
def CnA (K : PySem.W.Frag) (F : Hp) (S : List SV → Mem → Prop) (Q : List V → Hp → Prop) : Prop := ∀ v F' H' sv m', Sub F F' → MR K F' H' m' → VRs K F' v sv → S sv m' → Q v H'
def CnT (K : PySem.W.Frag) (F : Hp) (S : Bool → Mem → Prop) (Q : Bool → Hp → Prop) : Prop := ∀ b F' H' m', Sub F F' → MR K F' H' m' → S b m' → Q b H'
theorem Cn.go {K : PySem.W.Frag} {F F' : Hp} {S : SV → Mem → Prop} {Q : VK} (c : Cn K F S Q) (s : Sub F F') : Cn K F' S Q := fun v F2 H2 sv m2 s2 => c v F2 H2 sv m2 (s.trans s2)
theorem CnT.go {K : PySem.W.Frag} {F F' : Hp} {S : Bool → Mem → Prop} {Q : Bool → Hp → Prop} (c : CnT K F S Q) (s : Sub F F') : CnT K F' S Q := fun v F2 H2 m2 s2 => c v F2 H2 m2 (s.trans s2)
def SimE (K : PySem.W.Frag) (E : XK) (te : TE) (se : SE) : Prop := ∀ σ F H δ m SX S Q, Rl K E σ F H δ m SX → se SX δ m S → Cn K F S Q → te σ H Q
def SimA (K : PySem.W.Frag) (E : XK) (te : TA) (se : SA) : Prop := ∀ σ F H δ m SX S Q, Rl K E σ F H δ m SX → se SX δ m S → CnA K F S Q → te σ H Q
def SimT (K : PySem.W.Frag) (E : XK) (te : TT) (se : STt) : Prop := ∀ σ F H δ m SX S Q, Rl K E σ F H δ m SX → se SX δ m S → CnT K F S Q → te σ H Q
structure GE (K : PySem.W.Frag) (E : XK) (X : Cx) (e : Expr) (te : TE) (se : SE) : Prop where
  pe : PE X e te
  sim : SimE K E te se
structure GT (K : PySem.W.Frag) (E : XK) (X : Cx) (e : Expr) (te : TT) (se : STt) : Prop where
  pe : PT X e te
  sim : SimT K E te se
structure GW (K : PySem.W.Frag) (E : XK) (X : Cx) (e : Expr) (te : TT) (se : STt) : Prop where
  pe : PW X e te
  sim : SimT K E te se
structure GA (K : PySem.W.Frag) (E : XK) (X : Cx) (e : List Expr) (te : TA) (se : SA) : Prop where
  pe : PA X e te
  sim : SimA K E te se
abbrev SR2 := SV → SV → Mem → (SV → Mem → Prop) → Prop
def SimR (K : PySem.W.Frag) (r : R2) (s : SR2) : Prop := ∀ F H m x y a b S Q, MR K F H m → VR K F x a → VR K F y b → s a b m S → Cn K F S Q → r x y H Q
abbrev SR1 := SV → Mem → (SV → Mem → Prop) → Prop
def SimU (K : PySem.W.Frag) (r : V → Hp → VK → Prop) (s : SR1) : Prop := ∀ F H m x a S Q, MR K F H m → VR K F x a → s a m S → Cn K F S Q → r x H Q
abbrev SRC := List SV → Mem → (SV → Mem → Prop) → Prop
def SimC (K : PySem.W.Frag) (r : List V → Hp → VK → Prop) (s : SRC) : Prop := ∀ F H m xs as S Q, MR K F H m → VRs K F xs as → s as m S → Cn K F S Q → r xs H Q
abbrev SRM := SV → List SV → Mem → (SV → Mem → Prop) → Prop
def SimM (K : PySem.W.Frag) (r : V → List V → Hp → VK → Prop) (s : SRM) : Prop := ∀ F H m x xs a as S Q, MR K F H m → VR K F x a → VRs K F xs as → s a as m S → Cn K F S Q → r x xs H Q
/-! ### combinators -/
def sVar (i : Nat) : SE := fun _ δ m S => match δ[i]? with
  | some (some v) => S v m
  | _ => False
def sC (v : SV) : SE := fun _ _ m S => S v m
def sOp (r : SR2) (a b : SE) : SE := fun SX δ m S => a SX δ m fun x m1 => b SX δ m1 fun y m2 => r x y m2 S
def sUn (r : SR1) (a : SE) : SE := fun SX δ m S => a SX δ m fun x m1 => r x m1 S
/-- a branch -/
@[irreducible] def Br (b : Bool) (A B : Prop) : Prop := if b = true then A else B
theorem Br_t {A B : Prop} (h : A) : Br true A B := by unfold Br; exact h
theorem Br_f {A B : Prop} (h : B) : Br false A B := by unfold Br; exact h
theorem Br_i {b : Bool} {A B : Prop} (h1 : b = true → A) (h2 : b = false → B) : Br b A B := by
  cases b with
  | true => exact Br_t (h1 rfl)
  | false => exact Br_f (h2 rfl)
theorem Br_eq {b : Bool} {A B : Prop} : Br b A B = (if b = true then A else B) := by unfold Br; rfl
def sB (a : SE) : STt := fun SX δ m S => a SX δ m fun x m1 => match x with
  | .bl b => S b m1
  | _ => False
def sAnd (t u : STt) : STt := fun SX δ m S => t SX δ m fun c m1 => Br c (u SX δ m1 S) (S false m1)
def sOr (t u : STt) : STt := fun SX δ m S => t SX δ m fun c m1 => Br c (S true m1) (u SX δ m1 S)
def sNot (t : STt) : STt := fun SX δ m S => t SX δ m fun c m1 => S (!c) m1
def sAndV (a b : SE) : SE := fun SX δ m S => a SX δ m fun x m1 => match x with
  | .bl c => Br c (b SX δ m1 S) (S (.bl false) m1)
  | _ => False
def sOrV (a b : SE) : SE := fun SX δ m S => a SX δ m fun x m1 => match x with
  | .bl c => Br c (S (.bl true) m1) (b SX δ m1 S)
  | _ => False
def sNotV (a : SE) : SE := fun SX δ m S => a SX δ m fun x m1 => match x with
  | .bl c => S (.bl (!c)) m1
  | _ => False
def sIfE (t : STt) (a b : SE) : SE := fun SX δ m S => t SX δ m fun c m1 => Br c (a SX δ m1 S) (b SX δ m1 S)
def sNil : SA := fun _ _ m S => S [] m
def sCons (a : SE) (r : SA) : SA := fun SX δ m S => a SX δ m fun x m1 => r SX δ m1 fun xs m2 => S (x :: xs) m2
def sTup (a : SA) : SE := fun SX δ m S => a SX δ m fun xs m1 => xs.length ≤ sizeLine ∧ S (.tup xs) m1
def sLst (a : SA) : SE := fun SX δ m S => a SX δ m fun xs m1 => xs.length ≤ sizeLine ∧ ∀ p, m1 p = none → S (.ref p) (up m1 p (.lst xs))
def sChain (r r' : SR2) (a b c : SE) : SE := fun SX δ m S => a SX δ m fun x m1 => b SX δ m1 fun y m2 => r x y m2 fun z m3 => match z with
  | .bl k => Br k (c SX δ m3 fun w m4 => r' y w m4 S) (S (.bl false) m3)
  | _ => False
section
variable {K : PySem.W.Frag} {E : XK} {X : Cx} {a b c e : Expr} {es : List Expr} {ta tb tc te : TE} {sa sb sc se : SE} {pos : Pos} {t u : TT} {st su : STt} {tl : TA} {sl : SA}
theorem ge_var {i : Nat} {x : Str} (hN : X.N[i]? = some x) (hv : Vis X.env.scope x) (hd : (x == ("__debug__" : Str)) = false := by decide) (hcd : (x == ("__classdict__" : Str)) = false := by decide) : GE K E X (.Name x pos) (tVar i) (sVar i) :=
  ⟨pe_var hN hv hd hcd, fun σ F H δ m SX S Q r h c => by
    unfold sVar at h
    split at h
    · next v e =>
      obtain ⟨w, h1, h2⟩ := r.sr.at_ i v e
      exact ⟨w, h1, c w F H v m (.refl F) r.mr h2 h⟩
    · exact h.elim⟩
theorem sim_c {v : V} {d : SV} (hd : ∀ F, VR K F v d) : SimE K E (tC v) (sC d) := fun σ F H δ m SX S Q r h c => c v F H d m (.refl F) r.mr (hd F) h
theorem ge_int {i j} : GE K E X (.Constant (.int i) j pos) (tC (.int i)) (sC (.int i)) := ⟨pe_int, sim_c fun _ => .int _⟩
theorem ge_bl {i j} : GE K E X (.Constant (.bool i) j pos) (tC (.bl i)) (sC (.bl i)) := ⟨pe_bl, sim_c fun _ => .bl _⟩
theorem ge_non {j} : GE K E X (.Constant .none j pos) (tC .non) (sC .non) := ⟨pe_non, sim_c fun _ => .non⟩
theorem ge_str {i j} : GE K E X (.Constant (.str i) j pos) (tC (.str i)) (sC (.str i)) := ⟨pe_str, sim_c fun _ => .str _⟩
theorem ge_gi {x : Str} {i : Int} (hg : Gl X x) (h : ∃ t, X.mg x = some (.int i t)) (hd : (x == ("__debug__" : Str)) = false := by decide) : GE K E X (.Name x pos) (tC (.int i)) (sC (.int i)) := by
  obtain ⟨t, ht⟩ := h
  exact ⟨pe_glob (v := .int i) hg ht ⟨t, rfl⟩ hd, sim_c fun _ => .int _⟩
theorem ge_gr {x : Str} {p : Addr} (hg : Gl X x) (h : X.mg x = some (.ref p)) (hd : (x == ("__debug__" : Str)) = false := by decide) : GE K E X (.Name x pos) (tC (.ref p)) (sC (.ref p)) := ⟨pe_glob (v := .ref p) hg h rfl hd, sim_c fun _ => .ref _⟩
theorem ge_ty {x : Str} {n : String} (hg : Gl X x) (hm : X.mg x = none) (hv : bootBuiltins x = some (.type n)) (hn : x ≠ "__name__" := by decide) (hd : (x == ("__debug__" : Str)) = false := by decide) : GE K E X (.Name x pos) (tC (.ty n)) (sC (.ty n)) :=
  ⟨pe_bltn (v := .ty n) hg hm hv rfl hn hd, sim_c fun _ => .ty _⟩
theorem sim_op {r : R2} {s : SR2} (hr : SimR K r s) (ha : SimE K E ta sa) (hb : SimE K E tb sb) : SimE K E (tOp r ta tb) (sOp s sa sb) := fun σ F H δ m SX S Q q h c =>
  ha σ F H δ m SX _ _ q h fun x F1 H1 sx m1 s1 M1 v1 h1 => hb σ F1 H1 δ m1 SX _ _ (q.go s1 M1) h1 fun y F2 H2 sy m2 s2 M2 v2 h2 =>
    hr F2 H2 m2 x y sx sy S Q M2 (vr_sub s2 v1) v2 h2 (c.go (s1.trans s2))
theorem ge_op {op : Operator} {r : R2} {s : SR2} (ho : OpR X (binaryOp op) r) (hr : SimR K r s) (ha : GE K E X a ta sa) (hb : GE K E X b tb sb) : GE K E X (.BinOp a op b pos) (tOp r ta tb) (sOp s sa sb) := ⟨pe_op ho ha.pe hb.pe, sim_op hr ha.sim hb.sim⟩
theorem ge_cmp {op : CmpOp} {r : R2} {s : SR2} (ho : OpR X (compareOp op) r) (hr : SimR K r s) (ha : GE K E X a ta sa) (hb : GE K E X b tb sb) (hm : behindInMarks op b = false) : GE K E X (.Compare a [op] [b] pos) (tOp r ta tb) (sOp s sa sb) := ⟨pe_cmpR ho ha.pe hb.pe hm, sim_op hr ha.sim hb.sim⟩
theorem sim_test (h : SimE K E te se) : SimT K E (tTest te) (sB se) := fun σ F H δ m SX S Q r q c =>
  h σ F H δ m SX _ _ r q fun v F1 H1 sv m1 s1 M1 v1 h1 => by
    cases v1 with
    | bl b => exact ⟨b, rfl, c b F1 H1 m1 s1 M1 h1⟩
    | _ => exact (show False from h1).elim
theorem gt_cmp {op : CmpOp} {r : R2} {s : SR2} (ho : OpR X (compareOp op) r) (hr : SimR K r s) (ha : GE K E X a ta sa) (hb : GE K E X b tb sb) (hm : behindInMarks op b = false) : GT K E X (.Compare a [op] [b] pos) (tTest (tOp r ta tb)) (sB (sOp s sa sb)) := ⟨pt_cmpR ho ha.pe hb.pe hm, sim_test (sim_op hr ha.sim hb.sim)⟩
theorem sim_chain {r r' : R2} {s s' : SR2} (hr : SimR K r s) (hr' : SimR K r' s') (ha : SimE K E ta sa) (hb : SimE K E tb sb) (hc : SimE K E tc sc) : SimE K E (tChain r r' ta tb tc) (sChain s s' sa sb sc) := fun σ F H δ m SX S Q q h c =>
  ha σ F H δ m SX _ _ q h fun x F1 H1 sx m1 s1 M1 v1 h1 => hb σ F1 H1 δ m1 SX _ _ (q.go s1 M1) h1 fun y F2 H2 sy m2 s2 M2 v2 h2 =>
    hr F2 H2 m2 x y sx sy _ _ M2 (vr_sub s2 v1) v2 h2 fun z F3 H3 sz m3 s3 M3 v3 h3 => by
      cases v3 with
      | bl k =>
        refine ⟨k, rfl, ?_⟩
        have h3 : Br k _ _ := h3
        rw [Br_eq] at h3
        have s13 := (s1.trans s2).trans s3
        split
        · next e =>
          rw [if_pos e] at h3
          exact hc σ F3 H3 δ m3 SX _ _ (q.go s13 M3) h3 fun w F4 H4 sw m4 s4 M4 v4 h4 => hr' F4 H4 m4 y w sy sw S Q M4 (vr_sub (s3.trans s4) v2) v4 h4 (c.go (s13.trans s4))
        · next e =>
          rw [if_neg e] at h3
          exact c _ F3 H3 _ m3 s13 M3 (.bl false) h3
      | _ => exact (show False from h3).elim
theorem ge_chain {op op' : CmpOp} {r r' : R2} {s s' : SR2} (ho : OpR X (compareOp op) r) (ho' : OpR X (compareOp op') r') (hr : SimR K r s) (hr' : SimR K r' s') (ha : GE K E X a ta sa) (hb : GE K E X b tb sb) (hc : GE K E X c tc sc)
    (hm : lastMarks [op, op'] [b, c] = false := by with_unfolding_all rfl) : GE K E X (.Compare a [op, op'] [b, c] pos) (tChain r r' ta tb tc) (sChain s s' sa sb sc) := ⟨pe_chain ho ho' ha.pe hb.pe hc.pe hm, sim_chain hr hr' ha.sim hb.sim hc.sim⟩
theorem sim_val (h : SimE K E te se) : SimT K E (tB te) (sB se) := fun σ F H δ m SX S Q r q c =>
  h σ F H δ m SX _ _ r q fun v F1 H1 sv m1 s1 M1 v1 h1 => by
    cases v1 with
    | bl b => exact ⟨b, rfl, c b F1 H1 m1 s1 M1 h1⟩
    | _ => exact (show False from h1).elim
theorem gt_val (h : GE K E X e te se) (he : ∀ whole, isTrue e X.env whole = (do let v ← whole; standAt e.pos; holding [v] (truthy v)) := by intro _; rfl) : GT K E X e (tB te) (sB se) := ⟨pt_val h.pe he, sim_val h.sim⟩
theorem sim_and (ha : SimT K E t st) (hb : SimT K E u su) : SimT K E (tAnd t u) (sAnd st su) := fun σ F H δ m SX S Q r q c =>
  ha σ F H δ m SX _ _ r q fun b F1 H1 m1 s1 M1 h1 => by
    rw [Br_eq] at h1
    split
    · next e => rw [if_pos e] at h1; exact hb σ F1 H1 δ m1 SX S Q (r.go s1 M1) h1 (c.go s1)
    · next e => rw [if_neg e] at h1; exact c false F1 H1 m1 s1 M1 h1
theorem sim_or (ha : SimT K E t st) (hb : SimT K E u su) : SimT K E (tOr t u) (sOr st su) := fun σ F H δ m SX S Q r q c =>
  ha σ F H δ m SX _ _ r q fun b F1 H1 m1 s1 M1 h1 => by
    rw [Br_eq] at h1
    split
    · next e => rw [if_pos e] at h1; exact c true F1 H1 m1 s1 M1 h1
    · next e => rw [if_neg e] at h1; exact hb σ F1 H1 δ m1 SX S Q (r.go s1 M1) h1 (c.go s1)
theorem gw_pt (h : GW K E X e t st) : GT K E X e t st := ⟨h.pe.pt, h.sim⟩
theorem gw_and1 (h : GT K E X a t st) : GW K E X (.BoolOp .And [a] pos) t st := ⟨pw_and1 h.pe, h.sim⟩
theorem gw_or1 (h : GT K E X a t st) : GW K E X (.BoolOp .Or [a] pos) t st := ⟨pw_or1 h.pe, h.sim⟩
theorem gw_and (ha : GT K E X a t st) (hb : GW K E X (.BoolOp .And (b :: es) pos) u su) : GW K E X (.BoolOp .And (a :: b :: es) pos) (tAnd t u) (sAnd st su) := ⟨pw_and ha.pe hb.pe, sim_and ha.sim hb.sim⟩
theorem gw_or (ha : GT K E X a t st) (hb : GW K E X (.BoolOp .Or (b :: es) pos) u su) : GW K E X (.BoolOp .Or (a :: b :: es) pos) (tOr t u) (sOr st su) := ⟨pw_or ha.pe hb.pe, sim_or ha.sim hb.sim⟩
theorem gt_not (ha : GT K E X a t st) : GT K E X (.UnaryOp .Not a pos) (tNot t) (sNot st) := ⟨pt_not ha.pe, fun σ F H δ m SX S Q r q c => ha.sim σ F H δ m SX _ _ r q fun b F1 H1 m1 s1 M1 h1 => c _ F1 H1 m1 s1 M1 h1⟩
theorem ge_one {op} (h : GE K E X a te se) : GE K E X (.BoolOp op [a] pos) te se := ⟨pe_one h.pe, h.sim⟩
theorem ge_and (ha : GE K E X a ta sa) (hb : GE K E X (.BoolOp .And (b :: es) pos) tb sb) : GE K E X (.BoolOp .And (a :: b :: es) pos) (tAndV ta tb) (sAndV sa sb) := ⟨pe_and ha.pe hb.pe, fun σ F H δ m SX S Q r q c =>
  ha.sim σ F H δ m SX _ _ r q fun v F1 H1 sv m1 s1 M1 v1 h1 => by
    cases v1 with
    | bl k =>
      have h1 : Br k _ _ := h1
      rw [Br_eq] at h1
      refine ⟨k, rfl, ?_⟩
      split
      · next e => rw [if_pos e] at h1; exact hb.sim σ F1 H1 δ m1 SX S Q (r.go s1 M1) h1 (c.go s1)
      · next e => rw [if_neg e] at h1; exact c _ F1 H1 _ m1 s1 M1 (.bl false) h1
    | _ => exact (show False from h1).elim⟩
theorem ge_or (ha : GE K E X a ta sa) (hb : GE K E X (.BoolOp .Or (b :: es) pos) tb sb) : GE K E X (.BoolOp .Or (a :: b :: es) pos) (tOrV ta tb) (sOrV sa sb) := ⟨pe_or ha.pe hb.pe, fun σ F H δ m SX S Q r q c =>
  ha.sim σ F H δ m SX _ _ r q fun v F1 H1 sv m1 s1 M1 v1 h1 => by
    cases v1 with
    | bl k =>
      have h1 : Br k _ _ := h1
      rw [Br_eq] at h1
      refine ⟨k, rfl, ?_⟩
      split
      · next e => rw [if_pos e] at h1; exact c _ F1 H1 _ m1 s1 M1 (.bl true) h1
      · next e => rw [if_neg e] at h1; exact hb.sim σ F1 H1 δ m1 SX S Q (r.go s1 M1) h1 (c.go s1)
    | _ => exact (show False from h1).elim⟩
theorem ge_not (ha : GE K E X a ta sa) : GE K E X (.UnaryOp .Not a pos) (tNotV ta) (sNotV sa) := ⟨pe_not ha.pe, fun σ F H δ m SX S Q r q c =>
  ha.sim σ F H δ m SX _ _ r q fun v F1 H1 sv m1 s1 M1 v1 h1 => by
    cases v1 with
    | bl k => exact ⟨k, rfl, c _ F1 H1 _ m1 s1 M1 (.bl _) h1⟩
    | _ => exact (show False from h1).elim⟩
theorem ge_ifE (hc : GT K E X c t st) (ha : GE K E X a ta sa) (hb : GE K E X b tb sb) : GE K E X (.IfExp c a b pos) (tIf t ta tb) (sIfE st sa sb) := ⟨pe_ifExp hc.pe ha.pe hb.pe, fun σ F H δ m SX S Q r q c =>
  hc.sim σ F H δ m SX _ _ r q fun b F1 H1 m1 s1 M1 h1 => by
    rw [Br_eq] at h1
    split
    · next e => rw [if_pos e] at h1; exact ha.sim σ F1 H1 δ m1 SX S Q (r.go s1 M1) h1 (c.go s1)
    · next e => rw [if_neg e] at h1; exact hb.sim σ F1 H1 δ m1 SX S Q (r.go s1 M1) h1 (c.go s1)⟩
theorem ga_nil : GA K E X [] tNil sNil := ⟨pa_nil, fun σ F H δ m SX S Q r q c => c [] F H [] m (.refl F) r.mr .nil q⟩
theorem ga_cons (ha : GE K E X e te se) (hr : GA K E X es tl sl) (hs : starEach (e :: es) X.env = (false, eval e X.env) :: starEach es X.env := by rfl) : GA K E X (e :: es) (tCons te tl) (sCons se sl) := ⟨pa_cons ha.pe hr.pe hs, fun σ F H δ m SX S Q r q c =>
  ha.sim σ F H δ m SX _ _ r q fun v F1 H1 sv m1 s1 M1 v1 h1 => hr.sim σ F1 H1 δ m1 SX _ _ (r.go s1 M1) h1 fun vs F2 H2 svs m2 s2 M2 v2 h2 => c _ F2 H2 _ m2 (s1.trans s2) M2 (.cons (vr_sub s2 v1) v2) h2⟩
theorem ge_tup {x1} (h : GA K E X es tl sl) : GE K E X (.Tuple es x1 pos) (tTup tl) (sTup sl) := ⟨pe_tup h.pe, fun σ F H δ m SX S Q r q c =>
  h.sim σ F H δ m SX _ _ r q fun vs F1 H1 svs m1 s1 M1 v1 h1 => ⟨by rw [vrs_length v1]; exact h1.1, fun p hp => c (.ref p) (upd F1 p _) _ _ m1 (s1.trans (Sub.new (M1.sub.gone hp))) (M1.frz hp) (.tup (.inl (.inl upd_same)) (vrs_sub (Sub.new (M1.sub.gone hp)) v1)) h1.2⟩⟩
theorem ge_lst (h : GA K E X es tl sl) : GE K E X (.List es pos) (tLst tl) (sLst sl) := ⟨pe_lst h.pe, fun σ F H δ m SX S Q r q c =>
  h.sim σ F H δ m SX _ _ r q fun vs F1 H1 svs m1 s1 M1 v1 h1 => ⟨by rw [vrs_length v1]; exact h1.1, fun p hp => c (.ref p) F1 _ _ _ s1 (M1.newL hp v1) (.ref p) (h1.2 p (M1.gone hp))⟩⟩
theorem ge_un {op : UnaryOp} {r : V → Hp → VK → Prop} {s : SR1} (ho : UnR X (unaryOp op) r) (hr : SimU K r s) (ha : GE K E X a ta sa) : GE K E X (.UnaryOp op a pos) (tUn r ta) (sUn s sa) := ⟨pe_un ho ha.pe, fun σ F H δ m SX S Q q h c =>
  ha.sim σ F H δ m SX _ _ q h fun x F1 H1 sx m1 s1 M1 v1 h1 => hr F1 H1 m1 x sx S Q M1 v1 h1 (c.go s1)⟩
end
end Sy

set_option Elab.async false
set_option linter.all false
set_option maxRecDepth 100000
set_option maxHeartbeats 4000000
/-! Operators, subscripts, slices, built-ins, methods of lists over symbolic values. -/
namespace Sy
open PySem PySem.Spec PyProof.Rows L2
section
variable {K : PySem.W.Frag} {F H : Hp} {m : Mem} {x y : V} {a b : SV}
/-- a list's, a tuple's items -/
def Its (m : Mem) (x : SV) (ys : List SV) : Prop := match x with
  | .tup xs => ys = xs
  | .lst xs => ys = xs
  | .ptup xs => ys = xs
  | .ref a => m a = some (.lst ys)
  | _ => False
theorem its_seq {ys : List SV} (M : MR K F H m) (r : VR K F x a) (h : Its m a ys) : ∃ p vs, x = .ref p ∧ (SqL K H p vs ∨ SqT K H p vs) ∧ VRs K F vs ys := by
  cases r with
  | tup h1 h2 => cases (show ys = _ from h); exact ⟨_, _, rfl, .inr (sqt_sub M.sub h1), h2⟩
  | lst h1 h2 => cases (show ys = _ from h); exact ⟨_, _, rfl, .inl (sql_sub M.sub h1), h2⟩
  | ptup h1 _ h2 => cases (show ys = _ from h); exact ⟨_, _, rfl, .inr (.inl (.inr ⟨_, M.sub _ _ h1⟩)), h2⟩
  | ref p =>
    obtain ⟨vs, h1, h2⟩ := M.lst_ (show m p = some (.lst ys) from h)
    exact ⟨p, vs, rfl, .inl (.inl (.inl h1)), h2⟩
  | _ => exact (show False from h).elim
def ItsL (m : Mem) (x : SV) (ys : List SV) : Prop := match x with
  | .lst xs => ys = xs
  | .ref a => m a = some (.lst ys)
  | _ => False
theorem its_lst {ys : List SV} (M : MR K F H m) (r : VR K F x a) (h : ItsL m a ys) : ∃ p vs, x = .ref p ∧ SqL K H p vs ∧ VRs K F vs ys := by
  cases r with
  | lst h1 h2 => cases (show ys = _ from h); exact ⟨_, _, rfl, sql_sub M.sub h1, h2⟩
  | ref p =>
    obtain ⟨vs, h1, h2⟩ := M.lst_ (show m p = some (.lst ys) from h)
    exact ⟨p, vs, rfl, .inl (.inl h1), h2⟩
  | _ => exact (show False from h).elim
/-! ### data that == compares at any depth -/
mutual
inductive Rd (m : Mem) : SV → PyData → Prop
  | non : Rd m .non .none
  | bl (b : Bool) : Rd m (.bl b) (.bool b)
  | int (i : Int) : Rd m (.int i) (.int i)
  | str (x : Str) : Rd m (.str x) (.str x)
  | tup {xs : List SV} {ds : List PyData} : Rds m xs ds → Rd m (.tup xs) (.tuple ds)
  | lst {xs : List SV} {ds : List PyData} : Rds m xs ds → Rd m (.lst xs) (.list ds)
  | ref {a : Addr} {xs : List SV} {ds : List PyData} : m a = some (.lst xs) → Rds m xs ds → Rd m (.ref a) (.list ds)
inductive Rds (m : Mem) : List SV → List PyData → Prop
  | nil : Rds m [] []
  | cons {x : SV} {d : PyData} {xs : List SV} {ds : List PyData} : Rd m x d → Rds m xs ds → Rds m (x :: xs) (d :: ds)
end
mutual
theorem rd_dp (M : MR K F H m) : ∀ {a : SV} {d : PyData}, Rd m a d → ∀ {x : V}, VR K F x a → Dp K H x d
  | _, _, .non, _, r => by cases r; exact .non
  | _, _, .bl b, _, r => by cases r; exact .bl b
  | _, _, .int b, _, r => by cases r; exact .int b
  | _, _, .str b, _, r => by cases r; exact .str b
  | _, _, .tup h, _, r => by
    cases r with
    | tup h1 h2 => exact .tup (sqt_sub M.sub h1) (rds_dp M h h2)
  | _, _, .lst h, _, r => by
    cases r with
    | lst h1 h2 => exact .lst (sql_sub M.sub h1) (rds_dp M h h2)
  | _, _, .ref e h, _, r => by
    cases r with
    | ref a =>
      obtain ⟨vs, h1, h2⟩ := M.lst_ e
      exact .lst (.inl (.inl h1)) (rds_dp M h h2)
theorem rds_dp (M : MR K F H m) : ∀ {as : List SV} {ds : List PyData}, Rds m as ds → ∀ {xs : List V}, VRs K F xs as → DpAll K H xs ds
  | _, _, .nil, _, r => by cases r; exact .nil
  | _, _, .cons h t, _, r => by
    cases r with
    | cons r1 r2 => exact .cons (rd_dp M h r1) (rds_dp M t r2)
end
def eqF : SV → SV → Option Bool
  | .int i, .int j => some (decide (i = j))
  | .str i, .str j => some (decide (i = j))
  | .bl i, .bl j => some (decide (i = j))
  | .non, .non => some true
  | .non, .int _ => some false
  | .non, .str _ => some false
  | .non, .bl _ => some false
  | .int _, .non => some false
  | .str _, .non => some false
  | .bl _, .non => some false
  | .int _, .str _ => some false
  | .str _, .int _ => some false
  | .bl _, .str _ => some false
  | .str _, .bl _ => some false
  | _, _ => none
theorem dec_inj {α β : Type} [DecidableEq α] [DecidableEq β] {f : α → β} (h : ∀ a b, f a = f b → a = b) (a b : α) : decide (f a = f b) = decide (a = b) := by
  by_cases e : a = b
  · rw [decide_eq_true e, decide_eq_true (congrArg f e)]
  · rw [decide_eq_false e, decide_eq_false fun z => e (h _ _ z)]
theorem eqF_ok {k : Bool} (r : VR K F x a) (q : VR K F y b) (h : eqF a b = some k) : scal x y = true ∧ decide (x = y) = k := by
  cases r <;> cases q <;> first
    | (cases (show (none : Option Bool) = some k from h); done)
    | (obtain rfl := Option.some.inj h; refine ⟨rfl, ?_⟩; first
        | exact dec_inj (fun _ _ z => V.int.inj z) _ _
        | exact dec_inj (fun _ _ z => V.str.inj z) _ _
        | exact dec_inj (fun _ _ z => V.bl.inj z) _ _
        | rfl
        | exact decide_eq_false fun z => by cases z)
end
/-! ### operators -/
def rAddG (K : PySem.W.Frag) : R2 := fun x y H Q => (rI0 fun i j => .int (i + j)) x y H Q ∨ (∃ i j, x = .str i ∧ y = .str j ∧ i.length + j.length ≤ sizeLine ∧ Q (.str (i ++ j)) H) ∨ rCatA K x y H Q ∨ rCat x y H Q
theorem op_addG {X : Cx} (K : PySem.W.Frag) (hK : X.K = K := by rfl) : OpR X (binaryOp .Add) (rAddG K) := by
  subst hK
  exact .or op_add (.or op_add_str (.or op_catA op_cat))
def sAdd : SR2 := fun x y m S => match x, y with
  | .int i, .int j => S (.int (i + j)) m
  | .str i, .str j => i.length + j.length ≤ sizeLine ∧ S (.str (i ++ j)) m
  | .tup xs, .tup ys => xs.length + ys.length ≤ sizeLine ∧ S (.tup (xs ++ ys)) m
  | .ref a, .ref b => ∃ xs ys, m a = some (.lst xs) ∧ m b = some (.lst ys) ∧ xs.length + ys.length ≤ sizeLine ∧ ∀ p, m p = none → S (.ref p) (up m p (.lst (xs ++ ys)))
  | _, _ => False
theorem vrs_nil {K : PySem.W.Frag} {F : Hp} {xs : List SV} (h : VRs K F [] xs) : xs = [] := by cases h; rfl
theorem sim_add {K : PySem.W.Frag} : SimR K (rAddG K) sAdd := fun F H m x y a b S Q M ra rb h c => by
  cases ra <;> cases rb <;> first
    | exact (show False from h).elim
    | exact .inl ⟨_, _, rfl, rfl, c _ F H _ m (.refl F) M (.int _) h⟩
    | exact .inr (.inl ⟨_, _, rfl, rfl, h.1, c _ F H _ m (.refl F) M (.str _) h.2⟩)
    | skip
  · obtain ⟨xs, ys, h1, h2, hl, q⟩ := (show ∃ xs ys, _ from h)
    obtain ⟨vs, e1, r1⟩ := M.lst_ h1
    obtain ⟨ws, e2, r2⟩ := M.lst_ h2
    exact .inr (.inr (.inr ⟨_, _, _, _, rfl, rfl, e1, e2, by rw [vrs_length r1, vrs_length r2]; exact hl, fun p hp => c (.ref p) F _ _ _ (.refl F) (M.newL hp (vrs_append r1 r2)) (.ref p) (q p (M.gone hp))⟩))
  · rename_i h1 r1 _ _ _ h2 r2
    obtain ⟨hl, h⟩ := (show _ ∧ _ from h)
    refine .inr (.inr (.inl ⟨_, _, _, _, rfl, rfl, sqt_sub M.sub h1, sqt_sub M.sub h2, by rw [vrs_length r1, vrs_length r2]; exact hl, fun e => ?_, fun e1 e2 => ?_, fun e1 e2 p hp => ?_⟩))
    · subst e
      obtain rfl := vrs_nil r1
      exact c _ F H _ m (.refl F) M (.tup h2 r2) h
    · subst e2
      obtain rfl := vrs_nil r2
      rw [List.append_nil] at h
      exact c _ F H _ m (.refl F) M (.tup h1 r1) h
    · exact c (.ref p) (upd F p _) _ _ m (Sub.new (M.sub.gone hp)) (M.frz hp) (.tup (.inl (.inl upd_same)) (vrs_sub (Sub.new (M.sub.gone hp)) (vrs_append r1 r2))) h
def sI2 (C : Int → Int → Prop) (g : Int → Int → SV) : SR2 := fun x y m S => match x, y with
  | .int i, .int j => C i j ∧ S (g i j) m
  | _, _ => False
def sI0 (g : Int → Int → SV) : SR2 := fun x y m S => match x, y with
  | .int i, .int j => S (g i j) m
  | _, _ => False
theorem sim_I0 {K : PySem.W.Frag} {g : Int → Int → V} {g' : Int → Int → SV} (hg : ∀ F i j, VR K F (g i j) (g' i j)) : SimR K (rI0 g) (sI0 g') := fun F H m x y a b S Q M ra rb h c => by
  cases ra <;> cases rb <;> first
    | exact (show False from h).elim
    | exact ⟨_, _, rfl, rfl, c _ F H _ m (.refl F) M (hg F _ _) h⟩
theorem sim_I {K : PySem.W.Frag} {C : Int → Int → Prop} {g : Int → Int → V} {g' : Int → Int → SV} (hg : ∀ F i j, VR K F (g i j) (g' i j)) : SimR K (rI C g) (sI2 C g') := fun F H m x y a b S Q M ra rb h c => by
  cases ra <;> cases rb <;> first
    | exact (show False from h).elim
    | exact ⟨_, _, rfl, rfl, h.1, c _ F H _ m (.refl F) M (hg F _ _) h.2⟩
abbrev sSub : SR2 := sI0 fun i j => .int (i - j)
theorem sim_sub {K : PySem.W.Frag} : SimR K (rI0 fun i j => .int (i - j)) sSub := sim_I0 fun _ _ _ => .int _
def CMulG (i j : Int) : Prop := CMul i j ∨ CMulW i j
def CDivG (i j : Int) : Prop := CDiv i j ∨ CDivW i j
theorem op_mulG {X : Cx} : OpR X (binaryOp .Mult) (rI CMulG fun i j => .int (i * j)) := by
  intro pins s σ H x y v u Q I rx ry ⟨i, j, e1, e2, hc, q⟩
  rcases hc with hc | hc
  · exact op_mul pins s σ H x y v u Q I rx ry ⟨i, j, e1, e2, hc, q⟩
  · exact op_mulW pins s σ H x y v u Q I rx ry ⟨i, j, e1, e2, hc, q⟩
theorem op_fdivG {X : Cx} : OpR X (binaryOp .FloorDiv) (rI CDivG fun i j => .int (i / j)) := by
  intro pins s σ H x y v u Q I rx ry ⟨i, j, e1, e2, hc, q⟩
  rcases hc with hc | hc
  · exact op_fdiv pins s σ H x y v u Q I rx ry ⟨i, j, e1, e2, hc, q⟩
  · exact op_fdivW pins s σ H x y v u Q I rx ry ⟨i, j, e1, e2, hc, q⟩
abbrev sMul : SR2 := sI2 CMulG fun i j => .int (i * j)
abbrev sDiv : SR2 := sI2 CDivG fun i j => .int (i / j)
abbrev sMod : SR2 := sI2 (fun _ j => 0 < j) fun i j => .int (i % j)
abbrev sPow : SR2 := sI2 CPow fun i j => .int (i ^ j.toNat)
abbrev sLt : SR2 := sI0 fun i j => .bl (decide (i < j))
abbrev sLe : SR2 := sI0 fun i j => .bl (decide (i ≤ j))
abbrev sGt : SR2 := sI0 fun i j => .bl (decide (j < i))
abbrev sGe : SR2 := sI0 fun i j => .bl (decide (j ≤ i))
section
variable {K : PySem.W.Frag}
theorem sim_mul : SimR K (rI CMulG fun i j => .int (i * j)) sMul := sim_I fun _ _ _ => .int _
theorem sim_fdiv : SimR K (rI CDivG fun i j => .int (i / j)) sDiv := sim_I fun _ _ _ => .int _
theorem sim_mod : SimR K (rI (fun _ j => 0 < j) fun i j => .int (i % j)) sMod := sim_I fun _ _ _ => .int _
theorem sim_pow : SimR K (rI CPow fun i j => .int (i ^ j.toNat)) sPow := sim_I fun _ _ _ => .int _
theorem sim_lt : SimR K (rI0 fun i j => .bl (decide (i < j))) sLt := sim_I0 fun _ _ _ => .bl _
theorem sim_le : SimR K (rI0 fun i j => .bl (decide (i ≤ j))) sLe := sim_I0 fun _ _ _ => .bl _
theorem sim_gt : SimR K (rI0 fun i j => .bl (decide (j < i))) sGt := sim_I0 fun _ _ _ => .bl _
theorem sim_ge : SimR K (rI0 fun i j => .bl (decide (j ≤ i))) sGe := sim_I0 fun _ _ _ => .bl _
end
def sNeg : SR1 := fun x m S => match x with
  | .int i => S (.int (-i)) m
  | _ => False
theorem sim_neg {K : PySem.W.Frag} : SimU K (rU fun i => .int (-i)) sNeg := fun F H m x a S Q M r h c => by
  cases r <;> first
    | exact (show False from h).elim
    | exact ⟨_, rfl, c _ F H _ m (.refl F) M (.int _) h⟩
/-- == -/
def rEqG (K : PySem.W.Frag) : R2 := fun x y H Q => rEq x y H Q ∨ rEqD K x y H Q
def rNeG (K : PySem.W.Frag) : R2 := fun x y H Q => rNe x y H Q ∨ rNeD K x y H Q
theorem op_eqG {X : Cx} (K : PySem.W.Frag) (hu : X.A.units + 64 < cLine) (hK : X.K = K := by rfl) : OpR X (compareOp .Eq) (rEqG K) := by
  subst hK
  exact .or op_eq (op_eqD hu)
theorem op_neG {X : Cx} (K : PySem.W.Frag) (hu : X.A.units + 64 < cLine) (hK : X.K = K := by rfl) : OpR X (compareOp .NotEq) (rNeG K) := by
  subst hK
  exact .or op_ne (op_neD hu)
def sEq : SR2 := fun x y m S => match eqF x y with
  | some k => S (.bl k) m
  | none => ∃ d e, Rd m x d ∧ Rd m y e ∧ SeqAt.shaped d = true ∧ SeqAt.shaped e = true ∧ S (.bl (PyData.eqv d e)) m
def sNe : SR2 := fun x y m S => match eqF x y with
  | some k => S (.bl (!k)) m
  | none => ∃ d e, Rd m x d ∧ Rd m y e ∧ SeqAt.shaped d = true ∧ SeqAt.shaped e = true ∧ S (.bl (!PyData.eqv d e)) m
theorem sim_eq {K : PySem.W.Frag} : SimR K (rEqG K) sEq := fun F H m x y a b S Q M ra rb h c => by
  unfold sEq at h
  split at h
  · next k e =>
    obtain ⟨h1, h2⟩ := eqF_ok ra rb e
    exact .inl ⟨h1, by rw [h2]; exact c _ F H _ m (.refl F) M (.bl _) h⟩
  · obtain ⟨d, e, h1, h2, h3, h4, q⟩ := h
    exact .inr ⟨d, e, rd_dp M h1 ra, rd_dp M h2 rb, h3, h4, c _ F H _ m (.refl F) M (.bl _) q⟩
theorem sim_ne {K : PySem.W.Frag} : SimR K (rNeG K) sNe := fun F H m x y a b S Q M ra rb h c => by
  unfold sNe at h
  split at h
  · next k e =>
    obtain ⟨h1, h2⟩ := eqF_ok ra rb e
    exact .inl ⟨h1, by rw [h2]; exact c _ F H _ m (.refl F) M (.bl _) h⟩
  · obtain ⟨d, e, h1, h2, h3, h4, q⟩ := h
    exact .inr ⟨d, e, rd_dp M h1 ra, rd_dp M h2 rb, h3, h4, c _ F H _ m (.refl F) M (.bl _) q⟩
/-- is None -/
def isNon : SV → Bool
  | .non => true
  | _ => false
theorem isNon_ok {K : PySem.W.Frag} {F : Hp} {x : V} {a : SV} (r : VR K F x a) : decide (x = V.non) = isNon a := by cases r <;> rfl
def sIsN : SR2 := fun x y m S => match y with
  | .non => S (.bl (isNon x)) m
  | _ => False
def sNotN : SR2 := fun x y m S => match y with
  | .non => S (.bl (!isNon x)) m
  | _ => False
abbrev rIsN : R2 := fun x y H Q => y = .non ∧ Q (.bl (decide (x = .non))) H
abbrev rNotN : R2 := fun x y H Q => y = .non ∧ Q (.bl (!decide (x = .non))) H
theorem sim_isN {K : PySem.W.Frag} : SimR K rIsN sIsN := fun F H m x y a b S Q M ra rb h c => by
  cases rb <;> first
    | exact (show False from h).elim
    | exact ⟨rfl, by rw [isNon_ok ra]; exact c _ F H _ m (.refl F) M (.bl _) h⟩
theorem sim_notN {K : PySem.W.Frag} : SimR K rNotN sNotN := fun F H m x y a b S Q M ra rb h c => by
  cases rb <;> first
    | exact (show False from h).elim
    | exact ⟨rfl, by rw [isNon_ok ra]; exact c _ F H _ m (.refl F) M (.bl _) h⟩
/-- in, not in: flat items of a list or a tuple -/
def flatS : SV → Bool
  | .non => true
  | .bl _ => true
  | .int _ => true
  | .str _ => true
  | _ => false
def eqS : SV → SV → Bool
  | .non, .non => true
  | .bl a, .bl b => a == b
  | .bl a, .int b => (if a then 1 else 0) == b
  | .int a, .bl b => a == (if b then 1 else 0)
  | .int a, .int b => a == b
  | .str a, .str b => a == b
  | _, _ => false
section
variable {K : PySem.W.Frag} {F : Hp}
theorem flat_ok {x : V} {a : SV} (r : VR K F x a) (h : flatS a = true) : flatV x = true := by
  cases r <;> first | rfl | cases h
theorem eqS_ok {x y : V} {a b : SV} (r : VR K F x a) (q : VR K F y b) (h : flatS a = true) (h2 : flatS b = true) : eqV x y = eqS a b := by
  cases r <;> cases q <;> first | rfl | cases h | cases h2
theorem flats_ok : ∀ {xs : List V} {as : List SV}, VRs K F xs as → as.all flatS = true → xs.all flatV = true
  | _, _, .nil, _ => rfl
  | _, _, .cons r t, h => by
    rw [List.all_cons, Bool.and_eq_true] at h ⊢
    exact ⟨flat_ok r h.1, flats_ok t h.2⟩
theorem any_ok {x : V} {a : SV} (r : VR K F x a) (h : flatS a = true) : ∀ {xs : List V} {as : List SV}, VRs K F xs as → as.all flatS = true → inV x xs = as.any (fun y => eqS y a)
  | _, _, .nil, _ => rfl
  | _, _, .cons (v := v) (vs := vs) q t, h2 => by
    rw [List.all_cons, Bool.and_eq_true] at h2
    have e : inV x (v :: vs) = (eqV v x || inV x vs) := rfl
    rw [e, List.any_cons, any_ok r h t h2.2, eqS_ok q r h2.1 h]
end
def inS (x : SV) (xs : List SV) : Bool := xs.any fun y => eqS y x
def sIn (neg : Bool) : SR2 := fun x y m S => ∃ xs, Its m y xs ∧ flatS x = true ∧ xs.all flatS = true ∧ S (.bl (if neg then !inS x xs else inS x xs)) m
theorem sim_in {K : PySem.W.Frag} (neg : Bool) : SimR K (rIn K neg) (sIn neg) := fun F H m x y a b S Q M ra rb h c => by
  obtain ⟨xs, h1, h2, h3, q⟩ := h
  obtain ⟨p, vs, rfl, hs, r⟩ := its_seq M rb h1
  refine ⟨p, vs, rfl, hs, flat_ok ra h2, flats_ok r h3, ?_⟩
  rw [any_ok ra h2 r h3]
  exact c _ F H _ m (.refl F) M (.bl _) q
theorem op_inG {X : Cx} (K : PySem.W.Frag) (hK : X.K = K := by rfl) : OpR X (compareOp .In) (rIn K false) := by subst hK; exact op_in_seq
theorem op_notInG {X : Cx} (K : PySem.W.Frag) (hK : X.K = K := by rfl) : OpR X (compareOp .NotIn) (rIn K true) := by subst hK; exact op_notIn_seq
/-! ### subscripts -/
def rIxG (K : PySem.W.Frag) : R2 := fun x y H Q => rIxL K x y H Q ∨ rIxT K x y H Q ∨ rIxS x y H Q
theorem ix_G {X : Cx} (K : PySem.W.Frag) (hK : X.K = K := by rfl) : IxR X (rIxG K) := by
  subst hK
  exact .or ix_list (.or ix_tup ix_str)
def sIx : SR2 := fun x y m S => match x, y with
  | .tup xs, .int i => ∃ v, atI xs i = some v ∧ S v m
  | .lst xs, .int i => ∃ v, atI xs i = some v ∧ S v m
  | .ptup xs, .int i => ∃ v, atI xs i = some v ∧ S v m
  | .ref a, .int i => ∃ xs v, m a = some (.lst xs) ∧ atI xs i = some v ∧ S v m
  | .str z, .int i => ∃ c, z.length ≤ sizeLine ∧ atI z.cps.toList i = some c ∧ S (.str ⟨#[c]⟩) m
  | _, _ => False
theorem atI_vrs {K : PySem.W.Frag} {F : Hp} {vs : List V} {xs : List SV} {i : Int} {x : SV} (r : VRs K F vs xs) (h : atI xs i = some x) : ∃ v, atI vs i = some v ∧ VR K F v x := by
  unfold atI at h ⊢
  rw [← vrs_length r] at h
  obtain ⟨j, h1, h2⟩ := Option.bind_eq_some_iff.mp h
  obtain ⟨v, hv, dv⟩ := vrs_get r h2
  exact ⟨v, by rw [h1]; exact hv, dv⟩
theorem sim_ix {K : PySem.W.Frag} : SimR K (rIxG K) sIx := fun F H m x y a b S Q M ra rb h c => by
  cases ra <;> cases rb <;> first
    | exact (show False from h).elim
    | skip
  · obtain ⟨k, h1, h2, q⟩ := (show ∃ c, _ from h)
    exact .inr (.inr ⟨_, _, k, rfl, rfl, h1, h2, c _ F H _ m (.refl F) M (.str _) q⟩)
  · obtain ⟨xs, v, h1, h2, q⟩ := (show ∃ xs v, _ from h)
    obtain ⟨vs, e1, r1⟩ := M.lst_ h1
    obtain ⟨w, hw, rw_⟩ := atI_vrs r1 h2
    exact .inl ⟨_, _, _, w, rfl, rfl, .inl (.inl e1), hw, c _ F H _ m (.refl F) M rw_ q⟩
  · obtain ⟨v, h2, q⟩ := (show ∃ v, _ from h)
    rename_i h1 r1 _
    obtain ⟨w, hw, rw_⟩ := atI_vrs r1 h2
    exact .inr (.inl ⟨_, _, _, w, rfl, rfl, sqt_sub M.sub h1, hw, c _ F H _ m (.refl F) M rw_ q⟩)
  · obtain ⟨v, h2, q⟩ := (show ∃ v, _ from h)
    rename_i h1 r1 _
    obtain ⟨w, hw, rw_⟩ := atI_vrs r1 h2
    exact .inl ⟨_, _, _, w, rfl, rfl, sql_sub M.sub h1, hw, c _ F H _ m (.refl F) M rw_ q⟩
  · obtain ⟨v, h2, q⟩ := (show ∃ v, _ from h)
    rename_i h1 _ r1 _
    obtain ⟨w, hw, rw_⟩ := atI_vrs r1 h2
    exact .inr (.inl ⟨_, _, _, w, rfl, rfl, .inl (.inr ⟨_, M.sub _ _ h1⟩), hw, c _ F H _ m (.refl F) M rw_ q⟩)
section
variable {K : PySem.W.Frag} {E : XK} {X : Cx} {a b c e : Expr} {ta tb tc te : TE} {sa sb sc se : SE} {pos p2 : Pos}
theorem ge_ix {r : R2} {s : SR2} (hr : IxR X r) (hs : SimR K r s) (ha : GE K E X a ta sa) (hb : GE K E X b tb sb) (hp : PlainIx b) : GE K E X (.Subscript a b pos) (tOp r ta tb) (sOp s sa sb) := ⟨pe_ix hr ha.pe hb.pe hp, sim_op hs ha.sim hb.sim⟩
end
/-! slices -/
abbrev SO := SXK → DS → Mem → (Option Int → Mem → Prop) → Prop
def SimO (K : PySem.W.Frag) (E : XK) (te : TO) (se : SO) : Prop := ∀ σ F H δ m SX S (Q : Option Int → Hp → Prop), Rl K E σ F H δ m SX → se SX δ m S → (∀ i F' H' m', Sub F F' → MR K F' H' m' → S i m' → Q i H') → te σ H Q
structure GO (K : PySem.W.Frag) (E : XK) (X : Cx) (e : Option Expr) (te : TO) (se : SO) : Prop where
  pe : PO X e te
  sim : SimO K E te se
def sNoPart : SO := fun _ _ m S => S none m
def sPart (a : SE) : SO := fun SX δ m S => a SX δ m fun x m1 => match x with
  | .int i => S (some i) m1
  | _ => False
abbrev SSl := SV → Option Int → Option Int → Mem → (SV → Mem → Prop) → Prop
def sSlice (r : SSl) (a : SE) (l h : SO) : SE := fun SX δ m S => a SX δ m fun x m1 => l SX δ m1 fun i m2 => h SX δ m2 fun j m3 => r x i j m3 S
def cutS' {α : Type} (xs : List α) (lo hi : Option Int) : List α := (xs.drop (HT.sIx xs.length 0 lo)).take (HT.sIx xs.length xs.length hi - HT.sIx xs.length 0 lo)
def sSl : SSl := fun x lo hi m S => match x with
  | .tup xs => S (.tup (cutS' xs lo hi)) m
  | .lst xs => ∀ p, m p = none → S (.ref p) (up m p (.lst (cutS' xs lo hi)))
  | .ref a => ∃ xs, m a = some (.lst xs) ∧ ∀ p, m p = none → S (.ref p) (up m p (.lst (cutS' xs lo hi)))
  | .str z => z.length ≤ sizeLine ∧ S (.str (cutS z lo hi)) m
  | _ => False
def rSlG (K : PySem.W.Frag) : V → Option Int → Option Int → Hp → VK → Prop := fun x lo hi H Q => rSlL K x lo hi H Q ∨ rSlA K x lo hi H Q ∨ rSlS x lo hi H Q
theorem sl_G {X : Cx} (K : PySem.W.Frag) (hK : X.K = K := by rfl) : SlR X (rSlG K) := by
  subst hK
  exact .or sl_list (.or sl_tupA sl_str)
section
variable {K : PySem.W.Frag} {E : XK} {X : Cx} {a b c e : Expr} {ta tb tc te : TE} {sa sb sc se : SE} {pos p2 : Pos} {lo hi : Option Expr} {tl th : TO} {sl sh : SO}
theorem go_none : GO K E X none tNoPart sNoPart := ⟨po_none, fun σ F H δ m SX S Q r h c => c none F H m (.refl F) r.mr h⟩
theorem go_some (h : GE K E X e te se) : GO K E X (some e) (tPart te) (sPart se) := ⟨po_some h.pe, fun σ F H δ m SX S Q r q c =>
  h.sim σ F H δ m SX _ _ r q fun v F1 H1 sv m1 s1 M1 v1 h1 => by
    cases v1 with
    | int i => exact ⟨i, rfl, c _ F1 H1 m1 s1 M1 h1⟩
    | _ => exact (show False from h1).elim⟩
theorem vrs_cut {F : Hp} {vs : List V} {xs : List SV} (r : VRs K F vs xs) (lo hi : Option Int) : VRs K F (cutV vs lo hi) (cutS' xs lo hi) := by
  unfold cutV cutS'
  rw [vrs_length r]
  exact vrs_take _ (vrs_drop _ r)
theorem cut_all {α : Type} (xs : List α) (lo hi : Option Int) (h : HT.sIx xs.length 0 lo = 0 ∧ HT.sIx xs.length xs.length hi = xs.length) : cutS' xs lo hi = xs := by
  unfold cutS'
  rw [h.1, h.2]
  simp
theorem ge_slice (ha : GE K E X e te se) (hl : GO K E X lo tl sl) (hh : GO K E X hi th sh) (hK : X.K = K := by rfl) : GE K E X (.Subscript e (.Slice lo hi none p2) pos) (tSl (rSlG K) te tl th) (sSlice sSl se sl sh) := ⟨pe_slice (sl_G K hK) ha.pe hl.pe hh.pe, fun σ F H δ m SX S Q r q c =>
  ha.sim σ F H δ m SX _ _ r q fun v F1 H1 sv m1 s1 M1 v1 h1 => hl.sim σ F1 H1 δ m1 SX _ _ (r.go s1 M1) h1 fun i F2 H2 m2 s2 M2 h2 => hh.sim σ F2 H2 δ m2 SX _ _ (r.go (s1.trans s2) M2) h2 fun j F3 H3 m3 s3 M3 h3 => by
    have v3 := vr_sub (s2.trans s3) v1
    have s13 := (s1.trans s2).trans s3
    cases v3 with
    | str z => exact .inr (.inr ⟨z, rfl, h3.1, c _ F3 H3 _ m3 s13 M3 (.str _) h3.2⟩)
    | ref a =>
      obtain ⟨xs, e1, q1⟩ := (show ∃ xs, _ from h3)
      obtain ⟨vs, e2, r2⟩ := M3.lst_ e1
      exact .inl ⟨a, vs, rfl, .inl (.inl e2), fun p hp => c (.ref p) F3 _ _ _ s13 (M3.newL hp (vrs_cut r2 i j)) (.ref p) (q1 p (M3.gone hp))⟩
    | tup g1 r2 =>
      refine .inr (.inl ⟨_, _, rfl, sqt_sub M3.sub g1, fun e => ?_, fun e p hp => ?_⟩)
      · rw [vrs_length r2] at e
        have h3 : S (.tup (cutS' _ i j)) m3 := h3
        rw [cut_all _ i j e] at h3
        exact c _ F3 H3 _ m3 s13 M3 (.tup g1 r2) h3
      · exact c (.ref p) (upd F3 p _) _ _ m3 (s13.trans (Sub.new (M3.sub.gone hp))) (M3.frz hp) (.tup (.inl (.inl upd_same)) (vrs_sub (Sub.new (M3.sub.gone hp)) (vrs_cut r2 i j))) h3
    | lst g1 r2 =>
      exact .inl ⟨_, _, rfl, sql_sub M3.sub g1, fun p hp => c (.ref p) F3 _ _ _ s13 (M3.newL hp (vrs_cut r2 i j)) (.ref p) (h3 p (M3.gone hp))⟩
    | _ => exact (show False from h3).elim⟩
end
/-! ### calls of built-ins, methods -/
def sCB (r : SRC) (a : SA) : SE := fun SX δ m S => a SX δ m fun xs m1 => r xs m1 S
def sBM (ck : SV → Mem → Prop) (r : SRM) (o : SE) (a : SA) : SE := fun SX δ m S => o SX δ m fun x m1 => ck x m1 ∧ a SX δ m1 fun xs m2 => r x xs m2 S
def sBM0 (ck : SV → Mem → Prop) (r : SRM) (o : SE) : SE := fun SX δ m S => o SX δ m fun x m1 => ck x m1 ∧ r x [] m1 S
def SimK (K : PySem.W.Frag) (T : String) (ck : SV → Mem → Prop) : Prop := ∀ F H m x a, MR K F H m → VR K F x a → ck a m → tyV K T x H
section
variable {K : PySem.W.Frag} {E : XK} {X : Cx} {a b c e o : Expr} {es : List Expr} {ta tb tc te to : TE} {sa sb sc se so : SE} {pos p apos cpos : Pos} {tl : TA} {sl : SA}
theorem sim_cb {r : List V → Hp → VK → Prop} {s : SRC} (hr : SimC K r s) (ha : SimA K E tl sl) : SimE K E (tCB r tl) (sCB s sl) := fun σ F H δ m SX S Q q h c =>
  ha σ F H δ m SX _ _ q h fun xs F1 H1 sx m1 s1 M1 v1 h1 => hr F1 H1 m1 xs sx S Q M1 v1 h1 (c.go s1)
theorem ge_callB {x : Str} {id : String} {r : List V → Hp → VK → Prop} {s : SRC} (hc : CallR X (.builtin id) r) (hr : SimC K r s) (hg : Gl X x) (hm : X.mg x = none) (hv : bootBuiltins x = some (.builtin id)) (ha : GA K E X (e :: es) tl sl) (hn : x ≠ "__name__" := by decide) (hdb : (x == ("__debug__" : Str)) = false := by decide)
    (he : starEach (e :: es) X.env = (false, eval e X.env) :: starEach es X.env := by rfl) (hpl : (backTo pos (starEach es X.env)).any (·.1) = false := by rfl) : GE K E X (.Call (.Name x p) (e :: es) [] pos) (tCB r tl) (sCB s sl) := ⟨pe_callB hc hg hm hv ha.pe hn hdb he hpl, sim_cb hr ha.sim⟩
theorem ge_callTy {x : Str} {T : String} {r : List V → Hp → VK → Prop} {s : SRC} (hc : CallR X (.type T) r) (hr : SimC K r s) (hg : Gl X x) (hm : X.mg x = none) (hv : bootBuiltins x = some (.type T)) (ha : GA K E X (e :: es) tl sl) (hn : x ≠ "__name__" := by decide) (hdb : (x == ("__debug__" : Str)) = false := by decide)
    (he : starEach (e :: es) X.env = (false, eval e X.env) :: starEach es X.env := by rfl) (hpl : (backTo pos (starEach es X.env)).any (·.1) = false := by rfl) : GE K E X (.Call (.Name x p) (e :: es) [] pos) (tCB r tl) (sCB s sl) := ⟨pe_callTy hc hg hm hv ha.pe hn hdb he hpl, sim_cb hr ha.sim⟩
theorem ge_bm {name : Str} {T id : String} {r : V → List V → Hp → VK → Prop} {s : SRM} {ck : SV → Mem → Prop} (pa : PlainAttrs T) (slot : Slot T name id) (hty : typeOf (.builtin id) = pure (.type "method_descriptor")) (hm : MtR X id r) (hk : SimK K T ck) (hr : SimM K r s) (ho : GE K E X o to so) (ha : GA K E X (e :: es) tl sl)
    (hK : X.K = K := by rfl) (hbase : attributeBase o name X.env (eval o X.env) = eval o X.env := by rfl)
    (hfew : ((backTo cpos (starEach (e :: es) X.env)).all (fun x => !x.1) && (backToKw cpos (keywordEach [] X.env)).all (fun x => x.1.isSome)
      && decide ((e :: es).length + ([] : List Keyword).length + (if ([] : List Keyword).isEmpty then 0 else 1) < 30)) = true := by rfl)
    (hline : (apos.endLine == cpos.line) = true := by rfl) (hs : starEach (e :: es) X.env = (false, eval e X.env) :: starEach es X.env := by rfl) (hplain : (backTo cpos (starEach es X.env)).any (·.1) = false := by rfl) :
    GE K E X (.Call (.Attribute o name apos) (e :: es) [] cpos) (tBM K T r to tl) (sBM ck s so sl) := by
  subst hK
  exact ⟨pe_bm pa slot hty hm ho.pe ha.pe hbase hfew hline hs hplain, fun σ F H δ m SX S Q q h c =>
    ho.sim σ F H δ m SX _ _ q h fun x F1 H1 sx m1 s1 M1 v1 h1 => ⟨hk F1 H1 m1 x sx M1 v1 h1.1, ha.sim σ F1 H1 δ m1 SX _ _ (q.go s1 M1) h1.2 fun xs F2 H2 sxs m2 s2 M2 v2 h2 => hr F2 H2 m2 x xs sx sxs S Q M2 (vr_sub s2 v1) v2 h2 (c.go (s1.trans s2))⟩⟩
end
def ckL (x : SV) (m : Mem) : Prop := match x with
  | .ref a => ∃ xs, m a = some (.lst xs)
  | .lst _ => True
  | _ => False
theorem simk_L {K : PySem.W.Frag} : SimK K "list" ckL := fun F H m x a M r h => by
  cases r with
  | ref p =>
    obtain ⟨xs, e⟩ := (show ∃ xs, _ from h)
    obtain ⟨vs, e2, _⟩ := M.lst_ e
    exact .inl ⟨rfl, vs, .inl (.inl e2)⟩
  | lst h1 _ => exact .inl ⟨rfl, _, sql_sub M.sub h1⟩
  | _ => exact (show False from h).elim
def sAppend : SRM := fun x vs m S => match x, vs with
  | .ref a, [y] => ∃ xs, m a = some (.lst xs) ∧ xs.length < sizeLine ∧ S .non (up m a (.lst (xs ++ [y])))
  | _, _ => False
theorem vrs_one {K : PySem.W.Frag} {F : Hp} {vs : List V} {y : SV} (h : VRs K F vs [y]) : ∃ v, vs = [v] ∧ VR K F v y := by
  cases h with
  | cons r t => cases t; exact ⟨_, rfl, r⟩
theorem vrs_two {K : PySem.W.Frag} {F : Hp} {vs : List V} {y z : SV} (h : VRs K F vs [y, z]) : ∃ v w, vs = [v, w] ∧ VR K F v y ∧ VR K F w z := by
  cases h with
  | cons r t =>
    obtain ⟨w, rfl, q⟩ := vrs_one t
    exact ⟨_, _, rfl, r, q⟩
section
variable {K : PySem.W.Frag}
theorem sim_append : SimM K rAppend sAppend := fun F H m x xs a as S Q M r rs h c => by
  cases r with
  | ref p =>
    unfold sAppend at h
    split at h
    · have e := SV.ref.inj (by assumption : SV.ref p = SV.ref _)
      subst e
      obtain ⟨ys, e1, hl, q⟩ := h
      obtain ⟨v, rfl, rv⟩ := vrs_one rs
      obtain ⟨vs, e2, r2⟩ := M.lst_ e1
      exact ⟨p, vs, v, rfl, rfl, e2, by rw [vrs_length r2]; exact hl, c _ F _ _ _ (.refl F) (M.setL e1 (vrs_append r2 (.cons rv .nil))) .non q⟩
    · exact h.elim
  | _ => exact (show False from by unfold sAppend at h; exact h).elim
def sExtend : SRM := fun x vs m S => match x, vs with
  | .ref a, [.ref b] => ∃ xs ys, m a = some (.lst xs) ∧ m b = some (.lst ys) ∧ xs.length + ys.length ≤ sizeLine ∧ S .non (up m a (.lst (xs ++ ys)))
  | _, _ => False
def sClear : SRM := fun x vs m S => match x, vs with
  | .ref a, [] => ∃ xs, m a = some (.lst xs) ∧ S .non (up m a (.lst []))
  | _, _ => False
/-- list.index of a flat thing: the first place -/
def sIndex : SRM := fun x vs m S => match vs with
  | [y] => ∃ xs j z, ItsL m x xs ∧ flatS y = true ∧ xs.all flatS = true ∧ xs[j]? = some z ∧ eqS z y = true ∧ (∀ (i : Nat) z', i < j → xs[i]? = some z' → eqS z' y = false) ∧ S (.int (j : Nat)) m
  | _ => False
theorem sim_index : SimM K (rIndex K) sIndex := fun F H m x xs a as S Q M r rs h c => by
  unfold sIndex at h
  split at h
  · obtain ⟨ys, j, z, h1, h2, h3, h4, h5, h6, q⟩ := h
    obtain ⟨v, rfl, rv⟩ := vrs_one rs
    obtain ⟨p, vs, rfl, hs, r2⟩ := its_lst M r h1
    obtain ⟨w, hw, rw_⟩ := vrs_get r2 h4
    have fl : ∀ (i : Nat) z', ys[i]? = some z' → flatS z' = true := fun i z' e => List.all_eq_true.mp h3 z' (List.mem_of_getElem? e)
    refine ⟨p, vs, v, j, w, rfl, rfl, hs, flat_ok rv h2, flats_ok r2 h3, hw, by rw [eqS_ok rw_ rv (fl _ _ h4) h2]; exact h5, fun i z' hi e => ?_, c _ F H _ m (.refl F) M (.int _) q⟩
    obtain ⟨d, hd, rd⟩ := vrs_getV r2 e
    rw [eqS_ok rd rv (fl _ _ hd) h2]
    exact h6 i d hi hd
  · exact h.elim
/-- len -/
def sLen : SRC := fun vs m S => match vs with
  | [x] => match x with
    | .str z => z.length ≤ sizeLine ∧ S (.int z.length) m
    | x => ∃ ys, Its m x ys ∧ S (.int ys.length) m
  | _ => False
def rLenG (K : PySem.W.Frag) : List V → Hp → VK → Prop := fun xs H Q => (∃ p ys, xs = [.ref p] ∧ (SqL K H p ys ∨ SqT K H p ys) ∧ Q (.int ys.length) H) ∨ ∃ z, xs = [.str z] ∧ z.length ≤ sizeLine ∧ Q (.int z.length) H
theorem cr_len {X : Cx} (K : PySem.W.Frag) (hK : X.K = K := by rfl) : CallR X (.builtin "len") (rLenG K) := by
  subst hK
  exact .or call_len_seq call_len_str
theorem sim_len : SimC K (rLenG K) sLen := fun F H m xs as S Q M rs h c => by
  unfold sLen at h
  split at h
  · next x =>
    obtain ⟨v, rfl, rv⟩ := vrs_one rs
    have key : (∃ ys, Its m x ys ∧ S (.int ys.length) m) → rLenG K [v] H Q := fun ⟨ys, h1, q⟩ => by
      obtain ⟨p, vs, rfl, hs, r2⟩ := its_seq M rv h1
      exact .inl ⟨p, vs, rfl, hs, by rw [vrs_length r2]; exact c _ F H _ m (.refl F) M (.int _) q⟩
    cases x with
    | str z => obtain rfl := vr_str rv; exact .inr ⟨z, rfl, h.1, c _ F H _ m (.refl F) M (.int _) h.2⟩
    | _ => exact key h
  · exact h.elim
/-- isinstance of built-in classes -/
def tyS (m : Mem) (x : SV) (t : String) : Prop := match x with
  | .non => t = "NoneType"
  | .bl _ => t = "bool"
  | .int _ => t = "int"
  | .str _ => t = "str"
  | .tup _ => t = "tuple"
  | .lst _ => t = "list"
  | .ref a => t = "list" ∧ ∃ xs, m a = some (.lst xs)
  | _ => False
theorem tyx_ok {F H : Hp} {m : Mem} {x : V} {a : SV} {t : String} (M : MR K F H m) (r : VR K F x a) (h : tyS m a t) : TyX K H x (.type t) := by
  cases r with
  | non => cases (show t = _ from h); exact .base .non
  | bl b => cases (show t = _ from h); exact .base (.bl b)
  | int b => cases (show t = _ from h); exact .base (.int b)
  | str b => cases (show t = _ from h); exact .base (.str b)
  | ty n => exact (show False from h).elim
  | kt _ => exact (show False from h).elim
  | ptup _ _ _ => exact (show False from h).elim
  | tup h1 _ =>
    cases (show t = _ from h)
    rcases sqt_sub M.sub h1 with (h | ⟨o, h⟩) | ⟨o, its, n, h1, h2, _⟩
    · exact .base (.tup h)
    · exact .fTuple h
    · exact .kTuple h1 h2
  | lst h1 _ =>
    cases (show t = _ from h)
    rcases sql_sub M.sub h1 with (h | ⟨o, h⟩) | ⟨o, its, n, h1, h2, _⟩
    · exact .base (.lst h)
    · exact .base (.frz h)
    · exact .kList h1 h2
  | ref a =>
    obtain ⟨rfl, xs, e⟩ := (show t = "list" ∧ ∃ xs, _ from h)
    obtain ⟨vs, e2, _⟩ := M.lst_ e
    exact .base (.lst e2)
def isB (t T : String) : Bool := t == T || (t == "bool" && T == "int")
theorem kit_tab : ∀ t ∈ ["NoneType", "bool", "int", "str", "list", "tuple", "dict"], ∀ T ∈ ["bool", "int", "str", "list", "tuple"], kitB t T = some (isB t T) := by decide +kernel
theorem tyS_mem {m : Mem} {a : SV} {t : String} (h : tyS m a t) : t ∈ ["NoneType", "bool", "int", "str", "list", "tuple", "dict"] := by
  cases a <;> first
    | exact (show False from h).elim
    | (cases (show t = _ from h); simp)
    | (obtain ⟨rfl, _⟩ := (show t = "list" ∧ _ from h); simp)
def sIsi : SRC := fun vs m S => match vs with
  | [x, .ty T] => T ∈ ["bool", "int", "str", "list", "tuple"] ∧ ∃ t, tyS m x t ∧ S (.bl (isB t T)) m
  | [x, .tup [.ty T, .ty U]] => (T ∈ ["bool", "int", "str", "list", "tuple"] ∧ U ∈ ["bool", "int", "str", "list", "tuple"]) ∧ ∃ t, tyS m x t ∧ S (.bl (isB t T || isB t U)) m
  | _ => False
def rIsiG (K : PySem.W.Frag) : List V → Hp → VK → Prop := fun xs H Q => rIsi K xs H Q ∨ rIsiT K xs H Q
theorem cr_isi {X : Cx} (K : PySem.W.Frag) (hK : X.K = K := by rfl) : CallR X (.builtin "isinstance") (rIsi K) := by
  subst hK
  exact call_isi
def sIsi1 : SRC := fun vs m S => match vs with
  | [x, .ty T] => T ∈ ["bool", "int", "str", "list", "tuple"] ∧ ∃ t, tyS m x t ∧ S (.bl (isB t T)) m
  | _ => False
theorem sim_isi : SimC K (rIsi K) sIsi1 := fun F H m xs as S Q M rs h c => by
  unfold sIsi1 at h
  split at h
  · obtain ⟨hT, t, ht, q⟩ := h
    obtain ⟨v, w, rfl, rv, rw_⟩ := vrs_two rs
    obtain rfl := vr_ty rw_
    exact ⟨v, _, _, _, _, rfl, .ty _, tyx_ok M rv ht, kit_ty (kit_tab _ (tyS_mem ht) _ hT), c _ F H _ m (.refl F) M (.bl _) q⟩
  · exact h.elim
/-- all, any, sum -/
def sAll : SRC := fun vs m S => match vs with
  | [x] => ∃ bs : List Bool, ItsL m x (bs.map .bl) ∧ S (.bl (bs.all id)) m
  | _ => False
def sAny : SRC := fun vs m S => match vs with
  | [x] => ∃ bs : List Bool, ItsL m x (bs.map .bl) ∧ S (.bl (bs.any id)) m
  | _ => False
def sSum : SRC := fun vs m S => match vs with
  | [x] => ∃ ns : List Int, ItsL m x (ns.map .int) ∧ S (.int ns.sum) m
  | _ => False
theorem cr_allG {X : Cx} (K : PySem.W.Frag) (hc : X.calm = true := by rfl) (hK : X.K = K := by rfl) : CallR X (.builtin "all") (rAll K) := by subst hK; exact cr_all hc
theorem cr_anyG {X : Cx} (K : PySem.W.Frag) (hc : X.calm = true := by rfl) (hK : X.K = K := by rfl) : CallR X (.builtin "any") (rAny K) := by subst hK; exact cr_any hc
theorem sim_all : SimC K (rAll K) sAll := fun F H m xs as S Q M rs h c => by
  unfold sAll at h
  split at h
  · obtain ⟨bs, h1, q⟩ := h
    obtain ⟨v, rfl, rv⟩ := vrs_one rs
    obtain ⟨p, vs, rfl, hs, r2⟩ := its_lst M rv h1
    obtain rfl := vrs_bls r2
    exact ⟨p, bs, rfl, hs, c _ F H _ m (.refl F) M (.bl _) q⟩
  · exact h.elim
theorem sim_any : SimC K (rAny K) sAny := fun F H m xs as S Q M rs h c => by
  unfold sAny at h
  split at h
  · obtain ⟨bs, h1, q⟩ := h
    obtain ⟨v, rfl, rv⟩ := vrs_one rs
    obtain ⟨p, vs, rfl, hs, r2⟩ := its_lst M rv h1
    obtain rfl := vrs_bls r2
    exact ⟨p, bs, rfl, hs, c _ F H _ m (.refl F) M (.bl _) q⟩
  · exact h.elim
/-- min, max of two ints -/
abbrev rMin2' : List V → Hp → VK → Prop := fun xs H Q => ∃ i j, xs = [.int i, .int j] ∧ Q (.int (if j < i then j else i)) H
abbrev rMax2' : List V → Hp → VK → Prop := fun xs H Q => ∃ i j, xs = [.int i, .int j] ∧ Q (.int (if j > i then j else i)) H
def sMin2 : SRC := fun vs m S => match vs with
  | [.int i, .int j] => S (.int (if j < i then j else i)) m
  | _ => False
def sMax2 : SRC := fun vs m S => match vs with
  | [.int i, .int j] => S (.int (if j > i then j else i)) m
  | _ => False
theorem sim_min2 : SimC K rMin2' sMin2 := fun F H m xs as S Q M rs h c => by
  unfold sMin2 at h
  split at h
  · obtain ⟨v, w, rfl, rv, rw_⟩ := vrs_two rs
    obtain rfl := vr_int rv
    obtain rfl := vr_int rw_
    exact ⟨_, _, rfl, c _ F H _ m (.refl F) M (.int _) h⟩
  · exact h.elim
/-- tuple(..), list(..) -/
abbrev rTupG (K : PySem.W.Frag) : List V → Hp → VK → Prop := fun xs H Q => ∃ p ys, xs = [.ref p] ∧ ((SqL K H p ys ∧ ∀ l, H l = none → Q (.ref l) (upd H l (.tup ys))) ∨ (SqT K H p ys ∧ Q (.ref p) H))
abbrev rLstG (K : PySem.W.Frag) : List V → Hp → VK → Prop := fun xs H Q => ∃ p ys, xs = [.ref p] ∧ (SqL K H p ys ∨ SqT K H p ys) ∧ ∀ l, H l = none → Q (.ref l) (upd H l (.lst ys))
theorem cr_tup {X : Cx} (K : PySem.W.Frag) (hK : X.K = K := by rfl) : CallR X (.type "tuple") (rTupG K) := by subst hK; exact call_tuple_of
theorem cr_lst {X : Cx} (K : PySem.W.Frag) (hK : X.K = K := by rfl) : CallR X (.type "list") (rLstG K) := by subst hK; exact call_list_of
def sTupOf : SRC := fun vs m S => match vs with
  | [x] => ∃ ys, Its m x ys ∧ S (.tup ys) m
  | _ => False
def sLstOf : SRC := fun vs m S => match vs with
  | [x] => ∃ ys, Its m x ys ∧ ∀ p, m p = none → S (.ref p) (up m p (.lst ys))
  | _ => False
theorem sim_tupOf : SimC K (rTupG K) sTupOf := fun F H m xs as S Q M rs h c => by
  unfold sTupOf at h
  split at h
  · obtain ⟨ys, h1, q⟩ := h
    obtain ⟨v, rfl, rv⟩ := vrs_one rs
    have key : ∀ p vs, v = .ref p → SqL K H p vs → VRs K F vs ys → rTupG K [v] H Q := fun p vs e hs r2 => by
      subst e
      exact ⟨p, vs, rfl, .inl ⟨hs, fun l hl => c (.ref l) (upd F l _) _ _ m (Sub.new (M.sub.gone hl)) (M.frz hl) (.tup (.inl (.inl upd_same)) (vrs_sub (Sub.new (M.sub.gone hl)) r2)) q⟩⟩
    cases rv with
    | tup g1 r2 =>
      cases (show ys = _ from h1)
      exact ⟨_, _, rfl, .inr ⟨sqt_sub M.sub g1, c _ F H _ m (.refl F) M (.tup g1 r2) q⟩⟩
    | lst g1 r2 => cases (show ys = _ from h1); exact key _ _ rfl (sql_sub M.sub g1) r2
    | ptup g1 _ r2 =>
      cases (show ys = _ from h1)
      exact ⟨_, _, rfl, .inr ⟨.inl (.inr ⟨_, M.sub _ _ g1⟩), c _ F H _ m (.refl F) M (.tup (.inl (.inr ⟨_, g1⟩)) r2) q⟩⟩
    | ref p =>
      obtain ⟨vs, e, r2⟩ := M.lst_ (show m p = some (.lst ys) from h1)
      exact key _ _ rfl (.inl (.inl e)) r2
    | _ => exact (show False from h1).elim
  · exact h.elim
theorem sim_lstOf : SimC K (rLstG K) sLstOf := fun F H m xs as S Q M rs h c => by
  unfold sLstOf at h
  split at h
  · obtain ⟨ys, h1, q⟩ := h
    obtain ⟨v, rfl, rv⟩ := vrs_one rs
    obtain ⟨p, vs, rfl, hs, r2⟩ := its_seq M rv h1
    exact ⟨p, vs, rfl, hs, fun l hl => c (.ref l) F _ _ _ (.refl F) (M.newL hl r2) (.ref l) (q l (M.gone hl))⟩
  · exact h.elim
/-- int(..) of an int, a bool -/
abbrev rInt1 : List V → Hp → VK → Prop := fun xs H Q => (∃ i, xs = [.int i] ∧ Q (.int i) H) ∨ ∃ k, xs = [.bl k] ∧ Q (.int (if k then 1 else 0)) H
def sInt1 : SRC := fun vs m S => match vs with
  | [.int i] => S (.int i) m
  | [.bl k] => S (.int (if k then 1 else 0)) m
  | _ => False
theorem sim_int1 : SimC K rInt1 sInt1 := fun F H m xs as S Q M rs h c => by
  unfold sInt1 at h
  split at h
  · obtain ⟨v, rfl, rv⟩ := vrs_one rs
    obtain rfl := vr_int rv
    exact .inl ⟨_, rfl, c _ F H _ m (.refl F) M (.int _) h⟩
  · obtain ⟨v, rfl, rv⟩ := vrs_one rs
    obtain rfl := vr_bl rv
    exact .inr ⟨_, rfl, c _ F H _ m (.refl F) M (.int _) h⟩
  · exact h.elim
/-- str(n) -/
abbrev rStrI : List V → Hp → VK → Prop := fun xs H Q => ∃ i, xs = [.int i] ∧ i.natAbs.log2 < 1920 ∧ Q (.str (toString i)) H
def sStrI : SRC := fun vs m S => match vs with
  | [.int i] => i.natAbs.log2 < 1920 ∧ S (.str (toString i)) m
  | _ => False
end
end Sy

set_option Elab.async false
set_option linter.all false
set_option maxRecDepth 100000
set_option maxHeartbeats 4000000
/-! Statements, loops, comprehensions, defs over symbolic values. -/
namespace Sy
open PySem PySem.Spec PyProof.Rows L2
structure SEnds where
  nx : DS → Mem → Prop
  rt : SV → Mem → Prop
  bk : DS → Mem → Prop := fun _ _ => False
  ct : DS → Mem → Prop := fun _ _ => False
abbrev SS := SXK → SEnds → DS → Mem → Prop
def CnS (K : PySem.W.Frag) (F : Hp) (S : DS → Mem → Prop) (Q : L2.St → Hp → Prop) : Prop := ∀ σ δ F' H' m', Sub F F' → SR K F' σ δ → MR K F' H' m' → S δ m' → Q σ H'
theorem CnS.go {K : PySem.W.Frag} {F F' : Hp} {S : DS → Mem → Prop} {Q : L2.St → Hp → Prop} (c : CnS K F S Q) (s : Sub F F') : CnS K F' S Q := fun v F2 H2 sv m2 s2 => c v F2 H2 sv m2 (s.trans s2)
structure EndOk (K : PySem.W.Frag) (F : Hp) (E : Ends) (D : SEnds) : Prop where
  nx : CnS K F D.nx E.nx
  rt : Cn K F D.rt E.rt
  bk : CnS K F D.bk E.bk
  ct : CnS K F D.ct E.ct
theorem EndOk.go {K : PySem.W.Frag} {F F' : Hp} {E : Ends} {D : SEnds} (c : EndOk K F E D) (s : Sub F F') : EndOk K F' E D := ⟨c.nx.go s, c.rt.go s, c.bk.go s, c.ct.go s⟩
def SimS (K : PySem.W.Frag) (E : XK) (ts : TS) (ss : SS) : Prop := ∀ σ F H δ m SX D Es, Rl K E σ F H δ m SX → ss SX D δ m → EndOk K F Es D → ts Es σ H
structure GS (K : PySem.W.Frag) (E : XK) (X : Cx) (st : Stmt) (ts : TS) (ss : SS) : Prop where
  pe : PS X st ts
  sim : SimS K E ts ss
structure GSs (K : PySem.W.Frag) (E : XK) (X : Cx) (st : List Stmt) (ts : TS) (ss : SS) : Prop where
  pe : PSs X st ts
  sim : SimS K E ts ss
/-! targets -/
abbrev SG := SXK → SV → DS → Mem → (DS → Mem → Prop) → Prop
abbrev SGs := SXK → List SV → DS → Mem → (DS → Mem → Prop) → Prop
def SimG (K : PySem.W.Frag) (E : XK) (g : TG) (s : SG) : Prop := ∀ σ F H δ m SX v sv S Q, Rl K E σ F H δ m SX → VR K F v sv → s SX sv δ m S → CnS K F S Q → g v σ H Q
def SimGs (K : PySem.W.Frag) (E : XK) (g : TGs) (s : SGs) : Prop := ∀ σ F H δ m SX v sv S Q, Rl K E σ F H δ m SX → VRs K F v sv → s SX sv δ m S → CnS K F S Q → g v σ H Q
structure GG (K : PySem.W.Frag) (E : XK) (X : Cx) (e : Expr) (g : TG) (s : SG) : Prop where
  pe : PG X e g
  sim : SimG K E g s
structure GGs (K : PySem.W.Frag) (E : XK) (X : Cx) (e : List Expr) (g : TGs) (s : SGs) : Prop where
  pe : PGs X e g
  sim : SimGs K E g s
def hName (i : Nat) : SG := fun _ v δ m S => S (δ.set i (some v)) m
def hNil : SGs := fun _ vs δ m S => match vs with
  | [] => S δ m
  | _ => False
def hCons (g : SG) (r : SGs) : SGs := fun SX vs δ m S => match vs with
  | v :: ws => g SX v δ m fun δ1 m1 => r SX ws δ1 m1 S
  | [] => False
def hTup (n : Nat) (r : SGs) : SG := fun SX v δ m S => match v with
  | .tup xs => xs.length = n ∧ r SX xs δ m S
  | _ => False
section
variable {K : PySem.W.Frag} {E : XK} {X : Cx} {a b c e : Expr} {es : List Expr} {ta tb tc te : TE} {sa sb sc se : SE} {pos pos' : Pos} {g : TG} {gs : TGs} {sg : SG} {sgs : SGs}
theorem gg_name {i : Nat} {x : Str} (hN : X.N.Nodup) (hi : X.N[i]? = some x) (hx : Loc X.env.scope x) (hf : X.fn x = true ∨ X.env.scope.names.lookup x = some .local := by first | exact .inl rfl | exact .inr rfl | assumption) : GG K E X (.Name x pos) (gName i) (hName i) :=
  ⟨pg_name hN hi hx hf, fun σ F H δ m SX v sv S Q r rv h c => c _ _ F H m (.refl F) (r.sr.set rv) r.mr h⟩
theorem ggs_nil : GGs K E X [] gNil hNil := ⟨pgs_nil, fun σ F H δ m SX v sv S Q r rv h c => by
  cases rv with
  | nil => exact ⟨rfl, c _ _ F H m (.refl F) r.sr r.mr h⟩
  | cons _ _ => exact (show False from h).elim⟩
theorem ggs_cons (h1 : GG K E X e g sg) (h2 : GGs K E X es gs sgs) (hs : (assignEach (e :: es) X.env).map (·.2) = assign e X.env :: (assignEach es X.env).map (·.2) := by rfl) : GGs K E X (e :: es) (gCons g gs) (hCons sg sgs) := ⟨pgs_cons h1.pe h2.pe hs, fun σ F H δ m SX v sv S Q r rv h c => by
  cases rv with
  | nil => exact (show False from h).elim
  | cons r1 r2 =>
    exact ⟨_, _, rfl, h1.sim σ F H δ m SX _ _ _ _ r r1 h fun σ1 δ1 F1 H1 m1 s1 sr1 M1 q1 => h2.sim σ1 F1 H1 δ1 m1 SX _ _ S Q ⟨sr1, M1, r.ex.go s1⟩ (vrs_sub s1 r2) q1 (c.go s1)⟩⟩
theorem gg_tup (n : Nat) {k : Nat} (hc : X.calm = true) (h : GGs K E X es gs sgs) (hn : (assignEach es X.env).length = n := by rfl) (hst : (assignEach es X.env).findIdx? (·.1) = none := by rfl) (hK : X.K = K := by rfl) : GG K E X (.Tuple es k pos) (gTup K n gs) (hTup n sgs) := by
  subst hK
  exact ⟨pg_tup hc h.pe hn hst, fun σ F H δ m SX v sv S Q r rv hh c => by
    cases rv with
    | tup h1 h2 => exact ⟨_, _, rfl, sqt_sub r.mr.sub h1, by rw [vrs_length h2]; exact hh.1, h.sim σ F H δ m SX _ _ S Q r h2 hh.2 c⟩
    | _ => exact (show False from hh).elim⟩
/-- o[i] = v of a list -/
def hSubL (o i : SE) : SG := fun SX v δ m S => o SX δ m fun x m1 => i SX δ m1 fun y m2 => match x, y with
  | .ref a, .int k => ∃ xs j, m2 a = some (.lst xs) ∧ ixN xs.length k = some j ∧ S δ (up m2 a (.lst (xs.set j v)))
  | _, _ => False
theorem gg_subL (ho : GE K E X a ta sa) (hi : GE K E X b tb sb) (ha : ∀ v, assign (.Subscript a b pos) X.env v = (do
      let ov ← holding [v] (eval a X.env)
      let iv ← holding [v, ov] (eval b X.env)
      standAt pos
      holding [v, ov, iv] (setItem ov iv v)
      release [v, ov, iv] []) := by intro _; rfl) : GG K E X (.Subscript a b pos) (gSub ta tb rSetL) (hSubL sa sb) := ⟨pg_sub ho.pe hi.pe set_list ha, fun σ F H δ m SX v sv S Q r rv h c =>
  ho.sim σ F H δ m SX _ _ r h fun x F1 H1 sx m1 s1 M1 v1 h1 => hi.sim σ F1 H1 δ m1 SX _ _ (r.go s1 M1) h1 fun y F2 H2 sy m2 s2 M2 v2 h2 => by
    have v1 := vr_sub s2 v1
    cases v1 <;> cases v2 <;> first
      | exact (show False from h2).elim
      | skip
    obtain ⟨xs, j, e1, e2, q⟩ := (show ∃ xs j, _ from h2)
    obtain ⟨vs, e3, r3⟩ := M2.lst_ e1
    have s12 := s1.trans s2
    exact ⟨_, vs, _, j, rfl, rfl, e3, by rw [vrs_length r3]; exact e2, c _ δ F2 _ _ s12 (r.sr.sub s12) (M2.setL e1 (vrs_set j r3 (vr_sub s12 rv))) q⟩⟩
end
/-! small statements -/
def sNext : SS := fun _ D δ m => D.nx δ m
def sSeq (t u : SS) : SS := fun SX D δ m => t SX { D with nx := fun δ1 m1 => u SX D δ1 m1 } δ m
def sAsg (a : SE) (g : SG) : SS := fun SX D δ m => a SX δ m fun x m1 => g SX x δ m1 D.nx
def sDrop (a : SE) : SS := fun SX D δ m => a SX δ m fun _ m1 => D.nx δ m1
def sRet (a : SE) : SS := fun SX D δ m => a SX δ m D.rt
def sRetN : SS := fun _ D _ m => D.rt .non m
def sIfS (c : STt) (t u : SS) : SS := fun SX D δ m => c SX δ m fun b m1 => Br b (t SX D δ m1) (u SX D δ m1)
def sBreak : SS := fun _ D δ m => D.bk δ m
def sCont : SS := fun _ D δ m => D.ct δ m
def sNever : SS := fun _ _ _ _ => False
section
variable {K : PySem.W.Frag} {E : XK} {X : Cx} {a b c e : Expr} {es : List Expr} {ta tb tc te : TE} {sa sb sc se : SE} {pos pos' : Pos} {g : TG} {gs : TGs} {sg : SG} {sgs : SGs} {st : Stmt} {sts rest : List Stmt} {t u : TS} {zt zu : SS} {ct : TT} {cs : STt}
theorem gss_nil : GSs K E X [] tNext sNext := ⟨pss_nil, fun σ F H δ m SX D Es r h q => q.nx σ δ F H m (.refl F) r.sr r.mr h⟩
theorem gss_one (h : GS K E X st t zt) : GSs K E X [st] t zt := ⟨pss_one h.pe, h.sim⟩
theorem gss_cons (h1 : GS K E X st t zt) (h2 : GSs K E X rest u zu) : GSs K E X (st :: rest) (tSeq t u) (sSeq zt zu) := ⟨pss_cons h1.pe h2.pe, fun σ F H δ m SX D Es r h q =>
  h1.sim σ F H δ m SX _ _ r h ⟨fun σ1 δ1 F1 H1 m1 s1 sr1 M1 q1 => h2.sim σ1 F1 H1 δ1 m1 SX D Es ⟨sr1, M1, r.ex.go s1⟩ q1 (q.go s1), q.rt, q.bk, q.ct⟩⟩
theorem gs_cont : GS K E X (.Continue pos) tCont sCont := ⟨ps_continue, fun σ F H δ m SX D Es r h q => q.ct σ δ F H m (.refl F) r.sr r.mr h⟩
theorem gs_never : GS K E X st tNever sNever := ⟨ps_never, fun σ F H δ m SX D Es r h q => h.elim⟩
theorem gs_expr (he : GE K E X e te se) (hs : swapsWith e none pos.line X.env = pure false := by rfl) : GS K E X (.Expr e pos) (tDrop te) (sDrop se) := ⟨ps_expr he.pe hs, fun σ F H δ m SX D Es r h q =>
  he.sim σ F H δ m SX _ _ r h fun v F1 H1 sv m1 s1 M1 v1 h1 => q.nx σ δ F1 H1 m1 s1 (r.sr.sub s1) M1 h1⟩
theorem gs_ret (he : GE K E X e te se) : GS K E X (.Return (some e) pos) (tRet te) (sRet se) := ⟨ps_ret he.pe, fun σ F H δ m SX D Es r h q => he.sim σ F H δ m SX _ _ r h q.rt⟩
theorem gs_retN : GS K E X (.Return none pos) tRetN sRetN := ⟨ps_retN, fun σ F H δ m SX D Es r h q => q.rt _ F H _ m (.refl F) r.mr .non h⟩
theorem sim_asg (he : SimE K E te se) (hg : SimG K E g sg) : SimS K E (tAsg te g) (sAsg se sg) := fun σ F H δ m SX D Es r h q =>
  he σ F H δ m SX _ _ r h fun v F1 H1 sv m1 s1 M1 v1 h1 => hg σ F1 H1 δ m1 SX v sv _ _ (r.go s1 M1) v1 h1 (q.nx.go s1)
theorem gs_asg (he : GE K E X e te se) (hg : GG K E X a g sg) (hs : swapsWithSole [a] e pos.line X.env = pure false := by rfl) (hw : swappedStores [a] e X.env = pure none := by rfl)
    (h1 : (assignEach [a] X.env).map (·.2) = [assign a X.env] := by rfl) : GS K E X (.Assign [a] e pos) (tAsg te g) (sAsg se sg) := ⟨ps_asg he.pe hg.pe hs hw h1, sim_asg he.sim hg.sim⟩
theorem gs_set {i : Nat} {x : Str} (hN : X.N.Nodup) (hi : X.N[i]? = some x) (hx : Loc X.env.scope x) (he : GE K E X e te se) (hs : swapsWith e (some (.Name x pos')) pos.line X.env = pure false := by rfl) (hf : X.fn x = true ∨ X.env.scope.names.lookup x = some .local := by first | exact .inl rfl | exact .inr rfl | assumption) : GS K E X (.Assign [.Name x pos'] e pos) (tAsg te (gName i)) (sAsg se (hName i)) :=
  ⟨ps_set hN hi hx he.pe hs hf, sim_asg he.sim fun σ F H δ m SX v sv S Q r rv h c => c _ _ F H m (.refl F) (r.sr.set rv) r.mr h⟩
theorem gs_if {s1 s2 : List Stmt} (hc : GT K E X c ct cs) (h1 : GSs K E X s1 t zt) (h2 : GSs K E X s2 u zu) : GS K E X (.If c s1 s2 pos) (tIfS ct t u) (sIfS cs zt zu) := ⟨ps_if hc.pe h1.pe h2.pe, fun σ F H δ m SX D Es r h q =>
  hc.sim σ F H δ m SX _ _ r h fun b F1 H1 m1 s1 M1 h1' => by
    rw [Br_eq] at h1'
    cases b with
    | true => exact h1.sim σ F1 H1 δ m1 SX D Es (r.go s1 M1) (by simpa using h1') (q.go s1)
    | false => exact h2.sim σ F1 H1 δ m1 SX D Es (r.go s1 M1) (by simpa using h1') (q.go s1)⟩
end
/-! ### while -/
@[irreducible] def WhileGo (c : STt) (b : SS) (SX : SXK) (D : SEnds) (δ : DS) (m : Mem) : Prop := ∃ W : Nat → DS → Mem → Prop, (∃ n, W n δ m) ∧ ∀ n δ m, W n δ m →
  c SX δ m fun t m1 => Br t (b SX { D with nx := fun δ' m' => ∃ n', n' < n ∧ Fg (W n' δ') m', ct := fun δ' m' => ∃ n', n' < n ∧ Fg (W n' δ') m', bk := D.nx } δ m1) (D.nx δ m1)
def sWhile (c : STt) (b : SS) : SS := fun SX D δ m => WhileGo c b SX D δ m
section
variable {K : PySem.W.Frag} {E : XK} {X : Cx} {c : Expr} {pos : Pos} {body : List Stmt} {t : TS} {zt : SS} {ct : TT} {cs : STt}
theorem gs_while (hp : PassesOwn (model X.prog X.w) X.A X.env X.xe) (hc : GT K E X c ct cs) (hb : GSs K E X body t zt) : GS K E X (.While c body [] pos) (tWhile ct t) (sWhile cs zt) := ⟨ps_while hp hc.pe hb.pe, fun σ F H δ m SX D Es r h q => by
  have h : WhileGo cs zt SX D δ m := h
  unfold WhileGo at h
  obtain ⟨W, ⟨n0, w0⟩, turn⟩ := h
  refine ⟨fun n σ1 H1 => ∃ F1 δ1 m1, Sub F F1 ∧ SR K F1 σ1 δ1 ∧ MR K F1 H1 m1 ∧ W n δ1 m1, ⟨n0, F, δ, m, .refl F, r.sr, r.mr, w0⟩, ?_⟩
  rintro n σ1 H1 ⟨F1, δ1, m1, s1, sr1, M1, w1⟩
  refine hc.sim σ1 F1 H1 δ1 m1 SX _ _ ⟨sr1, M1, r.ex.go s1⟩ (turn n δ1 m1 w1) fun b F2 H2 m2 s2 M2 h2 => ?_
  rw [Br_eq] at h2
  split
  · next e =>
    rw [if_pos e] at h2
    refine ⟨fun σ' H' => ∃ m', m' < n ∧ ∃ F1 δ1 m1, Sub F F1 ∧ SR K F1 σ' δ1 ∧ MR K F1 H' m1 ∧ W m' δ1 m1, fun _ _ z => z, ?_⟩
    have s12 := s1.trans s2
    have cn : CnS K F2 (fun δ' m' => ∃ n', n' < n ∧ Fg (W n' δ') m') (fun σ' H' => ∃ m', m' < n ∧ ∃ F1 δ1 m1, Sub F F1 ∧ SR K F1 σ' δ1 ∧ MR K F1 H' m1 ∧ W m' δ1 m1) := fun σ3 δ3 F3 H3 m3 s3 sr3 M3 ⟨n', hn, m4, l4, w3⟩ => ⟨n', hn, F3, δ3, m4, s12.trans s3, sr3, M3.drop l4, w3⟩
    exact hb.sim σ1 F2 H2 δ1 m2 SX _ _ ⟨sr1.sub s2, M2, r.ex.go s12⟩ h2 ⟨cn, q.rt.go s12, q.nx.go s12, cn⟩
  · next e =>
    rw [if_neg e] at h2
    exact q.nx σ1 δ1 F2 H2 m2 (s1.trans s2) (sr1.sub s2) M2 h2⟩
end
/-! ### what is walked -/
abbrev SI := SXK → DS → Mem → (List SV → (Mem → Prop) → Mem → Prop) → Prop
structure ItOk (K : PySem.W.Frag) (F : Hp) (J : It) (items : List SV) (keep : Mem → Prop) : Prop where
  go : ∀ i F' H' m' x, Sub F F' → MR K F' H' m' → keep m' → items[i]? = some x → J.go i H' ∧ ∀ v H'', J.yld i H' v H'' → ∃ F'', Sub F' F'' ∧ MR K F'' H'' m' ∧ VR K F'' v x
  stop : ∀ F' H' m', Sub F F' → MR K F' H' m' → keep m' → J.stop items.length H'
def SimI (K : PySem.W.Frag) (E : XK) (ti : TI) (si : SI) : Prop := ∀ σ F H δ m SX R R', Rl K E σ F H δ m SX → si SX δ m R → (∀ J items keep F' H' m', Sub F F' → MR K F' H' m' → ItOk K F' J items keep → R items keep m' → R' J H') → ti σ H R'
structure GI (K : PySem.W.Frag) (E : XK) (X : Cx) (tg e : Expr) (ti : TI) (si : SI) : Prop where
  pe : PI X tg e ti
  sim : SimI K E ti si
def iSeq (K : PySem.W.Frag) (tl : TE) : TI := fun σ H R => tl σ H fun x H1 => ∃ a, x = .ref a ∧ (((∃ xs, SqL K H1 a xs) ∧ R (Itl K a) H1) ∨ ((∃ xs, SqT K H1 a xs) ∧ R (Itt K a) H1))
theorem pi_seq {X : Cx} {tg l : Expr} {tl : TE} (hl : PE X l tl) : PI X tg l (iSeq X.K tl) := by
  refine ⟨fun pins s σ H R I h => ?_⟩
  refine thn (hl.run pins s σ H _ I h) fun v s1 ⟨x, H1, I1, r1, q1⟩ => ?_
  obtain ⟨a, e, q⟩ := q1
  subst e
  cases r1
  rcases q with ⟨⟨xs, hq⟩, q⟩ | ⟨⟨xs, hq⟩, q⟩
  · obtain ⟨its, rv, p, hz⟩ := I1.list hq
    refine wpAny_pyIter_list p.isList ?_
    refine ⟨s1.heap.objs.size, [s1.heap.objs.size], _, _, H1, rfl, I1.kept (t' := s1.toks) fun b o e => Heap.get?_push_of_some _ e, turn_list a _, ⟨_, Heap.get?_push_size _ rfl, rfl, rfl⟩, fun b hb => ?_, q⟩
    have e : b = s1.heap.objs.size := by simpa using hb
    subst e
    exact I1.fpOk (Nat.le_refl _) (I1.hok.fresh (Nat.le_refl _))
  · obtain ⟨its, rv, p, hz⟩ := I1.tuple hq
    refine wpAny_pyIter_tuple (show s1.heap.IsTuple a its.toArray from p) ?_
    refine ⟨s1.heap.objs.size, [s1.heap.objs.size], _, _, H1, rfl, I1.kept (t' := s1.toks) fun b o e => Heap.get?_push_of_some _ e, turn_tuple a _, ⟨_, Heap.get?_push_size _ rfl, rfl, rfl⟩, fun b hb => ?_, q⟩
    have e : b = s1.heap.objs.size := by simpa using hb
    subst e
    exact I1.fpOk (Nat.le_refl _) (I1.hok.fresh (Nat.le_refl _))
def keepOf (x : SV) (xs : List SV) (m : Mem) : Prop := match x with
  | .ref a => m a = some (.lst xs)
  | _ => True
def sSeqI (a : SE) : SI := fun SX δ m R => a SX δ m fun x m1 => ∃ xs, Its m1 x xs ∧ R xs (keepOf x xs) m1
section
variable {K : PySem.W.Frag} {F : Hp}
theorem it_l {a : Addr} {items : List SV} {keep : Mem → Prop} (h : ∀ F' H' m', Sub F F' → MR K F' H' m' → keep m' → ∃ vs, SqL K H' a vs ∧ VRs K F' vs items) : ItOk K F (Itl K a) items keep where
  go := fun i F' H' m' x s M k e => by
    obtain ⟨vs, h1, h2⟩ := h F' H' m' s M k
    obtain ⟨v, hv, rv⟩ := vrs_get h2 e
    refine ⟨⟨vs, v, h1, hv⟩, fun w H'' hy => ?_⟩
    obtain ⟨rfl, hy⟩ := hy
    have z := hy vs h1
    rw [hv] at z
    cases z
    exact ⟨F', .refl F', M, rv⟩
  stop := fun F' H' m' s M k => by
    obtain ⟨vs, h1, h2⟩ := h F' H' m' s M k
    exact ⟨vs, h1, by rw [vrs_length h2]; exact Nat.le_refl _⟩
theorem it_t {a : Addr} {items : List SV} {keep : Mem → Prop} (h : ∀ F' H' m', Sub F F' → MR K F' H' m' → keep m' → ∃ vs, SqT K H' a vs ∧ VRs K F' vs items) : ItOk K F (Itt K a) items keep where
  go := fun i F' H' m' x s M k e => by
    obtain ⟨vs, h1, h2⟩ := h F' H' m' s M k
    obtain ⟨v, hv, rv⟩ := vrs_get h2 e
    refine ⟨⟨vs, v, h1, hv⟩, fun w H'' hy => ?_⟩
    obtain ⟨rfl, hy⟩ := hy
    have z := hy vs h1
    rw [hv] at z
    cases z
    exact ⟨F', .refl F', M, rv⟩
  stop := fun F' H' m' s M k => by
    obtain ⟨vs, h1, h2⟩ := h F' H' m' s M k
    exact ⟨vs, h1, by rw [vrs_length h2]; exact Nat.le_refl _⟩
/-- lo, lo + 1, .. -/
def rngS : Int → Nat → List SV
  | _, 0 => []
  | lo, n + 1 => .int lo :: rngS (lo + 1) n
theorem rngS_length : ∀ (n : Nat) (lo : Int), (rngS lo n).length = n
  | 0, _ => rfl
  | n + 1, lo => by rw [rngS, List.length_cons, rngS_length n]
theorem rngS_get : ∀ (n : Nat) (lo : Int) (i : Nat) (x : SV), (rngS lo n)[i]? = some x → i < n ∧ x = .int (lo + (i : Nat))
  | 0, _, _, _, e => by simp [rngS] at e
  | n + 1, lo, 0, x, e => by
    simp [rngS] at e
    exact ⟨Nat.succ_pos _, by rw [← e]; simp⟩
  | n + 1, lo, i + 1, x, e => by
    obtain ⟨h1, h2⟩ := rngS_get n (lo + 1) i x (by simpa [rngS] using e)
    exact ⟨Nat.succ_lt_succ h1, by rw [h2]; congr 1; push_cast; omega⟩
theorem it_r {lo : Int} {n : Nat} : ItOk K F (Itr lo n) (rngS lo n) (fun _ => True) where
  go := fun i F' H' m' x s M k e => by
    obtain ⟨h1, rfl⟩ := rngS_get n lo i x e
    refine ⟨h1, fun w H'' hy => ?_⟩
    obtain ⟨rfl, rfl⟩ := hy
    exact ⟨F', .refl F', M, .int _⟩
  stop := fun F' H' m' s M k => by rw [rngS_length]; exact Nat.le_refl _
end
def sRng1 (a : SA) : SI := fun SX δ m R => a SX δ m fun xs m1 => match xs with
  | [.int j] => (-(2 ^ 62) ≤ j ∧ j < 2 ^ 62) ∧ R (rngS 0 j.toNat) (fun _ => True) m1
  | _ => False
def sRng2 (a : SA) : SI := fun SX δ m R => a SX δ m fun xs m1 => match xs with
  | [.int i, .int j] => (-(2 ^ 62) ≤ i ∧ i < 2 ^ 62 ∧ -(2 ^ 62) ≤ j ∧ j < 2 ^ 62) ∧ R (rngS i (j - i).toNat) (fun _ => True) m1
  | _ => False
theorem one_int {xs : List SV} {P : Int → Prop} (h : match xs with | [.int j] => P j | _ => False) : ∃ j, xs = [.int j] ∧ P j := by
  split at h
  · exact ⟨_, rfl, h⟩
  · exact h.elim
section
variable {K : PySem.W.Frag} {E : XK} {X : Cx} {tg a b l e : Expr} {ta tl : TE} {sa sl : SE} {pos p : Pos} {t : TA} {s : SA}
theorem gi_seq (h : GE K E X l tl sl) (hK : X.K = K := by rfl) : GI K E X tg l (iSeq K tl) (sSeqI sl) := by
  subst hK
  exact ⟨pi_seq h.pe, fun σ F H δ m SX R R' r hh c => h.sim σ F H δ m SX _ _ r hh fun v F1 H1 sv m1 s1 M1 v1 h1 => by
    obtain ⟨xs, hi, q⟩ := h1
    cases v1 with
    | tup g1 g2 =>
      cases (show xs = _ from hi)
      exact ⟨_, rfl, .inr ⟨⟨_, sqt_sub M1.sub g1⟩, c _ _ _ F1 H1 m1 s1 M1 (it_t fun F2 H2 m2 s2 M2 _ => ⟨_, sqt_sub (s2.trans M2.sub) g1, vrs_sub s2 g2⟩) q⟩⟩
    | lst g1 g2 =>
      cases (show xs = _ from hi)
      exact ⟨_, rfl, .inl ⟨⟨_, sql_sub M1.sub g1⟩, c _ _ _ F1 H1 m1 s1 M1 (it_l fun F2 H2 m2 s2 M2 _ => ⟨_, sql_sub (s2.trans M2.sub) g1, vrs_sub s2 g2⟩) q⟩⟩
    | ptup g1 _ g2 =>
      cases (show xs = _ from hi)
      exact ⟨_, rfl, .inr ⟨⟨_, .inl (.inr ⟨_, M1.sub _ _ g1⟩)⟩, c _ _ _ F1 H1 m1 s1 M1 (it_t fun F2 H2 m2 s2 M2 _ => ⟨_, .inl (.inr ⟨_, (s2.trans M2.sub) _ _ g1⟩), vrs_sub s2 g2⟩) q⟩⟩
    | ref p =>
      obtain ⟨vs, e1, _⟩ := M1.lst_ (show m1 p = some (.lst xs) from hi)
      exact ⟨_, rfl, .inl ⟨⟨_, .inl (.inl e1)⟩, c _ _ _ F1 H1 m1 s1 M1 (it_l fun F2 H2 m2 s2 M2 k => by
        obtain ⟨ws, e2, r2⟩ := M2.lst_ (show m2 p = some (.lst xs) from k)
        exact ⟨ws, .inl (.inl e2), r2⟩) q⟩⟩
    | _ => exact (show False from hi).elim⟩
theorem gi_range1 (hg : Gl X "range") (hm : X.mg "range" = none) (ha : GA K E X [a] t s) (hs : starEach [a] X.env = [(false, eval a X.env)] := by rfl) : GI K E X tg (.Call (.Name "range" p) [a] [] pos) (iRng1 t) (sRng1 s) := ⟨pi_range1 hg hm ha.pe hs, fun σ F H δ m SX R R' r hh c => ha.sim σ F H δ m SX _ _ r hh fun v F1 H1 sv m1 s1 M1 v1 h1 => by
  obtain ⟨j, rfl, h1⟩ := one_int h1
  obtain ⟨w, rfl, rw_⟩ := vrs_one v1
  obtain rfl := vr_int rw_
  exact ⟨_, rfl, h1.1.1, h1.1.2, c _ _ _ F1 H1 m1 s1 M1 it_r h1.2⟩⟩
end
/-! ### for -/
/-- I: what holds with the items that are left -/
@[irreducible] def ForGo (keep : Mem → Prop) (g : SG) (b : SS) (SX : SXK) (D : SEnds) (items : List SV) (δ : DS) (m : Mem) : Prop := ∃ I : List SV → DS → Mem → Prop, I items δ m ∧
  (∀ x r δ m, I (x :: r) δ m → keep m ∧ g SX x δ m fun δ1 m1 => b SX { D with nx := fun δ' => Fg (I r δ'), ct := fun δ' => Fg (I r δ'), bk := D.nx } δ1 m1) ∧ ∀ δ m, I [] δ m → keep m ∧ D.nx δ m
def sFor (si : SI) (g : SG) (b : SS) : SS := fun SX D δ m => si SX δ m fun items keep m1 => ForGo keep g b SX D items δ m1
theorem drop_cons {α : Type} {xs : List α} {i : Nat} {x : α} {r : List α} (h : xs.drop i = x :: r) : xs[i]? = some x ∧ xs.drop (i + 1) = r := by
  have h1 : i < xs.length := by
    by_cases q : i < xs.length
    · exact q
    · rw [List.drop_eq_nil_of_le (by omega)] at h; cases h
  rw [List.drop_eq_getElem_cons h1] at h
  injection h with h2 h3
  exact ⟨by rw [List.getElem?_eq_getElem h1, h2], h3⟩
section
variable {K : PySem.W.Frag} {E : XK} {X : Cx} {tg iter : Expr} {pos : Pos} {body : List Stmt} {t : TS} {zt : SS} {ti : TI} {si : SI} {g : TG} {sg : SG}
theorem gs_for (hp : PassesOwn (model X.prog X.w) X.A X.env X.xe) (hc : X.calm = true) (hi : GI K E X tg iter ti si) (hg : GG K E X tg g sg) (hb : GSs K E X body t zt) (hs : ∀ x, foldedSetIterable iter X.env x = pure x := by intro _; rfl) :
    GS K E X (.For tg iter body [] pos) (tFor ti g t) (sFor si sg zt) := ⟨ps_for hp hc hi.pe hg.pe hb.pe hs, fun σ F H δ m SX D Es r h q => hi.sim σ F H δ m SX _ _ r h fun J items keep F1 H1 m1 s1 M1 iok h1 => by
  unfold ForGo at h1
  obtain ⟨I, i0, step, done⟩ := h1
  refine ⟨fun i n σ' H' => ∃ F' δ' m' rest, Sub F1 F' ∧ SR K F' σ' δ' ∧ MR K F' H' m' ∧ items.drop i = rest ∧ n = rest.length ∧ i ≤ items.length ∧ I rest δ' m', ⟨_, F1, δ, m1, items, .refl F1, r.sr.sub s1, M1, rfl, rfl, Nat.zero_le _, i0⟩, ?_⟩
  rintro i n σ' H' ⟨F', δ', m', rest, s', sr', M', hd, rfl, hle, hI⟩
  cases rest with
  | nil =>
    obtain ⟨k, hn⟩ := done δ' m' hI
    have hl : items.length ≤ i := by simpa using hd
    obtain rfl : i = items.length := by omega
    exact .inl ⟨iok.stop F' H' m' s' M' k, q.nx σ' δ' F' H' m' (s1.trans s') sr' M' hn⟩
  | cons x rest =>
    obtain ⟨hx, hd2⟩ := drop_cons hd
    obtain ⟨k, hs⟩ := step x rest δ' m' hI
    obtain ⟨g1, g2⟩ := iok.go i F' H' m' x s' M' k hx
    refine .inr ⟨g1, fun σ2 H2 => ∃ F2 δ2 m2, Sub F1 F2 ∧ SR K F2 σ2 δ2 ∧ MR K F2 H2 m2 ∧ I rest δ2 m2, fun σ2 H2 ⟨F2, δ2, m2, a1, a2, a3, a4⟩ => ⟨rest.length, by simp, F2, δ2, m2, rest, a1, a2, a3, hd2, rfl, (List.getElem?_eq_some_iff.mp hx).1, a4⟩, fun v H'' hy => ?_⟩
    obtain ⟨F3, s3, M3, v3⟩ := g2 v H'' hy
    have s13 := s1.trans (s'.trans s3)
    refine hg.sim σ' F3 H'' δ' m' SX v x _ _ ⟨sr'.sub s3, M3, r.ex.go s13⟩ v3 hs fun σ4 δ4 F4 H4 m4 s4 sr4 M4 h4 => ?_
    have cn : CnS K F4 (fun δ' => Fg (I rest δ')) (fun σ2 H2 => ∃ F2 δ2 m2, Sub F1 F2 ∧ SR K F2 σ2 δ2 ∧ MR K F2 H2 m2 ∧ I rest δ2 m2) := fun σ5 δ5 F5 H5 m5 s5 sr5 M5 ⟨m6, l6, h5⟩ => ⟨F5, δ5, m6, (s'.trans s3).trans (s4.trans s5), sr5, M5.drop l6, h5⟩
    exact hb.sim σ4 F4 H4 δ4 m4 SX _ _ ⟨sr4, M4, r.ex.go (s13.trans s4)⟩ h4 ⟨cn, q.rt.go (s13.trans s4), q.nx.go (s13.trans s4), cn⟩⟩
end
/-! ### comprehensions -/
theorem wipe_set {σ : L2.St} {x : Option V} : ∀ {vs : List Nat} {v : Nat}, v ∈ vs → wipe (σ.set v x) vs = wipe σ vs
  | [], _, h => by cases h
  | w :: vs, v, h => by
    show (wipe (σ.set v x) vs).set w none = (wipe σ vs).set w none
    by_cases hv : v ∈ vs
    · rw [wipe_set hv]
    · have e : v = w := (List.mem_cons.mp h).resolve_right hv
      subst e
      have com : ∀ (us : List Nat), v ∉ us → wipe (σ.set v x) us = (wipe σ us).set v x := by
        intro us
        induction us with
        | nil => intro _; rfl
        | cons a us ih =>
          intro hn
          show (wipe (σ.set v x) us).set a none = ((wipe σ us).set a none).set v x
          rw [ih (fun z => hn (List.mem_cons_of_mem _ z)), List.set_comm]
          exact fun z => hn (by rw [z]; exact List.mem_cons_self)
      rw [com vs hv, List.set_set]
theorem wipe_wipe {σ2 σ : L2.St} {vs : List Nat} (h : wipe σ2 vs = wipe (wipe σ vs) vs) : wipe σ2 vs = wipe σ vs := by
  have key : ∀ us : List Nat, wipe (wipe σ us) us = wipe σ us := by
    intro us
    have step : ∀ (us ws : List Nat) (τ : L2.St), (∀ u ∈ us, u ∈ ws) → wipe (wipe τ us) ws = wipe τ ws := by
      intro us
      induction us with
      | nil => intro ws τ _; rfl
      | cons a us ih =>
        intro ws τ hs
        show wipe ((wipe τ us).set a none) ws = wipe τ ws
        rw [wipe_set (hs a List.mem_cons_self)]
        exact ih ws τ fun u hu => hs u (List.mem_cons_of_mem _ hu)
    exact step us us σ fun _ z => z
  rw [h, key]

/-- the target only writes to vs -/
def WpG (g : TG) (vs : List Nat) : Prop := ∀ v σ H (Q Q' : L2.St → Hp → Prop), g v σ H Q → (∀ σ' H', Q σ' H' → wipe σ' vs = wipe σ vs → Q' σ' H') → g v σ H Q'
def WpGs (g : TGs) (vs : List Nat) : Prop := ∀ v σ H (Q Q' : L2.St → Hp → Prop), g v σ H Q → (∀ σ' H', Q σ' H' → wipe σ' vs = wipe σ vs → Q' σ' H') → g v σ H Q'
theorem wp_name {i : Nat} {vs : List Nat} (h : i ∈ vs) : WpG (gName i) vs := fun v σ H Q Q' q k => k _ _ q (wipe_set h)
theorem wps_nil {vs : List Nat} : WpGs gNil vs := fun v σ H Q Q' q k => ⟨q.1, k _ _ q.2 rfl⟩
theorem wps_cons {g : TG} {gs : TGs} {vs : List Nat} (h1 : WpG g vs) (h2 : WpGs gs vs) : WpGs (gCons g gs) vs := fun v σ H Q Q' q k => by
  obtain ⟨x, r, e, q⟩ := q
  exact ⟨x, r, e, h1 x σ H _ _ q fun σ1 H1 q1 w1 => h2 r σ1 H1 Q Q' q1 fun σ2 H2 q2 w2 => k σ2 H2 q2 (w2.trans w1)⟩
theorem wp_tup {K : PySem.W.Frag} {n : Nat} {gs : TGs} {vs : List Nat} (h : WpGs gs vs) : WpG (gTup K n gs) vs := fun v σ H Q Q' q k => by
  obtain ⟨a, xs, e, h1, h2, q⟩ := q
  exact ⟨a, xs, e, h1, h2, h xs σ H Q Q' q k⟩
def sYes : STt := fun _ _ m S => S true m
structure GTs (K : PySem.W.Frag) (E : XK) (X : Cx) (e : List Expr) (te : TT) (se : STt) : Prop where
  pe : PTs X e te
  sim : SimT K E te se
/-- D: the new list's place; I: the items that are left, what is made so far -/
@[irreducible] def LcGo (p : Addr) (keep : Mem → Prop) (g : SG) (tt : STt) (te : SE) (vs : List Nat) (SX : SXK) (δ : DS) (items : List SV) (m : Mem) (S : SV → Mem → Prop) : Prop := ∃ I : List SV → List SV → Mem → Prop, I items [] (up m p (.lst [])) ∧
  (∀ x r acc m, I (x :: r) acc m → keep m ∧ g SX x (wipeD δ vs) m fun δ1 m1 => tt SX δ1 m1 fun b m2 => Br b (te SX δ1 m2 fun y m3 => m3 p = some (.lst acc) ∧ Fg (I r (acc ++ [y])) (up m3 p (.lst (acc ++ [y])))) (Fg (I r acc) m2)) ∧
  ∀ acc m, I [] acc m → keep m ∧ S (.ref p) m
def sLc (si : SI) (g : SG) (tt : STt) (te : SE) (vs : List Nat) : SE := fun SX δ m S => si SX δ m fun items keep m1 => items.length ≤ sizeLine ∧ ∀ p, m1 p = none → LcGo p keep g tt te vs SX δ items m1 S
section
variable {K : PySem.W.Frag} {E : XK} {X : Cx} {pos spos py : Pos} {ti : TI} {si : SI} {g : TG} {sg : SG} {elt tg iter c : Expr} {ifs : List Expr} {scope : Scope} {own : List (Str × Nat)} {tt : TT} {st : STt} {te : TE} {se : SE}
theorem gts_nil : GTs K E X [] tYes sYes := ⟨pts_nil, fun σ F H δ m SX S Q r h q => q true F H m (.refl F) r.mr h⟩
theorem gts_one (h : GT K E X c tt st) : GTs K E X [c] tt st := ⟨pts_one h.pe, h.sim⟩
theorem sim_lc {vs : List Nat} (hi : SimI K E ti si) (hg : SimG K E g sg) (hw : WpG g vs) (ht : SimT K E tt st) (he : SimE K E te se) : SimE K E (tLc ti g tt te vs) (sLc si sg st se vs) := fun σ F H δ m SX S Q r h q => hi σ F H δ m SX _ _ r h fun J items keep F1 H1 m1 s1 M1 iok h1 => by
  obtain ⟨hlen, h1⟩ := h1
  intro D hD
  have h1 := h1 D (M1.gone hD)
  unfold LcGo at h1
  obtain ⟨I, i0, step, done⟩ := h1
  refine ⟨fun i n H' => ∃ F' m' rest acc, Sub F1 F' ∧ MR K F' H' m' ∧ items.drop i = rest ∧ n = rest.length ∧ i ≤ items.length ∧ acc.length ≤ i ∧ I rest acc m', ⟨_, F1, _, items, [], .refl F1, M1.newL hD .nil, rfl, rfl, Nat.zero_le _, Nat.zero_le _, i0⟩, ?_⟩
  rintro i n H' ⟨F', m', rest, acc, s', M', hd, rfl, hle, hacc, hI⟩
  cases rest with
  | nil =>
    obtain ⟨k, hn⟩ := done acc m' hI
    have hl : items.length ≤ i := by simpa using hd
    obtain rfl : i = items.length := by omega
    exact .inl ⟨iok.stop F' H' m' s' M' k, q (.ref D) F' H' _ m' (s1.trans s') M' (.ref D) hn⟩
  | cons x rest =>
    obtain ⟨hx, hd2⟩ := drop_cons hd
    have hi1 := (List.getElem?_eq_some_iff.mp hx).1
    obtain ⟨k, hs⟩ := step x rest acc m' hI
    obtain ⟨g1, g2⟩ := iok.go i F' H' m' x s' M' k hx
    refine .inr ⟨g1, fun H2 => ∃ F2 m2 acc2, Sub F1 F2 ∧ MR K F2 H2 m2 ∧ acc2.length ≤ i + 1 ∧ I rest acc2 m2, fun H2 ⟨F2, m2, acc2, a1, a2, a3, a4⟩ => ⟨rest.length, by simp, F2, m2, rest, acc2, a1, a2, hd2, rfl, hi1, a3, a4⟩, fun v H'' hy => ?_⟩
    obtain ⟨F3, s3, M3, v3⟩ := g2 v H'' hy
    have s13 := s1.trans (s'.trans s3)
    refine hw v _ H'' _ _ (hg (wipe σ vs) F3 H'' (wipeD δ vs) m' SX v x _ (fun σ2 H2 => tt σ2 H2 fun b H3 =>
      if b = true then te σ2 H3 fun y H4 => ∃ acc, H4 D = some (.lst acc) ∧ acc.length < sizeLine ∧ ∃ F2 m2 acc2, Sub F1 F2 ∧ MR K F2 (upd H4 D (.lst (acc ++ [y]))) m2 ∧ acc2.length ≤ i + 1 ∧ I rest acc2 m2 else ∃ F2 m2 acc2, Sub F1 F2 ∧ MR K F2 H3 m2 ∧ acc2.length ≤ i + 1 ∧ I rest acc2 m2) ⟨(r.sr.sub s13).wipe vs, M3, r.ex.go s13⟩ v3 hs fun σ4 δ4 F4 H4 m4 s4 sr4 M4 h4 => ?_) (fun σ2 H2 q2 w2 => ⟨wipe_wipe w2, q2⟩)
    refine ht σ4 F4 H4 δ4 m4 SX _ _ ⟨sr4, M4, r.ex.go (s13.trans s4)⟩ h4 fun b F5 H5 m5 s5 M5 h5 => ?_
    rw [Br_eq] at h5
    have s15 := (s13.trans s4).trans s5
    have t15 := ((s'.trans s3).trans s4).trans s5
    split
    · next e =>
      rw [if_pos e] at h5
      refine he σ4 F5 H5 δ4 m5 SX _ _ ⟨sr4.sub s5, M5, r.ex.go s15⟩ h5 fun y F6 H6 sy m6 s6 M6 v6 h6 => ?_
      obtain ⟨e1, m7, l7, h6⟩ := h6
      obtain ⟨vs', e2, r2⟩ := M6.lst_ e1
      exact ⟨vs', e2, by rw [vrs_length r2]; omega, F6, _, _, t15.trans s6, (M6.setL e1 (vrs_append r2 (.cons v6 .nil))).drop l7, by rw [List.length_append]; simp; omega, h6⟩
    · next e =>
      rw [if_neg e] at h5
      obtain ⟨m7, l7, h5⟩ := h5
      exact ⟨F5, m7, acc, t15, M5.drop l7, by omega, h5⟩
theorem ge_lc (hc : X.calm = true) (hN : X.N.Nodup) (hi : GI K E X tg iter ti si) (ok : BlkOk X.N X.env.scope scope own)
    (hg : ∀ (s : Shared) (H : Hp) (C : Addr) (cl : List (Str × Addr)) (fp : List Addr), GG K E (X.blk s H scope (compEnvC scope cl C X.env) fp) tg g sg) (hw : WpG g (own.map (·.2))) (ht : ∀ (s : Shared) (H : Hp) (C : Addr) (cl : List (Str × Addr)) (fp : List Addr), GTs K E (X.blk s H scope (compEnvC scope cl C X.env) fp) ifs tt st)
    (he : ∀ (s : Shared) (H : Hp) (C : Addr) (cl : List (Str × Addr)) (fp : List Addr), GE K E (X.blk s H scope (compEnvC scope cl C X.env) fp) elt te se) (hs : ∀ x, foldedSetIterable iter X.env x = pure x := by intro _; rfl) :
    GE K E X (.ListComp elt [⟨tg, iter, ifs, 0⟩] scope pos) (tLc ti g tt te (own.map (·.2))) (sLc si sg st se (own.map (·.2))) :=
  ⟨pe_lc hc hN hi.pe ok (fun s H C cl fp => (hg s H C cl fp).pe) (fun s H C cl fp => (ht s H C cl fp).pe) (fun s H C cl fp => (he s H C cl fp).pe) hs,
    sim_lc hi.sim (hg X.s_0 X.H_0 0 [] []).sim hw (ht X.s_0 X.H_0 0 [] []).sim (he X.s_0 X.H_0 0 [] []).sim⟩
theorem gs_setLc {i : Nat} {y : Str} (hc : X.calm = true) (hN : X.N.Nodup) (hy : X.N[i]? = some y) (hyl : X.env.scope.names.lookup y = some .local)
    (hsw : swapsWith (.ListComp elt [⟨tg, iter, ifs, 0⟩] scope pos) (some (.Name y py)) spos.line X.env = pure true) (hi : GI K E X tg iter ti si) (ok : BlkOk X.N X.env.scope scope own)
    (hg : ∀ (s : Shared) (H : Hp) (C : Addr) (cl : List (Str × Addr)) (fp : List Addr), GG K E (X.blk s H scope (compEnvC scope cl C X.env) fp) tg g sg) (hw : WpG g (own.map (·.2))) (ht : ∀ (s : Shared) (H : Hp) (C : Addr) (cl : List (Str × Addr)) (fp : List Addr), GTs K E (X.blk s H scope (compEnvC scope cl C X.env) fp) ifs tt st)
    (he : ∀ (s : Shared) (H : Hp) (C : Addr) (cl : List (Str × Addr)) (fp : List Addr), GE K E (X.blk s H scope (compEnvC scope cl C X.env) fp) elt te se) (hs : ∀ x, foldedSetIterable iter X.env x = pure x := by intro _; rfl) :
    GS K E X (.Assign [.Name y py] (.ListComp elt [⟨tg, iter, ifs, 0⟩] scope pos) spos) (tAsg (tLc ti g tt te (own.map (·.2))) (gName i)) (sAsg (sLc si sg st se (own.map (·.2))) (hName i)) :=
  ⟨ps_setLc hc hN hy hyl hsw hi.pe ok (fun s H C cl fp => (hg s H C cl fp).pe) (fun s H C cl fp => (ht s H C cl fp).pe) (fun s H C cl fp => (he s H C cl fp).pe) hs,
    sim_asg (sim_lc hi.sim (hg X.s_0 X.H_0 0 [] []).sim hw (ht X.s_0 X.H_0 0 [] []).sim (he X.s_0 X.H_0 0 [] []).sim) fun σ F H δ m SX v sv S Q r rv h c => c _ _ F H m (.refl F) (r.sr.set rv) r.mr h⟩
end
/-! ### defs -/
abbrev SpS := List SV → Mem → SXK → (SV → Mem → Prop) → Prop
def lift (K : PySem.W.Frag) (sp : SpS) : Sp := fun vs H Q E => ∃ F svs m SX S, MR K F H m ∧ VRs K F vs svs ∧ sp svs m SX S ∧ ExOk K F E SX ∧ Cn K F S Q
def sCall (sp : SpS) (dvs : List SV) (a : SA) : SE := fun SX δ m S => a SX δ m fun vs m1 => sp (vs ++ dvs) m1 SX S
abbrev FnP (K : PySem.W.Frag) (x : Str) (st : Stmt) (f : Addr) (fd : FuncData) : Prop := FunD K x x (defArgs st) (defBody st) (defScope st) [] [] f fd
section
variable {K : PySem.W.Frag} {E : XK} {X : Cx} {CX : CXT} {k : Nat} {f C : Addr} {fd : FuncData} {ps : List Str} {sp : SpS} {dvs : List V} {svs : List SV} {ds : List Value} {x : Str} {p pos : Pos} {e : Expr} {es : List Expr} {t : TA} {s : SA}
theorem sim_call (hd : ∀ F, VRs K F dvs svs) (ha : SimA K E t s) : SimE K E (tCall (lift K sp) dvs E t) (sCall sp svs s) := fun σ F H δ m SX S Q r h c =>
  ha σ F H δ m SX _ _ r h fun vs F1 H1 sv m1 s1 M1 v1 h1 => ⟨F1, sv ++ svs, m1, SX, S, M1, vrs_append v1 (hd F1), h1, r.ex.go s1, c.go s1⟩
theorem ge_call (F : FnOk X.prog X.w X.K X.mg X.base CX k f fd ps (lift K sp)) (hr : Room k X.A) (hg : Gl X x) (hm : X.mg x = some (.ref f)) (hk : PySem.W.keepIn X.K (.ref f) = true) (hb : Binds X.K fd ps ds) (hd : Vals dvs ds) (hds : ∀ F, VRs K F dvs svs) (hx : Passes CX X E)
    (ha : GA K E X (e :: es) t s) (hdb : (x == ("__debug__" : Str)) = false := by decide) (he : starEach (e :: es) X.env = (false, eval e X.env) :: starEach es X.env := by rfl) (hpl : (backTo pos (starEach es X.env)).any (·.1) = false := by rfl) :
    GE K E X (.Call (.Name x p) (e :: es) [] pos) (tCall (lift K sp) dvs E t) (sCall sp svs s) := ⟨pe_call F hr hg hm hk hb hd hx ha.pe hdb he hpl, sim_call hds ha.sim⟩
end
section
variable {P : Program} {w : World} {K : PySem.W.Frag} {mg : Str → Option Value} {base : Heap}
theorem fn_sy {x : Str} {st : Stmt} {f : Addr} {fd : FuncData} {N ps : List Str} {k : Nat} {sp : SpS} {dvs : List V} {kws : List (Str × V)} (Fn : FunD K x x (defArgs st) (defBody st) (defScope st) dvs kws f fd) (S : FnScope N ps (defScope st)) (hl : ∀ svs m SX Sv, sp svs m SX Sv → svs.length = ps.length)
    (hev : ∀ (cdv : Value) (A : Around) (outer : List Env) (s : Shared) (H : Hp) (E : XK), Room k (A.deeper (envOfC x (defScope st) s.heap.objs.size f cdv)) → ∃ ts ss, GSs K E (cxOf CX0 P w K mg base N x (defScope st) f cdv A outer s H E).nox (defBody st) ts ss ∧
      ∀ svs m SX Sv, sp svs m SX Sv → ss (fun x => Fg (SX x)) { nx := fun _ m' => Fg (Sv .non) m', rt := fun v => Fg (Sv v) } (startD N.length svs) m) : FnOk P w K mg base CX0 (k + 1) f fd ps (lift K sp) := by
  refine FunD.ok Fn S (fun vs H Q E h => by
    obtain ⟨F, svs, m, SX, Sv, _, h2, h3, _⟩ := h
    rw [vrs_length h2]; exact hl _ _ _ _ h3) (fun cdv A outer s H vs Q E hr h => ?_)
  obtain ⟨F, svs, m, SX, Sv, M, r, hsp, hx, c⟩ := h
  obtain ⟨ts, ss, hder, hev⟩ := hev cdv A outer s H E hr
  refine ⟨ts, PSs.nox hder.pe, ?_⟩
  exact hder.sim _ F H _ m (fun x => Fg (SX x)) { nx := fun _ m' => Fg (Sv .non) m', rt := fun v => Fg (Sv v) } _ ⟨SR.start r, M, hx.fg⟩ (hev svs m SX Sv hsp) ⟨fun σ' δ' F' H' m' s' _ M' ⟨m2, l2, q⟩ => c .non F' H' .non m2 s' (M'.drop l2) .non q, fun v F' H' sv m' s' M' rv ⟨m2, l2, q⟩ => c v F' H' sv m2 s' (M'.drop l2) rv q, fun _ _ _ _ _ _ _ _ q => q.elim, fun _ _ _ _ _ _ _ _ q => q.elim⟩
theorem fn_syX {x : Str} {st : Stmt} {f : Addr} {fd : FuncData} {N ps : List Str} {k : Nat} {sp : SpS} {dvs : List V} {kws : List (Str × V)} (Fn : FunD K x x (defArgs st) (defBody st) (defScope st) dvs kws f fd) (S : FnScope N ps (defScope st)) (hl : ∀ svs m SX Sv, sp svs m SX Sv → svs.length = ps.length)
    (hev : ∀ (cdv : Value) (A : Around) (outer : List Env) (s : Shared) (H : Hp) (E : XK), Room k (A.deeper (envOfC x (defScope st) s.heap.objs.size f cdv)) → ∃ ts ss, GSs K E (cxOf (L2.CX P w) P w K mg base N x (defScope st) f cdv A outer s H E) (defBody st) ts ss ∧
      ∀ svs m SX Sv, sp svs m SX Sv → ss (fun x => Fg (SX x)) { nx := fun _ m' => Fg (Sv .non) m', rt := fun v => Fg (Sv v) } (startD N.length svs) m) : FnOk P w K mg base (L2.CX P w) (k + 1) f fd ps (lift K sp) := by
  refine FunD.ok Fn S (fun vs H Q E h => by
    obtain ⟨F, svs, m, SX, Sv, _, h2, h3, _⟩ := h
    rw [vrs_length h2]; exact hl _ _ _ _ h3) (fun cdv A outer s H vs Q E hr h => ?_)
  obtain ⟨F, svs, m, SX, Sv, M, r, hsp, hx, c⟩ := h
  obtain ⟨ts, ss, hder, hev⟩ := hev cdv A outer s H E hr
  refine ⟨ts, hder.pe, ?_⟩
  exact hder.sim _ F H _ m (fun x => Fg (SX x)) { nx := fun _ m' => Fg (Sv .non) m', rt := fun v => Fg (Sv v) } _ ⟨SR.start r, M, hx.fg⟩ (hev svs m SX Sv hsp) ⟨fun σ' δ' F' H' m' s' _ M' ⟨m2, l2, q⟩ => c .non F' H' .non m2 s' (M'.drop l2) .non q, fun v F' H' sv m' s' M' rv ⟨m2, l2, q⟩ => c v F' H' sv m2 s' (M'.drop l2) rv q, fun _ _ _ _ _ _ _ _ q => q.elim, fun _ _ _ _ _ _ _ _ q => q.elim⟩
theorem passE {N : List Str} {x : Str} {sc : Scope} {f : Addr} {cdv : Value} {A : Around} {outer : List Env} {s : Shared} {H : Hp} {E : XK} : Passes (L2.CX P w) (cxOf (L2.CX P w) P w K mg base N x sc f cdv A outer s H E) E :=
  passes_call (X := cxOf (L2.CX P w) P w K mg base N x sc f cdv A outer s H E) (takes_of rfl rfl rfl rfl) fun _ _ _ _ h => h
end
/-- raise of an own class without an __init__ -/
def sRaise (C : Addr) : SS := fun SX _ _ m => SX ⟨C, none⟩ m
theorem sim_raise {K : PySem.W.Frag} {E : XK} {C : Addr} : SimS K E (fun _ _ H => E (.ref C) none H) (sRaise C) := fun σ F H δ m SX D Es r h q => r.ex ⟨C, none⟩ none F H m (.refl F) r.mr rfl h
end Sy

set_option Elab.async false
set_option linter.all false
set_option maxRecDepth 100000
set_option maxHeartbeats 4000000
namespace Sy
open PySem PySem.Spec PyProof.Rows L2
section
variable {K : PySem.W.Frag} {E : XK} {X : Cx}
theorem gv (i : Nat) {x : Str} {pos : Pos} (hN : X.N[i]? = some x := by rfl) (hv : Vis X.env.scope x := by first | exact Or.inl rfl | exact Or.inr (Or.inl rfl) | exact Or.inr (Or.inr rfl)) (hd : (x == ("__debug__" : Str)) = false := by decide)
    (hcd : (x == ("__classdict__" : Str)) = false := by decide) : GE K E X (.Name x pos) (tVar i) (sVar i) := ge_var hN hv hd hcd
theorem gs_raise {C : Addr} {st : Stmt} (h : PS X st (fun _ _ H => E (.ref C) none H)) : GS K E X st (fun _ _ H => E (.ref C) none H) (sRaise C) := ⟨h, sim_raise⟩
end
theorem mt_indexG {X : Cx} (K : PySem.W.Frag) (hK : X.K = K := by rfl) : MtR X "list.index" (rIndex K) := by subst hK; exact mt_index
def sPopAt : SRM := fun x vs m S => match x, vs with
  | .ref a, [.int i] => ∃ xs k y, m a = some (.lst xs) ∧ -(2 ^ 63) ≤ i ∧ i < 2 ^ 63 ∧ seqIndex? i xs.length = some k ∧ xs[k]? = some y ∧ S y (up m a (.lst (xs.eraseIdx k)))
  | _, _ => False
theorem sim_popAt {K : PySem.W.Frag} : SimM K rPopAt sPopAt := fun F H m x xs a as S Q M r rs h c => by
  cases r with
  | ref p =>
    unfold sPopAt at h
    split at h
    · have e := SV.ref.inj (by assumption : SV.ref p = SV.ref _)
      subst e
      obtain ⟨ys, k, y, e1, h1, h2, h3, h4, q⟩ := h
      obtain ⟨v, rfl, rv⟩ := vrs_one rs
      obtain rfl := vr_int rv
      obtain ⟨vs, e2, r2⟩ := M.lst_ e1
      obtain ⟨w, hw, rw_⟩ := vrs_get r2 h4
      exact ⟨p, vs, _, k, w, rfl, rfl, e2, h1, h2, by rw [vrs_length r2]; exact h3, hw, c _ F _ _ _ (.refl F) (M.setL e1 (vrs_erase k r2)) rw_ q⟩
    · exact h.elim
  | _ => exact (show False from by unfold sPopAt at h; exact h).elim
/-- a cut behind a statement: J is what is known there -/
@[irreducible] def CutGo (z : SS) (SX : SXK) (D : SEnds) (δ : DS) (m : Mem) : Prop := ∃ J : DS → Mem → Prop, z SX { D with nx := fun δ' => Fg (J δ') } δ m ∧ ∀ δ' m', J δ' m' → D.nx δ' m'
def sCut (z : SS) : SS := fun SX D δ m => CutGo z SX D δ m
/-- a value of a kind that isinstance tells -/
def Dat (m : Mem) (x : SV) : Prop := ∃ t, tyS m x t
def isInt : SV → Bool
  | .int _ => true
  | _ => false
theorem tyS_int {m : Mem} {x : SV} {t : String} (h : tyS m x t) : (isB t "int" && !isB t "bool") = isInt x := by
  cases x <;> first
    | exact (show False from h).elim
    | (cases (show t = _ from h); rfl)
    | (obtain ⟨rfl, _⟩ := (show t = "list" ∧ _ from h); rfl)
mutual
inductive DD (m : Mem) : SV → Prop
  | non : DD m .non
  | bl (b : Bool) : DD m (.bl b)
  | int (i : Int) : DD m (.int i)
  | str (x : Str) : DD m (.str x)
  | tup {xs : List SV} : DDs m xs → DD m (.tup xs)
  | lst {xs : List SV} : DD m (.lst xs)
  | ref {a : Addr} {xs : List SV} : m a = some (.lst xs) → DD m (.ref a)
inductive DDs (m : Mem) : List SV → Prop
  | nil : DDs m []
  | cons {x : SV} {xs : List SV} : DD m x → DDs m xs → DDs m (x :: xs)
end
theorem DD.dat {m : Mem} {x : SV} (h : DD m x) : Dat m x := by
  cases h with
  | non => exact ⟨_, rfl⟩
  | bl => exact ⟨_, rfl⟩
  | int => exact ⟨_, rfl⟩
  | str => exact ⟨_, rfl⟩
  | tup => exact ⟨_, rfl⟩
  | lst => exact ⟨_, rfl⟩
  | ref e => exact ⟨_, rfl, _, e⟩
theorem DDs.mem {m : Mem} : ∀ {xs : List SV} {x : SV}, DDs m xs → x ∈ xs → DD m x
  | _, _, .cons a b, h => by
    rcases List.mem_cons.mp h with rfl | h
    · exact a
    · exact b.mem h
theorem DDs.of {m : Mem} : ∀ {xs : List SV}, (∀ x ∈ xs, DD m x) → DDs m xs
  | [], _ => .nil
  | _ :: _, h => .cons (h _ List.mem_cons_self) (.of fun x hx => h x (List.mem_cons_of_mem _ hx))
theorem Br_true {A B : Prop} : Br true A B = A := by rw [Br_eq]; simp
section
variable {keep : Mem → Prop} {g : SG} {b : SS} {SX : SXK} {D : SEnds} {items : List SV} {δ : DS} {m : Mem} {p : Addr} {tt : STt} {te : SE} {vs : List Nat} {S : SV → Mem → Prop} {c : STt}
theorem for_inv (I : List SV → DS → Mem → Prop) (h0 : I items δ m) (step : ∀ x r δ m, I (x :: r) δ m → keep m ∧ g SX x δ m fun δ1 m1 => b SX { D with nx := fun δ' => Fg (I r δ'), ct := fun δ' => Fg (I r δ'), bk := D.nx } δ1 m1) (done : ∀ δ m, I [] δ m → keep m ∧ D.nx δ m) : ForGo keep g b SX D items δ m := by
  unfold ForGo
  exact ⟨I, h0, step, done⟩
/-- a loop turn by turn -/
def forRun (keep : Mem → Prop) (g : SG) (b : SS) (SX : SXK) (D : SEnds) : List SV → DS → Mem → Prop
  | [], δ, m => keep m ∧ D.nx δ m
  | x :: r, δ, m => keep m ∧ g SX x δ m fun δ1 m1 => b SX { D with nx := fun δ' => Fg (forRun keep g b SX D r δ'), ct := fun δ' => Fg (forRun keep g b SX D r δ'), bk := D.nx } δ1 m1
theorem while_inv (W : Nat → DS → Mem → Prop) (n : Nat) (h0 : W n δ m) (step : ∀ n δ m, W n δ m → c SX δ m fun t m1 => Br t (b SX { D with nx := fun δ' m' => ∃ n', n' < n ∧ Fg (W n' δ') m', ct := fun δ' m' => ∃ n', n' < n ∧ Fg (W n' δ') m', bk := D.nx } δ m1) (D.nx δ m1)) : WhileGo c b SX D δ m := by
  unfold WhileGo
  exact ⟨W, ⟨n, h0⟩, step⟩
theorem lc_inv (I : List SV → List SV → Mem → Prop) (h0 : I items [] (up m p (.lst []))) (step : ∀ x r acc m, I (x :: r) acc m → keep m ∧ g SX x (wipeD δ vs) m fun δ1 m1 => tt SX δ1 m1 fun b m2 => Br b (te SX δ1 m2 fun y m3 => m3 p = some (.lst acc) ∧ Fg (I r (acc ++ [y])) (up m3 p (.lst (acc ++ [y])))) (Fg (I r acc) m2))
    (done : ∀ acc m, I [] acc m → keep m ∧ S (.ref p) m) : LcGo p keep g tt te vs SX δ items m S := by
  unfold LcGo
  exact ⟨I, h0, step, done⟩
/-- the memory stays (but for what is made and forgotten), the items by a test and a function -/
theorem lc_filt (pr : SV → Bool) (f : SV → SV) (hk : ∀ acc, keep (up m p (.lst acc)))
    (step : ∀ x ∈ items, ∀ acc (K1 : SV → Mem → Prop) (K0 : Mem → Prop), (∀ m', Le (up m p (.lst acc)) m' → pr x = true → K1 (f x) m') → (∀ m', Le (up m p (.lst acc)) m' → pr x = false → K0 m') → g SX x (wipeD δ vs) (up m p (.lst acc)) fun δ1 m1 => tt SX δ1 m1 fun b m2 => Br b (te SX δ1 m2 K1) (K0 m2))
    (done : S (.ref p) (up m p (.lst ((items.filter pr).map f)))) : LcGo p keep g tt te vs SX δ items m S := by
  refine lc_inv (fun r acc m' => m' = up m p (.lst acc) ∧ ∃ pre, pre ++ r = items ∧ acc = (pre.filter pr).map f) ⟨rfl, [], rfl, rfl⟩ (fun x r acc m' h => ?_) (fun acc m' h => ?_)
  · obtain ⟨rfl, pre, e, ha⟩ := h
    refine ⟨hk _, step x (by rw [← e]; simp) acc _ _ (fun m' l q => ⟨l _ _ up_same, _, (by rw [← up_up (m := m)]; exact Le.put l), rfl, pre ++ [x], by rw [← e]; simp, by rw [ha, List.filter_append, List.map_append]; simp [q]⟩) (fun m' l q => ⟨_, l, rfl, pre ++ [x], by rw [← e]; simp, by rw [ha, List.filter_append, List.map_append]; simp [q]⟩)⟩
  · obtain ⟨rfl, pre, e, ha⟩ := h
    rw [List.append_nil] at e
    subst e
    exact ⟨hk _, by rw [ha]; exact done⟩
theorem filter_yes {α : Type} (xs : List α) : xs.filter (fun _ => true) = xs := by simp
theorem lc_map (f : SV → SV) (hk : ∀ acc, keep (up m p (.lst acc)))
    (step : ∀ x ∈ items, ∀ acc (K1 : SV → Mem → Prop), (∀ m', Le (up m p (.lst acc)) m' → K1 (f x) m') → g SX x (wipeD δ vs) (up m p (.lst acc)) fun δ1 m1 => te SX δ1 m1 K1)
    (done : S (.ref p) (up m p (.lst (items.map f)))) : LcGo p keep g sYes te vs SX δ items m S := by
  refine lc_filt (fun _ => true) f hk (fun x hx acc K1 K0 h1 _ => ?_) (by rw [filter_yes]; exact done)
  have e : (fun δ1 m1 => sYes SX δ1 m1 fun b m2 => Br b (te SX δ1 m2 K1) (K0 m2)) = fun δ1 m1 => te SX δ1 m1 K1 := by
    funext δ1 m1
    exact Br_true
  rw [e]
  exact step x hx acc K1 fun m' l => h1 m' l rfl
theorem DDs.le {a m : Mem} (l : Le a m) : ∀ {xs : List SV}, DDs a xs → DDs m xs := by
  intro xs
  exact fun h => DDs.rec (motive_1 := fun x _ => DD m x) (motive_2 := fun xs _ => DDs m xs) .non .bl .int .str (fun _ ih => .tup ih) .lst (fun e => .ref (l _ _ e)) .nil (fun _ _ a b => .cons a b) h
theorem DD.le {a m : Mem} (l : Le a m) {x : SV} (h : DD a x) : DD m x := by
  cases h with
  | non => exact .non
  | bl b => exact .bl b
  | int i => exact .int i
  | str z => exact .str z
  | tup h => exact .tup (h.le l)
  | lst => exact .lst
  | ref e => exact .ref (l _ _ e)
end
end Sy

set_option Elab.async false
set_option linter.all false
set_option maxRecDepth 100000
set_option maxHeartbeats 4000000
/-! Lambdas kept in lists, called two defs further down; the error that such a call lets out. -/
namespace Sy
open PySem PySem.Spec PyProof.Rows L2 LamX NdefX Lm
/-- lambda: made -/
def sLam (P : Addr) (nm : Nat → Nat → Str) (mk : Addr → NF) (e : Expr) (d : Option Int) : SE := fun _ _ m S => m P = some (.tab nm) ∧ ∀ f, m f = none → S (.ref f) (up m f (.lam mk e d))
section
variable {K : PySem.W.Frag} {E : XK} {X : Cx}
theorem sim_lam0 {P : Addr} {nm : Nat → Nat → Str} {mk : Addr → NF} {e : Expr} (hc : ∀ c, (mk c).c = c) : SimE K E (tLam0 P nm mk e) (sLam P nm mk e none) := fun σ F H δ m SX S Q r h c => by
  obtain ⟨hP, h⟩ := h
  have M := r.mr
  refine ⟨(M.at_ P _ hP).2, fun f c' H1 k0 k1 T1 f0 f1 c1 nw => ?_⟩
  have M1 := M.table hP k0 T1
  have n1 : MOR K F H1 (up m f (.lam mk e none)) f (.lam mk e none) := ⟨c', _, f1, by rw [hc c']; exact c1, hc c', rfl⟩
  exact c (.ref f) F H1 (.ref f) _ (.refl F) (M1.adopt (M.gone f0) (M.sub.gone f0) (fun x z => by rw [f1] at z; cases z) n1) (.ref f) (h f (M.gone f0))
theorem sim_lam1 {P : Addr} {nm : Nat → Nat → Str} {mk : Addr → NF} {e : Expr} {i : Int} (hc : ∀ c, (mk c).c = c) : SimE K E (tLam1 P nm mk e i) (sLam P nm mk e (some i)) := fun σ F H δ m SX S Q r h c => by
  obtain ⟨hP, h⟩ := h
  have M := r.mr
  refine ⟨(M.at_ P _ hP).2, fun f c' T H1 k0 k1 T1 f0 T0 T2 f1 c1 nw => ?_⟩
  have M1 := M.table hP k0 T1
  have n1 : MOR K F H1 (up m f (.lam mk e (some i))) f (.lam mk e (some i)) := ⟨c', _, f1, by rw [hc c']; exact c1, hc c', T, rfl, T2⟩
  exact c (.ref f) F H1 (.ref f) _ (.refl F) (M1.adopt (M.gone f0) (M.sub.gone f0) (fun x z => by rw [f1] at z; cases z) n1) (.ref f) (h f (M.gone f0))
theorem ge_lam0 {nm : Nat → Nat → Str} {c P : Addr} {params : Arguments} {body : Expr} {scope : Scope} {pos : Pos} (TB : TabB X.base X.mg c P) (hcode : X.env.code = .ref c) (hn : nm pos.line pos.col = X.env.qual ++ "<lambda>")
    (hfree : ∀ y ∈ scope.names, y.2 = .free → X.env.scope.names.lookup y.1 = some .cell ∨ X.env.scope.names.lookup y.1 = some .free) (hdef : defaultsOf params X.env = ([], [])) : GE K E X (.Lambda params body scope pos) (tLam0 P nm (NF.lam X params scope) body) (sLam P nm (NF.lam X params scope) body none) :=
  ⟨pe_lam0 TB hcode hn hfree hdef, sim_lam0 fun _ => rfl⟩
theorem ge_lam1 {nm : Nat → Nat → Str} {c P : Addr} {params : Arguments} {body : Expr} {scope : Scope} {pos p1 : Pos} {i : Int} {j : Nat} (TB : TabB X.base X.mg c P) (hcode : X.env.code = .ref c) (hn : nm pos.line pos.col = X.env.qual ++ "<lambda>")
    (hfree : ∀ y ∈ scope.names, y.2 = .free → X.env.scope.names.lookup y.1 = some .cell ∨ X.env.scope.names.lookup y.1 = some .free) (hd : params.defaults = [.Constant (.int i) j p1]) (hk : params.kw_defaults = []) : GE K E X (.Lambda params body scope pos) (tLam1 P nm (NF.lam X params scope) body i) (sLam P nm (NF.lam X params scope) body (some i)) :=
  ⟨pe_lam1 TB hcode hn hfree hd hk, sim_lam1 fun _ => rfl⟩
end
/-! ### cells under the ground for the time of a call -/
structure CellsB (base : Heap) (cl : List (Str × Addr)) (fr : List Str) (ws : List (Option V)) : Prop where
  len : ws.length = fr.length
  all : ∀ y c, cl.lookup y = some c → ∃ v, base.IsCell c v
  inj : ∀ x y c, cl.lookup x = some c → cl.lookup y = some c → x = y
  has : ∀ (i : Nat) (y : Str), fr[i]? = some y → ∃ c, cl.lookup y = some c ∧ ∀ v, ws[i]? = some (some v) → ∃ u, L2.RelV v u ∧ base.IsCell c (some u)
theorem CellsB.at {base : Heap} {cl : List (Str × Addr)} {fr : List Str} {ws : List (Option V)} (C : CellsB base cl fr ws) {h : Heap} {H : Hp} (bs : ∀ b o, base.get? b = some o → h.get? b = some o ∧ H b = none) : CellsAt cl fr ws h H := by
  have up : ∀ {c : Addr} {v : Option Value}, base.IsCell c v → h.IsCell c v ∧ H c = none := fun ⟨o, e, d⟩ => ⟨⟨o, (bs _ _ e).1, d⟩, (bs _ _ e).2⟩
  refine ⟨C.len, fun y c e => ?_, C.inj, fun i y e => ?_⟩
  · obtain ⟨v, z⟩ := C.all y c e
    exact ⟨(up z).2, v, (up z).1⟩
  · obtain ⟨c, hc, hv⟩ := C.has i y e
    refine ⟨c, hc, fun v hw => ?_⟩
    obtain ⟨u, r, z⟩ := hv v hw
    exact ⟨u, r, (up z).1⟩
/-- some objects of a heap, no other -/
theorem part (h : Heap) (p : Addr → Bool) : ∃ G : Heap, (∀ b o, h.get? b = some o → p b = true → G.get? b = some o) ∧ (∀ b o, G.get? b = some o → h.get? b = some o ∧ p b = true) ∧ G.objs.size = h.objs.size := by
  have hm : ∀ b, b ∈ (List.range h.objs.size).filter (fun b => !p b) ↔ b < h.objs.size ∧ p b = false := fun b => by
    rw [List.mem_filter, List.mem_range]
    simp
  refine ⟨PySem.W.hideAll h ((List.range h.objs.size).filter fun b => !p b), fun b o e hp => PySem.W.hideAll_get _ e fun z => ?_, fun b o e => ?_, PySem.W.hideAll_size _ _⟩
  · have q := ((hm b).mp z).2
    rw [hp] at q
    cases q
  · have e2 := PySem.W.of_hideAll _ e
    refine ⟨e2, ?_⟩
    cases q : p b with
    | true => rfl
    | false =>
      have n := PySem.W.hideAll_none (h := h) _ ((hm b).mpr ⟨Heap.lt_size e2, q⟩)
      rw [e] at n
      cases n
theorem frames_up {h base base' : Heap} : ∀ {l : List Env}, h.FunFrames base l → (∀ L ∈ frs l, base'.get? L = none) → h.FunFrames base' l
  | [], _, _ => trivial
  | env :: r, ⟨hk, ⟨L, o, hf, _, ho, hd⟩, hr⟩, q => by
    have hm : L ∈ frs (env :: r) := List.mem_filterMap.mpr ⟨env, List.mem_cons_self, hf⟩
    refine ⟨hk, ⟨L, o, hf, q L hm, ho, hd⟩, frames_up hr fun L2 h2 => q L2 ?_⟩
    obtain ⟨e2, m2, f2⟩ := List.mem_filterMap.mp h2
    exact List.mem_filterMap.mpr ⟨e2, List.mem_cons_of_mem _ m2, f2⟩
section
variable {X : Cx} {pins : List (Addr × Obj)} {σ : L2.St} {H : Hp} {s : Shared}
theorem base_up (I : Inv X pins σ H s) (hfn : ∀ x, X.fn x = true) (hst : X.stack = X.env :: X.outer) (hfr : X.env.frame = some X.env.locals) :
    ∃ base', Env0 X.prog X.w X.K X.mg base' X.A X.stack s H ∧ ∀ cl fr js, Caps X cl fr js → CellsB base' cl fr (js.map (slotAt σ)) := by
  obtain ⟨G, g1, g2, g3⟩ := part s.heap fun b => (X.base.get? b).isSome || X.env.cells.any fun q => decide (X.env.cells.lookup q.1 = some b)
  have up : ∀ b o, X.base.get? b = some o → G.get? b = some o := fun b o e => g1 b o (I.bk b o e) (by rw [e]; rfl)
  have cellHere : ∀ (y : Str) (c : Addr), X.env.cells.lookup y = some c → ∀ v, s.heap.IsCell c v → G.IsCell c v := fun y c e v ⟨o, ho, hd⟩ => ⟨o, g1 c o ho (by
    rw [Bool.or_eq_true]
    exact .inr (List.any_eq_true.mpr ⟨(y, c), PySem.mem_of_lookup e, decide_eq_true e⟩)), hd⟩
  have known : ∀ b o, G.get? b = some o → (∃ o', X.base.get? b = some o') ∨ ∃ y, X.env.cells.lookup y = some b := fun b o e => by
    have hp := (g2 b o e).2
    rw [Bool.or_eq_true] at hp
    rcases hp with hp | hp
    · exact .inl (Option.isSome_iff_exists.mp hp)
    · obtain ⟨q, _, hq⟩ := List.any_eq_true.mp hp
      exact .inr ⟨q.1, of_decide_eq_true hq⟩
  have M := I.mod
  obtain ⟨mb, hb1, hb2⟩ := M.blt
  refine ⟨G, ⟨I.ok.frames, ⟨M.kin.keeps up, M.glob.keeps up, ⟨mb, hb1.keeps up, hb2⟩, M.nolimit.keeps up⟩, fun b o e => ⟨(g2 b o e).1, ?_⟩, by rw [g3]; exact Nat.le_refl _, frames_up I.stack (fun L hL => ?_), I.stkFree, I.hok, I.bare⟩, fun cl fr js cp => ?_⟩
  · rcases known b o e with ⟨o', e'⟩ | ⟨y, e'⟩
    · exact (I.bs b o' e').2
    · exact I.freeC y b e'
  · cases q : G.get? L with
    | none => rfl
    | some o =>
      exfalso
      rcases known L o q with ⟨o', e'⟩ | ⟨y, e'⟩
      · have z := (I.stack.mem hL).1
        rw [e'] at z
        cases z
      · rw [hst] at hL
        obtain ⟨env, hm, hf⟩ := List.mem_filterMap.mp hL
        rcases List.mem_cons.mp hm with rfl | hm
        · rw [hfr] at hf
          cases hf
          obtain ⟨v, o1, h1, d1⟩ := I.cell y _ e'
          obtain ⟨m, ⟨o2, es, ep, h2, d2, _⟩, _⟩ := I.loc
          rw [h1] at h2
          cases h2
          rw [d1] at d2
          cases d2
        · have hL2 : L ∈ frs X.outer := List.mem_filterMap.mpr ⟨env, hm, hf⟩
          obtain ⟨_, o3, h3, _⟩ := I.ok.funs.mem hL2
          exact absurd (I.ok.cab y L (hfn y) e') (Nat.not_le.mpr (Heap.lt_size h3))
  · have C := cells_of I cp
    refine ⟨C.len, fun y c e => ?_, C.inj, fun i y e => ?_⟩
    · obtain ⟨_, v, z⟩ := C.all y c e
      exact ⟨v, cellHere y c (cp.sub y c e) v z⟩
    · obtain ⟨c, hc, hv⟩ := C.has i y e
      refine ⟨c, hc, fun v hw => ?_⟩
      obtain ⟨u, r, z⟩ := hv v hw
      exact ⟨u, r, cellHere y c (cp.sub y c hc) _ z⟩
/-- f(..), what is called may rest on the frame's cells -/
def tCallB (X : Cx) (sp : Heap → Sp) (t : TA) : TE := fun σ H Q => t σ H fun vs H1 => ∀ base', X.Ok → (∀ cl fr js, Caps X cl fr js → CellsB base' cl fr (js.map (slotAt σ))) → sp base' vs H1 Q E0
theorem pe_callBase {x : Str} {f : Addr} {fd : FuncData} {ps : List Str} {k : Nat} {sp : Heap → Sp} {e : Expr} {es : List Expr} {t : TA} {p pos : Pos} (F : ∀ base', FnOk X.prog X.w X.K X.mg base' CX0 k f fd ps (sp base')) (hr : Room k X.A) (hg : Gl X x) (hm : X.mg x = some (.ref f)) (hk : PySem.W.keepIn X.K (.ref f) = true) (hb : Binds X.K fd ps [])
    (ha : PA X (e :: es) t) (hfn : ∀ x, X.fn x = true) (hst : X.stack = X.env :: X.outer) (hfr : X.env.frame = some X.env.locals) (hdb : (x == ("__debug__" : Str)) = false := by decide) (he : starEach (e :: es) X.env = (false, eval e X.env) :: starEach es X.env := by rfl) (hpl : (backTo pos (starEach es X.env)).any (·.1) = false := by rfl) :
    PE X (.Call (.Name x p) (e :: es) [] pos) (tCallB X sp t) := by
  refine ⟨fun pins s σ H Q I h => ?_⟩
  refine wpAny_Call_Name_kw (ld_glob I hg hm ?_ hdb)
  refine PySem.W.callWith_K (h₀ := X.base) I.ok.mod.kin hk (thn (ha.run pos pins s σ H _ I h) fun us s1 ⟨vs, H1, I1, r, q⟩ => ⟨I1.kIn, ?_⟩) he hpl
  obtain ⟨G, e0, hC⟩ := base_up I1 hfn hst hfr
  have hsp := q G I1.ok hC
  have hl : us.length = ps.length := by rw [← r.length]; exact (F G).len _ _ _ _ hsp
  have hbd : BindsTo s1 fd ⟨us, []⟩ (ps.zip us) := by
    have z := hb s1 us I1.kIn (by rw [List.append_nil]; exact hl)
    rw [List.append_nil] at z
    exact z
  show wpAny _ _ (call (.ref f) us) _ _ _
  refine wpAny_call (codeAny_mono ((F G).run X.A X.stack s1 H1 ⟨us, []⟩ us vs Q E0 hr e0 hbd r hsp) fun r s' hq => ?_)
  cases r with
  | error e => exact (show False from hq).elim
  | ok fl =>
    cases fl with
    | ret u => exact I1.after hq
    | next => exact False.elim hq
    | brk => exact False.elim hq
    | cont => exact False.elim hq
end

/-- a callable at f, called without arguments: what is asked is φ -/
abbrev Phi := Mem → SXK → (SV → Mem → Prop) → Prop
def ActC (P : Program) (w : World) (K : PySem.W.Frag) (mg : Str → Option Value) (base : Heap) (k : Nat) (f : Addr) (φ : Phi) : Hp → Hp → Prop := fun F H => (∃ N e dV, H f = some (LamO f N e dV)) ∧
  ∀ (A : Around) (outer : List Env) (s : Shared) (m : Mem) (Q : VK) (E : XK) (SX : SXK) (S : SV → Mem → Prop), Room k A → Env0 P w K mg base A outer s H → MR K F H m → φ m SX S → ExOk K F E SX → Cn K F S Q →
    codeAny (model P w) A (.call (.ref f) ⟨[], []⟩) (CR (L2.CX P w) outer P w H s Q E) s
/-- the reading of work() -/
def tWork (P : Program) (w : World) (K : PySem.W.Frag) (mg : Str → Option Value) (base : Heap) (k i : Nat) (W : WX) : TE := fun σ H Q => ∃ (F : Hp) (f : Addr) (φ : Phi) (m : Mem) (SX : SXK) (S : SV → Mem → Prop), σ[i]? = some (some (.ref f)) ∧ MR K F H m ∧ m f = some (.pred (ActC P w K mg base k f φ)) ∧ φ m SX S ∧ ExOk K F (fun cls d H' => W cls d σ H') SX ∧ Cn K F S Q
section
variable {X : Cx}
theorem pe_work {k j i : Nat} {a : Str} {W : WX} {p1 p2 : Pos} (tk : Takes X W) (hr : Room j X.A) (hk : k ≤ j) (hN : X.N[i]? = some a) (hv : Vis X.env.scope a)
    (hd : (a == ("__debug__" : Str)) = false := by decide) (hcd : (a == ("__classdict__" : Str)) = false := by decide) : PE X (.Call (.Name a p1) [] [] p2) (tWork X.prog X.w X.K X.mg X.base k i W) := by
  refine ⟨fun pins s σ H Q I h => ?_⟩
  obtain ⟨F, f, φ, m, SX, S, hs, M, hm, hφ, hE, cQ⟩ := h
  refine wpAny_Call_Name_kw (thn ((pe_var (pos := p1) (i := i) hN hv hd hcd).run pins s σ H (fun v H1 => v = .ref f ∧ H1 = H) I ⟨.ref f, hs, rfl, rfl⟩) fun u s1 ⟨v, H1, I1, r1, q1⟩ => ?_)
  obtain ⟨ev, eH⟩ := q1
  subst ev
  rw [eH] at I1
  obtain rfl : u = Value.ref f := r1
  obtain ⟨fn, act⟩ := (M.at_ f _ hm).2.2 F H (.refl F) fun b u e _ => e
  have fa : PySem.W.FnAt f s1.heap := by
    obtain ⟨N, e, dV, hf⟩ := fn
    obtain ⟨od, sl, doc, pm, ctv, ho⟩ := lamO_at I1.hok hf
    exact ⟨_, od, _, sl, ho⟩
  refine PySem.W.callWith_F0 (first := []) fa ?_
  show wpAny _ _ (call (.ref f) []) _ _ _
  refine wpAny_call (codeAny_mono (act X.A X.stack s1 m Q (fun cls d H' => W cls d σ H') SX S (hr.mono hk) I1.env0 M hφ hE cQ) fun r s' hq => ?_)
  cases r with
  | error e => exact tk e s' (XE.of_call I1 (fun cls d H' z => z) hq)
  | ok fl =>
    cases fl with
    | ret u => exact I1.after hq
    | next => exact False.elim hq
    | brk => exact False.elim hq
    | cont => exact False.elim hq
end
/-! ### what a lambda does -/
def startFD (n : Nat) (vs : List SV) (ws : List (Option SV)) : DS := vs.map some ++ (ws ++ List.replicate (n - vs.length - ws.length) none)
/-- the cells' values -/
def WR (K : PySem.W.Frag) (F : Hp) (ws : List (Option V)) (ds : List (Option SV)) : Prop := ws.length = ds.length ∧ ∀ (i : Nat) d, ds[i]? = some (some d) → ∃ v, ws[i]? = some (some v) ∧ VR K F v d
theorem sr_startF {K : PySem.W.Frag} {F : Hp} {N : List Str} {vs : List V} {svs : List SV} {ws : List (Option V)} {ds : List (Option SV)} (h : VRs K F vs svs) (hw : WR K F ws ds) : SR K F (startF N vs ws) (startFD N.length svs ds) := by
  have l1 := vrs_length h
  have l2 := hw.1
  unfold startF startFD
  refine ⟨by simp [l1, l2], fun i d e => ?_⟩
  by_cases h1 : i < svs.length
  · rw [List.getElem?_append_left (by rw [List.length_map]; exact h1), List.getElem?_map] at e
    obtain ⟨d', h3, h4⟩ := Option.map_eq_some_iff.mp e
    cases h4
    obtain ⟨v, h5, h6⟩ := vrs_get h h3
    exact ⟨v, by rw [List.getElem?_append_left (by rw [List.length_map, l1]; exact h1), List.getElem?_map, h5]; rfl, h6⟩
  · rw [List.getElem?_append_right (by rw [List.length_map]; omega), List.length_map] at e
    rw [List.getElem?_append_right (by rw [List.length_map]; omega), List.length_map, l1]
    by_cases h2 : i - svs.length < ds.length
    · rw [List.getElem?_append_left h2] at e
      obtain ⟨v, h5, h6⟩ := hw.2 _ d e
      exact ⟨v, by rw [List.getElem?_append_left (by omega)]; exact h5, h6⟩
    · rw [List.getElem?_append_right (by omega), List.getElem?_replicate] at e
      split at e <;> cases e
section
variable {P : Program} {w : World} {K : PySem.W.Frag} {mg : Str → Option Value} {base : Heap} {k : Nat} {f c : Addr} {mk : Addr → NF} {e : Expr} {N ps fr : List Str} {φ : Phi} {ds : List (Option SV)} {ws : List (Option V)} {F H : Hp}
theorem act_core {dV : Value} {vs : List V} {svs : List SV} {F0 : NF} (S : NScope N ps fr F0.scope) (hlen : vs.length = ps.length) (hvs : ∀ F, VRs K F vs svs) (Z : Hp → Prop)
    (hb : ∀ (doc pm ctv : Value) (s : Shared) (H : Hp), HOk P w H s.heap → Z H → ∃ us, Vals vs us ∧ BindsTo s (lfd F0 e dV doc pm ctv) ⟨[], []⟩ (ps.zip us)) (CB : CellsB base F0.cl fr ws) (hw : WR K F ws ds)
    (hf : H f = some (LamO f F0 e dV)) (hc : H F0.c = some (CodeO F0.c F0.qual)) (hZ : Z H)
    (hbody : ∀ (A : Around) (outer : List Env) (s : Shared) (H : Hp) (E : XK), Room k (A.deeper (envF F0 f s.heap.objs.size)) → ∃ tb sb, GE K E (ncx (L2.CX P w) P w K mg base N F0 f A outer s H E) e tb sb ∧ ∀ m SX Sv, φ m SX Sv → sb (fun x => Fg (SX x)) (startFD N.length svs ds) m (fun v => Fg (Sv v))) :
    ActC P w K mg base (k + 1) f φ F H := by
  refine ⟨⟨_, _, _, hf⟩, fun A outer s m Q E SX Sv hr e0 M hφ hE cQ => ?_⟩
  refine lok_of (CX := L2.CX P w) (k := k) (vs := vs) (ws := ws) (Z := Z) (sp := fun H' Q' E' => H' = H ∧ Q' = Q ∧ E' = E) S hlen hb (fun A outer s H' Q' E' hr ⟨e1, e2, e3⟩ => ?_) A outer s H Q E hr e0 hf hc hZ (CB.at e0.bs) ⟨rfl, rfl, rfl⟩
  subst e1 e2 e3
  obtain ⟨tb, sb, hder, hq⟩ := hbody A outer s _ _ hr
  refine ⟨tb, hder.pe, ?_⟩
  exact hder.sim _ F _ _ m (fun x => Fg (SX x)) (fun v => Fg (Sv v)) _ ⟨sr_startF (hvs F) hw, M, hE.fg⟩ (hq m SX Sv hφ) fun v F' H' sv m' s' M' rv ⟨m2, l2, q⟩ => cQ v F' H' sv m2 s' (M'.drop l2) rv q
end
/-! ### a call while the frame's cells lie under the ground -/
section
variable {X : Cx}
/-- what the new ground knows -/
def Grd (X : Cx) (base' : Heap) (σ : L2.St) : Prop := X.Ok ∧ ∀ cl fr js, Caps X cl fr js → CellsB base' cl fr (js.map (slotAt σ))
/-- a lambda of this frame does φ -/
def Beh (P : Program) (w : World) (K : PySem.W.Frag) (mg : Str → Option Value) (X : Cx) (k : Nat) (base' : Heap) (δ : DS) (mk : Addr → NF) (e : Expr) (d : Option Int) (φ : Phi) : Prop :=
  ∀ (σ : L2.St) (F H : Hp) (f c : Addr) (dV : Value), SR K F σ δ → Grd X base' σ → H f = some (LamO f (mk c) e dV) → H c = some (CodeO (mk c).c (mk c).qual) → (mk c).c = c → (match d with | none => dV = .none | some i => ∃ T, dV = .ref T ∧ H T = some (.tup [.int i])) → ActC P w K mg base' k f φ F H
inductive Conv (P : Program) (w : World) (K : PySem.W.Frag) (mg : Str → Option Value) (X : Cx) (k : Nat) (base' : Heap) (δ : DS) : Mem → Mem → Prop
  | refl (m : Mem) : Conv P w K mg X k base' δ m m
  | step {m m' : Mem} {f : Addr} {mk : Addr → NF} {e : Expr} {d : Option Int} (φ : Phi) : m f = some (.lam mk e d) → Beh P w K mg X k base' δ mk e d φ → Conv P w K mg X k base' δ (up m f (.pred (ActC P w K mg base' k f φ))) m' → Conv P w K mg X k base' δ m m'
theorem conv_ok {P : Program} {w : World} {K : PySem.W.Frag} {mg : Str → Option Value} {k : Nat} {base' : Heap} {δ : DS} {m m' : Mem} {σ : L2.St} {F H : Hp} (h : Conv P w K mg X k base' δ m m') (g : Grd X base' σ) (sr : SR K F σ δ) (M : MR K F H m) : MR K F H m' := by
  induction h with
  | refl => exact M
  | step φ hm hb _ ih =>
    refine ih ?_
    obtain ⟨c, dV, h1, h2, h3, h4⟩ := (M.at_ _ _ hm).2
    rename_i m0 m1 f mk e d _
    have hfF : F f = none := (M.at_ f _ hm).1
    have n1 : MOR K F H (up m0 f (.pred (ActC P w K mg base' k f φ))) f (.pred (ActC P w K mg base' k f φ)) := by
      refine ⟨⟨_, h1, trivial, fun _ z => nomatch z⟩, fun F' H' sF kH => hb σ F' H' f c dV (sr.sub sF) g (kH _ _ h1 trivial) (kH _ _ h2 trivial) h3 ?_⟩
      cases d with
      | none => exact h4
      | some i =>
        obtain ⟨T, e1, e2⟩ := h4
        exact ⟨T, e1, kH _ _ e2 trivial⟩
    refine ⟨M.sub, fun b u hbu => ?_⟩
    by_cases e : b = f
    · subst e
      rw [up_same] at hbu; cases hbu
      exact ⟨hfF, n1⟩
    · rw [up_ne e] at hbu
      obtain ⟨z1, z2⟩ := M.at_ b u hbu
      refine ⟨z1, ?_⟩
      cases u with
      | ins C fs =>
        obtain ⟨dx, us, q1, q2, q3, q4, q5⟩ := z2
        exact ⟨dx, us, q1, q2, q3, by rw [up_ne (fun q => by rw [q, hm] at q4; cases q4)]; exact q4, q5⟩
      | _ => exact z2
def sCallB (P : Program) (w : World) (K : PySem.W.Frag) (mg : Str → Option Value) (X : Cx) (k : Nat) (sp : Heap → SpS) (a : SA) : SE := fun SX δ m S => a SX δ m fun vs m1 => ∀ base', ∃ m2, Conv P w K mg X k base' δ m1 m2 ∧ sp base' vs m2 (fun _ _ => False) S
theorem ge_callBase {K : PySem.W.Frag} {E : XK} {x : Str} {f : Addr} {fd : FuncData} {ps : List Str} {k k2 : Nat} {sp : Heap → SpS} {e : Expr} {es : List Expr} {t : TA} {sa : SA} {p pos : Pos} (F : ∀ base', FnOk X.prog X.w X.K X.mg base' CX0 k f fd ps (lift K (sp base'))) (hr : Room k X.A) (hg : Gl X x) (hm : X.mg x = some (.ref f)) (hk : PySem.W.keepIn X.K (.ref f) = true) (hb : Binds X.K fd ps [])
    (ha : GA K E X (e :: es) t sa) (hfn : ∀ x, X.fn x = true) (hst : X.stack = X.env :: X.outer) (hfr : X.env.frame = some X.env.locals) (hdb : (x == ("__debug__" : Str)) = false := by decide) (he : starEach (e :: es) X.env = (false, eval e X.env) :: starEach es X.env := by rfl) (hpl : (backTo pos (starEach es X.env)).any (·.1) = false := by rfl) (hK : X.K = K := by rfl) :
    GE K E X (.Call (.Name x p) (e :: es) [] pos) (tCallB X (fun b => lift K (sp b)) t) (sCallB X.prog X.w K X.mg X k2 sp sa) :=
  ⟨pe_callBase F hr hg hm hk hb ha.pe hfn hst hfr hdb he hpl, fun σ F0 H δ m SX S Q r h c => ha.sim σ F0 H δ m SX _ _ r h fun vs F1 H1 svs m1 s1 M1 v1 h1 => fun base' hok hC => by
    obtain ⟨m2, cv, q⟩ := h1 base'
    exact ⟨F1, svs, m2, fun _ _ => False, S, conv_ok cv ⟨hok, hC⟩ (r.sr.sub s1) M1, v1, q, fun x d F' H' m' _ _ _ z => z.elim, c.go s1⟩⟩
end
/-! ### how often, isinstance of a caught error -/
section
variable {X : Cx}
/-! ### how often a flat value stands in a list of flat ones -/
def rCntF (K : PySem.W.Frag) : V → List V → Hp → VK → Prop := fun x xs H Q => ∃ (a : Addr) (ys : List V) (y : V), x = V.ref a ∧ xs = [y] ∧ SqL K H a ys ∧ flatV y = true ∧ ys.all flatV = true ∧ Q (.int ((ys.countP fun z => eqV z y) : Nat)) H
theorem countU {y : V} : ∀ {ys : List V} {us : List Value}, Vals ys us → ys.all flatV = true → us.countP (eqU y) = ys.countP fun z => eqV z y
  | _, _, .nil, _ => rfl
  | z :: _, u :: _, .cons r rs, f => by
    have f2 : (flatV z && _) = true := f
    obtain ⟨f3, f4⟩ := Bool.and_eq_true_iff.mp f2
    have ih := countU (y := y) rs f4
    rw [List.countP_cons, List.countP_cons, ih, eqU_of r f3]
theorem mt_countF : MtR X "list.count" (rCntF X.K) := by
  intro pins s σ H x xs v us Q I rx rxs h
  obtain ⟨a, ys, y, rfl, rfl, hs, fy, fys, q⟩ := h
  cases rx
  obtain ⟨uy, rfl, ry⟩ := rxs.one
  obtain ⟨its, rv, ⟨⟨cls, dd, data, sl⟩, n, ho, hc, hdn, hd⟩, hlen⟩ := I.list hs
  simp only at hc hd
  subst hc hd
  refine call_meets PySem.F.slot_list_count ⟨_, ho, rfl⟩ PySem.F.entry_list_count (PySem.F.args_list_count_2 _ _)
    (SeqAt.list_countAt a its.toArray n dd sl uy (eqU y)) ⟨ho, fun u' hu' => mem_eqAt ry fy rv fys u' (by simpa using hu'), ?_⟩
  have ec : its.toArray.toList.countP (eqU y) = ys.countP fun z => eqV z y := countU rv fys
  refine ⟨.int ((ys.countP fun z => eqV z y) : Nat), H, I.tok _, ⟨s.toks, ?_⟩, q⟩
  show Value.int ((its.toArray.toList.countP (eqU y) : Nat) : Int) s.toks = Value.int (((ys.countP fun z => eqV z y) : Nat) : Int) s.toks
  rw [ec]
end

def sCount : SRM := fun x vs m S => match vs with
  | [y] => ∃ xs, ItsL m x xs ∧ flatS y = true ∧ xs.all flatS = true ∧ S (.int ((xs.countP fun z => eqS z y : Nat))) m
  | _ => False
section
variable {K : PySem.W.Frag}
theorem countV_ok {F : Hp} {y : V} {b : SV} (ry : VR K F y b) (fb : flatS b = true) : ∀ {xs : List V} {as : List SV}, VRs K F xs as → as.all flatS = true → (xs.countP fun z => eqV z y) = as.countP fun z => eqS z b
  | _, _, .nil, _ => rfl
  | _, _, .cons r t, h => by
    rw [List.all_cons, Bool.and_eq_true] at h
    rw [List.countP_cons, List.countP_cons, countV_ok ry fb t h.2, eqS_ok r ry h.1 fb]
theorem sim_count : SimM K (rCntF K) sCount := fun F H m x xs a as S Q M r rs h c => by
  unfold sCount at h
  split at h
  · obtain ⟨ys, h1, h2, h3, q⟩ := h
    obtain ⟨v, rfl, rv⟩ := vrs_one rs
    obtain ⟨p, vs, rfl, hs, r2⟩ := its_lst M r h1
    refine ⟨p, vs, v, rfl, rfl, hs, flat_ok rv h2, flats_ok r2 h3, ?_⟩
    rw [countV_ok rv h2 r2 h3]
    exact c _ F H _ m (.refl F) M (.int _) q
  · exact h.elim
theorem mt_countG {X : Cx} (K : PySem.W.Frag) (hK : X.K = K := by rfl) : MtR X "list.count" (rCntF K) := by subst hK; exact mt_countF
def sIsE (K : PySem.W.Frag) (D a : Addr) : SRC := fun vs m S => match vs with
  | [.ref b, .ref C] => b = a ∧ ∃ k, PySem.W.kitOne K (.ref D) (.ref C) = some k ∧ S (.bl k) m
  | [.ref b, .ty n] => b = a ∧ ∃ k, PySem.W.kitOne K (.ref D) (.type n) = some k ∧ S (.bl k) m
  | _ => False
theorem ge_never {E : XK} {X : Cx} {e : Expr} : GE K E X e (fun _ _ _ => False) (fun _ _ _ _ => False) := ⟨⟨fun _ _ _ _ _ _ h => h.elim⟩, fun _ _ _ _ _ _ _ _ _ h _ => h.elim⟩
end
/-! ### a def whose code object is known (it makes lambdas) -/
section
variable {P : Program} {w : World} {K : PySem.W.Frag} {mg : Str → Option Value} {base : Heap}
theorem fn_syT {CX : CXT} {k : Nat} {f : Addr} {name qual : Str} {params : Arguments} {body : List Stmt} {scope : Scope} {dV kV doc pm cdv ct oc : Value} {an od : Option Addr} {osl : Array (Option Value)} {N ps : List Str} {sp : SpS}
    (lk : K.lookup f = some ⟨oc, od, .func (PySem.W.fnOf name qual params body scope dV kV doc pm an cdv ct), osl⟩) (hcd : PySem.W.codeIn K cdv qual = true) (S : FnScope N ps scope) (hl : ∀ svs m SX Sv, sp svs m SX Sv → svs.length = ps.length)
    (hev : ∀ (A : Around) (outer : List Env) (s : Shared) (H : Hp) (E : XK), Room k (A.deeper (envOfC qual scope s.heap.objs.size f cdv)) → ∃ ts ss, GSs K E (cxOf CX P w K mg base N qual scope f cdv A outer s H E) body ts ss ∧
      ∀ svs m SX Sv, sp svs m SX Sv → ss (fun x => Fg (SX x)) { nx := fun _ m' => Fg (Sv .non) m', rt := fun v => Fg (Sv v) } (startD N.length svs) m) : FnOk P w K mg base CX (k + 1) f (PySem.W.fnOf name qual params body scope dV kV doc pm an cdv ct) ps (lift K sp) := by
  refine fn_of lk hcd S (fun vs H Q E h => by
    obtain ⟨F, svs, m, SX, Sv, _, h2, h3, _⟩ := h
    rw [vrs_length h2]; exact hl _ _ _ _ h3) (fun A outer s H vs Q E hr h => ?_)
  obtain ⟨F, svs, m, SX, Sv, M, r, hsp, hx, c⟩ := h
  obtain ⟨ts, ss, hder, hev⟩ := hev A outer s H E hr
  refine ⟨ts, hder.pe, ?_⟩
  exact hder.sim _ F H _ m (fun x => Fg (SX x)) { nx := fun _ m' => Fg (Sv .non) m', rt := fun v => Fg (Sv v) } _ ⟨SR.start r, M, hx.fg⟩ (hev svs m SX Sv hsp) ⟨fun σ' δ' F' H' m' s' _ M' ⟨m2, l2, q⟩ => c .non F' H' .non m2 s' (M'.drop l2) .non q, fun v F' H' sv m' s' M' rv ⟨m2, l2, q⟩ => c v F' H' sv m2 s' (M'.drop l2) rv q, fun _ _ _ _ _ _ _ _ q => q.elim, fun _ _ _ _ _ _ _ _ q => q.elim⟩
end
end Sy

set_option Elab.async false
set_option linter.all false
set_option maxRecDepth 100000
set_option maxHeartbeats 4000000
/-! sum of a list of truths -/
namespace Sy
open PySem PySem.Spec PyProof.Rows L2
def cntB (bs : List Bool) : Int := (bs.map b2i).sum
def rSumB (K : PySem.W.Frag) : List V → Hp → VK → Prop := fun vs H Q => ∃ (a : Addr) (bs : List Bool), vs = [V.ref a] ∧ SqL K H a (bs.map V.bl) ∧ Q (.int (cntB bs)) H
def rSumG (K : PySem.W.Frag) : List V → Hp → VK → Prop := fun xs H Q => rSum K xs H Q ∨ rSumB K xs H Q
def sSumA : SRC := fun vs m S => match vs with
  | [x] => (∃ ns : List Int, ItsL m x (ns.map .int) ∧ S (.int ns.sum) m) ∨ (∃ bs : List Bool, ItsL m x (bs.map .bl) ∧ S (.int (cntB bs)) m)
  | _ => False
end Sy
namespace Sy
open PySem PySem.Spec PyProof.Rows L2
def slotD (δ : DS) (j : Nat) : Option SV := match δ[j]? with
  | some o => o
  | none => none
theorem wr_of {K : PySem.W.Frag} {F : Hp} {σ : L2.St} {δ : DS} (sr : SR K F σ δ) (js : List Nat) : WR K F (js.map (NdefX.slotAt σ)) (js.map (slotD δ)) := by
  refine ⟨by simp, fun i d e => ?_⟩
  rw [List.getElem?_map] at e
  obtain ⟨j, h1, h2⟩ := Option.map_eq_some_iff.mp e
  have h3 : δ[j]? = some (some d) := by
    unfold slotD at h2
    split at h2
    · next o q => rw [q, h2]
    · cases h2
  obtain ⟨v, h4, h5⟩ := sr.at_ j d h3
  exact ⟨v, by rw [List.getElem?_map, h1]; show some (NdefX.slotAt σ j) = _; rw [NdefX.slotAt_of h4], h5⟩
end Sy
namespace Sy
open PySem PySem.Spec PyProof.Rows L2
section
variable {P : Program} {w : World} {K : PySem.W.Frag} {mg : Str → Option Value} {base : Heap}
end
end Sy

set_option Elab.async false
set_option linter.all false
set_option maxRecDepth 100000
set_option maxHeartbeats 4000000
/-! Instances and their fields, methods, constructors over symbolic values. -/
namespace Sy
open PySem PySem.Spec PyProof.Rows L2
theorem _root_.L2.Room.u1 {k : Nat} {A : Around} (r : L2.Room k A) : A.units + 1 < cLine := by have := r.un; omega
/-- a field is stored -/
def putS (f : Str) (v : SV) : List (Str × SV) → List (Str × SV)
  | [] => [(f, v)]
  | (g, x) :: r => if g = f then (g, v) :: r else (g, x) :: putS f v r
section
variable {K : PySem.W.Frag} {F H : Hp} {m : Mem}
theorem kr_putF {f : Str} {v : V} {x : SV} (r : VR K F v x) : ∀ {us : List (Str × V)} {fs : List (Str × SV)}, KR K F us fs → KR K F (putF f v us) (putS f x fs)
  | _, _, .nil => .cons r .nil
  | (g, _) :: us, (_, _) :: fs, .cons a b => by
    unfold putF putS
    by_cases e : g = f
    · rw [if_pos e, if_pos e]; exact .cons r b
    · rw [if_neg e, if_neg e]; exact .cons a (kr_putF r b)
theorem kr_look {us : List (Str × V)} {fs : List (Str × SV)} {f : Str} {x : SV} (h : KR K F us fs) (e : fs.lookup f = some x) : ∃ v, us.lookup f = some v ∧ VR K F v x := by
  have z := kr_lookup (k := f) h
  rw [e] at z
  exact z
theorem kr_lookN {us : List (Str × V)} {fs : List (Str × SV)} {f : Str} (h : KR K F us fs) (e : fs.lookup f = none) : us.lookup f = none := by
  have z := kr_lookup (k := f) h
  rw [e] at z
  exact z
end
/-- o.f of an instance of the class at C -/
def sFldR (C : Addr) (f : Str) (a : SE) : SE := fun SX δ m S => a SX δ m fun x m1 => match x with
  | .ref p => ∃ fs v, m1 p = some (.ins C fs) ∧ fs.lookup f = some v ∧ S v m1
  | _ => False
/-- o.f = v -/
def sFldW (C : Addr) (f : Str) (a tv : SE) : SS := fun SX D δ m => tv SX δ m fun y m1 => a SX δ m1 fun x m2 => match x with
  | .ref p => ∃ fs, m2 p = some (.ins C fs) ∧ fs.length < 1000 ∧ D.nx δ (up m2 p (.ins C (putS f y fs)))
  | _ => False
/-- o.m(..) -/
def sMeth (C : Addr) (nm : Str) (sp : SpS) (dvs : List SV) (a : SE) (t : SA) : SE := fun SX δ m S => a SX δ m fun x m1 => match x with
  | .ref p => ∃ fs, m1 p = some (.ins C fs) ∧ fs.lookup nm = none ∧ t SX δ m1 fun vs m2 => sp (.ref p :: (vs ++ dvs)) m2 SX S
  | _ => False
/-- C(..) -/
def sMake (C : Addr) (sp : SpS) (dvs : List SV) (t : SA) : SE := fun SX δ m S => t SX δ m fun vs m1 => ∀ p, m1 p = none → sp (.ref p :: (vs ++ dvs)) (up m1 p (.ins C [])) SX (fun v m2 => v = .non ∧ S (.ref p) m2)
/-- a method's promise, a constructor's -/
abbrev FnM (K : PySem.W.Frag) (x q : Str) (st : Stmt) (f : Addr) (fd : FuncData) : Prop := FunD K x q (defArgs st) (defBody st) (defScope st) [] [] f fd
section
variable {K : PySem.W.Frag} {E : XK} {X : Cx} {CX : CXT} {k : Nat} {f C : Addr} {fd : FuncData} {ps : List Str} {sp : SpS} {dvs : List V} {svs : List SV} {ds : List Value} {x nm : Str} {p pos apos pos' : Pos} {e o value : Expr} {es : List Expr} {t : TA} {s : SA} {ta tv : TE} {sa sv : SE}
theorem ge_fld (c : Cls K C) (na : NoAttr K C x) (he : GE K E X e ta sa) (hb : attributeBase e x X.env (eval e X.env) = eval e X.env := by rfl) (hK : X.K = K := by rfl) : GE K E X (.Attribute e x pos) (tFld K ta x) (sFldR C x sa) := by
  subst hK
  exact ⟨pe_fld he.pe hb, fun σ F H δ m SX S Q r h q => he.sim σ F H δ m SX _ _ r h fun v F1 H1 sv m1 s1 M1 v1 h1 => by
    cases v1 <;> first
      | exact (show False from h1).elim
      | skip
    obtain ⟨fs, u, e1, e2, h1⟩ := (show ∃ fs u, _ from h1)
    obtain ⟨dx, us, g1, g2, g3, g4, g5⟩ := (M1.at_ _ _ e1).2
    obtain ⟨w, l, rw_⟩ := kr_look g5 e2
    exact ⟨_, C, dx, us, w, rfl, g1, c, na, l, q w F1 H1 u m1 s1 M1 rw_ h1⟩⟩
theorem MR.setF {F H : Hp} {m : Mem} {a dx : Addr} {us : List (Str × V)} {fs fs' : List (Str × SV)} {us' : List (Str × V)} (M : MR K F H m) (h : m a = some (.ins C fs)) (h1 : H a = some (.ins C dx us)) (h2 : H dx = some (.own a)) (h3 : F dx = none) (h4 : m dx = none) (r : KR K F us' fs') : MR K F (upd H a (.ins C dx us')) (up m a (.ins C fs')) := by
  have ne : dx ≠ a := fun z => by rw [z, h1] at h2; cases h2
  exact M.put h (fun u hu x => by rw [h1] at hu; cases hu; exact x) ⟨dx, us', upd_same, by rw [upd_ne ne]; exact h2, h3, by rw [up_ne ne]; exact h4, r⟩
theorem gs_fld (c : Cls K C) (na : NoAttr K C x) (ha : GE K E X o ta sa) (hv : GE K E X value tv sv) (hs : swapsWith value (some (.Attribute o x pos')) pos.line X.env = pure false := by rfl) (hK : X.K = K := by rfl) : GS K E X (.Assign [.Attribute o x pos'] value pos) (sFld K ta tv x) (sFldW C x sa sv) := by
  subst hK
  exact ⟨ps_fld ha.pe hv.pe hs, fun σ F H δ m SX D Es r h q => hv.sim σ F H δ m SX _ _ r h fun y F1 H1 sy m1 s1 M1 v1 h1 => ha.sim σ F1 H1 δ m1 SX _ _ (r.go s1 M1) h1 fun u F2 H2 su m2 s2 M2 v2 h2 => by
    cases v2 <;> first
      | exact (show False from h2).elim
      | skip
    obtain ⟨fs, e1, e2, h2⟩ := (show ∃ fs, _ from h2)
    obtain ⟨dx, us, g1, g2, g3, g4, g5⟩ := (M2.at_ _ _ e1).2
    have s12 := s1.trans s2
    exact ⟨_, C, dx, us, rfl, g1, c, na, by rw [kr_length g5]; exact e2, q.nx σ δ F2 _ _ s12 (r.sr.sub s12) (M2.setF e1 g1 g2 g3 g4 (kr_putF (vr_sub s2 v1) g5)) h2⟩⟩
theorem sim_meth (hd : ∀ F, VRs K F dvs svs) (he : SimE K E ta sa) (ha : SimA K E t s) : SimE K E (tMeth C nm (lift K sp) dvs E ta t) (sMeth C nm sp svs sa s) := fun σ F H δ m SX S Q r h q => he σ F H δ m SX _ _ r h fun v F1 H1 sv m1 s1 M1 v1 h1 => by
  cases v1 <;> first
    | exact (show False from h1).elim
    | skip
  obtain ⟨fs, e1, e2, h1⟩ := (show ∃ fs, _ from h1)
  obtain ⟨dx, us, g1, g2, g3, g4, g5⟩ := (M1.at_ _ _ e1).2
  refine ⟨_, dx, us, rfl, g1, kr_lookN g5 e2, ha σ F1 H1 δ m1 SX _ _ (r.go s1 M1) h1 fun vs F2 H2 svs2 m2 s2 M2 v2 h2 => ?_⟩
  have s12 := s1.trans s2
  exact ⟨F2, _, m2, SX, S, M2, .cons (.ref _) (vrs_append v2 (hd F2)), h2, r.ex.go s12, q.go s12⟩
theorem ge_meth {pl : Sem Bool} (c : Cls K C) (hm : Meth K C nm f) (F : FnOk X.prog X.w X.K X.mg X.base CX k f fd ps (lift K sp)) (hr : Room k X.A) (hb : Binds X.K fd ps ds) (hd : Vals dvs ds) (hds : ∀ F, VRs K F dvs svs) (hx : Passes CX X E) (he : GE K E X o ta sa) (ha : GA K E X (e :: es) t s)
    (hst : starEach (e :: es) X.env = (false, eval e X.env) :: starEach es X.env := by rfl) (hpl : (backTo pos (starEach es X.env)).any (·.1) = false := by rfl)
    (ht : eval (.Call (.Attribute o nm apos) (e :: es) [] pos) X.env = (do
      let ov ← eval o X.env
      standAt apos.atName
      let (f, first) ← holding [ov] (getMethod ov nm pl)
      callWith pos f first (backTo pos (starEach (e :: es) X.env)) (backToKw pos (keywordEach [] X.env))) := by rfl) (hK : X.K = K := by rfl) : GE K E X (.Call (.Attribute o nm apos) (e :: es) [] pos) (tMeth C nm (lift K sp) dvs E ta t) (sMeth C nm sp svs sa s) := by
  subst hK
  exact ⟨pe_meth (pl := pl) he.pe c hm F hr hb hd hx ha.pe hst hpl ht, sim_meth hds he.sim ha.sim⟩
theorem ge_meth0 {pl : Sem Bool} (c : Cls K C) (hm : Meth K C nm f) (F : FnOk X.prog X.w X.K X.mg X.base CX k f fd ps (lift K sp)) (hr : Room k X.A) (hb : Binds X.K fd ps ds) (hd : Vals dvs ds) (hds : ∀ F, VRs K F dvs svs) (hx : Passes CX X E) (he : GE K E X o ta sa)
    (ht : eval (.Call (.Attribute o nm apos) [] [] pos) X.env = (do
      let ov ← eval o X.env
      standAt apos.atName
      let (f, first) ← holding [ov] (getMethod ov nm pl)
      callWith pos f first (backTo pos (starEach [] X.env)) (backToKw pos (keywordEach [] X.env))) := by rfl) (hK : X.K = K := by rfl) : GE K E X (.Call (.Attribute o nm apos) [] [] pos) (tMeth C nm (lift K sp) dvs E ta tNil) (sMeth C nm sp svs sa sNil) := by
  subst hK
  exact ⟨pe_meth0 (pl := pl) he.pe c hm F hr hb hd hx ht, sim_meth hds he.sim (ga_nil (X := X)).sim⟩
theorem MR.newI {F H : Hp} {m : Mem} {q dx : Addr} (M : MR K F H m) (h1 : H q = none) (h2 : H dx = none) (ne : dx ≠ q) : MR K F (upd (upd H dx (.own q)) q (.ins C dx [])) (up m q (.ins C [])) :=
  (M.hid h2).new_ (by rw [upd_ne (Ne.symm ne)]; exact h1) ⟨dx, [], upd_same, by rw [upd_ne ne]; exact upd_same, M.sub.gone h2, by rw [up_ne ne]; exact M.gone h2, .nil⟩
theorem sim_make (hd : ∀ F, VRs K F dvs svs) (ha : SimA K E t s) : SimE K E (tMake C (lift K sp) dvs E t) (sMake C sp svs s) := fun σ F H δ m SX S Q r h q => ha σ F H δ m SX _ _ r h fun vs F1 H1 sv m1 s1 M1 v1 h1 => fun a dx n1 n2 ne =>
  ⟨F1, _, _, SX, _, M1.newI n1 n2 ne, .cons (.ref _) (vrs_append v1 (hd F1)), h1 a (M1.gone n1), r.ex.go s1, fun v F2 H2 sv2 m2 s2 M2 v2 ⟨e, h2⟩ => by
    subst e
    exact ⟨vr_non v2, q _ F2 H2 _ m2 (s1.trans s2) M2 (.ref a) h2⟩⟩
theorem ge_make (Mm : Mk K C f) (F : FnOk X.prog X.w X.K X.mg X.base CX k f fd ps (lift K sp)) (hr : Room (k + 1) X.A) (hg : Gl X x) (hm : X.mg x = some (.ref C)) (hb : Binds X.K fd ps ds) (hd : Vals dvs ds) (hds : ∀ F, VRs K F dvs svs) (hx : Passes CX X E)
    (ha : GA K E X (e :: es) t s) (hdb : (x == ("__debug__" : Str)) = false := by decide) (he : starEach (e :: es) X.env = (false, eval e X.env) :: starEach es X.env := by rfl) (hpl : (backTo pos (starEach es X.env)).any (·.1) = false := by rfl) (hK : X.K = K := by rfl) :
    GE K E X (.Call (.Name x p) (e :: es) [] pos) (tMake C (lift K sp) dvs E t) (sMake C sp svs s) := by
  subst hK
  exact ⟨pe_make Mm F hr hg hm hb hd hx ha.pe hdb he hpl, sim_make hds ha.sim⟩
end
/-! ### keywords -/
structure GK (K : PySem.W.Frag) (E : XK) (X : Cx) (e : List Keyword) (te : TA) (se : SA) : Prop where
  pe : PK X e te
  sim : SimA K E te se
def tMethK (C : Addr) (m : Str) (sp : Sp) (gV : List V → List V → List V) (E : XK) (ta : TE) (tk : TA) : TE := fun σ H Q => ta σ H fun x H1 => ∃ a dx fs, x = .ref a ∧ H1 a = some (.ins C dx fs) ∧ fs.lookup m = none ∧
  tk σ H1 fun zs H2 => sp (gV [x] zs) H2 Q E
/-- o.m(k = v) -/
def sMethK (C : Addr) (nm : Str) (sp : SpS) (a : SE) (t : SA) : SE := fun SX δ m S => a SX δ m fun x m1 => match x with
  | .ref p => ∃ fs, m1 p = some (.ins C fs) ∧ fs.lookup nm = none ∧ t SX δ m1 fun vs m2 => sp (.ref p :: vs) m2 SX S
  | _ => False
section
variable {K : PySem.W.Frag} {E : XK} {X : Cx} {CX : CXT} {k : Nat} {f C : Addr} {fd : FuncData} {ps ks : List Str} {sp : SpS} {x nm : Str} {p pos apos kpos : Pos} {e o : Expr} {es : List Expr} {kws : List Keyword} {t tk : TA} {s sk : SA} {ta te : TE} {sa se : SE} {nk : Option Str}
theorem gk_nil : GK K E X [] tNil sNil := ⟨pk_nil, (ga_nil (X := X)).sim⟩
theorem gk_cons (ha : GE K E X e te se) (hr : GK K E X kws tk sk) : GK K E X (⟨nk, e, kpos⟩ :: kws) (tCons te tk) (sCons se sk) := ⟨pk_cons ha.pe hr.pe, fun σ F H δ m SX S Q r q c =>
  ha.sim σ F H δ m SX _ _ r q fun v F1 H1 sv m1 s1 M1 v1 h1 => hr.sim σ F1 H1 δ m1 SX _ _ (r.go s1 M1) h1 fun vs F2 H2 svs m2 s2 M2 v2 h2 => c _ F2 H2 _ m2 (s1.trans s2) M2 (.cons (vr_sub s2 v1) v2) h2⟩
end
/-! ### defs with a qualified name -/
section
variable {P : Program} {w : World} {K : PySem.W.Frag} {mg : Str → Option Value} {base : Heap}
theorem fn_syQ {x q : Str} {st : Stmt} {f : Addr} {fd : FuncData} {N ps : List Str} {k : Nat} {sp : SpS} {dvs : List V} {kws : List (Str × V)} (Fn : FunD K x q (defArgs st) (defBody st) (defScope st) dvs kws f fd) (S : FnScope N ps (defScope st)) (hl : ∀ svs m SX Sv, sp svs m SX Sv → svs.length = ps.length)
    (hev : ∀ (cdv : Value) (A : Around) (outer : List Env) (s : Shared) (H : Hp) (E : XK), Room k (A.deeper (envOfC q (defScope st) s.heap.objs.size f cdv)) → ∃ ts ss, GSs K E (cxOf CX0 P w K mg base N q (defScope st) f cdv A outer s H E).nox (defBody st) ts ss ∧
      ∀ svs m SX Sv, sp svs m SX Sv → ss (fun x => Fg (SX x)) { nx := fun _ m' => Fg (Sv .non) m', rt := fun v => Fg (Sv v) } (startD N.length svs) m) : FnOk P w K mg base CX0 (k + 1) f fd ps (lift K sp) := by
  refine FunD.ok Fn S (fun vs H Q E h => by
    obtain ⟨F, svs, m, SX, Sv, _, h2, h3, _⟩ := h
    rw [vrs_length h2]; exact hl _ _ _ _ h3) (fun cdv A outer s H vs Q E hr h => ?_)
  obtain ⟨F, svs, m, SX, Sv, M, r, hsp, hx, c⟩ := h
  obtain ⟨ts, ss, hder, hev⟩ := hev cdv A outer s H E hr
  refine ⟨ts, PSs.nox hder.pe, ?_⟩
  exact hder.sim _ F H _ m (fun x => Fg (SX x)) { nx := fun _ m' => Fg (Sv .non) m', rt := fun v => Fg (Sv v) } _ ⟨SR.start r, M, hx.fg⟩ (hev svs m SX Sv hsp) ⟨fun σ' δ' F' H' m' s' _ M' ⟨m2, l2, q⟩ => c .non F' H' .non m2 s' (M'.drop l2) .non q, fun v F' H' sv m' s' M' rv ⟨m2, l2, q⟩ => c v F' H' sv m2 s' (M'.drop l2) rv q, fun _ _ _ _ _ _ _ _ q => q.elim, fun _ _ _ _ _ _ _ _ q => q.elim⟩
end
end Sy

set_option Elab.async false
set_option linter.all false
set_option maxRecDepth 100000
set_option maxHeartbeats 4000000
/-! Dicts with keys ints and texts, displays, enumerate, sorted, copies backward over symbolic values. -/
namespace Sy
open PySem PySem.Spec PyProof.Rows L2
def keyS : SV → Option Key
  | .int i => some (.inl i)
  | .str x => some (.inr x)
  | _ => none
def kS : Key → SV
  | .inl i => .int i
  | .inr x => .str x
theorem key_V {K : PySem.W.Frag} {F : Hp} {y : V} {a : SV} {k : Key} (r : VR K F y a) (h : keyS a = some k) : y = kV k := by
  cases r <;> first
    | (cases h; rfl)
    | (cases (show (none : Option Key) = some k from h))
theorem kS_V {K : PySem.W.Frag} {F : Hp} {y : V} {k : Key} (r : VR K F y (kS k)) : y = kV k := by
  cases k with
  | inl i => exact vr_int r
  | inr x => exact vr_str r
section
variable {κ : Type} [DecidableEq κ]
def valS (kvs : List (κ × SV)) (k : κ) : Option SV := (kvs.find? fun kv => decide (kv.1 = k)).map (·.2)
def putD (kvs : List (κ × SV)) (k : κ) (v : SV) : List (κ × SV) :=
  if (kvs.any fun kv => decide (kv.1 = k)) = true then kvs.map (fun kv => if kv.1 = k then (kv.1, v) else kv) else kvs ++ [(k, v)]
def dropD (kvs : List (κ × SV)) (k : κ) : List (κ × SV) := kvs.filter fun kv => decide (kv.1 ≠ k)
variable {K : PySem.W.Frag} {F : Hp}
theorem kr_val {k : κ} : ∀ {us : List (κ × V)} {kvs : List (κ × SV)}, KR K F us kvs → (valS kvs k = none ∧ valV us k = none) ∨ ∃ x v, valS kvs k = some x ∧ valV us k = some v ∧ VR K F v x
  | _, _, .nil => .inl ⟨rfl, rfl⟩
  | (g, v) :: us, (_, x) :: kvs, .cons a b => by
    by_cases e : g = k
    · refine .inr ⟨x, v, ?_, ?_, a⟩
      · simp [valS, List.find?_cons, e]
      · simp [valV, List.find?_cons, e]
    · have h1 : valS ((g, x) :: kvs) k = valS kvs k := by simp [valS, List.find?_cons, e]
      have h2 : valV ((g, v) :: us) k = valV us k := by simp [valV, List.find?_cons, e]
      rw [h1, h2]
      exact kr_val b
theorem kr_any {k : κ} {us : List (κ × V)} {kvs : List (κ × SV)} (h : KR K F us kvs) : (us.any fun kv => decide (kv.1 = k)) = kvs.any fun kv => decide (kv.1 = k) := by
  have e : ∀ {β : Type} (xs : List (κ × β)), (xs.any fun kv => decide (kv.1 = k)) = (xs.map (·.1)).any fun q => decide (q = k) := fun xs => by
    rw [List.any_map]; rfl
  rw [e us, e kvs, kr_keys h]
theorem kr_app : ∀ {us vs : List (κ × V)} {xs ys : List (κ × SV)}, KR K F us xs → KR K F vs ys → KR K F (us ++ vs) (xs ++ ys)
  | _, _, _, _, .nil, s => s
  | _, _, _, _, .cons r t, s => .cons r (kr_app t s)
theorem kr_rep {k : κ} {v : V} {x : SV} (r : VR K F v x) : ∀ {us : List (κ × V)} {kvs : List (κ × SV)}, KR K F us kvs → KR K F (us.map fun kv => if kv.1 = k then (kv.1, v) else kv) (kvs.map fun kv => if kv.1 = k then (kv.1, x) else kv)
  | _, _, .nil => .nil
  | (g, _) :: us, (_, _) :: kvs, .cons a b => by
    rw [List.map_cons, List.map_cons]
    by_cases e : g = k
    · simp only [e, if_true]; exact .cons r (kr_rep r b)
    · simp only [e, if_false]; exact .cons a (kr_rep r b)
theorem kr_putK {k : κ} {v : V} {x : SV} {us : List (κ × V)} {kvs : List (κ × SV)} (h : KR K F us kvs) (r : VR K F v x) : KR K F (putK us k v) (putD kvs k x) := by
  unfold putK putD
  rw [kr_any h]
  split
  · exact kr_rep r h
  · exact kr_app h (.cons r .nil)
theorem kr_drop {k : κ} : ∀ {us : List (κ × V)} {kvs : List (κ × SV)}, KR K F us kvs → KR K F (dropK us k) (dropD kvs k)
  | _, _, .nil => .nil
  | (g, v) :: us, (_, x) :: kvs, .cons a b => by
    have ih := kr_drop (k := k) b
    unfold dropK dropD at ih ⊢
    rw [List.filter_cons, List.filter_cons]
    by_cases e : g = k
    · simp only [e]; simpa using ih
    · simp only [e]; simpa [e] using KR.cons (k := g) a ih
end
/-! ### readings -/
def sDGet (d i : SE) : SE := fun SX δ m S => d SX δ m fun x m1 => i SX δ m1 fun y m2 => match x with
  | .ref a => ∃ kvs k v, m2 a = some (.dK kvs) ∧ keyS y = some k ∧ valS kvs k = some v ∧ S v m2
  | _ => False
/-- d.get(k) -/
def sDGet1 (d i : SE) : SE := fun SX δ m S => d SX δ m fun x m1 => match x with
  | .ref a => (∃ kvs, m1 a = some (.dK kvs)) ∧ i SX δ m1 fun y m2 => ∃ kvs k, m2 a = some (.dK kvs) ∧ keyS y = some k ∧ S ((valS kvs k).getD .non) m2
  | _ => False
/-- d[k] = v -/
def sDPutS (d i v : SE) : SS := fun SX D δ m => v SX δ m fun z m1 => d SX δ m1 fun x m2 => i SX δ m2 fun y m3 => match x with
  | .ref a => ∃ kvs k, m3 a = some (.dK kvs) ∧ keyS y = some k ∧ kvs.length < sizeLine ∧ D.nx δ (up m3 a (.dK (putD kvs k z)))
  | _ => False
def sDNew : SE := fun _ _ m S => ∀ p, m p = none → S (.ref p) (up m p (.dK []))
def sPairs : List (SE × SE) → SXK → DS → Mem → (List (SV × SV) → Mem → Prop) → Prop
  | [], _, _, m, S => S [] m
  | (k, v) :: r, SX, δ, m, S => k SX δ m fun x m1 => v SX δ m1 fun y m2 => sPairs r SX δ m2 fun ps m3 => S ((x, y) :: ps) m3
def mergeS (kvs more : List (Key × SV)) : List (Key × SV) := more.foldl (fun acc kv => putD acc kv.1 kv.2) kvs
def sDisp (srs : List (SE × SE)) : SE := fun SX δ m S => ∀ p, m p = none → sPairs srs SX δ (up m p (.dK [])) fun ps m2 => m2 p = some (.dK []) ∧ ∃ kvs : List (Key × SV), ps = kvs.map (fun kv => (kS kv.1, kv.2)) ∧ kvs.length ≤ 15 ∧ S (.ref p) (up m2 p (.dK (mergeS [] kvs)))
section
variable {K : PySem.W.Frag} {F H : Hp} {m : Mem} {a p : Addr}
theorem MR.newD {kvs' : List (Key × SV)} {us' : List (Key × V)} (M : MR K F H m) (h : H p = none) (r : KR K F us' kvs') : MR K F (upd H p (.dK us')) (up m p (.dK kvs')) := M.new_ h ⟨us', upd_same, r⟩
theorem kr_merge : ∀ {more : List (Key × V)} {rs : List (Key × SV)} {us : List (Key × V)} {kvs : List (Key × SV)}, KR K F more rs → KR K F us kvs → KR K F (mergeK us more) (mergeS kvs rs)
  | _, _, _, _, .nil, h => h
  | (k, v) :: more, (_, x) :: rs, us, kvs, .cons a b, h => by
    show KR K F (mergeK (putK us k v) more) (mergeS (putD kvs k x) rs)
    exact kr_merge b (kr_putK h a)
end
inductive PR2 (K : PySem.W.Frag) (F : Hp) : List (V × V) → List (SV × SV) → Prop
  | nil : PR2 K F [] []
  | cons {x y : V} {a b : SV} {ps : List (V × V)} {qs : List (SV × SV)} : VR K F x a → VR K F y b → PR2 K F ps qs → PR2 K F ((x, y) :: ps) ((a, b) :: qs)
structure GPs (K : PySem.W.Frag) (E : XK) (X : Cx) (pos : Pos) (ks : List (Option Expr)) (vs : List Expr) (trs : List (TE × TE)) (srs : List (SE × SE)) : Prop where
  pe : PPs X pos ks vs trs
  sim : ∀ σ F H δ m SX (S : List (SV × SV) → Mem → Prop) (Q : List (V × V) → Hp → Prop), Rl K E σ F H δ m SX → sPairs srs SX δ m S → (∀ ps F' H' qs m', Sub F F' → MR K F' H' m' → PR2 K F' ps qs → S qs m' → Q ps H') → tPairs trs σ H Q
section
variable {K : PySem.W.Frag} {E : XK} {X : Cx} {pos apos cpos pos' : Pos} {o i e k v value : Expr} {ks : List (Option Expr)} {vs : List Expr} {trs : List (TE × TE)} {srs : List (SE × SE)} {td ty tk tv : TE} {sd sy sk sv : SE}
theorem ge_dget1 (hu : X.A.units + 1 < cLine) (ho : GE K E X o td sd) (he : GE K E X e ty sy) (mm : M1 X o "get" apos e cpos := by exact ⟨rfl, rfl, rfl, rfl⟩) : GE K E X (.Call (.Attribute o "get" apos) [e] [] cpos) (tDGet1 td ty) (sDGet1 sd sy) := ⟨pe_dget1 hu ho.pe he.pe mm, fun σ F H δ m SX S Q r h c =>
  ho.sim σ F H δ m SX _ _ r h fun x F1 H1 a m1 s1 M1 v1 h1 => by
    cases v1 <;> first
      | exact (show False from h1).elim
      | skip
    obtain ⟨⟨kvs0, e0⟩, h1⟩ := (show (∃ kvs, _) ∧ _ from h1)
    obtain ⟨us0, g0, _⟩ := (M1.at_ _ _ e0).2
    refine ⟨_, rfl, .inl ⟨us0, .inl g0⟩, he.sim σ F1 H1 δ m1 SX _ _ (r.go s1 M1) h1 fun y F2 H2 b m2 s2 M2 v2 h2 => ?_⟩
    obtain ⟨kvs, k, e1, e2, q⟩ := h2
    obtain ⟨us, g1, g2⟩ := (M2.at_ _ _ e1).2
    refine ⟨valV us k, ?_, ?_⟩
    · rw [key_V v2 e2]; exact .k g1
    · rcases kr_val (k := k) g2 with ⟨z1, z2⟩ | ⟨x', w, z1, z2, rw_⟩
      · rw [z1] at q; rw [z2]
        exact c .non F2 H2 .non m2 (s1.trans s2) M2 .non q
      · rw [z1] at q; rw [z2]
        exact c w F2 H2 x' m2 (s1.trans s2) M2 rw_ q⟩
end
/-! ### sorted of a dict with int keys -/
def rSortDI : List V → Hp → VK → Prop := fun xs H Q => ∃ (a : Addr) (kvs : List (Key × V)) (ks : List Int), xs = [.ref a] ∧ L2.Rd H a (.dK kvs) ∧ kvs.map (·.1) = ks.map Sum.inl ∧ ks.length < 64 ∧
    ∀ (ys : List Int) (p : Addr), ys.Perm ks → ys.Pairwise (· ≤ ·) → H p = none → Q (.ref p) (upd H p (.lst (ys.map V.int)))
def srtI (ks : List Int) : List Int := ks.mergeSort (fun a b => decide (a ≤ b))
theorem srt_uniq : ∀ {xs ys : List Int}, xs.Perm ys → xs.Pairwise (· ≤ ·) → ys.Pairwise (· ≤ ·) → xs = ys := fun p h1 h2 => p.eq_of_pairwise (fun a b _ _ h3 h4 => Int.le_antisymm h3 h4) h1 h2
theorem srtI_perm (ks : List Int) : (srtI ks).Perm ks := List.mergeSort_perm ks _
theorem srtI_pw (ks : List Int) : (srtI ks).Pairwise (· ≤ ·) := by
  have h := List.pairwise_mergeSort (le := fun a b : Int => decide (a ≤ b)) (fun a b c h1 h2 => by simp at h1 h2 ⊢; omega) (fun a b => by simp; omega) ks
  exact h.imp fun q => by simpa using q
def sSortDI : SRC := fun vs m S => match vs with
  | [.ref a] => ∃ (kvs : List (Key × SV)) (ks : List Int), m a = some (.dK kvs) ∧ kvs.map (·.1) = ks.map Sum.inl ∧ ks.length < 64 ∧ ∀ p, m p = none → S (.ref p) (up m p (.lst ((srtI ks).map SV.int)))
  | _ => False
/-! ### enumerate(list) -/
def enS : Int → List SV → List SV
  | _, [] => []
  | i, x :: r => .tup [.int i, x] :: enS (i + 1) r
theorem enS_len : ∀ (xs : List SV) (i : Int), (enS i xs).length = xs.length
  | [], _ => rfl
  | _ :: r, i => by rw [enS, List.length_cons, List.length_cons, enS_len r]
theorem enS_get : ∀ (xs : List SV) (i : Int) (j : Nat) (y : SV), (enS i xs)[j]? = some y → ∃ x, xs[j]? = some x ∧ y = .tup [.int (i + (j : Nat)), x]
  | [], _, _, _, e => by simp [enS] at e
  | x :: r, i, 0, y, e => by
    simp [enS] at e
    exact ⟨x, rfl, by rw [← e]; simp⟩
  | x :: r, i, j + 1, y, e => by
    obtain ⟨x', h1, h2⟩ := enS_get r (i + 1) j y (by simpa [enS] using e)
    refine ⟨x', by simpa using h1, ?_⟩
    rw [h2]
    congr 3
    push_cast
    omega
def sEnumI (a : SA) : SI := fun SX δ m R => a SX δ m fun xs m1 => match xs with
  | [x] => ∃ ys, ItsL m1 x ys ∧ R (enS 0 ys) (keepOf x ys) m1
  | _ => False
theorem one_any {xs : List SV} {P : SV → Prop} (h : match xs with | [x] => P x | _ => False) : ∃ x, xs = [x] ∧ P x := by
  split at h
  · exact ⟨_, rfl, h⟩
  · exact h.elim
theorem it_e {K : PySem.W.Frag} {F : Hp} {a : Addr} {ys : List SV} {keep : Mem → Prop} (h : ∀ F' H' m', Sub F F' → MR K F' H' m' → keep m' → ∃ vs, SqL K H' a vs ∧ VRs K F' vs ys) : ItOk K F (Ite K a) (enS 0 ys) keep where
  go := fun i F' H' m' x s M k e => by
    obtain ⟨vs, h1, h2⟩ := h F' H' m' s M k
    obtain ⟨z, hz, rfl⟩ := enS_get _ _ _ _ e
    obtain ⟨v, hv, rv⟩ := vrs_get h2 hz
    refine ⟨⟨vs, v, h1, hv⟩, fun w H'' hy => ?_⟩
    obtain ⟨T, y, rfl, hT, rfl, hy⟩ := hy
    have q := hy vs h1
    rw [hv] at q
    cases q
    refine ⟨upd F' T _, Sub.new (M.sub.gone hT), M.frz hT, .tup (.inl (.inl upd_same)) (.cons ?_ (.cons (vr_sub (Sub.new (M.sub.gone hT)) rv) .nil))⟩
    have e0 : (0 : Int) + (i : Nat) = (i : Nat) := by omega
    rw [e0]
    exact .int _
  stop := fun F' H' m' s M k => by
    obtain ⟨vs, h1, h2⟩ := h F' H' m' s M k
    exact ⟨vs, h1, by rw [enS_len, vrs_length h2]; exact Nat.le_refl _⟩
section
variable {K : PySem.W.Frag} {E : XK} {X : Cx} {e : Expr} {p pos tpos : Pos} {elts : List Expr} {kk : Nat} {t : TA} {s : SA} {te : TE} {se : SE}
theorem gi_enumerate (hg : Gl X "enumerate") (hm : X.mg "enumerate" = none) (ha : GA K E X [e] t s) (hs : starEach [e] X.env = [(false, eval e X.env)] := by rfl) (hK : X.K = K := by rfl) : GI K E X (.Tuple elts kk tpos) (.Call (.Name "enumerate" p) [e] [] pos) (iEnum K t) (sEnumI s) := by
  subst hK
  exact ⟨pi_enum hg hm ha.pe hs, fun σ F H δ m SX R R' r hh c => ha.sim σ F H δ m SX _ _ r hh fun v F1 H1 sv m1 s1 M1 v1 h1 => by
    obtain ⟨x, rfl, ys, hi, q⟩ := one_any h1
    obtain ⟨w, rfl, rw_⟩ := vrs_one v1
    cases rw_ with
    | lst g1 g2 =>
      cases (show ys = _ from hi)
      exact ⟨_, _, rfl, sql_sub M1.sub g1, c _ _ _ F1 H1 m1 s1 M1 (it_e fun F2 H2 m2 s2 M2 _ => ⟨_, sql_sub (s2.trans M2.sub) g1, vrs_sub s2 g2⟩) q⟩
    | ref b =>
      obtain ⟨vs, e1, _⟩ := M1.lst_ (show m1 b = some (.lst ys) from hi)
      exact ⟨_, _, rfl, .inl (.inl e1), c _ _ _ F1 H1 m1 s1 M1 (it_e fun F2 H2 m2 s2 M2 k => by
        obtain ⟨ws, e2, r2⟩ := M2.lst_ (show m2 b = some (.lst ys) from k)
        exact ⟨ws, .inl (.inl e2), r2⟩) q⟩
    | _ => exact (show False from hi).elim⟩
/-! ### xs[::-1], [..] * n -/
def sRev (a : SE) : SE := fun SX δ m S => a SX δ m fun x m1 => ∃ ys, ItsL m1 x ys ∧ ∀ p, m1 p = none → S (.ref p) (up m1 p (.lst ys.reverse))
def sRep : SR2 := fun x y m S => match x, y with
  | .ref a, .int k => ∃ xs, m a = some (.lst xs) ∧ (-(2 ^ 63) ≤ k ∧ k < 2 ^ 63 ∧ xs.length * k.toNat ≤ sizeLine) ∧ ∀ p, m p = none → S (.ref p) (up m p (.lst (List.replicate k.toNat xs).flatten))
  | _, _ => False
theorem vrs_rep {F : Hp} {vs : List V} {xs : List SV} (h : VRs K F vs xs) : ∀ n : Nat, VRs K F (List.replicate n vs).flatten (List.replicate n xs).flatten
  | 0 => .nil
  | n + 1 => by
    rw [List.replicate_succ, List.replicate_succ, List.flatten_cons, List.flatten_cons]
    exact vrs_append h (vrs_rep h n)
end
end Sy

set_option Elab.async false
set_option linter.all false
set_option maxRecDepth 100000
set_option maxHeartbeats 4000000
/-! A def that may raise, called where it doesn't (within a comprehension). -/
namespace Sy
open PySem PySem.Spec PyProof.Rows L2
def calm (sp : SpS) : SpS := fun vs m _ S => sp vs m (fun _ _ => False) S
theorem fn_calm {P : Program} {w : World} {K : PySem.W.Frag} {mg : Str → Option Value} {base : Heap} {k : Nat} {f : Addr} {fd : FuncData} {ps : List Str} {sp : SpS} (F : FnOk P w K mg base (L2.CX P w) k f fd ps (lift K sp)) : FnOk P w K mg base CX0 k f fd ps (lift K (calm sp)) := by
  have key : ∀ vs H Q E, lift K (calm sp) vs H Q E → lift K sp vs H Q (fun _ _ _ => False) := fun vs H Q E ⟨F0, svs, m, SX, S, M, r, h, _, c⟩ => ⟨F0, svs, m, fun _ _ => False, S, M, r, h, fun x d F' H' m' _ _ _ z => z.elim, c⟩
  refine ⟨fun vs H Q E h => F.len _ _ _ _ (key vs H Q E h), fun A outer s H args us vs Q E hr he hb hv hs => ?_⟩
  refine codeAny_mono (F.run A outer s H args us vs Q _ hr he hb hv (key vs H Q E hs)) fun r s' hq => ?_
  cases r with
  | error e =>
    obtain ⟨_, _, _, _, _, _, _, _, _, _, _, _, z⟩ := hq
    exact z.elim
  | ok fl =>
    cases fl with
    | ret u => exact hq
    | next => exact hq
    | brk => exact hq
    | cont => exact hq
end Sy

set_option Elab.async false
set_option linter.all false
set_option maxRecDepth 100000
set_option maxHeartbeats 4000000
/-! a, b = x, y of plain names -/
namespace Sy
open PySem PySem.Spec PyProof.Rows L2
def sPar (i j : Nat) (sa : SA) : SS := fun SX D δ m => sa SX δ m fun vs m1 => match vs with
  | [v, w] => D.nx ((δ.set i (some v)).set j (some w)) m1
  | _ => False
def sPar3 (i j l : Nat) (sa : SA) : SS := fun SX D δ m => sa SX δ m fun vs m1 => match vs with
  | [u, v, w] => D.nx (((δ.set i (some u)).set j (some v)).set l (some w)) m1
  | _ => False
theorem two_any {xs : List SV} {P : SV → SV → Prop} (h : match xs with | [x, y] => P x y | _ => False) : ∃ x y, xs = [x, y] ∧ P x y := by
  split at h
  · exact ⟨_, _, rfl, h⟩
  · exact h.elim
section
variable {K : PySem.W.Frag} {E : XK} {X : Cx} {a b c : Expr} {ta : TA} {sa : SA} {pos px py pz pt pt2 : Pos} {kt k2 : Nat} {i j l : Nat} {x y z : Str}
theorem gs_par (hc : X.calm = true) (hN : X.N.Nodup) (hi : X.N[i]? = some x) (hj : X.N[j]? = some y) (hij : i ≠ j)
    (hx : X.env.scope.names.lookup x = some .local) (hy : X.env.scope.names.lookup y = some .local) (ha : GA K E X [a, b] ta sa)
    (hw : swappedStores [.Tuple [.Name x px, .Name y py] kt pt] (.Tuple [a, b] k2 pt2) X.env = pure (some [x, y]) := by rfl)
    (hs : swapsWithSole [.Tuple [.Name x px, .Name y py] kt pt] (.Tuple [a, b] k2 pt2) pos.line X.env = pure false := by rfl) :
    GS K E X (.Assign [.Tuple [.Name x px, .Name y py] kt pt] (.Tuple [a, b] k2 pt2) pos) (tPar i j ta) (sPar i j sa) :=
  ⟨ps_par hc hN hi hj hij hx hy ha.pe hw hs, fun σ F H δ m SX D Es r h q => ha.sim σ F H δ m SX _ _ r h fun vs F1 H1 svs m1 s1 M1 v1 h1 => by
    obtain ⟨v, w, rfl, h1⟩ := two_any h1
    obtain ⟨v', w', rfl, r1, r2⟩ := vrs_two v1
    exact ⟨v', w', rfl, q.nx _ _ F1 H1 m1 s1 (((r.sr.sub s1).set r1).set r2) M1 h1⟩⟩
theorem vrs_three {F : Hp} {vs : List V} {x y z : SV} (h : VRs K F vs [x, y, z]) : ∃ u v w, vs = [u, v, w] ∧ VR K F u x ∧ VR K F v y ∧ VR K F w z := by
  cases h with
  | cons r t =>
    obtain ⟨v, w, rfl, q1, q2⟩ := vrs_two t
    exact ⟨_, _, _, rfl, r, q1, q2⟩
end
def isBl (x : SV) (b : Bool) : Bool := match x with
  | .bl a => decide (a = b)
  | _ => false
def sNotBA : SR2 := fun x y m S => match y with
  | .bl b => S (.bl (!isBl x b)) m
  | _ => False
end Sy

set_option Elab.async false
set_option linter.all false
set_option maxRecDepth 100000
set_option maxHeartbeats 4000000
/-! sorted(set(xs)), len(set(xs)) of a list of ints; d.get(k, x). -/
namespace Sy
open PySem PySem.Spec PyProof.Rows L2
/-- an empty set's object -/
abbrev nset (w : World) : Obj := { cls := .type "set", dict := none, data := .set #[] 0 (.fresh 0 0 (!w.params.followText "set-order")) }
section
variable {P : Program} {w : World} {A : Around} {E : Value → Shared → Prop} {s : Shared}
/-- what stands behind the making of a set out of ns -/
def Made (w : World) (s : Shared) (ns : List Int) (r : Value) (s2 : Shared) : Prop := r = .none ∧ ∃ h' tk c, s2 = { s with heap := h', toks := tk } ∧ SetR w h' s.heap.objs.size (fun j => decide (j ∈ ns)) c ∧ c ≤ ns.length ∧ ∀ b o, s.heap.get? b = some o → h'.get? b = some o
end
def rSetI (K : PySem.W.Frag) (w : World) : List V → Hp → VK → Prop := fun xs H Q => ∃ (l : Addr) (ns : List Int), xs = [V.ref l] ∧ SqL K H l (ns.map V.int) ∧ ns.length < 64 ∧ ∀ (p : Addr) (c : Nat), H p = none → c ≤ ns.length → Q (.ref p) (upd H p (SetO w p (fun j => decide (j ∈ ns)) c))
def sSetI (w : World) : SRC := fun vs m S => match vs with
  | [x] => ∃ ns : List Int, ItsL m x (ns.map .int) ∧ ns.length < 64 ∧ ∀ (p : Addr) (c : Nat), m p = none → c ≤ ns.length → S (.ref p) (up m p (.raw (SetO w p (fun j => decide (j ∈ ns)) c)))
  | _ => False
def sSortS (w : World) : SRC := fun vs m S => match vs with
  | [.ref a] => ∃ (ns : List Int) (c : Nat), m a = some (.raw (SetO w a (fun j => decide (j ∈ ns)) c)) ∧ c < 64 ∧ ∀ (ys : List Int) (p : Addr), ys.Pairwise (· < ·) → (∀ k, k ∈ ys ↔ k ∈ ns) → m p = none → S (.ref p) (up m p (.lst (ys.map .int)))
  | _ => False
/-- len(set(xs)), unlike ints -/
def sLenSet (a : SE) : SE := fun SX δ m S => a SX δ m fun x m1 => ∃ ns : List Int, ItsL m1 x (ns.map .int) ∧ ns.length < 64 ∧ ns.Nodup ∧ S (.int ns.length) m1
/-- d.get(k, x) -/
def sDGet2 (d i f : SE) : SE := fun SX δ m S => d SX δ m fun x m1 => match x with
  | .ref a => (∃ kvs, m1 a = some (.dK kvs)) ∧ i SX δ m1 fun y m2 => f SX δ m2 fun z m3 => ∃ kvs k, m3 a = some (.dK kvs) ∧ keyS y = some k ∧ S ((valS kvs k).getD z) m3
  | _ => False
end Sy

set_option Elab.async false
set_option linter.all false
set_option maxRecDepth 100000
set_option maxHeartbeats 4000000
/-! k in d; x in a list of data of any depth. -/
namespace Sy
open PySem PySem.Spec PyProof.Rows L2
def sInD (neg : Bool) : SR2 := fun x y m S => ∃ d ds, Rd m x d ∧ Rd m y (.list ds) ∧ SeqAt.shaped d = true ∧ SeqAt.shaped (.list ds) = true ∧ S (.bl (if neg then !(ds.any fun z => PyData.eqv z d) else ds.any fun z => PyData.eqv z d)) m
section
variable {K : PySem.W.Frag} {E : XK} {X : Cx} {a b : Expr} {ta tb : TE} {sa sb : SE} {pos : Pos}
/-- k in d -/
def sDIn (i d : SE) : SE := fun SX δ m S => i SX δ m fun y m1 => d SX δ m1 fun x m2 => match x with
  | .ref a => ∃ kvs k, m2 a = some (.dK kvs) ∧ keyS y = some k ∧ S (.bl (valS kvs k).isSome) m2
  | _ => False
end
mutual
/-- data without dicts, its == -/
def NoD : PyData → Prop
  | .list a => NoDs a
  | .tuple a => NoDs a
  | .dict _ => False
  | _ => True
def NoDs : List PyData → Prop
  | [] => True
  | a :: r => NoD a ∧ NoDs r
end
mutual
theorem eqv_refl : ∀ d : PyData, NoD d → PyData.eqv d d = true
  | .none, _ => by simp [PyData.eqv]
  | .bool b, _ => by cases b <;> simp [PyData.eqv]
  | .int _, _ => by simp [PyData.eqv]
  | .str _, _ => by simp [PyData.eqv]
  | .list a, h => by simp only [PyData.eqv]; exact eqvAll_refl a h
  | .tuple a, h => by simp only [PyData.eqv]; exact eqvAll_refl a h
  | .dict _, h => h.elim
theorem eqvAll_refl : ∀ d : List PyData, NoDs d → PyData.eqvAll d d = true
  | [], _ => by simp [PyData.eqvAll]
  | a :: r, h => by
    simp only [PyData.eqvAll, Bool.and_eq_true]
    exact ⟨eqv_refl a h.1, eqvAll_refl r h.2⟩
end
/-- data that == compares -/
def Shp (n : Nat) (d : PyData) : Prop := PyData.canLay0 d = true ∧ PyData.depth d ≤ n
end Sy

set_option Elab.async false
set_option linter.all false
set_option maxRecDepth 100000
set_option maxHeartbeats 4000000
/-! Dicts whose keys are tuples of ints and texts. -/
namespace Sy
open PySem PySem.Spec PyProof.Rows L2
section
variable {K : PySem.W.Frag} {F H : Hp} {m : Mem}
theorem MR.noT {b : Addr} {xs : List V} (M : MR K F H m) (h : H b = some (.tup xs)) : m b = none := by
  cases q : m b with
  | none => rfl
  | some o =>
    have z := (M.at_ b o q).2
    cases o with
    | lst _ => obtain ⟨_, e, _⟩ := z; rw [h] at e; cases e
    | dK _ => obtain ⟨_, e, _⟩ := z; rw [h] at e; cases e
    | dT _ => obtain ⟨_, e, _⟩ := z; rw [h] at e; cases e
    | ins _ _ => obtain ⟨_, _, e, _⟩ := z; rw [h] at e; cases e
    | box _ => obtain ⟨_, e⟩ := z; rw [h] at e; cases e
    | bxi => obtain ⟨_, e, _⟩ := z; rw [h] at e; cases e
    | tab _ => obtain ⟨_, e, _⟩ := z; rw [h] at e; cases e
    | lam _ _ _ => obtain ⟨_, _, e, _⟩ := z; rw [h] at e; cases e
    | pred _ => obtain ⟨⟨u, e, _, n⟩, _⟩ := z; rw [h] at e; cases e; exact absurd rfl (n _)
    | xd _ => obtain ⟨_, e, _⟩ := z; rw [h] at e; cases e
    | raw u => obtain ⟨e, n⟩ := z; rw [h] at e; cases e; exact absurd rfl (n _)
    | lk u _ => obtain ⟨e, od, us, e2, _⟩ := z; rw [h, e2] at e; cases e
theorem MR.frzT {b : Addr} {xs : List V} (M : MR K F H m) (h : H b = some (.tup xs)) : Sub F (upd F b (.tup xs)) ∧ MR K (upd F b (.tup xs)) H m := by
  have sF : Sub F (upd F b (.tup xs)) := fun a u e => by
    by_cases q : a = b
    · subst q
      have z := M.sub a u e
      rw [h] at z
      cases z
      exact upd_same
    · rw [upd_ne q]; exact e
  refine ⟨sF, ⟨M.sub.in h, fun a u hu => ?_⟩⟩
  have nb : a ≠ b := fun e => by rw [e, M.noT h] at hu; cases hu
  obtain ⟨z1, z2⟩ := M.at_ a u hu
  refine ⟨(upd_ne nb).trans z1, ?_⟩
  cases u with
  | lst xs => obtain ⟨vs, h1, h2⟩ := z2; exact ⟨vs, h1, vrs_sub sF h2⟩
  | dK xs => obtain ⟨vs, h1, h2⟩ := z2; exact ⟨vs, h1, kr_sub sF h2⟩
  | dT xs => obtain ⟨vs, h1, h2⟩ := z2; exact ⟨vs, h1, kr_sub sF h2⟩
  | xd xs => obtain ⟨vs, h1, h2⟩ := z2; exact ⟨vs, h1, kr_sub sF h2⟩
  | ins C fs =>
    obtain ⟨dx, us, h1, h2, h3, h4, h5⟩ := z2
    have nd : dx ≠ b := fun q => by subst q; rw [h] at h2; cases h2
    exact ⟨dx, us, h1, h2, (upd_ne nd).trans h3, h4, kr_sub sF h5⟩
  | box c => exact z2
  | bxi => exact z2
  | tab nm => exact z2
  | lam mk e d => exact z2
  | pred ψ => exact ⟨z2.1, fun F2 H2 s2 k2 => z2.2 F2 H2 (sF.trans s2) k2⟩
  | raw u => exact z2
  | lk u kvs => obtain ⟨h1, od, us, h2, h3⟩ := z2; exact ⟨h1, od, us, h2, kr_sub sF h3⟩
theorem frz_keys : ∀ {bs : List Addr} {F : Hp} {us : List (List Key × V)}, MR K F H m → IsKeys H us bs → ∃ F', Sub F F' ∧ MR K F' H m ∧ VRs K F' (bs.map V.ref) (us.map fun q => SV.kt q.1)
  | [], F, [], M, _ => ⟨F, .refl F, M, .nil⟩
  | [], _, _ :: _, _, h => by cases h
  | _ :: _, _, [], _, h => by cases h
  | b :: bs, F, u :: us, M, h => by
    cases h with
    | cons h1 h2 =>
      obtain ⟨s1, M1⟩ := M.frzT h1
      obtain ⟨F2, s2, M2, r⟩ := frz_keys M1 h2
      exact ⟨F2, s1.trans s2, M2, .cons (.kt (s2 _ _ upd_same)) r⟩
theorem vrs_keys : ∀ {vs : List V} {ks : List Key}, VRs K F vs (ks.map kS) → vs = ks.map kV
  | [], [], _ => rfl
  | _ :: _, [], h => by cases h
  | [], _ :: _, h => by cases h
  | v :: vs, k :: ks, h => by
    rw [List.map_cons] at h
    cases h with
    | cons a b => rw [kS_V a, vrs_keys b]; rfl
theorem vr_kt {v : V} {k : List Key} (r : VR K F v (.kt k)) : ∃ b, v = .ref b ∧ F b = some (.tup (k.map kV)) := by
  cases r with
  | kt h => exact ⟨_, rfl, h⟩
theorem MR.nstT {a : Addr} {kvs : List (List Key × SV)} (M : MR K F H m) (h : m a = some (.dT kvs)) : ∀ u, H a = some u → ¬ Still u := fun u hu x => by
  obtain ⟨us, z, _⟩ := (M.at_ _ _ h).2
  rw [z] at hu; cases hu; exact x
theorem MR.setDT {a : Addr} {kvs kvs' : List (List Key × SV)} {us' : List (List Key × V)} (M : MR K F H m) (h : m a = some (.dT kvs)) (r : KR K F us' kvs') : MR K F (upd H a (.dT us')) (up m a (.dT kvs')) := M.put h (M.nstT h) ⟨us', upd_same, r⟩
theorem MR.newDT {p : Addr} {kvs' : List (List Key × SV)} {us' : List (List Key × V)} (M : MR K F H m) (h : H p = none) (r : KR K F us' kvs') : MR K F (upd H p (.dT us')) (up m p (.dT kvs')) := M.new_ h ⟨us', upd_same, r⟩
end
/-! ### readings -/
def sTupK (a : SA) : SE := fun SX δ m S => a SX δ m fun xs m1 => ∃ ks : List Key, xs = ks.map kS ∧ xs.length ≤ sizeLine ∧ S (.kt ks) m1
def sDGetT (d i : SE) : SE := fun SX δ m S => d SX δ m fun x m1 => i SX δ m1 fun y m2 => match x with
  | .ref a => ∃ kvs k v, m2 a = some (.dT kvs) ∧ y = .kt k ∧ valS kvs k = some v ∧ S v m2
  | _ => False
def sDGetT2 (d i f : SE) : SE := fun SX δ m S => d SX δ m fun x m1 => match x with
  | .ref a => (∃ kvs, m1 a = some (.dT kvs)) ∧ i SX δ m1 fun y m2 => f SX δ m2 fun z m3 => ∃ kvs k, m3 a = some (.dT kvs) ∧ y = .kt k ∧ S ((valS kvs k).getD z) m3
  | _ => False
def sDPutT (d i v : SE) : SS := fun SX D δ m => v SX δ m fun z m1 => d SX δ m1 fun x m2 => i SX δ m2 fun y m3 => match x with
  | .ref a => ∃ kvs k, m3 a = some (.dT kvs) ∧ y = .kt k ∧ kvs.length < sizeLine ∧ D.nx δ (up m3 a (.dT (putD kvs k z)))
  | _ => False
def sDNewT : SE := fun _ _ m S => ∀ p, m p = none → S (.ref p) (up m p (.dT []))
def sDInT (neg : Bool) (i d : SE) : SE := fun SX δ m S => i SX δ m fun y m1 => d SX δ m1 fun x m2 => match x with
  | .ref a => ∃ kvs k, m2 a = some (.dT kvs) ∧ y = .kt k ∧ S (.bl (if neg then !(valS kvs k).isSome else (valS kvs k).isSome)) m2
  | _ => False
def tDDelT (td ty : TE) : TS := fun D σ H => td σ H fun x H1 => ty σ H1 fun y H2 => ∃ (a b : Addr) (kvs : List (List Key × V)) (k : List Key), x = .ref a ∧ H2 a = some (.dT kvs) ∧ y = .ref b ∧ H2 b = some (.tup (k.map kV)) ∧ (valV kvs k).isSome = true ∧ D.nx σ (upd H2 a (.dT (dropK kvs k)))
def sDDelT (d i : SE) : SS := fun SX D δ m => d SX δ m fun x m1 => i SX δ m1 fun y m2 => match x with
  | .ref a => ∃ kvs k, m2 a = some (.dT kvs) ∧ y = .kt k ∧ (valS kvs k).isSome = true ∧ D.nx δ (up m2 a (.dT (dropD kvs k)))
  | _ => False
theorem d_delItemT {X : Cx} {pins : List (Addr × Obj)} {σ : L2.St} {H : Hp} {s : Shared} {a b : Addr} {kvs : List (List Key × V)} {k : List Key} {A : Around} {E : Value → Shared → Prop} {Q : Unit → Shared → Prop} (hu : A.units + 1 < cLine) (I : Inv X pins σ H s) (e : H a = some (.dT kvs)) (eb : H b = some (.tup (k.map kV))) (l : (valV kvs k).isSome = true) (h : ∀ s', Inv X pins σ (upd H a (.dT (dropK kvs k))) s' → Q () s') :
    wpAny (model X.prog X.w) A (delItem (.ref a) (.ref b)) Q E s := by
  obtain ⟨z, hd, xs, rel, dd⟩ := dt_of I.hok e
  have hz : xs.length ≤ sizeLine := by rw [← Paired.length rel]; exact z
  obtain ⟨v0, hv0⟩ := Option.isSome_iff_exists.mp l
  have r := rel.val k
  rw [hv0] at r
  obtain ⟨p, hp⟩ : ∃ p, atKey xs k = some p := by
    cases q : atKey xs k with
    | none => rw [q] at r; exact (show False from r).elim
    | some p => exact ⟨p, rfl⟩
  refine wpAny_delItem_heap (hsz := hz) (tupleKind_room_in1 hu) (key_of I.hok eb) hd dd hp fun h' dd' hs => h _ ?_
  obtain ⟨o, es, ep, hq, h2, h3, h4, _, h5⟩ := dd'
  exact d_write I (by rw [e]; exact True.intro) hs ⟨o, hq⟩ ⟨Nat.le_trans (dropK_le kvs k) z, hd, _, (L2.DX.KT_drop k rel).keeps (fun c ys ec => (by rw [upd_ne (ne_of ec e (fun z => nomatch z))]; exact ec)), o, es, ep, hq, h2, h3, h4, h5⟩
section
variable {K : PySem.W.Frag} {E : XK} {X : Cx} {pos apos cpos pos' tpos : Pos} {o i e f k v value a b : Expr} {es : List Expr} {td ty tv te tx : TE} {sd sy sv se sx : SE} {tl : TA} {sl : SA}
theorem ge_tupK {x1} (h : GA K E X es tl sl) : GE K E X (.Tuple es x1 pos) (tTup tl) (sTupK sl) := ⟨pe_tup h.pe, fun σ F H δ m SX S Q r q c =>
  h.sim σ F H δ m SX _ _ r q fun vs F1 H1 svs m1 s1 M1 v1 ⟨ks, e1, e2, h1⟩ => by
    subst e1
    obtain rfl := vrs_keys v1
    refine ⟨by rw [vrs_length v1]; exact e2, fun p hp => c (.ref p) (upd F1 p _) _ _ m1 (s1.trans (Sub.new (M1.sub.gone hp))) (M1.frz hp) (.kt upd_same) h1⟩⟩
theorem ge_dnewT : GE K E X (.Dict [] [] pos) tDNewT sDNewT := ⟨pe_dnewT, fun σ F H δ m SX S Q r h c => fun p hp => c (.ref p) F _ _ _ (.refl F) (r.mr.newDT hp .nil) (.ref p) (h p (r.mr.gone hp))⟩
theorem ge_dgetT (hu : X.A.units + 1 < cLine) (ho : GE K E X o td sd) (hi : GE K E X i ty sy) (hs : NoSl i := by intro _ _; rfl) : GE K E X (.Subscript o i pos) (tDGet td ty) (sDGetT sd sy) := ⟨pe_dget hu ho.pe hi.pe hs, fun σ F H δ m SX S Q r h c =>
  ho.sim σ F H δ m SX _ _ r h fun x F1 H1 a m1 s1 M1 v1 h1 => hi.sim σ F1 H1 δ m1 SX _ _ (r.go s1 M1) h1 fun y F2 H2 b m2 s2 M2 v2 h2 => by
    cases v1 <;> first
      | exact (show False from h2).elim
      | skip
    obtain ⟨kvs, k, u, e1, rfl, e3, q⟩ := (show ∃ kvs k u, _ from h2)
    obtain ⟨us, g1, g2⟩ := (M2.at_ _ _ e1).2
    obtain ⟨kb, rfl, hkb⟩ := vr_kt v2
    rcases kr_val (k := k) g2 with ⟨z, _⟩ | ⟨x', w, z1, z2, rw_⟩
    · rw [z] at e3; cases e3
    · rw [z1] at e3; cases e3
      refine ⟨_, w, rfl, ?_, c w F2 H2 _ m2 (s1.trans s2) M2 rw_ q⟩
      rw [← z2]
      exact .t g1 (M2.sub _ _ hkb)⟩
theorem gs_dputT (hu : X.A.units + 1 < cLine) (ho : GE K E X o td sd) (hi : GE K E X i ty sy) (hv : GE K E X value tv sv) (hs : swapsWith value (some (.Subscript o i pos')) pos.line X.env = pure false := by rfl) : GS K E X (.Assign [.Subscript o i pos'] value pos) (sDPut td ty tv) (sDPutT sd sy sv) := ⟨ps_dput hu ho.pe hi.pe hv.pe hs, fun σ F H δ m SX D Es r h q =>
  hv.sim σ F H δ m SX _ _ r h fun z F1 H1 a m1 s1 M1 v1 h1 => ho.sim σ F1 H1 δ m1 SX _ _ (r.go s1 M1) h1 fun x F2 H2 b m2 s2 M2 v2 h2 => hi.sim σ F2 H2 δ m2 SX _ _ (r.go (s1.trans s2) M2) h2 fun y F3 H3 b m3 s3 M3 v3 h3 => by
    cases v2 <;> first
      | exact (show False from h3).elim
      | skip
    obtain ⟨kvs, k, e1, rfl, e3, q2⟩ := (show ∃ kvs k, _ from h3)
    obtain ⟨us, g1, g2⟩ := (M3.at_ _ _ e1).2
    obtain ⟨kb, rfl, hkb⟩ := vr_kt v3
    have s123 := (s1.trans s2).trans s3
    exact ⟨_, _, rfl, .t g1 (M3.sub _ _ hkb) (by rw [kr_length g2]; exact e3), q.nx σ δ F3 _ _ s123 (r.sr.sub s123) (M3.setDT e1 (kr_putK (k := k) g2 (vr_sub (s2.trans s3) v1))) q2⟩⟩
theorem ps_ddelT (hu : X.A.units + 1 < cLine) (ho : PE X o td) (hi : PE X i ty) : PS X (.Delete [.Subscript o i tpos] pos) (tDDelT td ty) := by
  refine ⟨fun pins s σ H D I h => ?_⟩
  refine wpAny_Delete (wpAny_deleteEach_cons (wpAny_delete_Subscript (thn (ho.run pins s σ H _ I h) fun u s1 ⟨x, H1, I1, rx, q1⟩ => thn (hi.run pins s1 σ H1 _ I1 q1) fun iv s2 ⟨y, H2, I2, ry, a, b, kvs, k, ex, e, ey, eb, l, q2⟩ => ?_)))
  subst ex ey
  obtain rfl : u = Value.ref a := rx
  obtain rfl : iv = Value.ref b := ry
  exact d_delItemT hu I2 e eb l fun s3 I3 => wpAny_deleteEach_nil ⟨σ, _, I3, q2⟩
theorem gs_ddelT (hu : X.A.units + 1 < cLine) (ho : GE K E X o td sd) (hi : GE K E X i ty sy) : GS K E X (.Delete [.Subscript o i tpos] pos) (tDDelT td ty) (sDDelT sd sy) := ⟨ps_ddelT hu ho.pe hi.pe, fun σ F H δ m SX D Es r h q =>
  ho.sim σ F H δ m SX _ _ r h fun x F1 H1 a m1 s1 M1 v1 h1 => hi.sim σ F1 H1 δ m1 SX _ _ (r.go s1 M1) h1 fun y F2 H2 b m2 s2 M2 v2 h2 => by
    cases v1 <;> first
      | exact (show False from h2).elim
      | skip
    obtain ⟨kvs, k, e1, rfl, e3, q2⟩ := (show ∃ kvs k, _ from h2)
    obtain ⟨us, g1, g2⟩ := (M2.at_ _ _ e1).2
    obtain ⟨kb, rfl, hkb⟩ := vr_kt v2
    have s12 := s1.trans s2
    refine ⟨_, kb, us, k, rfl, g1, rfl, M2.sub _ _ hkb, ?_, q.nx σ δ F2 _ _ s12 (r.sr.sub s12) (M2.setDT e1 (kr_drop (k := k) g2)) q2⟩
    rcases kr_val (k := k) g2 with ⟨z1, z2⟩ | ⟨x', w, z1, z2, rw_⟩
    · rw [z1] at e3; cases e3
    · rw [z2]; rfl⟩
theorem sim_dnotinT {ta tb : TE} {sa sb : SE} (hi : SimE K E ta sa) (ho : SimE K E tb sb) : SimE K E (tDNotIn ta tb) (sDInT true sa sb) := fun σ F H δ m SX S Q r h c =>
  hi σ F H δ m SX _ _ r h fun y F1 H1 sy m1 s1 M1 v1 h1 => ho σ F1 H1 δ m1 SX _ _ (r.go s1 M1) h1 fun x F2 H2 sx m2 s2 M2 v2 h2 => by
    cases v2 <;> first
      | exact (show False from h2).elim
      | skip
    obtain ⟨kvs, k, e1, rfl, q⟩ := (show ∃ kvs k, _ from h2)
    obtain ⟨us, g1, g2⟩ := (M2.at_ _ _ e1).2
    obtain ⟨kb, rfl, hkb⟩ := vr_kt v1
    refine ⟨_, valV us k, rfl, .t g1 (M2.sub _ _ (s2 _ _ hkb)), ?_⟩
    have e : (valV us k).isSome = (valS kvs k).isSome := by
      rcases kr_val (k := k) g2 with ⟨z1, z2⟩ | ⟨x', w, z1, z2, _⟩
      · rw [z1, z2]; rfl
      · rw [z1, z2]; rfl
    rw [e]
    exact c _ F2 H2 _ m2 (s1.trans s2) M2 (.bl _) q
theorem gt_dnotinT {ta tb : TE} {sa sb : SE} (hu : X.A.units + 1 < cLine) (hi : GE K E X a ta sa) (ho : GE K E X b tb sb) (hm : behindInMarks .NotIn b = false) : GT K E X (.Compare a [.NotIn] [b] pos) (tB (tDNotIn ta tb)) (sB (sDInT true sa sb)) := ⟨pt_cmp (pc_dnotin hu hi.pe ho.pe) hm, sim_val (sim_dnotinT hi.sim ho.sim)⟩
/-- `k not in d` of int and text keys -/
def sDNotIn (i d : SE) : SE := fun SX δ m S => i SX δ m fun y m1 => d SX δ m1 fun x m2 => match x with
  | .ref a => ∃ kvs k, m2 a = some (.dK kvs) ∧ keyS y = some k ∧ S (.bl (!(valS kvs k).isSome)) m2
  | _ => False
end
/-! ### list(d), k[i] -/
def rListT : List V → Hp → VK → Prop := fun xs H Q => ∃ d kvs, xs = [V.ref d] ∧ L2.Rd H d (.dT kvs) ∧ ∀ p bs, H p = none → IsKeys H kvs bs → Q (.ref p) (upd H p (.lst (bs.map V.ref)))
theorem cr_listT {X : Cx} (hc : X.calm = true := by rfl) : CallR X (.type "list") rListT := call_list_dT hc
def sListT : SRC := fun vs m S => match vs with
  | [.ref a] => ∃ kvs : List (List Key × SV), m a = some (.dT kvs) ∧ ∀ p, m p = none → S (.ref p) (up m p (.lst (kvs.map fun q => .kt q.1)))
  | _ => False
theorem sim_listT {K : PySem.W.Frag} : SimC K rListT sListT := fun F H m xs as S Q M rs h c => by
  unfold sListT at h
  split at h
  · obtain ⟨kvs, e1, q⟩ := h
    obtain ⟨v, rfl, rv⟩ := vrs_one rs
    obtain rfl := vr_ref rv
    obtain ⟨us, g1, g2⟩ := (M.at_ _ _ e1).2
    refine ⟨_, us, rfl, .inl g1, fun p bs hp hk => ?_⟩
    obtain ⟨F', s', M', r⟩ := frz_keys M hk
    have e : (us.map fun q => SV.kt q.1) = kvs.map fun q => .kt q.1 := by
      have z := congrArg (List.map SV.kt) (kr_keys g2)
      rw [List.map_map, List.map_map] at z
      exact z
    rw [e] at r
    exact c (.ref p) F' _ _ _ s' (M'.newL hp r) (.ref p) (q p (M.gone hp))
  · exact h.elim
def sIxK : SR2 := fun x y m S => match x, y with
  | .kt ks, .int i => ∃ k, atI ks i = some k ∧ S (kS k) m
  | _, _ => False
theorem kS_VR {K : PySem.W.Frag} {F : Hp} (k : Key) : VR K F (kV k) (kS k) := by
  cases k with
  | inl i => exact .int i
  | inr x => exact .str x
theorem sim_ixK {K : PySem.W.Frag} : SimR K (rIxG K) sIxK := fun F H m x y a b S Q M ra rb h c => by
  cases ra <;> cases rb <;> first
    | exact (show False from h).elim
    | skip
  obtain ⟨k, h2, q⟩ := (show ∃ k, _ from h)
  rename_i ks h1 i
  refine .inr (.inl ⟨_, _, _, kV k, rfl, rfl, .inl (.inl (M.sub _ _ h1)), ?_, c _ F H _ m (.refl F) M (kS_VR k) q⟩)
  unfold atI at h2 ⊢
  rw [List.length_map]
  obtain ⟨j, z1, z2⟩ := Option.bind_eq_some_iff.mp h2
  rw [z1]
  show (ks.map kV)[j]? = some (kV k)
  rw [List.getElem?_map, z2]
  rfl
/-! ### d.values() of a locked dict -/
def ItdT (d : Addr) (o : Obj) (kvs : List (List Key × V)) : It :=
  ⟨fun i H => H d = some (.frz o (.dT kvs)) ∧ i < kvs.length, fun i H x H' => H' = H ∧ ∃ k, kvs[i]? = some (k, x), fun i H => H d = some (.frz o (.dT kvs)) ∧ kvs.length ≤ i⟩
def iValsT (td : TE) : TI := fun σ H R => td σ H fun x H1 => ∃ d o kvs, x = .ref d ∧ H1 d = some (.frz o (.dT kvs)) ∧ R (ItdT d o kvs) H1
def sValsT (a : SE) : SI := fun SX δ m R => a SX δ m fun x m1 => match x with
  | .ref d => ∃ o kvs, m1 d = some (.lk o kvs) ∧ R (kvs.map (·.2)) (fun m' => m' d = some (.lk o kvs)) m1
  | _ => False
/-- an expression that runs while a dict is locked -/
def sLockT (se : SE) : SE := fun SX δ m S => ∃ d kvs, m d = some (.dT kvs) ∧ ∀ o, se SX δ (up m d (.lk o kvs)) fun v m' => m' d = some (.lk o kvs) ∧ S v (up m' d (.dT kvs))
end Sy

set_option Elab.async false
set_option linter.all false
set_option maxRecDepth 100000
set_option maxHeartbeats 4000000
/-! sorted of rows (two ints and a tuple of ints), of ints; max of a list; min(.., default = None). -/
namespace Sy
open PySem PySem.Spec PyProof.Rows L2
/-- a row: two ints and a tuple of ints -/
abbrev Row := Int × Int × List Int
def keyR (r : Row) : List Int := r.1 :: r.2.1 :: r.2.2
def rowS (r : Row) : SV := .tup [.int r.1, .int r.2.1, .tup (r.2.2.map .int)]
def IsRow (h : Heap) (v : Value) (κ : List Int) : Prop := ∃ (a b : Addr) (o : Obj) (t u : Tok) (n : Nat) (i j : Int) (itb : Array Value) (ns : List Int), v = .ref a ∧ h.get? a = some o ∧ o.cls = .type "tuple" ∧ o.data = .seq #[.int i t, .int j u, .ref b] n ∧ IsTup h b itb ∧ IntsAre itb.toList ns ∧ κ = i :: j :: ns
theorem IsRow.keeps {h h' : Heap} {v : Value} {κ : List Int} (x : IsRow h v κ) (k : ∀ b o, h.get? b = some o → o.cls = .type "tuple" → h'.get? b = some o) : IsRow h' v κ := by
  obtain ⟨a, b, o, t, u, n, i, j, itb, ns, e1, e2, e3, e4, ⟨o2, e5, e6, e7⟩, e8, e9⟩ := x
  exact ⟨a, b, o, t, u, n, i, j, itb, ns, e1, k _ _ e2 e3, e3, e4, ⟨o2, k _ _ e5 e6, e6, e7⟩, e8, e9⟩
theorem IsRow.uniq {h : Heap} {v : Value} {κ κ' : List Int} (x : IsRow h v κ) (y : IsRow h v κ') : κ = κ' := by
  obtain ⟨a, b, o, t, u, n, i, j, itb, ns, rfl, e2, e3, e4, ⟨o2, e5, e6, n2, e7⟩, e8, rfl⟩ := x
  obtain ⟨a', b', o', t', u', n', i', j', itb', ns', q1, q2, q3, q4, ⟨o2', q5, q6, n2', q7⟩, q8, rfl⟩ := y
  cases q1
  rw [e2] at q2
  cases q2
  rw [e4] at q4
  cases q4
  rw [e5] at q5
  cases q5
  rw [e7] at q7
  cases q7
  rw [← SrtO.iv_ints e8, ← SrtO.iv_ints q8]
section
variable {prog : Program} {w : World} {A : Around} {E : Value → Shared → Prop} {s : Shared}
open PySem.SeqAt
theorem eq_tupInts {l b : Addr} {items items2 : Array Value} {ns ms : List Int} (hl : s.heap.IsTuple l items) (hb : s.heap.IsTuple b items2) (hi : IntsAre items.toList ns) (hj : IntsAre items2.toList ms) (hu : A.units < cLine) : ∃ e, EqAt A s (.ref l) (.ref b) e ∧ (e = true → ns = ms) := by
  by_cases h : l = b
  · subst h
    refine ⟨true, .same _, fun _ => ?_⟩
    obtain ⟨o, h1, _, n, h2⟩ := hl
    obtain ⟨o', g1, _, n', g2⟩ := hb
    rw [h1] at g1
    cases g1
    rw [h2] at g2
    cases g2
    rw [← SrtO.iv_ints hi, ← SrtO.iv_ints hj]
  · have el : ∀ (xs : Array Value) (ns : List Int) (hx : IntsAre xs.toList ns) (j : Nat) (h1 : j < xs.size), ∃ t, xs[j] = .int (ns.getD j 0) t := fun xs ns hx j h1 => by
      obtain ⟨t, e⟩ := IntsAre.int_at hx j xs[j] (by rw [Array.getElem?_toList, Array.getElem?_eq_getElem h1])
      exact ⟨t, e⟩
    refine ⟨_, .of_refs h (.tuples hl hb hu (e := fun j => ns.getD j 0 == ms.getD j 0) fun j h1 h2 => ?_), fun z => ?_⟩
    · obtain ⟨t, e1⟩ := el items ns hi j h1
      obtain ⟨u, e2⟩ := el items2 ms hj j h2
      rw [e1, e2]
      exact EqAt.int_int _ t _ u
    · rw [Bool.and_eq_true] at z
      obtain ⟨z1, z2⟩ := z
      have l1 : items.size = ns.length := by rw [← hi.length]; simp
      have l2 : items2.size = ms.length := by rw [← hj.length]; simp
      have z2 : items.size = items2.size := by simpa using z2
      rw [z2, Nat.min_self] at z1
      apply List.ext_getElem?
      intro j
      by_cases hj : j < items2.size
      · have z3 := List.all_eq_true.mp z1 j (List.mem_range.mpr hj)
        have z4 : ns.getD j 0 = ms.getD j 0 := by simpa using z3
        have h1 : j < ns.length := by omega
        have h2 : j < ms.length := by omega
        rw [List.getElem?_eq_getElem h1, List.getElem?_eq_getElem h2]
        rw [List.getD_eq_getElem?_getD, List.getD_eq_getElem?_getD, List.getElem?_eq_getElem h1, List.getElem?_eq_getElem h2] at z4
        exact congrArg some z4
      · rw [List.getElem?_eq_none (by omega), List.getElem?_eq_none (by omega)]
theorem row_cmp {vs : List Value} {k : Value → List Int} (hu : A.units < cLine) (hv : ∀ v ∈ vs, IsRow s.heap v (k v)) : SrtO.Cmp prog w A s (tuples' true) (fun p => p.1 ∈ vs) (SrtO.lt2 fun v u => HT.lexLt (k v) (k u)) := by
  intro p q hm hm'
  obtain ⟨a, b, o, t, u, n, i, j, itb, ns, e, ho, hc, hd, hb, hi, ek⟩ := hv _ hm
  obtain ⟨a', b', o', t', u', n', i', j', itb', ns', e', ho', hc', hd', hb', hi', ek'⟩ := hv _ hm'
  show wpAny (model prog w) A (keyLt' (tuples' true) p.1 q.1) (fun r s' => s' = s ∧ r = HT.lexLt (k p.1) (k q.1)) (fun _ _ => False) s
  rw [ek, ek', e, e', HT.lexLt_cons, HT.lexLt_cons]
  refine PySem.W.kat_lt ho hd ho' hd' ?_
  show PySem.W.KatLex prog w A true (decide (3 < 3)) _ [(.int i t, .int i' t'), (.int j u, .int j' u'), (.ref b, .ref b')] 0 s
  refine PySem.W.kat_cons (SeqAt.EqAt.int_int i t i' t' prog w _ _ ?_)
  refine PySem.W.kat_go (fun e1 => ?_) (fun e1 => ?_)
  · have ex : i = i' := by simpa using e1
    rw [if_pos ex]
    refine PySem.W.kat_yes (PySem.W.kat_cons (SeqAt.EqAt.int_int j u j' u' prog w _ _ ?_))
    refine PySem.W.kat_go (fun e2 => ?_) (fun e2 => ?_)
    · have ey : j = j' := by simpa using e2
      rw [if_pos ey]
      obtain ⟨z, hz, hz2⟩ := eq_tupInts (A := A) (s := s) hb hb' hi hi' hu
      refine PySem.W.kat_yes (PySem.W.kat_cons (hz prog w _ _ ?_))
      refine PySem.W.kat_go (fun e3 => ?_) (fun e3 => ?_)
      · have en := hz2 e3
        refine PySem.W.kat_yes (PySem.W.kat_nil ⟨rfl, ?_⟩)
        rw [en]
        have irr : ∀ xs : List Int, HT.lexLt xs xs = false := fun xs => by
          induction xs with
          | nil => rfl
          | cons x xs ih => rw [HT.lexLt_cons, if_pos rfl]; exact ih
        rw [irr]
        rfl
      · exact PySem.W.kat_no (PySem.W.kat_one _ _ (HT.lt_tupInts hb hb' hi hi' hu (show PySem.W.BoolBack _ _ _ from ⟨rfl, rfl⟩)))
    · have ey : ¬ j = j' := by simpa using e2
      rw [if_neg ey]
      exact PySem.W.kat_no (PySem.W.kat_one _ _ (PyProof.Rows.lt_int (show PySem.W.BoolBack _ _ _ from ⟨rfl, rfl⟩)))
  · have ex : ¬ i = i' := by simpa using e1
    rw [if_neg ex]
    exact PySem.W.kat_no (oneLt_int ⟨rfl, rfl⟩)
theorem row_firsts {h : Heap} : ∀ {vs : List Value}, (∀ v ∈ vs, ∃ κ, IsRow h v κ) → ∃ fs : List Value, PySem.W.KatTups h vs fs ∧ fs.length = vs.length ∧ ∀ f ∈ fs, ∃ x t, f = Value.int x t
  | [], _ => ⟨[], PySem.W.KatTups.nil, rfl, fun _ hm => by simp at hm⟩
  | v :: vs, hp => by
    obtain ⟨fs, h1, h2, h3⟩ := row_firsts (vs := vs) fun v' hm => hp v' (List.mem_cons_of_mem _ hm)
    obtain ⟨κ, a, b, o, t, u, n, i, j, itb, ns, e, ho, hc, hd, _⟩ := hp v (List.mem_cons_self ..)
    subst e
    refine ⟨.int i t :: fs, PySem.W.KatTups.cons ho hc hd rfl h1, by rw [List.length_cons, List.length_cons, h2], fun f hm => ?_⟩
    rcases List.mem_cons.mp hm with rfl | hm
    · exact ⟨i, t, rfl⟩
    · exact h3 f hm
theorem row_sortable {a : Addr} {vs : List Value} {k : Value → List Int} (h0 : 0 < vs.length) (hu : A.units < cLine) (hv : ∀ v ∈ vs, IsRow s.heap v (k v)) (ha : ∀ o, s.heap.get? a = some o → o.cls ≠ .type "tuple") : SrtO.SortableO prog w A s a vs fun v u => HT.lexLt (k v) (k u) := by
  intro h' keep
  have hv' : ∀ v ∈ vs, IsRow h' v (k v) := fun v hm => (hv v hm).keeps fun b o e c => keep b o (fun z => by subst z; exact ha o e c) e
  obtain ⟨fs, h1, h2, h3⟩ := row_firsts fun v hm => ⟨_, hv' v hm⟩
  refine ⟨tuples' true, fun Q E hq => ?_, row_cmp (s := { s with heap := h' }) hu hv'⟩
  refine PySem.W.kat_kind (s := { s with heap := h' }) (T := .type "int") h1 (by omega) (fun f hm => ?_) (by rfl) ?_
  · obtain ⟨x, t, rfl⟩ := h3 f hm
    exact PySem.W.Looks.now
  · have e : (Value.type "int" != Value.type "tuple") = true := by first | decide +kernel | rfl | decide
    rw [e]
    exact hq
end
def toV : V → Value
  | .ref a => .ref a
  | _ => .none
theorem vals_toV : ∀ {xs : List V} {us : List Value}, Vals xs us → (∀ x ∈ xs, ∃ a, x = V.ref a) → us = xs.map toV
  | _, _, .nil, _ => rfl
  | x :: xs, _ :: us, .cons r t, h => by
    obtain ⟨a, e⟩ := h x List.mem_cons_self
    subst e
    cases r
    rw [List.map_cons, ← vals_toV t fun y hy => h y (List.mem_cons_of_mem _ hy)]
    rfl
theorem toV_vals : ∀ {xs : List V}, (∀ x ∈ xs, ∃ a, x = V.ref a) → Vals xs (xs.map toV)
  | [], _ => .nil
  | x :: xs, h => by
    obtain ⟨a, e⟩ := h x List.mem_cons_self
    subst e
    exact .cons (show RelV (.ref a) (.ref a) from rfl) (toV_vals fun y hy => h y (List.mem_cons_of_mem _ hy))
/-- what is sorted: rows of any number -/
def RowV (K : PySem.W.Frag) (H : Hp) (x : V) (r : Row) : Prop := ∃ t b, x = .ref t ∧ SqT K H t [.int r.1, .int r.2.1, .ref b] ∧ SqT K H b (r.2.2.map V.int)
theorem vals3 {x y z : V} {us : List Value} (r : Vals [x, y, z] us) : ∃ a b c, us = [a, b, c] ∧ RelV x a ∧ RelV y b ∧ RelV z c := by
  cases r with
  | cons r1 r2 =>
    cases r2 with
    | cons r2 r3 =>
      cases r3 with
      | cons r3 r4 =>
        cases r4
        exact ⟨_, _, _, rfl, r1, r2, r3⟩
def rSortRows (K : PySem.W.Frag) : List V → Hp → VK → Prop := fun vs H Q => ∃ (a : Addr) (zs : List (V × Row)), vs = [V.ref a] ∧ SqL K H a (zs.map (·.1)) ∧ (∀ z ∈ zs, RowV K H z.1 z.2) ∧
  ∀ (ys : List (V × Row)) (p : Addr), ys.Perm zs → ys.Pairwise (fun r q => HT.lexLt (keyR q.2) (keyR r.2) = false) → H p = none → Q (.ref p) (upd H p (.lst (ys.map (·.1))))
theorem rowV_is {X : Cx} {pins : List (Addr × Obj)} {σ : L2.St} {H : Hp} {s : Shared} {x : V} {r : Row} (I : Inv X pins σ H s) (h : RowV X.K H x r) : IsRow s.heap (toV x) (keyR r) := by
  obtain ⟨t, b, rfl, h1, h2⟩ := h
  obtain ⟨its, rv, ⟨o, ho, hc, n, hd⟩, _⟩ := I.tuple h1
  obtain ⟨itb, rvb, hb, _⟩ := I.tuple h2
  obtain ⟨u1, u2, u3, rfl, ⟨t1, rfl⟩, ⟨t2, rfl⟩, r3⟩ := vals3 rv
  cases r3
  exact ⟨t, b, o, t1, t2, n, _, _, itb.toArray, r.2.2, rfl, ho, hc, hd, hb, by simpa using rvb.ints, rfl⟩
theorem cr_sortRows {X : Cx} (K : PySem.W.Frag) (hu : X.A.units + 64 < cLine) (hK : X.K = K := by rfl) : CallR X (.builtin "sorted") (rSortRows K) := by
  subst hK
  intro pins s σ H vs us Q I r h
  obtain ⟨a, zs, rfl, hs, hz, q⟩ := h
  obtain ⟨its, rv, hl, hsz⟩ := I.list hs
  rw [Vals.ref1 r]
  have isr : ∀ x ∈ zs.map (·.1), ∃ b, x = V.ref b := fun x hx => by
    obtain ⟨z, h1, rfl⟩ := List.mem_map.mp hx
    obtain ⟨t, _, e, _⟩ := hz z h1
    exact ⟨t, e⟩
  have ei := vals_toV rv isr
  rw [List.map_map] at ei
  have hk : ∃ k : Value → List Int, ∀ z ∈ zs, k (toV z.1) = keyR z.2 := by
    classical
    refine ⟨fun v => if e : ∃ κ, IsRow s.heap v κ then Classical.choose e else [], fun z h1 => ?_⟩
    have h2 := rowV_is I (hz z h1)
    show (if e : ∃ κ, IsRow s.heap (toV z.1) κ then Classical.choose e else []) = keyR z.2
    rw [dif_pos ⟨_, h2⟩]
    exact (Classical.choose_spec (p := fun κ => IsRow s.heap (toV z.1) κ) ⟨_, h2⟩).uniq h2
  obtain ⟨k, hk⟩ := hk
  have hrow : ∀ v ∈ its, IsRow s.heap v (k v) := fun v hv => by
    rw [ei] at hv
    obtain ⟨z, h1, rfl⟩ := List.mem_map.mp hv
    show IsRow s.heap (toV z.1) (k (toV z.1))
    rw [hk z h1]
    exact rowV_is I (hz z h1)
  refine SrtO.sorted_ord (NtL.swo_lexL k) hl.isList (by rw [← rv.length]; exact hsz) (fun h2 h₁ a' ha' kk => ?_) fun out o1 o2 => ?_
  · refine row_sortable (s := { s with heap := h₁ }) (by omega) (by show X.A.units + 1 + 1 < cLine; omega) (fun v hv => (hrow v hv).keeps fun b o e _ => (kk b o e).2) fun o e c => ?_
    have e' : some o = some (seqObj "list" its.toArray 0) := e.symm.trans ha'
    cases e'
    exact absurd (Value.type.inj c) (by decide)
  · obtain ⟨ys, py, ey⟩ := perm_lift (fun z : V × Row => toV z.1) (m := out) (n := its) o2.perm zs ei.symm
    have mem : ∀ z ∈ ys, z ∈ zs := fun z h1 => py.mem_iff.mp h1
    obtain ⟨ep, he'⟩ := PyProof.Rows.sortedAll_at s.heap its out.toArray
    have iy : ∀ x ∈ ys.map (·.1), ∃ b, x = V.ref b := fun x hx => by
      obtain ⟨z, h1, rfl⟩ := List.mem_map.mp hx
      obtain ⟨t, _, e, _⟩ := hz z (mem z h1)
      exact ⟨t, e⟩
    have vy : Vals (ys.map (·.1)) out := by
      have z := toV_vals iy
      rw [List.map_map] at z
      rw [← ey]
      exact z
    have hlen : (ys.map (·.1)).length ≤ sizeLine := by
      rw [List.length_map, py.length_eq]
      rw [List.length_map] at hsz
      exact hsz
    refine ⟨.ref _, upd H (s.heap.objs.size + 1) (.lst (ys.map (·.1))), I.laid (t' := s.toks) (fun _ _ => PyProof.Rows.sortedAll_old) (Nat.le_succ _) ⟨hlen, out, ep, vy, he'⟩, rfl, q ys _ py ?_ (I.hok.fresh (Nat.le_succ _))⟩
    rw [← ey] at o1
    have o1 : (ys.map fun z : V × Row => toV z.1).Pairwise (fun x y => HT.lexLt (k y) (k x) = false) := o1
    rw [List.pairwise_map] at o1
    refine List.Pairwise.imp_of_mem (fun {x y} hx hy h => ?_) o1
    rw [hk x (mem x hx), hk y (mem y hy)] at h
    exact h
def sSortRows : SRC := fun vs m S => match vs with
  | [x] => ∃ rs : List Row, ItsL m x (rs.map rowS) ∧ ∀ (ys : List Row) (p : Addr), ys.Perm rs → ys.Pairwise (fun r q => HT.lexLt (keyR q) (keyR r) = false) → m p = none → S (.ref p) (up m p (.lst (ys.map rowS)))
  | _ => False
theorem vr_row {K : PySem.W.Frag} {F H : Hp} {m : Mem} (M : MR K F H m) {v : V} {r : Row} (h : VR K F v (rowS r)) : RowV K H v r := by
  cases h with
  | tup h1 h2 =>
    obtain ⟨u, v2, w2, rfl, r1, r2, r3⟩ := vrs_three h2
    obtain rfl := vr_int r1
    obtain rfl := vr_int r2
    cases r3 with
    | tup g1 g2 =>
      obtain rfl := vrs_ints g2
      exact ⟨_, _, rfl, sqt_sub M.sub h1, sqt_sub M.sub g1⟩
theorem vrs_zip {K : PySem.W.Frag} {F : Hp} {α : Type} {f : α → SV} : ∀ {vs : List V} {rs : List α}, VRs K F vs (rs.map f) → (vs.zip rs).map (·.1) = vs ∧ (vs.zip rs).map (·.2) = rs ∧ ∀ z ∈ vs.zip rs, VR K F z.1 (f z.2)
  | [], [], _ => ⟨rfl, rfl, fun _ h => nomatch h⟩
  | _ :: _, [], h => by cases h
  | [], _ :: _, h => by cases h
  | v :: vs, r :: rs, h => by
    rw [List.map_cons] at h
    cases h with
    | cons a b =>
      obtain ⟨h1, h2, h3⟩ := vrs_zip b
      rw [List.zip_cons_cons, List.map_cons, List.map_cons, h1, h2]
      refine ⟨rfl, rfl, fun z hz => ?_⟩
      rcases List.mem_cons.mp hz with rfl | hz
      · exact a
      · exact h3 z hz
theorem vrs_of {K : PySem.W.Frag} {F : Hp} {α : Type} {f : α → SV} : ∀ {zs : List (V × α)}, (∀ z ∈ zs, VR K F z.1 (f z.2)) → VRs K F (zs.map (·.1)) ((zs.map (·.2)).map f)
  | [], _ => .nil
  | z :: zs, h => .cons (h z List.mem_cons_self) (vrs_of fun y hy => h y (List.mem_cons_of_mem _ hy))
theorem sim_sortRows {K : PySem.W.Frag} : SimC K (rSortRows K) sSortRows := fun F H m xs as S Q M rs h c => by
  unfold sSortRows at h
  split at h
  · obtain ⟨rows, h1, q⟩ := h
    obtain ⟨v, rfl, rv⟩ := vrs_one rs
    obtain ⟨p, vs, rfl, hs, r2⟩ := its_lst M rv h1
    obtain ⟨e1, e2, e3⟩ := vrs_zip r2
    refine ⟨p, vs.zip rows, rfl, by rw [e1]; exact hs, fun z hz => vr_row M (e3 z hz), fun ys l py ps hl => ?_⟩
    have e4 : ∀ z ∈ ys, VR K F z.1 (rowS z.2) := fun z hz => e3 z (py.mem_iff.mp hz)
    refine c (.ref l) F _ _ _ (.refl F) (M.newL hl (vrs_of e4)) (.ref l) (q (ys.map (·.2)) l ?_ (List.pairwise_map.mpr ps) (M.gone hl))
    have z := py.map (·.2)
    rw [e2] at z
    exact z
  · exact h.elim
/-! ### sorted of ints, max of a list -/
def sSortInts : SRC := fun vs m S => match vs with
  | [x] => ∃ ns : List Int, ItsL m x (ns.map .int) ∧ ∀ p, m p = none → S (.ref p) (up m p (.lst ((srtI ns).map .int)))
  | _ => False
theorem cr_sortInts {X : Cx} (K : PySem.W.Frag) (hK : X.K = K := by rfl) : CallR X (.builtin "sorted") (rSortedI K) := by subst hK; exact cr_sortedI
theorem sim_sortInts {K : PySem.W.Frag} : SimC K (rSortedI K) sSortInts := fun F H m xs as S Q M rs h c => by
  unfold sSortInts at h
  split at h
  · obtain ⟨ns, h1, q⟩ := h
    obtain ⟨v, rfl, rv⟩ := vrs_one rs
    obtain ⟨p, vs, rfl, hs, r2⟩ := its_lst M rv h1
    obtain rfl := vrs_ints r2
    refine ⟨p, ns, rfl, hs, fun ys l h1 h2 hl => ?_⟩
    have e : ys = srtI ns := srt_uniq (h1.trans (srtI_perm ns).symm) h2 (srtI_pw ns)
    subst e
    exact c (.ref l) F _ _ _ (.refl F) (M.newL hl (vrs_of_ints _)) (.ref l) (q l (M.gone hl))
  · exact h.elim
def sMaxL : SRC := fun vs m S => match vs with
  | [x] => ∃ ns : List Int, ItsL m x (ns.map .int) ∧ 0 < ns.length ∧ ∀ y, y ∈ ns → (∀ z, z ∈ ns → z ≤ y) → S (.int y) m
  | _ => False
theorem cr_maxL {X : Cx} (K : PySem.W.Frag) (hc : X.calm = true := by rfl) (hK : X.K = K := by rfl) : CallR X (.builtin "max") (rMax K) := by subst hK; exact cr_max hc
theorem sim_maxL {K : PySem.W.Frag} : SimC K (rMax K) sMaxL := fun F H m xs as S Q M rs h c => by
  unfold sMaxL at h
  split at h
  · obtain ⟨ns, h1, h2, q⟩ := h
    obtain ⟨v, rfl, rv⟩ := vrs_one rs
    obtain ⟨p, vs, rfl, hs, r2⟩ := its_lst M rv h1
    obtain rfl := vrs_ints r2
    exact ⟨p, ns, rfl, hs, h2, fun y h3 h4 => c _ F H _ m (.refl F) M (.int y) (q y h3 h4)⟩
  · exact h.elim
end Sy

set_option Elab.async false
set_option linter.all false
set_option maxRecDepth 100000
set_option maxHeartbeats 4000000
/-! min(list of ints, default = None). -/
namespace Sy
open PySem PySem.Spec PyProof.Rows L2
section
variable {prog : Program} {w : World} {A : Around} {E : Value → Shared → Prop} {s : Shared}
/-- what the store of the best so far holds: nothing, or the least of the numbers that were seen -/
def BestSo (ns : List Int) (j : Nat) (its : Array Value) : Prop := (j = 0 ∧ its = #[]) ∨ ∃ x t, its = #[.int x t, .int x t] ∧ x ∈ ns.take j ∧ ∀ y ∈ ns.take j, x ≤ y
/-- the answer -/
def MinD (ns : List Int) (d v : Value) : Prop := (ns = [] ∧ v = d) ∨ ∃ x t, v = .int x t ∧ x ∈ ns ∧ ∀ y ∈ ns, x ≤ y
end
def rMinD (K : PySem.W.Frag) : List V → List V → Hp → VK → Prop := fun vs zs H Q => ∃ (a : Addr) (ns : List Int), vs = [V.ref a] ∧ zs = [.non] ∧ SqL K H a (ns.map V.int) ∧ (ns = [] → Q .non H) ∧ ∀ y, y ∈ ns → (∀ z, z ∈ ns → y ≤ z) → Q (.int y) H
def sCKw (r : List SV → List SV → Mem → (SV → Mem → Prop) → Prop) (t tk : SA) : SE := fun SX δ m S => t SX δ m fun vs m1 => tk SX δ m1 fun zs m2 => r vs zs m2 S
def sMinD : List SV → List SV → Mem → (SV → Mem → Prop) → Prop := fun vs zs m S => match vs, zs with
  | [x], [.non] => ∃ ns : List Int, ItsL m x (ns.map .int) ∧ (ns = [] → S .non m) ∧ ∀ y, y ∈ ns → (∀ z, z ∈ ns → y ≤ z) → S (.int y) m
  | _, _ => False
end Sy

set_option Elab.async false
set_option linter.all false
set_option maxRecDepth 100000
set_option maxHeartbeats 4000000
/-! enumerate of a tuple; dict of a tuple of pairs; an attribute among targets; isinstance of two kinds. -/
namespace Sy
open PySem PySem.Spec PyProof.Rows L2
/-! ### enumerate(tuple) -/
theorem enum_newT (l : Addr) (items : Array Value) (n : Nat) (dct : Option Addr) (sl : Array (Option Value)) :
    Meets (Builtin.«enumerate.__new__» ⟨[.type "enumerate", .ref l], []⟩) (fun _ R s => s.heap.get? l = some { cls := .type "tuple", dict := dct, data := .seq items n, slots := sl } ∧
      R (.ok (.ret (.ref (s.heap.push { cls := .type "tuple_iterator", data := .fields #[.ref l, .int 0 0] }).objs.size)))
        { s with heap := (s.heap.push { cls := .type "tuple_iterator", data := .fields #[.ref l, .int 0 0] }).push { cls := .type "enumerate", data := .fields #[.none, .bool false, .ref s.heap.objs.size, rawInt 0, .none, .none] } }) :=
  .of_wp fun prog w A R s h => by
    obtain ⟨hp, g, d, tk, os⟩ := s; obtain ⟨hl, h⟩ := h
    have hsub := sub_enumerate
    have hL : Heap.IsTuple (Shared.heap ⟨hp, g, d, tk, os⟩) l items := ⟨_, hl, rfl, n, rfl⟩
    have q1 : ∀ {A' : Around} {E : Value → Shared → Prop} {Q : Value → Shared → Prop}, Q (.ref hp.objs.size) ⟨hp.push { cls := .type "tuple_iterator", data := .fields #[.ref l, .int 0 0] }, g, d, tk, os⟩ → wpAny (model prog w) A' (pyIter (.ref l)) Q E ⟨hp, g, d, tk, os⟩ := fun q => wpAny_pyIter_tuple hL q
    wp_walk using AutoSeq1.wpAny_loadPart' hl, q1
    refine wpAny_stack_any fun st => wpAny_pure ?_
    split
    · rename_i c _ _ _ _ _
      cases (c == Value.type "enumerate")
      · wp_walk using q1
        exact ⟨_, rfl, h⟩
      · wp_walk using q1
        exact ⟨_, rfl, h⟩
    · wp_walk using q1
      exact ⟨_, rfl, h⟩
theorem call_enumT {prog : Program} {w : World} {A : Around} {E : Value → Shared → Prop} {s : Shared} {l : Addr} {items : Array Value} {Q : Value → Shared → Prop} (hL : s.heap.IsTuple l items)
    (h : ∀ h', IsEnum h' (s.heap.objs.size + 1) s.heap.objs.size ((0 : Nat) : Int) .none → h'.IsTupleIter s.heap.objs.size l 0 → (∀ b o, s.heap.get? b = some o → h'.get? b = some o) → Q (.ref (s.heap.objs.size + 1)) { s with heap := h' }) :
    wpAny (model prog w) A (call (.type "enumerate") [.ref l]) Q E s := by
  obtain ⟨⟨c, dct, dt, sl⟩, hl, hc, n, hd⟩ := hL
  replace hc : c = .type "tuple" := hc
  replace hd : dt = .seq items n := hd
  subst hc hd
  refine callType_new F.called_enumerate (by decide) (F.typeCall_enumerate_1 _) (F.newCall_enumerate_1 _) (fun obj => F.args_object_init_2 obj _) F.entry_enumerate_new (enum_newT l items n dct sl) ⟨hl, ?_⟩
  have hz : (s.heap.push { cls := .type "tuple_iterator", data := .fields #[.ref l, .int 0 0] }).objs.size = s.heap.objs.size + 1 := Heap.size_push ..
  show _ ∧ _
  rw [hz]
  have he : IsEnum ((s.heap.push { cls := .type "tuple_iterator", data := .fields #[.ref l, .int 0 0] }).push { cls := .type "enumerate", data := .fields #[.none, .bool false, .ref s.heap.objs.size, rawInt 0, .none, .none] }) (s.heap.objs.size + 1) s.heap.objs.size 0 .none := by
    have z := Heap.get?_push_size (s.heap.push { cls := .type "tuple_iterator", data := .fields #[.ref l, .int 0 0] }) (o := { cls := .type "enumerate", data := .fields #[.none, .bool false, .ref s.heap.objs.size, rawInt 0, .none, .none] }) rfl
    rw [hz] at z; exact z
  exact ⟨⟨_, he, rfl⟩, h _ he ⟨_, Heap.get?_push_of_some _ (Heap.get?_push_size _ rfl), rfl, rfl⟩ fun b o x => Heap.get?_push_of_some _ (Heap.get?_push_of_some _ x)⟩
def Itet (K : PySem.W.Frag) (a : Addr) : It :=
  ⟨fun i H => ∃ (xs : List V) (x : V), SqT K H a xs ∧ xs[i]? = some x, fun i H v H' => ∃ T x, v = .ref T ∧ H T = none ∧ H' = upd H T (.tup [.int (i : Nat), x]) ∧ ∀ xs, SqT K H a xs → xs[i]? = some x, fun i H => ∃ xs : List V, SqT K H a xs ∧ xs.length ≤ i⟩
theorem turn_enumT {P : Program} {w : World} {K : PySem.W.Frag} {elts : List Expr} {kk : Nat} {tpos : Pos} (a e it : Addr) :
    Turn P w K (.Tuple elts kk tpos) (Itet K a) [e, it] e (fun i h => (∃ old, IsEnum h e it ((i : Nat) : Int) old) ∧ h.IsTupleIter it a i ∧ e ≠ it) where
  mem := by simp
  obj := fun i h st b hb => by
    obtain ⟨⟨old, he⟩, ⟨o, ho, hc, hd⟩, _⟩ := st
    have e' : b = e ∨ b = it := by simpa using hb
    rcases e' with z | z
    · rw [z]; exact ⟨_, he, fun v q => nomatch q⟩
    · rw [z]; exact ⟨o, ho, fun v q => by rw [hd] at q; cases q⟩
  keep := fun i h h' st k => by
    obtain ⟨⟨old, he⟩, ⟨o, ho, hc, hd⟩, hne⟩ := st
    exact ⟨⟨old, k e (by simp) _ he⟩, ⟨o, k it (by simp) o ho, hc, hd⟩, hne⟩
  item := by
    intro X hP hw hK hc i pins s σ H E I hf st hg
    subst hP hw hK
    obtain ⟨⟨old, he⟩, hit, hne⟩ := st
    obtain ⟨xs, x, hq, hx⟩ := hg
    obtain ⟨its, rv, p, hz⟩ := I.tuple hq
    obtain ⟨u, hu, ru⟩ := rv.get hx
    have hel : e < s.heap.objs.size := Heap.lt_size he
    have hil : it < s.heap.objs.size := by obtain ⟨_, q, _⟩ := hit; exact Heap.lt_size q
    have pT : s.heap.IsTuple a its.toArray := p
    have hae : a ≠ e := fun z => by
      obtain ⟨o, ho, hc', _⟩ := pT
      rw [z] at ho
      have q : some _ = some o := (show s.heap.get? e = some _ from he).symm.trans ho
      cases q
      exact absurd (Value.type.inj hc') (by decide)
    have hai : a ≠ it := fun z => by
      obtain ⟨o, ho, hc', _⟩ := pT
      obtain ⟨o2, ho2, hc2, _⟩ := hit
      rw [z, ho2] at ho
      cases ho
      rw [hc2] at hc'
      exact absurd (Value.type.inj hc') (by decide)
    have hlt : i < its.length := (List.getElem?_eq_some_iff.mp hu).1
    refine wpAny_pyNext_enum_itemD (Draws.tuple (prog := X.prog) (w := X.w) (A := X.A.in1) (I.ok.hd hc) it a hai its.toArray) he ⟨hit, pT⟩ (by simpa using hlt) hne (by simpa using ⟨hne, Ne.symm hae⟩) fun x' h' tk hx' ho hst hT hsz hk => ?_
    obtain ⟨hit', pT'⟩ := hst
    have ex : x' = u := by
      have z : its[i]? = some x' := by simpa using hx'
      rw [hu] at z
      exact (Option.some.inj z).symm
    subst ex
    refine ⟨_, rfl, wpAny_letOwnedTupleGo_enum (s := { s with heap := h', toks := tk + 1 }) ho fun h'' he' sb => ?_⟩
    have hT2 : h''.get? s.heap.objs.size = some { cls := .type "tuple", data := .seq #[.int i tk, x'] } := (sb.2 _ (Nat.ne_of_gt hel)).trans hT
    have new : ObjOk X.prog X.w (upd H s.heap.objs.size (.tup [.int (i : Nat), x])) h'' s.heap.objs.size (.tup [.int (i : Nat), x]) :=
      ⟨by show 2 ≤ sizeLine; decide, [.int i tk, x'], .cons ⟨_, rfl⟩ (.cons ru .nil), ⟨_, hT2, rfl, _, rfl⟩⟩
    have I1 : Inv X pins σ (upd H s.heap.objs.size (.tup [.int (i : Nat), x])) { s with heap := h'', toks := tk + 1 } :=
      I.turnedNew (ch := [e, it]) (fun b ob hb q => (sb.2 b (fun z => hb (by simp [z]))).trans (hk b ob (fun z => hb (by simp [z])) (fun z => hb (by simp [z])) q)) hf (Nat.le_refl _) new
    refine ⟨.ref s.heap.objs.size, _, I1, rfl, ⟨_, x, rfl, I.hok.fresh (Nat.le_refl _), rfl, fun ys hy => by rw [I.tuple_inj hy hq]; exact hx⟩, ⟨⟨x', ?_⟩, ?_, hne⟩, fun b hb => ?_⟩
    · have e1 : ((i + 1 : Nat) : Int) = (i : Int) + 1 := by omega
      rw [e1]; exact he'
    · obtain ⟨o2, ho2, r2⟩ := hit'
      exact ⟨o2, (sb.2 it (Ne.symm hne)).trans ho2, r2⟩
    · have hb' : b < s.heap.objs.size := by
        have e' : b = e ∨ b = it := by simpa using hb
        rcases e' with z | z
        · rw [z]; exact hel
        · rw [z]; exact hil
      rw [upd_ne (Nat.ne_of_lt hb')]
      exact (hf b hb).1
  done := by
    intro X hP hw hK hc i pins s σ H E I hf st hg
    subst hP hw hK
    obtain ⟨⟨old, he⟩, hit, hne⟩ := st
    obtain ⟨xs, hq, hx⟩ := hg
    obtain ⟨its, rv, p, hz⟩ := I.tuple hq
    obtain ⟨f0, f1, f2, f3, f4, f5⟩ := hf it (by simp)
    have hl := rv.length
    show wpAny _ _ (pyNext (.ref e)) _ _ _
    unfold pyNext
    have hT : s.TypeIs (.ref e) "enumerate" := ⟨_, he, rfl⟩
    refine wpAny_bind (wpAny_attempt (wpAny_callSpecial?_slot (name := Str.ofString "__next__") hT F.slot_enumerate_next
      (wpAny_call_entry F.slot_enumerate_next hT F.entry_enumerate_next ?_ (F.args_enumerate_next_1 _))))
    show wpAny _ _ (field (.ref e) 2 >>= _) _ _ _
    refine wpAny_bind (wpAny_field he rfl (x := .ref it) rfl ?_)
    refine wpAny_bind (wpAny_nextOf_tuple_end (A := X.A.in1) (I.ok.hd hc) hit p (by rw [List.getElem?_toArray]; exact List.getElem?_eq_none (by omega)) fun h' x he' hx' => ?_)
    obtain ⟨o, ho, hc'⟩ := hx'
    refine wpAny_bind (wpAny_isInstance (T := "StopIteration") (b := true) ⟨o, ho, hc'⟩ isSubtype_stop ?_)
    exact wpAny_pure ⟨rfl, I.turned (t' := s.toks) (fun b o hb q => he' b o hb q) f0 f1 f3 f4 f5⟩
  self := fun A i s Q E st h => let ⟨⟨_, he⟩, _⟩ := st; wpAny_pyIter_enum he h
def iEnum2 (K : PySem.W.Frag) (ta : TA) : TI := fun σ H R => ta σ H fun vs H1 => ∃ a xs, vs = [.ref a] ∧ ((SqL K H1 a xs ∧ R (Ite K a) H1) ∨ (SqT K H1 a xs ∧ R (Itet K a) H1))
theorem pi_enum2 {X : Cx} {e : Expr} {ta : TA} {p pos tpos : Pos} {elts : List Expr} {kk : Nat} (hg : Gl X "enumerate") (hm : X.mg "enumerate" = none) (ha : PA X [e] ta) (hs : starEach [e] X.env = [(false, eval e X.env)] := by rfl) :
    PI X (.Tuple elts kk tpos) (.Call (.Name "enumerate" p) [e] [] pos) (iEnum2 X.K ta) := by
  refine ⟨fun pins s σ H R I h => ?_⟩
  refine Call_ (ld_blt I hg hm boot_enumerate (PyProof.Rows.callWith_type1 (thn (ha.run pos pins s σ H _ I h) fun us s1 ⟨vs, H1, I1, r1, q1⟩ => ?_) hs rfl))
  obtain ⟨a, xs, ex, hq⟩ := q1
  subst ex
  obtain rfl := Vals.ref1 r1
  have fp : ∀ b ∈ [s1.heap.objs.size + 1, s1.heap.objs.size], s1.heap.objs.size ≤ b := fun b hb => by
    have e' : b = s1.heap.objs.size + 1 ∨ b = s1.heap.objs.size := by simpa using hb
    rcases e' with z | z
    · rw [z]; exact Nat.le_add_right _ _
    · rw [z]; exact Nat.le_refl _
  rcases hq with ⟨hq, q⟩ | ⟨hq, q⟩
  · obtain ⟨its, rv, p', hz⟩ := I1.list hq
    refine call_enumerate_list p'.isList fun h' he hit hsz hk => wpAny_pyIter_enum he ?_
    exact ⟨s1.heap.objs.size + 1, [s1.heap.objs.size + 1, s1.heap.objs.size], _, _, H1, rfl, I1.kept (t' := s1.toks) hk, turn_enum a (s1.heap.objs.size + 1) s1.heap.objs.size, ⟨⟨.none, he⟩, hit, Nat.succ_ne_self _⟩, fun b hb => I1.fpOk (fp b hb) (I1.hok.fresh (fp b hb)), q⟩
  · obtain ⟨its, rv, p', hz⟩ := I1.tuple hq
    refine call_enumT (items := its.toArray) p' fun h' he hit hk => wpAny_pyIter_enum he ?_
    exact ⟨s1.heap.objs.size + 1, [s1.heap.objs.size + 1, s1.heap.objs.size], _, _, H1, rfl, I1.kept (t' := s1.toks) hk, turn_enumT a (s1.heap.objs.size + 1) s1.heap.objs.size, ⟨⟨.none, he⟩, hit, Nat.succ_ne_self _⟩, fun b hb => I1.fpOk (fp b hb) (I1.hok.fresh (fp b hb)), q⟩
theorem it_et {K : PySem.W.Frag} {F : Hp} {a : Addr} {ys : List SV} {keep : Mem → Prop} (h : ∀ F' H' m', Sub F F' → MR K F' H' m' → keep m' → ∃ vs, SqT K H' a vs ∧ VRs K F' vs ys) : ItOk K F (Itet K a) (enS 0 ys) keep where
  go := fun i F' H' m' x s M k e => by
    obtain ⟨vs, h1, h2⟩ := h F' H' m' s M k
    obtain ⟨z, hz, rfl⟩ := enS_get _ _ _ _ e
    obtain ⟨v, hv, rv⟩ := vrs_get h2 hz
    refine ⟨⟨vs, v, h1, hv⟩, fun w H'' hy => ?_⟩
    obtain ⟨T, y, rfl, hT, rfl, hy⟩ := hy
    have q := hy vs h1
    rw [hv] at q
    cases q
    refine ⟨upd F' T _, Sub.new (M.sub.gone hT), M.frz hT, .tup (.inl (.inl upd_same)) (.cons ?_ (.cons (vr_sub (Sub.new (M.sub.gone hT)) rv) .nil))⟩
    have e0 : (0 : Int) + (i : Nat) = (i : Nat) := by omega
    rw [e0]
    exact .int _
  stop := fun F' H' m' s M k => by
    obtain ⟨vs, h1, h2⟩ := h F' H' m' s M k
    exact ⟨vs, h1, by rw [enS_len, vrs_length h2]; exact Nat.le_refl _⟩
def sEnumI2 (a : SA) : SI := fun SX δ m R => a SX δ m fun xs m1 => match xs with
  | [x] => ∃ ys, Its m1 x ys ∧ R (enS 0 ys) (keepOf x ys) m1
  | _ => False
theorem gi_enumerate2 {K : PySem.W.Frag} {E : XK} {X : Cx} {e : Expr} {p pos tpos : Pos} {elts : List Expr} {kk : Nat} {t : TA} {s : SA} (hg : Gl X "enumerate") (hm : X.mg "enumerate" = none) (ha : GA K E X [e] t s) (hs : starEach [e] X.env = [(false, eval e X.env)] := by rfl) (hK : X.K = K := by rfl) : GI K E X (.Tuple elts kk tpos) (.Call (.Name "enumerate" p) [e] [] pos) (iEnum2 K t) (sEnumI2 s) := by
  subst hK
  exact ⟨pi_enum2 hg hm ha.pe hs, fun σ F H δ m SX R R' r hh c => ha.sim σ F H δ m SX _ _ r hh fun v F1 H1 sv m1 s1 M1 v1 h1 => by
    obtain ⟨x, rfl, ys, hi, q⟩ := one_any h1
    obtain ⟨w, rfl, rw_⟩ := vrs_one v1
    cases rw_ with
    | tup g1 g2 =>
      cases (show ys = _ from hi)
      exact ⟨_, _, rfl, .inr ⟨sqt_sub M1.sub g1, c _ _ _ F1 H1 m1 s1 M1 (it_et fun F2 H2 m2 s2 M2 _ => ⟨_, sqt_sub (s2.trans M2.sub) g1, vrs_sub s2 g2⟩) q⟩⟩
    | ptup g1 _ g2 =>
      cases (show ys = _ from hi)
      exact ⟨_, _, rfl, .inr ⟨.inl (.inr ⟨_, M1.sub _ _ g1⟩), c _ _ _ F1 H1 m1 s1 M1 (it_et fun F2 H2 m2 s2 M2 _ => ⟨_, .inl (.inr ⟨_, (s2.trans M2.sub) _ _ g1⟩), vrs_sub s2 g2⟩) q⟩⟩
    | lst g1 g2 =>
      cases (show ys = _ from hi)
      exact ⟨_, _, rfl, .inl ⟨sql_sub M1.sub g1, c _ _ _ F1 H1 m1 s1 M1 (it_e fun F2 H2 m2 s2 M2 _ => ⟨_, sql_sub (s2.trans M2.sub) g1, vrs_sub s2 g2⟩) q⟩⟩
    | ref b =>
      obtain ⟨vs, e1, _⟩ := M1.lst_ (show m1 b = some (.lst ys) from hi)
      exact ⟨_, _, rfl, .inl ⟨.inl (.inl e1), c _ _ _ F1 H1 m1 s1 M1 (it_e fun F2 H2 m2 s2 M2 k => by
        obtain ⟨ws, e2, r2⟩ := M2.lst_ (show m2 b = some (.lst ys) from k)
        exact ⟨ws, .inl (.inl e2), r2⟩) q⟩⟩
    | _ => exact (show False from hi).elim⟩
/-! ### a tuple made of a list, its object known; dict of such -/
def rTupP (K : PySem.W.Frag) : List V → Hp → VK → Prop := fun xs H Q => ∃ (p : Addr) (ys : List V), xs = [.ref p] ∧ SqL K H p ys ∧ ∀ (l : Addr) (o : Obj), H l = none → o.dict = none → Q (.ref l) (upd H l (.frz o (.tup ys)))
theorem cr_tupP {X : Cx} (K : PySem.W.Frag) (hK : X.K = K := by rfl) : CallR X (.type "tuple") (rTupP K) := by
  subst hK
  intro pins s σ H xs us Q I r h
  obtain ⟨p, ys, rfl, hq, q⟩ := h
  obtain rfl := Vals.ref1 r
  obtain ⟨its, r', pl, hz⟩ := I.list hq
  have hlen := r'.length
  refine call_tuple_list pl.isList (fun h' kp => ?_) (by simp only [List.size_toArray] <;> omega)
  have I1 : Inv X pins σ H { s with heap := h' } := I.kept (t' := s.toks) kp
  have I2 : Inv X pins σ (upd H h'.objs.size (.frz { cls := .type "tuple", data := .seq its.toArray } (.tup ys))) { s with heap := h'.push { cls := .type "tuple", data := .seq its.toArray } } :=
    I1.laid (t' := s.toks) (fun b o e => Heap.get?_push_of_some _ e) (Nat.le_refl _) (show ObjOk X.prog X.w _ _ _ (.frz _ (.tup ys)) from ⟨Heap.get?_push_size _ rfl, hz, its, r', IsTup.new _ _⟩)
  exact ⟨.ref h'.objs.size, _, I2, rfl, q _ _ (I1.hok.fresh (Nat.le_refl _)) rfl⟩
def sTupP : SRC := fun vs m S => match vs with
  | [x] => ∃ ys, ItsL m x ys ∧ S (.ptup ys) m
  | _ => False
theorem sim_tupP {K : PySem.W.Frag} : SimC K (rTupP K) sTupP := fun F H m xs as S Q M rs h c => by
  unfold sTupP at h
  split at h
  · obtain ⟨ys, h1, q⟩ := h
    obtain ⟨v, rfl, rv⟩ := vrs_one rs
    obtain ⟨p, vs, rfl, hs, r2⟩ := its_lst M rv h1
    exact ⟨p, vs, rfl, hs, fun l o hl ho => c (.ref l) (upd F l _) _ _ m (Sub.new (M.sub.gone hl)) (M.frz hl) (.ptup upd_same ho (vrs_sub (Sub.new (M.sub.gone hl)) r2)) q⟩
  · exact h.elim
/-- dict(t) of such a tuple of pairs -/
def rDictP (K : PySem.W.Frag) : List V → Hp → VK → Prop := fun xs H Q => ∃ (a : Addr) (o : Obj) (ps : List Addr) (kvs : List (Key × V)), xs = [.ref a] ∧ H a = some (.frz o (.tup (ps.map V.ref))) ∧ o.dict = none ∧ Paired (fun p kv => SqT K H p [kV kv.1, kv.2]) ps kvs ∧
  ∀ p, H p = none → Q (.ref p) (upd H p (.dK (mergeK [] kvs)))
theorem cr_dictP {X : Cx} (K : PySem.W.Frag) (hcalm : X.calm = true := by rfl) (hK : X.K = K := by rfl) : CallR X (.type "dict") (rDictP K) := by
  subst hK
  intro pins s σ H xs us Q I r q
  obtain ⟨a, o, ps, kvs, ex, hq, hd, hp, q⟩ := q
  subst ex
  obtain rfl := Vals.ref1 r
  obtain ⟨ho, hz, its, rv, o2, ho2, hc, n, hdat⟩ := I.hok a _ hq
  rw [ho] at ho2
  cases ho2
  have ei := refs_at rv
  subst ei
  rw [List.length_map] at hz
  obtain ⟨prs, rel, hl, hpr⟩ := pairs_of I hp
  -- the keys as they stand
  have hk : ∃ us : List Value, us.length = prs.length ∧ ∀ (j : Nat) (q : Key × Value), prs[j]? = some q → ∃ (b : Addr) (u : Value), ps[j]? = some b ∧ us[j]? = some u ∧ IsTup s.heap b #[u, q.2] ∧ keyIs q.1 u = true := by
    refine ⟨(List.range prs.length).map fun j => match s.heap.get? (ps.getD j 0) with | some o => (match o.data with | .seq xs _ => xs.getD 0 .none | _ => .none) | none => .none, by simp, fun j q' e => ?_⟩
    obtain ⟨b, u, e1, e2, e3⟩ := hpr j q' e
    refine ⟨b, u, e1, ?_, e2, e3⟩
    have hj : j < prs.length := (List.getElem?_eq_some_iff.mp e).1
    rw [List.getElem?_map, List.getElem?_range hj, Option.map_some]
    obtain ⟨ob, h1, _, k, h2⟩ := e2
    have e4 : ps.getD j 0 = b := by rw [List.getD_eq_getElem?_getD, e1]; rfl
    simp only [e4, h1, h2]
    rfl
  obtain ⟨us, hus, hk⟩ := hk
  have lz : (us.zip (prs.map (·.2))).length = prs.length := by rw [List.length_zip, List.length_map, hus, Nat.min_self]
  have zat : ∀ (j : Nat) (k v : Value), (us.zip (prs.map (·.2)))[j]? = some (k, v) → ∃ q : Key × Value, prs[j]? = some q ∧ us[j]? = some k ∧ v = q.2 := fun j k v e => by
    obtain ⟨e1, e2⟩ := List.getElem?_zip_eq_some.mp e
    rw [List.getElem?_map, Option.map_eq_some_iff] at e2
    obtain ⟨q', e3, e4⟩ := e2
    exact ⟨q', e3, e1, e4.symm⟩
  refine PySem.call_dict_pairs (knd := mixKind X.prog X.w) (kvs := prs) (PySem.PairArg.tuple (prog := X.prog) (w := X.w) a (ps.map Value.ref).toArray (fun j => ps.getD j 0) (us.zip (prs.map (·.2)))) (I.ok.hd hcalm) ⟨⟨o, n, ho, hc, hd, hdat⟩, by rw [lz, List.size_toArray, List.length_map, hl], fun j k v e => ?_⟩ ⟨lz.symm, fun j k v e => ?_⟩ (by rw [lz, hl]; exact hz) fun h' tk hd' k => ?_
  · obtain ⟨q', e1, e2, rfl⟩ := zat j k v e
    obtain ⟨b, u, e3, e4, e5, e6⟩ := hk j q' e1
    rw [e2] at e4
    cases e4
    have e7 : ps.getD j 0 = b := by rw [List.getD_eq_getElem?_getD, e3]; rfl
    refine ⟨?_, .inl ?_⟩
    · show ((ps.map Value.ref).toArray)[j]? = some (Value.ref (ps.getD j 0))
      rw [e7, List.getElem?_toArray, List.getElem?_map, e3]
      rfl
    · show PySem.Heap.IsTuple s.heap (ps.getD j 0) #[k, q'.2]
      rw [e7]
      exact e5
  · obtain ⟨q', e1, e2, rfl⟩ := zat j k v e
    obtain ⟨b, u, e3, e4, e5, e6⟩ := hk j q' e1
    rw [e2] at e4
    cases e4
    exact ⟨q'.1, e1, e6⟩
  · have hm : (s.heap.objs.size == sysModules) = false := beq_eq_false_iff_ne.mpr (Nat.ne_of_gt I.big)
    have hlen : (mergeK [] kvs).length ≤ sizeLine := by
      refine Nat.le_trans (length_mergeK kvs []) ?_
      rw [List.length_nil, Nat.zero_add, rel.length, hl]
      exact hz
    exact ⟨.ref s.heap.objs.size, upd H s.heap.objs.size (.dK (mergeK [] kvs)), I.laid (t' := tk) (fun b o e => k b o (fun z => nomatch z) e) (Nat.le_refl _) (show ObjOk X.prog X.w _ _ _ (.dK (mergeK [] kvs)) from ⟨hlen, hm, merged [] prs, KV.merge rel .nil, hd'⟩), rfl, q _ (I.hok.fresh (Nat.le_refl _))⟩
end Sy

set_option Elab.async false
set_option linter.all false
set_option maxRecDepth 100000
set_option maxHeartbeats 4000000
/-! dict of a plain tuple; an attribute among targets; isinstance of two kinds; a call with keywords; tuples of tuples. -/
namespace Sy
open PySem PySem.Spec PyProof.Rows L2
def pairS (q : Key × SV) : SV := .tup [kS q.1, q.2]
theorem pairs_paired {K : PySem.W.Frag} {F H : Hp} {m : Mem} (M : MR K F H m) : ∀ {vs : List V} {kvs : List (Key × SV)}, VRs K F vs (kvs.map pairS) → ∃ (ps : List Addr) (us : List (Key × V)), vs = ps.map V.ref ∧ Paired (fun p kv => SqT K H p [kV kv.1, kv.2]) ps us ∧ KR K F us kvs
  | [], [], _ => ⟨[], [], rfl, .nil, .nil⟩
  | _ :: _, [], h => by cases h
  | [], _ :: _, h => by cases h
  | v :: vs, q :: kvs, h => by
    rw [List.map_cons] at h
    cases h with
    | cons a b =>
      obtain ⟨ps, us, rfl, h2, h3⟩ := pairs_paired M b
      cases a with
      | tup g1 g2 =>
        obtain ⟨x, y, rfl, r1, r2⟩ := vrs_two g2
        obtain rfl := kS_V r1
        exact ⟨_ :: ps, (q.1, y) :: us, rfl, .cons (sqt_sub M.sub g1) h2, .cons r2 h3⟩
def sDictP : SRC := fun vs m S => match vs with
  | [.ptup xs] => ∃ kvs : List (Key × SV), xs = kvs.map pairS ∧ ∀ p, m p = none → S (.ref p) (up m p (.dK (mergeS [] kvs)))
  | _ => False
theorem sim_dictP {K : PySem.W.Frag} : SimC K (rDictP K) sDictP := fun F H m xs as S Q M rs h c => by
  unfold sDictP at h
  split at h
  · obtain ⟨kvs, rfl, q⟩ := h
    obtain ⟨v, rfl, rv⟩ := vrs_one rs
    cases rv with
    | ptup g1 g2 g3 =>
      obtain ⟨ps, us, rfl, h2, h3⟩ := pairs_paired M g3
      exact ⟨_, _, ps, us, rfl, M.sub _ _ g1, g2, h2, fun p hp => c (.ref p) F _ _ _ (.refl F) (M.newD hp (kr_merge h3 .nil)) (.ref p) (q p (M.gone hp))⟩
  · exact h.elim
/-! ### o.x among the targets of an unpacking -/
def gFld (K : PySem.W.Frag) (ta : TE) (x : Str) : TG := fun v σ H Q => ta σ H fun y H1 => ∃ a C dx fs, y = .ref a ∧ H1 a = some (.ins C dx fs) ∧ Cls K C ∧ NoAttr K C x ∧ fs.length < 1000 ∧ Q σ (upd H1 a (.ins C dx (putF x v fs)))
theorem pg_fld {X : Cx} {o : Expr} {ta : TE} {x : Str} {pos : Pos} (ha : PE X o ta) : PG X (.Attribute o x pos) (gFld X.K ta x) := by
  refine ⟨fun pins s σ H v u Q I r h => ?_⟩
  rw [assign_Attribute]
  refine wpAny_bind (wpAny_holding (thn (ha.run pins s σ H _ I h) fun ov s1 ⟨y, H1, I1, r1, a, C, dx, fs, ey, ea, c, n, l, q⟩ => ?_))
  subst ey
  obtain rfl : ov = Value.ref a := r1
  exact wpAny_bind (wpAny_standAt (wpAny_bind (wpAny_holding (setattr_ok I1 ea c n l r fun s3 I3 => wpAny_release ⟨σ, _, I3, q⟩))))
def hFld (C : Addr) (x : Str) (a : SE) : SG := fun SX v δ m S => a SX δ m fun y m1 => match y with
  | .ref p => ∃ fs, m1 p = some (.ins C fs) ∧ fs.length < 1000 ∧ S δ (up m1 p (.ins C (putS x v fs)))
  | _ => False
theorem gg_fld {K : PySem.W.Frag} {E : XK} {X : Cx} {o : Expr} {ta : TE} {sa : SE} {C : Addr} {x : Str} {pos : Pos} (c : Cls K C) (na : NoAttr K C x) (ha : GE K E X o ta sa) (hK : X.K = K := by rfl) : GG K E X (.Attribute o x pos) (gFld K ta x) (hFld C x sa) := by
  subst hK
  exact ⟨pg_fld ha.pe, fun σ F H δ m SX v sv S Q r rv h cc => ha.sim σ F H δ m SX _ _ r h fun y F1 H1 sy m1 s1 M1 v1 h1 => by
    cases v1 <;> first
      | exact (show False from h1).elim
      | skip
    obtain ⟨fs, e1, e2, q⟩ := (show ∃ fs, _ from h1)
    obtain ⟨dx, us, g1, g2, g3, g4, g5⟩ := (M1.at_ _ _ e1).2
    exact ⟨_, C, dx, us, rfl, g1, c, na, by rw [kr_length g5]; exact e2, cc σ δ F1 _ _ s1 (r.sr.sub s1) (M1.setF e1 g1 g2 g3 g4 (kr_putF (vr_sub s1 rv) g5)) q⟩⟩
/-! ### isinstance(x, (A, B)) -/
def tIsi2 (K : PySem.W.Frag) (te : TE) (A B : String) : TE := fun σ H Q => te σ H fun x H1 => ∀ p, H1 p = none → ∃ (t : Value) (b : Bool), TyX K (upd H1 p (.tup [.ty A, .ty B])) x t ∧ PySem.W.kitAny K t [.type A, .type B] = some b ∧ Q (.bl b) (upd H1 p (.tup [.ty A, .ty B]))
def sIsi2 (A B : String) (a : SE) : SE := fun SX δ m S => a SX δ m fun x m1 => A ∈ ["bool", "int", "str", "list", "tuple"] ∧ B ∈ ["bool", "int", "str", "list", "tuple"] ∧ ∃ t, tyS m1 x t ∧ S (.bl (isB t A || isB t B)) m1
theorem ge_isi2 {K : PySem.W.Frag} {E : XK} {X : Cx} {e : Expr} {te : TE} {se : SE} {p p2 p3 p4 pos : Pos} {kk : Nat} {A B : Str} (hg : Gl X "isinstance") (hm : X.mg "isinstance" = none) (he : GE K E X e te se) (hgA : Gl X A) (hmA : X.mg A = none) (hgB : Gl X B) (hmB : X.mg B = none) {tA tB : String} (hvA : bootBuiltins A = some (.type tA)) (hvB : bootBuiltins B = some (.type tB))
    (nA : A ≠ "__name__" := by decide) (nB : B ≠ "__name__" := by decide) (dA : (A == ("__debug__" : Str)) = false := by decide) (dB : (B == ("__debug__" : Str)) = false := by decide)
    (hs1 : starEach [e, .Tuple [.Name A p2, .Name B p3] kk p4] X.env = (false, eval e X.env) :: starEach [.Tuple [.Name A p2, .Name B p3] kk p4] X.env := by rfl) (hs2 : starEach [Expr.Tuple [.Name A p2, .Name B p3] kk p4] X.env = (false, eval (.Tuple [.Name A p2, .Name B p3] kk p4) X.env) :: starEach [] X.env := by rfl)
    (hs3 : starEach [Expr.Name A p2, .Name B p3] X.env = (false, eval (.Name A p2) X.env) :: starEach [.Name B p3] X.env := by rfl) (hs4 : starEach [Expr.Name B p3] X.env = (false, eval (.Name B p3) X.env) :: starEach [] X.env := by rfl)
    (hpl : (backTo pos (starEach [Expr.Tuple [.Name A p2, .Name B p3] kk p4] X.env)).any (·.1) = false := by rfl) (hK : X.K = K := by rfl) :
    GE K E X (.Call (.Name "isinstance" p) [e, .Tuple [.Name A p2, .Name B p3] kk p4] [] pos) (tCB (rIsiT K) (tCons te (tCons (tTup (tCons (tC (.ty tA)) (tCons (tC (.ty tB)) tNil))) tNil))) (sIsi2 tA tB se) := by
  subst hK
  refine ⟨pe_callB call_isiT hg hm (by decide +kernel) (pa_cons he.pe (pa_cons (pe_tup (pa_cons (pe_bltn (v := .ty tA) hgA hmA hvA rfl nA dA) (pa_cons (pe_bltn (v := .ty tB) hgB hmB hvB rfl nB dB) pa_nil hs4) hs3)) pa_nil hs2) hs1) (by decide) (by decide) hs1 hpl, fun σ F H δ m SX S Q r h c => he.sim σ F H δ m SX _ _ r h fun v F1 H1 sv m1 s1 M1 v1 h1 => ?_⟩
  obtain ⟨hA, hB, t, ht, q⟩ := h1
  refine ⟨show 2 ≤ sizeLine by decide, fun b hb => ?_⟩
  have s2 : Sub F1 (upd F1 b (.tup [.ty tA, .ty tB])) := Sub.new (M1.sub.gone hb)
  have M2 := M1.frz (ho := .tup [.ty tA, .ty tB]) hb
  refine ⟨v, b, _, .type t, [.type tA, .type tB], isB t tA || isB t tB, rfl, upd_same, .cons (.ty _) (.cons (.ty _) .nil), tyx_ok M2 (vr_sub s2 v1) ht, ?_, c _ _ _ _ m1 (s1.trans s2) M2 (.bl _) q⟩
  refine kitAny_cons (b := isB t tA) (kit_ty (kit_tab _ (tyS_mem ht) _ hA)) (fun e => ?_) fun e => by rw [e]; rfl
  rw [e, Bool.false_or]
  refine kitAny_cons (b := isB t tB) (kit_ty (kit_tab _ (tyS_mem ht) _ hB)) (fun e => ?_) fun e => e
  rw [e]
  rfl
/-! ### f(e, .., k = v, ..) -/
def sCallN (n m : Nat) (sp : SpS) (gS : List SV → List SV → List SV) (t tk : SA) : SE := fun SX δ m0 S => t SX δ m0 fun vs m1 => tk SX δ m1 fun zs m2 => vs.length = n ∧ zs.length = m ∧ sp (gS vs zs) m2 SX S
theorem ge_callN {K : PySem.W.Frag} {E : XK} {X : Cx} {CX : CXT} {k n : Nat} {f : Addr} {fd : FuncData} {ps ks : List Str} {sp : SpS} {x : Str} {p pos : Pos} {e : Expr} {es : List Expr} {kws : List Keyword} {t tk : TA} {s sk : SA} {g : List Value → List Value → List Value} {gV : List V → List V → List V} {gS : List SV → List SV → List SV} (F : FnOk X.prog X.w X.K X.mg X.base CX k f fd ps (lift K sp)) (hr : Room k X.A) (hg : Gl X x) (hm : X.mg x = some (.ref f)) (hk : PySem.W.keepIn X.K (.ref f) = true) (hb : KBn X.K fd ps n ks g gV) (hx : Passes CX X E)
    (hgS : ∀ F vs zs svs szs, VRs K F vs svs → VRs K F zs szs → VRs K F (gV vs zs) (gS svs szs)) (ha : GA K E X (e :: es) t s) (hkw : GK K E X kws tk sk) (hall : (backToKw pos (keywordEach kws X.env)).all (·.1.isSome) = true := by rfl) (hks : (backToKw pos (keywordEach kws X.env)).filterMap (·.1) = ks := by rfl)
    (hdb : (x == ("__debug__" : Str)) = false := by decide) (he : starEach (e :: es) X.env = (false, eval e X.env) :: starEach es X.env := by rfl)
    (hpl : ((backTo pos (starEach (e :: es) X.env)).any (·.1) || (backToKw pos (keywordEach kws X.env)).any (·.1.isNone)) = false := by rfl) :
    GE K E X (.Call (.Name x p) (e :: es) kws pos) (tCallN n ks.length (lift K sp) gV E t tk) (sCallN n ks.length sp gS s sk) := ⟨pe_callN F hr hg hm hk hb hx ha.pe hkw.pe hall hks hdb he hpl, fun σ F H δ m SX S Q r h c =>
  ha.sim σ F H δ m SX _ _ r h fun vs F1 H1 svs m1 s1 M1 v1 h1 => hkw.sim σ F1 H1 δ m1 SX _ _ (r.go s1 M1) h1 fun zs F2 H2 szs m2 s2 M2 v2 h2 => by
    obtain ⟨l1, l2, q⟩ := h2
    have s12 := s1.trans s2
    exact ⟨by rw [vrs_length v1]; exact l1, by rw [vrs_length v2]; exact l2, F2, _, m2, SX, S, M2, hgS F2 _ _ _ _ (vrs_sub s2 v1) v2, q, r.ex.go s12, c.go s12⟩⟩
/-- the default of a keyword-only parameter, if it is an object -/
def kwAt (f x : Str) (K : PySem.W.Frag) : Addr := match K.lookup (He.ga K f) with
  | some ⟨_, _, .func fd, _⟩ => (match fd.kwdefaults with
    | .ref D => (match PySem.W.nsIn K D x with
      | some (some (.ref a)) => a
      | _ => 0)
    | _ => 0)
  | _ => 0
/-- the empty tuple of the module -/
def EmptyT (K : PySem.W.Frag) (a : Addr) : Prop := ∃ (o : Obj) (n : Nat), K.lookup a = some o ∧ o.cls = .type "tuple" ∧ o.data = .seq #[] n
def emB (K : PySem.W.Frag) (a : Addr) : Bool := match K.lookup a with
  | some ⟨.type c, _, .seq its _, _⟩ => decide (c = "tuple") && decide (its = #[])
  | _ => false
theorem emB_ok {K : PySem.W.Frag} {a : Addr} (h : emB K a = true) : EmptyT K a := by
  unfold emB at h
  cases q : K.lookup a with
  | none => rw [q] at h; cases h
  | some o =>
    obtain ⟨oc, od, dt, osl⟩ := o
    rw [q] at h
    cases oc with
    | type c =>
      cases dt with
      | seq its n =>
        obtain ⟨h1, h2⟩ := He.ba (show (decide (c = "tuple") && decide (its = #[])) = true from h)
        have e1 := of_decide_eq_true h1
        have e2 := of_decide_eq_true h2
        subst e1 e2
        exact ⟨_, n, q, rfl, rfl⟩
      | _ => cases h
    | _ => cases dt <;> cases h
theorem emptyT_vr {K : PySem.W.Frag} {F : Hp} {a : Addr} (h : EmptyT K a) : VR K F (.ref a) (.tup []) := by
  obtain ⟨o, n, h1, h2, h3⟩ := h
  exact .tup (vs := []) (.inr ⟨o, #[], n, h1, h2, h3, by decide, .nil⟩) .nil
/-! ### plain tuples are tuples -/
mutual
inductive Wk : SV → SV → Prop
  | refl (x : SV) : Wk x x
  | tup {xs ys : List SV} : Wks xs ys → Wk (.tup xs) (.tup ys)
  | ptup {xs ys : List SV} : Wks xs ys → Wk (.ptup xs) (.tup ys)
inductive Wks : List SV → List SV → Prop
  | nil : Wks [] []
  | cons {x y : SV} {xs ys : List SV} : Wk x y → Wks xs ys → Wks (x :: xs) (y :: ys)
end
theorem Wks.same : ∀ xs : List SV, Wks xs xs
  | [] => .nil
  | x :: xs => .cons (.refl x) (Wks.same xs)
theorem Wks.map {α : Type} {f g : α → SV} (h : ∀ a, Wk (f a) (g a)) : ∀ xs : List α, Wks (xs.map f) (xs.map g)
  | [] => .nil
  | x :: xs => .cons (h x) (Wks.map h xs)
mutual
theorem vr_wk {K : PySem.W.Frag} {F : Hp} : ∀ {v : V} {x y : SV}, Wk x y → VR K F v x → VR K F v y
  | _, _, _, .refl _, h => h
  | _, _, _, .tup a, .tup g r => .tup g (vrs_wk a r)
  | _, _, _, .ptup a, .ptup g _ r => .tup (.inl (.inr ⟨_, g⟩)) (vrs_wk a r)
theorem vrs_wk {K : PySem.W.Frag} {F : Hp} : ∀ {vs : List V} {xs ys : List SV}, Wks xs ys → VRs K F vs xs → VRs K F vs ys
  | _, _, _, .nil, h => h
  | _, _, _, .cons a b, .cons r t => .cons (vr_wk a r) (vrs_wk b t)
end
section
variable {P : Program} {w : World} {K : PySem.W.Frag} {mg : Str → Option Value} {base : Heap} {CX : CXT} {k : Nat} {f : Addr} {fd : FuncData} {ps : List Str} {sp sp' : SpS}
theorem fn_wk (F : FnOk P w K mg base CX k f fd ps (lift K sp)) (h : ∀ vs m SX S, sp' vs m SX S → ∃ ws, Wks vs ws ∧ sp ws m SX S) : FnOk P w K mg base CX k f fd ps (lift K sp') := by
  have key : ∀ vs H Q E, lift K sp' vs H Q E → lift K sp vs H Q E := fun vs H Q E ⟨F0, svs, m, SX, S, M, r, hs, x, c⟩ => by
    obtain ⟨ws, h1, h2⟩ := h svs m SX S hs
    exact ⟨F0, ws, m, SX, S, M, vrs_wk h1 r, h2, x, c⟩
  exact ⟨fun vs H Q E h => F.len _ _ _ _ (key _ _ _ _ h), fun A outer s H args us vs Q E hr he hb hv hs => F.run A outer s H args us vs Q E hr he hb hv (key _ _ _ _ hs)⟩
end
end Sy

set_option Elab.async false
set_option linter.all false
set_option maxRecDepth 100000
set_option maxHeartbeats 4000000
/-! the truth of a list, of a tuple -/
namespace Sy
open PySem PySem.Spec PyProof.Rows L2
def sTruL (a : SE) : STt := fun SX δ m S => a SX δ m fun x m1 => ∃ ys, Its m1 x ys ∧ S (!ys.isEmpty) m1
theorem vrs_isEmpty {K : PySem.W.Frag} {F : Hp} {vs : List V} {xs : List SV} (r : VRs K F vs xs) : vs.isEmpty = xs.isEmpty := by cases r <;> rfl
theorem gt_truL {K : PySem.W.Frag} {E : XK} {X : Cx} {e : Expr} {te : TE} {se : SE} (h : GE K E X e te se) (he : ∀ whole, isTrue e X.env whole = (do let v ← whole; standAt e.pos; holding [v] (truthy v)) := by intro _; rfl) (hK : X.K = K := by rfl) : GT K E X e (fun σ H Q => te σ H fun x H' => ∃ k, TruV X.K x H' k ∧ Q k H') (sTruL se) :=
  ⟨pt_truth h.pe he, fun σ F H δ m SX S Q r q c => h.sim σ F H δ m SX _ _ r q fun v F1 H1 sv m1 s1 M1 v1 ⟨ys, hy, h1⟩ => by
    subst hK
    obtain ⟨p, vs, rfl, hs, r2⟩ := its_seq M1 v1 hy
    have e1 : (!ys.isEmpty) = !vs.isEmpty := by rw [vrs_isEmpty r2]
    refine ⟨!ys.isEmpty, ?_, c _ F1 H1 m1 s1 M1 h1⟩
    rcases hs with hs | hs
    · exact .inl ⟨vs, hs, e1⟩
    · exact .inr (.inl ⟨vs, hs, e1⟩)⟩
end Sy

set_option Elab.async false
set_option linter.all false
set_option maxRecDepth 100000
set_option maxHeartbeats 4000000
/-! a, b, .. = a list -/
namespace Sy
open PySem PySem.Spec PyProof.Rows L2
def hLstU (n : Nat) (r : SGs) : SG := fun SX v δ m S => ∃ ys, ItsL m v ys ∧ ys.length = n ∧ r SX ys δ m S
end Sy

set_option Elab.async false
set_option linter.all false
set_option maxRecDepth 100000
namespace Sy
open PySem PySem.Spec PyProof.Rows L2 PySem.W
/-! ### min of a list of alike data -/
def rMinE (K : PySem.W.Frag) : List V → Hp → VK → Prop := fun vs H Q => ∃ (a : Addr) (xs : List V) (d : PyData) (ds : List PyData), vs = [V.ref a] ∧ SqL K H a xs ∧ DpAll K H xs (d :: ds) ∧ AlikeAll (d :: ds) ∧ PyData.depthAll (d :: ds) ≤ 8 ∧ ∀ (i : Nat) x, xs[i]? = some x → (d :: ds)[i]? = some (minD d ds) → Q x H
def sMinE : SRC := fun vs m S => match vs with
  | [x] => ∃ xs d ds, ItsL m x xs ∧ Rds m xs (d :: ds) ∧ AlikeAll (d :: ds) ∧ PyData.depthAll (d :: ds) ≤ 8 ∧ ∀ (i : Nat) y, xs[i]? = some y → (d :: ds)[i]? = some (minD d ds) → S y m
  | _ => False
def pdt (q : Int × Int) : PyData := .tuple [.int q.1, .int q.2]
end Sy

set_option Elab.async false
set_option linter.all false
set_option maxRecDepth 100000
/-! len(set(xs)), where all of xs are one int -/
namespace Sy
open PySem PySem.Spec PyProof.Rows L2 PySem.W
def tLenSame (K : PySem.W.Frag) (ta : TE) : TE := fun σ H Q => ta σ H fun x H1 => ∃ (l : Addr) (n : Int) (ns : List Int), x = .ref l ∧ SqL K H1 l (ns.map V.int) ∧ (∀ k ∈ ns, k = n) ∧ 0 < ns.length ∧ ns.length ≤ 4000 ∧ Q (.int (1 : Nat)) H1
def sLenSame (a : SE) : SE := fun SX δ m S => a SX δ m fun x m1 => ∃ (n : Int) (ns : List Int), ItsL m1 x (ns.map .int) ∧ (∀ k ∈ ns, k = n) ∧ 0 < ns.length ∧ ns.length < 64 ∧ S (.int (1 : Nat)) m1
end Sy

set_option Elab.async false
set_option linter.all false
set_option maxRecDepth 100000
/-! a tuple written down, its object known -/
namespace Sy
open PySem PySem.Spec PyProof.Rows L2 PySem.W
def tTupD (t : TA) : TE := fun σ H Q => t σ H fun xs H1 => xs.length ≤ sizeLine ∧ ∀ (p : Addr) (o : Obj), H1 p = none → o.dict = none → Q (.ref p) (upd H1 p (.frz o (.tup xs)))
def sTupD (a : SA) : SE := fun SX δ m S => a SX δ m fun xs m1 => xs.length ≤ sizeLine ∧ S (.ptup xs) m1
end Sy

set_option Elab.async false
set_option linter.all false
set_option maxRecDepth 100000
set_option maxHeartbeats 4000000
/-! super().__init__(..) of an own exception over ValueError -/
namespace Sy
open PySem PySem.Spec PyProof.Rows L2 PySem.W
/-- what the written part says of the __init__ at f, its class C, its cell cc, its code at cda -/
structure SupC (P : Program) (K : PySem.W.Frag) (C f cc cda : Addr) (fd : FuncData) : Prop where
  T : OexC K C
  fn : ∃ oc od osl, K.lookup f = some ⟨oc, od, .func fd, osl⟩
  code : ∃ ccl cdd vs ccs file tf, K.lookup cda = some ⟨ccl, cdd, .fields vs, ccs⟩ ∧ vs[2]? = some (.str file tf) ∧ ((P.main.file : Str) == file) = true
  cell : ∃ cl cld csl, K.lookup cc = some ⟨cl, cld, .cell (some (.ref C)), csl⟩
  sub : mroIn K C (.ref C) = some true
  init : ks_superIn K C C "__init__" = some (some (.builtin "ValueError.__init__"))
  subB : subIn K (.ref C) (.type "ValueError") = some true
  any : nsIn K cStatics "thirdparty.any" = some none
  top : (P.main.scope.names.lookup ("super" : Str)).isSome = false
section
variable {X : Cx} {pins : List (Addr × Obj)} {σ : L2.St} {H : Hp} {s : Shared} {C f cc cda a : Addr} {fd : FuncData} {ar : Arg} {d0 : Option Addr} {E : Value → Shared → Prop} {body : List Stmt} {p0 p1 : Pos} {whole : Sem Value} {Q : Value → Shared → Prop}
theorem sup_obj (S : SupC X.prog X.K C f cc cda fd) (hcode : X.env.code = .ref cda) (hfu : X.env.func = some f) (hcc : X.env.cells.lookup ("__class__" : Str) = some cc) (hks : X.env.kindOf "super" = some .globalImplicit) (hkc : X.env.kindOf "__class__" = some .free) (hm : X.mg "super" = none)
    (hp : (fd.params.posonlyargs ++ fd.params.args).head? = some ar) (hN : X.N[0]? = some ar.arg) (hl : X.env.kindOf ar.arg = some .local) (hv : Vis X.env.scope ar.arg) (I : Inv X pins σ H s) (h0 : σ[0]? = some (some (.ref a))) (eo : H a = some (exo a C d0))
    (h : ∀ so s', Inv X pins σ H s' → s'.heap.get? so = some (ks_superObj C a C) → Q (.ref so) s') :
    _root_.PySem.wpAt (model X.prog X.w) X.A (.func body X.env) (attributeBase (.Call (.Name "super" p0) [] [] p1) "__init__" X.env whole) Q E s := by
  obtain ⟨oc, od, osl, lf⟩ := S.fn
  obtain ⟨ccl, cdd, vs, ccs, file, tf, lc, hvs, hfile⟩ := S.code
  obtain ⟨cl, cld, csl, lcell⟩ := S.cell
  obtain ⟨nm, q, N, bs, bm, sn, sub, ab, col, dd, k0, k1, k2, k3, k5, hC, hbm⟩ := S.T.cls
  obtain ⟨mb, h1, h2⟩ := I.mod.blt
  refine ks_wpAt_super_base hks hkc (by decide) hfu (I.kIn _ _ lf) rfl hp hcode (I.kIn _ _ lc) rfl hvs hfile S.top ?_
  refine ks_loadName_global I.ok.kind hks (Calls.loadGlobal_builtin (by rw [I.ok.glob]; exact I.mod.glob.keeps I.bk) hm (by rw [I.ok.blt]; exact h1.keeps I.bk) ((h2 _ (by decide)).trans (show bootBuiltins "super" = some (.type "super") by decide +kernel)) ⟨rfl, ?_⟩)
  refine wpAny_loadName_free I.ok.kind hkc hcc ⟨_, I.kIn _ _ lcell, rfl⟩ ?_
  obtain ⟨m, hns, hlk⟩ := I.loc
  obtain ⟨u, ru, lk⟩ := hlk 0 ar.arg (.ref a) hN h0 hv
  obtain rfl : u = Value.ref a := ru
  have hm0 : m ar.arg = some (.ref a) := by
    rcases lk with lk | lk
    · exact lk.2
    · rw [hl] at lk
      rcases lk.1 with z | z <;> cases z
  refine wpAny_loadName_local I.ok.kind hl hns hm0 ?_
  obtain ⟨t1, ho⟩ := exo_at I.hok eo
  have hC' := I.kIn _ _ hC
  have sub1 := looks_mroIn (M := model X.prog X.w) I.kIn S.sub
  obtain ⟨hp, g, d, t, os⟩ := s
  refine ks_wpAny_isType_cls hC' rfl ⟨rfl, ?_⟩
  refine ks_wpAny_call_super hC' rfl ho rfl (fun c z => nomatch z) sub1 fun h' e k => ?_
  exact h _ _ (I.kept (t' := t) k) e
theorem sup_call {so : Addr} {pl : Sem Bool} {pos : Pos} {e1 : Expr} {rest : List Expr} {ta : TA} {Qv : Hp → Prop} (S : SupC X.prog X.K C f cc cda fd) (I : Inv X pins σ H s) (eo : H a = some (exo a C none)) (hso : s.heap.get? so = some (ks_superObj C a C)) (ha : PA X (e1 :: rest) ta)
    (h : ta σ H fun vs H1 => vs.length ≤ 1000 ∧ H1 a = some (exo a C none) ∧ Qv H1) (he : starEach (e1 :: rest) X.env = (false, eval e1 X.env) :: starEach rest X.env := by rfl) (hpl : (backTo pos (starEach rest X.env)).any (·.1) = false := by rfl) :
    wpAny (model X.prog X.w) X.A (getMethod (.ref so) "__init__" pl) (fun fx s2 => wpAny (model X.prog X.w) X.A (callWith pos fx.1 fx.2 (backTo pos (starEach (e1 :: rest) X.env)) []) (fun _ s' => ∃ H1, Inv X pins σ H1 s' ∧ Qv H1) X.xe s2) X.xe s := by
  obtain ⟨nm, q, N, bs, bm, sn, sub, ab, col, dd, k0, k1, k2, k3, k5, hC, hbm⟩ := S.T.cls
  have hcl : clsIn X.K C = some { name := nm, bases := bs, mro := .ref C :: bm, ns := N, qualname := q, hasDict := true, slotNames := sn, subclasses := sub, abstract := ab, collection := col, hasDel := false } := by unfold clsIn; rw [hC] <;> rfl
  have hin := S.init
  unfold ks_superIn at hin
  rw [hcl] at hin
  obtain ⟨t1, ho⟩ := exo_at I.hok eo
  have IA : InstAt s.heap a { cls := .ref C, dict := none, data := .fields #[.ref t1, .none, .none, .none, .bool false, .none] } C none := ⟨ho, rfl, rfl, trivial⟩
  have hI : Looks (model X.prog X.w) s.heap (isInstance (.ref a) (.type "ValueError")) true := IA.type.andThen (looks_subIn I.kIn S.subB)
  have ne : a ≠ C := ks_ne I.kIn IA hcl
  have opq : Looks (model X.prog X.w) s.heap (opaqueClassAbove (.ref C)) none := looks_opaque I.kIn S.any
  have kin := I.kIn
  obtain ⟨hp, g, d, t, os⟩ := s
  refine kxs_getMethod kxs_ValueError hso opq (l₀ := .ref C :: bm) (fun A Q E s k qq => wpAny_bind ((looks_clsIn kin hcl) A _ E s k (wpAny_pure qq))) rfl kin hin hI ne (by decide) ?_
  have kp : ∀ b o, hp.get? b = some o → (hp.push (kxs_mw "ValueError.__init__" a)).get? b = some o := fun b o e => Heap.get?_push_of_some _ e
  have I1 : Inv X pins σ H ⟨hp.push (kxs_mw "ValueError.__init__" a), g, d, t + 1, os⟩ := I.kept (t' := t + 1) kp
  have I2 : Inv X ((hp.objs.size, kxs_mw "ValueError.__init__" a) :: pins) σ H ⟨hp.push (kxs_mw "ValueError.__init__" a), g, d, t + 1, os⟩ := I1.pins_of fun p hp' => by
    rcases List.mem_cons.mp hp' with rfl | hp'
    · exact ⟨Heap.get?_push_size _ rfl, I.hok.fresh (Nat.le_refl _), Nat.ne_of_gt I.lt, I.nofs (Nat.le_refl _), fun v z => nomatch z⟩
    · exact I1.pin p (List.mem_append_right _ hp')
  show wpAny _ _ (callWith pos (.ref hp.objs.size) [] (backTo pos (starEach (e1 :: rest) X.env)) []) _ _ _
  refine kxs_callWith (i := "ValueError.__init__") (x := a) (by rw [he]; exact hpl) ?_
  have hr := ha.run pos _ _ σ H _ I2 h
  rw [he] at hr ⊢
  refine Calls.evalArgs_plain (thn hr fun us s1 hh => ?_)
  obtain ⟨vs, H1, I3, r3, hz, eo3, q3⟩ := hh
  have hu : s1.heap.get? hp.objs.size = some (kxs_mw "ValueError.__init__" a) := (I3.pin (hp.objs.size, kxs_mw "ValueError.__init__" a) (List.mem_append_right _ List.mem_cons_self)).1
  have I4 : Inv X pins σ H1 s1 := I3.pins_of fun p hp' => I3.pin p (List.mem_append_right _ (List.mem_cons_of_mem _ hp'))
  have hlen : us.length ≤ sizeLine := by
    rw [← Paired.length r3, sizeLine_eq]
    omega
  refine ⟨hu, ?_⟩
  obtain ⟨t2, ho3⟩ := exo_at I4.hok eo3
  have hC3 := I4.kIn _ _ hC
  have fin : ∀ h' : Heap, (∀ b o, b ≠ a → s1.heap.get? b = some o → h'.get? b = some o) → (∃ t4 : Addr, h'.get? a = some ({ cls := .ref C, dict := none, data := .fields #[.ref t4, .none, .none, .none, .bool false, .none] } : Obj)) → ∃ H1, Inv X pins σ H1 { s1 with heap := h' } ∧ Qv H1 := fun h' k ⟨t4, hx⟩ => by
    have J := I4.write (t' := s1.toks) (x := a) (e := a) (o := exo a C none) (by rw [eo3]; exact True.intro) (.inl rfl) k ⟨_, hx⟩ (exo_ok hx)
    have eu : upd H1 a (exo a C none) = H1 := by
      funext c
      by_cases hc : c = a
      · rw [hc, upd_same, eo3]
      · rw [upd_ne hc]
    rw [eu] at J
    exact ⟨H1, J, q3⟩
  obtain ⟨h3, g3, d3, t3, os3⟩ := s1
  refine wpAny_call (codeAny_of_tree (show wpAny _ _ (callAny (.ref hp.objs.size) ⟨us, []⟩) _ _ _ from ?_))
  unfold callAny
  refine wpAny_bind (wpAny_load hu (by
    simp only [kxs_mw, show (Value.type "method-wrapper" == Value.type "method" || Value.type "method-wrapper" == Value.type "builtin_function_or_method" || Value.type "method-wrapper" == Value.type "method-wrapper") = true from by decide, if_true]
    refine KFB.if_so (by decide) (wpAny_bind (check_bound_init F.excBase_ValueError.toExcCallFacts hC3 ho3 rfl (wpAny_bind (wpAny_pure (wpAny_pure ⟨plainId_quiet F.excBase_ValueError.init.plain _, codeAny_builtin F.excBase_ValueError.initEntry ?_⟩)))))
    refine exc_init_tree (cls := .ref C) (t0 := t2) (dv := none) (c2 := .none) (c3 := .none) (b4 := .bool false) ho3 hlen fun h' k hx _ => ?_
    exact fin h' k ⟨_, hx⟩))
end
end Sy
namespace Sy
open PySem PySem.Spec PyProof.Rows L2 PySem.W NdefX
section
variable {CX : CXT} {P : Program} {w : World} {K : PySem.W.Frag} {mg : Str → Option Value} {base : Heap} {N ps : List Str} {C fI cc cda : Addr} {name q : Str} {params : Arguments} {scope : Scope} {doc pm ct : Value} {k : Nat} {sp : Sp} {e1 : Expr} {p0 p1 p2 p3 p4 : Pos} {rest : List Stmt} {fd : FuncData} {ar : Arg}
abbrev initBody (p0 p1 p2 p3 p4 : Pos) (e1 : Expr) (rest : List Stmt) : List Stmt := .Expr (.Call (.Attribute (.Call (.Name "super" p0) [] [] p1) "__init__" p2) [e1] [] p3) p4 :: rest
abbrev initF (name q : Str) (params : Arguments) (body : List Stmt) (scope : Scope) (cc cda : Addr) : NF := ⟨name, q, params, body, scope, [("__class__", cc)], cda⟩
/-- an own exception's __init__: super().__init__(e1), and more -/
theorem init_ok (hfd : fd = (initF name q params (initBody p0 p1 p2 p3 p4 e1 rest) scope cc cda).fd doc pm ct) (S : SupC P K C fI cc cda fd) (hcd : codeIn K (.ref cda) q = true) (NS : NScope N ps ["__class__"] scope) (len : ∀ vs H Q E, sp vs H Q E → vs.length = ps.length)
    (hm : mg "super" = none) (hks : scope.names.lookup ("super" : Str) = some .globalImplicit) (hp : (params.posonlyargs ++ params.args).head? = some ar) (hN : N[0]? = some ar.arg) (hl : scope.names.lookup ar.arg = some .local) (hv : Vis scope ar.arg) {pl : Addr → Sem Bool}
    (hi : ∀ L, interactive (envF (initF name q params (initBody p0 p1 p2 p3 p4 e1 rest) scope cc cda) fI L) = false) (hsw : ∀ L, swapsWith (.Call (.Attribute (.Call (.Name "super" p0) [] [] p1) "__init__" p2) [e1] [] p3) none p4.line (envF (initF name q params (initBody p0 p1 p2 p3 p4 e1 rest) scope cc cda) fI L) = pure false)
    (hev : ∀ L, eval (.Call (.Attribute (.Call (.Name "super" p0) [] [] p1) "__init__" p2) [e1] [] p3) (envF (initF name q params (initBody p0 p1 p2 p3 p4 e1 rest) scope cc cda) fI L) = (do
      let ov ← attributeBase (.Call (.Name "super" p0) [] [] p1) "__init__" (envF (initF name q params (initBody p0 p1 p2 p3 p4 e1 rest) scope cc cda) fI L) (eval (.Call (.Name "super" p0) [] [] p1) (envF (initF name q params (initBody p0 p1 p2 p3 p4 e1 rest) scope cc cda) fI L))
      standAt p2.atName
      let (f, first) ← holding [ov] (getMethod ov "__init__" (pl L))
      callWith p3 f first (backTo p3 (starEach [e1] (envF (initF name q params (initBody p0 p1 p2 p3 p4 e1 rest) scope cc cda) fI L))) []))
    (hst : ∀ L, starEach [e1] (envF (initF name q params (initBody p0 p1 p2 p3 p4 e1 rest) scope cc cda) fI L) = (false, eval e1 (envF (initF name q params (initBody p0 p1 p2 p3 p4 e1 rest) scope cc cda) fI L)) :: starEach [] (envF (initF name q params (initBody p0 p1 p2 p3 p4 e1 rest) scope cc cda) fI L))
    (hbt : ∀ L, (backTo p3 (starEach [] (envF (initF name q params (initBody p0 p1 p2 p3 p4 e1 rest) scope cc cda) fI L))).any (·.1) = false)
    (hbody : ∀ (A : Around) (outer : List Env) (s : Shared) (H : Hp) (vs : List V) (Q : VK) (E : XK), Room k (A.deeper (envF (initF name q params (initBody p0 p1 p2 p3 p4 e1 rest) scope cc cda) fI s.heap.objs.size)) → sp vs H Q E →
      ∃ a ta t, vs[0]? = some (.ref a) ∧ H a = some (exo a C none) ∧ PA (ncx CX P w K mg base N (initF name q params (initBody p0 p1 p2 p3 p4 e1 rest) scope cc cda) fI A outer s H E) [e1] ta ∧ PSs (ncx CX P w K mg base N (initF name q params (initBody p0 p1 p2 p3 p4 e1 rest) scope cc cda) fI A outer s H E) rest t ∧
        ta (startF N vs [some (.ref C)]) H fun ws H1 => ws.length ≤ 1000 ∧ H1 a = some (exo a C none) ∧ t { nx := fun _ H' => Q .non H', rt := Q } (startF N vs [some (.ref C)]) H1) : FnOk P w K mg base CX (k + 1) fI fd ps sp := by
  refine ⟨len, fun A outer s H args us vs Q E hr e0 hb r hsp => ?_⟩
  have hlen := len _ _ _ _ hsp
  have KX : K.In s.heap := e0.mod.kin.keeps fun b o e => (e0.bs b o e).1
  have lim : s.heap.NoLimit := e0.mod.nolimit.keeps fun b o e => (e0.bs b o e).1
  obtain ⟨oc, od, osl, lf⟩ := S.fn
  obtain ⟨cl, cld, csl, lcell⟩ := S.cell
  have hcc : H cc = none := (e0.bs _ _ (e0.mod.kin _ _ lcell)).2
  have CA : CellsAt [("__class__", cc)] ["__class__"] [some (V.ref C)] s.heap H := by
    have one : ∀ y c, ([("__class__", cc)] : List (Str × Addr)).lookup y = some c → y = "__class__" ∧ c = cc := fun y c e => by
      simp only [List.lookup] at e
      split at e
      · next z => exact ⟨by simpa using z, (Option.some.inj e).symm⟩
      · cases e
    refine ⟨rfl, fun y c e => ?_, fun x y c e1 e2 => (one x c e1).1.trans (one y c e2).1.symm, fun i y hi => ⟨cc, ?_, fun v hv => ?_⟩⟩
    · obtain ⟨_, rfl⟩ := one y c e
      exact ⟨hcc, _, _, KX _ _ lcell, rfl⟩
    · cases i with
      | zero => cases hi; rfl
      | succ i => simp at hi
    · cases i with
      | zero => cases hv; exact ⟨_, rfl, _, KX _ _ lcell, rfl⟩
      | succ i => simp at hv
  subst hfd
  refine ks_codeAny_call_defAt (binds := ps.zip us) hr.depth (KX _ _ lf) rfl lim (codeRec_of KX hcd) rfl hb NS.nocell (fun ⟨n, _⟩ hy => NS.par n (List.of_mem_zip hy).1) (fun h1 hns kp => ?_) NS.co NS.gen NS.kind
  obtain ⟨a, ta, t, hva, eo, hta, ht, hq⟩ := hbody A outer s H vs Q E (hr.deeper _) hsp
  have I : Inv (ncx CX P w K mg base N (initF name q params (initBody p0 p1 p2 p3 p4 e1 rest) scope cc cda) fI A outer s H E) [] (startF N vs [some (.ref C)]) H { s with heap := h1, toks := s.toks + (ps.zip us).length } := inv_startN NS hr.hd e0 hlen r CA hns kp
  have h0 : (startF N vs [some (.ref C)])[0]? = some (some (.ref a)) := by
    have l0 : 0 < vs.length := (List.getElem?_eq_some_iff.mp hva).1
    unfold startF
    rw [List.getElem?_append_left (by rw [List.length_map]; exact l0), List.getElem?_map, hva]
    rfl
  have fin : ∀ {σ' : L2.St} {H' : Hp} {v : V} {u : Value} {s' : Shared}, Inv (ncx CX P w K mg base N (initF name q params (initBody p0 p1 p2 p3 p4 e1 rest) scope cc cda) fI A outer s H E) [] σ' H' s' → L2.RelV v u → Q v H' → CE outer P w H s Q u s' := fun J rv qq => ⟨_, _, J.os, J.bare, J.base, J.hok, rv, qq⟩
  show _root_.PySem.wpAt (model P w) (A.deeper (envF (initF name q params (initBody p0 p1 p2 p3 p4 e1 rest) scope cc cda) fI s.heap.objs.size)) (.func (initBody p0 p1 p2 p3 p4 e1 rest) (envF (initF name q params (initBody p0 p1 p2 p3 p4 e1 rest) scope cc cda) fI s.heap.objs.size)) (execs (initBody p0 p1 p2 p3 p4 e1 rest) (envF (initF name q params (initBody p0 p1 p2 p3 p4 e1 rest) scope cc cda) fI s.heap.objs.size)) _ _ _
  have lcc : (envF (initF name q params (initBody p0 p1 p2 p3 p4 e1 rest) scope cc cda) fI s.heap.objs.size).cells.lookup ("__class__" : Str) = some cc := by
    show ([("__class__", cc)] : List (Str × Addr)).lookup ("__class__" : Str) = some cc
    simp [List.lookup]
  refine ks_wpAt_execs_cons (ks_wpAt_Expr_any (ks_wpAt_MethodCall (sup_obj (X := ncx CX P w K mg base N (initF name q params (initBody p0 p1 p2 p3 p4 e1 rest) scope cc cda) fI A outer s H E) S rfl rfl lcc hks (NS.frk _ (by simp)) hm hp hN hl hv I h0 eo fun so s' I' hso => ?_) (hev _)) (hi _) (hsw _))
  refine wpAny_mono (sup_call S I' eo hso hta hq (hst _) (hbt _)) (fun fx s2 hs => wpAny_mono hs (fun v s3 hz => ?_) fun e s3 hz => hz) fun e s2 hs => hs
  obtain ⟨H1, I1, q1⟩ := hz
  refine wpAt_of_wpAny (wpAny_mono (ht.run [] s3 _ H1 _ I1 q1) (fun fl s4 hf => ?_) fun e s4 hs => hs)
  cases fl with
  | ret u =>
    obtain ⟨v, σ', H', J, rv, qq⟩ := hf
    exact fin J rv qq
  | next =>
    obtain ⟨σ', H', J, qq⟩ := hf
    exact fin (v := V.non) (u := Value.none) J rfl qq
  | brk =>
    obtain ⟨_, _, _, z⟩ := hf
    exact z.elim
  | cont =>
    obtain ⟨_, _, _, z⟩ := hf
    exact z.elim
end
end Sy

set_option Elab.async false
set_option linter.all false
set_option maxRecDepth 100000
set_option maxHeartbeats 4000000
/-! raise of an own exception that has fields -/
namespace Sy
open PySem PySem.Spec PyProof.Rows L2 PySem.W
def spIni2 (C : Addr) (f1 f2 : Str) : Sp := fun vs H Q _ => ∃ (a : Addr) (i j : Int), vs = [.ref a, .int i, .int j] ∧ i.natAbs.log2 < 1920 ∧ j.natAbs.log2 < 1920 ∧ H a = some (exo a C none) ∧ ∀ dx, H dx = none → dx ≠ a → Q .non (upd (upd (upd H dx (exd dx [(f1, V.int i)])) a (exo a C (some dx))) dx (exd dx [(f2, V.int j), (f1, V.int i)]))
def spIni1 (C : Addr) (f1 : Str) : Sp := fun vs H Q _ => ∃ (a : Addr) (i : Int), vs = [.ref a, .int i] ∧ i.natAbs.log2 < 1920 ∧ H a = some (exo a C none) ∧ ∀ dx, H dx = none → dx ≠ a → Q .non (upd (upd H dx (exd dx [(f1, V.int i)])) a (exo a C (some dx)))
theorem vrs_i2 {K : PySem.W.Frag} {F : Hp} {vs : List V} {i j : Int} (r : VRs K F vs [.int i, .int j]) : vs = [.int i, .int j] := by
  cases r with
  | cons r1 r2 =>
    cases r2 with
    | cons r2 r3 =>
      cases r3
      cases r1
      cases r2
      rfl
def sRaiseI2 (C : Addr) (f1 f2 : Str) (sa : SA) : SS := fun SX _ δ m => sa SX δ m fun vs m1 => ∃ i j : Int, vs = [.int i, .int j] ∧ i.natAbs.log2 < 1920 ∧ j.natAbs.log2 < 1920 ∧ SX ⟨C, some [(f2, .int j), (f1, .int i)]⟩ m1
def sRaiseI1 (C : Addr) (f1 : Str) (sa : SA) : SS := fun SX _ δ m => sa SX δ m fun vs m1 => ∃ i : Int, vs = [.int i] ∧ i.natAbs.log2 < 1920 ∧ SX ⟨C, some [(f1, .int i)]⟩ m1
theorem let_go {H H2 : Hp} {a dx : Addr} {fs : List (Str × V)} (ha : H a = none) (h : ∀ c, c ≠ a → c ≠ dx → H2 c = H c) : upd (L2.del H2 a) dx (.xd fs) = upd H dx (.xd fs) := by
  funext c
  by_cases h1 : c = dx
  · rw [h1, upd_same, upd_same]
  · rw [upd_ne h1, upd_ne h1]
    by_cases h2 : c = a
    · rw [h2, ha]; exact L2.del_same
    · rw [L2.del_ne h2]; exact h c h2 h1
section
variable {K : PySem.W.Frag} {E : XK} {X : Cx} {CX : CXT} {k : Nat} {fI C : Addr} {fd : FuncData} {ps : List Str} {x f1 f2 : Str} {p pos pos2 : Pos} {e : Expr} {es : List Expr} {ta : TA} {sa : SA}
theorem gs_raiseI2 (hc : X.calm = true) (tk : Takes X (fun cls d _ H => E cls d H)) (T : OexC X.K C) (iC : findIn X.K (.ref C) "__init__" = some (some (.ref fI))) (tI : typeIn X.K (.ref fI) = some (.type "function")) (F1 : FnOk X.prog X.w X.K X.mg X.base CX k fI fd ps (spIni2 C f1 f2)) (hr : Room (k + 1) X.A) (hb : Binds X.K fd ps []) (hx : Passes CX X (fun _ _ _ => False)) (hg : Gl X x) (hm : X.mg x = some (.ref C)) (ha : GA K E X (e :: es) ta sa)
    (hdb : (x == ("__debug__" : Str)) = false := by decide) (he : starEach (e :: es) X.env = (false, eval e X.env) :: starEach es X.env := by rfl) (hpl : (backTo pos (starEach es X.env)).any (·.1) = false := by rfl) :
    GS K E X (.Raise (some (.Call (.Name x p) (e :: es) [] pos)) none pos2) (fun _ σ H => tMkO C (spIni2 C f1 f2) [] ta σ H E) (sRaiseI2 C f1 f2 sa) := by
  refine ⟨ps_raise hc tk (pmk_oex T iC tI F1 hr hb .nil hx hg hm ha.pe hdb he hpl), fun σ F H δ m SX D Es r h c => ?_⟩
  refine ha.sim σ F H δ m SX _ _ r h fun vs F' H1 svs m1 s1 M1 v1 h1 => ?_
  obtain ⟨i, j, rfl, hi, hj, q⟩ := h1
  obtain rfl := vrs_i2 v1
  refine ⟨by show 2 ≤ 1000; decide, fun a hna => ⟨a, i, j, rfl, hi, hj, upd_same, fun dx hdx ne => ⟨rfl, dx, _, ?_, upd_same, ?_, ?_⟩⟩⟩
  · rw [upd_ne (Ne.symm ne), upd_same]
  · rw [upd_ne ne] at hdx; exact hdx
  · have hd1 : H1 dx = none := by rw [upd_ne ne] at hdx; exact hdx
    rw [let_go hna fun c c1 c2 => by rw [upd_ne c2, upd_ne c1, upd_ne c2, upd_ne c1]]
    exact r.ex ⟨C, some [(f2, .int j), (f1, .int i)]⟩ (some dx) F' _ m1 s1 (M1.hid hd1) ⟨dx, _, rfl, upd_same, M1.sub.gone hd1, M1.gone hd1, .cons (.int _) (.cons (.int _) .nil)⟩ q
end
end Sy

set_option Elab.async false
set_option linter.all false
set_option maxRecDepth 100000
set_option maxHeartbeats 4000000
/-! the top's facts with own exceptions that have an __init__ with super() -/
namespace Sy
open PySem PySem.Spec PyProof.Rows L2 PySem.W He NdefX
def cellsO (o : Obj) : List Addr := match o.data with
  | .func fd => fd.closure.map (·.2)
  | _ => []
def growF (g : Addr → Option Obj) : Nat → List Addr → List Addr
  | 0, f => f
  | n + 1, f => f ++ growF g n (f.flatMap fun a => (g a).elim [] He.refsD)
def asC (g : Addr → Option Obj) (n : Nat) : List Addr := growF g n [mainGlobals] ++ ((growF g n [mainGlobals]).flatMap fun a => match g a with
  | some o => cellsO o
  | none => []) ++ [cStatics]
abbrev FnC : Type := Option (Str × Str × Arguments × FuncBody × Scope × Addr × Addr)
def fnC (K : PySem.W.Frag) (C : Str) : FnC := match K.lookup (ma K (ga K C) "__init__") with
  | some ⟨_, _, .func fd, _⟩ => some (fd.name, fd.qualname, fd.params, fd.body, fd.scope, fd.globals, fd.builtins)
  | _ => none
structure CelD where
  cls : Str
  qual : Str
  params : Arguments
  body : List Stmt
  scope : Scope
def CelD.val (d : CelD) : FnC := some ("__init__", d.qual, d.params, .stmts d.body, d.scope, mainGlobals, builtinsNs)
/-- the class -/
def oexB (K : PySem.W.Frag) (C : Addr) : Bool := (match K.lookup C with
    | some ⟨.type t, _, .cls cd, sl⟩ => (match cd.mro, sl.toList with
      | .ref C' :: bm, [_, _, _, _, some (.builtin n), _] => t == "type" && (C' == C && (n == "ValueError.__new__" && (!cd.hasDel && (cd.hasDict && PySem.HandSPX.refsVE bm))))
      | _, _ => false)
    | _ => false) &&
  (eqO (findIn K (.ref C) "__setattr__") (some (some (.builtin "object.__setattr__"))) && (decide (subIn K (.ref C) (.type "BaseException") = some true) && (decide (typeIn K (.ref C) = some (.type "type")) && keepIn K (.ref C))))
theorem oexB_ok {K : PySem.W.Frag} {C : Addr} (h : oexB K C = true) : OexC K C := by
  obtain ⟨h1, h⟩ := ba h
  obtain ⟨h2, h⟩ := ba h
  obtain ⟨h3, h⟩ := ba h
  obtain ⟨h4, h5⟩ := ba h
  refine ⟨?_, eqO_ok h2, of_decide_eq_true h3, of_decide_eq_true h4, h5⟩
  split at h1
  · rename_i t dd cd sl ho
    split at h1
    · rename_i C' bm k0 k1 k2 k3 n k5 hm hs
      simp only [Bool.and_eq_true, beq_iff_eq, Bool.not_eq_true'] at h1
      obtain ⟨rfl, rfl, rfl, hdel, hd, hr⟩ := h1
      obtain ⟨nm, bs, mro, ns, qn, hdc, sn, sub, ab, col, del⟩ := cd
      dsimp only at hm hdel hd
      subst hm hdel hd
      have hsl : sl = #[k0, k1, k2, k3, some (.builtin "ValueError.__new__"), k5] := by
        obtain ⟨l⟩ := sl
        simp only at hs
        rw [hs]
      subst hsl
      exact ⟨nm, qn, ns, bs, bm, sn, sub, ab, col, dd, k0, k1, k2, k3, k5, ho, hr⟩
    · cases h1
  · cases h1
def supB (K : PySem.W.Frag) (file : Str) (d : CelD) : Bool := oexB K (ga K d.cls) && ((match K.lookup (ma K (ga K d.cls) "__init__") with
    | some ⟨_, _, .func fd, _⟩ => (match fd.defaults, fd.kwdefaults, fd.annotations, fd.closure, fd.code with
      | .none, .none, none, [(x, cc)], .ref c => (x == "__class__") && (codeIn K (.ref c) d.qual && ((match K.lookup cc with
          | some ⟨_, _, .cell (some (.ref a)), _⟩ => a == ga K d.cls
          | _ => false) && (match K.lookup c with
          | some ⟨_, _, .fields vs, _⟩ => (match vs.toList with
            | _ :: _ :: .str n _ :: _ => file == n
            | _ => false)
          | _ => false)))
      | _, _, _, _, _ => false)
    | _ => false) &&
  (decide (mroIn K (ga K d.cls) (.ref (ga K d.cls)) = some true) && (eqO (ks_superIn K (ga K d.cls) (ga K d.cls) "__init__") (some (some (.builtin "ValueError.__init__"))) && (decide (subIn K (.ref (ga K d.cls)) (.type "ValueError") = some true) &&
  (eqO (nsIn K cStatics "thirdparty.any") (some none) && (eqO (findIn K (.ref (ga K d.cls)) "__init__") (some (some (.ref (ma K (ga K d.cls) "__init__")))) && decide (typeIn K (.ref (ma K (ga K d.cls) "__init__")) = some (.type "function"))))))))
/-- what is known of such a class -/
structure KxC (P : Program) (K : PySem.W.Frag) (d : CelD) (fd : FuncData) (cc cda : Addr) : Prop where
  e : ∃ doc pm ct, fd = (initF "__init__" d.qual d.params d.body d.scope cc cda).fd doc pm ct
  S : SupC P K (ga K d.cls) (ma K (ga K d.cls) "__init__") cc cda fd
  code : codeIn K (.ref cda) d.qual = true
  iC : findIn K (.ref (ga K d.cls)) "__init__" = some (some (.ref (ma K (ga K d.cls) "__init__")))
  tI : typeIn K (.ref (ma K (ga K d.cls) "__init__")) = some (.type "function")
theorem supB_ok {P : Program} {K : PySem.W.Frag} {d : CelD} (e : fnC K d.cls = d.val) (h : supB K P.main.file d = true) (htop : (P.main.scope.names.lookup ("super" : Str)).isSome = false) : ∃ fd cc cda, KxC P K d fd cc cda := by
  obtain ⟨h1, h⟩ := ba h
  obtain ⟨h2, h⟩ := ba h
  obtain ⟨h3, h⟩ := ba h
  obtain ⟨h4, h⟩ := ba h
  obtain ⟨h5, h⟩ := ba h
  obtain ⟨h6, h⟩ := ba h
  obtain ⟨h7, h8⟩ := ba h
  unfold fnC at e
  split at h2
  · rename_i oc od fd osl ho
    rw [ho] at e
    obtain ⟨n1, n2, n3, n4, n5, n6, n7, n8, n9, n10, n11, n12, n13, n14, n15⟩ := fd
    dsimp only at h2
    split at h2
    · rename_i x cc c
      have e2 : (some (n1, n2, n3, n4, n5, n6, n15) : FnC) = some (("__init__" : Str), d.qual, d.params, .stmts d.body, d.scope, mainGlobals, builtinsNs) := e
      simp only [Option.some.injEq, Prod.mk.injEq] at e2
      obtain ⟨q1, q2, q3, q4, q5, q6, q7⟩ := e2
      subst q1 q2 q3 q4 q5 q6 q7
      obtain ⟨z1, z⟩ := ba h2
      obtain ⟨z2, z⟩ := ba z
      obtain ⟨z3, z4⟩ := ba z
      have z1 := beq_iff_eq.mp z1
      subst z1
      refine ⟨_, cc, c, ⟨_, _, _, rfl⟩, ⟨oexB_ok h1, ⟨_, _, _, ho⟩, ?_, ?_, of_decide_eq_true h3, eqO_ok h4, of_decide_eq_true h5, eqO_ok h6, htop⟩, z2, eqO_ok h7, of_decide_eq_true h8⟩
      · split at z4
        · rename_i oc2 od2 vs sl2 ho2
          split at z4
          · rename_i y1 y2 n tf r hn
            exact ⟨_, _, vs, _, n, tf, ho2, by rw [← Array.getElem?_toList, hn]; rfl, z4⟩
          · cases z4
        · cases z4
      · split at z3
        · rename_i oc2 od2 a sl2 ho2
          have z3 := beq_iff_eq.mp z3
          subst z3
          exact ⟨_, _, _, ho2⟩
        · cases z3
    · cases h2
  · cases h2
/-! ### the Hook -/
structure SaysC (fa : List Fa) (fn : List DefD) (ts : List Tab) (tf : List Defn) (cs : List CelD) (ex : PySem.W.Frag → Bool) (w : World) (h : Heap) (K : PySem.W.Frag) : Prop where
  x : SaysX fa fn ts tf ex w h K
  c : cs.map (fun d => fnC K d.cls) = cs.map CelD.val
abbrev AlC : Type := AlX × List FnC
def obsXC (n : Nat) (fa : List Fa) (fn : List DefD) (ts : List Tab) (tf : List Defn) (ex : PySem.W.Frag → Bool) (g : Addr → Option Obj) : AlX := (obsT fa fn ts (frT g (asC g n)), ex (frT g (asC g n)) && tabsB g tf (frT g (asC g n)))
def obsC (n : Nat) (fa : List Fa) (fn : List DefD) (ts : List Tab) (tf : List Defn) (cs : List CelD) (ex : PySem.W.Frag → Bool) (g : Addr → Option Obj) : AlC := (obsXC n fa fn ts tf ex g, cs.map fun d => fnC (frT g (asC g n)) d.cls)
def valC (fn : List DefD) (ts : List Tab) (cs : List CelD) (w : World) : AlC := (valX fn ts w, cs.map CelD.val)
theorem saysC_of {n : Nat} {fa : List Fa} {fn : List DefD} {ts : List Tab} {tf : List Defn} {cs : List CelD} {ex : PySem.W.Frag → Bool} {w : World} {h : Heap} (e0 : obsC n fa fn ts tf cs ex h.get? = valC fn ts cs w) : SaysC fa fn ts tf cs ex w h (frT h.get? (asC h.get? n)) := by
  have e : obsXC n fa fn ts tf ex h.get? = valX fn ts w := congrArg (fun z : AlC => z.1) e0
  have ec : cs.map (fun d => fnC (frT h.get? (asC h.get? n)) d.cls) = cs.map CelD.val := congrArg (fun z : AlC => z.2) e0
  have e1 : obsT fa fn ts (frT h.get? (asC h.get? n)) = valT fn ts w := congrArg (fun z : AlX => z.1) e
  have e2 : (ex (frT h.get? (asC h.get? n)) && tabsB h.get? tf (frT h.get? (asC h.get? n))) = true := congrArg (fun z : AlX => z.2) e
  obtain ⟨h1, h2⟩ := ba e2
  have key : ∀ p ∈ tf, PySem.W.codeHdIn (frT h.get? (asC h.get? n)) (cT (frT h.get? (asC h.get? n)) p).1 (cT (frT h.get? (asC h.get? n)) p).2 = true ∧ ∃ o, h.get? (cT (frT h.get? (asC h.get? n)) p).2 = some o ∧ emptyTab o = true := fun p hp => by
    obtain ⟨h3, h4⟩ := ba (List.all_eq_true.mp h2 p hp)
    refine ⟨h3, ?_⟩
    cases q : h.get? (cT (frT h.get? (asC h.get? n)) p).2 with
    | none =>
      rw [q] at h4
      cases h4
    | some o =>
      rw [q] at h4
      exact ⟨o, rfl, h4⟩
  exact ⟨⟨e1, h1, fun p hp => (key p hp).1, fun p hp => by
    obtain ⟨_, o, q, z⟩ := key p hp
    exact frT_none q z, fun p hp => by
    obtain ⟨_, o, q, z⟩ := key p hp
    rw [q, emptyTab_eq z]⟩, ec⟩
def hookC (n : Nat) (fa : List Fa) (fn : List DefD) (ts : List Tab) (tf : List Defn) (cs : List CelD) (ex : PySem.W.Frag → Bool) : PySem.W.Hook where
  α := AlC
  obs := fun s => obsC n fa fn ts tf cs ex s.heap.get?
  val := fun w => valC fn ts cs w
  says := fun w h => ∃ K : PySem.W.Frag, K.In h ∧ SaysC fa fn ts tf cs ex w h K
  of := fun _ _ e => ⟨_, frT_in, saysC_of e⟩
  keeps := fun _ _ _ ⟨K, hK, c⟩ k => ⟨K, PySem.W.Frag.In.keeps hK k, ⟨⟨c.x.t, c.x.more, c.x.hd, c.x.out, fun p hp => k _ _ (c.x.empty p hp)⟩, c.c⟩⟩
theorem obsC_eq {n : Nat} {fa : List Fa} {fn : List DefD} {ts : List Tab} {tf : List Defn} {cs : List CelD} {ex : PySem.W.Frag → Bool} {g : Addr → Option Obj} {s : Shared} (h : ∀ a, g a = s.heap.get? a) : obsC n fa fn ts tf cs ex g = (hookC n fa fn ts tf cs ex).obs s := by
  have e : g = s.heap.get? := funext h
  rw [e] <;> rfl
theorem SaysC.at {fa : List Fa} {fn : List DefD} {ts : List Tab} {tf : List Defn} {cs : List CelD} {ex : PySem.W.Frag → Bool} {w : World} {h : Heap} {K : PySem.W.Frag} (c : SaysC fa fn ts tf cs ex w h K) (i : Nat) {d : CelD} (e : cs[i]? = some d := by rfl) : fnC K d.cls = d.val := by
  have e2 : (cs.map fun d => fnC K d.cls)[i]? = (cs.map CelD.val)[i]? := by rw [c.c]
  rw [List.getElem?_map, List.getElem?_map, e] at e2
  exact Option.some.inj e2
end Sy

set_option Elab.async false
set_option linter.all false
set_option maxRecDepth 100000
set_option maxHeartbeats 4000000
/-! a caught own exception that has fields: isinstance, e.f -/
namespace Sy
open PySem PySem.Spec PyProof.Rows L2
def rIsED (K : PySem.W.Frag) (D a dd : Addr) : List V → Hp → VK → Prop := fun xs H Q => ∃ (c : V) (cv : Value) (b : Bool), xs = [.ref a, c] ∧ (∀ u, RelV c u → u = cv) ∧ PySem.W.kitOne K (.ref D) cv = some b ∧ (∃ fs, H dd = some (.xd fs)) ∧ Q (.bl b) H
theorem inst_xd {X : Cx} {pins : List (Addr × Obj)} {σ : L2.St} {H : Hp} {s : Shared} {a D dd : Addr} {oe : Obj} {fs : List (Str × V)} (I : Inv X pins σ H s) (hp : (a, oe) ∈ X.pn ++ pins) (hz : Zc (.ref D) (some dd) oe) (hf : ∃ vs, oe.data = .fields vs) (e : H dd = some (.xd fs)) :
    ∃ od, PySem.W.InstAt s.heap a oe D (some od) := by
  obtain ⟨hget, _⟩ := I.pin (a, oe) hp
  obtain ⟨vs, hv⟩ := hf
  have hx : ObjOk X.prog X.w H s.heap dd (.xd fs) := I.hok dd _ e
  obtain ⟨mA, hns, hr⟩ := hx
  obtain ⟨od, ho, hl⟩ := lookIn_ns hns
  exact ⟨od, hget, hz.1, by unfold PySem.W.notCls; rw [hv] <;> rfl, by rw [hz.2]; exact ho⟩
theorem call_isED {X : Cx} {a D dd : Addr} {oe : Obj} {pn : List (Addr × Obj)} (C : ExcC X.K D) (hz : Zc (.ref D) (some dd) oe) (hf : ∃ vs, oe.data = .fields vs) : CallR (X.suite a ((a, oe) :: pn)) (.builtin "isinstance") (rIsED X.K D a dd) := by
  intro pins s σ H xs us Q I r h
  obtain ⟨c, cv, b, rfl, hcv, e, ⟨fs, hdd⟩, q⟩ := h
  cases r with
  | cons rx rr =>
    cases rr with
    | cons rt rr =>
      cases rr
      cases rx
      have ec := hcv _ rt
      subst ec
      obtain ⟨od, J⟩ := inst_xd I (List.mem_append.mpr (.inl List.mem_cons_self)) hz hf hdd
      obtain ⟨cdD, hcD, _⟩ := PySem.W.any_some C.hd
      exact PySem.W.kia_one (PySem.W.kitx_exc (by rw [hcD]; rfl) C.hg C.hk C.hs C.ha C.hn C.ht C.hm) I.kIn J e (fun z => nomatch z) fun tk => ⟨.bl b, H, I.kept (t' := tk) fun _ _ z => z, rfl, q⟩
def sIsED (K : PySem.W.Frag) (D a dd : Addr) : SRC := fun vs m S => match vs with
  | [.ref b, .ref C] => b = a ∧ (∃ fs, m dd = some (.xd fs)) ∧ ∃ k, PySem.W.kitOne K (.ref D) (.ref C) = some k ∧ S (.bl k) m
  | [.ref b, .ty n] => b = a ∧ (∃ fs, m dd = some (.xd fs)) ∧ ∃ k, PySem.W.kitOne K (.ref D) (.type n) = some k ∧ S (.bl k) m
  | _ => False
theorem sim_isED {K : PySem.W.Frag} {D a dd : Addr} : SimC K (rIsED K D a dd) (sIsED K D a dd) := fun F H m xs as S Q M rs h c => by
  unfold sIsED at h
  split at h
  · obtain ⟨rfl, ⟨fs, e⟩, k, hk, q⟩ := h
    obtain ⟨v, w, rfl, rv, rw_⟩ := vrs_two rs
    obtain rfl := vr_ref rv
    obtain rfl := vr_ref rw_
    obtain ⟨us, e2, _⟩ := (M.at_ dd _ e).2
    exact ⟨.ref _, .ref _, k, rfl, fun u e => e, hk, ⟨us, e2⟩, c _ F H _ m (.refl F) M (.bl _) q⟩
  · obtain ⟨rfl, ⟨fs, e⟩, k, hk, q⟩ := h
    obtain ⟨v, w, rfl, rv, rw_⟩ := vrs_two rs
    obtain rfl := vr_ref rv
    obtain rfl := vr_ty rw_
    obtain ⟨us, e2, _⟩ := (M.at_ dd _ e).2
    exact ⟨.ty _, .type _, k, rfl, fun u e => e, hk, ⟨us, e2⟩, c _ F H _ m (.refl F) M (.bl _) q⟩
  · exact h.elim
def sXf (a dd : Addr) (f : Str) (se : SE) : SE := fun SX δ m S => se SX δ m fun x m1 => x = .ref a ∧ ∃ fs v, m1 dd = some (.xd fs) ∧ fs.lookup f = some v ∧ S v m1
theorem xf_of {K : PySem.W.Frag} {C : Addr} (h : ExcC K C) : XfC K C := ⟨h.hg, h.hk, h.hs, h.hd⟩
theorem ge_xf {K : PySem.W.Frag} {E : XK} {X : Cx} {a C dd : Addr} {oe : Obj} {pn : List (Addr × Obj)} {e : Expr} {te : TE} {se : SE} {pos : Pos} {n : Str} (T : XfC X.K C) (hno : PySem.W.findIn X.K (.ref C) n = some none)
    (hz : Zc (.ref C) (some dd) oe) (hf : ∃ vs, oe.data = .fields vs) (he : GE K E (X.suite a ((a, oe) :: pn)) e te se) (hb : attributeBase e n X.env (eval e X.env) = eval e X.env := by rfl) :
    GE K E (X.suite a ((a, oe) :: pn)) (.Attribute e n pos) (tXf a (.ref C) (some dd) C n te) (sXf a dd n se) := by
  refine ⟨pe_xf T hno hz hf he.pe hb, fun σ F H δ m SX S Q r h c => ?_⟩
  refine he.sim σ F H δ m SX _ _ r h fun v F' H1 sv m1 s1 M1 v1 h1 => ?_
  obtain ⟨rfl, fs, x, e1, e2, q⟩ := h1
  obtain rfl := vr_ref v1
  obtain ⟨us, e3, kr⟩ := (M1.at_ dd _ e1).2
  obtain ⟨y, e4, ry⟩ := kr_look kr e2
  exact ⟨rfl, rfl, dd, us, y, rfl, e3, e4, c _ F' H1 _ m1 s1 M1 ry q⟩
end Sy

set_option Elab.async false
set_option linter.all false
set_option maxRecDepth 100000
set_option maxHeartbeats 4000000
/-! a tuple times an int -/
namespace Sy
open PySem PySem.Spec PyProof.Rows L2
theorem tuple_mul1 (l : Addr) (items : Array Value) (n : Nat) (dd : Option Addr) (sl : Array (Option Value)) (u : Tok) :
    Meets (Builtin.«tuple.__mul__» ⟨[.ref l, .int 1 u], []⟩) (fun _ R s => s.heap.get? l = some { cls := .type "tuple", dict := dd, data := .seq items n, slots := sl } ∧ R (.ok (.ret (Value.ref l))) s) :=
  .of_wp fun prog w A R s h => by
    obtain ⟨hp, g, d, tk, os⟩ := s
    obtain ⟨hl, h⟩ := h
    have f1 := AutoSeq1.idx_int
    have c1 : (items.isEmpty || (1 : Int) == 1) = true := by simp
    have c0 : (decide ((1 : Int) < -(2 ^ 63)) || decide ((1 : Int) ≥ 2 ^ 63)) = false := by decide
    wp_walk using wpAny_loadPart' hl
    exact ⟨_, rfl, h⟩
def rRepT1 (K : PySem.W.Frag) : R2 := fun x y H Q => ∃ l xs, x = .ref l ∧ y = .int 1 ∧ SqT K H l xs ∧ Q (.ref l) H
theorem op_repT1 {X : Cx} : OpR X (binaryOp .Mult) (rRepT1 X.K) := by
  intro pins s σ H x y v u Q I rx ry h
  obtain ⟨l, xs, rfl, rfl, hT, q⟩ := h
  cases rx
  obtain ⟨t, rfl⟩ := ry
  obtain ⟨its, r, ⟨⟨cls, dd, data, sl⟩, ho, hc, n, hd⟩, hs⟩ := I.tuple hT
  simp only at hc hd
  subst hc hd
  refine wpAny_binaryOp_repeat_ref (T := "tuple") (U := "int") (by decide) ⟨_, ho, rfl⟩ (fun s' => typeIs_int s' 1 t) noFill_tuple_mul F.fills_int_mul F.slot_int_rmul repeat_tuple F.slot_int_index.lookup
    (call_meets F.slot_int_rmul (typeIs_int s 1 t) F.entry_int_rmul (F.args_int_rmul_2 _ _) (int_rmul_tuple 1 t l its.toArray n dd sl)
      ⟨ho, rfl, ⟨_, ho, rfl⟩, call_meets F.slot_tuple_mul ⟨_, ho, rfl⟩ F.entry_tuple_mul (F.args_tuple_mul_2 _ _) (tuple_mul1 l its.toArray n dd sl t) ⟨ho, ?_⟩⟩)
  exact ⟨.ref l, H, I, rfl, q⟩
def rRepTA (K : PySem.W.Frag) : R2 := fun x y H Q => rRepT K x y H Q ∨ rRepT1 K x y H Q
theorem op_repTA {X : Cx} (K : PySem.W.Frag) (hK : X.K = K := by rfl) : OpR X (binaryOp .Mult) (rRepTA K) := by
  subst hK
  intro pins s σ H x y v u Q I rx ry h
  rcases h with h | h
  · exact op_repT pins s σ H x y v u Q I rx ry h
  · exact op_repT1 pins s σ H x y v u Q I rx ry h
def sRepT : SR2 := fun x y m S => match x, y with
  | .tup xs, .int k => xs ≠ [] ∧ (1 ≤ k ∧ k ≤ 1000) ∧ xs.length ≤ 1000 ∧ S (.tup (List.replicate k.toNat xs).flatten) m
  | _, _ => False
theorem sim_repT {K : PySem.W.Frag} : SimR K (rRepTA K) sRepT := fun F H m x y a b S Q M ra rb h c => by
  cases ra <;> cases rb <;> first
    | exact (show False from h).elim
    | skip
  rename_i h1 r1 k
  obtain ⟨hne, ⟨k1, k2⟩, hz, q⟩ := (show _ ≠ _ ∧ _ from h)
  by_cases e : k = 1
  · subst e
    refine .inr ⟨_, _, rfl, rfl, sqt_sub M.sub h1, c _ F H _ m (.refl F) M (.tup h1 r1) ?_⟩
    simpa using q
  · refine .inl ⟨_, _, _, rfl, rfl, sqt_sub M.sub h1, fun z => hne (by subst z; exact vrs_nil r1), by omega, k2, by rw [vrs_length r1]; exact hz, fun p hp => ?_⟩
    exact c (.ref p) (upd F p _) _ _ m (Sub.new (M.sub.gone hp)) (M.frz hp) (.tup (.inl (.inl upd_same)) (vrs_sub (Sub.new (M.sub.gone hp)) (vrs_rep r1 _))) q
end Sy

set_option Elab.async false
set_option linter.all false
set_option maxRecDepth 100000
set_option maxHeartbeats 4000000
namespace Hn
open PySem PySem.Spec PyProof.Rows L2 Sy
def top (i : Nat) : Stmt := PySem.Challenge.pw_hushnotice_k01_rules_refused.main.body.getD i (.Pass ⟨0, 0, 0, 0⟩)
abbrev s_is_number : Stmt := top 29
abbrev s_is_whole : Stmt := top 30
abbrev s_is_tuple_of : Stmt := top 31
abbrev s_is_tuple_up_to : Stmt := top 32
abbrev s_is_stretch : Stmt := top 33
abbrev s_can_be_hushed : Stmt := top 34
abbrev s_can_be_gather : Stmt := top 35
abbrev s_first_bad_part : Stmt := top 36
abbrev s_refuse_bad_rules : Stmt := top 37
abbrev s_refuse_bad_person : Stmt := top 38
abbrev s_refuse_bad_moment : Stmt := top 39
abbrev s_can_be_notice : Stmt := top 40
abbrev s_refuse_bad_notices : Stmt := top 41
abbrev s_can_be_hear : Stmt := top 42
abbrev s_refuse_bad_hears : Stmt := top 43
abbrev s_is_in_stretch : Stmt := top 46
abbrev s_hushed_hours : Stmt := top 47
abbrev s_judged_hours : Stmt := top 48
abbrev s_first_free : Stmt := top 49
abbrev s_hushed_ahead_of : Stmt := top 50
abbrev s_is_hushed : Stmt := top 51
abbrev s_free_from : Stmt := top 52
abbrev s_hushed_between : Stmt := top 53
abbrev s_row_of : Stmt := top 60
abbrev s_written : Stmt := top 61
abbrev s_judged_course : Stmt := top 68
abbrev s_walked : Stmt := top 69
abbrev s_wheeled : Stmt := top 70
abbrev s_chain : Stmt := top 71
abbrev s_law_begun : Stmt := top 73
abbrev s_law_take : Stmt := top 74
abbrev s_law_alike : Stmt := top 75
abbrev s_law_told : Stmt := top 76
abbrev s_law_all : Stmt := top 77
abbrev s_law_stretches : Stmt := top 78
abbrev s_law_rule : Stmt := top 79
abbrev s_law_rules : Stmt := top 80
abbrev s_law_odd_part : Stmt := top 81
abbrev s_law_bad : Stmt := top 82
abbrev s_law : Stmt := top 83
theorem sc_is_number : FnScope ["x"] ["x"] (defScope s_is_number) := ⟨rfl, rfl, rfl, by decide +kernel, rfl, by decide +kernel, by decide +kernel⟩
theorem sc_is_whole : FnScope ["x", "low", "high"] ["x", "low", "high"] (defScope s_is_whole) := ⟨rfl, rfl, rfl, by decide +kernel, rfl, by decide +kernel, by decide +kernel⟩
theorem sc_is_tuple_of : FnScope ["x", "many"] ["x", "many"] (defScope s_is_tuple_of) := ⟨rfl, rfl, rfl, by decide +kernel, rfl, by decide +kernel, by decide +kernel⟩
theorem sc_is_tuple_up_to : FnScope ["x", "most"] ["x", "most"] (defScope s_is_tuple_up_to) := ⟨rfl, rfl, rfl, by decide +kernel, rfl, by decide +kernel, by decide +kernel⟩
theorem sc_is_stretch : FnScope ["x", "begin", "end"] ["x"] (defScope s_is_stretch) := ⟨rfl, rfl, rfl, by decide +kernel, rfl, by decide +kernel, by decide +kernel⟩
theorem sc_can_be_hushed : FnScope ["hushed", "x"] ["hushed"] (defScope s_can_be_hushed) := ⟨rfl, rfl, rfl, by decide +kernel, rfl, by decide +kernel, by decide +kernel⟩
theorem sc_can_be_gather : FnScope ["gather", "lowest", "pair", "kind", "span"] ["gather"] (defScope s_can_be_gather) := ⟨rfl, rfl, rfl, by decide +kernel, rfl, by decide +kernel, by decide +kernel⟩
theorem sc_first_bad_part : FnScope ["row", "many", "hushed", "least", "gather", "wait", "further", "fits"] ["row", "many"] (defScope s_first_bad_part) := ⟨rfl, rfl, rfl, by decide +kernel, rfl, by decide +kernel, by decide +kernel⟩
theorem sc_refuse_bad_rules : FnScope ["rules", "many", "person", "part"] ["rules"] (defScope s_refuse_bad_rules) := ⟨rfl, rfl, rfl, by decide +kernel, rfl, by decide +kernel, by decide +kernel⟩
theorem sc_refuse_bad_person : FnScope ["rules", "person"] ["rules", "person"] (defScope s_refuse_bad_person) := ⟨rfl, rfl, rfl, by decide +kernel, rfl, by decide +kernel, by decide +kernel⟩
theorem sc_refuse_bad_moment : FnScope ["moment", "last"] ["moment", "last"] (defScope s_refuse_bad_moment) := ⟨rfl, rfl, rfl, by decide +kernel, rfl, by decide +kernel, by decide +kernel⟩
theorem sc_can_be_notice : FnScope ["row", "many_persons", "earliest", "person", "rank", "kind", "born", "fits"] ["row", "many_persons", "earliest"] (defScope s_can_be_notice) := ⟨rfl, rfl, rfl, by decide +kernel, rfl, by decide +kernel, by decide +kernel⟩
theorem sc_refuse_bad_notices : FnScope ["rules", "notices", "earliest", "number", "row"] ["rules", "notices"] (defScope s_refuse_bad_notices) := ⟨rfl, rfl, rfl, by decide +kernel, rfl, by decide +kernel, by decide +kernel⟩
theorem sc_can_be_hear : FnScope ["row", "many_persons", "many_notices", "earliest", "moment", "person", "notice", "fits"] ["row", "many_persons", "many_notices", "earliest"] (defScope s_can_be_hear) := ⟨rfl, rfl, rfl, by decide +kernel, rfl, by decide +kernel, by decide +kernel⟩
theorem sc_refuse_bad_hears : FnScope ["rules", "notices", "hears", "earliest", "number", "row"] ["rules", "notices", "hears"] (defScope s_refuse_bad_hears) := ⟨rfl, rfl, rfl, by decide +kernel, rfl, by decide +kernel, by decide +kernel⟩
theorem sc_is_in_stretch : FnScope ["hour", "begin", "end"] ["hour", "begin", "end"] (defScope s_is_in_stretch) := ⟨rfl, rfl, rfl, by decide +kernel, rfl, by decide +kernel, by decide +kernel⟩
theorem sc_hushed_hours : FnScope ["hushed", "begin", "end", "hour"] ["hushed"] (defScope s_hushed_hours) := ⟨rfl, rfl, rfl, by decide +kernel, rfl, by decide +kernel, by decide +kernel⟩
theorem sc_judged_hours : FnScope ["rules", "person"] ["rules", "person"] (defScope s_judged_hours) := ⟨rfl, rfl, rfl, by decide +kernel, rfl, by decide +kernel, by decide +kernel⟩
theorem sc_is_hushed : FnScope ["rules", "person", "moment", "hours"] ["rules", "person", "moment"] (defScope s_is_hushed) := ⟨rfl, rfl, rfl, by decide +kernel, rfl, by decide +kernel, by decide +kernel⟩
theorem sc_free_from : FnScope ["rules", "person", "moment", "hours"] ["rules", "person", "moment"] (defScope s_free_from) := ⟨rfl, rfl, rfl, by decide +kernel, rfl, by decide +kernel, by decide +kernel⟩
theorem sc_hushed_between : FnScope ["rules", "person", "begin", "end", "hours"] ["rules", "person", "begin", "end"] (defScope s_hushed_between) := ⟨rfl, rfl, rfl, by decide +kernel, rfl, by decide +kernel, by decide +kernel⟩
theorem sc_written : FnScope ["rules", "notices", "rows", "hushed", "least", "gather", "wait", "further", "stretch", "pair", "notice"] ["rules", "notices"] (defScope s_written) := ⟨rfl, rfl, rfl, by decide +kernel, rfl, by decide +kernel, by decide +kernel⟩
theorem sc_judged_course : FnScope ["rules", "notices", "hears", "until"] ["rules", "notices", "hears", "until"] (defScope s_judged_course) := ⟨rfl, rfl, rfl, by decide +kernel, rfl, by decide +kernel, by decide +kernel⟩
theorem sc_walked : FnScope ["rules", "notices", "hears", "until", "course", "moment"] ["rules", "notices", "hears", "until"] (defScope s_walked) := ⟨rfl, rfl, rfl, by decide +kernel, rfl, by decide +kernel, by decide +kernel⟩
theorem sc_wheeled : FnScope ["rules", "notices", "hears", "until", "course", "moment"] ["rules", "notices", "hears", "until"] (defScope s_wheeled) := ⟨rfl, rfl, rfl, by decide +kernel, rfl, by decide +kernel, by decide +kernel⟩
theorem sc_chain : FnScope ["rules", "person", "persons"] ["rules", "person"] (defScope s_chain) := ⟨rfl, rfl, rfl, by decide +kernel, rfl, by decide +kernel, by decide +kernel⟩
theorem sc_law_begun : FnScope ["_law_script", "_law_stirred", "_law_cell"] ["_law_script"] (defScope s_law_begun) := ⟨rfl, rfl, rfl, by decide +kernel, rfl, by decide +kernel, by decide +kernel⟩
theorem sc_law_take : FnScope ["_law_box", "_law_many", "_law_number"] ["_law_box", "_law_many"] (defScope s_law_take) := ⟨rfl, rfl, rfl, by decide +kernel, rfl, by decide +kernel, by decide +kernel⟩
theorem sc_law_alike : FnScope ["_law_found", "_law_due", "_law_k"] ["_law_found", "_law_due"] (defScope s_law_alike) := ⟨rfl, rfl, rfl, by decide +kernel, rfl, by decide +kernel, by decide +kernel⟩
theorem sc_law_told : FnScope ["_law_work", "e", "_law_kinds", "_law_words", "_law_word"] ["_law_work"] (defScope s_law_told) := ⟨rfl, rfl, rfl, by decide +kernel, rfl, by decide +kernel, by decide +kernel⟩
theorem sc_law_all : FnScope ["_law_works", "_law_due", "_law_work"] ["_law_works", "_law_due"] (defScope s_law_all) := ⟨rfl, rfl, rfl, by decide +kernel, rfl, by decide +kernel, by decide +kernel⟩
theorem sc_law_stretches : FnScope ["_law_box", "_law_found", "_law_turn", "_law_begin"] ["_law_box"] (defScope s_law_stretches) := ⟨rfl, rfl, rfl, by decide +kernel, rfl, by decide +kernel, by decide +kernel⟩
theorem sc_law_rule : FnScope ["_law_box", "_law_many", "_law_gather", "_law_kind", "_law_wait", "_law_further"] ["_law_box", "_law_many"] (defScope s_law_rule) := ⟨rfl, rfl, rfl, by decide +kernel, rfl, by decide +kernel, by decide +kernel⟩
theorem sc_law_rules : FnScope ["_law_box", "_law_many", "_law_person"] ["_law_box"] (defScope s_law_rules) := ⟨rfl, rfl, rfl, by decide +kernel, rfl, by decide +kernel, by decide +kernel⟩
theorem sc_law_odd_part : FnScope ["_law_box", "_law_rule_here", "_law_many", "_law_hushed", "_law_least", "_law_gather", "_law_wait", "_law_further", "_law_far", "_law_part", "_law_pair", "_law_heap", "_law_some", "_law_k"] ["_law_box", "_law_rule_here", "_law_many"] (defScope s_law_odd_part) := ⟨rfl, rfl, rfl, by decide +kernel, rfl, by decide +kernel, by decide +kernel⟩
theorem sc_law_bad : FnScope ["_law_box", "_law_rules_here", "_law_far", "_law_way", "_law_plain", "_law_at", "_law_odd", "_law_part", "_law_behind"] ["_law_box", "_law_rules_here"] (defScope s_law_bad) := ⟨rfl, rfl, rfl, by decide +kernel, rfl, by decide +kernel, by decide +kernel⟩
theorem sc_law : FnScope ["_law_script", "_law_box", "_law_turn", "_law_rules_here", "_law_bad_here", "_law_person", "_law_part", "_law_works"] ["_law_script"] (defScope s_law) := ⟨rfl, rfl, rfl, by decide +kernel, rfl, by decide +kernel, by decide +kernel⟩
abbrev s_Person___init__ : Stmt := inClass (top 63) 0
theorem sc_Person___init__ : FnScope ["self", "row", "hushed", "gather"] ["self", "row"] (defScope s_Person___init__) := ⟨rfl, rfl, rfl, by decide +kernel, rfl, by decide +kernel, by decide +kernel⟩
abbrev s_Person_lets_by : Stmt := inClass (top 63) 1
theorem sc_Person_lets_by : FnScope ["self", "rank", "moment"] ["self", "rank", "moment"] (defScope s_Person_lets_by) := ⟨rfl, rfl, rfl, by decide +kernel, rfl, by decide +kernel, by decide +kernel⟩
abbrev s_Notice___init__ : Stmt := inClass (top 64) 0
theorem sc_Notice___init__ : FnScope ["self", "number", "row"] ["self", "number", "row"] (defScope s_Notice___init__) := ⟨rfl, rfl, rfl, by decide +kernel, rfl, by decide +kernel, by decide +kernel⟩
abbrev s_Notice_fate : Stmt := inClass (top 64) 1
theorem sc_Notice_fate : FnScope ["self", "person", "moment"] ["self"] (defScope s_Notice_fate) := ⟨rfl, rfl, rfl, by decide +kernel, rfl, by decide +kernel, by decide +kernel⟩
abbrev s_Course___init__ : Stmt := inClass (top 65) 0
theorem sc_Course___init__ : FnScope ["self", "rules", "notices", "hears", "row", "number"] ["self", "rules", "notices", "hears"] (defScope s_Course___init__) := ⟨rfl, rfl, rfl, by decide +kernel, rfl, by decide +kernel, by decide +kernel⟩
abbrev s_Course_pass_moment : Stmt := inClass (top 65) 1
theorem sc_Course_pass_moment : FnScope ["self", "moment", "notice"] ["self", "moment"] (defScope s_Course_pass_moment) := ⟨rfl, rfl, rfl, by decide +kernel, rfl, by decide +kernel, by decide +kernel⟩
abbrev s_Course_take_hears : Stmt := inClass (top 65) 2
theorem sc_Course_take_hears : FnScope ["self", "moment", "when", "person", "number", "notice"] ["self", "moment"] (defScope s_Course_take_hears) := ⟨rfl, rfl, rfl, by decide +kernel, rfl, by decide +kernel, by decide +kernel⟩
abbrev s_Course_shut_heaps : Stmt := inClass (top 65) 3
theorem sc_Course_shut_heaps : FnScope ["self", "moment", "key", "end", "notices"] ["self", "moment"] (defScope s_Course_shut_heaps) := ⟨rfl, rfl, rfl, by decide +kernel, rfl, by decide +kernel, by decide +kernel⟩
abbrev s_Course_send_on : Stmt := inClass (top 65) 4
theorem sc_Course_send_on : FnScope ["self", "notice", "moment", "further"] ["self", "notice", "moment"] (defScope s_Course_send_on) := ⟨rfl, rfl, rfl, by decide +kernel, rfl, by decide +kernel, by decide +kernel⟩
abbrev s_Course_bring : Stmt := inClass (top 65) 5
theorem sc_Course_bring : FnScope ["self", "notice", "person", "moment", "span", "key"] ["self", "notice", "person", "moment"] (defScope s_Course_bring) := ⟨rfl, rfl, rfl, by decide +kernel, rfl, by decide +kernel, by decide +kernel⟩
abbrev s_Course_tell_ready : Stmt := inClass (top 65) 6
theorem sc_Course_tell_ready : FnScope ["self", "moment", "staying", "person", "notices", "left", "notice"] ["self", "moment"] (defScope s_Course_tell_ready) := ⟨rfl, rfl, rfl, by decide +kernel, rfl, by decide +kernel, by decide +kernel⟩
abbrev s_Course_tell : Stmt := inClass (top 65) 7
theorem sc_Course_tell : FnScope ["self", "notices", "person", "moment", "numbers", "notice", "wait"] ["self", "notices", "person", "moment"] (defScope s_Course_tell) := ⟨rfl, rfl, rfl, by decide +kernel, rfl, by decide +kernel, by decide +kernel⟩
abbrev s_Course_next_moment : Stmt := inClass (top 65) 8
abbrev s_Course_outcome : Stmt := inClass (top 65) 9
theorem sc_Course_outcome : FnScope ["self", "notice"] ["self"] (defScope s_Course_outcome) := ⟨rfl, rfl, rfl, by decide +kernel, rfl, by decide +kernel, by decide +kernel⟩
open He in
structure Tx (K : PySem.W.Frag) (mg : Str → Option Value) where
  fd_is_number : FuncData
  F_is_number : FnP K "is_number" s_is_number (ga K "is_number") fd_is_number
  fd_is_whole : FuncData
  F_is_whole : FnP K "is_whole" s_is_whole (ga K "is_whole") fd_is_whole
  fd_is_tuple_of : FuncData
  F_is_tuple_of : FnP K "is_tuple_of" s_is_tuple_of (ga K "is_tuple_of") fd_is_tuple_of
  fd_is_tuple_up_to : FuncData
  F_is_tuple_up_to : FnP K "is_tuple_up_to" s_is_tuple_up_to (ga K "is_tuple_up_to") fd_is_tuple_up_to
  fd_is_stretch : FuncData
  F_is_stretch : FnP K "is_stretch" s_is_stretch (ga K "is_stretch") fd_is_stretch
  fd_can_be_hushed : FuncData
  F_can_be_hushed : FnP K "can_be_hushed" s_can_be_hushed (ga K "can_be_hushed") fd_can_be_hushed
  fd_can_be_gather : FuncData
  F_can_be_gather : FnP K "can_be_gather" s_can_be_gather (ga K "can_be_gather") fd_can_be_gather
  fd_first_bad_part : FuncData
  F_first_bad_part : FnP K "first_bad_part" s_first_bad_part (ga K "first_bad_part") fd_first_bad_part
  fd_refuse_bad_rules : FuncData
  F_refuse_bad_rules : FnP K "refuse_bad_rules" s_refuse_bad_rules (ga K "refuse_bad_rules") fd_refuse_bad_rules
  fd_refuse_bad_person : FuncData
  F_refuse_bad_person : FnP K "refuse_bad_person" s_refuse_bad_person (ga K "refuse_bad_person") fd_refuse_bad_person
  fd_refuse_bad_moment : FuncData
  F_refuse_bad_moment : FunD K "refuse_bad_moment" "refuse_bad_moment" (defArgs s_refuse_bad_moment) (defBody s_refuse_bad_moment) (defScope s_refuse_bad_moment) [V.int (1000000)] [] (ga K "refuse_bad_moment") fd_refuse_bad_moment
  fd_can_be_notice : FuncData
  F_can_be_notice : FnP K "can_be_notice" s_can_be_notice (ga K "can_be_notice") fd_can_be_notice
  fd_refuse_bad_notices : FuncData
  F_refuse_bad_notices : FnP K "refuse_bad_notices" s_refuse_bad_notices (ga K "refuse_bad_notices") fd_refuse_bad_notices
  fd_can_be_hear : FuncData
  F_can_be_hear : FnP K "can_be_hear" s_can_be_hear (ga K "can_be_hear") fd_can_be_hear
  fd_refuse_bad_hears : FuncData
  F_refuse_bad_hears : FnP K "refuse_bad_hears" s_refuse_bad_hears (ga K "refuse_bad_hears") fd_refuse_bad_hears
  fd_is_in_stretch : FuncData
  F_is_in_stretch : FnP K "is_in_stretch" s_is_in_stretch (ga K "is_in_stretch") fd_is_in_stretch
  fd_hushed_hours : FuncData
  F_hushed_hours : FnP K "hushed_hours" s_hushed_hours (ga K "hushed_hours") fd_hushed_hours
  fd_judged_hours : FuncData
  F_judged_hours : FnP K "judged_hours" s_judged_hours (ga K "judged_hours") fd_judged_hours
  fd_first_free : FuncData
  F_first_free : FnP K "first_free" s_first_free (ga K "first_free") fd_first_free
  fd_hushed_ahead_of : FuncData
  F_hushed_ahead_of : FnP K "hushed_ahead_of" s_hushed_ahead_of (ga K "hushed_ahead_of") fd_hushed_ahead_of
  fd_is_hushed : FuncData
  F_is_hushed : FnP K "is_hushed" s_is_hushed (ga K "is_hushed") fd_is_hushed
  fd_free_from : FuncData
  F_free_from : FnP K "free_from" s_free_from (ga K "free_from") fd_free_from
  fd_hushed_between : FuncData
  F_hushed_between : FnP K "hushed_between" s_hushed_between (ga K "hushed_between") fd_hushed_between
  fd_row_of : FuncData
  F_row_of : FnP K "row_of" s_row_of (ga K "row_of") fd_row_of
  fd_written : FuncData
  F_written : FnP K "written" s_written (ga K "written") fd_written
  fd_judged_course : FuncData
  F_judged_course : FnP K "judged_course" s_judged_course (ga K "judged_course") fd_judged_course
  fd_walked : FuncData
  F_walked : FunD K "walked" "walked" (defArgs s_walked) (defBody s_walked) (defScope s_walked) [] [("hears", V.ref (kwAt "walked" "hears" K)), ("until", V.int (600))] (ga K "walked") fd_walked
  fd_wheeled : FuncData
  F_wheeled : FunD K "wheeled" "wheeled" (defArgs s_wheeled) (defBody s_wheeled) (defScope s_wheeled) [] [("hears", V.ref (kwAt "wheeled" "hears" K)), ("until", V.int (600))] (ga K "wheeled") fd_wheeled
  fd_chain : FuncData
  F_chain : FnP K "chain" s_chain (ga K "chain") fd_chain
  fd__law_begun : FuncData
  F__law_begun : FnP K "_law_begun" s_law_begun (ga K "_law_begun") fd__law_begun
  fd__law_take : FuncData
  F__law_take : FnP K "_law_take" s_law_take (ga K "_law_take") fd__law_take
  fd__law_alike : FuncData
  F__law_alike : FnP K "_law_alike" s_law_alike (ga K "_law_alike") fd__law_alike
  fd__law_told : FuncData
  F__law_told : FnP K "_law_told" s_law_told (ga K "_law_told") fd__law_told
  fd__law_all : FuncData
  F__law_all : FnP K "_law_all" s_law_all (ga K "_law_all") fd__law_all
  fd__law_stretches : FuncData
  F__law_stretches : FnP K "_law_stretches" s_law_stretches (ga K "_law_stretches") fd__law_stretches
  fd__law_rule : FuncData
  F__law_rule : FnP K "_law_rule" s_law_rule (ga K "_law_rule") fd__law_rule
  fd__law_rules : FuncData
  F__law_rules : FnP K "_law_rules" s_law_rules (ga K "_law_rules") fd__law_rules
  fd__law_odd_part : FuncData
  F__law_odd_part : FnP K "_law_odd_part" s_law_odd_part (ga K "_law_odd_part") fd__law_odd_part
  fd__law_bad : FuncData
  F__law_bad : FnP K "_law_bad" s_law_bad (ga K "_law_bad") fd__law_bad
  fd_law : FuncData
  F_law : FnP K "law" s_law (ga K "law") fd_law
  g_is_number : mg "is_number" = some (.ref (ga K "is_number"))
  k_is_number : PySem.W.keepIn K (.ref (ga K "is_number")) = true
  g_is_whole : mg "is_whole" = some (.ref (ga K "is_whole"))
  k_is_whole : PySem.W.keepIn K (.ref (ga K "is_whole")) = true
  g_is_tuple_of : mg "is_tuple_of" = some (.ref (ga K "is_tuple_of"))
  k_is_tuple_of : PySem.W.keepIn K (.ref (ga K "is_tuple_of")) = true
  g_is_tuple_up_to : mg "is_tuple_up_to" = some (.ref (ga K "is_tuple_up_to"))
  k_is_tuple_up_to : PySem.W.keepIn K (.ref (ga K "is_tuple_up_to")) = true
  g_is_stretch : mg "is_stretch" = some (.ref (ga K "is_stretch"))
  k_is_stretch : PySem.W.keepIn K (.ref (ga K "is_stretch")) = true
  g_can_be_hushed : mg "can_be_hushed" = some (.ref (ga K "can_be_hushed"))
  k_can_be_hushed : PySem.W.keepIn K (.ref (ga K "can_be_hushed")) = true
  g_can_be_gather : mg "can_be_gather" = some (.ref (ga K "can_be_gather"))
  k_can_be_gather : PySem.W.keepIn K (.ref (ga K "can_be_gather")) = true
  g_first_bad_part : mg "first_bad_part" = some (.ref (ga K "first_bad_part"))
  k_first_bad_part : PySem.W.keepIn K (.ref (ga K "first_bad_part")) = true
  g_refuse_bad_rules : mg "refuse_bad_rules" = some (.ref (ga K "refuse_bad_rules"))
  k_refuse_bad_rules : PySem.W.keepIn K (.ref (ga K "refuse_bad_rules")) = true
  g_refuse_bad_person : mg "refuse_bad_person" = some (.ref (ga K "refuse_bad_person"))
  k_refuse_bad_person : PySem.W.keepIn K (.ref (ga K "refuse_bad_person")) = true
  g_refuse_bad_moment : mg "refuse_bad_moment" = some (.ref (ga K "refuse_bad_moment"))
  k_refuse_bad_moment : PySem.W.keepIn K (.ref (ga K "refuse_bad_moment")) = true
  g_can_be_notice : mg "can_be_notice" = some (.ref (ga K "can_be_notice"))
  k_can_be_notice : PySem.W.keepIn K (.ref (ga K "can_be_notice")) = true
  g_refuse_bad_notices : mg "refuse_bad_notices" = some (.ref (ga K "refuse_bad_notices"))
  k_refuse_bad_notices : PySem.W.keepIn K (.ref (ga K "refuse_bad_notices")) = true
  g_can_be_hear : mg "can_be_hear" = some (.ref (ga K "can_be_hear"))
  k_can_be_hear : PySem.W.keepIn K (.ref (ga K "can_be_hear")) = true
  g_refuse_bad_hears : mg "refuse_bad_hears" = some (.ref (ga K "refuse_bad_hears"))
  k_refuse_bad_hears : PySem.W.keepIn K (.ref (ga K "refuse_bad_hears")) = true
  g_is_in_stretch : mg "is_in_stretch" = some (.ref (ga K "is_in_stretch"))
  k_is_in_stretch : PySem.W.keepIn K (.ref (ga K "is_in_stretch")) = true
  g_hushed_hours : mg "hushed_hours" = some (.ref (ga K "hushed_hours"))
  k_hushed_hours : PySem.W.keepIn K (.ref (ga K "hushed_hours")) = true
  g_judged_hours : mg "judged_hours" = some (.ref (ga K "judged_hours"))
  k_judged_hours : PySem.W.keepIn K (.ref (ga K "judged_hours")) = true
  g_first_free : mg "first_free" = some (.ref (ga K "first_free"))
  k_first_free : PySem.W.keepIn K (.ref (ga K "first_free")) = true
  g_hushed_ahead_of : mg "hushed_ahead_of" = some (.ref (ga K "hushed_ahead_of"))
  k_hushed_ahead_of : PySem.W.keepIn K (.ref (ga K "hushed_ahead_of")) = true
  g_is_hushed : mg "is_hushed" = some (.ref (ga K "is_hushed"))
  k_is_hushed : PySem.W.keepIn K (.ref (ga K "is_hushed")) = true
  g_free_from : mg "free_from" = some (.ref (ga K "free_from"))
  k_free_from : PySem.W.keepIn K (.ref (ga K "free_from")) = true
  g_hushed_between : mg "hushed_between" = some (.ref (ga K "hushed_between"))
  k_hushed_between : PySem.W.keepIn K (.ref (ga K "hushed_between")) = true
  g_row_of : mg "row_of" = some (.ref (ga K "row_of"))
  k_row_of : PySem.W.keepIn K (.ref (ga K "row_of")) = true
  g_written : mg "written" = some (.ref (ga K "written"))
  k_written : PySem.W.keepIn K (.ref (ga K "written")) = true
  g_judged_course : mg "judged_course" = some (.ref (ga K "judged_course"))
  k_judged_course : PySem.W.keepIn K (.ref (ga K "judged_course")) = true
  g_walked : mg "walked" = some (.ref (ga K "walked"))
  k_walked : PySem.W.keepIn K (.ref (ga K "walked")) = true
  g_wheeled : mg "wheeled" = some (.ref (ga K "wheeled"))
  k_wheeled : PySem.W.keepIn K (.ref (ga K "wheeled")) = true
  g_chain : mg "chain" = some (.ref (ga K "chain"))
  k_chain : PySem.W.keepIn K (.ref (ga K "chain")) = true
  g__law_begun : mg "_law_begun" = some (.ref (ga K "_law_begun"))
  k__law_begun : PySem.W.keepIn K (.ref (ga K "_law_begun")) = true
  g__law_take : mg "_law_take" = some (.ref (ga K "_law_take"))
  k__law_take : PySem.W.keepIn K (.ref (ga K "_law_take")) = true
  g__law_alike : mg "_law_alike" = some (.ref (ga K "_law_alike"))
  k__law_alike : PySem.W.keepIn K (.ref (ga K "_law_alike")) = true
  g__law_told : mg "_law_told" = some (.ref (ga K "_law_told"))
  k__law_told : PySem.W.keepIn K (.ref (ga K "_law_told")) = true
  g__law_all : mg "_law_all" = some (.ref (ga K "_law_all"))
  k__law_all : PySem.W.keepIn K (.ref (ga K "_law_all")) = true
  g__law_stretches : mg "_law_stretches" = some (.ref (ga K "_law_stretches"))
  k__law_stretches : PySem.W.keepIn K (.ref (ga K "_law_stretches")) = true
  g__law_rule : mg "_law_rule" = some (.ref (ga K "_law_rule"))
  k__law_rule : PySem.W.keepIn K (.ref (ga K "_law_rule")) = true
  g__law_rules : mg "_law_rules" = some (.ref (ga K "_law_rules"))
  k__law_rules : PySem.W.keepIn K (.ref (ga K "_law_rules")) = true
  g__law_odd_part : mg "_law_odd_part" = some (.ref (ga K "_law_odd_part"))
  k__law_odd_part : PySem.W.keepIn K (.ref (ga K "_law_odd_part")) = true
  g__law_bad : mg "_law_bad" = some (.ref (ga K "_law_bad"))
  k__law_bad : PySem.W.keepIn K (.ref (ga K "_law_bad")) = true
  g_law : mg "law" = some (.ref (ga K "law"))
  k_law : PySem.W.keepIn K (.ref (ga K "law")) = true
  g_NoticeError : mg "NoticeError" = some (.ref (ga K "NoticeError"))
  k_NoticeError : PySem.W.keepIn K (.ref (ga K "NoticeError")) = true
  g_BadRules : mg "BadRules" = some (.ref (ga K "BadRules"))
  k_BadRules : PySem.W.keepIn K (.ref (ga K "BadRules")) = true
  g_BadPerson : mg "BadPerson" = some (.ref (ga K "BadPerson"))
  k_BadPerson : PySem.W.keepIn K (.ref (ga K "BadPerson")) = true
  g_BadMoment : mg "BadMoment" = some (.ref (ga K "BadMoment"))
  k_BadMoment : PySem.W.keepIn K (.ref (ga K "BadMoment")) = true
  g_BadNotices : mg "BadNotices" = some (.ref (ga K "BadNotices"))
  k_BadNotices : PySem.W.keepIn K (.ref (ga K "BadNotices")) = true
  g_BadHears : mg "BadHears" = some (.ref (ga K "BadHears"))
  k_BadHears : PySem.W.keepIn K (.ref (ga K "BadHears")) = true
  g_BadDevice : mg "BadDevice" = some (.ref (ga K "BadDevice"))
  k_BadDevice : PySem.W.keepIn K (.ref (ga K "BadDevice")) = true
  g_BadBell : mg "BadBell" = some (.ref (ga K "BadBell"))
  k_BadBell : PySem.W.keepIn K (.ref (ga K "BadBell")) = true
  g_NotRinging : mg "NotRinging" = some (.ref (ga K "NotRinging"))
  k_NotRinging : PySem.W.keepIn K (.ref (ga K "NotRinging")) = true
  g_IsOff : mg "IsOff" = some (.ref (ga K "IsOff"))
  k_IsOff : PySem.W.keepIn K (.ref (ga K "IsOff")) = true
  g_BadText : mg "BadText" = some (.ref (ga K "BadText"))
  k_BadText : PySem.W.keepIn K (.ref (ga K "BadText")) = true
  g_Person : mg "Person" = some (.ref (ga K "Person"))
  k_Person : PySem.W.keepIn K (.ref (ga K "Person")) = true
  g_Notice : mg "Notice" = some (.ref (ga K "Notice"))
  k_Notice : PySem.W.keepIn K (.ref (ga K "Notice")) = true
  g_Course : mg "Course" = some (.ref (ga K "Course"))
  k_Course : PySem.W.keepIn K (.ref (ga K "Course")) = true
  x_NoticeError : PySem.W.excIn K (ga K "NoticeError") veBase "ValueError.__new__" = true
  e_NoticeError : PySem.W.subIn K (.ref (ga K "NoticeError")) (.type "BaseException") = some true
  t_NoticeError : PySem.W.typeIn K (.ref (ga K "NoticeError")) = some (.type "type")
  x_BadPerson : PySem.W.excIn K (ga K "BadPerson") veBase "ValueError.__new__" = true
  e_BadPerson : PySem.W.subIn K (.ref (ga K "BadPerson")) (.type "BaseException") = some true
  t_BadPerson : PySem.W.typeIn K (.ref (ga K "BadPerson")) = some (.type "type")
  x_BadMoment : PySem.W.excIn K (ga K "BadMoment") veBase "ValueError.__new__" = true
  e_BadMoment : PySem.W.subIn K (.ref (ga K "BadMoment")) (.type "BaseException") = some true
  t_BadMoment : PySem.W.typeIn K (.ref (ga K "BadMoment")) = some (.type "type")
  x_BadDevice : PySem.W.excIn K (ga K "BadDevice") veBase "ValueError.__new__" = true
  e_BadDevice : PySem.W.subIn K (.ref (ga K "BadDevice")) (.type "BaseException") = some true
  t_BadDevice : PySem.W.typeIn K (.ref (ga K "BadDevice")) = some (.type "type")
  x_BadBell : PySem.W.excIn K (ga K "BadBell") veBase "ValueError.__new__" = true
  e_BadBell : PySem.W.subIn K (.ref (ga K "BadBell")) (.type "BaseException") = some true
  t_BadBell : PySem.W.typeIn K (.ref (ga K "BadBell")) = some (.type "type")
  x_NotRinging : PySem.W.excIn K (ga K "NotRinging") veBase "ValueError.__new__" = true
  e_NotRinging : PySem.W.subIn K (.ref (ga K "NotRinging")) (.type "BaseException") = some true
  t_NotRinging : PySem.W.typeIn K (.ref (ga K "NotRinging")) = some (.type "type")
  x_IsOff : PySem.W.excIn K (ga K "IsOff") veBase "ValueError.__new__" = true
  e_IsOff : PySem.W.subIn K (.ref (ga K "IsOff")) (.type "BaseException") = some true
  t_IsOff : PySem.W.typeIn K (.ref (ga K "IsOff")) = some (.type "type")
  i_MOST_PERSONS : ∃ t, mg "MOST_PERSONS" = some (.int (6) t)
  i_MANY_PARTS : ∃ t, mg "MANY_PARTS" = some (.int (5) t)
  i_MOST_STRETCHES : ∃ t, mg "MOST_STRETCHES" = some (.int (3) t)
  i_LAST_HOUR : ∃ t, mg "LAST_HOUR" = some (.int (23) t)
  i_MOST_LEAST : ∃ t, mg "MOST_LEAST" = some (.int (4) t)
  i_MOST_GATHERED : ∃ t, mg "MOST_GATHERED" = some (.int (4) t)
  i_LAST_KIND : ∃ t, mg "LAST_KIND" = some (.int (7) t)
  i_MOST_SPAN : ∃ t, mg "MOST_SPAN" = some (.int (12) t)
  i_MOST_WAIT : ∃ t, mg "MOST_WAIT" = some (.int (24) t)
  i_LAST_MOMENT : ∃ t, mg "LAST_MOMENT" = some (.int (1000000) t)
  i_MOST_NOTICES : ∃ t, mg "MOST_NOTICES" = some (.int (30) t)
  i_LAST_RANK : ∃ t, mg "LAST_RANK" = some (.int (3) t)
  i_LAST_BORN : ∃ t, mg "LAST_BORN" = some (.int (300) t)
  i_MOST_HEARS : ∃ t, mg "MOST_HEARS" = some (.int (60) t)
  i_LAST_HEAR : ∃ t, mg "LAST_HEAR" = some (.int (600) t)
  i_NO_PART : ∃ t, mg "NO_PART" = some (.int (-1) t)
  i_DAY : ∃ t, mg "DAY" = some (.int (24) t)
  i_PERSON : ∃ t, mg "PERSON" = some (.str "person" t)
  i_HUSH : ∃ t, mg "HUSH" = some (.str "hush" t)
  i_GATHER : ∃ t, mg "GATHER" = some (.str "gather" t)
  i_NOTICE : ∃ t, mg "NOTICE" = some (.str "notice" t)
  i_NONE : ∃ t, mg "NONE" = some (.str "-" t)
  i_MOST_UNTIL : ∃ t, mg "MOST_UNTIL" = some (.int (600) t)
  e_walked_hears : EmptyT K (kwAt "walked" "hears" K)
  e_wheeled_hears : EmptyT K (kwAt "wheeled" "hears" K)
  c_Person : Cls K (ga K "Person")
  mk_Person : Mk K (ga K "Person") (ma K (ga K "Person") "__init__")
  n_Person_hours : NoAttr K (ga K "Person") "hours"
  n_Person_spans : NoAttr K (ga K "Person") "spans"
  n_Person_least : NoAttr K (ga K "Person") "least"
  n_Person_wait : NoAttr K (ga K "Person") "wait"
  n_Person_further : NoAttr K (ga K "Person") "further"
  fd_Person___init__ : FuncData
  F_Person___init__ : FnM K "__init__" "Person.__init__" s_Person___init__ (ma K (ga K "Person") "__init__") fd_Person___init__
  M_Person___init__ : Meth K (ga K "Person") "__init__" (ma K (ga K "Person") "__init__")
  fd_Person_lets_by : FuncData
  F_Person_lets_by : FnM K "lets_by" "Person.lets_by" s_Person_lets_by (ma K (ga K "Person") "lets_by") fd_Person_lets_by
  M_Person_lets_by : Meth K (ga K "Person") "lets_by" (ma K (ga K "Person") "lets_by")
  c_Notice : Cls K (ga K "Notice")
  mk_Notice : Mk K (ga K "Notice") (ma K (ga K "Notice") "__init__")
  n_Notice_number : NoAttr K (ga K "Notice") "number"
  n_Notice_went : NoAttr K (ga K "Notice") "went"
  n_Notice_told : NoAttr K (ga K "Notice") "told"
  n_Notice_goes_on : NoAttr K (ga K "Notice") "goes_on"
  n_Notice_heard : NoAttr K (ga K "Notice") "heard"
  n_Notice_given_up : NoAttr K (ga K "Notice") "given_up"
  n_Notice_first : NoAttr K (ga K "Notice") "first"
  n_Notice_rank : NoAttr K (ga K "Notice") "rank"
  n_Notice_kind : NoAttr K (ga K "Notice") "kind"
  n_Notice_born : NoAttr K (ga K "Notice") "born"
  fd_Notice___init__ : FuncData
  F_Notice___init__ : FnM K "__init__" "Notice.__init__" s_Notice___init__ (ma K (ga K "Notice") "__init__") fd_Notice___init__
  M_Notice___init__ : Meth K (ga K "Notice") "__init__" (ma K (ga K "Notice") "__init__")
  fd_Notice_fate : FuncData
  F_Notice_fate : FnM K "fate" "Notice.fate" s_Notice_fate (ma K (ga K "Notice") "fate") fd_Notice_fate
  M_Notice_fate : Meth K (ga K "Notice") "fate" (ma K (ga K "Notice") "fate")
  c_Course : Cls K (ga K "Course")
  mk_Course : Mk K (ga K "Course") (ma K (ga K "Course") "__init__")
  n_Course_persons : NoAttr K (ga K "Course") "persons"
  n_Course_notices : NoAttr K (ga K "Course") "notices"
  n_Course_hears : NoAttr K (ga K "Course") "hears"
  n_Course_heaps : NoAttr K (ga K "Course") "heaps"
  n_Course_ready : NoAttr K (ga K "Course") "ready"
  n_Course_rows : NoAttr K (ga K "Course") "rows"
  fd_Course___init__ : FuncData
  F_Course___init__ : FnM K "__init__" "Course.__init__" s_Course___init__ (ma K (ga K "Course") "__init__") fd_Course___init__
  M_Course___init__ : Meth K (ga K "Course") "__init__" (ma K (ga K "Course") "__init__")
  fd_Course_pass_moment : FuncData
  F_Course_pass_moment : FnM K "pass_moment" "Course.pass_moment" s_Course_pass_moment (ma K (ga K "Course") "pass_moment") fd_Course_pass_moment
  M_Course_pass_moment : Meth K (ga K "Course") "pass_moment" (ma K (ga K "Course") "pass_moment")
  fd_Course_take_hears : FuncData
  F_Course_take_hears : FnM K "take_hears" "Course.take_hears" s_Course_take_hears (ma K (ga K "Course") "take_hears") fd_Course_take_hears
  M_Course_take_hears : Meth K (ga K "Course") "take_hears" (ma K (ga K "Course") "take_hears")
  fd_Course_shut_heaps : FuncData
  F_Course_shut_heaps : FnM K "shut_heaps" "Course.shut_heaps" s_Course_shut_heaps (ma K (ga K "Course") "shut_heaps") fd_Course_shut_heaps
  M_Course_shut_heaps : Meth K (ga K "Course") "shut_heaps" (ma K (ga K "Course") "shut_heaps")
  fd_Course_send_on : FuncData
  F_Course_send_on : FnM K "send_on" "Course.send_on" s_Course_send_on (ma K (ga K "Course") "send_on") fd_Course_send_on
  M_Course_send_on : Meth K (ga K "Course") "send_on" (ma K (ga K "Course") "send_on")
  fd_Course_bring : FuncData
  F_Course_bring : FnM K "bring" "Course.bring" s_Course_bring (ma K (ga K "Course") "bring") fd_Course_bring
  M_Course_bring : Meth K (ga K "Course") "bring" (ma K (ga K "Course") "bring")
  fd_Course_tell_ready : FuncData
  F_Course_tell_ready : FnM K "tell_ready" "Course.tell_ready" s_Course_tell_ready (ma K (ga K "Course") "tell_ready") fd_Course_tell_ready
  M_Course_tell_ready : Meth K (ga K "Course") "tell_ready" (ma K (ga K "Course") "tell_ready")
  fd_Course_tell : FuncData
  F_Course_tell : FnM K "tell" "Course.tell" s_Course_tell (ma K (ga K "Course") "tell") fd_Course_tell
  M_Course_tell : Meth K (ga K "Course") "tell" (ma K (ga K "Course") "tell")
  fd_Course_next_moment : FuncData
  F_Course_next_moment : FnM K "next_moment" "Course.next_moment" s_Course_next_moment (ma K (ga K "Course") "next_moment") fd_Course_next_moment
  M_Course_next_moment : Meth K (ga K "Course") "next_moment" (ma K (ga K "Course") "next_moment")
  fd_Course_outcome : FuncData
  F_Course_outcome : FnM K "outcome" "Course.outcome" s_Course_outcome (ma K (ga K "Course") "outcome") fd_Course_outcome
  M_Course_outcome : Meth K (ga K "Course") "outcome" (ma K (ga K "Course") "outcome")
  z_isinstance : mg "isinstance" = none
  z_bool : mg "bool" = none
  z_int : mg "int" = none
  z_tuple : mg "tuple" = none
  z_list : mg "list" = none
  z_len : mg "len" = none
  z_all : mg "all" = none
  z_any : mg "any" = none
  z_range : mg "range" = none
  z_min : mg "min" = none
  z_max : mg "max" = none
  z_sum : mg "sum" = none
  z_str : mg "str" = none
  z_sorted : mg "sorted" = none
  z_enumerate : mg "enumerate" = none
  z_zip : mg "zip" = none
  z_dict : mg "dict" = none
  z_set : mg "set" = none
  z_ValueError : mg "ValueError" = none
section
variable {K : PySem.W.Frag} {mg : Str → Option Value}
theorem b_is_number (T : Tx K mg) : Binds K T.fd_is_number ["x"] [] := FunD.bindsN T.F_is_number fun _ _ _ _ _ _ us hl => match us, hl with | [_], _ => rfl
theorem b_is_whole (T : Tx K mg) : Binds K T.fd_is_whole ["x", "low", "high"] [] := FunD.bindsN T.F_is_whole fun _ _ _ _ _ _ us hl => match us, hl with | [_, _, _], _ => rfl
theorem b_is_tuple_of (T : Tx K mg) : Binds K T.fd_is_tuple_of ["x", "many"] [] := FunD.bindsN T.F_is_tuple_of fun _ _ _ _ _ _ us hl => match us, hl with | [_, _], _ => rfl
theorem b_is_tuple_up_to (T : Tx K mg) : Binds K T.fd_is_tuple_up_to ["x", "most"] [] := FunD.bindsN T.F_is_tuple_up_to fun _ _ _ _ _ _ us hl => match us, hl with | [_, _], _ => rfl
theorem b_is_stretch (T : Tx K mg) : Binds K T.fd_is_stretch ["x"] [] := FunD.bindsN T.F_is_stretch fun _ _ _ _ _ _ us hl => match us, hl with | [_], _ => rfl
theorem b_can_be_hushed (T : Tx K mg) : Binds K T.fd_can_be_hushed ["hushed"] [] := FunD.bindsN T.F_can_be_hushed fun _ _ _ _ _ _ us hl => match us, hl with | [_], _ => rfl
theorem b_can_be_gather (T : Tx K mg) : Binds K T.fd_can_be_gather ["gather"] [] := FunD.bindsN T.F_can_be_gather fun _ _ _ _ _ _ us hl => match us, hl with | [_], _ => rfl
theorem b_first_bad_part (T : Tx K mg) : Binds K T.fd_first_bad_part ["row", "many"] [] := FunD.bindsN T.F_first_bad_part fun _ _ _ _ _ _ us hl => match us, hl with | [_, _], _ => rfl
theorem b_refuse_bad_rules (T : Tx K mg) : Binds K T.fd_refuse_bad_rules ["rules"] [] := FunD.bindsN T.F_refuse_bad_rules fun _ _ _ _ _ _ us hl => match us, hl with | [_], _ => rfl
theorem b_refuse_bad_person (T : Tx K mg) : Binds K T.fd_refuse_bad_person ["rules", "person"] [] := FunD.bindsN T.F_refuse_bad_person fun _ _ _ _ _ _ us hl => match us, hl with | [_, _], _ => rfl
theorem bd_refuse_bad_moment_2 (T : Tx K mg) : ∃ ds, Vals [] ds ∧ Binds K T.fd_refuse_bad_moment ["moment", "last"] ds := FunD.binds1 T.F_refuse_bad_moment (ps := ["moment", "last"]) 2 1 (by simp) rfl fun T0 kV doc pm an cdv ct us its h1 h2 => match us, its, h1, h2 with | [_, _], [_], _, _ => ⟨_, rfl, rfl⟩
theorem b_can_be_notice (T : Tx K mg) : Binds K T.fd_can_be_notice ["row", "many_persons", "earliest"] [] := FunD.bindsN T.F_can_be_notice fun _ _ _ _ _ _ us hl => match us, hl with | [_, _, _], _ => rfl
theorem b_refuse_bad_notices (T : Tx K mg) : Binds K T.fd_refuse_bad_notices ["rules", "notices"] [] := FunD.bindsN T.F_refuse_bad_notices fun _ _ _ _ _ _ us hl => match us, hl with | [_, _], _ => rfl
theorem b_can_be_hear (T : Tx K mg) : Binds K T.fd_can_be_hear ["row", "many_persons", "many_notices", "earliest"] [] := FunD.bindsN T.F_can_be_hear fun _ _ _ _ _ _ us hl => match us, hl with | [_, _, _, _], _ => rfl
theorem b_refuse_bad_hears (T : Tx K mg) : Binds K T.fd_refuse_bad_hears ["rules", "notices", "hears"] [] := FunD.bindsN T.F_refuse_bad_hears fun _ _ _ _ _ _ us hl => match us, hl with | [_, _, _], _ => rfl
theorem b_is_in_stretch (T : Tx K mg) : Binds K T.fd_is_in_stretch ["hour", "begin", "end"] [] := FunD.bindsN T.F_is_in_stretch fun _ _ _ _ _ _ us hl => match us, hl with | [_, _, _], _ => rfl
theorem b_hushed_hours (T : Tx K mg) : Binds K T.fd_hushed_hours ["hushed"] [] := FunD.bindsN T.F_hushed_hours fun _ _ _ _ _ _ us hl => match us, hl with | [_], _ => rfl
theorem b_judged_hours (T : Tx K mg) : Binds K T.fd_judged_hours ["rules", "person"] [] := FunD.bindsN T.F_judged_hours fun _ _ _ _ _ _ us hl => match us, hl with | [_, _], _ => rfl
theorem b_is_hushed (T : Tx K mg) : Binds K T.fd_is_hushed ["rules", "person", "moment"] [] := FunD.bindsN T.F_is_hushed fun _ _ _ _ _ _ us hl => match us, hl with | [_, _, _], _ => rfl
theorem b_free_from (T : Tx K mg) : Binds K T.fd_free_from ["rules", "person", "moment"] [] := FunD.bindsN T.F_free_from fun _ _ _ _ _ _ us hl => match us, hl with | [_, _, _], _ => rfl
theorem b_hushed_between (T : Tx K mg) : Binds K T.fd_hushed_between ["rules", "person", "begin", "end"] [] := FunD.bindsN T.F_hushed_between fun _ _ _ _ _ _ us hl => match us, hl with | [_, _, _, _], _ => rfl
theorem b_written (T : Tx K mg) : Binds K T.fd_written ["rules", "notices"] [] := FunD.bindsN T.F_written fun _ _ _ _ _ _ us hl => match us, hl with | [_, _], _ => rfl
theorem b_judged_course (T : Tx K mg) : Binds K T.fd_judged_course ["rules", "notices", "hears", "until"] [] := FunD.bindsN T.F_judged_course fun _ _ _ _ _ _ us hl => match us, hl with | [_, _, _, _], _ => rfl
theorem b_chain (T : Tx K mg) : Binds K T.fd_chain ["rules", "person"] [] := FunD.bindsN T.F_chain fun _ _ _ _ _ _ us hl => match us, hl with | [_, _], _ => rfl
theorem b_law_begun (T : Tx K mg) : Binds K T.fd__law_begun ["_law_script"] [] := FunD.bindsN T.F__law_begun fun _ _ _ _ _ _ us hl => match us, hl with | [_], _ => rfl
theorem b_law_take (T : Tx K mg) : Binds K T.fd__law_take ["_law_box", "_law_many"] [] := FunD.bindsN T.F__law_take fun _ _ _ _ _ _ us hl => match us, hl with | [_, _], _ => rfl
theorem b_law_alike (T : Tx K mg) : Binds K T.fd__law_alike ["_law_found", "_law_due"] [] := FunD.bindsN T.F__law_alike fun _ _ _ _ _ _ us hl => match us, hl with | [_, _], _ => rfl
theorem b_law_told (T : Tx K mg) : Binds K T.fd__law_told ["_law_work"] [] := FunD.bindsN T.F__law_told fun _ _ _ _ _ _ us hl => match us, hl with | [_], _ => rfl
theorem b_law_all (T : Tx K mg) : Binds K T.fd__law_all ["_law_works", "_law_due"] [] := FunD.bindsN T.F__law_all fun _ _ _ _ _ _ us hl => match us, hl with | [_, _], _ => rfl
theorem b_law_stretches (T : Tx K mg) : Binds K T.fd__law_stretches ["_law_box"] [] := FunD.bindsN T.F__law_stretches fun _ _ _ _ _ _ us hl => match us, hl with | [_], _ => rfl
theorem b_law_rule (T : Tx K mg) : Binds K T.fd__law_rule ["_law_box", "_law_many"] [] := FunD.bindsN T.F__law_rule fun _ _ _ _ _ _ us hl => match us, hl with | [_, _], _ => rfl
theorem b_law_rules (T : Tx K mg) : Binds K T.fd__law_rules ["_law_box"] [] := FunD.bindsN T.F__law_rules fun _ _ _ _ _ _ us hl => match us, hl with | [_], _ => rfl
theorem b_law_odd_part (T : Tx K mg) : Binds K T.fd__law_odd_part ["_law_box", "_law_rule_here", "_law_many"] [] := FunD.bindsN T.F__law_odd_part fun _ _ _ _ _ _ us hl => match us, hl with | [_, _, _], _ => rfl
theorem b_law_bad (T : Tx K mg) : Binds K T.fd__law_bad ["_law_box", "_law_rules_here"] [] := FunD.bindsN T.F__law_bad fun _ _ _ _ _ _ us hl => match us, hl with | [_, _], _ => rfl
theorem kb_walked_u (T : Tx K mg) : ∃ mv : List Value, KBn K T.fd_walked ["rules", "notices", "hears", "until"] 2 ["until"] (fun us ws => us ++ (mv ++ ws)) (fun us ws => us ++ ([V.ref (kwAt "walked" "hears" K)] ++ ws)) := FunD.kbinds0 T.F_walked 2 ["until"] [("hears", V.ref (kwAt "walked" "hears" K))] (fun us mv ws => us ++ (mv ++ ws)) (by simp) (by simp) (fun r1 r2 r3 => r1.append (r2.append r3)) fun D doc pm an cdv ct us mv ws h1 h2 h3 => match us, mv, ws, h1, h2, h3 with | [_, _], [_], [_], _, _, _ => ⟨_, _, _, _, _, _, rfl, rfl, rfl⟩
theorem kb_wheeled_u (T : Tx K mg) : ∃ mv : List Value, KBn K T.fd_wheeled ["rules", "notices", "hears", "until"] 2 ["until"] (fun us ws => us ++ (mv ++ ws)) (fun us ws => us ++ ([V.ref (kwAt "wheeled" "hears" K)] ++ ws)) := FunD.kbinds0 T.F_wheeled 2 ["until"] [("hears", V.ref (kwAt "wheeled" "hears" K))] (fun us mv ws => us ++ (mv ++ ws)) (by simp) (by simp) (fun r1 r2 r3 => r1.append (r2.append r3)) fun D doc pm an cdv ct us mv ws h1 h2 h3 => match us, mv, ws, h1, h2, h3 with | [_, _], [_], [_], _, _, _ => ⟨_, _, _, _, _, _, rfl, rfl, rfl⟩
theorem b_Person___init__ (T : Tx K mg) : Binds K T.fd_Person___init__ ["self", "row"] [] := FunD.bindsN T.F_Person___init__ fun _ _ _ _ _ _ us hl => match us, hl with | [_, _], _ => rfl
theorem b_Person_lets_by (T : Tx K mg) : Binds K T.fd_Person_lets_by ["self", "rank", "moment"] [] := FunD.bindsN T.F_Person_lets_by fun _ _ _ _ _ _ us hl => match us, hl with | [_, _, _], _ => rfl
theorem b_Notice___init__ (T : Tx K mg) : Binds K T.fd_Notice___init__ ["self", "number", "row"] [] := FunD.bindsN T.F_Notice___init__ fun _ _ _ _ _ _ us hl => match us, hl with | [_, _, _], _ => rfl
theorem b_Notice_fate (T : Tx K mg) : Binds K T.fd_Notice_fate ["self"] [] := FunD.bindsN T.F_Notice_fate fun _ _ _ _ _ _ us hl => match us, hl with | [_], _ => rfl
theorem b_Course___init__ (T : Tx K mg) : Binds K T.fd_Course___init__ ["self", "rules", "notices", "hears"] [] := FunD.bindsN T.F_Course___init__ fun _ _ _ _ _ _ us hl => match us, hl with | [_, _, _, _], _ => rfl
theorem b_Course_pass_moment (T : Tx K mg) : Binds K T.fd_Course_pass_moment ["self", "moment"] [] := FunD.bindsN T.F_Course_pass_moment fun _ _ _ _ _ _ us hl => match us, hl with | [_, _], _ => rfl
theorem b_Course_take_hears (T : Tx K mg) : Binds K T.fd_Course_take_hears ["self", "moment"] [] := FunD.bindsN T.F_Course_take_hears fun _ _ _ _ _ _ us hl => match us, hl with | [_, _], _ => rfl
theorem b_Course_shut_heaps (T : Tx K mg) : Binds K T.fd_Course_shut_heaps ["self", "moment"] [] := FunD.bindsN T.F_Course_shut_heaps fun _ _ _ _ _ _ us hl => match us, hl with | [_, _], _ => rfl
theorem b_Course_send_on (T : Tx K mg) : Binds K T.fd_Course_send_on ["self", "notice", "moment"] [] := FunD.bindsN T.F_Course_send_on fun _ _ _ _ _ _ us hl => match us, hl with | [_, _, _], _ => rfl
theorem b_Course_bring (T : Tx K mg) : Binds K T.fd_Course_bring ["self", "notice", "person", "moment"] [] := FunD.bindsN T.F_Course_bring fun _ _ _ _ _ _ us hl => match us, hl with | [_, _, _, _], _ => rfl
theorem b_Course_tell_ready (T : Tx K mg) : Binds K T.fd_Course_tell_ready ["self", "moment"] [] := FunD.bindsN T.F_Course_tell_ready fun _ _ _ _ _ _ us hl => match us, hl with | [_, _], _ => rfl
theorem b_Course_tell (T : Tx K mg) : Binds K T.fd_Course_tell ["self", "notices", "person", "moment"] [] := FunD.bindsN T.F_Course_tell fun _ _ _ _ _ _ us hl => match us, hl with | [_, _, _, _], _ => rfl
theorem b_Course_outcome (T : Tx K mg) : Binds K T.fd_Course_outcome ["self"] [] := FunD.bindsN T.F_Course_outcome fun _ _ _ _ _ _ us hl => match us, hl with | [_], _ => rfl
end
end Hn

set_option Elab.async false
set_option linter.all false
set_option maxRecDepth 100000
set_option maxHeartbeats 8000000
namespace Hn
open PySem PySem.Spec PyProof.Rows L2 Sy Lm
section
variable {P : Program} {w : World} {K : PySem.W.Frag} {mg : Str → Option Value} {base : Heap}
local macro_rules | `(tactic| walk_at "r") => `(tactic| (conv => whnf))
local macro_rules | `(tactic| walk_at "sp") => `(tactic| (first | rfl | contradiction | exact (False.elim ‹_›)))
local macro_rules | `(tactic| walk_at "len") => `(tactic| (exact Nat.le_trans (show _ ≤ 100000 by first | (simp; done) | (rw [rngS_length]; decide)) (by decide)))
local macro_rules | `(tactic| walk_at "f") => `(tactic| (refine Br_i (fun hb => Bool.noConfusion (show false = true from hb)) (fun _ => ?_)))
local macro_rules | `(tactic| walk_at "t") => `(tactic| (refine Br_i (fun _ => ?_) (fun hb => Bool.noConfusion (show true = false from hb))))
local macro_rules | `(tactic| walk_at "le") => `(tactic| first | exact Le.refl _ | (refine Le.put ?_; walk_at "le") | (refine Le.new ?_ (by assumption); walk_at "le"))
def spNum : SpS := fun vs m _ S => match vs with
  | [x] => Dat m x ∧ S (.bl (isInt x)) m
  | _ => False
def isWh (x : SV) (lo hi : Int) : Bool := match x with
  | .int i => decide (lo ≤ i) && decide (i ≤ hi)
  | _ => false
def spWhole : SpS := fun vs m _ S => match vs with
  | [x, .int lo, .int hi] => Dat m x ∧ S (.bl (isWh x lo hi)) m
  | _ => False
def isTupN (x : SV) (n : Int) : Bool := match x with
  | .tup xs => decide ((xs.length : Int) = n)
  | _ => false
def isTupU (x : SV) (n : Int) : Bool := match x with
  | .tup xs => decide ((xs.length : Int) ≤ n)
  | _ => false
def spTupN : SpS := fun vs m _ S => match vs with
  | [x, .int n] => Dat m x ∧ S (.bl (isTupN x n)) m
  | _ => False
def spTupU : SpS := fun vs m _ S => match vs with
  | [x, .int n] => Dat m x ∧ S (.bl (isTupU x n)) m
  | _ => False
theorem ok_is_number (T : Tx K mg) : FnOk P w K mg base CX0 1 (He.ga K "is_number") T.fd_is_number ["x"] (lift K spNum) := by
  refine fn_sy T.F_is_number sc_is_number (fun svs m SX Sv h => ?_) (fun cdv A outer s H E hr => ⟨_, _, (gss_one (gs_ret (ge_and (ge_callB (cr_isi K) sim_isi (by rfl) T.z_isinstance (by decide +kernel) (ga_cons (gv 0) (ga_cons (ge_ty (n := "int") (by rfl) T.z_int (by decide +kernel)) ga_nil))) (ge_one (ge_not (ge_callB (cr_isi K) sim_isi (by rfl) T.z_isinstance (by decide +kernel) (ga_cons (gv 0) (ga_cons (ge_ty (n := "bool") (by rfl) T.z_bool (by decide +kernel)) ga_nil)))))))), fun svs m SX Sv h => ?_⟩)
  · unfold spNum at h
    split at h <;> first | rfl | exact h.elim
  · unfold spNum at h
    split at h
    · obtain ⟨⟨t, ht⟩, q⟩ := h
      have e := tyS_int ht
      walk_at "r"
      refine ⟨by decide, t, ht, ?_⟩
      walk_at "r"
      refine Br_i (fun h1 => ?_) (fun h1 => ?_)
      · walk_at "r"
        refine ⟨by decide, t, ht, ?_⟩
        walk_at "r"
        rw [← e, h1, Bool.true_and] at q
        exact .of q
      · rw [← e, h1, Bool.false_and] at q
        exact .of q
    · exact h.elim
theorem ok_is_whole (T : Tx K mg) : FnOk P w K mg base CX0 2 (He.ga K "is_whole") T.fd_is_whole ["x", "low", "high"] (lift K spWhole) := by
  have G_is_number := ok_is_number (P := P) (w := w) (base := base) T
  have b_is_number := b_is_number T
  refine fn_sy T.F_is_whole sc_is_whole (fun svs m SX Sv h => ?_) (fun cdv A outer s H E hr => ⟨_, _, (gss_one (gs_ret (ge_and (ge_call G_is_number (hr) (by rfl) T.g_is_number T.k_is_number b_is_number .nil (fun _ => .nil) pass0 (ga_cons (gv 0) ga_nil)) (ge_one (ge_chain op_le op_le sim_le sim_le (gv 1) (gv 0) (gv 2)))))), fun svs m SX Sv h => ?_⟩)
  · unfold spWhole at h
    split at h <;> first | rfl | exact h.elim
  · unfold spWhole at h
    split at h
    · obtain ⟨ht, q⟩ := h
      walk_at "r"
      refine ⟨ht, ?_⟩
      walk_at "r"
      refine Br_i (fun h1 => ?_) (fun h1 => ?_)
      · rename_i x _ _
        cases x <;> first | (cases h1; done) | skip
        walk_at "r"
        refine Br_i (fun h2 => ?_) (fun h2 => ?_)
        · walk_at "r"
          unfold isWh at q
          simp only at q
          rw [h2, Bool.true_and] at q
          exact .of q
        · unfold isWh at q
          simp only at q
          rw [h2, Bool.false_and] at q
          exact .of q
      · rename_i x _ _
        cases x <;> first | exact .of q | (cases h1; done)
    · exact h.elim
theorem ok_is_tuple_of (T : Tx K mg) : FnOk P w K mg base CX0 1 (He.ga K "is_tuple_of") T.fd_is_tuple_of ["x", "many"] (lift K spTupN) := by
  refine fn_sy T.F_is_tuple_of sc_is_tuple_of (fun svs m SX Sv h => ?_) (fun cdv A outer s H E hr => ⟨_, _, (gss_one (gs_ret (ge_and (ge_callB (cr_isi K) sim_isi (by rfl) T.z_isinstance (by decide +kernel) (ga_cons (gv 0) (ga_cons (ge_ty (n := "tuple") (by rfl) T.z_tuple (by decide +kernel)) ga_nil))) (ge_one (ge_cmp (op_eqG K hr.units) sim_eq (ge_callB (cr_len K) sim_len (by rfl) T.z_len (by decide +kernel) (ga_cons (gv 0) ga_nil)) (gv 1) (nomark _)))))), fun svs m SX Sv h => ?_⟩)
  · unfold spTupN at h
    split at h <;> first | rfl | exact h.elim
  · unfold spTupN at h
    split at h
    · obtain ⟨⟨t, ht⟩, q⟩ := h
      walk_at "r"
      refine ⟨by decide, t, ht, ?_⟩
      walk_at "r"
      refine Br_i (fun h1 => ?_) (fun h1 => ?_)
      · rename_i x n
        cases x <;> first
          | (exact (show False from ht).elim)
          | (cases (show t = _ from ht); first | (cases h1; done) | skip)
          | (obtain ⟨rfl, _⟩ := (show t = "list" ∧ _ from ht); cases h1; done)
        walk_at "r"
        refine ⟨_, rfl, ?_⟩
        walk_at "r"
        exact .of q
      · rename_i x n
        cases x <;> first
          | exact .of q
          | (cases (show t = _ from ht); cases h1; done)
    · exact h.elim
theorem ok_is_tuple_up_to (T : Tx K mg) : FnOk P w K mg base CX0 1 (He.ga K "is_tuple_up_to") T.fd_is_tuple_up_to ["x", "most"] (lift K spTupU) := by
  refine fn_sy T.F_is_tuple_up_to sc_is_tuple_up_to (fun svs m SX Sv h => ?_) (fun cdv A outer s H E hr => ⟨_, _, (gss_one (gs_ret (ge_and (ge_callB (cr_isi K) sim_isi (by rfl) T.z_isinstance (by decide +kernel) (ga_cons (gv 0) (ga_cons (ge_ty (n := "tuple") (by rfl) T.z_tuple (by decide +kernel)) ga_nil))) (ge_one (ge_cmp op_le sim_le (ge_callB (cr_len K) sim_len (by rfl) T.z_len (by decide +kernel) (ga_cons (gv 0) ga_nil)) (gv 1) (nomark _)))))), fun svs m SX Sv h => ?_⟩)
  · unfold spTupU at h
    split at h <;> first | rfl | exact h.elim
  · unfold spTupU at h
    split at h
    · obtain ⟨⟨t, ht⟩, q⟩ := h
      walk_at "r"
      refine ⟨by decide, t, ht, ?_⟩
      walk_at "r"
      refine Br_i (fun h1 => ?_) (fun h1 => ?_)
      · rename_i x n
        cases x <;> first
          | (exact (show False from ht).elim)
          | (cases (show t = _ from ht); first | (cases h1; done) | skip)
          | (obtain ⟨rfl, _⟩ := (show t = "list" ∧ _ from ht); cases h1; done)
        walk_at "r"
        refine ⟨_, rfl, ?_⟩
        walk_at "r"
        exact .of q
      · rename_i x n
        cases x <;> first
          | exact .of q
          | (cases (show t = _ from ht); cases h1; done)
    · exact h.elim
end
end Hn

set_option Elab.async false
set_option linter.all false
set_option maxRecDepth 100000
set_option maxHeartbeats 8000000
namespace Hn
open PySem PySem.Spec PyProof.Rows L2 Sy Lm
section
variable {P : Program} {w : World} {K : PySem.W.Frag} {mg : Str → Option Value} {base : Heap}
local macro_rules | `(tactic| walk_at "r") => `(tactic| (conv => whnf))
local macro_rules | `(tactic| walk_at "sp") => `(tactic| (first | rfl | contradiction | exact (False.elim ‹_›)))
local macro_rules | `(tactic| walk_at "len") => `(tactic| (exact Nat.le_trans (show _ ≤ 100000 by first | (simp; done) | (rw [rngS_length]; decide)) (by decide)))
local macro_rules | `(tactic| walk_at "f") => `(tactic| (refine Br_i (fun hb => Bool.noConfusion (show false = true from hb)) (fun _ => ?_)))
local macro_rules | `(tactic| walk_at "t") => `(tactic| (refine Br_i (fun _ => ?_) (fun hb => Bool.noConfusion (show true = false from hb))))
local macro_rules | `(tactic| walk_at "le") => `(tactic| first | exact Le.refl _ | (refine Le.put ?_; walk_at "le") | (refine Le.new ?_ (by assumption); walk_at "le"))
def neI : SV → SV → Bool
  | .int a, .int b => !decide (a = b)
  | _, _ => false
def isStr : SV → Bool
  | .tup [x, y] => isWh x 0 23 && (isWh y 0 23 && neI x y)
  | _ => false
theorem wh_int {d : SV} {lo hi : Int} (h : isWh d lo hi = true) : ∃ i, d = .int i ∧ lo ≤ i ∧ i ≤ hi := by
  cases d with
  | int i =>
    simp [isWh] at h
    exact ⟨i, rfl, h.1, h.2⟩
  | _ => cases h
theorem tup2 {x : SV} (h : isTupN x 2 = true) : ∃ a b, x = .tup [a, b] := by
  cases x with
  | tup xs => rcases xs with _ | ⟨a, _ | ⟨b, _ | ⟨c, r⟩⟩⟩ <;> first | exact ⟨_, _, rfl⟩ | (simp [isTupN] at h; done) | (simp [isTupN] at h; omega)
  | _ => cases h
theorem not_tup2 {x : SV} (h : isTupN x 2 = false) : isStr x = false := by
  cases x with
  | tup xs => rcases xs with _ | ⟨a, _ | ⟨b, _ | ⟨c, r⟩⟩⟩ <;> first | rfl | (simp [isTupN] at h; done)
  | _ => rfl
def spStr : SpS := fun vs m _ S => match vs with
  | [x] => DD m x ∧ S (.bl (isStr x)) m
  | _ => False
def canHush : SV → Bool
  | .tup xs => decide ((xs.length : Int) ≤ 3) && xs.all isStr
  | _ => false
def spHush : SpS := fun vs m _ S => match vs with
  | [x] => DD m x ∧ S (.bl (canHush x)) m
  | _ => False
def gath : Int → List SV → Bool
  | _, [] => true
  | lo, .tup [.int k, s] :: r => isWh (.int k) lo 7 && isWh s 1 12 && gath (k + 1) r
  | _, _ :: _ => false
def canGath : SV → Bool
  | .tup ds => decide ((ds.length : Int) ≤ 4) && gath 0 ds
  | _ => false
def spGath : SpS := fun vs m _ S => match vs with
  | [x] => DD m x ∧ S (.bl (canGath x)) m
  | _ => False
theorem line_le {n : Nat} (h : n ≤ 100000) : n ≤ sizeLine := Nat.le_trans h (by decide)
theorem ok_is_stretch (T : Tx K mg) : FnOk P w K mg base CX0 3 (He.ga K "is_stretch") T.fd_is_stretch ["x"] (lift K spStr) := by
  have G_is_tuple_of := ok_is_tuple_of (P := P) (w := w) (base := base) T
  have b_is_tuple_of := b_is_tuple_of T
  have G_is_whole := ok_is_whole (P := P) (w := w) (base := base) T
  have b_is_whole := b_is_whole T
  refine fn_sy T.F_is_stretch sc_is_stretch (fun svs m SX Sv h => ?_) (fun cdv A outer s H E hr => ⟨_, _, (gss_cons (gs_if (gt_not (gt_val (ge_call G_is_tuple_of (hr.mono (by decide)) (by rfl) T.g_is_tuple_of T.k_is_tuple_of b_is_tuple_of .nil (fun _ => .nil) pass0 (ga_cons (gv 0) (ga_cons ge_int ga_nil))))) (gss_one (gs_ret ge_bl)) gss_nil)
      (gss_cons (gs_asg (gv 0) (gg_tup 2 (by rfl) (ggs_cons (gg_name (i := 1) sc_is_stretch.nd rfl (.inl rfl)) (ggs_cons (gg_name (i := 2) sc_is_stretch.nd rfl (.inl rfl)) ggs_nil))))
      (gss_one (gs_ret (ge_and (ge_call G_is_whole (hr) (by rfl) T.g_is_whole T.k_is_whole b_is_whole .nil (fun _ => .nil) pass0 (ga_cons (gv 1) (ga_cons ge_int (ga_cons (ge_gi (by rfl) T.i_LAST_HOUR) ga_nil)))) (ge_and (ge_call G_is_whole (hr) (by rfl) T.g_is_whole T.k_is_whole b_is_whole .nil (fun _ => .nil) pass0 (ga_cons (gv 2) (ga_cons ge_int (ga_cons (ge_gi (by rfl) T.i_LAST_HOUR) ga_nil)))) (ge_one (ge_cmp (op_neG K hr.units) sim_ne (gv 1) (gv 2) (nomark _))))))))), fun svs m SX Sv h => ?_⟩)
  · unfold spStr at h
    split at h <;> first | rfl | exact h.elim
  · unfold spStr at h
    split at h
    · rename_i x
      obtain ⟨hd, q⟩ := h
      walk_at "r"
      refine ⟨hd.dat, ?_⟩
      walk_at "r"
      refine Br_i (fun h1 => ?_) (fun h1 => ?_)
      · walk_at "r"
        rw [not_tup2 (by simpa using h1)] at q
        exact .of q
      · obtain ⟨a, b, rfl⟩ := tup2 (by simpa using h1)
        cases hd with
        | tup hd =>
          walk_at "r"
          refine ⟨rfl, ?_⟩
          walk_at "r"
          refine ⟨(hd.mem (by simp)).dat, ?_⟩
          walk_at "r"
          refine Br_i (fun h2 => ?_) (fun h2 => ?_)
          · walk_at "r"
            refine ⟨(hd.mem (by simp)).dat, ?_⟩
            walk_at "r"
            refine Br_i (fun h3 => ?_) (fun h3 => ?_)
            · obtain ⟨i, rfl, _⟩ := wh_int h2
              obtain ⟨j, rfl, _⟩ := wh_int h3
              walk_at "r"
              rw [show isStr (.tup [.int i, .int j]) = !decide (i = j) by simp only [isStr, h2, h3, Bool.true_and, neI]] at q
              exact .of q
            · rw [show isStr (.tup [a, b]) = false by simp only [isStr, h2, h3, Bool.true_and, Bool.false_and]] at q
              exact .of q
          · rw [show isStr (.tup [a, b]) = false by simp only [isStr, h2, Bool.false_and]] at q
            exact .of q
    · exact h.elim
theorem ok_can_be_hushed (T : Tx K mg) : FnOk P w K mg base CX0 4 (He.ga K "can_be_hushed") T.fd_can_be_hushed ["hushed"] (lift K spHush) := by
  have G_is_stretch := ok_is_stretch (P := P) (w := w) (base := base) T
  have b_is_stretch := b_is_stretch T
  have G_is_tuple_up_to := ok_is_tuple_up_to (P := P) (w := w) (base := base) T
  have b_is_tuple_up_to := b_is_tuple_up_to T
  refine fn_sy T.F_can_be_hushed sc_can_be_hushed (fun svs m SX Sv h => ?_) (fun cdv A outer s H E hr => ⟨_, _, (gss_one (gs_ret (ge_and (ge_call G_is_tuple_up_to (hr.mono (by decide)) (by rfl) T.g_is_tuple_up_to T.k_is_tuple_up_to b_is_tuple_up_to .nil (fun _ => .nil) pass0 (ga_cons (gv 0) (ga_cons (ge_gi (by rfl) T.i_MOST_STRETCHES) ga_nil))) (ge_one (ge_callB (cr_allG K) sim_all (by rfl) T.z_all (by decide +kernel) (ga_cons (ge_lc (own := [("x", 1)]) (by rfl) sc_can_be_hushed.nd (gi_seq (gv 0)) (blkOk_by (own := [("x", 1)]) (N := ["hushed", "x"]) (sc := (defScope s_can_be_hushed)) (by decide +kernel)) (fun _ _ _ _ _ => (gg_name (i := 1) sc_can_be_hushed.nd rfl (.inl rfl))) (wp_name (by decide)) (fun _ _ _ _ _ => gts_nil) (fun _ _ _ _ _ => (ge_call G_is_stretch (hr) (by rfl) T.g_is_stretch T.k_is_stretch b_is_stretch .nil (fun _ => .nil) pass0 (ga_cons (gv 1) ga_nil)))) ga_nil)))))), fun svs m SX Sv h => ?_⟩)
  · unfold spHush at h
    split at h <;> first | rfl | exact h.elim
  · unfold spHush at h
    split at h
    · rename_i x
      obtain ⟨hd, q⟩ := h
      walk_at "r"
      refine ⟨hd.dat, ?_⟩
      walk_at "r"
      refine Br_i (fun h1 => ?_) (fun h1 => ?_)
      · cases x with
        | tup xs =>
          have hl : xs.length ≤ 3 := by simp [isTupU] at h1; omega
          cases hd with
          | tup hd =>
            walk_at "r"
            refine ⟨xs, rfl, line_le (by omega), fun p hp => ?_⟩
            refine lc_map (fun x => .bl (isStr x)) (fun _ => trivial) (fun x hx acc K1 k => ?_) ?_
            · walk_at "r"
              exact ⟨(hd.mem hx).le (Le.new (.refl m) hp), k _ (.refl _)⟩
            · walk_at "r"
              refine ⟨xs.map isStr, ?_, ?_⟩
              · walk_at "r"
                rw [up_same, List.map_map]
                rfl
              · refine ⟨m, Le.new (.refl m) hp, ?_⟩
                rw [show canHush (.tup xs) = (xs.map isStr).all id by
                  show (decide ((xs.length : Int) ≤ 3) && xs.all isStr) = _
                  rw [decide_eq_true (by omega), Bool.true_and, List.all_map]
                  rfl] at q
                exact q
        | _ => cases h1
      · rw [show canHush x = false by
          cases x <;> first | rfl | (show (decide _ && _) = false; rw [show decide _ = false from h1, Bool.false_and])] at q
        exact .of q
    · exact h.elim
end
end Hn

set_option Elab.async false
set_option linter.all false
set_option maxRecDepth 100000
set_option maxHeartbeats 8000000
namespace Hn
open PySem PySem.Spec PyProof.Rows L2 Sy Lm
section
variable {P : Program} {w : World} {K : PySem.W.Frag} {mg : Str → Option Value} {base : Heap}
local macro_rules | `(tactic| walk_at "r") => `(tactic| (conv => whnf))
local macro_rules | `(tactic| walk_at "sp") => `(tactic| (first | rfl | contradiction | exact (False.elim ‹_›)))
local macro_rules | `(tactic| walk_at "len") => `(tactic| (exact Nat.le_trans (show _ ≤ 100000 by first | (simp; done) | (rw [rngS_length]; decide)) (by decide)))
local macro_rules | `(tactic| walk_at "f") => `(tactic| (refine Br_i (fun hb => Bool.noConfusion (show false = true from hb)) (fun _ => ?_)))
local macro_rules | `(tactic| walk_at "t") => `(tactic| (refine Br_i (fun _ => ?_) (fun hb => Bool.noConfusion (show true = false from hb))))
local macro_rules | `(tactic| walk_at "le") => `(tactic| first | exact Le.refl _ | (refine Le.put ?_; walk_at "le") | (refine Le.new ?_ (by assumption); walk_at "le"))
theorem gath_tup {lo : Int} {x : SV} {r : List SV} (h : isTupN x 2 = false) : gath lo (x :: r) = false := by
  cases x with
  | tup xs => rcases xs with _ | ⟨a, _ | ⟨b, _ | ⟨c, q⟩⟩⟩ <;> first | rfl | (simp [isTupN] at h; done) | (cases a <;> rfl)
  | _ => rfl
theorem ok_can_be_gather (T : Tx K mg) : FnOk P w K mg base CX0 3 (He.ga K "can_be_gather") T.fd_can_be_gather ["gather"] (lift K spGath) := by
  have G_is_tuple_of := ok_is_tuple_of (P := P) (w := w) (base := base) T
  have b_is_tuple_of := b_is_tuple_of T
  have G_is_tuple_up_to := ok_is_tuple_up_to (P := P) (w := w) (base := base) T
  have b_is_tuple_up_to := b_is_tuple_up_to T
  have G_is_whole := ok_is_whole (P := P) (w := w) (base := base) T
  have b_is_whole := b_is_whole T
  refine fn_sy T.F_can_be_gather sc_can_be_gather (fun svs m SX Sv h => ?_) (fun cdv A outer s H E hr => ⟨_, _, (gss_cons (gs_if (gt_not (gt_val (ge_call G_is_tuple_up_to (hr.mono (by decide)) (by rfl) T.g_is_tuple_up_to T.k_is_tuple_up_to b_is_tuple_up_to .nil (fun _ => .nil) pass0 (ga_cons (gv 0) (ga_cons (ge_gi (by rfl) T.i_MOST_GATHERED) ga_nil))))) (gss_one (gs_ret ge_bl)) gss_nil)
      (gss_cons (gs_set (i := 1) sc_can_be_gather.nd rfl (.inl rfl) ge_int)
      (gss_cons (gs_for PassesOwn.never rfl (gi_seq (gv 0)) (gg_name (i := 2) sc_can_be_gather.nd rfl (.inl rfl))
      (gss_cons (gs_if (gt_not (gt_val (ge_call G_is_tuple_of (hr.mono (by decide)) (by rfl) T.g_is_tuple_of T.k_is_tuple_of b_is_tuple_of .nil (fun _ => .nil) pass0 (ga_cons (gv 2) (ga_cons ge_int ga_nil))))) (gss_one (gs_ret ge_bl)) gss_nil)
      (gss_cons (gs_asg (gv 2) (gg_tup 2 (by rfl) (ggs_cons (gg_name (i := 3) sc_can_be_gather.nd rfl (.inl rfl)) (ggs_cons (gg_name (i := 4) sc_can_be_gather.nd rfl (.inl rfl)) ggs_nil))))
      (gss_cons (gs_if (gw_pt (gw_or (gt_not (gt_val (ge_call G_is_whole (hr) (by rfl) T.g_is_whole T.k_is_whole b_is_whole .nil (fun _ => .nil) pass0 (ga_cons (gv 3) (ga_cons (gv 1) (ga_cons (ge_gi (by rfl) T.i_LAST_KIND) ga_nil)))))) (gw_or1 (gt_not (gt_val (ge_call G_is_whole (hr) (by rfl) T.g_is_whole T.k_is_whole b_is_whole .nil (fun _ => .nil) pass0 (ga_cons (gv 4) (ga_cons ge_int (ga_cons (ge_gi (by rfl) T.i_MOST_SPAN) ga_nil))))))))) (gss_one (gs_ret ge_bl)) gss_nil)
      (gss_one (gs_set (i := 1) sc_can_be_gather.nd rfl (.inl rfl) (ge_op (op_addG K) sim_add (gv 3) ge_int)))))))
      (gss_one (gs_ret ge_bl))))), fun svs m SX Sv h => ?_⟩)
  · unfold spGath at h
    split at h <;> first | rfl | exact h.elim
  · unfold spGath at h
    split at h
    · rename_i x
      obtain ⟨hd, q⟩ := h
      walk_at "r"
      refine ⟨hd.dat, ?_⟩
      walk_at "r"
      refine Br_i (fun h1 => ?_) (fun h1 => ?_)
      · walk_at "r"
        rw [show canGath x = false by
          cases x <;> first | rfl | (show (decide _ && _) = false; rw [show decide _ = false by simpa [isTupU] using h1, Bool.false_and])] at q
        exact .of q
      · obtain ⟨xs, rfl⟩ : ∃ xs, x = .tup xs := by cases x <;> first | exact ⟨_, rfl⟩ | (cases h1; done)
        have hl : xs.length ≤ 4 := by simp [isTupU] at h1; omega
        have hg : canGath (.tup xs) = gath 0 xs := by
          show (decide ((xs.length : Int) ≤ 4) && gath 0 xs) = _
          rw [decide_eq_true (by omega), Bool.true_and]
        cases hd with
        | tup hd =>
          walk_at "r"
          refine ⟨xs, rfl, ?_⟩
          walk_at "r"
          refine for_inv (fun r δ m' => m' = m ∧ ∃ lo a b c, δ = [some (.tup xs), some (.int lo), a, b, c] ∧ gath lo r = gath 0 xs ∧ DDs m r) ⟨rfl, 0, none, none, none, rfl, rfl, hd⟩ (fun x r δ m' h => ?_) (fun δ m' h => ?_)
          · obtain ⟨rfl, lo, a, b, c, rfl, hr, hdr⟩ := h
            refine ⟨trivial, ?_⟩
            cases hdr with
            | cons hdx hdr =>
              walk_at "r"
              refine ⟨hdx.dat, ?_⟩
              walk_at "r"
              refine Br_i (fun h2 => ?_) (fun h2 => ?_)
              · walk_at "r"
                rw [hg, ← hr, gath_tup (by simpa using h2)] at q
                exact .of q
              · obtain ⟨k, s, rfl⟩ := tup2 (by simpa using h2)
                cases hdx with
                | tup hks =>
                  walk_at "r"
                  refine ⟨rfl, ?_⟩
                  walk_at "r"
                  refine ⟨(hks.mem (by simp)).dat, ?_⟩
                  have stop : (isWh k lo 7 && isWh s 1 12) = false → Fg (Sv (.bl false)) m' := fun e => by
                    rw [hg, ← hr, show gath lo (.tup [k, s] :: r) = false by
                      cases k <;> first | rfl | (show (isWh _ lo 7 && isWh s 1 12 && _) = false; rw [e, Bool.false_and])] at q
                    exact .of q
                  walk_at "r"
                  refine Br_i (fun h3 => ?_) (fun h3 => ?_)
                  · walk_at "r"
                    exact Br_t (by walk_at "r"; exact stop (by rw [show isWh k lo 7 = false by simpa using h3, Bool.false_and]))
                  · walk_at "r"
                    refine ⟨(hks.mem (by simp)).dat, ?_⟩
                    walk_at "r"
                    refine Br_i (fun h4 => ?_) (fun h4 => ?_)
                    · walk_at "r"
                      exact stop (by rw [show isWh s 1 12 = false by simpa using h4, Bool.and_false])
                    · have h3 : isWh k lo 7 = true := by simpa using h3
                      have h4 : isWh s 1 12 = true := by simpa using h4
                      obtain ⟨i, rfl, _⟩ := wh_int h3
                      walk_at "r"
                      refine .of ⟨rfl, i + 1, _, _, _, rfl, ?_, hdr⟩
                      rw [← hr]
                      show _ = (isWh (.int i) lo 7 && isWh s 1 12 && gath (i + 1) r)
                      rw [h3, h4]
                      rfl
          · obtain ⟨rfl, lo, a, b, c, rfl, hr, hdr⟩ := h
            refine ⟨trivial, ?_⟩
            walk_at "r"
            rw [hg, ← hr] at q
            exact .of q
    · exact h.elim
end
end Hn

set_option Elab.async false
set_option linter.all false
set_option maxRecDepth 100000
set_option maxHeartbeats 8000000
namespace Hn
open PySem PySem.Spec PyProof.Rows L2 Sy Lm
section
variable {P : Program} {w : World} {K : PySem.W.Frag} {mg : Str → Option Value} {base : Heap}
local macro_rules | `(tactic| walk_at "r") => `(tactic| (conv => whnf))
local macro_rules | `(tactic| walk_at "sp") => `(tactic| (first | rfl | contradiction | exact (False.elim ‹_›)))
local macro_rules | `(tactic| walk_at "len") => `(tactic| (exact Nat.le_trans (show _ ≤ 100000 by first | (simp; done) | (rw [rngS_length]; decide)) (by decide)))
local macro_rules | `(tactic| walk_at "f") => `(tactic| (refine Br_i (fun hb => Bool.noConfusion (show false = true from hb)) (fun _ => ?_)))
local macro_rules | `(tactic| walk_at "t") => `(tactic| (refine Br_i (fun _ => ?_) (fun hb => Bool.noConfusion (show true = false from hb))))
local macro_rules | `(tactic| walk_at "le") => `(tactic| first | exact Le.refl _ | (refine Le.put ?_; walk_at "le") | (refine Le.new ?_ (by assumption); walk_at "le"))
def firstF : List Bool → Option Nat
  | [] => none
  | false :: _ => some 0
  | true :: r => (firstF r).map (· + 1)
theorem firstF_none : ∀ {bs : List Bool}, firstF bs = none ↔ bs.all id = true
  | [] => by simp [firstF]
  | false :: r => by simp [firstF]
  | true :: r => by simp [firstF, firstF_none (bs := r)]
theorem firstF_some : ∀ {bs : List Bool} {j : Nat}, firstF bs = some j → bs[j]? = some false ∧ ∀ i, i < j → bs[i]? = some true
  | [], _, h => by simp [firstF] at h
  | false :: r, j, h => by
    simp [firstF] at h
    subst h
    exact ⟨rfl, fun i hi => absurd hi (Nat.not_lt_zero _)⟩
  | true :: r, j, h => by
    simp only [firstF, Option.map_eq_some_iff] at h
    obtain ⟨k, h1, rfl⟩ := h
    obtain ⟨h2, h3⟩ := firstF_some h1
    refine ⟨by simpa using h2, fun i hi => ?_⟩
    cases i with
    | zero => rfl
    | succ i => simpa using h3 i (by omega)
def optV : Option Int → SV
  | none => .non
  | some i => .int i
def fitsOf (h l g w f : SV) (many : Int) : List Bool := [canHush h, isWh l 0 4, canGath g, isNon w || isWh w 1 24, isNon f || isWh f 0 (many - 1)]
def firstB (x : SV) (many : Int) : Option Int := match x with
  | .tup [h, l, g, w, f] => (firstF (fitsOf h l g w f many)).map fun (j : Nat) => (j : Int)
  | _ => some (-1)
def spFirst : SpS := fun vs m _ S => match vs with
  | [x, .int many] => DD m x ∧ S (optV (firstB x many)) m
  | _ => False
theorem tup5 {x : SV} (h : isTupN x 5 = true) : ∃ a b c d e, x = .tup [a, b, c, d, e] := by
  cases x with
  | tup xs => rcases xs with _ | ⟨a, _ | ⟨b, _ | ⟨c, _ | ⟨d, _ | ⟨e, _ | ⟨f, r⟩⟩⟩⟩⟩⟩ <;> first | exact ⟨_, _, _, _, _, rfl⟩ | (simp [isTupN] at h; done) | (simp [isTupN] at h; omega)
  | _ => cases h
theorem not_tup5 {x : SV} {many : Int} (h : isTupN x 5 = false) : firstB x many = some (-1) := by
  cases x with
  | tup xs => rcases xs with _ | ⟨a, _ | ⟨b, _ | ⟨c, _ | ⟨d, _ | ⟨e, _ | ⟨f, r⟩⟩⟩⟩⟩⟩ <;> first | rfl | (simp [isTupN] at h; done)
  | _ => rfl
theorem flat_bls : ∀ bs : List Bool, (bs.map SV.bl).all flatS = true
  | [] => rfl
  | _ :: r => by rw [List.map_cons, List.all_cons, flat_bls r]; rfl
theorem ok_first_bad_part (T : Tx K mg) : FnOk P w K mg base CX0 5 (He.ga K "first_bad_part") T.fd_first_bad_part ["row", "many"] (lift K spFirst) := by
  have G_can_be_gather := ok_can_be_gather (P := P) (w := w) (base := base) T
  have b_can_be_gather := b_can_be_gather T
  have G_can_be_hushed := ok_can_be_hushed (P := P) (w := w) (base := base) T
  have b_can_be_hushed := b_can_be_hushed T
  have G_is_tuple_of := ok_is_tuple_of (P := P) (w := w) (base := base) T
  have b_is_tuple_of := b_is_tuple_of T
  have G_is_whole := ok_is_whole (P := P) (w := w) (base := base) T
  have b_is_whole := b_is_whole T
  refine fn_sy T.F_first_bad_part sc_first_bad_part (fun svs m SX Sv h => ?_) (fun cdv A outer s H E hr => ⟨_, _, (gss_cons (gs_if (gt_not (gt_val (ge_call G_is_tuple_of (hr.mono (by decide)) (by rfl) T.g_is_tuple_of T.k_is_tuple_of b_is_tuple_of .nil (fun _ => .nil) pass0 (ga_cons (gv 0) (ga_cons (ge_gi (by rfl) T.i_MANY_PARTS) ga_nil))))) (gss_one (gs_ret (ge_gi (by rfl) T.i_NO_PART))) gss_nil)
      (gss_cons (gs_asg (gv 0) (gg_tup 5 (by rfl) (ggs_cons (gg_name (i := 2) sc_first_bad_part.nd rfl (.inl rfl)) (ggs_cons (gg_name (i := 3) sc_first_bad_part.nd rfl (.inl rfl)) (ggs_cons (gg_name (i := 4) sc_first_bad_part.nd rfl (.inl rfl)) (ggs_cons (gg_name (i := 5) sc_first_bad_part.nd rfl (.inl rfl)) (ggs_cons (gg_name (i := 6) sc_first_bad_part.nd rfl (.inl rfl)) ggs_nil)))))))
      (gss_cons (gs_set (i := 7) sc_first_bad_part.nd rfl (.inl rfl) (ge_lst (ga_cons (ge_call G_can_be_hushed (hr) (by rfl) T.g_can_be_hushed T.k_can_be_hushed b_can_be_hushed .nil (fun _ => .nil) pass0 (ga_cons (gv 2) ga_nil)) (ga_cons (ge_call G_is_whole (hr.mono (by decide)) (by rfl) T.g_is_whole T.k_is_whole b_is_whole .nil (fun _ => .nil) pass0 (ga_cons (gv 3) (ga_cons ge_int (ga_cons (ge_gi (by rfl) T.i_MOST_LEAST) ga_nil)))) (ga_cons (ge_call G_can_be_gather (hr.mono (by decide)) (by rfl) T.g_can_be_gather T.k_can_be_gather b_can_be_gather .nil (fun _ => .nil) pass0 (ga_cons (gv 4) ga_nil)) (ga_cons (ge_or (ge_cmp op_isN sim_isN (gv 5) ge_non (nomark _)) (ge_one (ge_call G_is_whole (hr.mono (by decide)) (by rfl) T.g_is_whole T.k_is_whole b_is_whole .nil (fun _ => .nil) pass0 (ga_cons (gv 5) (ga_cons ge_int (ga_cons (ge_gi (by rfl) T.i_MOST_WAIT) ga_nil)))))) (ga_cons (ge_or (ge_cmp op_isN sim_isN (gv 6) ge_non (nomark _)) (ge_one (ge_call G_is_whole (hr.mono (by decide)) (by rfl) T.g_is_whole T.k_is_whole b_is_whole .nil (fun _ => .nil) pass0 (ga_cons (gv 6) (ga_cons ge_int (ga_cons (ge_op op_sub sim_sub (gv 1) ge_int) ga_nil)))))) ga_nil)))))))
      (gss_cons (gs_if (gt_val (ge_callB (cr_allG K) sim_all (by rfl) T.z_all (by decide +kernel) (ga_cons (gv 7) ga_nil))) (gss_one (gs_ret ge_non)) gss_nil)
      (gss_one (gs_ret (ge_bm PySem.F.plainAttrs_list PySem.F.slot_list_index PySem.F.type_list_index (mt_indexG K) simk_L sim_index (gv 7) (ga_cons ge_bl ga_nil)))))))), fun svs m SX Sv h => ?_⟩)
  · unfold spFirst at h
    split at h <;> first | rfl | exact h.elim
  · unfold spFirst at h
    split at h
    · rename_i x many
      obtain ⟨hd, q⟩ := h
      walk_at "r"
      refine ⟨hd.dat, ?_⟩
      walk_at "r"
      refine Br_i (fun h1 => ?_) (fun h1 => ?_)
      · walk_at "r"
        rw [not_tup5 (by simpa using h1)] at q
        exact .of q
      · obtain ⟨a, b, c, d, e, rfl⟩ := tup5 (by simpa using h1)
        cases hd with
        | tup hd =>
          have da := hd.mem (x := a) (by simp)
          have db := hd.mem (x := b) (by simp)
          have dc := hd.mem (x := c) (by simp)
          have dd := hd.mem (x := d) (by simp)
          have de := hd.mem (x := e) (by simp)
          have q : Sv (optV ((firstF (fitsOf a b c d e many)).map fun (j : Nat) => (j : Int))) m := q
          walk_at "r"
          refine ⟨rfl, ?_⟩
          walk_at "r"
          refine ⟨da, ?_⟩
          walk_at "r"
          refine ⟨db.dat, ?_⟩
          walk_at "r"
          refine ⟨dc, ?_⟩
          have last : ∀ (bw bf : Bool), bw = (isNon d || isWh d 1 24) → bf = (isNon e || isWh e 0 (many - 1)) → ∀ p, m p = none → ∀ (bs : List Bool), bs = [canHush a, isWh b 0 4, canGath c, bw, bf] → (bs.all id = true → Fg (Sv .non) (up m p (.lst (bs.map .bl)))) ∧ (bs.all id = false → ∃ j : Nat, bs[j]? = some false ∧ (∀ i, i < j → bs[i]? = some true) ∧ Fg (Sv (.int j)) (up m p (.lst (bs.map .bl)))) := by
            intro bw bf e1 e2 p hp bs e3
            have e4 : fitsOf a b c d e many = bs := by rw [e3, e1, e2]; rfl
            rw [e4] at q
            refine ⟨fun ha => ?_, fun ha => ?_⟩
            · rw [firstF_none.mpr ha] at q
              exact ⟨m, .new (.refl m) hp, q⟩
            · cases hj : firstF bs with
              | none => rw [firstF_none.mp hj] at ha; cases ha
              | some j =>
                obtain ⟨h2, h3⟩ := firstF_some hj
                rw [hj] at q
                exact ⟨j, h2, h3, m, .new (.refl m) hp, q⟩
          refine Br_i (fun h2 => ?_) (fun h2 => ?_)
          · walk_at "r"
            refine Br_i (fun h3 => ?_) (fun h3 => ?_)
            · walk_at "r"
              refine ⟨by walk_at "len", fun p hp => ?_⟩
              obtain ⟨l1, l2⟩ := last (true) (true) (by rw [h2]; rfl) (by rw [h3]; rfl) p hp _ rfl
              walk_at "r"
              refine ⟨[canHush a, isWh b 0 4, canGath c, true, true], ?_, ?_⟩
              · walk_at "r"
                rw [up_same]
                rfl
              walk_at "r"
              refine Br_i (fun h4 => ?_) (fun h4 => ?_)
              · walk_at "r"
                exact l1 h4
              · obtain ⟨j, h5, h6, h7⟩ := l2 h4
                walk_at "r"
                refine ⟨⟨_, up_same⟩, ?_⟩
                walk_at "r"
                refine ⟨_, j, .bl false, up_same, rfl, flat_bls [canHush a, isWh b 0 4, canGath c, true, true], ?_, rfl, fun i z hi hz => ?_, ?_⟩
                · show ([canHush a, isWh b 0 4, canGath c, true, true].map SV.bl)[j]? = _
                  rw [List.getElem?_map, h5]
                  rfl
                · have hz : ([canHush a, isWh b 0 4, canGath c, true, true].map SV.bl)[i]? = some z := hz
                  rw [List.getElem?_map, h6 i hi] at hz
                  cases hz
                  rfl
                · walk_at "r"
                  exact h7
            · walk_at "r"
              refine ⟨de.dat, ?_⟩
              walk_at "r"
              refine ⟨by walk_at "len", fun p hp => ?_⟩
              obtain ⟨l1, l2⟩ := last (true) (isWh e 0 (many - 1)) (by rw [h2]; rfl) (by rw [h3]; rfl) p hp _ rfl
              walk_at "r"
              refine ⟨[canHush a, isWh b 0 4, canGath c, true, isWh e 0 (many - 1)], ?_, ?_⟩
              · walk_at "r"
                rw [up_same]
                rfl
              walk_at "r"
              refine Br_i (fun h4 => ?_) (fun h4 => ?_)
              · walk_at "r"
                exact l1 h4
              · obtain ⟨j, h5, h6, h7⟩ := l2 h4
                walk_at "r"
                refine ⟨⟨_, up_same⟩, ?_⟩
                walk_at "r"
                refine ⟨_, j, .bl false, up_same, rfl, flat_bls [canHush a, isWh b 0 4, canGath c, true, isWh e 0 (many - 1)], ?_, rfl, fun i z hi hz => ?_, ?_⟩
                · show ([canHush a, isWh b 0 4, canGath c, true, isWh e 0 (many - 1)].map SV.bl)[j]? = _
                  rw [List.getElem?_map, h5]
                  rfl
                · have hz : ([canHush a, isWh b 0 4, canGath c, true, isWh e 0 (many - 1)].map SV.bl)[i]? = some z := hz
                  rw [List.getElem?_map, h6 i hi] at hz
                  cases hz
                  rfl
                · walk_at "r"
                  exact h7
          · walk_at "r"
            refine ⟨dd.dat, ?_⟩
            walk_at "r"
            refine Br_i (fun h3 => ?_) (fun h3 => ?_)
            · walk_at "r"
              refine ⟨by walk_at "len", fun p hp => ?_⟩
              obtain ⟨l1, l2⟩ := last (isWh d 1 24) (true) (by rw [h2]; rfl) (by rw [h3]; rfl) p hp _ rfl
              walk_at "r"
              refine ⟨[canHush a, isWh b 0 4, canGath c, isWh d 1 24, true], ?_, ?_⟩
              · walk_at "r"
                rw [up_same]
                rfl
              walk_at "r"
              refine Br_i (fun h4 => ?_) (fun h4 => ?_)
              · walk_at "r"
                exact l1 h4
              · obtain ⟨j, h5, h6, h7⟩ := l2 h4
                walk_at "r"
                refine ⟨⟨_, up_same⟩, ?_⟩
                walk_at "r"
                refine ⟨_, j, .bl false, up_same, rfl, flat_bls [canHush a, isWh b 0 4, canGath c, isWh d 1 24, true], ?_, rfl, fun i z hi hz => ?_, ?_⟩
                · show ([canHush a, isWh b 0 4, canGath c, isWh d 1 24, true].map SV.bl)[j]? = _
                  rw [List.getElem?_map, h5]
                  rfl
                · have hz : ([canHush a, isWh b 0 4, canGath c, isWh d 1 24, true].map SV.bl)[i]? = some z := hz
                  rw [List.getElem?_map, h6 i hi] at hz
                  cases hz
                  rfl
                · walk_at "r"
                  exact h7
            · walk_at "r"
              refine ⟨de.dat, ?_⟩
              walk_at "r"
              refine ⟨by walk_at "len", fun p hp => ?_⟩
              obtain ⟨l1, l2⟩ := last (isWh d 1 24) (isWh e 0 (many - 1)) (by rw [h2]; rfl) (by rw [h3]; rfl) p hp _ rfl
              walk_at "r"
              refine ⟨[canHush a, isWh b 0 4, canGath c, isWh d 1 24, isWh e 0 (many - 1)], ?_, ?_⟩
              · walk_at "r"
                rw [up_same]
                rfl
              walk_at "r"
              refine Br_i (fun h4 => ?_) (fun h4 => ?_)
              · walk_at "r"
                exact l1 h4
              · obtain ⟨j, h5, h6, h7⟩ := l2 h4
                walk_at "r"
                refine ⟨⟨_, up_same⟩, ?_⟩
                walk_at "r"
                refine ⟨_, j, .bl false, up_same, rfl, flat_bls [canHush a, isWh b 0 4, canGath c, isWh d 1 24, isWh e 0 (many - 1)], ?_, rfl, fun i z hi hz => ?_, ?_⟩
                · show ([canHush a, isWh b 0 4, canGath c, isWh d 1 24, isWh e 0 (many - 1)].map SV.bl)[j]? = _
                  rw [List.getElem?_map, h5]
                  rfl
                · have hz : ([canHush a, isWh b 0 4, canGath c, isWh d 1 24, isWh e 0 (many - 1)].map SV.bl)[i]? = some z := hz
                  rw [List.getElem?_map, h6 i hi] at hz
                  cases hz
                  rfl
                · walk_at "r"
                  exact h7
    · exact h.elim
end
end Hn

set_option Elab.async false
set_option linter.all false
set_option maxRecDepth 100000
set_option maxHeartbeats 8000000
namespace Hn
open PySem PySem.Spec PyProof.Rows L2 Sy Lm
section
variable {P : Program} {w : World} {K : PySem.W.Frag} {mg : Str → Option Value} {base : Heap}
local macro_rules | `(tactic| walk_at "r") => `(tactic| (conv => whnf))
local macro_rules | `(tactic| walk_at "sp") => `(tactic| (first | rfl | contradiction | exact (False.elim ‹_›)))
local macro_rules | `(tactic| walk_at "len") => `(tactic| (exact Nat.le_trans (show _ ≤ 100000 by first | (simp; done) | (rw [rngS_length]; decide)) (by decide)))
local macro_rules | `(tactic| walk_at "f") => `(tactic| (refine Br_i (fun hb => Bool.noConfusion (show false = true from hb)) (fun _ => ?_)))
local macro_rules | `(tactic| walk_at "t") => `(tactic| (refine Br_i (fun _ => ?_) (fun hb => Bool.noConfusion (show true = false from hb))))
local macro_rules | `(tactic| walk_at "le") => `(tactic| first | exact Le.refl _ | (refine Le.put ?_; walk_at "le") | (refine Le.new ?_ (by assumption); walk_at "le"))
structure PR where
  hs : List (Int × Int)
  least : Int
  gs : List (Int × Int)
  wait : Option Int
  fur : Option Int
def pairV (p : Int × Int) : SV := .tup [.int p.1, .int p.2]
def PR.sv (r : PR) : SV := .tup [.tup (r.hs.map pairV), .int r.least, .tup (r.gs.map pairV), optV r.wait, optV r.fur]
def gOk : Int → List (Int × Int) → Prop
  | _, [] => True
  | lo, p :: r => lo ≤ p.1 ∧ p.1 ≤ 7 ∧ 1 ≤ p.2 ∧ p.2 ≤ 12 ∧ gOk (p.1 + 1) r
structure PR.Ok (many : Nat) (r : PR) : Prop where
  hl : r.hs.length ≤ 3
  hs : ∀ p ∈ r.hs, (0 ≤ p.1 ∧ p.1 ≤ 23) ∧ (0 ≤ p.2 ∧ p.2 ≤ 23) ∧ p.1 ≠ p.2
  le : 0 ≤ r.least ∧ r.least ≤ 4
  gl : r.gs.length ≤ 4
  gs : gOk 0 r.gs
  wt : ∀ i, r.wait = some i → 1 ≤ i ∧ i ≤ 24
  fu : ∀ i, r.fur = some i → 0 ≤ i ∧ i < many
def RV (R : List PR) : SV := .tup (R.map PR.sv)
structure RulesOk (R : List PR) : Prop where
  one : 1 ≤ R.length
  six : R.length ≤ 6
  all : ∀ r ∈ R, r.Ok R.length
theorem wh_of {i lo hi : Int} (h1 : lo ≤ i) (h2 : i ≤ hi) : isWh (.int i) lo hi = true := by
  show (decide (lo ≤ i) && decide (i ≤ hi)) = true
  rw [decide_eq_true h1, decide_eq_true h2]
  rfl
theorem gath_of : ∀ (gs : List (Int × Int)) (lo : Int), gOk lo gs → gath lo (gs.map pairV) = true
  | [], _, _ => rfl
  | p :: r, lo, h => by
    obtain ⟨h1, h2, h3, h4, h5⟩ := h
    show (isWh (.int p.1) lo 7 && isWh (.int p.2) 1 12 && gath (p.1 + 1) (r.map pairV)) = true
    rw [wh_of h1 h2, wh_of h3 h4, gath_of r _ h5]
    rfl
theorem PR.Ok.good {many : Nat} {r : PR} (h : r.Ok many) : firstB r.sv (many : Int) = none := by
  have h1 : canHush (.tup (r.hs.map pairV)) = true := by
    have hl := h.hl
    show (decide (((r.hs.map pairV).length : Int) ≤ 3) && (r.hs.map pairV).all isStr) = true
    rw [decide_eq_true (by rw [List.length_map]; omega), Bool.true_and, List.all_map, List.all_eq_true]
    intro p hp
    obtain ⟨a, b, c⟩ := h.hs p hp
    show (isWh (.int p.1) 0 23 && (isWh (.int p.2) 0 23 && !decide (p.1 = p.2))) = true
    rw [wh_of a.1 a.2, wh_of b.1 b.2, decide_eq_false c]
    rfl
  have h2 : canGath (.tup (r.gs.map pairV)) = true := by
    have hl := h.gl
    show (decide (((r.gs.map pairV).length : Int) ≤ 4) && gath 0 (r.gs.map pairV)) = true
    rw [decide_eq_true (by rw [List.length_map]; omega), Bool.true_and]
    exact gath_of _ _ h.gs
  have h3 : isWh (.int r.least) 0 4 = true := wh_of h.le.1 h.le.2
  have h4 : (isNon (optV r.wait) || isWh (optV r.wait) 1 24) = true := by
    cases e : r.wait with
    | none => rfl
    | some i =>
      obtain ⟨a, b⟩ := h.wt i e
      show (false || isWh (.int i) 1 24) = true
      rw [wh_of a b]
      rfl
  have h5 : (isNon (optV r.fur) || isWh (optV r.fur) 0 ((many : Int) - 1)) = true := by
    cases e : r.fur with
    | none => rfl
    | some i =>
      obtain ⟨a, b⟩ := h.fu i e
      show (false || isWh (.int i) 0 ((many : Int) - 1)) = true
      rw [wh_of a (by omega)]
      rfl
  show ((firstF (fitsOf _ _ _ _ _ _)).map fun (j : Nat) => (j : Int)) = none
  rw [firstF_none.mpr]
  · rfl
  · unfold fitsOf
    rw [h1, h2, h3, h4, h5]
    rfl
theorem dd_opt {m : Mem} (o : Option Int) : DD m (optV o) := by cases o <;> constructor
theorem dd_pairs {m : Mem} (ps : List (Int × Int)) : DD m (.tup (ps.map pairV)) := .tup (.of fun x hx => by
  obtain ⟨p, _, rfl⟩ := List.mem_map.mp hx
  exact .tup (.cons (.int _) (.cons (.int _) .nil)))
theorem PR.dd {m : Mem} (r : PR) : DD m r.sv := .tup (.cons (dd_pairs _) (.cons (.int _) (.cons (dd_pairs _) (.cons (dd_opt _) (.cons (dd_opt _) .nil)))))
def spRules : SpS := fun vs m _ S => ∃ R, vs = [RV R] ∧ RulesOk R ∧ S .non m
theorem rv_get {R : List PR} {i : Nat} (h : i < R.length) : atI (R.map PR.sv) (i : Int) = some (R[i]).sv := atI_nat (by rw [List.getElem?_map, List.getElem?_eq_getElem h]; rfl)
theorem ok_refuse_bad_rules (T : Tx K mg) : FnOk P w K mg base CX0 6 (He.ga K "refuse_bad_rules") T.fd_refuse_bad_rules ["rules"] (lift K spRules) := by
  have G_first_bad_part := ok_first_bad_part (P := P) (w := w) (base := base) T
  have b_first_bad_part := b_first_bad_part T
  refine fn_sy T.F_refuse_bad_rules sc_refuse_bad_rules (fun svs m SX Sv h => ?_) (fun cdv A outer s H E hr => ⟨_, _, (gss_cons (gs_if (gw_pt (gw_or (gt_not (gt_val (ge_callB (cr_isi K) sim_isi (by rfl) T.z_isinstance (by decide +kernel) (ga_cons (gv 0) (ga_cons (ge_ty (n := "tuple") (by rfl) T.z_tuple (by decide +kernel)) ga_nil))))) (gw_or1 (gt_cmp (op_eqG K hr.units) sim_eq (ge_callB (cr_len K) sim_len (by rfl) T.z_len (by decide +kernel) (ga_cons (gv 0) ga_nil)) ge_int (nomark _))))) (gss_one gs_never) gss_nil)
      (gss_cons (gs_set (i := 1) sc_refuse_bad_rules.nd rfl (.inl rfl) (ge_callB (call_min2 rfl) sim_min2 (by rfl) T.z_min (by decide +kernel) (ga_cons (ge_callB (cr_len K) sim_len (by rfl) T.z_len (by decide +kernel) (ga_cons (gv 0) ga_nil)) (ga_cons (ge_gi (by rfl) T.i_MOST_PERSONS) ga_nil))))
      (gss_cons (gs_for PassesOwn.never rfl (gi_range1 (by rfl) T.z_range (ga_cons (gv 1) ga_nil)) (gg_name (i := 2) sc_refuse_bad_rules.nd rfl (.inl rfl))
      (gss_cons (gs_set (i := 3) sc_refuse_bad_rules.nd rfl (.inl rfl) (ge_call G_first_bad_part (hr) (by rfl) T.g_first_bad_part T.k_first_bad_part b_first_bad_part .nil (fun _ => .nil) pass0 (ga_cons (ge_ix (ix_G K) sim_ix (gv 0) (gv 2) (fun _ _ => rfl)) (ga_cons (gv 1) ga_nil))))
      (gss_one (gs_if (gt_cmp op_notN sim_notN (gv 3) ge_non (nomark _)) (gss_one gs_never) gss_nil))))
      (gss_one (gs_if (gt_cmp op_gt sim_gt (ge_callB (cr_len K) sim_len (by rfl) T.z_len (by decide +kernel) (ga_cons (gv 0) ga_nil)) (ge_gi (by rfl) T.i_MOST_PERSONS) (nomark _)) (gss_one gs_never) gss_nil))))), fun svs m SX Sv h => ?_⟩)
  · obtain ⟨R, rfl, _⟩ := h
    rfl
  · obtain ⟨R, rfl, ok, q⟩ := h
    have h1 := ok.one
    have h6 := ok.six
    walk_at "r"
    refine ⟨by decide, _, rfl, ?_⟩
    walk_at "r"
    walk_at "f"
    walk_at "r"
    refine ⟨_, rfl, ?_⟩
    walk_at "r"
    refine Br_i (fun h2 => ?_) (fun h2 => ?_)
    · have := of_decide_eq_true h2
      rw [List.length_map] at this
      omega
    walk_at "r"
    refine ⟨_, rfl, ?_⟩
    walk_at "r"
    rw [List.length_map, if_neg (by omega)]
    refine ⟨⟨by omega, by omega⟩, ?_⟩
    walk_at "r"
    refine for_inv (fun r δ m' => m' = m ∧ ∃ a b, δ = [some (RV R), some (.int R.length), a, b] ∧ ∀ x ∈ r, ∃ i : Nat, x = .int i ∧ i < R.length) ⟨rfl, none, none, rfl, fun x hx => ?_⟩ (fun x r δ m' h => ?_) (fun δ m' h => ?_)
    · obtain ⟨i, hi⟩ := List.getElem?_of_mem hx
      obtain ⟨h3, h4⟩ := rngS_get _ _ _ _ hi
      exact ⟨i, by rw [h4]; simp, by omega⟩
    · obtain ⟨rfl, a, b, rfl, hr⟩ := h
      obtain ⟨i, rfl, hi⟩ := hr x List.mem_cons_self
      refine ⟨trivial, ?_⟩
      walk_at "r"
      refine ⟨_, rv_get hi, ?_⟩
      walk_at "r"
      refine ⟨PR.dd _, ?_⟩
      rw [(ok.all _ (List.getElem_mem hi)).good]
      walk_at "r"
      refine Br_f ?_
      walk_at "r"
      exact .of ⟨rfl, _, _, rfl, fun x hx => hr x (List.mem_cons_of_mem _ hx)⟩
    · obtain ⟨rfl, a, b, rfl, _⟩ := h
      refine ⟨trivial, ?_⟩
      walk_at "r"
      refine ⟨_, rfl, ?_⟩
      walk_at "r"
      refine Br_i (fun h2 => ?_) (fun h2 => ?_)
      · have := of_decide_eq_true h2
        rw [List.length_map] at this
        omega
      · exact .of q
/-- a person of so many, or BadPerson -/
def spPerson (C : Addr) : SpS := fun vs m SX S => match vs with
  | [.tup xs, x] => Dat m x ∧ ((isWh x 0 (xs.length - 1) = true → S .non m) ∧ (isWh x 0 (xs.length - 1) = false → SX ⟨C, none⟩ m))
  | _ => False
theorem ok_refuse_bad_person (T : Tx K mg) : FnOk P w K mg base (L2.CX P w) 3 (He.ga K "refuse_bad_person") T.fd_refuse_bad_person ["rules", "person"] (lift K (spPerson (He.ga K "BadPerson"))) := by
  have G_is_whole := ok_is_whole (P := P) (w := w) (base := base) T
  have b_is_whole := b_is_whole T
  refine fn_syX T.F_refuse_bad_person sc_refuse_bad_person (fun svs m SX Sv h => ?_) (fun cdv A outer s H E hr => ⟨_, _, (gss_one (gs_if (gt_not (gt_val (ge_call G_is_whole (hr) (by rfl) T.g_is_whole T.k_is_whole b_is_whole .nil (fun _ => .nil) pass0 (ga_cons (gv 1) (ga_cons ge_int (ga_cons (ge_op op_sub sim_sub (ge_callB (cr_len K) sim_len (by rfl) T.z_len (by decide +kernel) (ga_cons (gv 0) ga_nil)) ge_int) ga_nil)))))) (gss_one (gs_raise (ps_raise rfl (takes_of rfl rfl rfl rfl) (pmk_own PySem.F.excBase_ValueError T.x_BadPerson T.g_BadPerson T.k_BadPerson (raises_own T.e_BadPerson T.t_BadPerson) (by exact rfl))))) gss_nil)), fun svs m SX Sv h => ?_⟩)
  · unfold spPerson at h
    split at h <;> first | rfl | exact h.elim
  · unfold spPerson at h
    split at h
    · obtain ⟨hd, q1, q2⟩ := h
      walk_at "r"
      refine ⟨_, rfl, ?_⟩
      walk_at "r"
      refine ⟨hd, ?_⟩
      walk_at "r"
      refine Br_i (fun h2 => ?_) (fun h2 => ?_)
      · walk_at "r"
        exact .of (q2 (by simpa using h2))
      · exact .of (q1 (by simpa using h2))
    · exact h.elim
/-- the same with plain tuples for what dict() takes -/
def PR.pv (r : PR) : SV := .tup [.tup (r.hs.map pairV), .int r.least, .ptup (r.gs.map pairV), optV r.wait, optV r.fur]
def PV (R : List PR) : SV := .tup (R.map PR.pv)
theorem pv_wk (r : PR) : Wk r.pv r.sv := .tup (.cons (.refl _) (.cons (.refl _) (.cons (.ptup (Wks.same _)) (Wks.same _))))
theorem PV_wk (R : List PR) : Wk (PV R) (RV R) := .tup (Wks.map pv_wk R)
def spRulesP : SpS := fun vs m _ S => ∃ R, vs = [PV R] ∧ RulesOk R ∧ S .non m
theorem ok_refuse_bad_rulesP (T : Tx K mg) : FnOk P w K mg base CX0 6 (He.ga K "refuse_bad_rules") T.fd_refuse_bad_rules ["rules"] (lift K spRulesP) := fn_wk (ok_refuse_bad_rules T) fun vs m SX S ⟨R, e, ok, q⟩ => ⟨[RV R], by rw [e]; exact .cons (PV_wk R) .nil, R, rfl, ok, q⟩
end
end Hn

set_option Elab.async false
set_option linter.all false
set_option maxRecDepth 100000
set_option maxHeartbeats 8000000
namespace Hn
open PySem PySem.Spec PyProof.Rows L2 Sy Lm
section
variable {P : Program} {w : World} {K : PySem.W.Frag} {mg : Str → Option Value} {base : Heap}
local macro_rules | `(tactic| walk_at "r") => `(tactic| (conv => whnf))
local macro_rules | `(tactic| walk_at "sp") => `(tactic| (first | rfl | contradiction | exact (False.elim ‹_›)))
local macro_rules | `(tactic| walk_at "len") => `(tactic| (exact Nat.le_trans (show _ ≤ 100000 by first | (simp; done) | (rw [rngS_length]; decide)) (by decide)))
local macro_rules | `(tactic| walk_at "f") => `(tactic| (refine Br_i (fun hb => Bool.noConfusion (show false = true from hb)) (fun _ => ?_)))
local macro_rules | `(tactic| walk_at "t") => `(tactic| (refine Br_i (fun _ => ?_) (fun hb => Bool.noConfusion (show true = false from hb))))
local macro_rules | `(tactic| walk_at "le") => `(tactic| first | exact Le.refl _ | (refine Le.put ?_; walk_at "le") | (refine Le.new ?_ (by assumption); walk_at "le"))
open NdefX
theorem app_le {x y : Str} {a b n : Nat} (hx : x.length ≤ a) (hy : y.length ≤ b) (h : a + b ≤ n) : (x ++ y).length ≤ n := by
  rw [strLen_append]
  omega
theorem int_len {i : Int} (h : i.natAbs.log2 < 1920) : (Str.ofString (toString i)).length ≤ 1921 := by
  rw [PySem.ofString_length]
  exact int_text_length_le (by decide) h
abbrev s_BadRules_init : Stmt := inClass (top 2) 0
def cel_BadRules : CelD := ⟨"BadRules", "BadRules.__init__", defArgs s_BadRules_init, defBody s_BadRules_init, defScope s_BadRules_init⟩
class Kx_BadRules (P : Program) (K : PySem.W.Frag) : Prop where
  k : ∃ fd cc cda, KxC P K cel_BadRules fd cc cda
  na_person : PySem.W.findIn K (.ref (He.ga K "BadRules")) "person" = some none
  na_part : PySem.W.findIn K (.ref (He.ga K "BadRules")) "part" = some none
theorem nsc_BadRules : NScope ["self", "person", "part", "__class__"] ["self", "person", "part"] ["__class__"] cel_BadRules.scope := nscope_by (by decide +kernel)
theorem ini_BadRules (KX : Kx_BadRules P K) (zs : mg "super" = none) : ∃ fd, Binds K fd ["self", "person", "part"] [] ∧ FnOk P w K mg base CX0 1 (He.ma K (He.ga K "BadRules") "__init__") fd ["self", "person", "part"] (spIni2 (He.ga K "BadRules") "person" "part") := by
  obtain ⟨fd, cc, cda, kx⟩ := KX.k
  obtain ⟨doc, pm, ct, e⟩ := kx.e
  refine ⟨fd, ?_, init_ok e kx.S kx.code nsc_BadRules (fun vs H Q E h => ?_) zs (by decide +kernel) rfl rfl (by decide +kernel) (by first | exact Or.inl rfl | exact Or.inr (Or.inl rfl) | exact Or.inr (Or.inr rfl)) (fun L => rfl) (fun L => rfl) (fun L => rfl) (fun L => rfl) (fun L => rfl) (fun A outer s H vs Q E hr h => ?_)⟩
  · rw [e]
    exact .all fun us hl => match us, hl with | [_, _, _], _ => rfl
  · obtain ⟨a, i, j, rfl, _⟩ := h
    rfl
  · obtain ⟨a, i, j, rfl, hi, hj, ha, q⟩ := h
    refine ⟨a, _, _, rfl, ha, pa_cons (pe_joined (.cons pe_str (.cons (pe_fmt (pv 1)) (.cons pe_str (.cons (pe_fmt (pv 2)) .nil))))) pa_nil, (pss_cons (ps_ost (pv 0) (pv 1)) (pss_one (ps_ost (pv 0) (pv 2)))), ?_⟩
    refine ⟨_, rfl, line_le (Nat.le_trans ((app_le (n := 100) (show Str.empty.length ≤ 0 from Nat.le_refl 0) (show _ ≤ 100 by decide) (by decide))) (by decide)), ?_⟩
    refine ⟨_, rfl, .inr ⟨_, rfl, hi, _, rfl, line_le (Nat.le_trans ((app_le (n := 2021) (app_le (n := 100) (show Str.empty.length ≤ 0 from Nat.le_refl 0) (show _ ≤ 100 by decide) (by decide)) (int_len hi) (by decide))) (by decide)), ?_⟩⟩
    refine ⟨_, rfl, line_le (Nat.le_trans ((app_le (n := 2121) (app_le (n := 2021) (app_le (n := 100) (show Str.empty.length ≤ 0 from Nat.le_refl 0) (show _ ≤ 100 by decide) (by decide)) (int_len hi) (by decide)) (show _ ≤ 100 by decide) (by decide))) (by decide)), ?_⟩
    refine ⟨_, rfl, .inr ⟨_, rfl, hj, _, rfl, line_le (Nat.le_trans ((app_le (n := 4042) (app_le (n := 2121) (app_le (n := 2021) (app_le (n := 100) (show Str.empty.length ≤ 0 from Nat.le_refl 0) (show _ ≤ 100 by decide) (by decide)) (int_len hi) (by decide)) (show _ ≤ 100 by decide) (by decide)) (int_len hj) (by decide))) (by decide)), ?_⟩⟩
    refine ⟨show 1 ≤ 1000 by decide, ha, ?_⟩
    refine ⟨_, rfl, _, rfl, a, _, rfl, kx.S.T, KX.na_person, .inl ⟨ha, fun dx h1 h2 => ?_⟩⟩
    exact ⟨_, rfl, _, rfl, a, _, rfl, kx.S.T, KX.na_part, .inr ⟨dx, _, upd_same, (upd_ne h2).trans upd_same, show 1 ≤ 900 by decide, q dx h1 h2⟩⟩
abbrev s_BadNotices_init : Stmt := inClass (top 5) 0
def cel_BadNotices : CelD := ⟨"BadNotices", "BadNotices.__init__", defArgs s_BadNotices_init, defBody s_BadNotices_init, defScope s_BadNotices_init⟩
class Kx_BadNotices (P : Program) (K : PySem.W.Frag) : Prop where
  k : ∃ fd cc cda, KxC P K cel_BadNotices fd cc cda
  na_number : PySem.W.findIn K (.ref (He.ga K "BadNotices")) "number" = some none
abbrev s_BadHears_init : Stmt := inClass (top 6) 0
def cel_BadHears : CelD := ⟨"BadHears", "BadHears.__init__", defArgs s_BadHears_init, defBody s_BadHears_init, defScope s_BadHears_init⟩
class Kx_BadHears (P : Program) (K : PySem.W.Frag) : Prop where
  k : ∃ fd cc cda, KxC P K cel_BadHears fd cc cda
  na_number : PySem.W.findIn K (.ref (He.ga K "BadHears")) "number" = some none
abbrev s_BadText_init : Stmt := inClass (top 11) 0
def cel_BadText : CelD := ⟨"BadText", "BadText.__init__", defArgs s_BadText_init, defBody s_BadText_init, defScope s_BadText_init⟩
class Kx_BadText (P : Program) (K : PySem.W.Frag) : Prop where
  k : ∃ fd cc cda, KxC P K cel_BadText fd cc cda
  na_row : PySem.W.findIn K (.ref (He.ga K "BadText")) "row" = some none
end
end Hn

set_option Elab.async false
set_option linter.all false
set_option maxRecDepth 100000
set_option maxHeartbeats 0
namespace Hn
open PySem PySem.Spec PyProof.Rows L2 Sy
def d_is_number : He.DefD := ⟨("is_number", none), "is_number", "is_number", defArgs s_is_number, defBody s_is_number, defScope s_is_number, [], []⟩
def d_is_whole : He.DefD := ⟨("is_whole", none), "is_whole", "is_whole", defArgs s_is_whole, defBody s_is_whole, defScope s_is_whole, [], []⟩
def d_is_tuple_of : He.DefD := ⟨("is_tuple_of", none), "is_tuple_of", "is_tuple_of", defArgs s_is_tuple_of, defBody s_is_tuple_of, defScope s_is_tuple_of, [], []⟩
def d_is_tuple_up_to : He.DefD := ⟨("is_tuple_up_to", none), "is_tuple_up_to", "is_tuple_up_to", defArgs s_is_tuple_up_to, defBody s_is_tuple_up_to, defScope s_is_tuple_up_to, [], []⟩
def d_is_stretch : He.DefD := ⟨("is_stretch", none), "is_stretch", "is_stretch", defArgs s_is_stretch, defBody s_is_stretch, defScope s_is_stretch, [], []⟩
def d_can_be_hushed : He.DefD := ⟨("can_be_hushed", none), "can_be_hushed", "can_be_hushed", defArgs s_can_be_hushed, defBody s_can_be_hushed, defScope s_can_be_hushed, [], []⟩
def d_can_be_gather : He.DefD := ⟨("can_be_gather", none), "can_be_gather", "can_be_gather", defArgs s_can_be_gather, defBody s_can_be_gather, defScope s_can_be_gather, [], []⟩
def d_first_bad_part : He.DefD := ⟨("first_bad_part", none), "first_bad_part", "first_bad_part", defArgs s_first_bad_part, defBody s_first_bad_part, defScope s_first_bad_part, [], []⟩
def d_refuse_bad_rules : He.DefD := ⟨("refuse_bad_rules", none), "refuse_bad_rules", "refuse_bad_rules", defArgs s_refuse_bad_rules, defBody s_refuse_bad_rules, defScope s_refuse_bad_rules, [], []⟩
def d_refuse_bad_person : He.DefD := ⟨("refuse_bad_person", none), "refuse_bad_person", "refuse_bad_person", defArgs s_refuse_bad_person, defBody s_refuse_bad_person, defScope s_refuse_bad_person, [], []⟩
def d_refuse_bad_moment : He.DefD := ⟨("refuse_bad_moment", none), "refuse_bad_moment", "refuse_bad_moment", defArgs s_refuse_bad_moment, defBody s_refuse_bad_moment, defScope s_refuse_bad_moment, [.int (1000000)], []⟩
def d_can_be_notice : He.DefD := ⟨("can_be_notice", none), "can_be_notice", "can_be_notice", defArgs s_can_be_notice, defBody s_can_be_notice, defScope s_can_be_notice, [], []⟩
def d_refuse_bad_notices : He.DefD := ⟨("refuse_bad_notices", none), "refuse_bad_notices", "refuse_bad_notices", defArgs s_refuse_bad_notices, defBody s_refuse_bad_notices, defScope s_refuse_bad_notices, [], []⟩
def d_can_be_hear : He.DefD := ⟨("can_be_hear", none), "can_be_hear", "can_be_hear", defArgs s_can_be_hear, defBody s_can_be_hear, defScope s_can_be_hear, [], []⟩
def d_refuse_bad_hears : He.DefD := ⟨("refuse_bad_hears", none), "refuse_bad_hears", "refuse_bad_hears", defArgs s_refuse_bad_hears, defBody s_refuse_bad_hears, defScope s_refuse_bad_hears, [], []⟩
def d_is_in_stretch : He.DefD := ⟨("is_in_stretch", none), "is_in_stretch", "is_in_stretch", defArgs s_is_in_stretch, defBody s_is_in_stretch, defScope s_is_in_stretch, [], []⟩
def d_hushed_hours : He.DefD := ⟨("hushed_hours", none), "hushed_hours", "hushed_hours", defArgs s_hushed_hours, defBody s_hushed_hours, defScope s_hushed_hours, [], []⟩
def d_judged_hours : He.DefD := ⟨("judged_hours", none), "judged_hours", "judged_hours", defArgs s_judged_hours, defBody s_judged_hours, defScope s_judged_hours, [], []⟩
def d_first_free : He.DefD := ⟨("first_free", none), "first_free", "first_free", defArgs s_first_free, defBody s_first_free, defScope s_first_free, [], []⟩
def d_hushed_ahead_of : He.DefD := ⟨("hushed_ahead_of", none), "hushed_ahead_of", "hushed_ahead_of", defArgs s_hushed_ahead_of, defBody s_hushed_ahead_of, defScope s_hushed_ahead_of, [], []⟩
def d_is_hushed : He.DefD := ⟨("is_hushed", none), "is_hushed", "is_hushed", defArgs s_is_hushed, defBody s_is_hushed, defScope s_is_hushed, [], []⟩
def d_free_from : He.DefD := ⟨("free_from", none), "free_from", "free_from", defArgs s_free_from, defBody s_free_from, defScope s_free_from, [], []⟩
def d_hushed_between : He.DefD := ⟨("hushed_between", none), "hushed_between", "hushed_between", defArgs s_hushed_between, defBody s_hushed_between, defScope s_hushed_between, [], []⟩
def d_row_of : He.DefD := ⟨("row_of", none), "row_of", "row_of", defArgs s_row_of, defBody s_row_of, defScope s_row_of, [], []⟩
def d_written : He.DefD := ⟨("written", none), "written", "written", defArgs s_written, defBody s_written, defScope s_written, [], []⟩
def d_judged_course : He.DefD := ⟨("judged_course", none), "judged_course", "judged_course", defArgs s_judged_course, defBody s_judged_course, defScope s_judged_course, [], []⟩
def d_walked : He.DefD := ⟨("walked", none), "walked", "walked", defArgs s_walked, defBody s_walked, defScope s_walked, [], [("hears", .adr (kwAt "walked" "hears")), ("until", .int (600))]⟩
def d_wheeled : He.DefD := ⟨("wheeled", none), "wheeled", "wheeled", defArgs s_wheeled, defBody s_wheeled, defScope s_wheeled, [], [("hears", .adr (kwAt "wheeled" "hears")), ("until", .int (600))]⟩
def d_chain : He.DefD := ⟨("chain", none), "chain", "chain", defArgs s_chain, defBody s_chain, defScope s_chain, [], []⟩
def d_law_begun : He.DefD := ⟨("_law_begun", none), "_law_begun", "_law_begun", defArgs s_law_begun, defBody s_law_begun, defScope s_law_begun, [], []⟩
def d_law_take : He.DefD := ⟨("_law_take", none), "_law_take", "_law_take", defArgs s_law_take, defBody s_law_take, defScope s_law_take, [], []⟩
def d_law_alike : He.DefD := ⟨("_law_alike", none), "_law_alike", "_law_alike", defArgs s_law_alike, defBody s_law_alike, defScope s_law_alike, [], []⟩
def d_law_told : He.DefD := ⟨("_law_told", none), "_law_told", "_law_told", defArgs s_law_told, defBody s_law_told, defScope s_law_told, [], []⟩
def d_law_all : He.DefD := ⟨("_law_all", none), "_law_all", "_law_all", defArgs s_law_all, defBody s_law_all, defScope s_law_all, [], []⟩
def d_law_stretches : He.DefD := ⟨("_law_stretches", none), "_law_stretches", "_law_stretches", defArgs s_law_stretches, defBody s_law_stretches, defScope s_law_stretches, [], []⟩
def d_law_rule : He.DefD := ⟨("_law_rule", none), "_law_rule", "_law_rule", defArgs s_law_rule, defBody s_law_rule, defScope s_law_rule, [], []⟩
def d_law_rules : He.DefD := ⟨("_law_rules", none), "_law_rules", "_law_rules", defArgs s_law_rules, defBody s_law_rules, defScope s_law_rules, [], []⟩
def d_law_odd_part : He.DefD := ⟨("_law_odd_part", none), "_law_odd_part", "_law_odd_part", defArgs s_law_odd_part, defBody s_law_odd_part, defScope s_law_odd_part, [], []⟩
def d_law_bad : He.DefD := ⟨("_law_bad", none), "_law_bad", "_law_bad", defArgs s_law_bad, defBody s_law_bad, defScope s_law_bad, [], []⟩
def d_law : He.DefD := ⟨("law", none), "law", "law", defArgs s_law, defBody s_law, defScope s_law, [], []⟩
def d_Person___init__ : He.DefD := ⟨("Person", some "__init__"), "__init__", "Person.__init__", defArgs s_Person___init__, defBody s_Person___init__, defScope s_Person___init__, [], []⟩
def d_Person_lets_by : He.DefD := ⟨("Person", some "lets_by"), "lets_by", "Person.lets_by", defArgs s_Person_lets_by, defBody s_Person_lets_by, defScope s_Person_lets_by, [], []⟩
def d_Notice___init__ : He.DefD := ⟨("Notice", some "__init__"), "__init__", "Notice.__init__", defArgs s_Notice___init__, defBody s_Notice___init__, defScope s_Notice___init__, [], []⟩
def d_Notice_fate : He.DefD := ⟨("Notice", some "fate"), "fate", "Notice.fate", defArgs s_Notice_fate, defBody s_Notice_fate, defScope s_Notice_fate, [], []⟩
def d_Course___init__ : He.DefD := ⟨("Course", some "__init__"), "__init__", "Course.__init__", defArgs s_Course___init__, defBody s_Course___init__, defScope s_Course___init__, [], []⟩
def d_Course_pass_moment : He.DefD := ⟨("Course", some "pass_moment"), "pass_moment", "Course.pass_moment", defArgs s_Course_pass_moment, defBody s_Course_pass_moment, defScope s_Course_pass_moment, [], []⟩
def d_Course_take_hears : He.DefD := ⟨("Course", some "take_hears"), "take_hears", "Course.take_hears", defArgs s_Course_take_hears, defBody s_Course_take_hears, defScope s_Course_take_hears, [], []⟩
def d_Course_shut_heaps : He.DefD := ⟨("Course", some "shut_heaps"), "shut_heaps", "Course.shut_heaps", defArgs s_Course_shut_heaps, defBody s_Course_shut_heaps, defScope s_Course_shut_heaps, [], []⟩
def d_Course_send_on : He.DefD := ⟨("Course", some "send_on"), "send_on", "Course.send_on", defArgs s_Course_send_on, defBody s_Course_send_on, defScope s_Course_send_on, [], []⟩
def d_Course_bring : He.DefD := ⟨("Course", some "bring"), "bring", "Course.bring", defArgs s_Course_bring, defBody s_Course_bring, defScope s_Course_bring, [], []⟩
def d_Course_tell_ready : He.DefD := ⟨("Course", some "tell_ready"), "tell_ready", "Course.tell_ready", defArgs s_Course_tell_ready, defBody s_Course_tell_ready, defScope s_Course_tell_ready, [], []⟩
def d_Course_tell : He.DefD := ⟨("Course", some "tell"), "tell", "Course.tell", defArgs s_Course_tell, defBody s_Course_tell, defScope s_Course_tell, [], []⟩
def d_Course_next_moment : He.DefD := ⟨("Course", some "next_moment"), "next_moment", "Course.next_moment", defArgs s_Course_next_moment, defBody s_Course_next_moment, defScope s_Course_next_moment, [], []⟩
def d_Course_outcome : He.DefD := ⟨("Course", some "outcome"), "outcome", "Course.outcome", defArgs s_Course_outcome, defBody s_Course_outcome, defScope s_Course_outcome, [], []⟩
def fn_0 : List He.DefD := [d_is_number, d_is_whole, d_is_tuple_of, d_is_tuple_up_to, d_is_stretch, d_can_be_hushed, d_can_be_gather, d_first_bad_part, d_refuse_bad_rules, d_refuse_bad_person, d_refuse_bad_moment, d_can_be_notice, d_refuse_bad_notices, d_can_be_hear, d_refuse_bad_hears, d_is_in_stretch, d_hushed_hours, d_judged_hours, d_first_free, d_hushed_ahead_of, d_is_hushed, d_free_from, d_hushed_between, d_row_of, d_written, d_judged_course, d_walked, d_wheeled, d_chain, d_law_begun]
def fn_1 : List He.DefD := [d_law_take, d_law_alike, d_law_told, d_law_all, d_law_stretches, d_law_rule, d_law_rules, d_law_odd_part, d_law_bad, d_law, d_Person___init__, d_Person_lets_by, d_Notice___init__, d_Notice_fate, d_Course___init__, d_Course_pass_moment, d_Course_take_hears, d_Course_shut_heaps, d_Course_send_on, d_Course_bring, d_Course_tell_ready, d_Course_tell, d_Course_next_moment, d_Course_outcome]
def fn : List He.DefD := fn_0 ++ fn_1
def fa_0 : List He.Fa := [.glo "is_number", .glo "is_whole", .glo "is_tuple_of", .glo "is_tuple_up_to", .glo "is_stretch", .glo "can_be_hushed", .glo "can_be_gather", .glo "first_bad_part", .glo "refuse_bad_rules", .glo "refuse_bad_person", .glo "refuse_bad_moment", .glo "can_be_notice", .glo "refuse_bad_notices", .glo "can_be_hear", .glo "refuse_bad_hears", .glo "is_in_stretch", .glo "hushed_hours", .glo "judged_hours", .glo "first_free", .glo "hushed_ahead_of", .glo "is_hushed", .glo "free_from", .glo "hushed_between", .glo "row_of", .glo "written", .glo "judged_course", .glo "walked", .glo "wheeled", .glo "chain", .glo "_law_begun"]
def fa_1 : List He.Fa := [.glo "_law_take", .glo "_law_alike", .glo "_law_told", .glo "_law_all", .glo "_law_stretches", .glo "_law_rule", .glo "_law_rules", .glo "_law_odd_part", .glo "_law_bad", .glo "law", .glo "NoticeError", .glo "BadRules", .glo "BadPerson", .glo "BadMoment", .glo "BadNotices", .glo "BadHears", .glo "BadDevice", .glo "BadBell", .glo "NotRinging", .glo "IsOff", .glo "BadText", .glo "Person", .glo "Notice", .glo "Course", .free "isinstance", .free "bool", .free "int", .free "tuple", .free "list", .free "len"]
def fa_2 : List He.Fa := [.free "all", .free "any", .free "range", .free "min", .free "max", .free "sum", .free "str", .free "sorted", .free "enumerate", .free "zip", .free "dict", .free "set", .free "ValueError", .exc "NoticeError", .exc "BadPerson", .exc "BadMoment", .exc "BadDevice", .exc "BadBell", .exc "NotRinging", .exc "IsOff", .int "MOST_PERSONS" (6), .int "MANY_PARTS" (5), .int "MOST_STRETCHES" (3), .int "LAST_HOUR" (23), .int "MOST_LEAST" (4), .int "MOST_GATHERED" (4), .int "LAST_KIND" (7), .int "MOST_SPAN" (12), .int "MOST_WAIT" (24), .int "LAST_MOMENT" (1000000)]
def fa_3 : List He.Fa := [.int "MOST_NOTICES" (30), .int "LAST_RANK" (3), .int "LAST_BORN" (300), .int "MOST_HEARS" (60), .int "LAST_HEAR" (600), .int "NO_PART" (-1), .int "DAY" (24), .int "MOST_UNTIL" (600), .str "PERSON" "person", .str "HUSH" "hush", .str "GATHER" "gather", .str "NOTICE" "notice", .str "NONE" "-", .keep "NoticeError", .keep "BadRules", .keep "BadPerson", .keep "BadMoment", .keep "BadNotices", .keep "BadHears", .keep "BadDevice", .keep "BadBell", .keep "NotRinging", .keep "IsOff", .keep "BadText", .keep "Person", .keep "Notice", .keep "Course", .exm "NoticeError" "NoticeError" true, .exm "BadRules" "NoticeError" true, .exm "BadPerson" "NoticeError" true]
def fa_4 : List He.Fa := [.exm "BadMoment" "NoticeError" true, .exm "BadNotices" "NoticeError" true, .exm "BadHears" "NoticeError" true, .exm "BadDevice" "NoticeError" true, .exm "BadBell" "NoticeError" true, .exm "NotRinging" "NoticeError" true, .exm "IsOff" "NoticeError" true, .exm "BadText" "NoticeError" true, .free "super", .noat "BadRules" "person", .noat "BadRules" "part", .noat "BadNotices" "number", .noat "BadHears" "number", .noat "BadText" "row", .cls "Person", .mkr "Person", .noat "Person" "hours", .noat "Person" "spans", .noat "Person" "least", .noat "Person" "wait", .noat "Person" "further", .meth "Person" "__init__", .meth "Person" "lets_by", .cls "Notice", .mkr "Notice", .noat "Notice" "number", .noat "Notice" "went", .noat "Notice" "told", .noat "Notice" "goes_on", .noat "Notice" "heard"]
def fa_5 : List He.Fa := [.noat "Notice" "given_up", .noat "Notice" "first", .noat "Notice" "rank", .noat "Notice" "kind", .noat "Notice" "born", .meth "Notice" "__init__", .meth "Notice" "fate", .cls "Course", .mkr "Course", .noat "Course" "persons", .noat "Course" "notices", .noat "Course" "hears", .noat "Course" "heaps", .noat "Course" "ready", .noat "Course" "rows", .meth "Course" "__init__", .meth "Course" "pass_moment", .meth "Course" "take_hears", .meth "Course" "shut_heaps", .meth "Course" "send_on", .meth "Course" "bring", .meth "Course" "tell_ready", .meth "Course" "tell", .meth "Course" "next_moment", .meth "Course" "outcome"]
def fa : List He.Fa := fa_0 ++ fa_1 ++ fa_2 ++ fa_3 ++ fa_4 ++ fa_5
def tf : List He.Defn := [("law", none)]
def names_0 : List PySem.Str := ["NoticeError", "BadRules", "BadPerson", "BadMoment", "BadNotices", "BadHears", "BadDevice", "BadBell", "NotRinging", "IsOff", "BadText", "MOST_PERSONS", "MANY_PARTS", "MOST_STRETCHES", "LAST_HOUR", "MOST_LEAST", "MOST_GATHERED", "LAST_KIND", "MOST_SPAN", "MOST_WAIT", "LAST_MOMENT", "MOST_NOTICES", "LAST_RANK", "LAST_BORN", "MOST_HEARS", "LAST_HEAR", "NO_PART", "is_number", "is_whole", "is_tuple_of"]
def names_1 : List PySem.Str := ["is_tuple_up_to", "is_stretch", "can_be_hushed", "can_be_gather", "first_bad_part", "refuse_bad_rules", "refuse_bad_person", "refuse_bad_moment", "can_be_notice", "refuse_bad_notices", "can_be_hear", "refuse_bad_hears", "DAY", "is_in_stretch", "hushed_hours", "judged_hours", "first_free", "hushed_ahead_of", "is_hushed", "free_from", "hushed_between", "PERSON", "HUSH", "GATHER", "NOTICE", "NONE", "row_of", "written", "Person", "Notice"]
def names_2 : List PySem.Str := ["Course", "MOST_UNTIL", "judged_course", "walked", "wheeled", "chain", "_law_begun", "_law_take", "_law_alike", "_law_told", "_law_all", "_law_stretches", "_law_rule", "_law_rules", "_law_odd_part", "_law_bad"]
def names : List PySem.Str := names_0 ++ names_1 ++ names_2
def exOne (K : PySem.W.Frag) (X : Str) (L : List (Str × Bool)) : Bool := He.eqO (PySem.W.findIn K (.ref (He.ga K X)) "__getattribute__") (some (some (.builtin "BaseException.__getattribute__"))) && (He.eqO (PySem.W.findIn K (.ref (He.ga K X)) "__getattr__") (some none) &&
  (decide (PySem.W.subIn K (.ref (He.ga K X)) (.type "BaseException") = some true) && (PySem.W.hasDictIn K (He.ga K X) && (He.eqO (PySem.W.findIn K (.ref (He.ga K X)) "__class__") (some (some (.builtin "object.__class__"))) && (He.eqO (PySem.W.specialIn K (.builtin "object.__class__") "__get__") (some (some (.builtin "getset_descriptor.__get__"))) &&
  (decide (PySem.W.takesIn K (.builtin "object.__class__") = some true) && (decide (PySem.W.mroIn K (He.ga K X) (.type "object") = some true) && (decide (PySem.W.kitOne K (.ref (He.ga K X)) (.type "ValueError") = some true) && L.all fun q => decide (PySem.W.kitOne K (.ref (He.ga K X)) (.ref (He.ga K q.1)) = some q.2)))))))))
theorem exOne_ok {K : PySem.W.Frag} {X : Str} {L : List (Str × Bool)} (h : exOne K X L = true) : ExcC K (He.ga K X) ∧ PySem.W.kitOne K (.ref (He.ga K X)) (.type "ValueError") = some true ∧ ∀ q ∈ L, PySem.W.kitOne K (.ref (He.ga K X)) (.ref (He.ga K q.1)) = some q.2 := by
  obtain ⟨h1, h⟩ := He.ba h
  obtain ⟨h2, h⟩ := He.ba h
  obtain ⟨h3, h⟩ := He.ba h
  obtain ⟨h4, h⟩ := He.ba h
  obtain ⟨h5, h⟩ := He.ba h
  obtain ⟨h6, h⟩ := He.ba h
  obtain ⟨h7, h⟩ := He.ba h
  obtain ⟨h8, h⟩ := He.ba h
  obtain ⟨h9, h⟩ := He.ba h
  exact ⟨⟨He.eqO_ok h1, He.eqO_ok h2, of_decide_eq_true h3, h4, He.eqO_ok h5, He.eqO_ok h6, of_decide_eq_true h7, of_decide_eq_true h8⟩, of_decide_eq_true h9, fun q hq => of_decide_eq_true (List.all_eq_true.mp h q hq)⟩
def kin_BadRules : List (Str × Bool) := [("BadBell", false), ("BadDevice", false), ("BadHears", false), ("BadMoment", false), ("BadNotices", false), ("BadPerson", false), ("BadRules", true), ("BadText", false), ("IsOff", false), ("NotRinging", false)]
def exb (K : PySem.W.Frag) : Bool := exOne K "BadRules" kin_BadRules && emB K (kwAt "walked" "hears" K) && emB K (kwAt "wheeled" "hears" K) && Sy.supB K PySem.Challenge.rw_hushnotice_k01_rules_refused.prog.main.file cel_BadRules && Sy.supB K PySem.Challenge.rw_hushnotice_k01_rules_refused.prog.main.file cel_BadNotices && Sy.supB K PySem.Challenge.rw_hushnotice_k01_rules_refused.prog.main.file cel_BadHears && Sy.supB K PySem.Challenge.rw_hushnotice_k01_rules_refused.prog.main.file cel_BadText
abbrev R : PySem.W.OpenRow := PySem.W.OpenLaw.row PySem.Challenge.rw_hushnotice_k01_rules_refused
def cs : List Sy.CelD := [cel_BadRules, cel_BadNotices, cel_BadHears, cel_BadText]
abbrev hk : PySem.W.Hook := Sy.hookC 5 fa fn [] tf cs exb
def ob (s : PySem.W.SharedT) : Sy.AlC := Sy.obsC 5 fa fn [] tf cs exb (HandSHeadRun.getT s)
theorem ob_eq (s : PySem.W.SharedT) : ob s = hk.obs s.abs := Sy.obsC_eq (HandSHeadRun.getT_eq s)
theorem run (w : World) : HandSHeadRun.RunEq R (PySem.W.view R.prog [83]) hk ob 8000 names w := by
  intro os
  kernel_rfl
end Hn
set_option Elab.async false
set_option linter.all false
set_option maxRecDepth 100000
set_option maxHeartbeats 8000000
namespace Hn
open PySem PySem.Spec PyProof.Rows L2 Sy Lm
section
variable {P : Program} {w : World} {K : PySem.W.Frag} {mg : Str → Option Value} {base : Heap}
local macro_rules | `(tactic| walk_at "r") => `(tactic| (conv => whnf))
local macro_rules | `(tactic| walk_at "sp") => `(tactic| (first | rfl | contradiction | exact (False.elim ‹_›)))
local macro_rules | `(tactic| walk_at "len") => `(tactic| (exact Nat.le_trans (show _ ≤ 100000 by first | (simp; done) | (rw [rngS_length]; decide)) (by decide)))
local macro_rules | `(tactic| walk_at "f") => `(tactic| (refine Br_i (fun hb => Bool.noConfusion (show false = true from hb)) (fun _ => ?_)))
local macro_rules | `(tactic| walk_at "t") => `(tactic| (refine Br_i (fun _ => ?_) (fun hb => Bool.noConfusion (show true = false from hb))))
local macro_rules | `(tactic| walk_at "le") => `(tactic| first | exact Le.refl _ | (refine Le.put ?_; walk_at "le") | (refine Le.new ?_ (by assumption); walk_at "le"))
theorem lay_ints : ∀ ns : List Int, PyData.canLayAll0 (ns.map PyData.int) = true ∧ PyData.depthAll (ns.map PyData.int) ≤ 1
  | [] => ⟨by simp [PyData.canLayAll0], by simp [PyData.depthAll]⟩
  | n :: r => by
    have h := lay_ints r
    have h2 := h.2
    refine ⟨by simp [PyData.canLayAll0, PyData.canLay0, h.1], ?_⟩
    simp only [List.map_cons, PyData.depthAll, PyData.depth]
    omega
theorem shaped_ints : ∀ ns : List Int, SeqAt.shaped (.list (ns.map PyData.int)) = true := fun ns => by
  have h := lay_ints ns
  have h2 := h.2
  unfold SeqAt.shaped
  have h3 : (1 + PyData.depthAll (ns.map PyData.int)) ≤ 64 := by omega
  simp only [PyData.canLay0, PyData.depth, h.1, Bool.true_and]
  exact decide_eq_true (by first | exact h3 | (rw [Nat.add_comm]; exact h3))
theorem rds_ints {m : Mem} : ∀ ns : List Int, Rds m (ns.map SV.int) (ns.map PyData.int)
  | [] => .nil
  | _ :: r => .cons (.int _) (rds_ints r)
def spTakeO : SpS := fun vs m _ S => ∃ b c sv ns k, vs = [.ref b, .int k] ∧ m b = some (.lst [.ref c, .int sv]) ∧ m c = some (.lst (List.map SV.int ns)) ∧ ns.length ≤ 63 ∧ 0 < k ∧ k.natAbs < 2 ^ 8000 ∧
  ∀ (n : Int) (ns' : List Int) (sv' : Int), 0 ≤ n → n < k → ns'.length ≤ 63 → S (.int n) (up (up m c (.lst (ns'.map .int))) b (.lst [.ref c, .int sv']))
def IsBox (m : Mem) (b : Addr) : Prop := ∃ c, m b = some (.box c) ∧ m c = some .bxi
def spTake : SpS := fun vs m _ S => match vs with
  | [.ref b, .int k] => IsBox m b ∧ (0 < k ∧ k.natAbs < 2 ^ 8000) ∧ ∀ n : Int, 0 ≤ n → n < k → S (.int n) m
  | _ => False
theorem take_imp {vs : List V} {H : Hp} {Q : VK} {E : XK} (h : lift K spTake vs H Q E) : lift K spTakeO vs H Q E := by
  obtain ⟨F, svs, m, SX, S, M, r, h, hx, c⟩ := h
  unfold spTake at h
  split at h
  · rename_i b k
    obtain ⟨⟨c0, hb, hc⟩, ⟨k0, k1⟩, q⟩ := h
    have ne : c0 ≠ b := fun e => by rw [e, hb] at hc; cases hc
    obtain ⟨sv, eb⟩ := (M.at_ b _ hb).2
    obtain ⟨ns, ec, hl⟩ := (M.at_ c0 _ hc).2
    have M1 : MR K F H (up m c0 (.lst (ns.map .int))) := M.reab hc (fun u e x => by rw [ec] at e; cases e; exact x) ⟨_, ec, vrs_of_ints ns⟩
    have M2 : MR K F H (up (up m c0 (.lst (ns.map .int))) b (.lst [.ref c0, .int sv])) := M1.reab (by rw [up_ne (Ne.symm ne)]; exact hb) (fun u e x => by rw [eb] at e; cases e; exact x) ⟨_, eb, .cons (.ref _) (.cons (.int _) .nil)⟩
    refine ⟨F, _, _, SX, fun v m' => ∃ (n : Int) (ns' : List Int) (sv' : Int), v = .int n ∧ ns'.length ≤ 63 ∧ 0 ≤ n ∧ n < k ∧ m' = up (up m c0 (.lst (ns'.map .int))) b (.lst [.ref c0, .int sv']), M2, r, ⟨b, c0, sv, ns, k, rfl, up_same, by rw [up_ne ne]; exact up_same, hl, k0, k1, fun n ns' sv' n0 n1 hl' => ⟨n, ns', sv', rfl, hl', n0, n1, ?_⟩⟩, hx, fun v F' H' sv2 m2 s2 M3 v3 h3 => ?_⟩
    · rw [up_comm (a := b) (b := c0) (Ne.symm ne), up_up, up_up]
    · obtain ⟨n, ns', sv', rfl, hl', n0, n1, rfl⟩ := h3
      refine c v F' H' (.int n) m s2 ?_ v3 (q n n0 n1)
      obtain ⟨ws, e1, r1⟩ := M3.lst_ up_same
      obtain ⟨us, e2, r2⟩ := M3.lst_ (show (up (up m c0 (.lst (ns'.map .int))) b (.lst [.ref c0, .int sv'])) c0 = _ by rw [up_ne ne]; exact up_same)
      obtain rfl := vrs_ints r2
      obtain ⟨w1, w2, rfl, r3, r4⟩ := vrs_two r1
      obtain rfl := vr_ref r3
      obtain rfl := vr_int r4
      have M4 := M3.reab (o := .box c0) up_same (fun u e x => by rw [e1] at e; cases e; exact x) ⟨sv', e1⟩
      have M5 := M4.reab (a := c0) (o := .bxi) (o0 := .lst (ns'.map .int)) (by rw [up_ne ne, up_ne ne, up_same]) (fun u e x => by rw [e2] at e; cases e; exact x) ⟨ns', e2, hl'⟩
      rw [up_up, up_comm (Ne.symm ne), up_up] at M5
      rwa [up_id hc, up_id hb] at M5
  · exact h.elim
theorem okO_law_take (T : Tx K mg) : FnOk P w K mg base CX0 1 (He.ga K "_law_take") T.fd__law_take ["_law_box", "_law_many"] (lift K spTakeO) := by
  refine fn_sy T.F__law_take sc_law_take (fun svs m SX Sv h => ?_) (fun cdv A outer s H E hr => ⟨_, _, (gss_cons (gs_if (gt_cmp (op_eqG K hr.units) sim_eq (ge_ix (ix_G K) sim_ix (gv 0) ge_int (fun _ _ => rfl)) (ge_lst ga_nil) (nomark _)) (gss_cons (gs_asg (ge_op op_mod sim_mod (ge_op op_mulG sim_mul (ge_ix (ix_G K) sim_ix (gv 0) ge_int (fun _ _ => rfl)) ge_int) ge_int) (gg_subL (gv 0) ge_int))
      (gss_one (gs_ret (ge_op op_mod sim_mod (ge_op op_fdivG sim_fdiv (ge_ix (ix_G K) sim_ix (gv 0) ge_int (fun _ _ => rfl)) ge_int) (gv 1))))) gss_nil)
      (gss_cons (gs_set (i := 2) sc_law_take.nd rfl (.inl rfl) (ge_ix (ix_G K) sim_ix (ge_ix (ix_G K) sim_ix (gv 0) ge_int (fun _ _ => rfl)) ge_int (fun _ _ => rfl)))
      (gss_cons (gs_asg (ge_op op_fdivG sim_fdiv (gv 2) (gv 1)) (gg_subL (ge_ix (ix_G K) sim_ix (gv 0) ge_int (fun _ _ => rfl)) ge_int))
      (gss_cons (gs_if (gw_pt (gw_or (gt_cmp (op_eqG K hr.units) sim_eq (ge_ix (ix_G K) sim_ix (ge_ix (ix_G K) sim_ix (gv 0) ge_int (fun _ _ => rfl)) ge_int (fun _ _ => rfl)) ge_int (nomark _)) (gw_or1 (gt_cmp (op_eqG K hr.units) sim_eq (ge_ix (ix_G K) sim_ix (ge_ix (ix_G K) sim_ix (gv 0) ge_int (fun _ _ => rfl)) ge_int (fun _ _ => rfl)) (ge_un un_neg sim_neg ge_int) (nomark _))))) (gss_one (gs_expr (ge_bm PySem.F.plainAttrs_list PySem.F.slot_list_pop PySem.F.type_list_pop mt_popAt simk_L sim_popAt (ge_ix (ix_G K) sim_ix (gv 0) ge_int (fun _ _ => rfl)) (ga_cons ge_int ga_nil)))) gss_nil)
      (gss_one (gs_ret (ge_op op_mod sim_mod (gv 2) (gv 1)))))))), fun svs m SX Sv h => ?_⟩)
  · obtain ⟨b, c, sv, ns, k, rfl, _⟩ := h
    rfl
  · obtain ⟨b, c, sv, ns, k, rfl, hb, hc, hl, k0, k1, q⟩ := h
    have ne : c ≠ b := fun e => by
      rw [e, hb] at hc
      cases ns with
      | nil => cases hc
      | cons a r => injection (Option.some.inj hc) with z; injection z with z _; cases z
    walk_at "r"
    refine ⟨_, _, hb, rfl, ?_⟩
    walk_at "r"
    refine ⟨by walk_at "len", fun p hp => ?_⟩
    have hbp : up m p (.lst []) b = some (.lst [.ref c, .int sv]) := by rw [up_ne (mne hb hp)]; exact hb
    have hcp : up m p (.lst []) c = some (.lst (List.map SV.int ns)) := by rw [up_ne (mne hc hp)]; exact hc
    walk_at "r"
    refine ⟨_, _, .ref hcp (rds_ints ns), .ref up_same .nil, shaped_ints ns, rfl, ?_⟩
    have fin : ∀ (n : Int) (ns' : List Int) (sv' : Int) (m' : Mem), 0 ≤ n → n < k → ns'.length ≤ 63 → Le (up (up m c (.lst (ns'.map .int))) b (.lst [.ref c, .int sv'])) m' → Fg (Sv (.int n)) m' := fun n ns' sv' m' n0 n1 hl' le => ⟨_, le, q n ns' sv' n0 n1 hl'⟩
    have le0 : ∀ (X : List SV) (Y : List SV), Le (up (up m c (.lst X)) b (.lst Y)) (up (up (up m p (.lst [])) c (.lst X)) b (.lst Y)) := fun X Y => Le.put (Le.put (Le.new (.refl m) hp))
    cases ns with
    | nil =>
      refine Br_i (fun _ => ?_) (fun hb => by cases hb)
      walk_at "r"
      refine ⟨_, _, hbp, rfl, ?_⟩
      walk_at "r"
      refine ⟨.inl (.inr ⟨by decide, by decide⟩), ?_⟩
      walk_at "r"
      refine ⟨(by decide : (0 : Int) < 2147483647), ?_⟩
      walk_at "r"
      refine ⟨_, 1, hbp, rfl, ?_⟩
      walk_at "r"
      refine ⟨_, _, up_same, rfl, ?_⟩
      walk_at "r"
      refine ⟨.inl ⟨by decide, by decide⟩, ?_⟩
      walk_at "r"
      refine ⟨k0, ?_⟩
      refine fin _ [] _ _ (Int.emod_nonneg _ (by omega)) (Int.emod_lt_of_pos _ k0) (by simp) (Le.put ?_)
      rw [up_id (by exact hc)]
      exact Le.new (.refl m) hp
    | cons n r =>
      refine Br_i (fun hb => by cases hb) (fun _ => ?_)
      have ix0 : ∀ m : Nat, ixN (m + 1) 0 = some 0 := fun m => by
        unfold ixN
        rw [if_pos (by decide), if_pos (by omega)]
        rfl
      have at0 : ∀ (x : SV) (xs : List SV), atI (x :: xs) 0 = some x := fun x xs => atI_nat (j := 0) rfl
      walk_at "r"
      refine ⟨_, _, hbp, rfl, ?_⟩
      walk_at "r"
      refine ⟨_, _, hcp, at0 _ _, ?_⟩
      walk_at "r"
      refine ⟨.inr (wide_div k0 k1 (by decide) (by decide)), ?_⟩
      walk_at "r"
      refine ⟨_, _, hbp, rfl, ?_⟩
      walk_at "r"
      refine ⟨_, 0, hcp, ix0 _, ?_⟩
      have hbq : ∀ o, up (up m p (.lst [])) c o b = some (.lst [.ref c, .int sv]) := fun o => by rw [up_ne (Ne.symm ne)]; exact hbp
      walk_at "r"
      refine ⟨_, _, hbq _, rfl, ?_⟩
      walk_at "r"
      refine ⟨_, _, up_same, at0 _ _, ?_⟩
      have leb : ∀ X : List SV, Le (up (up m c (.lst X)) b (.lst [.ref c, .int sv])) (up (up m p (.lst [])) c (.lst X)) := fun X => by
        rw [up_id (by rw [up_ne (Ne.symm ne)]; exact hb)]
        exact Le.put (Le.new (.refl m) hp)
      have pop : ∀ SX' : SXK, sSeq (sDrop (sBM ckL sPopAt (sOp sIx (sVar 0) (sC (.int 0))) (sCons (sC (.int 0)) sNil))) (sRet (sOp sMod (sVar 2) (sVar 1))) SX' { nx := fun x m' => Fg (Sv .non) m', rt := fun v => Fg (Sv v) } [some (.ref b), some (.int k), some (.int n)] (up (up m p (.lst [])) c (.lst (List.set (List.map SV.int (n :: r)) 0 (.int (n / k))))) := fun SX' => by
        walk_at "r"
        refine ⟨_, _, hbq _, rfl, ?_⟩
        walk_at "r"
        refine ⟨⟨_, up_same⟩, ?_⟩
        walk_at "r"
        refine ⟨_, 0, _, up_same, by decide, by decide, (ixN_seq (ix0 _)).1, rfl, ?_⟩
        walk_at "r"
        refine ⟨k0, ?_⟩
        rw [up_up]
        exact fin _ r sv _ (Int.emod_nonneg _ (by omega)) (Int.emod_lt_of_pos _ k0) (by rw [List.length_cons] at hl; omega) (leb _)
      walk_at "r"
      refine Br_i (fun _ => Br_t (pop _)) (fun _ => ?_)
      walk_at "r"
      refine ⟨_, _, hbq _, rfl, ?_⟩
      walk_at "r"
      refine ⟨_, _, up_same, at0 _ _, ?_⟩
      walk_at "r"
      refine Br_i (fun _ => pop _) (fun _ => ?_)
      walk_at "r"
      refine ⟨k0, ?_⟩
      exact fin _ (n / k :: r) sv _ (Int.emod_nonneg _ (by omega)) (Int.emod_lt_of_pos _ k0) (by rw [List.length_cons] at hl ⊢; omega) (leb _)
theorem ok_law_take (T : Tx K mg) : FnOk P w K mg base CX0 1 (He.ga K "_law_take") T.fd__law_take ["_law_box", "_law_many"] (lift K spTake) := (okO_law_take T).imp fun _ _ _ _ h => take_imp h
end
end Hn

set_option Elab.async false
set_option linter.all false
set_option maxRecDepth 100000
set_option maxHeartbeats 8000000
namespace Hn
open PySem PySem.Spec PyProof.Rows L2 Sy Lm
section
variable {P : Program} {w : World} {K : PySem.W.Frag} {mg : Str → Option Value} {base : Heap}
local macro_rules | `(tactic| walk_at "r") => `(tactic| (conv => whnf))
local macro_rules | `(tactic| walk_at "sp") => `(tactic| (first | rfl | contradiction | exact (False.elim ‹_›)))
local macro_rules | `(tactic| walk_at "len") => `(tactic| (exact Nat.le_trans (show _ ≤ 100000 by first | (simp; done) | (rw [rngS_length]; decide)) (by decide)))
local macro_rules | `(tactic| walk_at "f") => `(tactic| (refine Br_i (fun hb => Bool.noConfusion (show false = true from hb)) (fun _ => ?_)))
local macro_rules | `(tactic| walk_at "t") => `(tactic| (refine Br_i (fun _ => ?_) (fun hb => Bool.noConfusion (show true = false from hb))))
local macro_rules | `(tactic| walk_at "le") => `(tactic| first | exact Le.refl _ | (refine Le.put ?_; walk_at "le") | (refine Le.new ?_ (by assumption); walk_at "le"))
def spBegunO : SpS := fun vs m _ S => ∃ ns : List Int, vs = [.lst (ns.map .int)] ∧ ns.length ≤ 63 ∧ ∀ (b c : Addr) (sv : Int), m c = none → m b = none → b ≠ c → S (.ref b) (up (up m c (.lst (ns.map .int))) b (.lst [.ref c, .int sv]))
def spBegun : SpS := fun vs m _ S => ∃ ns : List Int, vs = [.lst (ns.map .int)] ∧ ns.length ≤ 63 ∧ ∀ (b c : Addr), m c = none → m b = none → b ≠ c → S (.ref b) (up (up m c .bxi) b (.box c))
theorem begun_imp {vs : List V} {H : Hp} {Q : VK} {E : XK} (h : lift K spBegun vs H Q E) : lift K spBegunO vs H Q E := by
  obtain ⟨F, svs, m, SX, S, M, r, ⟨ns, rfl, hl, q⟩, hx, c⟩ := h
  refine ⟨F, _, m, SX, fun v m' => ∃ (b c : Addr) (sv : Int), v = .ref b ∧ m c = none ∧ m b = none ∧ b ≠ c ∧ m' = up (up m c (.lst (ns.map .int))) b (.lst [.ref c, .int sv]), M, r, ⟨ns, rfl, hl, fun b c sv h1 h2 h3 => ⟨b, c, sv, rfl, h1, h2, h3, rfl⟩⟩, hx, fun v F' H' sv2 m2 s2 M3 v3 h3 => ?_⟩
  obtain ⟨b, c0, sv', rfl, h1, h2, ne, rfl⟩ := h3
  refine c v F' H' (.ref b) _ s2 ?_ v3 (q b c0 h1 h2 ne)
  obtain ⟨ws, e1, r1⟩ := M3.lst_ up_same
  obtain ⟨us, e2, r2⟩ := M3.lst_ (show (up (up m c0 (.lst (ns.map .int))) b (.lst [.ref c0, .int sv'])) c0 = _ by rw [up_ne (Ne.symm ne)]; exact up_same)
  obtain rfl := vrs_ints r2
  obtain ⟨w1, w2, rfl, r3, r4⟩ := vrs_two r1
  obtain rfl := vr_ref r3
  obtain rfl := vr_int r4
  have M4 := M3.reab (o := .box c0) up_same (fun u e x => by rw [e1] at e; cases e; exact x) ⟨sv', e1⟩
  have M5 := M4.reab (a := c0) (o := .bxi) (o0 := .lst (ns.map .int)) (by rw [up_ne (Ne.symm ne), up_ne (Ne.symm ne), up_same]) (fun u e x => by rw [e2] at e; cases e; exact x) ⟨ns, e2, hl⟩
  rw [up_up, up_comm ne, up_up] at M5
  exact M5
theorem okO_law_begun (T : Tx K mg) : FnOk P w K mg base CX0 1 (He.ga K "_law_begun") T.fd__law_begun ["_law_script"] (lift K spBegunO) := by
  refine fn_sy T.F__law_begun sc_law_begun (fun svs m SX Sv h => ?_) (fun cdv A outer s H E hr => ⟨_, _, (gss_cons (gs_set (i := 1) sc_law_begun.nd rfl (.inl rfl) ge_int)
      (gss_cons (gs_for PassesOwn.never rfl (gi_seq (gv 0)) (gg_name (i := 2) sc_law_begun.nd rfl (.inl rfl))
      (gss_one (gs_set (i := 1) sc_law_begun.nd rfl (.inl rfl) (ge_op op_mod sim_mod (ge_op (op_addG K) sim_add (ge_op (op_addG K) sim_add (ge_op op_mulG sim_mul (gv 1) ge_int) (ge_op op_mulG sim_mul (gv 2) ge_int)) ge_int) ge_int))))
      (gss_one (gs_ret (ge_lst (ga_cons (ge_callTy (cr_lst K) sim_lstOf (by rfl) T.z_list (by decide +kernel) (ga_cons (gv 0) ga_nil)) (ga_cons (ge_op op_mulG sim_mul (gv 1) (ge_callTy call_int1 sim_int1 (by rfl) T.z_int (by decide +kernel) (ga_cons (ge_cmp op_gt sim_gt (ge_callB (cr_len K) sim_len (by rfl) T.z_len (by decide +kernel) (ga_cons (gv 0) ga_nil)) ge_int (nomark _)) ga_nil))) ga_nil))))))), fun svs m SX Sv h => ?_⟩)
  · obtain ⟨ns, rfl, _⟩ := h
    rfl
  · obtain ⟨ns, rfl, hl, q⟩ := h
    walk_at "r"
    refine ⟨_, rfl, ?_⟩
    refine for_inv (fun r δ m' => m' = m ∧ ∃ (st : Int) (a : Option SV), δ = [some (.lst (ns.map .int)), some (.int st), a] ∧ ∀ x ∈ r, ∃ i : Int, x = .int i) ⟨rfl, 0, none, rfl, fun x hx => by
      obtain ⟨i, _, e⟩ := List.mem_map.mp hx
      exact ⟨i, e.symm⟩⟩ (fun x r δ m' h => ?_) (fun δ m' h => ?_)
    · obtain ⟨rfl, st, a, rfl, hr⟩ := h
      obtain ⟨i, rfl⟩ := hr x List.mem_cons_self
      refine ⟨trivial, ?_⟩
      walk_at "r"
      refine ⟨.inl (.inr ⟨by decide, by decide⟩), ?_⟩
      walk_at "r"
      refine ⟨.inl (.inr ⟨by decide, by decide⟩), ?_⟩
      walk_at "r"
      refine ⟨(by decide : (0 : Int) < 2147483647), ?_⟩
      walk_at "r"
      exact .of ⟨rfl, _, _, rfl, fun x hx => hr x (List.mem_cons_of_mem _ hx)⟩
    · obtain ⟨rfl, st, a, rfl, _⟩ := h
      refine ⟨trivial, ?_⟩
      walk_at "r"
      refine ⟨_, rfl, fun c hc => ?_⟩
      walk_at "r"
      refine ⟨_, rfl, ?_⟩
      walk_at "r"
      refine ⟨.inl (.inr ?_), ?_⟩
      · split
        · exact ⟨by decide, by decide⟩
        · exact ⟨by decide, by decide⟩
      walk_at "r"
      refine ⟨by walk_at "len", fun b hb => ?_⟩
      have ne : c ≠ b := mne up_same hb
      rw [up_ne (Ne.symm ne)] at hb
      exact .of (q b c _ hc hb (Ne.symm ne))
theorem ok_law_begun (T : Tx K mg) : FnOk P w K mg base CX0 1 (He.ga K "_law_begun") T.fd__law_begun ["_law_script"] (lift K spBegun) := (okO_law_begun T).imp fun _ _ _ _ h => begun_imp h
end
end Hn

set_option Elab.async false
set_option linter.all false
set_option maxRecDepth 100000
set_option maxHeartbeats 8000000
namespace Hn
open PySem PySem.Spec PyProof.Rows L2 Sy Lm
section
variable {P : Program} {w : World} {K : PySem.W.Frag} {mg : Str → Option Value} {base : Heap}
local macro_rules | `(tactic| walk_at "r") => `(tactic| (conv => whnf))
local macro_rules | `(tactic| walk_at "sp") => `(tactic| (first | rfl | contradiction | exact (False.elim ‹_›)))
local macro_rules | `(tactic| walk_at "len") => `(tactic| (exact Nat.le_trans (show _ ≤ 100000 by first | (simp; done) | (rw [rngS_length]; decide)) (by decide)))
local macro_rules | `(tactic| walk_at "f") => `(tactic| (refine Br_i (fun hb => Bool.noConfusion (show false = true from hb)) (fun _ => ?_)))
local macro_rules | `(tactic| walk_at "t") => `(tactic| (refine Br_i (fun _ => ?_) (fun hb => Bool.noConfusion (show true = false from hb))))
local macro_rules | `(tactic| walk_at "le") => `(tactic| first | exact Le.refl _ | (refine Le.put ?_; walk_at "le") | (refine Le.new ?_ (by assumption); walk_at "le"))
theorem IsBox.le {a m : Mem} {b : Addr} (h : IsBox a b) (l : Le a m) : IsBox m b := by
  obtain ⟨c, h1, h2⟩ := h
  exact ⟨c, l _ _ h1, l _ _ h2⟩
theorem IsBox.new {m : Mem} {b p : Addr} {o : MO} (h : IsBox m b) (hp : m p = none) : IsBox (up m p o) b := h.le (Le.new (.refl m) hp)
theorem _root_.Sy.Le.over {a m : Mem} {f : Addr} {o : MO} (h : Le a m) (n : a f = none) : Le a (up m f o) := fun x u e => by rw [up_ne (mne e n)]; exact h x u e
theorem kp {m : Mem} {a p : Addr} {o u : MO} (h : m a = some o) (n : m p = none) : up m p u a = some o := by rw [up_ne (mne h n)]; exact h
theorem pick2 {a b : SV} {n : Int} (h0 : 0 ≤ n) (h1 : n < 2) : atI [a, b] n = some (if n = 0 then a else b) := by
  rcases (by omega : n = 0 ∨ n = 1) with rfl | rfl
  · exact atI_nat (j := 0) rfl
  · exact atI_nat (j := 1) rfl
theorem pick3 {a b c : SV} {n : Int} (h0 : 0 ≤ n) (h1 : n < 3) : atI [a, b, c] n = some (if n = 0 then a else if n = 1 then b else c) := by
  rcases (by omega : n = 0 ∨ n = 1 ∨ n = 2) with rfl | rfl | rfl
  · exact atI_nat (j := 0) rfl
  · exact atI_nat (j := 1) rfl
  · exact atI_nat (j := 2) rfl
theorem ite_int {c : Prop} [Decidable c] {a b : Int} : (if c then SV.int a else .int b) = .int (if c then a else b) := by split <;> rfl
theorem small {k : Int} (h0 : 0 < k) (h : k ≤ 10 ^ 30) : 0 < k ∧ k.natAbs < 2 ^ 8000 := ⟨h0, Nat.lt_of_le_of_lt (m := 10 ^ 30) (by omega) (by decide +kernel)⟩
def stOk (p : Int × Int) : Prop := (0 ≤ p.1 ∧ p.1 ≤ 23) ∧ (0 ≤ p.2 ∧ p.2 ≤ 23) ∧ p.1 ≠ p.2
def spStretches : SpS := fun vs m _ S => match vs with
  | [.ref b] => IsBox m b ∧ ∀ hs : List (Int × Int), hs.length ≤ 3 → (∀ p ∈ hs, stOk p) → S (.tup (hs.map pairV)) m
  | _ => False
theorem ok_law_stretches (T : Tx K mg) : FnOk P w K mg base CX0 2 (He.ga K "_law_stretches") T.fd__law_stretches ["_law_box"] (lift K spStretches) := by
  have G_law_take := ok_law_take (P := P) (w := w) (base := base) T
  have b_law_take := b_law_take T
  refine fn_sy T.F__law_stretches sc_law_stretches (fun svs m SX Sv h => ?_) (fun cdv A outer s H E hr => ⟨_, _, (gss_cons (gs_set (i := 1) sc_law_stretches.nd rfl (.inl rfl) (ge_lst ga_nil))
      (gss_cons (gs_for PassesOwn.never rfl (gi_range1 (by rfl) T.z_range (ga_cons (ge_call G_law_take (hr) (by rfl) T.g__law_take T.k__law_take b_law_take .nil (fun _ => .nil) pass0 (ga_cons (gv 0) (ga_cons ge_int ga_nil))) ga_nil)) (gg_name (i := 2) sc_law_stretches.nd rfl (.inl rfl))
      (gss_cons (gs_set (i := 3) sc_law_stretches.nd rfl (.inl rfl) (ge_call G_law_take (hr) (by rfl) T.g__law_take T.k__law_take b_law_take .nil (fun _ => .nil) pass0 (ga_cons (gv 0) (ga_cons ge_int ga_nil))))
      (gss_one (gs_expr (ge_bm PySem.F.plainAttrs_list PySem.F.slot_list_append PySem.F.type_list_append mt_append simk_L sim_append (gv 1) (ga_cons (ge_tup (ga_cons (gv 3) (ga_cons (ge_op op_mod sim_mod (ge_op (op_addG K) sim_add (ge_op (op_addG K) sim_add (gv 3) ge_int) (ge_call G_law_take (hr) (by rfl) T.g__law_take T.k__law_take b_law_take .nil (fun _ => .nil) pass0 (ga_cons (gv 0) (ga_cons (ge_ix (ix_G K) sim_ix (ge_lst (ga_cons ge_int (ga_cons ge_int ga_nil))) (ge_call G_law_take (hr) (by rfl) T.g__law_take T.k__law_take b_law_take .nil (fun _ => .nil) pass0 (ga_cons (gv 0) (ga_cons ge_int ga_nil))) (fun _ _ => rfl)) ga_nil)))) ge_int) ga_nil))) ga_nil))))))
      (gss_one (gs_ret (ge_callTy (cr_tup K) sim_tupOf (by rfl) T.z_tuple (by decide +kernel) (ga_cons (gv 1) ga_nil)))))), fun svs m SX Sv h => ?_⟩)
  · unfold spStretches at h
    split at h <;> first | rfl | exact h.elim
  · unfold spStretches at h
    split at h
    · rename_i b
      obtain ⟨hb, q⟩ := h
      walk_at "r"
      refine ⟨by walk_at "len", fun p hp => ?_⟩
      walk_at "r"
      refine ⟨hb.new hp, small (by decide) (by decide), fun n n0 n1 => ?_⟩
      walk_at "r"
      refine ⟨⟨by omega, by omega⟩, ?_⟩
      refine for_inv (fun r δ m' => ∃ (hs : List (Int × Int)) (a c : Option SV), m' = up m p (.lst (hs.map pairV)) ∧ δ = [some (.ref b), some (.ref p), a, c] ∧ hs.length + r.length ≤ 3 ∧ ∀ p ∈ hs, stOk p) ⟨[], none, none, rfl, rfl, by rw [rngS_length]; simp; omega, fun p h => by cases h⟩ (fun x r δ m' h => ?_) (fun δ m' h => ?_)
      · obtain ⟨hs, a, c, rfl, rfl, hl, ok⟩ := h
        refine ⟨trivial, ?_⟩
        walk_at "r"
        refine ⟨hb.new hp, small (by decide) (by decide), fun g g0 g1 => ?_⟩
        walk_at "r"
        refine ⟨⟨_, up_same⟩, ?_⟩
        walk_at "r"
        refine ⟨by walk_at "len", fun p2 hp2 => ?_⟩
        have bx : IsBox (up (up m p (.lst (hs.map pairV))) p2 (.lst [.int 23, .int 9])) b := (hb.new hp).new hp2
        walk_at "r"
        refine ⟨bx, small (by decide) (by decide), fun i i0 i1 => ?_⟩
        walk_at "r"
        refine ⟨_, _, up_same, pick2 i0 i1, ?_⟩
        rw [ite_int]
        walk_at "r"
        refine ⟨bx, small (by split <;> decide) (by split <;> decide), fun e e0 e1 => ?_⟩
        have e2 : e < 23 := by split at e1 <;> omega
        walk_at "r"
        refine ⟨(by decide : (0 : Int) < 24), ?_⟩
        walk_at "r"
        refine ⟨by walk_at "len", ?_⟩
        walk_at "r"
        refine ⟨_, by rw [up_ne (mne up_same hp2), up_same], line_le (by simp at hl ⊢; omega), ?_⟩
        walk_at "r"
        refine ⟨up m p (.lst ((hs ++ [(g, (g + 1 + e) % 24)]).map pairV)), by rw [List.map_append]; walk_at "le", hs ++ [(g, (g + 1 + e) % 24)], _, _, rfl, rfl, by rw [List.length_append]; simp at hl ⊢; omega, fun y hy => ?_⟩
        rcases List.mem_append.mp hy with hy | hy
        · exact ok y hy
        · obtain rfl := List.mem_singleton.mp hy
          refine ⟨⟨g0, by show g ≤ 23; omega⟩, ⟨?_, ?_⟩, ?_⟩
          · show 0 ≤ (g + 1 + e) % 24; omega
          · show (g + 1 + e) % 24 ≤ 23; omega
          · show g ≠ (g + 1 + e) % 24; omega
      · obtain ⟨hs, a, c, rfl, rfl, hl, ok⟩ := h
        refine ⟨trivial, ?_⟩
        walk_at "r"
        refine ⟨_, up_same, ?_⟩
        walk_at "r"
        exact ⟨m, by walk_at "le", q hs (by simpa using hl) ok⟩
    · exact h.elim
theorem gOk_snoc {k s : Int} (hk : k ≤ 7) (h1 : 1 ≤ s) (h2 : s ≤ 12) : ∀ {gs : List (Int × Int)} {lo : Int}, gOk lo gs → (∀ p ∈ gs, p.1 < k) → lo ≤ k → gOk lo (gs ++ [(k, s)])
  | [], lo, _, _, h => ⟨h, hk, h1, h2, trivial⟩
  | p :: r, lo, ⟨a, b, c, d, e⟩, hp, h => ⟨a, b, c, d, gOk_snoc hk h1 h2 e (fun q hq => hp q (List.mem_cons_of_mem _ hq)) (by have := hp p List.mem_cons_self; omega)⟩
def spRule : SpS := fun vs m _ S => match vs with
  | [.ref b, .int many] => IsBox m b ∧ (1 ≤ many ∧ many ≤ 6) ∧ ∀ r : PR, r.Ok many.toNat → S r.pv m
  | _ => False
theorem ok_law_rule (T : Tx K mg) : FnOk P w K mg base CX0 3 (He.ga K "_law_rule") T.fd__law_rule ["_law_box", "_law_many"] (lift K spRule) := by
  have G_law_stretches := ok_law_stretches (P := P) (w := w) (base := base) T
  have b_law_stretches := b_law_stretches T
  have G_law_take := ok_law_take (P := P) (w := w) (base := base) T
  have b_law_take := b_law_take T
  refine fn_sy T.F__law_rule sc_law_rule (fun svs m SX Sv h => ?_) (fun cdv A outer s H E hr => ⟨_, _, (gss_cons (gs_set (i := 2) sc_law_rule.nd rfl (.inl rfl) (ge_lst ga_nil))
      (gss_cons (gs_for PassesOwn.never rfl (gi_range1 (by rfl) T.z_range (ga_cons ge_int ga_nil)) (gg_name (i := 3) sc_law_rule.nd rfl (.inl rfl))
      (gss_one (gs_if (gw_pt (gw_and (gt_cmp op_lt sim_lt (ge_callB (cr_len K) sim_len (by rfl) T.z_len (by decide +kernel) (ga_cons (gv 2) ga_nil)) ge_int (nomark _)) (gw_and1 (gt_cmp (op_eqG K hr.units) sim_eq (ge_call G_law_take (hr.mono (by decide)) (by rfl) T.g__law_take T.k__law_take b_law_take .nil (fun _ => .nil) pass0 (ga_cons (gv 0) (ga_cons ge_int ga_nil))) ge_int (nomark _))))) (gss_one (gs_expr (ge_bm PySem.F.plainAttrs_list PySem.F.slot_list_append PySem.F.type_list_append mt_append simk_L sim_append (gv 2) (ga_cons (ge_tup (ga_cons (gv 3) (ga_cons (ge_op (op_addG K) sim_add ge_int (ge_call G_law_take (hr.mono (by decide)) (by rfl) T.g__law_take T.k__law_take b_law_take .nil (fun _ => .nil) pass0 (ga_cons (gv 0) (ga_cons (ge_ix (ix_G K) sim_ix (ge_lst (ga_cons ge_int (ga_cons ge_int ga_nil))) (ge_call G_law_take (hr.mono (by decide)) (by rfl) T.g__law_take T.k__law_take b_law_take .nil (fun _ => .nil) pass0 (ga_cons (gv 0) (ga_cons ge_int ga_nil))) (fun _ _ => rfl)) ga_nil)))) ga_nil))) ga_nil)))) gss_nil)))
      (gss_cons (gs_set (i := 4) sc_law_rule.nd rfl (.inl rfl) (ge_ix (ix_G K) sim_ix (ge_lst (ga_cons ge_non (ga_cons (ge_op (op_addG K) sim_add ge_int (ge_call G_law_take (hr.mono (by decide)) (by rfl) T.g__law_take T.k__law_take b_law_take .nil (fun _ => .nil) pass0 (ga_cons (gv 0) (ga_cons (ge_ix (ix_G K) sim_ix (ge_lst (ga_cons ge_int (ga_cons ge_int ga_nil))) (ge_call G_law_take (hr.mono (by decide)) (by rfl) T.g__law_take T.k__law_take b_law_take .nil (fun _ => .nil) pass0 (ga_cons (gv 0) (ga_cons ge_int ga_nil))) (fun _ _ => rfl)) ga_nil)))) (ga_cons ge_int ga_nil)))) (ge_call G_law_take (hr.mono (by decide)) (by rfl) T.g__law_take T.k__law_take b_law_take .nil (fun _ => .nil) pass0 (ga_cons (gv 0) (ga_cons ge_int ga_nil))) (fun _ _ => rfl)))
      (gss_cons (gs_set (i := 5) sc_law_rule.nd rfl (.inl rfl) (ge_ix (ix_G K) sim_ix (ge_lst (ga_cons ge_non (ga_cons (ge_call G_law_take (hr.mono (by decide)) (by rfl) T.g__law_take T.k__law_take b_law_take .nil (fun _ => .nil) pass0 (ga_cons (gv 0) (ga_cons (gv 1) ga_nil))) (ga_cons (ge_call G_law_take (hr.mono (by decide)) (by rfl) T.g__law_take T.k__law_take b_law_take .nil (fun _ => .nil) pass0 (ga_cons (gv 0) (ga_cons (gv 1) ga_nil))) ga_nil)))) (ge_call G_law_take (hr.mono (by decide)) (by rfl) T.g__law_take T.k__law_take b_law_take .nil (fun _ => .nil) pass0 (ga_cons (gv 0) (ga_cons ge_int ga_nil))) (fun _ _ => rfl)))
      (gss_one (gs_ret (ge_tup (ga_cons (ge_call G_law_stretches (hr) (by rfl) T.g__law_stretches T.k__law_stretches b_law_stretches .nil (fun _ => .nil) pass0 (ga_cons (gv 0) ga_nil)) (ga_cons (ge_call G_law_take (hr.mono (by decide)) (by rfl) T.g__law_take T.k__law_take b_law_take .nil (fun _ => .nil) pass0 (ga_cons (gv 0) (ga_cons ge_int ga_nil))) (ga_cons (ge_callTy (cr_tupP K) sim_tupP (by rfl) T.z_tuple (by decide +kernel) (ga_cons (gv 2) ga_nil)) (ga_cons (gv 4) (ga_cons (gv 5) ga_nil)))))))))))), fun svs m SX Sv h => ?_⟩)
  · unfold spRule at h
    split at h <;> first | rfl | exact h.elim
  · unfold spRule at h
    split at h
    · rename_i b many
      obtain ⟨hb, ⟨m1, m6⟩, q⟩ := h
      walk_at "r"
      refine ⟨by walk_at "len", fun p hp => ?_⟩
      walk_at "r"
      refine ⟨⟨by decide, by decide⟩, ?_⟩
      refine for_inv (fun r δ m' => ∃ (gs : List (Int × Int)) (k : Nat) (a : Option SV), m' = up m p (.lst (gs.map pairV)) ∧ δ = [some (.ref b), some (.int many), some (.ref p), a, none, none] ∧ r = rngS k (8 - k) ∧ k ≤ 8 ∧ gs.length ≤ 4 ∧ gOk 0 gs ∧ ∀ p ∈ gs, p.1 < k) ⟨[], 0, none, rfl, rfl, rfl, by omega, by simp, trivial, fun p h => by cases h⟩ (fun x r δ m' h => ?_) (fun δ m' h => ?_)
      · obtain ⟨gs, k, a, rfl, rfl, hr, hk, hl, hg, hlt⟩ := h
        have hk8 : k < 8 := by
          by_cases e : k < 8
          · exact e
          · rw [show 8 - k = 0 by omega] at hr; cases hr
        rw [show 8 - k = (8 - (k + 1)) + 1 by omega] at hr
        obtain ⟨rfl, rfl⟩ := List.cons.inj hr
        refine ⟨trivial, ?_⟩
        have stay : Fg (fun m' => ∃ (gs : List (Int × Int)) (k' : Nat) (a : Option SV), m' = up m p (.lst (gs.map pairV)) ∧ [some (.ref b), some (.int many), some (.ref p), some (.int k), none, none] = [some (SV.ref b), some (.int many), some (.ref p), a, none, none] ∧ rngS ((k : Int) + 1) (8 - (k + 1)) = rngS k' (8 - k') ∧ k' ≤ 8 ∧ gs.length ≤ 4 ∧ gOk 0 gs ∧ ∀ p ∈ gs, p.1 < k') (up m p (.lst (gs.map pairV))) :=
          .of ⟨gs, k + 1, _, rfl, rfl, rfl, by omega, hl, hg, fun y hy => by have := hlt y hy; push_cast; omega⟩
        walk_at "r"
        refine ⟨_, up_same, ?_⟩
        walk_at "r"
        refine Br_i (fun h2 => ?_) (fun h2 => ?_)
        · have hl4 : gs.length < 4 := by
            have := of_decide_eq_true h2
            rw [List.length_map] at this
            omega
          walk_at "r"
          refine ⟨hb.new hp, small (by decide) (by decide), fun g g0 g1 => ?_⟩
          walk_at "r"
          refine Br_i (fun h3 => ?_) (fun h3 => ?_)
          · walk_at "r"
            refine ⟨⟨_, up_same⟩, ?_⟩
            walk_at "r"
            refine ⟨by walk_at "len", fun p2 hp2 => ?_⟩
            have bx : IsBox (up (up m p (.lst (gs.map pairV))) p2 (.lst [.int 3, .int 12])) b := (hb.new hp).new hp2
            walk_at "r"
            refine ⟨bx, small (by decide) (by decide), fun i i0 i1 => ?_⟩
            walk_at "r"
            refine ⟨_, _, up_same, pick2 i0 i1, ?_⟩
            rw [ite_int]
            walk_at "r"
            refine ⟨bx, small (by split <;> decide) (by split <;> decide), fun e e0 e1 => ?_⟩
            have e2 : e < 12 := by split at e1 <;> omega
            walk_at "r"
            refine ⟨by walk_at "len", ?_⟩
            walk_at "r"
            refine ⟨_, by rw [up_ne (mne up_same hp2), up_same], line_le (by simp; omega), ?_⟩
            walk_at "r"
            refine ⟨up m p (.lst ((gs ++ [((k : Int), 1 + e)]).map pairV)), by rw [List.map_append]; walk_at "le", gs ++ [((k : Int), 1 + e)], k + 1, _, rfl, rfl, rfl, by omega, by rw [List.length_append]; simp; omega, gOk_snoc (by omega) (by omega) (by omega) hg hlt (by omega), fun y hy => ?_⟩
            rcases List.mem_append.mp hy with hy | hy
            · have := hlt y hy; push_cast; omega
            · obtain rfl := List.mem_singleton.mp hy
              show (k : Int) < _
              push_cast
              omega
          · exact stay
        · walk_at "f"
          exact stay
      · obtain ⟨gs, k, a, rfl, rfl, hr, hk, hl, hg, hlt⟩ := h
        refine ⟨trivial, ?_⟩
        walk_at "r"
        refine ⟨by walk_at "len", fun p2 hp2 => ?_⟩
        have bx := (hb.new (o := .lst (gs.map pairV)) hp).new (o := .lst [.int 6, .int 24]) hp2
        walk_at "r"
        refine ⟨bx, small (by decide) (by decide), fun i i0 i1 => ?_⟩
        walk_at "r"
        refine ⟨_, _, up_same, pick2 i0 i1, ?_⟩
        rw [ite_int]
        walk_at "r"
        refine ⟨bx, small (by split <;> decide) (by split <;> decide), fun e e0 e1 => ?_⟩
        have e2 : e < 24 := by split at e1 <;> omega
        walk_at "r"
        refine ⟨by walk_at "len", fun p3 hp3 => ?_⟩
        have bx3 := bx.new (o := .lst [.non, .int (1 + e), .int 2]) hp3
        walk_at "r"
        refine ⟨bx3, small (by decide) (by decide), fun j j0 j1 => ?_⟩
        walk_at "r"
        refine ⟨_, _, up_same, pick3 j0 j1, ?_⟩
        obtain ⟨wt, hw, hwt⟩ : ∃ wt : Option Int, (if j = 0 then SV.non else if j = 1 then .int (1 + e) else .int 2) = optV wt ∧ ∀ i, wt = some i → 1 ≤ i ∧ i ≤ 24 := by
          split
          · exact ⟨none, rfl, fun i h => by cases h⟩
          · split
            · exact ⟨some (1 + e), rfl, fun i h => by cases h; omega⟩
            · exact ⟨some 2, rfl, fun i h => by cases h; omega⟩
        rw [hw]
        walk_at "r"
        refine ⟨bx3, small (by omega) (by omega), fun f1 f10 f11 => ?_⟩
        walk_at "r"
        refine ⟨bx3, small (by omega) (by omega), fun f2 f20 f21 => ?_⟩
        walk_at "r"
        refine ⟨by walk_at "len", fun p4 hp4 => ?_⟩
        have bx4 := bx3.new (o := .lst [.non, .int f1, .int f2]) hp4
        walk_at "r"
        refine ⟨bx4, small (by decide) (by decide), fun j' j0' j1' => ?_⟩
        walk_at "r"
        refine ⟨_, _, up_same, pick3 j0' j1', ?_⟩
        obtain ⟨fu, hf, hfu⟩ : ∃ fu : Option Int, (if j' = 0 then SV.non else if j' = 1 then .int f1 else .int f2) = optV fu ∧ ∀ i, fu = some i → 0 ≤ i ∧ i < many.toNat := by
          split
          · exact ⟨none, rfl, fun i h => by cases h⟩
          · split
            · exact ⟨some f1, rfl, fun i h => by cases h; omega⟩
            · exact ⟨some f2, rfl, fun i h => by cases h; omega⟩
        rw [hf]
        walk_at "r"
        refine ⟨bx4, fun hs hsl hso => ?_⟩
        walk_at "r"
        refine ⟨bx4, small (by decide) (by decide), fun le le0 le1 => ?_⟩
        walk_at "r"
        refine ⟨_, kp (kp (kp up_same hp2) hp3) hp4, ?_⟩
        walk_at "r"
        refine ⟨by walk_at "len", ?_⟩
        exact ⟨m, by walk_at "le", q ⟨hs, le, gs, wt, fu⟩ ⟨hsl, hso, ⟨le0, by show le ≤ 4; omega⟩, hl, hg, hwt, hfu⟩⟩
    · exact h.elim
def spDrawn : SpS := fun vs m _ S => match vs with
  | [.ref b] => IsBox m b ∧ ∀ R : List PR, RulesOk R → S (PV R) m
  | _ => False
theorem ok_law_rules (T : Tx K mg) : FnOk P w K mg base CX0 4 (He.ga K "_law_rules") T.fd__law_rules ["_law_box"] (lift K spDrawn) := by
  have G_law_rule := ok_law_rule (P := P) (w := w) (base := base) T
  have b_law_rule := b_law_rule T
  have G_law_take := ok_law_take (P := P) (w := w) (base := base) T
  have b_law_take := b_law_take T
  refine fn_sy T.F__law_rules sc_law_rules (fun svs m SX Sv h => ?_) (fun cdv A outer s H E hr => ⟨_, _, (gss_cons (gs_set (i := 1) sc_law_rules.nd rfl (.inr rfl) (ge_op (op_addG K) sim_add ge_int (ge_call G_law_take (hr.mono (by decide)) (by rfl) T.g__law_take T.k__law_take b_law_take .nil (fun _ => .nil) pass0 (ga_cons (gv 0) (ga_cons ge_int ga_nil)))))
      (gss_one (gs_ret (ge_callTy (cr_tup K) sim_tupOf (by rfl) T.z_tuple (by decide +kernel) (ga_cons (ge_lc (own := [("_law_person", 2)]) (by rfl) sc_law_rules.nd (gi_range1 (by rfl) T.z_range (ga_cons (gv 1) ga_nil)) (blkOk_by (own := [("_law_person", 2)]) (N := ["_law_box", "_law_many", "_law_person"]) (sc := (defScope s_law_rules)) (by decide +kernel)) (fun _ _ _ _ _ => (gg_name (i := 2) sc_law_rules.nd rfl (.inl rfl))) (wp_name (by decide)) (fun _ _ _ _ _ => gts_nil) (fun _ _ _ _ _ => (ge_call G_law_rule (hr) (by rfl) T.g__law_rule T.k__law_rule b_law_rule .nil (fun _ => .nil) pass0 (ga_cons (gv 0) (ga_cons (gv 1) ga_nil))))) ga_nil))))), fun svs m SX Sv h => ?_⟩)
  · unfold spDrawn at h
    split at h <;> first | rfl | exact h.elim
  · unfold spDrawn at h
    split at h
    · rename_i b
      obtain ⟨hb, q⟩ := h
      walk_at "r"
      refine ⟨hb, small (by decide) (by decide), fun n n0 n1 => ?_⟩
      walk_at "r"
      refine ⟨⟨by omega, by omega⟩, by rw [rngS_length]; exact line_le (by omega), fun p hp => ?_⟩
      refine lc_inv (fun r acc m' => m' = up m p (.lst acc) ∧ ∃ R : List PR, acc = R.map PR.pv ∧ R.length + r.length = (1 + n).toNat ∧ ∀ x ∈ R, x.Ok (1 + n).toNat) ⟨rfl, [], rfl, by rw [rngS_length]; simp, fun x h => by cases h⟩ (fun x r acc m' h => ?_) (fun acc m' h => ?_)
      · obtain ⟨rfl, R, rfl, hl, ok⟩ := h
        refine ⟨trivial, ?_⟩
        walk_at "r"
        walk_at "t"
        walk_at "r"
        refine ⟨hb.new hp, ⟨by omega, by omega⟩, fun y hy => ?_⟩
        refine ⟨up_same, .of ⟨by rw [up_up], R ++ [y], by rw [List.map_append]; rfl, by rw [List.length_append]; simp at hl ⊢; omega, fun z hz => ?_⟩⟩
        rcases List.mem_append.mp hz with hz | hz
        · exact ok z hz
        · obtain rfl := List.mem_singleton.mp hz
          exact hy
      · obtain ⟨rfl, R, rfl, hl, ok⟩ := h
        have hl : R.length = (1 + n).toNat := by simpa using hl
        refine ⟨trivial, ?_⟩
        walk_at "r"
        refine ⟨_, up_same, ?_⟩
        exact ⟨m, by walk_at "le", q R ⟨by omega, by omega, fun r hr => by rw [hl]; exact ok r hr⟩⟩
    · exact h.elim
end
end Hn

set_option Elab.async false
set_option linter.all false
set_option maxRecDepth 100000
set_option maxHeartbeats 8000000
namespace Hn
open PySem PySem.Spec PyProof.Rows L2 Sy Lm
section
variable {P : Program} {w : World} {K : PySem.W.Frag} {mg : Str → Option Value} {base : Heap}
local macro_rules | `(tactic| walk_at "r") => `(tactic| (conv => whnf))
local macro_rules | `(tactic| walk_at "sp") => `(tactic| (first | rfl | contradiction | exact (False.elim ‹_›)))
local macro_rules | `(tactic| walk_at "len") => `(tactic| (exact Nat.le_trans (show _ ≤ 100000 by first | (simp; done) | (rw [rngS_length]; decide)) (by decide)))
local macro_rules | `(tactic| walk_at "f") => `(tactic| (refine Br_i (fun hb => Bool.noConfusion (show false = true from hb)) (fun _ => ?_)))
local macro_rules | `(tactic| walk_at "t") => `(tactic| (refine Br_i (fun _ => ?_) (fun hb => Bool.noConfusion (show true = false from hb))))
local macro_rules | `(tactic| walk_at "le") => `(tactic| first | exact Le.refl _ | (refine Le.put ?_; walk_at "le") | (refine Le.new ?_ (by assumption); walk_at "le"))
mutual
def eqD : PyData → PyData → Bool
  | .none, .none => true
  | .bool a, .bool b => decide (a = b)
  | .int a, .int b => decide (a = b)
  | .str a, .str b => decide (a = b)
  | .list a, .list b => eqDs a b
  | .tuple a, .tuple b => eqDs a b
  | _, _ => false
def eqDs : List PyData → List PyData → Bool
  | [], [] => true
  | a :: r, b :: s => eqD a b && eqDs r s
  | _, _ => false
end
mutual
def dpt : PyData → Nat
  | .list a => 1 + dpts a
  | .tuple a => 1 + dpts a
  | _ => 0
def dpts : List PyData → Nat
  | [] => 0
  | a :: r => max (dpt a) (dpts r)
end
theorem dpts_get : ∀ {ds : List PyData} {i : Nat} {d : PyData}, ds[i]? = some d → dpt d ≤ dpts ds
  | [], _, _, h => by simp at h
  | a :: r, 0, d, h => by
    simp at h
    subst h
    simp only [dpts]
    omega
  | a :: r, i + 1, d, h => by
    have := dpts_get (ds := r) (i := i) (by simpa using h)
    simp only [dpts]
    omega
theorem eqDs_get : ∀ {a b : List PyData}, a.length = b.length → ((∀ (i : Nat) x y, a[i]? = some x → b[i]? = some y → eqD x y = true) ↔ eqDs a b = true)
  | [], [], _ => by simp [eqDs]
  | [], _ :: _, h => by cases h
  | _ :: _, [], h => by cases h
  | x :: a, y :: b, h => by
    have ih := eqDs_get (a := a) (b := b) (by simpa using h)
    simp only [eqDs, Bool.and_eq_true]
    constructor
    · intro q
      exact ⟨q 0 x y rfl rfl, ih.mp fun i u v hu hv => q (i + 1) u v (by simpa using hu) (by simpa using hv)⟩
    · rintro ⟨q1, q2⟩ i u v hu hv
      cases i with
      | zero => simp at hu hv; subst hu; subst hv; exact q1
      | succ i => exact ih.mpr q2 i u v (by simpa using hu) (by simpa using hv)
theorem eqDs_len : ∀ {a b : List PyData}, eqDs a b = true → a.length = b.length
  | [], [], _ => rfl
  | [], _ :: _, h => by simp [eqDs] at h
  | _ :: _, [], h => by simp [eqDs] at h
  | x :: a, y :: b, h => by
    simp only [eqDs, Bool.and_eq_true] at h
    simp [eqDs_len h.2]
mutual
/-- no list is too long -/
def smD : PyData → Prop
  | .list a => a.length ≤ 100000 ∧ smDs a
  | .tuple a => a.length ≤ 100000 ∧ smDs a
  | _ => True
def smDs : List PyData → Prop
  | [] => True
  | a :: r => smD a ∧ smDs r
end
theorem smDs_get : ∀ {ds : List PyData} {i : Nat} {d : PyData}, smDs ds → ds[i]? = some d → smD d
  | [], _, _, _, h => by simp at h
  | a :: r, 0, d, ⟨h1, _⟩, h => by
    simp at h
    subst h
    exact h1
  | a :: r, i + 1, d, ⟨_, h2⟩, h => smDs_get (ds := r) (i := i) h2 (by simpa using h)
def spAlike : Nat → SpS
  | n => fun vs m _ S => ∃ x y d e, vs = [x, y] ∧ Rd m x d ∧ Rd m y e ∧ dpt e < n ∧ smD e ∧ S (.bl (eqD d e)) m
theorem fn_never {k : Nat} {f : Addr} {fd : FuncData} {ps : List Str} {sp : SpS} {CX : CXT} (h : ∀ vs m SX S, ¬ sp vs m SX S) : FnOk P w K mg base CX k f fd ps (lift K sp) :=
  ⟨fun vs H Q E ⟨F, svs, m, SX, S, _, _, z, _⟩ => (h _ _ _ _ z).elim, fun A outer s H args us vs Q E _ _ _ _ ⟨F, svs, m, SX, S, _, _, z, _⟩ => (h _ _ _ _ z).elim⟩
/-- the kind of a datum -/
def tyP : PyData → String
  | .none => "NoneType"
  | .bool _ => "bool"
  | .int _ => "int"
  | .str _ => "str"
  | .list _ => "list"
  | .tuple _ => "tuple"
  | .dict _ => "dict"
theorem rd_ty {m : Mem} {x : SV} {d : PyData} (h : Rd m x d) : tyS m x (tyP d) := by
  cases h with
  | ref e _ => exact ⟨rfl, _, e⟩
  | _ => rfl
theorem rds_len {m : Mem} : ∀ {xs : List SV} {ds : List PyData}, Rds m xs ds → xs.length = ds.length
  | _, _, .nil => rfl
  | _, _, .cons _ t => by rw [List.length_cons, List.length_cons, rds_len t]
theorem rds_get {m : Mem} : ∀ {xs : List SV} {ds : List PyData} {i : Nat} {d : PyData}, Rds m xs ds → ds[i]? = some d → ∃ x, xs[i]? = some x ∧ Rd m x d
  | _, _, _, _, .nil, h => by simp at h
  | _, _, 0, _, .cons a _, h => by simp at h; subst h; exact ⟨_, rfl, a⟩
  | _, _, i + 1, _, .cons _ t, h => by
    obtain ⟨x, h1, h2⟩ := rds_get (i := i) t (by simpa using h)
    exact ⟨x, by simpa using h1, h2⟩
theorem ok_law_alike (T : Tx K mg) : ∀ n, FnOk P w K mg base CX0 n (He.ga K "_law_alike") T.fd__law_alike ["_law_found", "_law_due"] (lift K (spAlike n)) := by
  intro n
  induction n with
  | zero => exact fn_never fun vs m SX S ⟨_, _, _, _, _, _, _, z, _⟩ => Nat.not_lt_zero _ z
  | succ n G_law_alike =>
  have b_law_alike := b_law_alike T
  refine fn_sy T.F__law_alike sc_law_alike (fun svs m SX Sv h => ?_) (fun cdv A outer s H E hr => ⟨_, _, (gss_cons (gs_if (gt_cmp op_isN sim_isN (gv 1) ge_non (nomark _)) (gss_one (gs_ret (ge_cmp op_isN sim_isN (gv 0) ge_non (nomark _)))) gss_nil)
      (gss_cons (gs_if (gt_val (ge_callB (cr_isi K) sim_isi (by rfl) T.z_isinstance (by decide +kernel) (ga_cons (gv 1) (ga_cons (ge_ty (n := "bool") (by rfl) T.z_bool (by decide +kernel)) ga_nil)))) (gss_one (gs_ret (ge_and (ge_callB (cr_isi K) sim_isi (by rfl) T.z_isinstance (by decide +kernel) (ga_cons (gv 0) (ga_cons (ge_ty (n := "bool") (by rfl) T.z_bool (by decide +kernel)) ga_nil))) (ge_one (ge_cmp (op_eqG K hr.units) sim_eq (gv 0) (gv 1) (nomark _)))))) gss_nil)
      (gss_cons (gs_if (gt_val (ge_callB (cr_isi K) sim_isi (by rfl) T.z_isinstance (by decide +kernel) (ga_cons (gv 1) (ga_cons (ge_ty (n := "int") (by rfl) T.z_int (by decide +kernel)) ga_nil)))) (gss_one (gs_ret (ge_and (ge_callB (cr_isi K) sim_isi (by rfl) T.z_isinstance (by decide +kernel) (ga_cons (gv 0) (ga_cons (ge_ty (n := "int") (by rfl) T.z_int (by decide +kernel)) ga_nil))) (ge_and (ge_not (ge_callB (cr_isi K) sim_isi (by rfl) T.z_isinstance (by decide +kernel) (ga_cons (gv 0) (ga_cons (ge_ty (n := "bool") (by rfl) T.z_bool (by decide +kernel)) ga_nil)))) (ge_one (ge_cmp (op_eqG K hr.units) sim_eq (gv 0) (gv 1) (nomark _))))))) gss_nil)
      (gss_cons (gs_if (gt_val (ge_callB (cr_isi K) sim_isi (by rfl) T.z_isinstance (by decide +kernel) (ga_cons (gv 1) (ga_cons (ge_ty (n := "str") (by rfl) T.z_str (by decide +kernel)) ga_nil)))) (gss_one (gs_ret (ge_and (ge_callB (cr_isi K) sim_isi (by rfl) T.z_isinstance (by decide +kernel) (ga_cons (gv 0) (ga_cons (ge_ty (n := "str") (by rfl) T.z_str (by decide +kernel)) ga_nil))) (ge_one (ge_cmp (op_eqG K hr.units) sim_eq (gv 0) (gv 1) (nomark _)))))) gss_nil)
      (gss_cons (gs_if (gw_pt (gw_or (gt_cmp (op_neG K hr.units) sim_ne (ge_callB (cr_isi K) sim_isi (by rfl) T.z_isinstance (by decide +kernel) (ga_cons (gv 1) (ga_cons (ge_ty (n := "tuple") (by rfl) T.z_tuple (by decide +kernel)) ga_nil))) (ge_callB (cr_isi K) sim_isi (by rfl) T.z_isinstance (by decide +kernel) (ga_cons (gv 0) (ga_cons (ge_ty (n := "tuple") (by rfl) T.z_tuple (by decide +kernel)) ga_nil))) (nomark _)) (gw_or1 (gt_cmp (op_neG K hr.units) sim_ne (ge_callB (cr_isi K) sim_isi (by rfl) T.z_isinstance (by decide +kernel) (ga_cons (gv 1) (ga_cons (ge_ty (n := "list") (by rfl) T.z_list (by decide +kernel)) ga_nil))) (ge_callB (cr_isi K) sim_isi (by rfl) T.z_isinstance (by decide +kernel) (ga_cons (gv 0) (ga_cons (ge_ty (n := "list") (by rfl) T.z_list (by decide +kernel)) ga_nil))) (nomark _))))) (gss_one (gs_ret ge_bl)) gss_nil)
      (gss_cons (gs_if (gt_cmp (op_neG K hr.units) sim_ne (ge_callB (cr_len K) sim_len (by rfl) T.z_len (by decide +kernel) (ga_cons (gv 0) ga_nil)) (ge_callB (cr_len K) sim_len (by rfl) T.z_len (by decide +kernel) (ga_cons (gv 1) ga_nil)) (nomark _)) (gss_one (gs_ret ge_bl)) gss_nil)
      (gss_cons (gs_for PassesOwn.never rfl (gi_range1 (by rfl) T.z_range (ga_cons (ge_callB (cr_len K) sim_len (by rfl) T.z_len (by decide +kernel) (ga_cons (gv 1) ga_nil)) ga_nil)) (gg_name (i := 2) sc_law_alike.nd rfl (.inl rfl))
      (gss_one (gs_if (gt_not (gt_val (ge_call G_law_alike (hr) (by rfl) T.g__law_alike T.k__law_alike b_law_alike .nil (fun _ => .nil) pass0 (ga_cons (ge_ix (ix_G K) sim_ix (gv 0) (gv 2) (fun _ _ => rfl)) (ga_cons (ge_ix (ix_G K) sim_ix (gv 1) (gv 2) (fun _ _ => rfl)) ga_nil))))) (gss_one (gs_ret ge_bl)) gss_nil)))
      (gss_one (gs_ret ge_bl))))))))), fun svs m SX Sv h => ?_⟩)
  · obtain ⟨x, y, d, e, rfl, _⟩ := h
    rfl
  · obtain ⟨x, y, d, e, rfl, hx, hy, hlt, hsm, q⟩ := h
    have tx := rd_ty hx
    have ty := rd_ty hy
    have qf : ∀ b, eqD d e = b → Fg (Sv (.bl b)) m := fun b hb => by rw [hb] at q; exact .of q
    walk_at "r"
    cases hy with
    | non =>
      walk_at "t"
      walk_at "r"
      exact qf _ (by cases hx <;> rfl)
    | bl b =>
      walk_at "f"
      walk_at "r"
      refine ⟨by decide, _, rfl, ?_⟩
      walk_at "r"
      walk_at "t"
      walk_at "r"
      refine ⟨by decide, _, tx, ?_⟩
      walk_at "r"
      cases hx with
      | bl a =>
        walk_at "t"
        walk_at "r"
        exact qf _ rfl
      | _ =>
        walk_at "f"
        exact qf _ rfl
    | int b =>
      walk_at "f"
      walk_at "r"
      refine ⟨by decide, _, rfl, ?_⟩
      walk_at "r"
      walk_at "f"
      walk_at "r"
      refine ⟨by decide, _, rfl, ?_⟩
      walk_at "r"
      walk_at "t"
      walk_at "r"
      refine ⟨by decide, _, tx, ?_⟩
      walk_at "r"
      cases hx with
      | int a =>
        walk_at "t"
        walk_at "r"
        refine ⟨by decide, _, rfl, ?_⟩
        walk_at "r"
        walk_at "t"
        walk_at "r"
        exact qf _ rfl
      | bl a =>
        walk_at "t"
        walk_at "r"
        refine ⟨by decide, _, rfl, ?_⟩
        walk_at "r"
        walk_at "f"
        exact qf _ rfl
      | _ =>
        walk_at "f"
        exact qf _ rfl
    | str b =>
      walk_at "f"
      walk_at "r"
      refine ⟨by decide, _, rfl, ?_⟩
      walk_at "r"
      walk_at "f"
      walk_at "r"
      refine ⟨by decide, _, rfl, ?_⟩
      walk_at "r"
      walk_at "f"
      walk_at "r"
      refine ⟨by decide, _, rfl, ?_⟩
      walk_at "r"
      walk_at "t"
      walk_at "r"
      refine ⟨by decide, _, tx, ?_⟩
      walk_at "r"
      cases hx with
      | str a =>
        walk_at "t"
        walk_at "r"
        exact qf _ rfl
      | _ =>
        walk_at "f"
        exact qf _ rfl
    | @tup ys es ry =>
      walk_at "f"
      walk_at "r"
      refine ⟨by decide, _, rfl, ?_⟩
      walk_at "r"
      walk_at "f"
      walk_at "r"
      refine ⟨by decide, _, rfl, ?_⟩
      walk_at "r"
      walk_at "f"
      walk_at "r"
      refine ⟨by decide, _, rfl, ?_⟩
      walk_at "r"
      walk_at "f"
      walk_at "r"
      refine ⟨by decide, _, rfl, ?_⟩
      walk_at "r"
      refine ⟨by decide, _, tx, ?_⟩
      walk_at "r"
      cases hx with
      | @tup xs ds rx =>
        walk_at "f"
        walk_at "r"
        refine ⟨by decide, _, rfl, ?_⟩
        walk_at "r"
        refine ⟨by decide, _, rfl, ?_⟩
        walk_at "r"
        walk_at "f"
        walk_at "r"
        refine ⟨_, rfl, ?_⟩
        walk_at "r"
        refine ⟨_, rfl, ?_⟩
        walk_at "r"
        have lx := rds_len rx
        have ly := rds_len ry
        refine Br_i (fun hl => ?_) (fun hl => ?_)
        · walk_at "r"
          refine qf _ ?_
          show eqDs ds es = false
          cases hq : eqDs ds es with
          | false => rfl
          | true =>
            have := eqDs_len hq
            have hl : (!decide ((xs.length : Int) = ys.length)) = true := hl
            simp at hl
            omega
        · have hll : ds.length = es.length := by
            have hl : (!decide ((xs.length : Int) = ys.length)) = false := hl
            simp at hl
            omega
          walk_at "r"
          refine ⟨_, rfl, ?_⟩
          walk_at "r"
          have hsm : es.length ≤ 100000 ∧ smDs es := hsm
          refine ⟨⟨by omega, by omega⟩, ?_⟩
          have hlt : 1 + dpts es < n + 1 := hlt
          refine for_inv (fun r δ m' => m' = m ∧ ∃ (k : Nat) (a : Option SV), δ = [some (SV.tup xs), some (SV.tup ys), a] ∧ r = rngS k (ys.length - k) ∧ k ≤ ys.length ∧ (∀ (i : Nat) u v, i < k → ds[i]? = some u → es[i]? = some v → eqD u v = true)) ⟨rfl, 0, none, rfl, rfl, Nat.zero_le _, fun i u v h => absurd h (Nat.not_lt_zero _)⟩ (fun x r δ m' h => ?_) (fun δ m' h => ?_)
          · obtain ⟨rfl, k, a, rfl, hr, hk, hall⟩ := h
            refine ⟨trivial, ?_⟩
            have hk1 : k < ys.length := by
              by_cases e : k < ys.length
              · exact e
              · rw [show ys.length - k = 0 by omega] at hr; cases hr
            rw [show ys.length - k = (ys.length - (k + 1)) + 1 by omega] at hr
            obtain ⟨rfl, rfl⟩ := List.cons.inj hr
            obtain ⟨u, hu⟩ : ∃ u, ds[k]? = some u := ⟨_, List.getElem?_eq_getElem (by omega)⟩
            obtain ⟨v, hv⟩ : ∃ v, es[k]? = some v := ⟨_, List.getElem?_eq_getElem (by omega)⟩
            obtain ⟨su, hsu, ru⟩ := rds_get rx hu
            obtain ⟨sv, hsv, rv⟩ := rds_get ry hv
            walk_at "r"
            refine ⟨_, atI_nat hsu, ?_⟩
            walk_at "r"
            refine ⟨_, atI_nat hsv, ?_⟩
            walk_at "r"
            refine ⟨_, _, _, _, rfl, ru, rv, by have := dpts_get hv; omega, smDs_get hsm.2 hv, ?_⟩
            walk_at "r"
            refine Br_i (fun hb => ?_) (fun hb => ?_)
            · walk_at "r"
              refine qf _ ?_
              show eqDs ds es = false
              cases hq : eqDs ds es with
              | false => rfl
              | true =>
                have hb : (!eqD u v) = true := hb
                rw [(eqDs_get hll).mpr hq k u v hu hv] at hb
                cases hb
            · have hb : (!eqD u v) = false := hb
              walk_at "r"
              refine .of ⟨rfl, k + 1, _, rfl, rfl, hk1, fun i u' v' hi h1 h2 => ?_⟩
              by_cases e : i = k
              · subst e
                rw [hu] at h1
                rw [hv] at h2
                cases h1
                cases h2
                simpa using hb
              · exact hall i u' v' (by omega) h1 h2
          · obtain ⟨rfl, k, a, rfl, hr, hk, hall⟩ := h
            refine ⟨trivial, ?_⟩
            walk_at "r"
            have hk1 : k = ys.length := by
              by_cases e : k < ys.length
              · rw [show ys.length - k = (ys.length - (k + 1)) + 1 by omega] at hr; cases hr
              · omega
            refine qf _ ?_
            show eqDs ds es = true
            exact (eqDs_get hll).mp fun i u v h1 h2 => hall i u v (by have := (List.getElem?_eq_some_iff.mp h2).1; omega) h1 h2
      | _ =>
        walk_at "t"
        walk_at "r"
        walk_at "t"
        walk_at "r"
        exact qf _ rfl
    | @lst ys es ry =>
      walk_at "f"
      walk_at "r"
      refine ⟨by decide, _, rfl, ?_⟩
      walk_at "r"
      walk_at "f"
      walk_at "r"
      refine ⟨by decide, _, rfl, ?_⟩
      walk_at "r"
      walk_at "f"
      walk_at "r"
      refine ⟨by decide, _, rfl, ?_⟩
      walk_at "r"
      walk_at "f"
      walk_at "r"
      refine ⟨by decide, _, rfl, ?_⟩
      walk_at "r"
      refine ⟨by decide, _, tx, ?_⟩
      walk_at "r"
      cases hx with
      | @lst xs ds rx =>
        walk_at "f"
        walk_at "r"
        refine ⟨by decide, _, rfl, ?_⟩
        walk_at "r"
        refine ⟨by decide, _, rfl, ?_⟩
        walk_at "r"
        walk_at "f"
        walk_at "r"
        refine ⟨_, rfl, ?_⟩
        walk_at "r"
        refine ⟨_, rfl, ?_⟩
        walk_at "r"
        have lx := rds_len rx
        have ly := rds_len ry
        refine Br_i (fun hl => ?_) (fun hl => ?_)
        · walk_at "r"
          refine qf _ ?_
          show eqDs ds es = false
          cases hq : eqDs ds es with
          | false => rfl
          | true =>
            have := eqDs_len hq
            have hl : (!decide ((xs.length : Int) = ys.length)) = true := hl
            simp at hl
            omega
        · have hll : ds.length = es.length := by
            have hl : (!decide ((xs.length : Int) = ys.length)) = false := hl
            simp at hl
            omega
          walk_at "r"
          refine ⟨_, rfl, ?_⟩
          walk_at "r"
          have hsm : es.length ≤ 100000 ∧ smDs es := hsm
          refine ⟨⟨by omega, by omega⟩, ?_⟩
          have hlt : 1 + dpts es < n + 1 := hlt
          refine for_inv (fun r δ m' => m' = m ∧ ∃ (k : Nat) (a : Option SV), δ = [some (SV.lst xs), some (SV.lst ys), a] ∧ r = rngS k (ys.length - k) ∧ k ≤ ys.length ∧ (∀ (i : Nat) u v, i < k → ds[i]? = some u → es[i]? = some v → eqD u v = true)) ⟨rfl, 0, none, rfl, rfl, Nat.zero_le _, fun i u v h => absurd h (Nat.not_lt_zero _)⟩ (fun x r δ m' h => ?_) (fun δ m' h => ?_)
          · obtain ⟨rfl, k, a, rfl, hr, hk, hall⟩ := h
            refine ⟨trivial, ?_⟩
            have hk1 : k < ys.length := by
              by_cases e : k < ys.length
              · exact e
              · rw [show ys.length - k = 0 by omega] at hr; cases hr
            rw [show ys.length - k = (ys.length - (k + 1)) + 1 by omega] at hr
            obtain ⟨rfl, rfl⟩ := List.cons.inj hr
            obtain ⟨u, hu⟩ : ∃ u, ds[k]? = some u := ⟨_, List.getElem?_eq_getElem (by omega)⟩
            obtain ⟨v, hv⟩ : ∃ v, es[k]? = some v := ⟨_, List.getElem?_eq_getElem (by omega)⟩
            obtain ⟨su, hsu, ru⟩ := rds_get rx hu
            obtain ⟨sv, hsv, rv⟩ := rds_get ry hv
            walk_at "r"
            refine ⟨_, atI_nat hsu, ?_⟩
            walk_at "r"
            refine ⟨_, atI_nat hsv, ?_⟩
            walk_at "r"
            refine ⟨_, _, _, _, rfl, ru, rv, by have := dpts_get hv; omega, smDs_get hsm.2 hv, ?_⟩
            walk_at "r"
            refine Br_i (fun hb => ?_) (fun hb => ?_)
            · walk_at "r"
              refine qf _ ?_
              show eqDs ds es = false
              cases hq : eqDs ds es with
              | false => rfl
              | true =>
                have hb : (!eqD u v) = true := hb
                rw [(eqDs_get hll).mpr hq k u v hu hv] at hb
                cases hb
            · have hb : (!eqD u v) = false := hb
              walk_at "r"
              refine .of ⟨rfl, k + 1, _, rfl, rfl, hk1, fun i u' v' hi h1 h2 => ?_⟩
              by_cases e : i = k
              · subst e
                rw [hu] at h1
                rw [hv] at h2
                cases h1
                cases h2
                simpa using hb
              · exact hall i u' v' (by omega) h1 h2
          · obtain ⟨rfl, k, a, rfl, hr, hk, hall⟩ := h
            refine ⟨trivial, ?_⟩
            walk_at "r"
            have hk1 : k = ys.length := by
              by_cases e : k < ys.length
              · rw [show ys.length - k = (ys.length - (k + 1)) + 1 by omega] at hr; cases hr
              · omega
            refine qf _ ?_
            show eqDs ds es = true
            exact (eqDs_get hll).mp fun i u v h1 h2 => hall i u v (by have := (List.getElem?_eq_some_iff.mp h2).1; omega) h1 h2
      | @ref ax xs ds e2 rx =>
        walk_at "f"
        walk_at "r"
        refine ⟨by decide, _, rfl, ?_⟩
        walk_at "r"
        refine ⟨by decide, _, ⟨rfl, _, e2⟩, ?_⟩
        walk_at "r"
        walk_at "f"
        walk_at "r"
        refine ⟨_, e2, ?_⟩
        walk_at "r"
        refine ⟨_, rfl, ?_⟩
        walk_at "r"
        have lx := rds_len rx
        have ly := rds_len ry
        refine Br_i (fun hl => ?_) (fun hl => ?_)
        · walk_at "r"
          refine qf _ ?_
          show eqDs ds es = false
          cases hq : eqDs ds es with
          | false => rfl
          | true =>
            have := eqDs_len hq
            have hl : (!decide ((xs.length : Int) = ys.length)) = true := hl
            simp at hl
            omega
        · have hll : ds.length = es.length := by
            have hl : (!decide ((xs.length : Int) = ys.length)) = false := hl
            simp at hl
            omega
          walk_at "r"
          refine ⟨_, rfl, ?_⟩
          walk_at "r"
          have hsm : es.length ≤ 100000 ∧ smDs es := hsm
          refine ⟨⟨by omega, by omega⟩, ?_⟩
          have hlt : 1 + dpts es < n + 1 := hlt
          refine for_inv (fun r δ m' => m' = m ∧ ∃ (k : Nat) (a : Option SV), δ = [some (SV.ref ax), some (SV.lst ys), a] ∧ r = rngS k (ys.length - k) ∧ k ≤ ys.length ∧ (∀ (i : Nat) u v, i < k → ds[i]? = some u → es[i]? = some v → eqD u v = true)) ⟨rfl, 0, none, rfl, rfl, Nat.zero_le _, fun i u v h => absurd h (Nat.not_lt_zero _)⟩ (fun x r δ m' h => ?_) (fun δ m' h => ?_)
          · obtain ⟨rfl, k, a, rfl, hr, hk, hall⟩ := h
            refine ⟨trivial, ?_⟩
            have hk1 : k < ys.length := by
              by_cases e : k < ys.length
              · exact e
              · rw [show ys.length - k = 0 by omega] at hr; cases hr
            rw [show ys.length - k = (ys.length - (k + 1)) + 1 by omega] at hr
            obtain ⟨rfl, rfl⟩ := List.cons.inj hr
            obtain ⟨u, hu⟩ : ∃ u, ds[k]? = some u := ⟨_, List.getElem?_eq_getElem (by omega)⟩
            obtain ⟨v, hv⟩ : ∃ v, es[k]? = some v := ⟨_, List.getElem?_eq_getElem (by omega)⟩
            obtain ⟨su, hsu, ru⟩ := rds_get rx hu
            obtain ⟨sv, hsv, rv⟩ := rds_get ry hv
            walk_at "r"
            refine ⟨_, _, e2, atI_nat hsu, ?_⟩
            walk_at "r"
            refine ⟨_, atI_nat hsv, ?_⟩
            walk_at "r"
            refine ⟨_, _, _, _, rfl, ru, rv, by have := dpts_get hv; omega, smDs_get hsm.2 hv, ?_⟩
            walk_at "r"
            refine Br_i (fun hb => ?_) (fun hb => ?_)
            · walk_at "r"
              refine qf _ ?_
              show eqDs ds es = false
              cases hq : eqDs ds es with
              | false => rfl
              | true =>
                have hb : (!eqD u v) = true := hb
                rw [(eqDs_get hll).mpr hq k u v hu hv] at hb
                cases hb
            · have hb : (!eqD u v) = false := hb
              walk_at "r"
              refine .of ⟨rfl, k + 1, _, rfl, rfl, hk1, fun i u' v' hi h1 h2 => ?_⟩
              by_cases e : i = k
              · subst e
                rw [hu] at h1
                rw [hv] at h2
                cases h1
                cases h2
                simpa using hb
              · exact hall i u' v' (by omega) h1 h2
          · obtain ⟨rfl, k, a, rfl, hr, hk, hall⟩ := h
            refine ⟨trivial, ?_⟩
            walk_at "r"
            have hk1 : k = ys.length := by
              by_cases e : k < ys.length
              · rw [show ys.length - k = (ys.length - (k + 1)) + 1 by omega] at hr; cases hr
              · omega
            refine qf _ ?_
            show eqDs ds es = true
            exact (eqDs_get hll).mp fun i u v h1 h2 => hall i u v (by have := (List.getElem?_eq_some_iff.mp h2).1; omega) h1 h2
      | tup rx =>
        walk_at "t"
        walk_at "r"
        walk_at "t"
        walk_at "r"
        exact qf _ rfl
      | _ =>
        walk_at "f"
        walk_at "r"
        refine ⟨by decide, _, rfl, ?_⟩
        walk_at "r"
        refine ⟨by decide, _, rfl, ?_⟩
        walk_at "r"
        walk_at "t"
        walk_at "r"
        exact qf _ rfl
    | @ref ay ys es e1 ry =>
      walk_at "f"
      walk_at "r"
      refine ⟨by decide, _, ⟨rfl, _, e1⟩, ?_⟩
      walk_at "r"
      walk_at "f"
      walk_at "r"
      refine ⟨by decide, _, ⟨rfl, _, e1⟩, ?_⟩
      walk_at "r"
      walk_at "f"
      walk_at "r"
      refine ⟨by decide, _, ⟨rfl, _, e1⟩, ?_⟩
      walk_at "r"
      walk_at "f"
      walk_at "r"
      refine ⟨by decide, _, ⟨rfl, _, e1⟩, ?_⟩
      walk_at "r"
      refine ⟨by decide, _, tx, ?_⟩
      walk_at "r"
      cases hx with
      | @lst xs ds rx =>
        walk_at "f"
        walk_at "r"
        refine ⟨by decide, _, ⟨rfl, _, e1⟩, ?_⟩
        walk_at "r"
        refine ⟨by decide, _, rfl, ?_⟩
        walk_at "r"
        walk_at "f"
        walk_at "r"
        refine ⟨_, rfl, ?_⟩
        walk_at "r"
        refine ⟨_, e1, ?_⟩
        walk_at "r"
        have lx := rds_len rx
        have ly := rds_len ry
        refine Br_i (fun hl => ?_) (fun hl => ?_)
        · walk_at "r"
          refine qf _ ?_
          show eqDs ds es = false
          cases hq : eqDs ds es with
          | false => rfl
          | true =>
            have := eqDs_len hq
            have hl : (!decide ((xs.length : Int) = ys.length)) = true := hl
            simp at hl
            omega
        · have hll : ds.length = es.length := by
            have hl : (!decide ((xs.length : Int) = ys.length)) = false := hl
            simp at hl
            omega
          walk_at "r"
          refine ⟨_, e1, ?_⟩
          walk_at "r"
          have hsm : es.length ≤ 100000 ∧ smDs es := hsm
          refine ⟨⟨by omega, by omega⟩, ?_⟩
          have hlt : 1 + dpts es < n + 1 := hlt
          refine for_inv (fun r δ m' => m' = m ∧ ∃ (k : Nat) (a : Option SV), δ = [some (SV.lst xs), some (SV.ref ay), a] ∧ r = rngS k (ys.length - k) ∧ k ≤ ys.length ∧ (∀ (i : Nat) u v, i < k → ds[i]? = some u → es[i]? = some v → eqD u v = true)) ⟨rfl, 0, none, rfl, rfl, Nat.zero_le _, fun i u v h => absurd h (Nat.not_lt_zero _)⟩ (fun x r δ m' h => ?_) (fun δ m' h => ?_)
          · obtain ⟨rfl, k, a, rfl, hr, hk, hall⟩ := h
            refine ⟨trivial, ?_⟩
            have hk1 : k < ys.length := by
              by_cases e : k < ys.length
              · exact e
              · rw [show ys.length - k = 0 by omega] at hr; cases hr
            rw [show ys.length - k = (ys.length - (k + 1)) + 1 by omega] at hr
            obtain ⟨rfl, rfl⟩ := List.cons.inj hr
            obtain ⟨u, hu⟩ : ∃ u, ds[k]? = some u := ⟨_, List.getElem?_eq_getElem (by omega)⟩
            obtain ⟨v, hv⟩ : ∃ v, es[k]? = some v := ⟨_, List.getElem?_eq_getElem (by omega)⟩
            obtain ⟨su, hsu, ru⟩ := rds_get rx hu
            obtain ⟨sv, hsv, rv⟩ := rds_get ry hv
            walk_at "r"
            refine ⟨_, atI_nat hsu, ?_⟩
            walk_at "r"
            refine ⟨_, _, e1, atI_nat hsv, ?_⟩
            walk_at "r"
            refine ⟨_, _, _, _, rfl, ru, rv, by have := dpts_get hv; omega, smDs_get hsm.2 hv, ?_⟩
            walk_at "r"
            refine Br_i (fun hb => ?_) (fun hb => ?_)
            · walk_at "r"
              refine qf _ ?_
              show eqDs ds es = false
              cases hq : eqDs ds es with
              | false => rfl
              | true =>
                have hb : (!eqD u v) = true := hb
                rw [(eqDs_get hll).mpr hq k u v hu hv] at hb
                cases hb
            · have hb : (!eqD u v) = false := hb
              walk_at "r"
              refine .of ⟨rfl, k + 1, _, rfl, rfl, hk1, fun i u' v' hi h1 h2 => ?_⟩
              by_cases e : i = k
              · subst e
                rw [hu] at h1
                rw [hv] at h2
                cases h1
                cases h2
                simpa using hb
              · exact hall i u' v' (by omega) h1 h2
          · obtain ⟨rfl, k, a, rfl, hr, hk, hall⟩ := h
            refine ⟨trivial, ?_⟩
            walk_at "r"
            have hk1 : k = ys.length := by
              by_cases e : k < ys.length
              · rw [show ys.length - k = (ys.length - (k + 1)) + 1 by omega] at hr; cases hr
              · omega
            refine qf _ ?_
            show eqDs ds es = true
            exact (eqDs_get hll).mp fun i u v h1 h2 => hall i u v (by have := (List.getElem?_eq_some_iff.mp h2).1; omega) h1 h2
      | @ref ax xs ds e2 rx =>
        walk_at "f"
        walk_at "r"
        refine ⟨by decide, _, ⟨rfl, _, e1⟩, ?_⟩
        walk_at "r"
        refine ⟨by decide, _, ⟨rfl, _, e2⟩, ?_⟩
        walk_at "r"
        walk_at "f"
        walk_at "r"
        refine ⟨_, e2, ?_⟩
        walk_at "r"
        refine ⟨_, e1, ?_⟩
        walk_at "r"
        have lx := rds_len rx
        have ly := rds_len ry
        refine Br_i (fun hl => ?_) (fun hl => ?_)
        · walk_at "r"
          refine qf _ ?_
          show eqDs ds es = false
          cases hq : eqDs ds es with
          | false => rfl
          | true =>
            have := eqDs_len hq
            have hl : (!decide ((xs.length : Int) = ys.length)) = true := hl
            simp at hl
            omega
        · have hll : ds.length = es.length := by
            have hl : (!decide ((xs.length : Int) = ys.length)) = false := hl
            simp at hl
            omega
          walk_at "r"
          refine ⟨_, e1, ?_⟩
          walk_at "r"
          have hsm : es.length ≤ 100000 ∧ smDs es := hsm
          refine ⟨⟨by omega, by omega⟩, ?_⟩
          have hlt : 1 + dpts es < n + 1 := hlt
          refine for_inv (fun r δ m' => m' = m ∧ ∃ (k : Nat) (a : Option SV), δ = [some (SV.ref ax), some (SV.ref ay), a] ∧ r = rngS k (ys.length - k) ∧ k ≤ ys.length ∧ (∀ (i : Nat) u v, i < k → ds[i]? = some u → es[i]? = some v → eqD u v = true)) ⟨rfl, 0, none, rfl, rfl, Nat.zero_le _, fun i u v h => absurd h (Nat.not_lt_zero _)⟩ (fun x r δ m' h => ?_) (fun δ m' h => ?_)
          · obtain ⟨rfl, k, a, rfl, hr, hk, hall⟩ := h
            refine ⟨trivial, ?_⟩
            have hk1 : k < ys.length := by
              by_cases e : k < ys.length
              · exact e
              · rw [show ys.length - k = 0 by omega] at hr; cases hr
            rw [show ys.length - k = (ys.length - (k + 1)) + 1 by omega] at hr
            obtain ⟨rfl, rfl⟩ := List.cons.inj hr
            obtain ⟨u, hu⟩ : ∃ u, ds[k]? = some u := ⟨_, List.getElem?_eq_getElem (by omega)⟩
            obtain ⟨v, hv⟩ : ∃ v, es[k]? = some v := ⟨_, List.getElem?_eq_getElem (by omega)⟩
            obtain ⟨su, hsu, ru⟩ := rds_get rx hu
            obtain ⟨sv, hsv, rv⟩ := rds_get ry hv
            walk_at "r"
            refine ⟨_, _, e2, atI_nat hsu, ?_⟩
            walk_at "r"
            refine ⟨_, _, e1, atI_nat hsv, ?_⟩
            walk_at "r"
            refine ⟨_, _, _, _, rfl, ru, rv, by have := dpts_get hv; omega, smDs_get hsm.2 hv, ?_⟩
            walk_at "r"
            refine Br_i (fun hb => ?_) (fun hb => ?_)
            · walk_at "r"
              refine qf _ ?_
              show eqDs ds es = false
              cases hq : eqDs ds es with
              | false => rfl
              | true =>
                have hb : (!eqD u v) = true := hb
                rw [(eqDs_get hll).mpr hq k u v hu hv] at hb
                cases hb
            · have hb : (!eqD u v) = false := hb
              walk_at "r"
              refine .of ⟨rfl, k + 1, _, rfl, rfl, hk1, fun i u' v' hi h1 h2 => ?_⟩
              by_cases e : i = k
              · subst e
                rw [hu] at h1
                rw [hv] at h2
                cases h1
                cases h2
                simpa using hb
              · exact hall i u' v' (by omega) h1 h2
          · obtain ⟨rfl, k, a, rfl, hr, hk, hall⟩ := h
            refine ⟨trivial, ?_⟩
            walk_at "r"
            have hk1 : k = ys.length := by
              by_cases e : k < ys.length
              · rw [show ys.length - k = (ys.length - (k + 1)) + 1 by omega] at hr; cases hr
              · omega
            refine qf _ ?_
            show eqDs ds es = true
            exact (eqDs_get hll).mp fun i u v h1 h2 => hall i u v (by have := (List.getElem?_eq_some_iff.mp h2).1; omega) h1 h2
      | tup rx =>
        walk_at "t"
        walk_at "r"
        walk_at "t"
        walk_at "r"
        exact qf _ rfl
      | _ =>
        walk_at "f"
        walk_at "r"
        refine ⟨by decide, _, ⟨rfl, _, e1⟩, ?_⟩
        walk_at "r"
        refine ⟨by decide, _, rfl, ?_⟩
        walk_at "r"
        walk_at "t"
        walk_at "r"
        exact qf _ rfl
end
end Hn

set_option Elab.async false
set_option linter.all false
set_option maxRecDepth 100000
set_option maxHeartbeats 8000000
namespace Hn
open PySem PySem.Spec PyProof.Rows L2 Sy Lm
section
variable {P : Program} {w : World} {K : PySem.W.Frag} {mg : Str → Option Value} {base : Heap}
local macro_rules | `(tactic| walk_at "r") => `(tactic| (conv => whnf))
local macro_rules | `(tactic| walk_at "sp") => `(tactic| (first | rfl | contradiction | exact (False.elim ‹_›)))
local macro_rules | `(tactic| walk_at "len") => `(tactic| (exact Nat.le_trans (show _ ≤ 100000 by first | (simp; done) | (rw [rngS_length]; decide)) (by decide)))
local macro_rules | `(tactic| walk_at "f") => `(tactic| (refine Br_i (fun hb => Bool.noConfusion (show false = true from hb)) (fun _ => ?_)))
local macro_rules | `(tactic| walk_at "t") => `(tactic| (refine Br_i (fun _ => ?_) (fun hb => Bool.noConfusion (show true = false from hb))))
local macro_rules | `(tactic| walk_at "le") => `(tactic| first | exact Le.refl _ | (refine Le.put ?_; walk_at "le") | (refine Le.new ?_ (by assumption); walk_at "le"))
def inStr (b e h : Int) : Bool := if b < e then decide (b ≤ h) && decide (h < e) else decide (b ≤ h) || decide (h < e)
def spInStr : SpS := fun vs m _ S => match vs with
  | [.int h, .int b, .int e] => S (.bl (inStr b e h)) m
  | _ => False
/-- whether one of the stretches holds the hour -/
def inSome (hs : List (Int × Int)) (h : Int) : Bool := hs.any fun p => inStr p.1 p.2 h
def hoursB (hs : List (Int × Int)) : List Bool := (List.range 24).map fun i => inSome hs (i : Nat)
theorem hoursB_at (hs : List (Int × Int)) {h : Int} (h0 : 0 ≤ h) (h1 : h < 24) : atI ((hoursB hs).map SV.bl) h = some (.bl (inSome hs h)) := by
  obtain ⟨n, rfl⟩ : ∃ n : Nat, h = (n : Int) := ⟨h.toNat, by omega⟩
  refine atI_nat ?_
  unfold hoursB
  rw [List.getElem?_map, List.getElem?_map, List.getElem?_range (by omega)]
  rfl
def svInt (f : Int → SV) : SV → SV
  | .int i => f i
  | x => x
theorem rngS_eq : ∀ (n k : Nat), rngS (k : Int) n = (List.range' k n).map fun (i : Nat) => SV.int i
  | 0, _ => rfl
  | n + 1, k => by
    rw [rngS, List.range'_succ, List.map_cons]
    congr 1
    have := rngS_eq n (k + 1)
    rw [show (k : Int) + 1 = ((k + 1 : Nat) : Int) by push_cast; rfl]
    exact this
theorem hoursB_eq (hs : List (Int × Int)) : (rngS 0 24).map (svInt fun h => .bl (inSome hs h)) = (hoursB hs).map SV.bl := by
  have h := rngS_eq 24 0
  rw [show ((0 : Nat) : Int) = 0 from rfl] at h
  rw [h, ← List.range_eq_range']
  unfold hoursB
  rw [List.map_map, List.map_map]
  rfl
def spHours : SpS := fun vs m _ S => ∃ hs : List (Int × Int), vs = [.tup (hs.map pairV)] ∧ hs.length ≤ 1000 ∧ ∀ p, m p = none → S (.ref p) (up m p (.lst ((hoursB hs).map .bl)))
theorem ok_is_in_stretch (T : Tx K mg) : FnOk P w K mg base CX0 1 (He.ga K "is_in_stretch") T.fd_is_in_stretch ["hour", "begin", "end"] (lift K spInStr) := by
  refine fn_sy T.F_is_in_stretch sc_is_in_stretch (fun svs m SX Sv h => ?_) (fun cdv A outer s H E hr => ⟨_, _, (gss_cons (gs_if (gt_cmp op_lt sim_lt (gv 1) (gv 2) (nomark _)) (gss_one (gs_ret (ge_chain op_le op_lt sim_le sim_lt (gv 1) (gv 0) (gv 2)))) gss_nil)
      (gss_one (gs_ret (ge_or (ge_cmp op_ge sim_ge (gv 0) (gv 1) (nomark _)) (ge_one (ge_cmp op_lt sim_lt (gv 0) (gv 2) (nomark _))))))), fun svs m SX Sv h => ?_⟩)
  · unfold spInStr at h
    split at h <;> first | rfl | exact h.elim
  · unfold spInStr at h
    split at h
    · rename_i hh b e
      walk_at "r"
      unfold inStr at h
      refine Br_i (fun h1 => ?_) (fun h1 => ?_)
      · rw [if_pos (of_decide_eq_true h1)] at h
        walk_at "r"
        refine Br_i (fun h2 => ?_) (fun h2 => ?_)
        · walk_at "r"
          rw [h2, Bool.true_and] at h
          exact .of h
        · rw [h2, Bool.false_and] at h
          exact .of h
      · rw [if_neg (of_decide_eq_false h1)] at h
        walk_at "r"
        refine Br_i (fun h2 => ?_) (fun h2 => ?_)
        · rw [h2, Bool.true_or] at h
          exact .of h
        · walk_at "r"
          rw [h2, Bool.false_or] at h
          exact .of h
    · exact h.elim
theorem ok_hushed_hours (T : Tx K mg) : FnOk P w K mg base CX0 2 (He.ga K "hushed_hours") T.fd_hushed_hours ["hushed"] (lift K spHours) := by
  have G_is_in_stretch := ok_is_in_stretch (P := P) (w := w) (base := base) T
  have b_is_in_stretch := b_is_in_stretch T
  refine fn_sy T.F_hushed_hours sc_hushed_hours (fun svs m SX Sv h => ?_) (fun cdv A outer s H E hr => ⟨_, _, (gss_one (gs_ret (ge_lc (own := [("hour", 3)]) (by rfl) sc_hushed_hours.nd (gi_range1 (by rfl) T.z_range (ga_cons (ge_gi (by rfl) T.i_DAY) ga_nil)) (blkOk_by (own := [("hour", 3)]) (N := ["hushed", "begin", "end", "hour"]) (sc := (defScope s_hushed_hours)) (by decide +kernel)) (fun _ _ _ _ _ => (gg_name (i := 3) sc_hushed_hours.nd rfl (.inr rfl))) (wp_name (by decide)) (fun _ _ _ _ _ => gts_nil) (fun _ _ _ _ _ => (ge_callB (cr_anyG K) sim_any (by rfl) T.z_any (by decide +kernel) (ga_cons (ge_lc (own := [("begin", 1), ("end", 2)]) (by rfl) sc_hushed_hours.nd (gi_seq (gv 0)) (blkOk_by (by kernel_rfl)) (fun _ _ _ _ _ => (gg_tup 2 (by rfl) (ggs_cons (gg_name (i := 1) sc_hushed_hours.nd rfl (.inl rfl)) (ggs_cons (gg_name (i := 2) sc_hushed_hours.nd rfl (.inl rfl)) ggs_nil)))) (wp_tup (wps_cons (wp_name (by decide)) (wps_cons (wp_name (by decide)) wps_nil))) (fun _ _ _ _ _ => gts_nil) (fun _ _ _ _ _ => (ge_call G_is_in_stretch (hr) (by rfl) T.g_is_in_stretch T.k_is_in_stretch b_is_in_stretch .nil (fun _ => .nil) pass0 (ga_cons (gv 3) (ga_cons (gv 1) (ga_cons (gv 2) ga_nil)))))) ga_nil)))))), fun svs m SX Sv h => ?_⟩)
  · obtain ⟨hs, rfl, _⟩ := h
    rfl
  · obtain ⟨hs, rfl, hl, q⟩ := h
    walk_at "r"
    refine ⟨⟨by decide, by decide⟩, by walk_at "len", fun p hp => ?_⟩
    refine lc_map (svInt fun h => .bl (inSome hs h)) (fun _ => trivial) (fun x hx acc K1 k => ?_) ?_
    · obtain ⟨i, hi⟩ := List.getElem?_of_mem hx
      obtain ⟨_, rfl⟩ := rngS_get _ _ _ _ hi
      walk_at "r"
      refine ⟨_, rfl, by rw [List.length_map]; exact line_le (by omega), fun p2 hp2 => ?_⟩
      refine lc_inv (fun r acc2 m2 => m2 = up (up m p (.lst acc)) p2 (.lst acc2) ∧ ∃ a b : List (Int × Int), a ++ b = hs ∧ r = b.map pairV ∧ acc2 = (a.map fun q => inStr q.1 q.2 (0 + (i : Nat))).map SV.bl) ⟨rfl, [], hs, rfl, rfl, rfl⟩ (fun y r acc2 m2 h => ?_) (fun acc2 m2 h => ?_)
      · obtain ⟨rfl, a, b, e, hr, rfl⟩ := h
        cases b with
        | nil => cases hr
        | cons z b =>
          obtain ⟨rfl, rfl⟩ := List.cons.inj hr
          refine ⟨trivial, ?_⟩
          walk_at "r"
          refine ⟨rfl, ?_⟩
          walk_at "r"
          walk_at "t"
          walk_at "r"
          refine ⟨up_same, .of ⟨by rw [up_up], a ++ [z], b, by rw [List.append_assoc]; exact e, rfl, by rw [List.map_append, List.map_append]; rfl⟩⟩
      · obtain ⟨rfl, a, b, e, hr, rfl⟩ := h
        cases b with
        | cons z b => cases hr
        | nil =>
          rw [List.append_nil] at e
          subst e
          refine ⟨trivial, ?_⟩
          walk_at "r"
          refine ⟨_, up_same, ?_⟩
          have e2 : (a.map fun q => inStr q.1 q.2 (0 + (i : Nat))).any id = inSome a (0 + (i : Nat)) := by
            unfold inSome
            rw [List.any_map]
            rfl
          rw [e2]
          exact k _ (.new (.refl _) hp2)
    · have q := q p hp
      walk_at "r"
      rw [← hoursB_eq] at q
      exact .of q
def spJudged (C : Addr) : SpS := fun vs m SX S => ∃ R x, vs = [RV R, x] ∧ RulesOk R ∧ Dat m x ∧ (∀ (i : Nat) (h : i < R.length), x = .int i → ∀ p, m p = none → S (.ref p) (up m p (.lst ((hoursB R[i].hs).map .bl)))) ∧ (isWh x 0 (R.length - 1) = false → SX ⟨C, none⟩ m)
def ffGo (bs : Int → Bool) : Nat → Int → Option Int
  | 0, _ => none
  | n + 1, t => if bs (t % 24) = true then ffGo bs n (t + 1) else some t
/-- the first moment from this one on that isn't hushed -/
def firstFree (hs : List (Int × Int)) (t : Int) : Option Int := ffGo (inSome hs) 24 t
def spFree : SpS := fun vs m _ S => ∃ p hs mo, vs = [.ref p, .int mo] ∧ m p = some (.lst ((hoursB hs).map .bl)) ∧ -(10 ^ 9) ≤ mo ∧ mo ≤ 10 ^ 9 ∧ S (optV (firstFree hs mo)) m
end
end Hn

set_option Elab.async false
set_option linter.all false
set_option maxRecDepth 100000
set_option maxHeartbeats 8000000
namespace Hn
open PySem PySem.Spec PyProof.Rows L2 Sy Lm
section
variable {P : Program} {w : World} {K : PySem.W.Frag} {mg : Str → Option Value} {base : Heap}
local macro_rules | `(tactic| walk_at "r") => `(tactic| (conv => whnf))
local macro_rules | `(tactic| walk_at "sp") => `(tactic| (first | rfl | contradiction | exact (False.elim ‹_›)))
local macro_rules | `(tactic| walk_at "len") => `(tactic| (exact Nat.le_trans (show _ ≤ 100000 by first | (simp; done) | (rw [rngS_length]; decide)) (by decide)))
local macro_rules | `(tactic| walk_at "f") => `(tactic| (refine Br_i (fun hb => Bool.noConfusion (show false = true from hb)) (fun _ => ?_)))
local macro_rules | `(tactic| walk_at "t") => `(tactic| (refine Br_i (fun _ => ?_) (fun hb => Bool.noConfusion (show true = false from hb))))
local macro_rules | `(tactic| walk_at "le") => `(tactic| first | exact Le.refl _ | (refine Le.put ?_; walk_at "le") | (refine Le.new ?_ (by assumption); walk_at "le"))
/-! ### notices on their way: the plain model -/
structure Pl where
  per : Int
  key : Option Int
  at_ : Int
  deriving DecidableEq
structure NW where
  rank : Int
  went : List Int
  told : List Int
  due : Option Int
  heard : Option (Int × Int)
  gone : Bool
  place : Option Pl
structure NR where
  per : Int
  rank : Int
  kind : Int
  born : Int
abbrev RowT := Sy.Row
abbrev Hr := Int × Int × Int
abbrev WS := Nat → NW
def setW (W : WS) (j : Nat) (x : NW) : WS := fun i => if i = j then x else W i
theorem setW_same {W : WS} {j : Nat} {x : NW} : setW W j x j = x := if_pos rfl
theorem setW_ne {W : WS} {i j : Nat} {x : NW} (h : i ≠ j) : setW W j x i = W i := if_neg h
theorem setW_set {W : WS} {j : Nat} {x y : NW} : setW (setW W j x) j y = setW W j y := by
  funext i; unfold setW; split <;> rfl
def dfR : PR := ⟨[], 0, [], none, none⟩
def pr (R : List PR) (p : Int) : PR := R.getD p.toNat dfR
def dfN : NR := ⟨0, 0, 0, 0⟩
def ntc (N : List NR) (j : Nat) : NR := N.getD j dfN
def spanOf (gs : List (Int × Int)) (k : Int) : Option Int := (gs.find? fun g => decide (g.1 = k)).map (·.2)
def openAt (n : Nat) (W : WS) (p k t : Int) : Option Int := (List.range n).findSome? fun j => match (W j).place with
  | some pl => if pl.per = p ∧ pl.key = some k ∧ t < pl.at_ then some pl.at_ else none
  | none => none
def placeOf (R : List PR) (n : Nat) (W : WS) (p k rank t : Int) : Pl := match spanOf (pr R p).gs k with
  | none => ⟨p, none, t⟩
  | some s => if rank = 3 then ⟨p, none, t⟩ else ⟨p, some k, (openAt n W p k t).getD (t + s)⟩
def xGone (x : NW) : NW := ⟨x.rank, x.went, x.told, none, x.heard, true, x.place⟩
def xUp (x : NW) : NW := ⟨min (x.rank + 1) 3, x.went, x.told, none, x.heard, x.gone, x.place⟩
def xHear (x : NW) (p t : Int) : NW := ⟨x.rank, x.went, x.told, none, some (p, t), x.gone, x.place⟩
def xPut (x : NW) (p : Int) (pl : Pl) : NW := ⟨x.rank, x.went ++ [p], x.told, x.due, x.heard, x.gone, some pl⟩
def bringW (R : List PR) (N : List NR) (W : WS) (j : Nat) (p t : Int) : WS := setW W j (xPut (W j) p (placeOf R N.length W p (ntc N j).kind (W j).rank t))
def sendW (R : List PR) (N : List NR) (W : WS) (j : Nat) (t : Int) : WS := match (pr R ((W j).went.getLastD 0)).fur with
  | none => setW W j (xGone (W j))
  | some q => if q ∈ (W j).went then setW W j (xGone (W j))
    else bringW R N (setW W j (xUp (W j))) j q t
def moveW (R : List PR) (N : List NR) (W : WS) (t : Int) : WS := (List.range N.length).foldl (fun W j => if (W j).due = some t then sendW R N W j t else W) W
def bornW (R : List PR) (N : List NR) (W : WS) (t : Int) : WS := (List.range N.length).foldl (fun W j => if (ntc N j).born = t then bringW R N W j (ntc N j).per t else W) W
def hear1 (W : WS) (t : Int) (h : Hr) : WS := if h.1 = t ∧ h.2.1 ∈ (W h.2.2.toNat).told ∧ (W h.2.2.toNat).heard = none then setW W h.2.2.toNat (xHear (W h.2.2.toNat) h.2.1 t) else W
def hearW (hs : List Hr) (W : WS) (t : Int) : WS := hs.foldl (fun W h => hear1 W t h) W
def unh (W : WS) (ms : List Nat) : List Nat := ms.filter fun j => (W j).heard.isNone
def topOf (W : WS) : List Nat → Int
  | [] => 0
  | j :: r => max (W j).rank (topOf W r)
def letsBy (r : PR) (top t : Int) : Bool := !inSome r.hs (t % 24) || decide (r.least ≤ top)
def mates (n : Nat) (W : WS) (j : Nat) : List Nat := (List.range n).filter fun i => (W i).heard.isNone && (decide ((W i).place = (W j).place) && (decide (i = j) || match (W j).place with
  | some pl => pl.key.isSome
  | none => false))
def toldNow (R : List PR) (n : Nat) (W : WS) (t : Int) (j : Nat) : Bool := match (W j).place with
  | none => false
  | some pl => (W j).heard.isNone && (decide (pl.at_ ≤ t) && letsBy (pr R pl.per) (topOf W (mates n W j)) t)
def tell1 (R : List PR) (t p : Int) (x : NW) : NW := ⟨x.rank, x.went, x.told ++ [p], (match (pr R p).wait with
  | none => x.due
  | some w => some (t + w)), x.heard, x.gone, none⟩
def perOf (x : NW) : Int := match x.place with
  | some pl => pl.per
  | none => 0
def tellW (R : List PR) (n : Nat) (W : WS) (t : Int) : WS := fun j => if (decide (j < n) && toldNow R n W t j) = true then tell1 R t (perOf (W j)) (W j) else W j
def natI (ms : List Nat) : List Int := ms.map fun j : Nat => (j : Int)
def rowsW (R : List PR) (n : Nat) (W : WS) (t : Int) : List RowT := (List.range n).filterMap fun j => if (toldNow R n W t j && decide ((mates n W j).head? = some j)) = true then some (t, perOf (W j), natI (mates n W j)) else none
def ini (N : List NR) : WS := fun j => ⟨(ntc N j).rank, [], [], none, none, false, none⟩
def beforeTell (R : List PR) (N : List NR) (hs : List Hr) (W : WS) (t : Int) : WS := bornW R N (moveW R N (hearW hs W t) t) t
def stepW (R : List PR) (N : List NR) (hs : List Hr) (W : WS) (t : Int) : WS := tellW R N.length (beforeTell R N hs W t) t
/-- ahead of moment t -/
def stW (R : List PR) (N : List NR) (hs : List Hr) : Nat → WS
  | 0 => ini N
  | t + 1 => stepW R N hs (stW R N hs t) t
def rowLe (a b : RowT) : Bool := !HT.lexLt (keyR b) (keyR a)
def srtR (rs : List RowT) : List RowT := rs.mergeSort rowLe
/-- the rows of moment t -/
def rowsAt (R : List PR) (N : List NR) (hs : List Hr) (t : Nat) : List RowT := srtR (rowsW R N.length (beforeTell R N hs (stW R N hs t) t) t)
def rowsUp (R : List PR) (N : List NR) (hs : List Hr) : Nat → List RowT
  | 0 => []
  | t + 1 => rowsUp R N hs t ++ rowsAt R N hs t
/-! sorted rows -/
theorem lex_tot : ∀ {xs ys : List Int}, HT.lexLt xs ys = false → HT.lexLt ys xs = false → xs = ys
  | [], [], _, _ => rfl
  | [], _ :: _, h, _ => by cases h
  | _ :: _, [], _, h => by cases h
  | x :: xs, y :: ys, h1, h2 => by
    rw [HT.lexLt_cons] at h1 h2
    by_cases e : x = y
    · subst e
      rw [if_pos rfl] at h1 h2
      rw [lex_tot h1 h2]
    · rw [if_neg e] at h1
      rw [if_neg (fun z => e z.symm)] at h2
      have a := of_decide_eq_false h1
      have b := of_decide_eq_false h2
      omega
theorem keyR_inj {a b : RowT} (h : keyR a = keyR b) : a = b := by
  obtain ⟨a1, a2, a3⟩ := a
  obtain ⟨b1, b2, b3⟩ := b
  injection h with h1 h2
  injection h2 with h2 h3
  exact Prod.ext h1 (Prod.ext h2 h3)
theorem rowLe_anti {a b : RowT} (h1 : rowLe a b = true) (h2 : rowLe b a = true) : a = b := by
  unfold rowLe at h1 h2
  exact keyR_inj (lex_tot (by simpa using h2) (by simpa using h1))
theorem rowLe_total (a b : RowT) : (rowLe a b || rowLe b a) = true := by
  unfold rowLe
  have z := (NtL.swo_lexL keyR).1 a b
  cases h : HT.lexLt (keyR b) (keyR a) with
  | false => rfl
  | true =>
    have z := (NtL.swo_lexL keyR).1 b a h
    rw [z]; rfl
theorem rowLe_trans (a b c : RowT) (h1 : rowLe a b = true) (h2 : rowLe b c = true) : rowLe a c = true := by
  unfold rowLe at h1 h2 ⊢
  have h1 : HT.lexLt (keyR b) (keyR a) = false := by simpa using h1
  have h2 : HT.lexLt (keyR c) (keyR b) = false := by simpa using h2
  have z := (NtL.swo_lexL keyR).2 a b c h1 h2
  rw [z]; rfl
theorem srtR_perm (rs : List RowT) : (srtR rs).Perm rs := List.mergeSort_perm rs _
theorem srtR_pw (rs : List RowT) : (srtR rs).Pairwise fun a b => rowLe a b = true := List.pairwise_mergeSort rowLe_trans rowLe_total rs
theorem srtR_uniq {rs ys : List RowT} (h1 : ys.Perm rs) (h2 : ys.Pairwise fun a b => rowLe a b = true) : ys = srtR rs := (h1.trans (srtR_perm rs).symm).eq_of_pairwise (fun a b _ _ h3 h4 => rowLe_anti h3 h4) h2 (srtR_pw rs)
theorem srtR_of {rs ys : List RowT} (h1 : ys.Perm rs) (h2 : ys.Pairwise (fun r q => HT.lexLt (keyR q) (keyR r) = false)) : ys = srtR rs := srtR_uniq h1 (h2.imp fun h => by unfold rowLe; rw [h]; rfl)
end
end Hn

set_option Elab.async false
set_option linter.all false
set_option maxRecDepth 100000
set_option maxHeartbeats 8000000
namespace Hn
open PySem PySem.Spec PyProof.Rows L2 Sy Lm
section
variable {P : Program} {w : World} {K : PySem.W.Frag} {mg : Str → Option Value} {base : Heap}
local macro_rules | `(tactic| walk_at "r") => `(tactic| (conv => whnf))
local macro_rules | `(tactic| walk_at "sp") => `(tactic| (first | rfl | contradiction | exact (False.elim ‹_›)))
local macro_rules | `(tactic| walk_at "len") => `(tactic| (exact Nat.le_trans (show _ ≤ 100000 by first | (simp; done) | (rw [rngS_length]; decide)) (by decide)))
local macro_rules | `(tactic| walk_at "f") => `(tactic| (refine Br_i (fun hb => Bool.noConfusion (show false = true from hb)) (fun _ => ?_)))
local macro_rules | `(tactic| walk_at "t") => `(tactic| (refine Br_i (fun _ => ?_) (fun hb => Bool.noConfusion (show true = false from hb))))
local macro_rules | `(tactic| walk_at "le") => `(tactic| first | exact Le.refl _ | (refine Le.put ?_; walk_at "le") | (refine Le.new ?_ (by assumption); walk_at "le"))
/-! what holds of notices on their way -/
structure Good (R : List PR) (N : List NR) (W : WS) (t : Int) (U : Nat → Prop) : Prop where
  nd : ∀ j, j < N.length → (W j).went.Nodup
  rg : ∀ j, j < N.length → ∀ p ∈ (W j).went, 0 ≤ p ∧ p < R.length
  tl : ∀ j, j < N.length → (W j).told.length + (if (W j).place.isSome = true then 1 else 0) ≤ (W j).went.length
  ti : ∀ j, j < N.length → ∀ p ∈ (W j).told, p ∈ (W j).went
  pl : ∀ j, j < N.length → ∀ pl, (W j).place = some pl → (W j).went.getLast? = some pl.per ∧ pl.per ∉ (W j).told
  du : ∀ j, j < N.length → ∀ d, (W j).due = some d → (W j).place = none ∧ (W j).heard = none ∧ (W j).went ≠ []
  rk : ∀ j, j < N.length → 0 ≤ (W j).rank ∧ (W j).rank ≤ 3
  uq : ∀ i j, i < N.length → j < N.length → ∀ p k r r', (W i).place = some ⟨p, some k, r⟩ → (W j).place = some ⟨p, some k, r'⟩ → t < r → t < r' → r = r'
  un : ∀ j, j < N.length → U j → W j = ini N j
theorem Good.time {R : List PR} {N : List NR} {W : WS} {t t' : Int} {U : Nat → Prop} (G : Good R N W t U) (h : t ≤ t') : Good R N W t' U :=
  ⟨G.nd, G.rg, G.tl, G.ti, G.pl, G.du, G.rk, fun i j hi hj p k r r' h1 h2 h3 h4 => G.uq i j hi hj p k r r' h1 h2 (by omega) (by omega), G.un⟩
theorem Good.weak {R : List PR} {N : List NR} {W : WS} {t : Int} {U U' : Nat → Prop} (G : Good R N W t U) (h : ∀ j, U' j → U j) : Good R N W t U' :=
  ⟨G.nd, G.rg, G.tl, G.ti, G.pl, G.du, G.rk, G.uq, fun j hj hu => G.un j hj (h j hu)⟩
/-- one notice changes, its place doesn't, or goes away -/
theorem Good.setK {R : List PR} {N : List NR} {W : WS} {t : Int} {U : Nat → Prop} (G : Good R N W t U) {j : Nat} {x : NW} (hU : ¬ U j)
    (h : j < N.length → x.went.Nodup ∧ (∀ p ∈ x.went, 0 ≤ p ∧ p < (R.length : Int)) ∧ x.told.length + (if x.place.isSome = true then 1 else 0) ≤ x.went.length ∧ (∀ p ∈ x.told, p ∈ x.went) ∧ (∀ pl, x.place = some pl → x.went.getLast? = some pl.per ∧ pl.per ∉ x.told) ∧ (∀ d, x.due = some d → x.place = none ∧ x.heard = none ∧ x.went ≠ []) ∧ (0 ≤ x.rank ∧ x.rank ≤ 3))
    (hq : ∀ pl, x.place = some pl → (W j).place = some pl ∨ ∀ i, i < N.length → i ≠ j → ∀ p k r r', pl = ⟨p, some k, r⟩ → (W i).place = some ⟨p, some k, r'⟩ → t < r → t < r' → r = r') : Good R N (setW W j x) t U := by
  have key : ∀ {P : NW → Prop}, (∀ i, i < N.length → P (W i)) → (j < N.length → P x) → ∀ i, i < N.length → P (setW W j x i) := fun {P} h1 h2 i hi => by
    by_cases e : i = j
    · subst e; rw [setW_same]; exact h2 hi
    · rw [setW_ne e]; exact h1 i hi
  refine ⟨key (P := fun y => y.went.Nodup) G.nd fun hj => (h hj).1, key (P := fun y => ∀ p ∈ y.went, 0 ≤ p ∧ p < (R.length : Int)) G.rg fun hj => (h hj).2.1, key (P := fun y => y.told.length + (if y.place.isSome = true then 1 else 0) ≤ y.went.length) G.tl fun hj => (h hj).2.2.1, key (P := fun y => ∀ p ∈ y.told, p ∈ y.went) G.ti fun hj => (h hj).2.2.2.1, key (P := fun y => ∀ pl, y.place = some pl → y.went.getLast? = some pl.per ∧ pl.per ∉ y.told) G.pl fun hj => (h hj).2.2.2.2.1, key (P := fun y => ∀ d, y.due = some d → y.place = none ∧ y.heard = none ∧ y.went ≠ []) G.du fun hj => (h hj).2.2.2.2.2.1, key (P := fun y => 0 ≤ y.rank ∧ y.rank ≤ 3) G.rk fun hj => (h hj).2.2.2.2.2.2, ?_, ?_⟩
  · intro a b ha hb p k r r' h1 h2 h3 h4
    by_cases ea : a = j
    · by_cases eb : b = j
      · rw [ea] at h1
        rw [eb] at h2
        rw [h1] at h2
        injection h2 with h2
        injection h2
      · rw [ea, setW_same] at h1
        rw [setW_ne eb] at h2
        rcases hq _ h1 with z | z
        · exact G.uq j b (by omega) hb p k r r' z h2 h3 h4
        · exact z b hb eb p k r r' rfl h2 h3 h4
    · rw [setW_ne ea] at h1
      by_cases eb : b = j
      · rw [eb, setW_same] at h2
        rcases hq _ h2 with z | z
        · exact G.uq a j ha (by omega) p k r r' h1 z h3 h4
        · exact (z a ha ea p k r' r rfl h1 h4 h3).symm
      · rw [setW_ne eb] at h2
        exact G.uq a b ha hb p k r r' h1 h2 h3 h4
  · intro i hi hu
    have e : i ≠ j := fun z => hU (by rw [← z]; exact hu)
    rw [setW_ne e]
    exact G.un i hi hu
/-! open heaps -/
theorem openAt_some {n : Nat} {W : WS} {p k t r : Int} (h : openAt n W p k t = some r) : ∃ j, j < n ∧ (W j).place = some ⟨p, some k, r⟩ ∧ t < r := by
  unfold openAt at h
  obtain ⟨j, hj, h⟩ := List.exists_of_findSome?_eq_some h
  have hj := List.mem_range.mp hj
  cases e : (W j).place with
  | none => rw [e] at h; cases h
  | some pl =>
    rw [e] at h
    simp only at h
    split at h
    · next c =>
      obtain ⟨c1, c2, c3⟩ := c
      cases h
      obtain ⟨a, b, c⟩ := pl
      simp only at c1 c2 c3
      subst c1 c2
      exact ⟨j, hj, e, c3⟩
    · cases h
theorem openAt_none {n : Nat} {W : WS} {p k t : Int} (h : openAt n W p k t = none) {j : Nat} {r : Int} (hj : j < n) (hp : (W j).place = some ⟨p, some k, r⟩) : r ≤ t := by
  unfold openAt at h
  have z := (List.findSome?_eq_none_iff.mp h) j (List.mem_range.mpr hj)
  rw [hp] at z
  simp only at z
  split at z
  · cases z
  · next c => simpa using c
theorem openAt_of {R : List PR} {N : List NR} {W : WS} {p k t r : Int} {U : Nat → Prop} (G : Good R N W t U) {j : Nat} (hj : j < N.length) (hp : (W j).place = some ⟨p, some k, r⟩) (ht : t < r) : openAt N.length W p k t = some r := by
  cases e : openAt N.length W p k t with
  | none => have := openAt_none e hj hp; omega
  | some r' =>
    obtain ⟨i, hi, h1, h2⟩ := openAt_some e
    rw [G.uq i j hi hj p k r' r h1 hp h2 ht]
theorem span_pos {R : List PR} (ok : RulesOk R) {p k s : Int} (hp : 0 ≤ p ∧ p < R.length) (h : spanOf (pr R p).gs k = some s) : 1 ≤ s ∧ s ≤ 12 := by
  have hm : pr R p ∈ R := by
    unfold pr
    rw [List.getD_eq_getElem?_getD, List.getElem?_eq_getElem (by omega)]
    exact List.getElem_mem _
  have g := (ok.all _ hm).gs
  have key : ∀ (gs : List (Int × Int)) (lo : Int), gOk lo gs → ∀ g ∈ gs, 1 ≤ g.2 ∧ g.2 ≤ 12 := fun gs => by
    induction gs with
    | nil => exact fun _ _ _ h => nomatch h
    | cons q r ih =>
      intro lo h g hg
      obtain ⟨h1, h2, h3, h4, h5⟩ := h
      rcases List.mem_cons.mp hg with rfl | hg
      · exact ⟨h3, h4⟩
      · exact ih _ h5 g hg
  unfold spanOf at h
  obtain ⟨q, h1, rfl⟩ := Option.map_eq_some_iff.mp h
  exact key _ _ g q (List.mem_of_find?_eq_some h1)
theorem placeOf_per {R : List PR} {n : Nat} {W : WS} {p k rank t : Int} : (placeOf R n W p k rank t).per = p := by
  unfold placeOf
  split
  · rfl
  · split <;> rfl
/-- a notice comes to a person -/
theorem Good.bring {R : List PR} {N : List NR} {W : WS} {t : Int} {U : Nat → Prop} (G : Good R N W t U) {j : Nat} {p : Int} (hU : ¬ U j) (hp : 0 ≤ p ∧ p < R.length) (hw : p ∉ (W j).went) (hpl : (W j).place = none) (hd : (W j).due = none) : Good R N (bringW R N W j p t) t U := by
  refine G.setK hU (fun hj => ⟨?_, ?_, ?_, ?_, ?_, ?_, G.rk j hj⟩) fun pl h => .inr fun i hi ei a k r r' e1 h1 h2 h3 => ?_
  · show ((W j).went ++ [p]).Nodup
    rw [List.nodup_append]
    refine ⟨G.nd j hj, List.pairwise_singleton _ _, fun a ha b hb => ?_⟩
    rw [List.mem_singleton.mp hb]
    exact fun z => hw (by rw [← z]; exact ha)
  · intro q hq
    rcases List.mem_append.mp hq with hq | hq
    · exact G.rg j hj q hq
    · rw [List.mem_singleton.mp hq]; exact hp
  · have z := G.tl j hj
    rw [hpl] at z
    show (W j).told.length + 1 ≤ ((W j).went ++ [p]).length
    rw [List.length_append]
    simp at z ⊢
    omega
  · exact fun q hq => List.mem_append_left _ (G.ti j hj q hq)
  · intro pl h
    obtain rfl := Option.some.inj h
    refine ⟨by rw [placeOf_per]; show ((W j).went ++ [p]).getLast? = some p; simp, ?_⟩
    rw [placeOf_per]
    exact fun z => hw (G.ti j hj p z)
  · intro d h
    have h : (W j).due = some d := h
    rw [hd] at h
    cases h
  · obtain rfl := Option.some.inj h
    unfold placeOf at e1
    split at e1
    · cases e1
    · split at e1
      · cases e1
      · injection e1 with z1 z2 z3
        injection z2 with z2
        subst z1 z2
        rw [openAt_of G hi h1 h3] at z3
        exact z3.symm
theorem Good.move1 {R : List PR} (ok : RulesOk R) {N : List NR} {W : WS} {t : Int} {U : Nat → Prop} (G : Good R N W t U) {j : Nat} (hj : j < N.length) (hd : (W j).due = some t) : Good R N (sendW R N W j t) t U := by
  obtain ⟨h1, h2, h3⟩ := G.du j hj t hd
  have hU : ¬ U j := fun z => by
    have e := G.un j hj z
    rw [e] at hd
    cases hd
  have tl := G.tl j hj
  unfold sendW
  split
  · exact G.setK hU (fun _ => ⟨G.nd j hj, G.rg j hj, tl, G.ti j hj, G.pl j hj, (fun d z => nomatch z), G.rk j hj⟩) fun pl h => .inl h
  · next q hq =>
    split
    · exact G.setK hU (fun _ => ⟨G.nd j hj, G.rg j hj, tl, G.ti j hj, G.pl j hj, (fun d z => nomatch z), G.rk j hj⟩) fun pl h => .inl h
    · next hm =>
      have rk := G.rk j hj
      have G2 : Good R N (setW W j (xUp (W j))) t U := G.setK hU (fun _ => ⟨G.nd j hj, G.rg j hj, tl, G.ti j hj, G.pl j hj, (fun d z => nomatch z), by show 0 ≤ min ((W j).rank + 1) 3 ∧ min ((W j).rank + 1) 3 ≤ 3; omega⟩) fun pl h => .inl h
      refine G2.bring hU ?_ (by rw [setW_same]; exact hm) (by rw [setW_same]; exact h1) (by rw [setW_same]; rfl)
      have hl : (W j).went.getLastD 0 ∈ (W j).went := by
        rw [List.getLastD_eq_getLast?]
        cases e : (W j).went.getLast? with
        | none => exact absurd (List.getLast?_eq_none_iff.mp e) h3
        | some a => exact List.mem_of_getLast? e
      have hr := G.rg j hj _ hl
      have hm2 : pr R ((W j).went.getLastD 0) ∈ R := by
        unfold pr
        rw [List.getD_eq_getElem?_getD, List.getElem?_eq_getElem (by omega)]
        exact List.getElem_mem _
      exact (ok.all _ hm2).fu q hq
theorem Good.hear {R : List PR} {N : List NR} {W : WS} {t : Int} {U : Nat → Prop} (G : Good R N W t U) (h : Hr) : Good R N (hear1 W t h) t U := by
  unfold hear1
  split
  · next c =>
    by_cases hj : h.2.2.toNat < N.length
    · refine G.setK (fun z => ?_) (fun _ => ⟨G.nd _ hj, G.rg _ hj, G.tl _ hj, G.ti _ hj, G.pl _ hj, (fun d z => nomatch z), G.rk _ hj⟩) fun pl h => .inl h
      have e := G.un _ hj z
      have c2 := c.2.1
      rw [e] at c2
      cases c2
    · have key : ∀ i, i < N.length → setW W h.2.2.toNat (xHear (W h.2.2.toNat) h.2.1 t) i = W i := fun i hi => setW_ne (by omega)
      refine ⟨fun i hi => by rw [key i hi]; exact G.nd i hi, fun i hi => by rw [key i hi]; exact G.rg i hi, fun i hi => by rw [key i hi]; exact G.tl i hi, fun i hi => by rw [key i hi]; exact G.ti i hi, fun i hi => by rw [key i hi]; exact G.pl i hi, fun i hi => by rw [key i hi]; exact G.du i hi, fun i hi => by rw [key i hi]; exact G.rk i hi, fun a b ha hb => by rw [key a ha, key b hb]; exact G.uq a b ha hb, fun i hi => by rw [key i hi]; exact G.un i hi⟩
  · exact G
theorem Good.hears {R : List PR} {N : List NR} {t : Int} {U : Nat → Prop} : ∀ (hs : List Hr) {W : WS}, Good R N W t U → Good R N (hearW hs W t) t U
  | [], _, G => G
  | h :: hs, _, G => Good.hears hs (G.hear h)
end
end Hn

set_option Elab.async false
set_option linter.all false
set_option maxRecDepth 100000
set_option maxHeartbeats 8000000
namespace Hn
open PySem PySem.Spec PyProof.Rows L2 Sy Lm
section
variable {P : Program} {w : World} {K : PySem.W.Frag} {mg : Str → Option Value} {base : Heap}
local macro_rules | `(tactic| walk_at "r") => `(tactic| (conv => whnf))
local macro_rules | `(tactic| walk_at "sp") => `(tactic| (first | rfl | contradiction | exact (False.elim ‹_›)))
local macro_rules | `(tactic| walk_at "len") => `(tactic| (exact Nat.le_trans (show _ ≤ 100000 by first | (simp; done) | (rw [rngS_length]; decide)) (by decide)))
local macro_rules | `(tactic| walk_at "f") => `(tactic| (refine Br_i (fun hb => Bool.noConfusion (show false = true from hb)) (fun _ => ?_)))
local macro_rules | `(tactic| walk_at "t") => `(tactic| (refine Br_i (fun _ => ?_) (fun hb => Bool.noConfusion (show true = false from hb))))
local macro_rules | `(tactic| walk_at "le") => `(tactic| first | exact Le.refl _ | (refine Le.put ?_; walk_at "le") | (refine Le.new ?_ (by assumption); walk_at "le"))
structure NtOk (R : List PR) (N : List NR) : Prop where
  len : N.length ≤ 30
  all : ∀ x ∈ N, (0 ≤ x.per ∧ x.per < R.length) ∧ (0 ≤ x.rank ∧ x.rank ≤ 3) ∧ (0 ≤ x.kind ∧ x.kind ≤ 7) ∧ (0 ≤ x.born ∧ x.born ≤ 300)
  rise : N.Pairwise fun a b => a.born ≤ b.born
theorem ntc_get {N : List NR} {j : Nat} (h : j < N.length) : ntc N j = N[j] := by
  unfold ntc
  rw [List.getD_eq_getElem?_getD, List.getElem?_eq_getElem h]
  rfl
theorem ntc_mem {N : List NR} {j : Nat} (h : j < N.length) : ntc N j ∈ N := by rw [ntc_get h]; exact List.getElem_mem _
theorem pr_mem {R : List PR} {p : Int} (h : 0 ≤ p ∧ p < R.length) : pr R p ∈ R := by
  unfold pr
  rw [List.getD_eq_getElem?_getD, List.getElem?_eq_getElem (by omega)]
  exact List.getElem_mem _
theorem Good.ini {R : List PR} {N : List NR} (no : NtOk R N) (t : Int) (U : Nat → Prop) : Good R N (ini N) t U :=
  ⟨fun j _ => List.nodup_nil, fun j _ p h => (nomatch h), fun j _ => Nat.le_refl _, fun j _ p h => (nomatch h), fun j _ pl h => (nomatch h), fun j _ d h => (nomatch h), fun j hj => (no.all _ (ntc_mem hj)).2.1, fun i j _ _ p k r r' h => (nomatch h), fun j _ _ => rfl⟩
theorem Good.moves {R : List PR} (ok : RulesOk R) {N : List NR} {t : Int} {U : Nat → Prop} : ∀ (l : List Nat) {W : WS}, (∀ j ∈ l, j < N.length) → Good R N W t U → Good R N (l.foldl (fun W j => if (W j).due = some t then sendW R N W j t else W) W) t U
  | [], _, _, G => G
  | j :: l, W, h, G => by
    rw [List.foldl_cons]
    refine Good.moves ok l (fun i hi => h i (List.mem_cons_of_mem _ hi)) ?_
    split
    · next hd => exact G.move1 ok (h j List.mem_cons_self) hd
    · exact G
/-- who is still to be born at moment t, behind which are those of l -/
def Yet (N : List NR) (t : Int) (l : List Nat) : Nat → Prop := fun j => t < (ntc N j).born ∨ ((ntc N j).born = t ∧ j ∈ l)
theorem Good.born1 {R : List PR} {N : List NR} (no : NtOk R N) {t : Int} {j : Nat} {l : List Nat} {W : WS} (hj : j < N.length) (hl : j ∉ l) (G : Good R N W t (Yet N t (j :: l))) : Good R N (if (ntc N j).born = t then bringW R N W j (ntc N j).per t else W) t (Yet N t l) := by
  have Gw : Good R N W t (Yet N t l) := G.weak fun i h => h.imp id fun ⟨a, b⟩ => ⟨a, List.mem_cons_of_mem _ b⟩
  split
  · next hb =>
    have e := G.un j hj (.inr ⟨hb, List.mem_cons_self⟩)
    refine Gw.bring (fun h => ?_) (no.all _ (ntc_mem hj)).1 (by rw [e]; exact fun h => nomatch h) (by rw [e]; rfl) (by rw [e]; rfl)
    rcases h with h | ⟨_, h⟩
    · omega
    · exact hl h
  · exact Gw
theorem Good.borns {R : List PR} {N : List NR} (no : NtOk R N) {t : Int} : ∀ (l : List Nat) {W : WS}, (∀ j ∈ l, j < N.length) → l.Nodup → Good R N W t (Yet N t l) → Good R N (l.foldl (fun W j => if (ntc N j).born = t then bringW R N W j (ntc N j).per t else W) W) t (Yet N t [])
  | [], _, _, _, G => G
  | j :: l, W, h, hn, G => by
    rw [List.foldl_cons]
    have hn := List.nodup_cons.mp hn
    exact Good.borns no l (fun i hi => h i (List.mem_cons_of_mem _ hi)) hn.2 (Good.born1 no (h j List.mem_cons_self) hn.1 G)
theorem toldNow_is {R : List PR} {n : Nat} {W : WS} {t : Int} {j : Nat} (h : toldNow R n W t j = true) : ∃ pl, (W j).place = some pl ∧ (W j).heard = none ∧ pl.at_ ≤ t ∧ letsBy (pr R pl.per) (topOf W (mates n W j)) t = true := by
  unfold toldNow at h
  cases e : (W j).place with
  | none => rw [e] at h; cases h
  | some pl =>
    rw [e] at h
    simp only [Bool.and_eq_true] at h
    exact ⟨pl, rfl, by simpa using h.1, of_decide_eq_true h.2.1, h.2.2⟩
theorem toldNow_of {R : List PR} {n : Nat} {W : WS} {t : Int} {j : Nat} {pl : Pl} (e : (W j).place = some pl) (h1 : (W j).heard = none) (h2 : pl.at_ ≤ t) (h3 : letsBy (pr R pl.per) (topOf W (mates n W j)) t = true) : toldNow R n W t j = true := by
  unfold toldNow
  rw [e]
  simp only [h1, decide_eq_true h2, h3]
  rfl
theorem tellW_told {R : List PR} {n : Nat} {W : WS} {t : Int} {j : Nat} (hj : j < n) (h : toldNow R n W t j = true) : tellW R n W t j = tell1 R t (perOf (W j)) (W j) := by
  unfold tellW
  rw [h, decide_eq_true hj]
  rfl
theorem tellW_not {R : List PR} {n : Nat} {W : WS} {t : Int} {j : Nat} (h : toldNow R n W t j = false) : tellW R n W t j = W j := by
  unfold tellW
  rw [h, Bool.and_false]
  rfl
theorem Good.tell {R : List PR} {N : List NR} {W : WS} {t : Int} {U : Nat → Prop} (G : Good R N W t U) : Good R N (tellW R N.length W t) t U := by
  have key : ∀ {P : Nat → NW → Prop}, (∀ j, j < N.length → P j (W j)) → (∀ j pl, j < N.length → (W j).place = some pl → (W j).heard = none → P j (W j) → P j (tell1 R t pl.per (W j))) → ∀ j, j < N.length → P j (tellW R N.length W t j) := fun {P} h1 h2 j hj => by
    cases e : toldNow R N.length W t j with
    | false => rw [tellW_not e]; exact h1 j hj
    | true =>
      obtain ⟨pl, e1, e2, e3, e4⟩ := toldNow_is e
      rw [tellW_told hj e, show perOf (W j) = pl.per by unfold perOf; rw [e1]]
      exact h2 j pl hj e1 e2 (h1 j hj)
  refine ⟨key (P := fun _ y => y.went.Nodup) G.nd fun j pl hj e1 e2 h => h, key (P := fun _ y => ∀ p ∈ y.went, 0 ≤ p ∧ p < (R.length : Int)) G.rg fun j pl hj e1 e2 h => h, key (P := fun _ y => y.told.length + (if y.place.isSome = true then 1 else 0) ≤ y.went.length) G.tl fun j pl hj e1 e2 h => ?_, key (P := fun _ y => ∀ p ∈ y.told, p ∈ y.went) G.ti fun j pl hj e1 e2 h => ?_, key (P := fun _ y => ∀ pl, y.place = some pl → y.went.getLast? = some pl.per ∧ pl.per ∉ y.told) G.pl fun j pl hj e1 e2 h => (fun _ z => nomatch z), key (P := fun _ y => ∀ d, y.due = some d → y.place = none ∧ y.heard = none ∧ y.went ≠ []) G.du fun j pl hj e1 e2 h => ?_, key (P := fun _ y => 0 ≤ y.rank ∧ y.rank ≤ 3) G.rk fun j pl hj e1 e2 h => h, ?_, key (P := fun j y => U j → y = _root_.Hn.ini N j) G.un fun j pl hj e1 e2 h hu => ?_⟩
  · have h : (W j).told.length + (if (W j).place.isSome = true then 1 else 0) ≤ (W j).went.length := h
    rw [e1] at h
    show ((W j).told ++ [pl.per]).length + 0 ≤ (W j).went.length
    rw [List.length_append]
    simp at h ⊢
    omega
  · intro q hq
    rcases List.mem_append.mp hq with hq | hq
    · exact h q hq
    · rw [List.mem_singleton.mp hq]
      exact List.mem_of_getLast? (G.pl j hj pl e1).1
  · intro d hd
    refine ⟨rfl, e2, fun z => ?_⟩
    have q := (G.pl j hj pl e1).1
    rw [show (W j).went = [] from z] at q
    cases q
  · intro i j hi hj p k r r' h1 h2 h3 h4
    have sub : ∀ i, i < N.length → ∀ pl, (tellW R N.length W t i).place = some pl → (W i).place = some pl := fun i hi pl h => by
      cases e : toldNow R N.length W t i with
      | false => rw [tellW_not e] at h; exact h
      | true => rw [tellW_told hi e] at h; cases h
    exact G.uq i j hi hj p k r r' (sub i hi _ h1) (sub j hj _ h2) h3 h4
  · have z := h hu
    rw [z] at e1
    cases e1
/-- ahead of moment t, what is ahead of the telling, behind the telling -/
theorem Good.before {R : List PR} (ok : RulesOk R) {N : List NR} (no : NtOk R N) (hs : List Hr) {W : WS} {t : Int} (G : Good R N W t fun j => t ≤ (ntc N j).born) : Good R N (beforeTell R N hs W t) t fun j => t < (ntc N j).born := by
  have h1 := Good.moves ok (List.range N.length) (fun j hj => List.mem_range.mp hj) (G.hears hs)
  have h2 := Good.borns no (List.range N.length) (fun j hj => List.mem_range.mp hj) List.nodup_range (h1.weak fun j hj => by
    rcases hj with hj | hj
    · omega
    · omega)
  exact h2.weak fun j hj => .inl hj
theorem Good.step {R : List PR} (ok : RulesOk R) {N : List NR} (no : NtOk R N) (hs : List Hr) {W : WS} {t : Int} (G : Good R N W t fun j => t ≤ (ntc N j).born) : Good R N (stepW R N hs W t) (t + 1) fun j => t + 1 ≤ (ntc N j).born :=
  ((Good.before ok no hs G).tell.time (by omega)).weak fun j hj => by omega
theorem Good.st {R : List PR} (ok : RulesOk R) {N : List NR} (no : NtOk R N) (hs : List Hr) : ∀ t : Nat, Good R N (stW R N hs t) t fun j => (t : Int) ≤ (ntc N j).born
  | 0 => Good.ini no _ _
  | t + 1 => by
    have z := Good.step ok no hs (Good.st ok no hs t)
    have e : ((t + 1 : Nat) : Int) = (t : Int) + 1 := by omega
    rw [e]
    exact z
end
end Hn

set_option Elab.async false
set_option linter.all false
set_option maxRecDepth 100000
set_option maxHeartbeats 8000000
namespace Hn
open PySem PySem.Spec PyProof.Rows L2 Sy Lm
section
variable {P : Program} {w : World} {K : PySem.W.Frag} {mg : Str → Option Value} {base : Heap}
local macro_rules | `(tactic| walk_at "r") => `(tactic| (conv => whnf))
local macro_rules | `(tactic| walk_at "sp") => `(tactic| (first | rfl | contradiction | exact (False.elim ‹_›)))
local macro_rules | `(tactic| walk_at "len") => `(tactic| (exact Nat.le_trans (show _ ≤ 100000 by first | (simp; done) | (rw [rngS_length]; decide)) (by decide)))
local macro_rules | `(tactic| walk_at "f") => `(tactic| (refine Br_i (fun hb => Bool.noConfusion (show false = true from hb)) (fun _ => ?_)))
local macro_rules | `(tactic| walk_at "t") => `(tactic| (refine Br_i (fun _ => ?_) (fun hb => Bool.noConfusion (show true = false from hb))))
local macro_rules | `(tactic| walk_at "le") => `(tactic| first | exact Le.refl _ | (refine Le.put ?_; walk_at "le") | (refine Le.new ?_ (by assumption); walk_at "le"))
/-! heaps and what is ready, as entries -/
structure Ent where
  pl : Pl
  ms : List Nat
structure Bat (n : Nat) (W : WS) (t : Int) (es : List Ent) : Prop where
  ne : ∀ e ∈ es, e.ms ≠ []
  nd : ∀ e ∈ es, e.ms.Nodup
  at_ : ∀ e ∈ es, ∀ j ∈ e.ms, j < n ∧ (W j).place = some e.pl
  one : ∀ e ∈ es, e.pl.key = none → ∃ j, e.ms = [j]
  pw : es.Pairwise fun e f => e.pl ≠ f.pl ∨ (e.pl.key = none ∧ ∀ j ∈ e.ms, j ∉ f.ms)
  all : ∀ j, j < n → ∀ pl, (W j).place = some pl → (W j).heard = none ∨ t < pl.at_ → ∃ e ∈ es, e.pl = pl ∧ j ∈ e.ms
theorem Bat.time {n : Nat} {W : WS} {t t' : Int} {es : List Ent} (B : Bat n W t es) (h : t ≤ t') : Bat n W t' es :=
  ⟨B.ne, B.nd, B.at_, B.one, B.pw, fun j hj pl h1 h2 => B.all j hj pl h1 (h2.imp id fun z => by omega)⟩
theorem pw_symm {e f : Ent} (h : e.pl ≠ f.pl ∨ (e.pl.key = none ∧ ∀ j ∈ e.ms, j ∉ f.ms)) : f.pl ≠ e.pl ∨ (f.pl.key = none ∧ ∀ j ∈ f.ms, j ∉ e.ms) := by
  by_cases q : e.pl = f.pl
  · rcases h with h | ⟨h1, h2⟩
    · exact absurd q h
    · exact .inr ⟨by rw [← q]; exact h1, fun j a b => h2 j b a⟩
  · exact .inl fun z => q z.symm
theorem Bat.perm {n : Nat} {W : WS} {t : Int} {es es' : List Ent} (B : Bat n W t es) (h : es'.Perm es) : Bat n W t es' :=
  ⟨fun e he => B.ne e (h.mem_iff.mp he), fun e he => B.nd e (h.mem_iff.mp he), fun e he => B.at_ e (h.mem_iff.mp he), fun e he => B.one e (h.mem_iff.mp he), (h.pairwise_iff (fun {_ _} => pw_symm)).mpr B.pw, fun j hj pl h1 h2 => by
    obtain ⟨e, he, q⟩ := B.all j hj pl h1 h2
    exact ⟨e, h.mem_iff.mpr he, q⟩⟩
theorem Bat.congr {n : Nat} {W W' : WS} {t : Int} {es : List Ent} (B : Bat n W t es) (h : ∀ j, j < n → (W' j).place = (W j).place ∧ ((W' j).heard = none → (W j).heard = none)) : Bat n W' t es :=
  ⟨B.ne, B.nd, fun e he j hj => by
    obtain ⟨h1, h2⟩ := B.at_ e he j hj
    exact ⟨h1, by rw [(h j h1).1]; exact h2⟩, B.one, B.pw, fun j hj pl h1 h2 => B.all j hj pl (by rw [← (h j hj).1]; exact h1) (h2.imp (h j hj).2 id)⟩
theorem Bat.ini {N : List NR} {n : Nat} {t : Int} : Bat n (ini N) t [] :=
  ⟨fun e h => (nomatch h), fun e h => (nomatch h), fun e h => (nomatch h), fun e h => (nomatch h), .nil, fun j _ pl h => (nomatch h)⟩
theorem Bat.hear1 {n : Nat} {W : WS} {t : Int} {es : List Ent} (B : Bat n W t es) (h : Hr) (u : Int) : Bat n (Hn.hear1 W u h) t es := B.congr fun j hj => by
  unfold Hn.hear1
  split
  · by_cases e : j = h.2.2.toNat
    · subst e
      rw [setW_same]
      exact ⟨rfl, fun z => nomatch z⟩
    · rw [setW_ne e]; exact ⟨rfl, id⟩
  · exact ⟨rfl, id⟩
/-- a change of one notice that keeps its place -/
theorem Bat.setK {n : Nat} {W : WS} {t : Int} {es : List Ent} (B : Bat n W t es) {j : Nat} {x : NW} (h1 : x.place = (W j).place) (h2 : x.heard = none → (W j).heard = none) : Bat n (setW W j x) t es := B.congr fun i hi => by
  by_cases e : i = j
  · subst e; rw [setW_same]; exact ⟨h1, h2⟩
  · rw [setW_ne e]; exact ⟨rfl, id⟩
theorem Bat.off {n : Nat} {W : WS} {t : Int} {es : List Ent} (B : Bat n W t es) {j : Nat} (h : (W j).place = none) : ∀ e ∈ es, j ∉ e.ms := fun e he hj => by
  have z := (B.at_ e he j hj).2
  rw [h] at z
  cases z
/-- a new entry for one notice -/
theorem Bat.new1 {n : Nat} {W : WS} {t : Int} {es : List Ent} (B : Bat n W t es) {j : Nat} (hj : j < n) {x : NW} {pl : Pl} (h0 : (W j).place = none) (hx : x.place = some pl) (hk : pl.key = none ∨ ∀ e ∈ es, e.pl ≠ pl) : Bat n (setW W j x) t (es ++ [⟨pl, [j]⟩]) := by
  have off := B.off h0
  have ne : ∀ e ∈ es, ∀ i ∈ e.ms, i ≠ j := fun e he i hi z => off e he (by rw [← z]; exact hi)
  refine ⟨fun e he => ?_, fun e he => ?_, fun e he i hi => ?_, fun e he hn => ?_, ?_, fun i hi q h1 h2 => ?_⟩
  · rcases List.mem_append.mp he with he | he
    · exact B.ne e he
    · rw [List.mem_singleton.mp he]; exact fun z => nomatch z
  · rcases List.mem_append.mp he with he | he
    · exact B.nd e he
    · rw [List.mem_singleton.mp he]; exact List.pairwise_singleton _ _
  · rcases List.mem_append.mp he with he | he
    · rw [setW_ne (ne e he i hi)]; exact B.at_ e he i hi
    · rw [List.mem_singleton.mp he] at hi ⊢
      rw [List.mem_singleton.mp hi, setW_same]
      exact ⟨hj, hx⟩
  · rcases List.mem_append.mp he with he | he
    · exact B.one e he hn
    · rw [List.mem_singleton.mp he]; exact ⟨j, rfl⟩
  · rw [List.pairwise_append]
    refine ⟨B.pw, List.pairwise_singleton _ _, fun e he f hf => ?_⟩
    rw [List.mem_singleton.mp hf]
    by_cases q : e.pl = pl
    · rcases hk with hk | hk
      · exact .inr ⟨by rw [q]; exact hk, fun i hi z => ne e he i hi (List.mem_singleton.mp z)⟩
      · exact absurd q (hk e he)
    · exact .inl q
  · by_cases e : i = j
    · subst e
      rw [setW_same, hx] at h1
      exact ⟨⟨pl, [i]⟩, List.mem_append_right _ List.mem_cons_self, Option.some.inj h1, List.mem_cons_self⟩
    · rw [setW_ne e] at h1 h2
      obtain ⟨f, hf, q1, q2⟩ := B.all i hi q h1 h2
      exact ⟨f, List.mem_append_left _ hf, q1, q2⟩
/-- a notice comes to an entry -/
theorem Bat.join {n : Nat} {W : WS} {t : Int} {l r : List Ent} {e : Ent} (B : Bat n W t (l ++ e :: r)) {j : Nat} (hj : j < n) {x : NW} (h0 : (W j).place = none) (hx : x.place = some e.pl) (hk : e.pl.key ≠ none) : Bat n (setW W j x) t (l ++ ⟨e.pl, e.ms ++ [j]⟩ :: r) := by
  have off := B.off h0
  have ne : ∀ f ∈ l ++ e :: r, ∀ i ∈ f.ms, i ≠ j := fun f hf i hi z => off f hf (by rw [← z]; exact hi)
  have me : e ∈ l ++ e :: r := by simp
  have sp : ∀ {P : Ent → Prop}, (∀ f ∈ l ++ e :: r, P f) → P ⟨e.pl, e.ms ++ [j]⟩ → ∀ f ∈ l ++ ⟨e.pl, e.ms ++ [j]⟩ :: r, P f := fun {P} h1 h2 f hf => by
    rcases List.mem_append.mp hf with hf | hf
    · exact h1 f (List.mem_append_left _ hf)
    · rcases List.mem_cons.mp hf with rfl | hf
      · exact h2
      · exact h1 f (List.mem_append_right _ (List.mem_cons_of_mem _ hf))
  refine ⟨sp (P := fun f => f.ms ≠ []) B.ne (by simp), sp (P := fun f => f.ms.Nodup) B.nd ?_, sp (P := fun f => ∀ i ∈ f.ms, i < n ∧ (setW W j x i).place = some f.pl) (fun f hf i hi => by rw [setW_ne (ne f hf i hi)]; exact B.at_ f hf i hi) fun i hi => ?_, sp (P := fun f => f.pl.key = none → ∃ i, f.ms = [i]) B.one fun z => absurd z hk, ?_, fun i hi q h1 h2 => ?_⟩
  · show (e.ms ++ [j]).Nodup
    rw [List.nodup_append]
    exact ⟨B.nd e me, List.pairwise_singleton _ _, fun a ha b hb => by rw [List.mem_singleton.mp hb]; exact ne e me a ha⟩
  · rcases List.mem_append.mp hi with hi | hi
    · rw [setW_ne (ne e me i hi)]; exact B.at_ e me i hi
    · rw [List.mem_singleton.mp hi, setW_same]; exact ⟨hj, hx⟩
  · have pw := B.pw
    rw [List.pairwise_append] at pw ⊢
    obtain ⟨p1, p2, p3⟩ := pw
    obtain ⟨p4, p5⟩ := List.pairwise_cons.mp p2
    refine ⟨p1, List.pairwise_cons.mpr ⟨fun f hf => ?_, p5⟩, fun f hf g hg => ?_⟩
    · rcases p4 f hf with z | ⟨z, _⟩
      · exact .inl z
      · exact absurd z hk
    · rcases List.mem_cons.mp hg with rfl | hg
      · rcases p3 f hf e List.mem_cons_self with z | ⟨z, _⟩
        · exact .inl z
        · by_cases q : f.pl = e.pl
          · rw [q] at z; exact absurd z hk
          · exact .inl q
      · exact p3 f hf g (List.mem_cons_of_mem _ hg)
  · by_cases q1 : i = j
    · subst q1
      rw [setW_same, hx] at h1
      exact ⟨⟨e.pl, e.ms ++ [i]⟩, by simp, Option.some.inj h1, by simp⟩
    · rw [setW_ne q1] at h1 h2
      obtain ⟨f, hf, q2, q3⟩ := B.all i hi q h1 h2
      rcases List.mem_append.mp hf with hf | hf
      · exact ⟨f, List.mem_append_left _ hf, q2, q3⟩
      · rcases List.mem_cons.mp hf with rfl | hf
        · exact ⟨⟨f.pl, f.ms ++ [j]⟩, by simp, q2, List.mem_append_left _ q3⟩
        · exact ⟨f, List.mem_append_right _ (List.mem_cons_of_mem _ hf), q2, q3⟩
/-- few entries -/
theorem nod_few' : ∀ (n : Nat) (xs : List Nat), xs.Nodup → (∀ x ∈ xs, x < n) → xs.length ≤ n
  | 0, [], _, _ => Nat.le_refl _
  | 0, x :: r, _, h => by have := h x List.mem_cons_self; omega
  | n + 1, xs, hn, h => by
    have h1 := nod_few' n (xs.filter fun x => decide (x ≠ n)) (hn.filter _) fun x hx => by
      obtain ⟨h2, h3⟩ := List.mem_filter.mp hx
      have h4 := of_decide_eq_true h3
      have h5 := h x h2
      omega
    have h2 : ∀ (ys : List Nat), ys.Nodup → ys.length ≤ (ys.filter fun x => decide (x ≠ n)).length + 1 := fun ys hy => by
      induction ys with
      | nil => simp
      | cons y r ih =>
        have hy' := List.nodup_cons.mp hy
        by_cases e : y = n
        · have e2 : r.filter (fun x => decide (x ≠ n)) = r := List.filter_eq_self.mpr fun x hx => decide_eq_true fun z => hy'.1 (by rw [e, ← z]; exact hx)
          rw [List.filter_cons, if_neg (by simp [e]), e2, List.length_cons]
          omega
        · rw [List.filter_cons, if_pos (by simp [e]), List.length_cons, List.length_cons]
          have := ih hy'.2
          omega
    have := h2 xs hn
    omega
theorem Bat.disj {n : Nat} {W : WS} {t : Int} {es : List Ent} (B : Bat n W t es) : es.Pairwise fun e f => ∀ j ∈ e.ms, j ∉ f.ms := by
  refine List.Pairwise.imp_of_mem (fun {e f} he hf h => ?_) B.pw
  intro j h1 h2
  rcases h with h | ⟨_, h⟩
  · have a := (B.at_ e he j h1).2
    have b := (B.at_ f hf j h2).2
    rw [a] at b
    exact h (Option.some.inj b)
  · exact h j h1 h2
theorem Bat.len {n : Nat} {W : WS} {t : Int} {es : List Ent} (B : Bat n W t es) : es.length ≤ n := by
  have z := nod_few' n (es.map fun e => e.ms.headD 0) (by
    refine List.pairwise_map.mpr (List.Pairwise.imp_of_mem (fun {e f} he hf h => ?_) B.disj)
    have hd : ∀ e ∈ es, e.ms.headD 0 ∈ e.ms := fun e he => by
      cases q : e.ms with
      | nil => exact absurd q (B.ne e he)
      | cons a r => exact List.mem_cons_self
    intro z
    exact h _ (hd e he) (by rw [z]; exact hd f hf)) (fun x hx => by
      obtain ⟨e, he, rfl⟩ := List.mem_map.mp hx
      cases q : e.ms with
      | nil => exact absurd q (B.ne e he)
      | cons a r => exact (B.at_ e he a (by rw [q]; exact List.mem_cons_self)).1)
  rwa [List.length_map] at z
theorem Bat.msl {n : Nat} {W : WS} {t : Int} {es : List Ent} (B : Bat n W t es) {e : Ent} (he : e ∈ es) : e.ms.length ≤ n := nod_few' n _ (B.nd e he) fun j hj => (B.at_ e he j hj).1
end
end Hn

set_option Elab.async false
set_option linter.all false
set_option maxRecDepth 100000
set_option maxHeartbeats 8000000
namespace Hn
open PySem PySem.Spec PyProof.Rows L2 Sy Lm
section
variable {P : Program} {w : World} {K : PySem.W.Frag} {mg : Str → Option Value} {base : Heap}
local macro_rules | `(tactic| walk_at "r") => `(tactic| (conv => whnf))
local macro_rules | `(tactic| walk_at "sp") => `(tactic| (first | rfl | contradiction | exact (False.elim ‹_›)))
local macro_rules | `(tactic| walk_at "len") => `(tactic| (exact Nat.le_trans (show _ ≤ 100000 by first | (simp; done) | (rw [rngS_length]; decide)) (by decide)))
local macro_rules | `(tactic| walk_at "f") => `(tactic| (refine Br_i (fun hb => Bool.noConfusion (show false = true from hb)) (fun _ => ?_)))
local macro_rules | `(tactic| walk_at "t") => `(tactic| (refine Br_i (fun _ => ?_) (fun hb => Bool.noConfusion (show true = false from hb))))
local macro_rules | `(tactic| walk_at "le") => `(tactic| first | exact Le.refl _ | (refine Le.put ?_; walk_at "le") | (refine Le.new ?_ (by assumption); walk_at "le"))
/-! what is told, by entries -/
def leftOf (W : WS) (e : Ent) : List Nat := unh W e.ms
def tells (R : List PR) (W : WS) (t : Int) (e : Ent) : Bool := decide (e.pl.at_ ≤ t) && (!(leftOf W e).isEmpty && letsBy (pr R e.pl.per) (topOf W (leftOf W e)) t)
def stays (R : List PR) (W : WS) (t : Int) (e : Ent) : Bool := decide (t < e.pl.at_) || (!(leftOf W e).isEmpty && !letsBy (pr R e.pl.per) (topOf W (leftOf W e)) t)
def rowOf (W : WS) (t : Int) (e : Ent) : RowT := (t, e.pl.per, srtI (natI (leftOf W e)))
theorem unh_mem {W : WS} {ms : List Nat} {j : Nat} : j ∈ unh W ms ↔ j ∈ ms ∧ (W j).heard = none := by
  unfold unh
  rw [List.mem_filter, Option.isNone_iff_eq_none]
theorem top_le {W : WS} {b : Int} : ∀ {ms : List Nat}, topOf W ms ≤ b ↔ 0 ≤ b ∧ ∀ j ∈ ms, (W j).rank ≤ b
  | [] => by simp [topOf]
  | j :: r => by
    have ih := top_le (W := W) (b := b) (ms := r)
    unfold topOf
    constructor
    · intro h
      have h1 : (W j).rank ≤ b := by omega
      have h2 := ih.mp (by omega)
      exact ⟨h2.1, fun i hi => by
        rcases List.mem_cons.mp hi with rfl | hi
        · exact h1
        · exact h2.2 i hi⟩
    · intro ⟨h1, h2⟩
      have a := h2 j List.mem_cons_self
      have c := ih.mpr ⟨h1, fun i hi => h2 i (List.mem_cons_of_mem _ hi)⟩
      omega
theorem top_nonneg {W : WS} (ms : List Nat) : 0 ≤ topOf W ms := by
  have := (top_le (W := W) (b := topOf W ms) (ms := ms)).mp (Int.le_refl _)
  exact this.1
theorem top_congr {W : WS} {a b : List Nat} (h : ∀ j, j ∈ a ↔ j ∈ b) : topOf W a = topOf W b := by
  refine Int.le_antisymm (top_le.mpr ⟨top_nonneg _, fun j hj => ?_⟩) (top_le.mpr ⟨top_nonneg _, fun j hj => ?_⟩)
  · exact (top_le.mp (Int.le_refl _)).2 j ((h j).mp hj)
  · exact (top_le.mp (Int.le_refl _)).2 j ((h j).mpr hj)
theorem mates_mem {n : Nat} {W : WS} {i j : Nat} {pl : Pl} (e : (W j).place = some pl) : i ∈ mates n W j ↔ i < n ∧ (W i).heard = none ∧ (W i).place = some pl ∧ (i = j ∨ pl.key ≠ none) := by
  unfold mates
  rw [List.mem_filter, List.mem_range, e]
  simp only [Bool.and_eq_true, Option.isNone_iff_eq_none, decide_eq_true_eq, Bool.or_eq_true]
  rw [Option.isSome_iff_ne_none]
theorem mates_lt {n : Nat} {W : WS} {j : Nat} : (mates n W j).Pairwise (· < ·) := List.pairwise_lt_range.filter _
section
variable {R : List PR} {n : Nat} {W : WS} {t : Int} {es : List Ent}
theorem Bat.left (B : Bat n W t es) {e : Ent} (he : e ∈ es) {j : Nat} (hj : j ∈ leftOf W e) : ∀ i, i ∈ mates n W j ↔ i ∈ leftOf W e := fun i => by
  obtain ⟨h1, h2⟩ := unh_mem.mp hj
  obtain ⟨h3, h4⟩ := B.at_ e he j h1
  rw [mates_mem h4]
  unfold leftOf
  rw [unh_mem]
  constructor
  · intro ⟨a1, a2, a3, a4⟩
    refine ⟨?_, a2⟩
    by_cases q : e.pl.key = none
    · rcases a4 with rfl | a4
      · exact h1
      · exact absurd q a4
    · obtain ⟨f, hf, b1, b2⟩ := B.all i a1 _ a3 (.inl a2)
      obtain ⟨x, hx, ex⟩ := List.getElem_of_mem he
      obtain ⟨y, hy, ey⟩ := List.getElem_of_mem hf
      have pw := List.pairwise_iff_getElem.mp B.pw
      rcases Nat.lt_trichotomy x y with h | h | h
      · rcases pw x y hx hy h with z | ⟨z, _⟩
        · rw [ex, ey, b1] at z; exact absurd rfl z
        · rw [ex] at z; exact absurd z q
      · subst h
        rw [ex] at ey
        rw [ey]; exact b2
      · rcases pw y x hy hx h with z | ⟨z, _⟩
        · rw [ex, ey, b1] at z; exact absurd rfl z
        · rw [ey, b1] at z; exact absurd z q
  · intro ⟨a1, a2⟩
    obtain ⟨b1, b2⟩ := B.at_ e he i a1
    refine ⟨b1, a2, b2, ?_⟩
    by_cases q : e.pl.key = none
    · obtain ⟨k, hk⟩ := B.one e he q
      rw [hk] at a1 h1
      exact .inl ((List.mem_singleton.mp a1).trans (List.mem_singleton.mp h1).symm)
    · exact .inr q
theorem Bat.tellsI (B : Bat n W t es) {j : Nat} (hj : j < n) : toldNow R n W t j = true ↔ ∃ e ∈ es, tells R W t e = true ∧ j ∈ leftOf W e := by
  constructor
  · intro h
    obtain ⟨pl, h1, h2, h3, h4⟩ := toldNow_is h
    obtain ⟨e, he, e1, e2⟩ := B.all j hj pl h1 (.inl h2)
    have hl : j ∈ leftOf W e := unh_mem.mpr ⟨e2, h2⟩
    refine ⟨e, he, ?_, hl⟩
    unfold tells
    have ne : (leftOf W e).isEmpty = false := by
      cases q : leftOf W e with
      | nil => rw [q] at hl; cases hl
      | cons _ _ => rfl
    rw [ne, e1, decide_eq_true h3, ← top_congr (B.left he hl), h4]
    rfl
  · intro ⟨e, he, h1, h2⟩
    obtain ⟨a1, a2⟩ := unh_mem.mp h2
    unfold tells at h1
    simp only [Bool.and_eq_true] at h1
    refine toldNow_of (B.at_ e he j a1).2 a2 (of_decide_eq_true h1.1) ?_
    rw [top_congr (B.left he h2)]
    exact h1.2.2
theorem natI_mem {ms : List Nat} {j : Nat} : (j : Int) ∈ natI ms ↔ j ∈ ms := by
  unfold natI
  rw [List.mem_map]
  constructor
  · rintro ⟨i, hi, e⟩
    rw [← Int.ofNat_inj.mp e]; exact hi
  · exact fun h => ⟨j, h, rfl⟩
theorem natI_inj : ∀ {a b : List Nat}, natI a = natI b → a = b
  | [], [], _ => rfl
  | [], _ :: _, h => by cases h
  | _ :: _, [], h => by cases h
  | x :: a, y :: b, h => by
    have h : (x : Int) :: natI a = (y : Int) :: natI b := h
    injection h with h1 h2
    rw [natI_inj h2, Int.ofNat_inj.mp h1]
theorem srt_left (B : Bat n W t es) {e : Ent} (he : e ∈ es) {j : Nat} (hj : j ∈ leftOf W e) : srtI (natI (leftOf W e)) = natI (mates n W j) := by
  refine srt_uniq ((srtI_perm _).trans ?_) (srtI_pw _) ?_
  · unfold natI
    refine List.Perm.map _ ((List.perm_ext_iff_of_nodup ((B.nd e he).filter _) (mates_lt.imp fun h => Nat.ne_of_lt h)).mpr fun i => ((B.left he hj) i).symm)
  · unfold natI
    rw [List.pairwise_map]
    exact mates_lt.imp fun h => by omega
theorem Bat.rows (B : Bat n W t es) : ((es.filter (tells R W t)).map (rowOf W t)).Perm (rowsW R n W t) := by
  have te : ∀ e, tells R W t e = true → ∃ j, j ∈ leftOf W e := fun e h => by
    unfold tells at h
    simp only [Bool.and_eq_true] at h
    cases q : leftOf W e with
    | nil => rw [q] at h; exact absurd h.2.1 (by simp)
    | cons a r => exact ⟨a, List.mem_cons_self⟩
  have n1 : ((es.filter (tells R W t)).map (rowOf W t)).Nodup := by
    refine List.pairwise_map.mpr (List.Pairwise.imp_of_mem (fun {e f} he hf h => ?_) (B.disj.filter _))
    obtain ⟨he, h1⟩ := List.mem_filter.mp he
    obtain ⟨hf, h2⟩ := List.mem_filter.mp hf
    obtain ⟨j, hj⟩ := te e h1
    intro z
    have z2 : srtI (natI (leftOf W e)) = srtI (natI (leftOf W f)) := congrArg (fun r : RowT => r.2.2) z
    have m : (j : Int) ∈ srtI (natI (leftOf W e)) := (srtI_perm _).mem_iff.mpr (natI_mem.mpr hj)
    rw [z2] at m
    have m := natI_mem.mp ((srtI_perm _).mem_iff.mp m)
    exact h j (unh_mem.mp hj).1 (unh_mem.mp m).1
  have n2 : (rowsW R n W t).Nodup := by
    unfold rowsW
    refine List.Pairwise.filterMap _ (fun {a} {a'} ne b hb b' hb' z => ?_) List.nodup_range
    split at hb
    · next c =>
      split at hb'
      · next c' =>
        cases hb
        cases hb'
        simp only [Bool.and_eq_true, decide_eq_true_eq] at c c'
        have z2 : natI (mates n W a) = natI (mates n W a') := congrArg (fun r : RowT => r.2.2) z
        have z3 := natI_inj z2
        have c2 := c.2
        rw [z3, c'.2] at c2
        exact ne (Option.some.inj c2).symm
      · cases hb'
    · cases hb
  refine (List.perm_ext_iff_of_nodup n1 n2).mpr fun r => ?_
  constructor
  · intro h
    obtain ⟨e, he, rfl⟩ := List.mem_map.mp h
    obtain ⟨he, h1⟩ := List.mem_filter.mp he
    obtain ⟨j, hj⟩ := te e h1
    obtain ⟨i, hi⟩ : ∃ i, (mates n W j).head? = some i := by
      cases q : mates n W j with
      | nil => have := (B.left he hj j).mpr hj; rw [q] at this; cases this
      | cons a r => exact ⟨a, rfl⟩
    have hi2 : i ∈ leftOf W e := (B.left he hj i).mp (List.mem_of_head? hi)
    have hin : i < n := (B.at_ e he i (unh_mem.mp hi2).1).1
    have mm : mates n W i = mates n W j := by
      have a := srt_left B he hi2
      have b := srt_left B he hj
      exact natI_inj (a.symm.trans b)
    unfold rowsW
    refine List.mem_filterMap.mpr ⟨i, List.mem_range.mpr hin, ?_⟩
    rw [if_pos (by rw [(B.tellsI hin).mpr ⟨e, he, h1, hi2⟩, mm, hi]; simp)]
    have pe : perOf (W i) = e.pl.per := by unfold perOf; rw [(B.at_ e he i (unh_mem.mp hi2).1).2]
    rw [pe, ← srt_left B he hi2]
    rfl
  · intro h
    unfold rowsW at h
    obtain ⟨j, hj, h⟩ := List.mem_filterMap.mp h
    have hj := List.mem_range.mp hj
    split at h
    · next c =>
      simp only [Bool.and_eq_true, decide_eq_true_eq] at c
      obtain ⟨e, he, e1, e2⟩ := (B.tellsI hj).mp c.1
      cases h
      refine List.mem_map.mpr ⟨e, List.mem_filter.mpr ⟨he, e1⟩, ?_⟩
      have pe : perOf (W j) = e.pl.per := by unfold perOf; rw [(B.at_ e he j (unh_mem.mp e2).1).2]
      rw [pe, ← srt_left B he e2]
      rfl
    · cases h
/-- what stays, told of with all its notices or without what was heard -/
theorem Bat.stay (B : Bat n W t es) (kp : Ent → Bool) (hk : ∀ e, kp e = true → e.pl.at_ ≤ t) : Bat n (tellW R n W t) t ((es.filter (stays R W t)).map fun e => if kp e = true then ⟨e.pl, leftOf W e⟩ else e) := by
  have mem : ∀ {P : Ent → Prop}, (∀ e ∈ es, stays R W t e = true → (kp e = true → P ⟨e.pl, leftOf W e⟩) ∧ (kp e = false → P e)) → ∀ e ∈ (es.filter (stays R W t)).map (fun e => if kp e = true then ⟨e.pl, leftOf W e⟩ else e), P e := fun {P} h e he => by
    obtain ⟨f, hf, rfl⟩ := List.mem_map.mp he
    obtain ⟨hf, h1⟩ := List.mem_filter.mp hf
    by_cases q : kp f = true
    · rw [if_pos q]; exact (h f hf h1).1 q
    · rw [if_neg q]; exact (h f hf h1).2 (by simpa using q)
  have lne : ∀ e, stays R W t e = true → kp e = true → leftOf W e ≠ [] := fun e h q z => by
    have a := hk e q
    unfold stays at h
    rw [z, decide_eq_false (by omega)] at h
    cases h
  have pk : ∀ e ∈ es, stays R W t e = true → ∀ j ∈ e.ms, (tellW R n W t j).place = some e.pl := fun e he h j hj => by
    obtain ⟨h1, h2⟩ := B.at_ e he j hj
    have nt : toldNow R n W t j = false := by
      cases q : toldNow R n W t j with
      | false => rfl
      | true =>
        obtain ⟨pl, a1, a2, a3, a4⟩ := toldNow_is q
        rw [h2] at a1
        cases a1
        have hl : j ∈ leftOf W e := unh_mem.mpr ⟨hj, a2⟩
        rw [top_congr (B.left he hl)] at a4
        unfold stays at h
        rw [a4, decide_eq_false (by omega)] at h
        simp at h
    rw [tellW_not nt]; exact h2
  have sub : ∀ e j, j ∈ leftOf W e → j ∈ e.ms := fun e j h => (unh_mem.mp h).1
  refine ⟨mem (P := fun e => e.ms ≠ []) fun e he h => ⟨lne e h, fun _ => B.ne e he⟩, mem (P := fun e => e.ms.Nodup) fun e he h => ⟨fun _ => (B.nd e he).filter _, fun _ => B.nd e he⟩, mem (P := fun e => ∀ j ∈ e.ms, j < n ∧ (tellW R n W t j).place = some e.pl) fun e he h => ⟨fun _ j hj => ⟨(B.at_ e he j (sub e j hj)).1, pk e he h j (sub e j hj)⟩, fun _ j hj => ⟨(B.at_ e he j hj).1, pk e he h j hj⟩⟩, mem (P := fun e => e.pl.key = none → ∃ j, e.ms = [j]) fun e he h => ⟨fun q z => ?_, fun _ => B.one e he⟩, ?_, fun j hj pl h1 h2 => ?_⟩
  · obtain ⟨j, hj⟩ := B.one e he z
    have ne := lne e h q
    refine ⟨j, ?_⟩
    show leftOf W e = [j]
    unfold leftOf unh at ne ⊢
    rw [hj] at ne ⊢
    rw [List.filter_cons] at ne ⊢
    split at ne
    · next c => rw [if_pos c]; rfl
    · exact absurd rfl ne
  · refine List.pairwise_map.mpr (List.Pairwise.imp_of_mem (fun {e f} he hf h => ?_) (B.pw.filter _))
    have pl1 : ∀ e : Ent, (if kp e = true then (⟨e.pl, leftOf W e⟩ : Ent) else e).pl = e.pl := fun e => by split <;> rfl
    have ms1 : ∀ e : Ent, ∀ j ∈ (if kp e = true then (⟨e.pl, leftOf W e⟩ : Ent) else e).ms, j ∈ e.ms := fun e j hj => by
      split at hj
      · exact sub e j hj
      · exact hj
    rw [pl1, pl1]
    exact h.imp id fun ⟨a, b⟩ => ⟨a, fun j h1 h2 => b j (ms1 e j h1) (ms1 f j h2)⟩
  · cases q : toldNow R n W t j with
    | true =>
      rw [tellW_told hj q] at h1
      cases h1
    | false =>
      rw [tellW_not q] at h1 h2
      obtain ⟨e, he, e1, e2⟩ := B.all j hj pl h1 h2
      have st : stays R W t e = true := by
        unfold stays
        by_cases c : t < e.pl.at_
        · rw [decide_eq_true c]; rfl
        · rcases h2 with h2 | h2
          · have hl : j ∈ leftOf W e := unh_mem.mpr ⟨e2, h2⟩
            have ne : (leftOf W e).isEmpty = false := by
              cases z : leftOf W e with
              | nil => rw [z] at hl; cases hl
              | cons _ _ => rfl
            rw [ne, decide_eq_false c]
            cases lb : letsBy (pr R e.pl.per) (topOf W (leftOf W e)) t with
            | false => rfl
            | true =>
              have z := (B.tellsI (R := R) hj).mpr ⟨e, he, by unfold tells; rw [ne, lb, decide_eq_true (by omega)]; rfl, hl⟩
              rw [q] at z
              cases z
          · rw [e1] at c; exact absurd h2 c
      refine ⟨_, List.mem_map.mpr ⟨e, List.mem_filter.mpr ⟨he, st⟩, rfl⟩, ?_, ?_⟩
      · split <;> exact e1
      · split
        · next k =>
          have hk2 := hk e k
          rcases h2 with h2 | h2
          · exact unh_mem.mpr ⟨e2, h2⟩
          · rw [e1] at hk2; omega
        · exact e2
end
end
end Hn

set_option Elab.async false
set_option linter.all false
set_option maxRecDepth 100000
set_option maxHeartbeats 8000000
namespace Hn
open PySem PySem.Spec PyProof.Rows L2 Sy Lm
section
variable {P : Program} {w : World} {K : PySem.W.Frag} {mg : Str → Option Value} {base : Heap}
local macro_rules | `(tactic| walk_at "r") => `(tactic| (conv => whnf))
local macro_rules | `(tactic| walk_at "sp") => `(tactic| (first | rfl | contradiction | exact (False.elim ‹_›)))
local macro_rules | `(tactic| walk_at "len") => `(tactic| (exact Nat.le_trans (show _ ≤ 100000 by first | (simp; done) | (rw [rngS_length]; decide)) (by decide)))
local macro_rules | `(tactic| walk_at "f") => `(tactic| (refine Br_i (fun hb => Bool.noConfusion (show false = true from hb)) (fun _ => ?_)))
local macro_rules | `(tactic| walk_at "t") => `(tactic| (refine Br_i (fun _ => ?_) (fun hb => Bool.noConfusion (show true = false from hb))))
local macro_rules | `(tactic| walk_at "le") => `(tactic| first | exact Le.refl _ | (refine Le.put ?_; walk_at "le") | (refine Le.new ?_ (by assumption); walk_at "le"))
def NR.sv (x : NR) : SV := .tup [.int x.per, .int x.rank, .int x.kind, .int x.born]
def hrS (h : Hr) : SV := .tup [.int h.1, .int h.2.1, .int h.2.2]
/-- whether this can be a notice, born at this moment at the earliest -/
def canNt (x : SV) (many lo : Int) : Bool := match x with
  | .tup [a, b, c, d] => isWh a 0 (many - 1) && (isWh b 0 3 && (isWh c 0 7 && isWh d lo 300))
  | _ => false
def canHr (x : SV) (mp mn lo : Int) : Bool := match x with
  | .tup [a, b, c] => isWh a lo 600 && (isWh b 0 (mp - 1) && isWh c 0 (mn - 1))
  | _ => false
def spCanNt : SpS := fun vs m _ S => match vs with
  | [x, .int many, .int lo] => DD m x ∧ S (.bl (canNt x many lo)) m
  | _ => False
def spCanHr : SpS := fun vs m _ S => match vs with
  | [x, .int mp, .int mn, .int lo] => DD m x ∧ S (.bl (canHr x mp mn lo)) m
  | _ => False
theorem tup4 {x : SV} (h : isTupN x 4 = true) : ∃ a b c d, x = .tup [a, b, c, d] := by
  cases x with
  | tup xs => rcases xs with _ | ⟨a, _ | ⟨b, _ | ⟨c, _ | ⟨d, _ | ⟨e, r⟩⟩⟩⟩⟩ <;> first | exact ⟨_, _, _, _, rfl⟩ | (simp [isTupN] at h; done) | (simp [isTupN] at h; omega)
  | _ => cases h
theorem not_tup4 {x : SV} {many lo : Int} (h : isTupN x 4 = false) : canNt x many lo = false := by
  cases x with
  | tup xs => rcases xs with _ | ⟨a, _ | ⟨b, _ | ⟨c, _ | ⟨d, _ | ⟨e, r⟩⟩⟩⟩⟩ <;> first | rfl | (simp [isTupN] at h; done)
  | _ => rfl
theorem tup3 {x : SV} (h : isTupN x 3 = true) : ∃ a b c, x = .tup [a, b, c] := by
  cases x with
  | tup xs => rcases xs with _ | ⟨a, _ | ⟨b, _ | ⟨c, _ | ⟨d, r⟩⟩⟩⟩ <;> first | exact ⟨_, _, _, rfl⟩ | (simp [isTupN] at h; done) | (simp [isTupN] at h; omega)
  | _ => cases h
theorem not_tup3 {x : SV} {mp mn lo : Int} (h : isTupN x 3 = false) : canHr x mp mn lo = false := by
  cases x with
  | tup xs => rcases xs with _ | ⟨a, _ | ⟨b, _ | ⟨c, _ | ⟨d, r⟩⟩⟩⟩ <;> first | rfl | (simp [isTupN] at h; done)
  | _ => rfl
theorem ok_can_be_notice (T : Tx K mg) : FnOk P w K mg base CX0 3 (He.ga K "can_be_notice") T.fd_can_be_notice ["row", "many_persons", "earliest"] (lift K spCanNt) := by
  have G_is_tuple_of := ok_is_tuple_of (P := P) (w := w) (base := base) T
  have b_is_tuple_of := b_is_tuple_of T
  have G_is_whole := ok_is_whole (P := P) (w := w) (base := base) T
  have b_is_whole := b_is_whole T
  refine fn_sy T.F_can_be_notice sc_can_be_notice (fun svs m SX Sv h => ?_) (fun cdv A outer s H E hr => ⟨_, _, (gss_cons (gs_if (gt_not (gt_val (ge_call G_is_tuple_of (hr.mono (by decide)) (by rfl) T.g_is_tuple_of T.k_is_tuple_of b_is_tuple_of .nil (fun _ => .nil) pass0 (ga_cons (gv 0) (ga_cons ge_int ga_nil))))) (gss_one (gs_ret ge_bl)) gss_nil)
      (gss_cons (gs_asg (gv 0) (gg_tup 4 (by rfl) (ggs_cons (gg_name (i := 3) sc_can_be_notice.nd rfl (.inl rfl)) (ggs_cons (gg_name (i := 4) sc_can_be_notice.nd rfl (.inl rfl)) (ggs_cons (gg_name (i := 5) sc_can_be_notice.nd rfl (.inl rfl)) (ggs_cons (gg_name (i := 6) sc_can_be_notice.nd rfl (.inl rfl)) ggs_nil))))))
      (gss_cons (gs_set (i := 7) sc_can_be_notice.nd rfl (.inl rfl) (ge_lst (ga_cons (ge_call G_is_whole (hr) (by rfl) T.g_is_whole T.k_is_whole b_is_whole .nil (fun _ => .nil) pass0 (ga_cons (gv 3) (ga_cons ge_int (ga_cons (ge_op op_sub sim_sub (gv 1) ge_int) ga_nil)))) (ga_cons (ge_call G_is_whole (hr) (by rfl) T.g_is_whole T.k_is_whole b_is_whole .nil (fun _ => .nil) pass0 (ga_cons (gv 4) (ga_cons ge_int (ga_cons (ge_gi (by rfl) T.i_LAST_RANK) ga_nil)))) (ga_cons (ge_call G_is_whole (hr) (by rfl) T.g_is_whole T.k_is_whole b_is_whole .nil (fun _ => .nil) pass0 (ga_cons (gv 5) (ga_cons ge_int (ga_cons (ge_gi (by rfl) T.i_LAST_KIND) ga_nil)))) (ga_cons (ge_call G_is_whole (hr) (by rfl) T.g_is_whole T.k_is_whole b_is_whole .nil (fun _ => .nil) pass0 (ga_cons (gv 6) (ga_cons (gv 2) (ga_cons (ge_gi (by rfl) T.i_LAST_BORN) ga_nil)))) ga_nil))))))
      (gss_one (gs_ret (ge_callB (cr_allG K) sim_all (by rfl) T.z_all (by decide +kernel) (ga_cons (gv 7) ga_nil))))))), fun svs m SX Sv h => ?_⟩)
  · unfold spCanNt at h
    split at h <;> first | rfl | exact h.elim
  · unfold spCanNt at h
    split at h
    · rename_i x many lo
      obtain ⟨hd, q⟩ := h
      walk_at "r"
      refine ⟨hd.dat, ?_⟩
      walk_at "r"
      refine Br_i (fun h1 => ?_) (fun h1 => ?_)
      · walk_at "r"
        rw [not_tup4 (by simpa using h1)] at q
        exact .of q
      · obtain ⟨a, b, c, d, rfl⟩ := tup4 (by simpa using h1)
        cases hd with
        | tup hd =>
          have q : Sv (.bl (isWh a 0 (many - 1) && (isWh b 0 3 && (isWh c 0 7 && isWh d lo 300)))) m := q
          walk_at "r"
          refine ⟨rfl, ?_⟩
          walk_at "r"
          refine ⟨(hd.mem (by simp)).dat, ?_⟩
          walk_at "r"
          refine ⟨(hd.mem (by simp)).dat, ?_⟩
          walk_at "r"
          refine ⟨(hd.mem (by simp)).dat, ?_⟩
          walk_at "r"
          refine ⟨(hd.mem (by simp)).dat, ?_⟩
          walk_at "r"
          refine ⟨by walk_at "len", fun p hp => ?_⟩
          walk_at "r"
          refine ⟨[isWh a 0 (many - 1), isWh b 0 3, isWh c 0 7, isWh d lo 300], up_same, ?_⟩
          have e : [isWh a 0 (many - 1), isWh b 0 3, isWh c 0 7, isWh d lo 300].all id = (isWh a 0 (many - 1) && (isWh b 0 3 && (isWh c 0 7 && isWh d lo 300))) := by simp
          rw [e]
          exact ⟨m, .new (.refl m) hp, q⟩
    · exact h.elim
theorem ok_can_be_hear (T : Tx K mg) : FnOk P w K mg base CX0 3 (He.ga K "can_be_hear") T.fd_can_be_hear ["row", "many_persons", "many_notices", "earliest"] (lift K spCanHr) := by
  have G_is_tuple_of := ok_is_tuple_of (P := P) (w := w) (base := base) T
  have b_is_tuple_of := b_is_tuple_of T
  have G_is_whole := ok_is_whole (P := P) (w := w) (base := base) T
  have b_is_whole := b_is_whole T
  refine fn_sy T.F_can_be_hear sc_can_be_hear (fun svs m SX Sv h => ?_) (fun cdv A outer s H E hr => ⟨_, _, (gss_cons (gs_if (gt_not (gt_val (ge_call G_is_tuple_of (hr.mono (by decide)) (by rfl) T.g_is_tuple_of T.k_is_tuple_of b_is_tuple_of .nil (fun _ => .nil) pass0 (ga_cons (gv 0) (ga_cons ge_int ga_nil))))) (gss_one (gs_ret ge_bl)) gss_nil)
      (gss_cons (gs_asg (gv 0) (gg_tup 3 (by rfl) (ggs_cons (gg_name (i := 4) sc_can_be_hear.nd rfl (.inl rfl)) (ggs_cons (gg_name (i := 5) sc_can_be_hear.nd rfl (.inl rfl)) (ggs_cons (gg_name (i := 6) sc_can_be_hear.nd rfl (.inl rfl)) ggs_nil)))))
      (gss_cons (gs_set (i := 7) sc_can_be_hear.nd rfl (.inl rfl) (ge_lst (ga_cons (ge_call G_is_whole (hr) (by rfl) T.g_is_whole T.k_is_whole b_is_whole .nil (fun _ => .nil) pass0 (ga_cons (gv 4) (ga_cons (gv 3) (ga_cons (ge_gi (by rfl) T.i_LAST_HEAR) ga_nil)))) (ga_cons (ge_call G_is_whole (hr) (by rfl) T.g_is_whole T.k_is_whole b_is_whole .nil (fun _ => .nil) pass0 (ga_cons (gv 5) (ga_cons ge_int (ga_cons (ge_op op_sub sim_sub (gv 1) ge_int) ga_nil)))) (ga_cons (ge_call G_is_whole (hr) (by rfl) T.g_is_whole T.k_is_whole b_is_whole .nil (fun _ => .nil) pass0 (ga_cons (gv 6) (ga_cons ge_int (ga_cons (ge_op op_sub sim_sub (gv 2) ge_int) ga_nil)))) ga_nil)))))
      (gss_one (gs_ret (ge_callB (cr_allG K) sim_all (by rfl) T.z_all (by decide +kernel) (ga_cons (gv 7) ga_nil))))))), fun svs m SX Sv h => ?_⟩)
  · unfold spCanHr at h
    split at h <;> first | rfl | exact h.elim
  · unfold spCanHr at h
    split at h
    · rename_i x mp mn lo
      obtain ⟨hd, q⟩ := h
      walk_at "r"
      refine ⟨hd.dat, ?_⟩
      walk_at "r"
      refine Br_i (fun h1 => ?_) (fun h1 => ?_)
      · walk_at "r"
        rw [not_tup3 (by simpa using h1)] at q
        exact .of q
      · obtain ⟨a, b, c, rfl⟩ := tup3 (by simpa using h1)
        cases hd with
        | tup hd =>
          have q : Sv (.bl (isWh a lo 600 && (isWh b 0 (mp - 1) && isWh c 0 (mn - 1)))) m := q
          walk_at "r"
          refine ⟨rfl, ?_⟩
          walk_at "r"
          refine ⟨(hd.mem (by simp)).dat, ?_⟩
          walk_at "r"
          refine ⟨(hd.mem (by simp)).dat, ?_⟩
          walk_at "r"
          refine ⟨(hd.mem (by simp)).dat, ?_⟩
          walk_at "r"
          refine ⟨by walk_at "len", fun p hp => ?_⟩
          walk_at "r"
          refine ⟨[isWh a lo 600, isWh b 0 (mp - 1), isWh c 0 (mn - 1)], up_same, ?_⟩
          have e : [isWh a lo 600, isWh b 0 (mp - 1), isWh c 0 (mn - 1)].all id = (isWh a lo 600 && (isWh b 0 (mp - 1) && isWh c 0 (mn - 1))) := by simp
          rw [e]
          exact ⟨m, .new (.refl m) hp, q⟩
    · exact h.elim
theorem nr_dd {m : Mem} (x : NR) : DD m x.sv := .tup (.cons (.int _) (.cons (.int _) (.cons (.int _) (.cons (.int _) .nil))))
theorem hr_dd {m : Mem} (x : Hr) : DD m (hrS x) := .tup (.cons (.int _) (.cons (.int _) (.cons (.int _) .nil)))
structure HrOk (R : List PR) (N : List NR) (H : List Hr) : Prop where
  len : H.length ≤ 60
  all : ∀ h ∈ H, (0 ≤ h.1 ∧ h.1 ≤ 600) ∧ (0 ≤ h.2.1 ∧ h.2.1 < R.length) ∧ (0 ≤ h.2.2 ∧ h.2.2 < N.length)
  rise : H.Pairwise fun a b => a.1 ≤ b.1
def spNtOk : SpS := fun vs m _ S => ∃ R N a, vs = [PV R, .ref a] ∧ m a = some (.lst (N.map NR.sv)) ∧ NtOk R N ∧ S .non m
def spHrOk : SpS := fun vs m _ S => ∃ R N H a x, vs = [PV R, .ref a, x] ∧ m a = some (.lst (N.map NR.sv)) ∧ Its m x (H.map hrS) ∧ HrOk R N H ∧ (∃ t, tyS m x t ∧ (isB t "list" || isB t "tuple") = true) ∧ S .non m
theorem enS_cons {i : Int} {x : SV} {r : List SV} : enS i (x :: r) = .tup [.int i, x] :: enS (i + 1) r := rfl
theorem drop_cons' {α : Type} {l : List α} {j : Nat} {x : α} {r : List α} (h : l.drop j = x :: r) : l[j]? = some x ∧ l.drop (j + 1) = r := by
  have e : l[j]? = some x := by
    have z := congrArg (fun l => l[0]?) h
    simpa using z
  refine ⟨e, ?_⟩
  rw [← List.drop_drop, h]
  rfl
theorem ok_refuse_bad_notices (T : Tx K mg) : FnOk P w K mg base CX0 4 (He.ga K "refuse_bad_notices") T.fd_refuse_bad_notices ["rules", "notices"] (lift K spNtOk) := by
  have G_can_be_notice := ok_can_be_notice (P := P) (w := w) (base := base) T
  have b_can_be_notice := b_can_be_notice T
  refine fn_sy T.F_refuse_bad_notices sc_refuse_bad_notices (fun svs m SX Sv h => ?_) (fun cdv A outer s H E hr => ⟨_, _, (gss_cons (gs_if (gt_not (gt_val (ge_callB (cr_isi K) sim_isi (by rfl) T.z_isinstance (by decide +kernel) (ga_cons (gv 1) (ga_cons (ge_ty (n := "list") (by rfl) T.z_list (by decide +kernel)) ga_nil))))) (gss_one gs_never) gss_nil)
      (gss_cons (gs_set (i := 2) sc_refuse_bad_notices.nd rfl (.inl rfl) ge_int)
      (gss_one (gs_for PassesOwn.never rfl (gi_enumerate (by rfl) T.z_enumerate (ga_cons (gv 1) ga_nil)) (gg_tup 2 (by rfl) (ggs_cons (gg_name (i := 3) sc_refuse_bad_notices.nd rfl (.inl rfl)) (ggs_cons (gg_name (i := 4) sc_refuse_bad_notices.nd rfl (.inl rfl)) ggs_nil)))
      (gss_cons (gs_if (gw_pt (gw_or (gt_cmp (op_eqG K hr.units) sim_eq (gv 3) (ge_gi (by rfl) T.i_MOST_NOTICES) (nomark _)) (gw_or1 (gt_not (gt_val (ge_call G_can_be_notice (hr) (by rfl) T.g_can_be_notice T.k_can_be_notice b_can_be_notice .nil (fun _ => .nil) pass0 (ga_cons (gv 4) (ga_cons (ge_callB (cr_len K) sim_len (by rfl) T.z_len (by decide +kernel) (ga_cons (gv 0) ga_nil)) (ga_cons (gv 2) ga_nil))))))))) (gss_one gs_never) gss_nil)
      (gss_one (gs_set (i := 2) sc_refuse_bad_notices.nd rfl (.inl rfl) (ge_ix (ix_G K) sim_ix (gv 4) ge_int (fun _ _ => rfl))))))))), fun svs m SX Sv h => ?_⟩)
  · obtain ⟨R, N, a, rfl, _⟩ := h
    rfl
  · obtain ⟨R, N, a, rfl, ha, ok, q⟩ := h
    have hl := ok.len
    walk_at "r"
    refine ⟨by decide, _, ⟨rfl, _, ha⟩, ?_⟩
    walk_at "r"
    walk_at "f"
    walk_at "r"
    refine ⟨_, ha, ?_⟩
    refine for_inv (fun r δ m' => m' = m ∧ ∃ (j : Nat) (lo : Int) (x y : Option SV), δ = [some (PV R), some (.ref a), some (.int lo), x, y] ∧ r = enS j ((N.drop j).map NR.sv) ∧ j ≤ N.length ∧ (∀ z ∈ N.drop j, lo ≤ z.born)) ⟨rfl, 0, 0, none, none, rfl, rfl, Nat.zero_le _, fun z hz => (ok.all z hz).2.2.2.1⟩ (fun x r δ m' h => ?_) (fun δ m' h => ?_)
    · obtain ⟨rfl, j, lo, a3, a4, rfl, hr, hj, hlo⟩ := h
      cases hd : N.drop j with
      | nil => rw [hd] at hr; cases hr
      | cons z zs =>
        obtain ⟨hz, hd2⟩ := drop_cons' hd
        have hj2 := (List.getElem?_eq_some_iff.mp hz).1
        rw [hd, List.map_cons, enS_cons] at hr
        obtain ⟨rfl, rfl⟩ := List.cons.inj hr
        have hm : z ∈ N := List.mem_of_getElem? hz
        obtain ⟨⟨p0, p1⟩, ⟨r0, r1⟩, ⟨k0, k1⟩, ⟨b0, b1⟩⟩ := ok.all z hm
        have hlz := hlo z (by rw [hd]; exact List.mem_cons_self)
        refine ⟨ha, ?_⟩
        walk_at "r"
        refine ⟨rfl, ?_⟩
        walk_at "r"
        refine Br_i (fun h2 => ?_) (fun _ => ?_)
        · have := of_decide_eq_true h2
          omega
        walk_at "r"
        refine ⟨_, rfl, ?_⟩
        walk_at "r"
        refine ⟨nr_dd z, ?_⟩
        have cn : canNt z.sv ((R.map PR.pv).length : Int) lo = true := by
          show (isWh (.int z.per) 0 _ && (isWh (.int z.rank) 0 3 && (isWh (.int z.kind) 0 7 && isWh (.int z.born) lo 300))) = true
          rw [wh_of p0 (by rw [List.length_map]; omega), wh_of r0 r1, wh_of k0 k1, wh_of hlz b1]
          rfl
        rw [cn]
        walk_at "r"
        walk_at "f"
        walk_at "r"
        refine ⟨_, atI_nat (j := 3) rfl, ?_⟩
        walk_at "r"
        refine .of ⟨rfl, j + 1, z.born, _, _, rfl, by rw [hd2]; push_cast; rfl, hj2, fun y hy => ?_⟩
        rw [hd2] at hy
        have pw := ok.rise.drop (i := j)
        rw [hd] at pw
        exact (List.pairwise_cons.mp pw).1 y hy
    · obtain ⟨rfl, j, lo, a3, a4, rfl, hr, hj, hlo⟩ := h
      refine ⟨ha, ?_⟩
      walk_at "r"
      exact .of q
theorem ok_refuse_bad_hears (T : Tx K mg) : FnOk P w K mg base CX0 4 (He.ga K "refuse_bad_hears") T.fd_refuse_bad_hears ["rules", "notices", "hears"] (lift K spHrOk) := by
  have G_can_be_hear := ok_can_be_hear (P := P) (w := w) (base := base) T
  have b_can_be_hear := b_can_be_hear T
  refine fn_sy T.F_refuse_bad_hears sc_refuse_bad_hears (fun svs m SX Sv h => ?_) (fun cdv A outer s H E hr => ⟨_, _, (gss_cons (gs_if (gt_not (gt_val (ge_isi2 (tA := "list") (tB := "tuple") (by rfl) T.z_isinstance (gv 2) (by rfl) T.z_list (by rfl) T.z_tuple (by decide +kernel) (by decide +kernel)))) (gss_one gs_never) gss_nil)
      (gss_cons (gs_set (i := 3) sc_refuse_bad_hears.nd rfl (.inl rfl) ge_int)
      (gss_one (gs_for PassesOwn.never rfl (gi_enumerate2 (by rfl) T.z_enumerate (ga_cons (gv 2) ga_nil)) (gg_tup 2 (by rfl) (ggs_cons (gg_name (i := 4) sc_refuse_bad_hears.nd rfl (.inl rfl)) (ggs_cons (gg_name (i := 5) sc_refuse_bad_hears.nd rfl (.inl rfl)) ggs_nil)))
      (gss_cons (gs_if (gw_pt (gw_or (gt_cmp (op_eqG K hr.units) sim_eq (gv 4) (ge_gi (by rfl) T.i_MOST_HEARS) (nomark _)) (gw_or1 (gt_not (gt_val (ge_call G_can_be_hear (hr) (by rfl) T.g_can_be_hear T.k_can_be_hear b_can_be_hear .nil (fun _ => .nil) pass0 (ga_cons (gv 5) (ga_cons (ge_callB (cr_len K) sim_len (by rfl) T.z_len (by decide +kernel) (ga_cons (gv 0) ga_nil)) (ga_cons (ge_callB (cr_len K) sim_len (by rfl) T.z_len (by decide +kernel) (ga_cons (gv 1) ga_nil)) (ga_cons (gv 3) ga_nil)))))))))) (gss_one gs_never) gss_nil)
      (gss_one (gs_set (i := 3) sc_refuse_bad_hears.nd rfl (.inl rfl) (ge_ix (ix_G K) sim_ix (gv 5) ge_int (fun _ _ => rfl))))))))), fun svs m SX Sv h => ?_⟩)
  · obtain ⟨R, N, H, a, x, rfl, _⟩ := h
    rfl
  · obtain ⟨R, N, H, a, x, rfl, ha, hx, ok, ⟨t, ht, hb⟩, q⟩ := h
    have hl := ok.len
    walk_at "r"
    refine ⟨by decide, by decide, t, ht, ?_⟩
    rw [hb]
    walk_at "r"
    walk_at "f"
    walk_at "r"
    refine ⟨_, hx, ?_⟩
    refine for_inv (fun r δ m' => m' = m ∧ ∃ (j : Nat) (lo : Int) (y z : Option SV), δ = [some (PV R), some (.ref a), some x, some (.int lo), y, z] ∧ r = enS j ((H.drop j).map hrS) ∧ j ≤ H.length ∧ (∀ z ∈ H.drop j, lo ≤ z.1)) ⟨rfl, 0, 0, none, none, rfl, rfl, Nat.zero_le _, fun z hz => (ok.all z hz).1.1⟩ (fun y r δ m' h => ?_) (fun δ m' h => ?_)
    · obtain ⟨rfl, j, lo, a3, a4, rfl, hr, hj, hlo⟩ := h
      cases hd : H.drop j with
      | nil => rw [hd] at hr; cases hr
      | cons z zs =>
        obtain ⟨hz, hd2⟩ := drop_cons' hd
        have hj2 := (List.getElem?_eq_some_iff.mp hz).1
        rw [hd, List.map_cons, enS_cons] at hr
        obtain ⟨rfl, rfl⟩ := List.cons.inj hr
        have hm : z ∈ H := List.mem_of_getElem? hz
        obtain ⟨⟨t0, t1⟩, ⟨p0, p1⟩, ⟨n0, n1⟩⟩ := ok.all z hm
        have hlz := hlo z (by rw [hd]; exact List.mem_cons_self)
        refine ⟨?_, ?_⟩
        · cases x <;> first
            | exact trivial
            | exact hx
            | exact (show False from hx).elim
        walk_at "r"
        refine ⟨rfl, ?_⟩
        walk_at "r"
        refine Br_i (fun h2 => ?_) (fun _ => ?_)
        · have := of_decide_eq_true h2
          omega
        walk_at "r"
        refine ⟨_, rfl, ?_⟩
        walk_at "r"
        refine ⟨_, ha, ?_⟩
        walk_at "r"
        refine ⟨hr_dd z, ?_⟩
        have cn : canHr (hrS z) ((R.map PR.pv).length : Int) ((N.map NR.sv).length : Int) lo = true := by
          show (isWh (.int z.1) lo 600 && (isWh (.int z.2.1) 0 _ && isWh (.int z.2.2) 0 _)) = true
          rw [wh_of hlz t1, wh_of p0 (by rw [List.length_map]; omega), wh_of n0 (by rw [List.length_map]; omega)]
          rfl
        rw [cn]
        walk_at "r"
        walk_at "f"
        walk_at "r"
        refine ⟨_, atI_nat (j := 0) rfl, ?_⟩
        walk_at "r"
        refine .of ⟨rfl, j + 1, z.1, _, _, rfl, by rw [hd2]; push_cast; rfl, hj2, fun y hy => ?_⟩
        rw [hd2] at hy
        have pw := ok.rise.drop (i := j)
        rw [hd] at pw
        exact (List.pairwise_cons.mp pw).1 y hy
    · obtain ⟨rfl, j, lo, a3, a4, rfl, hr, hj, hlo⟩ := h
      refine ⟨?_, ?_⟩
      · cases x <;> first
          | exact trivial
          | exact hx
          | exact (show False from hx).elim
      walk_at "r"
      exact .of q
def spMoOk : SpS := fun vs m _ S => ∃ t u : Int, vs = [.int t, .int u] ∧ 0 ≤ t ∧ t ≤ u ∧ S .non m
theorem ok_refuse_bad_moment (T : Tx K mg) : FnOk P w K mg base CX0 4 (He.ga K "refuse_bad_moment") T.fd_refuse_bad_moment ["moment", "last"] (lift K spMoOk) := by
  have G_is_whole := ok_is_whole (P := P) (w := w) (base := base) T
  have b_is_whole := b_is_whole T
  refine fn_sy T.F_refuse_bad_moment sc_refuse_bad_moment (fun svs m SX Sv h => ?_) (fun cdv A outer s H E hr => ⟨_, _, (gss_one (gs_if (gt_not (gt_val (ge_call G_is_whole (hr.mono (by decide)) (by rfl) T.g_is_whole T.k_is_whole b_is_whole .nil (fun _ => .nil) pass0 (ga_cons (gv 0) (ga_cons ge_int (ga_cons (gv 1) ga_nil)))))) (gss_one gs_never) gss_nil)), fun svs m SX Sv h => ?_⟩)
  · obtain ⟨t, u, rfl, _⟩ := h
    rfl
  · obtain ⟨t, u, rfl, h0, h1, q⟩ := h
    walk_at "r"
    refine ⟨⟨_, rfl⟩, ?_⟩
    rw [wh_of h0 h1]
    walk_at "r"
    walk_at "f"
    walk_at "r"
    exact .of q
end
end Hn

set_option Elab.async false
set_option linter.all false
set_option maxRecDepth 100000
set_option maxHeartbeats 8000000
namespace Hn
open PySem PySem.Spec PyProof.Rows L2 Sy Lm
section
variable {P : Program} {w : World} {K : PySem.W.Frag} {mg : Str → Option Value} {base : Heap}
local macro_rules | `(tactic| walk_at "r") => `(tactic| (conv => whnf))
local macro_rules | `(tactic| walk_at "sp") => `(tactic| (first | rfl | contradiction | exact (False.elim ‹_›)))
local macro_rules | `(tactic| walk_at "len") => `(tactic| (exact Nat.le_trans (show _ ≤ 100000 by first | (simp; done) | (rw [rngS_length]; decide)) (by decide)))
local macro_rules | `(tactic| walk_at "f") => `(tactic| (refine Br_i (fun hb => Bool.noConfusion (show false = true from hb)) (fun _ => ?_)))
local macro_rules | `(tactic| walk_at "t") => `(tactic| (refine Br_i (fun _ => ?_) (fun hb => Bool.noConfusion (show true = false from hb))))
local macro_rules | `(tactic| walk_at "le") => `(tactic| first | exact Le.refl _ | (refine Le.put ?_; walk_at "le") | (refine Le.new ?_ (by assumption); walk_at "le"))
theorem putS_step {f : Str} {v : SV} {fs : List (Str × SV)} {n : Nat} (h : fs.length < n) : (putS f v fs).length < n + 1 := by
  have key : ∀ fs : List (Str × SV), (putS f v fs).length ≤ fs.length + 1 := fun fs => by
    induction fs with
    | nil => exact Nat.le_refl _
    | cons q r ih =>
      obtain ⟨g, x⟩ := q
      unfold putS
      split
      · rw [List.length_cons, List.length_cons]; omega
      · rw [List.length_cons, List.length_cons]; omega
  have := key fs
  omega
local macro_rules | `(tactic| walk_at "fl") => `(tactic| (repeat (refine putS_step ?_)) <;> decide)
def perF (r : PR) (h s : Addr) : List (Str × SV) := [("least", .int r.least), ("wait", optV r.wait), ("further", optV r.fur), ("hours", .ref h), ("spans", .ref s)]
def hrdV : Option (Int × Int) → SV
  | none => .non
  | some q => .tup [.int q.1, .int q.2]
def ntcF (j : Nat) (x : NR) (y : NW) (w t : Addr) : List (Str × SV) := [("number", .int j), ("first", .int x.per), ("rank", .int y.rank), ("kind", .int x.kind), ("born", .int x.born), ("went", .ref w), ("told", .ref t), ("goes_on", optV y.due), ("heard", hrdV y.heard), ("given_up", .bl y.gone)]
def gsD (gs : List (Int × Int)) : List (Key × SV) := gs.map fun g => (.inl g.1, .int g.2)
theorem gOk_lt : ∀ {gs : List (Int × Int)} {lo : Int}, gOk lo gs → (∀ g ∈ gs, lo ≤ g.1) ∧ gs.Pairwise fun a b => a.1 < b.1
  | [], _, _ => ⟨fun _ h => (nomatch h), .nil⟩
  | g :: r, lo, h => by
    obtain ⟨h1, h2, h3, h4, h5⟩ := h
    obtain ⟨i1, i2⟩ := gOk_lt h5
    exact ⟨fun q hq => by
      rcases List.mem_cons.mp hq with rfl | hq
      · exact h1
      · have := i1 q hq; omega, List.pairwise_cons.mpr ⟨fun q hq => by have := i1 q hq; omega, i2⟩⟩
theorem putD_new {κ : Type} [DecidableEq κ] {kvs : List (κ × SV)} {k : κ} {v : SV} (h : ∀ q ∈ kvs, ¬ q.1 = k) : putD kvs k v = kvs ++ [(k, v)] := by
  unfold putD
  rw [if_neg]
  intro z
  obtain ⟨q, h1, h2⟩ := List.any_eq_true.mp z
  exact h q h1 (of_decide_eq_true h2)
theorem merge_new : ∀ (more kvs : List (Key × SV)), ((kvs ++ more).map (·.1)).Nodup → mergeS kvs more = kvs ++ more
  | [], kvs, _ => by rw [List.append_nil]; rfl
  | (k, v) :: r, kvs, h => by
    have e : putD kvs k v = kvs ++ [(k, v)] := putD_new fun q hq z => by
      rw [List.map_append, List.nodup_append] at h
      exact h.2.2 q.1 (List.mem_map_of_mem hq) k (by simp) z
    have h2 : (((kvs ++ [(k, v)]) ++ r).map (·.1)).Nodup := by rw [List.append_assoc]; exact h
    show mergeS (putD kvs k v) r = _
    rw [e, merge_new r _ h2, List.append_assoc]
    rfl
theorem merge_gs {gs : List (Int × Int)} (h : gOk 0 gs) : mergeS [] (gsD gs) = gsD gs := merge_new _ [] (by
  show (List.map (fun q : Key × SV => q.1) (gsD gs)).Nodup
  unfold gsD
  rw [List.map_map]
  refine List.pairwise_map.mpr ((gOk_lt h).2.imp fun {a b} q z => ?_)
  have z : (Sum.inl a.1 : Key) = Sum.inl b.1 := z
  injection z with z
  omega)
theorem valS_gs (gs : List (Int × Int)) (k : Int) : valS (gsD gs) (.inl k) = (spanOf gs k).map SV.int := by
  unfold valS gsD spanOf
  rw [List.find?_map, Option.map_map, Option.map_map]
  have e : ((fun kv : Key × SV => decide (kv.1 = Sum.inl k)) ∘ fun g : Int × Int => ((Sum.inl g.1 : Key), SV.int g.2)) = fun g => decide (g.1 = k) := by
    funext g
    show decide ((Sum.inl g.1 : Key) = Sum.inl k) = decide (g.1 = k)
    exact decide_eq_decide.mpr ⟨fun z => Sum.inl.inj z, fun z => by rw [z]⟩
  rw [e]
  rfl
theorem optV_map (o : Option Int) : (o.map SV.int).getD .non = optV o := by cases o <;> rfl
def spPerInit (K : PySem.W.Frag) : SpS := fun vs m _ S => ∃ (p : Addr) (r : PR) (n : Nat), vs = [.ref p, r.pv] ∧ m p = some (.ins (He.ga K "Person") []) ∧ r.Ok n ∧ ∀ h s, m h = none → m s = none → h ≠ s → S .non (up (up (up m h (.lst ((hoursB r.hs).map .bl))) s (.dK (gsD r.gs))) p (.ins (He.ga K "Person") (perF r h s)))
theorem ok_Person___init__ (T : Tx K mg) : FnOk P w K mg base CX0 4 (He.ma K (He.ga K "Person") "__init__") T.fd_Person___init__ ["self", "row"] (lift K (spPerInit K)) := by
  have G_hushed_hours := ok_hushed_hours (P := P) (w := w) (base := base) T
  have b_hushed_hours := b_hushed_hours T
  refine fn_syQ T.F_Person___init__ sc_Person___init__ (fun svs m SX Sv h => ?_) (fun cdv A outer s H E hr => ⟨_, _, (gss_cons (gs_asg (gv 1) (gg_tup 5 (by rfl) (ggs_cons (gg_name (i := 2) sc_Person___init__.nd rfl (.inl rfl)) (ggs_cons (gg_fld T.c_Person T.n_Person_least (gv 0)) (ggs_cons (gg_name (i := 3) sc_Person___init__.nd rfl (.inl rfl)) (ggs_cons (gg_fld T.c_Person T.n_Person_wait (gv 0)) (ggs_cons (gg_fld T.c_Person T.n_Person_further (gv 0)) ggs_nil)))))))
      (gss_cons (gs_fld T.c_Person T.n_Person_hours (gv 0) (ge_call G_hushed_hours (hr.mono (by decide)) (by rfl) T.g_hushed_hours T.k_hushed_hours b_hushed_hours .nil (fun _ => .nil) pass0 (ga_cons (gv 2) ga_nil)))
      (gss_one (gs_fld T.c_Person T.n_Person_spans (gv 0) (ge_callTy (cr_dictP K) sim_dictP (by rfl) T.z_dict (by decide +kernel) (ga_cons (gv 3) ga_nil)))))), fun svs m SX Sv h => ?_⟩)
  · obtain ⟨p, r, n, rfl, _⟩ := h
    rfl
  · obtain ⟨p, r, n, rfl, hp, ok, q⟩ := h
    have hl := ok.hl
    walk_at "r"
    refine ⟨rfl, _, hp, by decide, ?_⟩
    walk_at "r"
    refine ⟨_, up_same, by walk_at "fl", ?_⟩
    walk_at "r"
    refine ⟨_, up_same, by walk_at "fl", ?_⟩
    rw [up_up, up_up]
    walk_at "r"
    refine ⟨r.hs, rfl, by omega, fun h hh => ?_⟩
    have nh : h ≠ p := fun z => by rw [z, up_same] at hh; cases hh
    rw [up_ne nh] at hh
    walk_at "r"
    refine ⟨_, (by rw [up_ne (Ne.symm nh)]; exact up_same), by walk_at "fl", ?_⟩
    rw [up_comm (Ne.symm nh), up_up]
    walk_at "r"
    refine ⟨gsD r.gs, by unfold gsD; rw [List.map_map]; rfl, fun s hs => ?_⟩
    rw [merge_gs ok.gs]
    have ns : s ≠ p := fun z => by rw [z, up_same] at hs; cases hs
    rw [up_ne ns] at hs
    have nsh : s ≠ h := fun z => by rw [z, up_same] at hs; cases hs
    rw [up_ne nsh] at hs
    walk_at "r"
    refine ⟨_, (by rw [up_ne (Ne.symm ns)]; exact up_same), by walk_at "fl", ?_⟩
    rw [up_comm (Ne.symm ns), up_up]
    walk_at "r"
    refine .of ?_
    have e : putS ("spans" : Str) (SV.ref s) (putS ("hours" : Str) (SV.ref h) (putS ("further" : Str) (optV r.fur) (putS ("wait" : Str) (optV r.wait) (putS ("least" : Str) (SV.int r.least) [])))) = perF r h s := by kernel_rfl
    rw [e]
    exact q h s hh hs (Ne.symm nsh)
def spLetsBy (K : PySem.W.Frag) : SpS := fun vs m _ S => ∃ (p h s : Addr) (r : PR) (rank t : Int), vs = [.ref p, .int rank, .int t] ∧ m p = some (.ins (He.ga K "Person") (perF r h s)) ∧ m h = some (.lst ((hoursB r.hs).map .bl)) ∧ S (.bl (letsBy r rank t)) m
theorem per_hours {r : PR} {h s : Addr} : (perF r h s).lookup ("hours" : Str) = some (.ref h) := by kernel_rfl
theorem per_least {r : PR} {h s : Addr} : (perF r h s).lookup ("least" : Str) = some (.int r.least) := by kernel_rfl
theorem per_wait {r : PR} {h s : Addr} : (perF r h s).lookup ("wait" : Str) = some (optV r.wait) := by kernel_rfl
theorem per_fur {r : PR} {h s : Addr} : (perF r h s).lookup ("further" : Str) = some (optV r.fur) := by kernel_rfl
theorem per_spans {r : PR} {h s : Addr} : (perF r h s).lookup ("spans" : Str) = some (.ref s) := by kernel_rfl
theorem per_no {r : PR} {h s : Addr} {f : Str} (h1 : ¬ f = "least" ∧ ¬ f = "wait" ∧ ¬ f = "further" ∧ ¬ f = "hours" ∧ ¬ f = "spans") : (perF r h s).lookup f = none := by
  unfold perF
  have n : ∀ {g : Str} {v : SV} {r : List (Str × SV)}, ¬ f = g → ((g, v) :: r).lookup f = r.lookup f := fun {g v r} h => by
    have e : (f == g) = false := by simpa using h
    simp [List.lookup, e]
  rw [n h1.1, n h1.2.1, n h1.2.2.1, n h1.2.2.2.1, n h1.2.2.2.2]
  rfl
theorem ok_Person_lets_by (T : Tx K mg) : FnOk P w K mg base CX0 1 (He.ma K (He.ga K "Person") "lets_by") T.fd_Person_lets_by ["self", "rank", "moment"] (lift K (spLetsBy K)) := by
  refine fn_syQ T.F_Person_lets_by sc_Person_lets_by (fun svs m SX Sv h => ?_) (fun cdv A outer s H E hr => ⟨_, _, (gss_one (gs_ret (ge_or (ge_not (ge_ix (ix_G K) sim_ix (ge_fld T.c_Person T.n_Person_hours (gv 0)) (ge_op op_mod sim_mod (gv 2) (ge_gi (by rfl) T.i_DAY)) (fun _ _ => rfl))) (ge_one (ge_cmp op_ge sim_ge (gv 1) (ge_fld T.c_Person T.n_Person_least (gv 0)) (nomark _)))))), fun svs m SX Sv h => ?_⟩)
  · obtain ⟨p, h, s, r, rank, t, rfl, _⟩ := h
    rfl
  · obtain ⟨p, h, s, r, rank, t, rfl, hp, hh, q⟩ := h
    walk_at "r"
    refine ⟨_, _, hp, per_hours, ?_⟩
    walk_at "r"
    refine ⟨(by decide : (0 : Int) < 24), ?_⟩
    walk_at "r"
    refine ⟨_, _, hh, hoursB_at r.hs (by omega) (by omega), ?_⟩
    walk_at "r"
    refine Br_i (fun h1 => ?_) (fun h1 => ?_)
    · have h1 : inSome r.hs (t % 24) = false := by simpa using h1
      unfold letsBy at q
      rw [h1] at q
      exact .of q
    · have h1 : inSome r.hs (t % 24) = true := by simpa using h1
      unfold letsBy at q
      rw [h1] at q
      walk_at "r"
      refine ⟨_, _, hp, per_least, ?_⟩
      walk_at "r"
      exact .of q
def spNtcInit (K : PySem.W.Frag) : SpS := fun vs m _ S => ∃ (p : Addr) (j : Nat) (N : List NR), vs = [.ref p, .int j, (ntc N j).sv] ∧ m p = some (.ins (He.ga K "Notice") []) ∧ ∀ w t, m w = none → m t = none → w ≠ t → S .non (up (up (up m w (.lst [])) t (.lst [])) p (.ins (He.ga K "Notice") (ntcF j (ntc N j) (ini N j) w t)))
theorem ok_Notice___init__ (T : Tx K mg) : FnOk P w K mg base CX0 1 (He.ma K (He.ga K "Notice") "__init__") T.fd_Notice___init__ ["self", "number", "row"] (lift K (spNtcInit K)) := by
  refine fn_syQ T.F_Notice___init__ sc_Notice___init__ (fun svs m SX Sv h => ?_) (fun cdv A outer s H E hr => ⟨_, _, (gss_cons (gs_fld T.c_Notice T.n_Notice_number (gv 0) (gv 1))
      (gss_cons (gs_asg (gv 2) (gg_tup 4 (by rfl) (ggs_cons (gg_fld T.c_Notice T.n_Notice_first (gv 0)) (ggs_cons (gg_fld T.c_Notice T.n_Notice_rank (gv 0)) (ggs_cons (gg_fld T.c_Notice T.n_Notice_kind (gv 0)) (ggs_cons (gg_fld T.c_Notice T.n_Notice_born (gv 0)) ggs_nil))))))
      (gss_cons (gs_fld T.c_Notice T.n_Notice_went (gv 0) (ge_lst ga_nil))
      (gss_cons (gs_fld T.c_Notice T.n_Notice_told (gv 0) (ge_lst ga_nil))
      (gss_cons (gs_fld T.c_Notice T.n_Notice_goes_on (gv 0) ge_non)
      (gss_cons (gs_fld T.c_Notice T.n_Notice_heard (gv 0) ge_non)
      (gss_one (gs_fld T.c_Notice T.n_Notice_given_up (gv 0) ge_bl)))))))), fun svs m SX Sv h => ?_⟩)
  · obtain ⟨p, j, N, rfl, _⟩ := h
    rfl
  · obtain ⟨p, j, N, rfl, hp, q⟩ := h
    walk_at "r"
    refine ⟨_, hp, by decide, ?_⟩
    walk_at "r"
    refine ⟨rfl, _, up_same, by walk_at "fl", ?_⟩
    walk_at "r"
    refine ⟨_, up_same, by walk_at "fl", ?_⟩
    walk_at "r"
    refine ⟨_, up_same, by walk_at "fl", ?_⟩
    walk_at "r"
    refine ⟨_, up_same, by walk_at "fl", ?_⟩
    rw [up_up, up_up, up_up, up_up]
    walk_at "r"
    refine ⟨by walk_at "len", fun w hw => ?_⟩
    have nw : w ≠ p := fun z => by rw [z, up_same] at hw; cases hw
    rw [up_ne nw] at hw
    walk_at "r"
    refine ⟨_, (by rw [up_ne (Ne.symm nw)]; exact up_same), by walk_at "fl", ?_⟩
    rw [up_comm (Ne.symm nw), up_up]
    walk_at "r"
    refine ⟨by walk_at "len", fun t ht => ?_⟩
    have nt : t ≠ p := fun z => by rw [z, up_same] at ht; cases ht
    rw [up_ne nt] at ht
    have ntw : t ≠ w := fun z => by rw [z, up_same] at ht; cases ht
    rw [up_ne ntw] at ht
    walk_at "r"
    refine ⟨_, (by rw [up_ne (Ne.symm nt)]; exact up_same), by walk_at "fl", ?_⟩
    rw [up_comm (Ne.symm nt), up_up]
    walk_at "r"
    refine ⟨_, up_same, by walk_at "fl", ?_⟩
    walk_at "r"
    refine ⟨_, up_same, by walk_at "fl", ?_⟩
    walk_at "r"
    refine ⟨_, up_same, by walk_at "fl", ?_⟩
    rw [up_up, up_up, up_up]
    walk_at "r"
    refine .of ?_
    have e : putS ("given_up" : Str) (SV.bl false) (putS ("heard" : Str) .non (putS ("goes_on" : Str) .non (putS ("told" : Str) (SV.ref t) (putS ("went" : Str) (SV.ref w) (putS ("born" : Str) (SV.int (ntc N j).born) (putS ("kind" : Str) (SV.int (ntc N j).kind) (putS ("rank" : Str) (SV.int (ntc N j).rank) (putS ("first" : Str) (SV.int (ntc N j).per) (putS ("number" : Str) (SV.int (j : Int)) []))))))))) = ntcF j (ntc N j) (ini N j) w t := by kernel_rfl
    rw [e]
    exact q w t hw ht (Ne.symm ntw)
end
end Hn

set_option Elab.async false
set_option linter.all false
set_option maxRecDepth 100000
set_option maxHeartbeats 8000000
namespace Hn
open PySem PySem.Spec PyProof.Rows L2 Sy Lm
section
variable {P : Program} {w : World} {K : PySem.W.Frag} {mg : Str → Option Value} {base : Heap}
local macro_rules | `(tactic| walk_at "r") => `(tactic| (conv => whnf))
local macro_rules | `(tactic| walk_at "sp") => `(tactic| (first | rfl | contradiction | exact (False.elim ‹_›)))
local macro_rules | `(tactic| walk_at "len") => `(tactic| (exact Nat.le_trans (show _ ≤ 100000 by first | (simp; done) | (rw [rngS_length]; decide)) (by decide)))
local macro_rules | `(tactic| walk_at "f") => `(tactic| (refine Br_i (fun hb => Bool.noConfusion (show false = true from hb)) (fun _ => ?_)))
local macro_rules | `(tactic| walk_at "t") => `(tactic| (refine Br_i (fun _ => ?_) (fun hb => Bool.noConfusion (show true = false from hb))))
local macro_rules | `(tactic| walk_at "le") => `(tactic| first | exact Le.refl _ | (refine Le.put ?_; walk_at "le") | (refine Le.new ?_ (by assumption); walk_at "le"))
/-! the memory of a course -/
structure CAd where
  c : Addr
  pl : Addr
  nl : Addr
  hd : Addr
  rl : Addr
  ro : Addr
  pa : Nat → Addr
  ph : Nat → Addr
  ps : Nat → Addr
  na : Nat → Addr
  nw : Nat → Addr
  nt : Nat → Addr
structure HE where
  per : Int
  kind : Int
  end_ : Int
  ad : Addr
  ms : List Nat
structure RE where
  per : Int
  key : Option Int
  at_ : Int
  ad : Addr
  ms : List Nat
def HE.ent (e : HE) : Ent := ⟨⟨e.per, some e.kind, e.end_⟩, e.ms⟩
def RE.ent (e : RE) : Ent := ⟨⟨e.per, e.key, e.at_⟩, e.ms⟩
def HE.kv (e : HE) : List Key × SV := ([.inl e.per, .inl e.kind], .tup [.int e.end_, .ref e.ad])
def RE.sv (e : RE) : SV := .tup [.int e.per, .ref e.ad]
def crsF (A : CAd) (hv : SV) : List (Str × SV) := [("persons", .ref A.pl), ("notices", .ref A.nl), ("hears", hv), ("heaps", .ref A.hd), ("ready", .ref A.rl), ("rows", .ref A.ro)]
def memS (A : CAd) (ms : List Nat) : List SV := ms.map fun j => .ref (A.na j)
structure CTag (m0 : Mem) (A : CAd) (np nn : Nat) (hp : List HE) (rd : List RE) (τ : Addr → Nat) : Prop where
  c : τ A.c = 0
  pl : τ A.pl = 1
  nl : τ A.nl = 2
  hd : τ A.hd = 3
  rl : τ A.rl = 4
  ro : τ A.ro = 5
  gh : ∀ e ∈ hp, τ e.ad = 6
  gr : ∀ e ∈ rd, τ e.ad = 6
  per : ∀ i, i < np → τ (A.pa i) = 7 ∧ τ (A.ph i) = 7 ∧ τ (A.ps i) = 7
  ntc : ∀ j, j < nn → τ (A.na j) = 10 + 3 * j ∧ τ (A.nw j) = 11 + 3 * j ∧ τ (A.nt j) = 12 + 3 * j
  base : ∀ x o, m0 x = some o → τ x = 8
structure Cou (K : PySem.W.Frag) (m0 m : Mem) (A : CAd) (hv : SV) (R : List PR) (N : List NR) (W : WS) (hp : List HE) (rd : List RE) (rows : List RowT) : Prop where
  le : Le m0 m
  c : m A.c = some (.ins (He.ga K "Course") (crsF A hv))
  pl : m A.pl = some (.lst ((List.range R.length).map fun i => .ref (A.pa i)))
  nl : m A.nl = some (.lst ((List.range N.length).map fun j => .ref (A.na j)))
  hd : m A.hd = some (.dT (hp.map HE.kv))
  rl : m A.rl = some (.lst (rd.map RE.sv))
  ro : m A.ro = some (.lst (rows.map rowS))
  per : ∀ i : Nat, i < R.length → m (A.pa i) = some (.ins (He.ga K "Person") (perF (pr R i) (A.ph i) (A.ps i))) ∧ m (A.ph i) = some (.lst ((hoursB (pr R i).hs).map .bl)) ∧ m (A.ps i) = some (.dK (gsD (pr R i).gs))
  ntc : ∀ j : Nat, j < N.length → m (A.na j) = some (.ins (He.ga K "Notice") (ntcF j (ntc N j) (W j) (A.nw j) (A.nt j))) ∧ m (A.nw j) = some (.lst ((W j).went.map .int)) ∧ m (A.nt j) = some (.lst ((W j).told.map .int))
  grp : ∀ e ∈ hp, m e.ad = some (.lst (memS A e.ms))
  grr : ∀ e ∈ rd, m e.ad = some (.lst (memS A e.ms))
  nda : (hp.map HE.ad ++ rd.map RE.ad).Nodup
  tag : ∃ τ, CTag m0 A R.length N.length hp rd τ
theorem kt {τ : Addr → Nat} {a b : Addr} (h : τ a ≠ τ b) : a ≠ b := fun e => h (by rw [e])
theorem CTag.free {m0 : Mem} {A : CAd} {np nn : Nat} {hp : List HE} {rd : List RE} {τ : Addr → Nat} (T : CTag m0 A np nn hp rd τ) {x : Addr} (h : τ x ≠ 8) : m0 x = none := by
  cases e : m0 x with
  | none => rfl
  | some o => exact absurd (T.base x o e) h
section
variable {K : PySem.W.Frag} {m0 m : Mem} {A : CAd} {hv : SV} {R : List PR} {N : List NR} {W : WS} {hp : List HE} {rd : List RE} {rows : List RowT}
/-- what isn't told of by the memory -/
theorem Cou.congr (C : Cou K m0 m A hv R N W hp rd rows) {W' : WS} (h : ∀ j, j < N.length → (W' j).rank = (W j).rank ∧ (W' j).went = (W j).went ∧ (W' j).told = (W j).told ∧ (W' j).due = (W j).due ∧ (W' j).heard = (W j).heard ∧ (W' j).gone = (W j).gone) : Cou K m0 m A hv R N W' hp rd rows :=
  ⟨C.le, C.c, C.pl, C.nl, C.hd, C.rl, C.ro, C.per, fun j hj => by
    obtain ⟨h1, h2, h3, h4, h5, h6⟩ := h j hj
    have e : ntcF j (Hn.ntc N j) (W' j) (A.nw j) (A.nt j) = ntcF j (Hn.ntc N j) (W j) (A.nw j) (A.nt j) := by unfold ntcF; rw [h1, h4, h5, h6]
    rw [e, h2, h3]
    exact C.ntc j hj, C.grp, C.grr, C.nda, C.tag⟩
theorem Cou.mono (C : Cou K m0 m A hv R N W hp rd rows) {m' : Mem} (l : Le m m') : Cou K m0 m' A hv R N W hp rd rows :=
  ⟨C.le.trans l, l _ _ C.c, l _ _ C.pl, l _ _ C.nl, l _ _ C.hd, l _ _ C.rl, l _ _ C.ro, fun i hi => ⟨l _ _ (C.per i hi).1, l _ _ (C.per i hi).2.1, l _ _ (C.per i hi).2.2⟩, fun j hj => ⟨l _ _ (C.ntc j hj).1, l _ _ (C.ntc j hj).2.1, l _ _ (C.ntc j hj).2.2⟩, fun e he => l _ _ (C.grp e he), fun e he => l _ _ (C.grr e he), C.nda, C.tag⟩
theorem Cou.shrink {m1 : Mem} (C : Cou K m1 m A hv R N W hp rd rows) (l : Le m0 m1) : Cou K m0 m A hv R N W hp rd rows :=
  ⟨l.trans C.le, C.c, C.pl, C.nl, C.hd, C.rl, C.ro, C.per, C.ntc, C.grp, C.grr, C.nda, by
    obtain ⟨τ, T⟩ := C.tag
    exact ⟨τ, T.c, T.pl, T.nl, T.hd, T.rl, T.ro, T.gh, T.gr, T.per, T.ntc, fun x o h => T.base x o (l x o h)⟩⟩
/-- a cell of the base changes -/
theorem Cou.baseSet (C : Cou K m0 m A hv R N W hp rd rows) {p : Addr} {o o' : MO} (h : m0 p = some o) : Cou K (up m0 p o') (up m p o') A hv R N W hp rd rows := by
  obtain ⟨τ, T⟩ := C.tag
  have tp := T.base p o h
  have ne : ∀ {y : Addr}, τ y ≠ 8 → y ≠ p := fun h => kt (τ := τ) (by omega)
  have t0 := T.c
  have t1 := T.pl
  have t2 := T.nl
  have t3 := T.hd
  have t4 := T.rl
  have t5 := T.ro
  refine ⟨C.le.put, (up_ne (ne (by omega))).trans C.c, (up_ne (ne (by omega))).trans C.pl, (up_ne (ne (by omega))).trans C.nl, (up_ne (ne (by omega))).trans C.hd, (up_ne (ne (by omega))).trans C.rl, (up_ne (ne (by omega))).trans C.ro, fun i hi => ?_, fun j hj => ?_, fun e he => ?_, fun e he => ?_, C.nda, τ, T.c, T.pl, T.nl, T.hd, T.rl, T.ro, T.gh, T.gr, T.per, T.ntc, fun x u hx => ?_⟩
  · have t := T.per i hi
    exact ⟨(up_ne (ne (by omega))).trans (C.per i hi).1, (up_ne (ne (by omega))).trans (C.per i hi).2.1, (up_ne (ne (by omega))).trans (C.per i hi).2.2⟩
  · have t := T.ntc j hj
    exact ⟨(up_ne (ne (by omega))).trans (C.ntc j hj).1, (up_ne (ne (by omega))).trans (C.ntc j hj).2.1, (up_ne (ne (by omega))).trans (C.ntc j hj).2.2⟩
  · have t := T.gh e he
    exact (up_ne (ne (by omega))).trans (C.grp e he)
  · have t := T.gr e he
    exact (up_ne (ne (by omega))).trans (C.grr e he)
  · by_cases e : x = p
    · rw [e]; exact tp
    · rw [up_ne e] at hx; exact T.base x u hx
/-- a fresh cell joins the base -/
theorem Cou.local_ (C : Cou K m0 m A hv R N W hp rd rows) {p : Addr} {o : MO} (h : m p = none) : Cou K (up m0 p o) (up m p o) A hv R N W hp rd rows := by
  obtain ⟨τ, T⟩ := C.tag
  have ne : ∀ {y : Addr} {u : MO}, m y = some u → (fun x => if x = p then 8 else τ x) y = τ y := fun hy => if_neg (mne hy h)
  refine ⟨C.le.put, kp C.c h, kp C.pl h, kp C.nl h, kp C.hd h, kp C.rl h, kp C.ro h, fun i hi => ⟨kp (C.per i hi).1 h, kp (C.per i hi).2.1 h, kp (C.per i hi).2.2 h⟩, fun j hj => ⟨kp (C.ntc j hj).1 h, kp (C.ntc j hj).2.1 h, kp (C.ntc j hj).2.2 h⟩, fun e he => kp (C.grp e he) h, fun e he => kp (C.grr e he) h, C.nda, fun x => if x = p then 8 else τ x, (ne C.c).trans T.c, (ne C.pl).trans T.pl, (ne C.nl).trans T.nl, (ne C.hd).trans T.hd, (ne C.rl).trans T.rl, (ne C.ro).trans T.ro, fun e he => (ne (C.grp e he)).trans (T.gh e he), fun e he => (ne (C.grr e he)).trans (T.gr e he), fun i hi => ⟨(ne (C.per i hi).1).trans (T.per i hi).1, (ne (C.per i hi).2.1).trans (T.per i hi).2.1, (ne (C.per i hi).2.2).trans (T.per i hi).2.2⟩, fun j hj => ⟨(ne (C.ntc j hj).1).trans (T.ntc j hj).1, (ne (C.ntc j hj).2.1).trans (T.ntc j hj).2.1, (ne (C.ntc j hj).2.2).trans (T.ntc j hj).2.2⟩, fun x u hx => ?_⟩
  by_cases e : x = p
  · exact if_pos e
  · rw [up_ne e] at hx
    exact (if_neg e).trans (T.base x u hx)
/-- one cell of a notice changes -/
theorem Cou.setN (C : Cou K m0 m A hv R N W hp rd rows) {j : Nat} (hj : j < N.length) {y : NW} (h1 : y.went = (W j).went) (h2 : y.told = (W j).told) : Cou K m0 (up m (A.na j) (.ins (He.ga K "Notice") (ntcF j (Hn.ntc N j) y (A.nw j) (A.nt j)))) A hv R N (setW W j y) hp rd rows := by
  obtain ⟨τ, T⟩ := C.tag
  have tj := T.ntc j hj
  have ne : ∀ {y : Addr}, τ y ≠ 10 + 3 * j → y ≠ A.na j := fun h => kt (τ := τ) (by omega)
  have t0 := T.c
  have t1 := T.pl
  have t2 := T.nl
  have t3 := T.hd
  have t4 := T.rl
  have t5 := T.ro
  refine ⟨C.le.over (T.free (by omega)), (up_ne (ne (by omega))).trans C.c, (up_ne (ne (by omega))).trans C.pl, (up_ne (ne (by omega))).trans C.nl, (up_ne (ne (by omega))).trans C.hd, (up_ne (ne (by omega))).trans C.rl, (up_ne (ne (by omega))).trans C.ro, fun i hi => ?_, fun i hi => ?_, fun e he => ?_, fun e he => ?_, C.nda, τ, T⟩
  · have t := T.per i hi
    exact ⟨(up_ne (ne (by omega))).trans (C.per i hi).1, (up_ne (ne (by omega))).trans (C.per i hi).2.1, (up_ne (ne (by omega))).trans (C.per i hi).2.2⟩
  · have t := T.ntc i hi
    by_cases e : i = j
    · subst e
      rw [setW_same, h1, h2]
      exact ⟨up_same, (up_ne (ne (by omega))).trans (C.ntc i hi).2.1, (up_ne (ne (by omega))).trans (C.ntc i hi).2.2⟩
    · rw [setW_ne e]
      exact ⟨(up_ne (ne (by omega))).trans (C.ntc i hi).1, (up_ne (ne (by omega))).trans (C.ntc i hi).2.1, (up_ne (ne (by omega))).trans (C.ntc i hi).2.2⟩
  · have t := T.gh e he
    exact (up_ne (ne (by omega))).trans (C.grp e he)
  · have t := T.gr e he
    exact (up_ne (ne (by omega))).trans (C.grr e he)
theorem Cou.setWent (C : Cou K m0 m A hv R N W hp rd rows) {j : Nat} (hj : j < N.length) {y : NW} (h : y.rank = (W j).rank ∧ y.told = (W j).told ∧ y.due = (W j).due ∧ y.heard = (W j).heard ∧ y.gone = (W j).gone) : Cou K m0 (up m (A.nw j) (.lst (y.went.map .int))) A hv R N (setW W j y) hp rd rows := by
  obtain ⟨τ, T⟩ := C.tag
  have tj := T.ntc j hj
  have ne : ∀ {y : Addr}, τ y ≠ 11 + 3 * j → y ≠ A.nw j := fun h => kt (τ := τ) (by omega)
  have t0 := T.c
  have t1 := T.pl
  have t2 := T.nl
  have t3 := T.hd
  have t4 := T.rl
  have t5 := T.ro
  obtain ⟨h1, h2, h3, h4, h5⟩ := h
  have ef : ntcF j (Hn.ntc N j) y (A.nw j) (A.nt j) = ntcF j (Hn.ntc N j) (W j) (A.nw j) (A.nt j) := by unfold ntcF; rw [h1, h3, h4, h5]
  refine ⟨C.le.over (T.free (by omega)), (up_ne (ne (by omega))).trans C.c, (up_ne (ne (by omega))).trans C.pl, (up_ne (ne (by omega))).trans C.nl, (up_ne (ne (by omega))).trans C.hd, (up_ne (ne (by omega))).trans C.rl, (up_ne (ne (by omega))).trans C.ro, fun i hi => ?_, fun i hi => ?_, fun e he => ?_, fun e he => ?_, C.nda, τ, T⟩
  · have t := T.per i hi
    exact ⟨(up_ne (ne (by omega))).trans (C.per i hi).1, (up_ne (ne (by omega))).trans (C.per i hi).2.1, (up_ne (ne (by omega))).trans (C.per i hi).2.2⟩
  · have t := T.ntc i hi
    by_cases e : i = j
    · subst e
      rw [setW_same, ef, h2]
      exact ⟨(up_ne (ne (by omega))).trans (C.ntc i hi).1, up_same, (up_ne (ne (by omega))).trans (C.ntc i hi).2.2⟩
    · rw [setW_ne e]
      exact ⟨(up_ne (ne (by omega))).trans (C.ntc i hi).1, (up_ne (ne (by omega))).trans (C.ntc i hi).2.1, (up_ne (ne (by omega))).trans (C.ntc i hi).2.2⟩
  · have t := T.gh e he
    exact (up_ne (ne (by omega))).trans (C.grp e he)
  · have t := T.gr e he
    exact (up_ne (ne (by omega))).trans (C.grr e he)
theorem Cou.setTold (C : Cou K m0 m A hv R N W hp rd rows) {j : Nat} (hj : j < N.length) {y : NW} (h : y.rank = (W j).rank ∧ y.went = (W j).went ∧ y.due = (W j).due ∧ y.heard = (W j).heard ∧ y.gone = (W j).gone) : Cou K m0 (up m (A.nt j) (.lst (y.told.map .int))) A hv R N (setW W j y) hp rd rows := by
  obtain ⟨τ, T⟩ := C.tag
  have tj := T.ntc j hj
  have ne : ∀ {y : Addr}, τ y ≠ 12 + 3 * j → y ≠ A.nt j := fun h => kt (τ := τ) (by omega)
  have t0 := T.c
  have t1 := T.pl
  have t2 := T.nl
  have t3 := T.hd
  have t4 := T.rl
  have t5 := T.ro
  obtain ⟨h1, h2, h3, h4, h5⟩ := h
  have ef : ntcF j (Hn.ntc N j) y (A.nw j) (A.nt j) = ntcF j (Hn.ntc N j) (W j) (A.nw j) (A.nt j) := by unfold ntcF; rw [h1, h3, h4, h5]
  refine ⟨C.le.over (T.free (by omega)), (up_ne (ne (by omega))).trans C.c, (up_ne (ne (by omega))).trans C.pl, (up_ne (ne (by omega))).trans C.nl, (up_ne (ne (by omega))).trans C.hd, (up_ne (ne (by omega))).trans C.rl, (up_ne (ne (by omega))).trans C.ro, fun i hi => ?_, fun i hi => ?_, fun e he => ?_, fun e he => ?_, C.nda, τ, T⟩
  · have t := T.per i hi
    exact ⟨(up_ne (ne (by omega))).trans (C.per i hi).1, (up_ne (ne (by omega))).trans (C.per i hi).2.1, (up_ne (ne (by omega))).trans (C.per i hi).2.2⟩
  · have t := T.ntc i hi
    by_cases e : i = j
    · subst e
      rw [setW_same, ef, h2]
      exact ⟨(up_ne (ne (by omega))).trans (C.ntc i hi).1, (up_ne (ne (by omega))).trans (C.ntc i hi).2.1, up_same⟩
    · rw [setW_ne e]
      exact ⟨(up_ne (ne (by omega))).trans (C.ntc i hi).1, (up_ne (ne (by omega))).trans (C.ntc i hi).2.1, (up_ne (ne (by omega))).trans (C.ntc i hi).2.2⟩
  · have t := T.gh e he
    exact (up_ne (ne (by omega))).trans (C.grp e he)
  · have t := T.gr e he
    exact (up_ne (ne (by omega))).trans (C.grr e he)
theorem Cou.setRows (C : Cou K m0 m A hv R N W hp rd rows) (rows' : List RowT) : Cou K m0 (up m A.ro (.lst (rows'.map rowS))) A hv R N W hp rd rows' := by
  obtain ⟨τ, T⟩ := C.tag
  have ne : ∀ {y : Addr}, τ y ≠ 5 → y ≠ A.ro := fun h => kt (τ := τ) (by rw [T.ro]; omega)
  have t0 := T.c
  have t1 := T.pl
  have t2 := T.nl
  have t3 := T.hd
  have t4 := T.rl
  have t5 := T.ro
  refine ⟨C.le.over (T.free (by omega)), (up_ne (ne (by omega))).trans C.c, (up_ne (ne (by omega))).trans C.pl, (up_ne (ne (by omega))).trans C.nl, (up_ne (ne (by omega))).trans C.hd, (up_ne (ne (by omega))).trans C.rl, up_same, fun i hi => ?_, fun i hi => ?_, fun e he => ?_, fun e he => ?_, C.nda, τ, T⟩
  · have t := T.per i hi
    exact ⟨(up_ne (ne (by omega))).trans (C.per i hi).1, (up_ne (ne (by omega))).trans (C.per i hi).2.1, (up_ne (ne (by omega))).trans (C.per i hi).2.2⟩
  · have t := T.ntc i hi
    exact ⟨(up_ne (ne (by omega))).trans (C.ntc i hi).1, (up_ne (ne (by omega))).trans (C.ntc i hi).2.1, (up_ne (ne (by omega))).trans (C.ntc i hi).2.2⟩
  · have t := T.gh e he
    exact (up_ne (ne (by omega))).trans (C.grp e he)
  · have t := T.gr e he
    exact (up_ne (ne (by omega))).trans (C.grr e he)
end
end
end Hn

set_option Elab.async false
set_option linter.all false
set_option maxRecDepth 100000
set_option maxHeartbeats 8000000
namespace Hn
open PySem PySem.Spec PyProof.Rows L2 Sy Lm
section
variable {P : Program} {w : World} {K : PySem.W.Frag} {mg : Str → Option Value} {base : Heap}
local macro_rules | `(tactic| walk_at "r") => `(tactic| (conv => whnf))
local macro_rules | `(tactic| walk_at "sp") => `(tactic| (first | rfl | contradiction | exact (False.elim ‹_›)))
local macro_rules | `(tactic| walk_at "len") => `(tactic| (exact Nat.le_trans (show _ ≤ 100000 by first | (simp; done) | (rw [rngS_length]; decide)) (by decide)))
local macro_rules | `(tactic| walk_at "f") => `(tactic| (refine Br_i (fun hb => Bool.noConfusion (show false = true from hb)) (fun _ => ?_)))
local macro_rules | `(tactic| walk_at "t") => `(tactic| (refine Br_i (fun _ => ?_) (fun hb => Bool.noConfusion (show true = false from hb))))
local macro_rules | `(tactic| walk_at "le") => `(tactic| first | exact Le.refl _ | (refine Le.put ?_; walk_at "le") | (refine Le.new ?_ (by assumption); walk_at "le"))
section
variable {K : PySem.W.Frag} {m0 m : Mem} {A : CAd} {hv : SV} {R : List PR} {N : List NR} {W : WS} {hp : List HE} {rd : List RE} {rows : List RowT}
theorem Cou.reRd (C : Cou K m0 m A hv R N W hp rd rows) {rd' : List RE} {τ : Addr → Nat} (T : CTag m0 A R.length N.length hp rd' τ) (h : ∀ e ∈ rd', m e.ad = some (.lst (memS A e.ms))) (nd : (hp.map HE.ad ++ rd'.map RE.ad).Nodup) : Cou K m0 (up m A.rl (.lst (rd'.map RE.sv))) A hv R N W hp rd' rows := by
  have ne : ∀ {y : Addr}, τ y ≠ 4 → y ≠ A.rl := fun h => kt (τ := τ) (by rw [T.rl]; omega)
  have t0 := T.c
  have t1 := T.pl
  have t2 := T.nl
  have t3 := T.hd
  have t4 := T.rl
  have t5 := T.ro
  refine ⟨C.le.over (T.free (by omega)), (up_ne (ne (by omega))).trans C.c, (up_ne (ne (by omega))).trans C.pl, (up_ne (ne (by omega))).trans C.nl, (up_ne (ne (by omega))).trans C.hd, up_same, (up_ne (ne (by omega))).trans C.ro, fun i hi => ?_, fun i hi => ?_, fun e he => ?_, fun e he => ?_, nd, τ, T⟩
  · have t := T.per i hi
    exact ⟨(up_ne (ne (by omega))).trans (C.per i hi).1, (up_ne (ne (by omega))).trans (C.per i hi).2.1, (up_ne (ne (by omega))).trans (C.per i hi).2.2⟩
  · have t := T.ntc i hi
    exact ⟨(up_ne (ne (by omega))).trans (C.ntc i hi).1, (up_ne (ne (by omega))).trans (C.ntc i hi).2.1, (up_ne (ne (by omega))).trans (C.ntc i hi).2.2⟩
  · have t := T.gh e he
    exact (up_ne (ne (by omega))).trans (C.grp e he)
  · have t := T.gr e he
    exact (up_ne (ne (by omega))).trans (h e he)
theorem Cou.reHp (C : Cou K m0 m A hv R N W hp rd rows) {hp' : List HE} {τ : Addr → Nat} (T : CTag m0 A R.length N.length hp' rd τ) (h : ∀ e ∈ hp', m e.ad = some (.lst (memS A e.ms))) (nd : (hp'.map HE.ad ++ rd.map RE.ad).Nodup) : Cou K m0 (up m A.hd (.dT (hp'.map HE.kv))) A hv R N W hp' rd rows := by
  have ne : ∀ {y : Addr}, τ y ≠ 3 → y ≠ A.hd := fun h => kt (τ := τ) (by rw [T.hd]; omega)
  have t0 := T.c
  have t1 := T.pl
  have t2 := T.nl
  have t3 := T.hd
  have t4 := T.rl
  have t5 := T.ro
  refine ⟨C.le.over (T.free (by omega)), (up_ne (ne (by omega))).trans C.c, (up_ne (ne (by omega))).trans C.pl, (up_ne (ne (by omega))).trans C.nl, up_same, (up_ne (ne (by omega))).trans C.rl, (up_ne (ne (by omega))).trans C.ro, fun i hi => ?_, fun i hi => ?_, fun e he => ?_, fun e he => ?_, nd, τ, T⟩
  · have t := T.per i hi
    exact ⟨(up_ne (ne (by omega))).trans (C.per i hi).1, (up_ne (ne (by omega))).trans (C.per i hi).2.1, (up_ne (ne (by omega))).trans (C.per i hi).2.2⟩
  · have t := T.ntc i hi
    exact ⟨(up_ne (ne (by omega))).trans (C.ntc i hi).1, (up_ne (ne (by omega))).trans (C.ntc i hi).2.1, (up_ne (ne (by omega))).trans (C.ntc i hi).2.2⟩
  · have t := T.gh e he
    exact (up_ne (ne (by omega))).trans (h e he)
  · have t := T.gr e he
    exact (up_ne (ne (by omega))).trans (C.grr e he)
/-- tags with a fresh cell among the groups -/
theorem CTag.group {m0 m : Mem} {A : CAd} {np nn : Nat} {τ : Addr → Nat} (C : Cou K m0 m A hv R N W hp rd rows) (T : CTag m0 A R.length N.length hp rd τ) {p : Addr} (h : m p = none) : CTag m0 A R.length N.length hp rd (fun x => if x = p then 6 else τ x) := by
  have ne : ∀ {y : Addr} {u : MO}, m y = some u → (fun x => if x = p then 6 else τ x) y = τ y := fun hy => if_neg (mne hy h)
  exact ⟨(ne C.c).trans T.c, (ne C.pl).trans T.pl, (ne C.nl).trans T.nl, (ne C.hd).trans T.hd, (ne C.rl).trans T.rl, (ne C.ro).trans T.ro, fun e he => (ne (C.grp e he)).trans (T.gh e he), fun e he => (ne (C.grr e he)).trans (T.gr e he), fun i hi => ⟨(ne (C.per i hi).1).trans (T.per i hi).1, (ne (C.per i hi).2.1).trans (T.per i hi).2.1, (ne (C.per i hi).2.2).trans (T.per i hi).2.2⟩, fun j hj => ⟨(ne (C.ntc j hj).1).trans (T.ntc j hj).1, (ne (C.ntc j hj).2.1).trans (T.ntc j hj).2.1, (ne (C.ntc j hj).2.2).trans (T.ntc j hj).2.2⟩, fun x u hx => (if_neg (mne (C.le _ _ hx) h)).trans (T.base x u hx)⟩
theorem Cou.off (C : Cou K m0 m A hv R N W hp rd rows) {p : Addr} (h : m p = none) : (∀ e ∈ hp, e.ad ≠ p) ∧ ∀ e ∈ rd, e.ad ≠ p := ⟨fun e he => mne (C.grp e he) h, fun e he => mne (C.grr e he) h⟩
/-- what is ready gets a new entry -/
theorem Cou.addRd (C : Cou K m0 m A hv R N W hp rd rows) {e : RE} (h : m e.ad = none) : Cou K m0 (up (up m e.ad (.lst (memS A e.ms))) A.rl (.lst ((rd ++ [e]).map RE.sv))) A hv R N W hp (rd ++ [e]) rows := by
  obtain ⟨τ, T⟩ := C.tag
  have T1 := CTag.group (np := 0) (nn := 0) C T h
  obtain ⟨o1, o2⟩ := C.off h
  have C1 := C.mono (.new (o := .lst (memS A e.ms)) (.refl m) h)
  refine C1.reRd (τ := fun x => if x = e.ad then 6 else τ x) ⟨T1.c, T1.pl, T1.nl, T1.hd, T1.rl, T1.ro, T1.gh, fun f hf => ?_, T1.per, T1.ntc, T1.base⟩ (fun f hf => ?_) ?_
  · rcases List.mem_append.mp hf with hf | hf
    · exact T1.gr f hf
    · rw [List.mem_singleton.mp hf]; exact if_pos rfl
  · rcases List.mem_append.mp hf with hf | hf
    · exact C1.grr f hf
    · rw [List.mem_singleton.mp hf]; exact up_same
  · rw [List.map_append, ← List.append_assoc, List.nodup_append]
    refine ⟨C.nda, List.pairwise_singleton _ _, fun a ha b hb => ?_⟩
    rw [show b = e.ad from List.mem_singleton.mp hb]
    rcases List.mem_append.mp ha with ha | ha
    · obtain ⟨f, hf, rfl⟩ := List.mem_map.mp ha
      exact o1 f hf
    · obtain ⟨f, hf, rfl⟩ := List.mem_map.mp ha
      exact o2 f hf
/-- a heap is begun -/
theorem Cou.addHp (C : Cou K m0 m A hv R N W hp rd rows) {e : HE} (h : m e.ad = none) : Cou K m0 (up (up m e.ad (.lst (memS A e.ms))) A.hd (.dT ((hp ++ [e]).map HE.kv))) A hv R N W (hp ++ [e]) rd rows := by
  obtain ⟨τ, T⟩ := C.tag
  have T1 := CTag.group (np := 0) (nn := 0) C T h
  obtain ⟨o1, o2⟩ := C.off h
  have C1 := C.mono (.new (o := .lst (memS A e.ms)) (.refl m) h)
  refine C1.reHp (τ := fun x => if x = e.ad then 6 else τ x) ⟨T1.c, T1.pl, T1.nl, T1.hd, T1.rl, T1.ro, fun f hf => ?_, T1.gr, T1.per, T1.ntc, T1.base⟩ (fun f hf => ?_) ?_
  · rcases List.mem_append.mp hf with hf | hf
    · exact T1.gh f hf
    · rw [List.mem_singleton.mp hf]; exact if_pos rfl
  · rcases List.mem_append.mp hf with hf | hf
    · exact C1.grp f hf
    · rw [List.mem_singleton.mp hf]; exact up_same
  · have nd := C.nda
    rw [List.map_append, List.append_assoc]
    rw [List.nodup_append] at nd ⊢
    refine ⟨nd.1, ?_, fun a ha b hb => ?_⟩
    · show (e.ad :: rd.map RE.ad).Nodup
      refine List.nodup_cons.mpr ⟨fun z => ?_, nd.2.1⟩
      obtain ⟨f, hf, q⟩ := List.mem_map.mp z
      exact o2 f hf q
    · rcases List.mem_cons.mp (show b ∈ e.ad :: rd.map RE.ad from hb) with rfl | hb
      · obtain ⟨f, hf, rfl⟩ := List.mem_map.mp ha
        exact o1 f hf
      · exact nd.2.2 a ha b hb
/-- a heap's list grows -/
theorem Cou.grow {l r : List HE} {e : HE} (C : Cou K m0 m A hv R N W (l ++ e :: r) rd rows) (j : Nat) : Cou K m0 (up m e.ad (.lst (memS A (e.ms ++ [j])))) A hv R N W (l ++ ⟨e.per, e.kind, e.end_, e.ad, e.ms ++ [j]⟩ :: r) rd rows := by
  obtain ⟨τ, T⟩ := C.tag
  have me : e ∈ l ++ e :: r := by simp
  have te := T.gh e me
  have ne : ∀ {y : Addr}, τ y ≠ 6 → y ≠ e.ad := fun h => kt (τ := τ) (by omega)
  have t0 := T.c
  have t1 := T.pl
  have t2 := T.nl
  have t3 := T.hd
  have t4 := T.rl
  have t5 := T.ro
  have ads : (l ++ (⟨e.per, e.kind, e.end_, e.ad, e.ms ++ [j]⟩ : HE) :: r).map HE.ad = (l ++ e :: r).map HE.ad := by simp
  have kvs : (l ++ (⟨e.per, e.kind, e.end_, e.ad, e.ms ++ [j]⟩ : HE) :: r).map HE.kv = (l ++ e :: r).map HE.kv := by simp [HE.kv]
  have nd := C.nda
  have oth : ∀ f : HE, f ∈ l ∨ f ∈ r → f.ad ≠ e.ad := fun f hf => by
    rw [List.nodup_append] at nd
    have n1 := nd.1
    rw [List.map_append, List.map_cons, List.nodup_append] at n1
    obtain ⟨a1, a2, a3⟩ := n1
    rcases hf with hf | hf
    · exact a3 _ (List.mem_map_of_mem hf) _ List.mem_cons_self
    · exact fun z => (List.nodup_cons.mp a2).1 (by rw [← z]; exact List.mem_map_of_mem hf)
  have othr : ∀ f ∈ rd, f.ad ≠ e.ad := fun f hf z => by
    rw [List.nodup_append] at nd
    exact nd.2.2 e.ad (List.mem_map_of_mem me) f.ad (List.mem_map_of_mem hf) z.symm
  have mem : ∀ f, f ∈ l ++ (⟨e.per, e.kind, e.end_, e.ad, e.ms ++ [j]⟩ : HE) :: r → (f ∈ l ∨ f ∈ r) ∨ f = ⟨e.per, e.kind, e.end_, e.ad, e.ms ++ [j]⟩ := fun f hf => by
    rcases List.mem_append.mp hf with hf | hf
    · exact .inl (.inl hf)
    · rcases List.mem_cons.mp hf with hf | hf
      · exact .inr hf
      · exact .inl (.inr hf)
  have old : ∀ f, f ∈ l ∨ f ∈ r → f ∈ l ++ e :: r := fun f hf => by
    rcases hf with hf | hf
    · exact List.mem_append_left _ hf
    · exact List.mem_append_right _ (List.mem_cons_of_mem _ hf)
  refine ⟨C.le.over (T.free (by omega)), (up_ne (ne (by omega))).trans C.c, (up_ne (ne (by omega))).trans C.pl, (up_ne (ne (by omega))).trans C.nl, (up_ne (ne (by omega))).trans (by rw [kvs]; exact C.hd), (up_ne (ne (by omega))).trans C.rl, (up_ne (ne (by omega))).trans C.ro, fun i hi => ?_, fun i hi => ?_, fun f hf => ?_, fun f hf => ?_, by rw [ads]; exact C.nda, τ, T.c, T.pl, T.nl, T.hd, T.rl, T.ro, fun f hf => ?_, T.gr, T.per, T.ntc, T.base⟩
  · have t := T.per i hi
    exact ⟨(up_ne (ne (by omega))).trans (C.per i hi).1, (up_ne (ne (by omega))).trans (C.per i hi).2.1, (up_ne (ne (by omega))).trans (C.per i hi).2.2⟩
  · have t := T.ntc i hi
    exact ⟨(up_ne (ne (by omega))).trans (C.ntc i hi).1, (up_ne (ne (by omega))).trans (C.ntc i hi).2.1, (up_ne (ne (by omega))).trans (C.ntc i hi).2.2⟩
  · rcases mem f hf with hf | rfl
    · exact (up_ne (oth f hf)).trans (C.grp f (old f hf))
    · exact up_same
  · exact (up_ne (othr f hf)).trans (C.grr f hf)
  · rcases mem f hf with hf | rfl
    · exact T.gh f (old f hf)
    · exact te
def HE.re (e : HE) : RE := ⟨e.per, some e.kind, e.end_, e.ad, e.ms⟩
/-- a heap is shut -/
theorem Cou.shut {l r : List HE} {e : HE} (C : Cou K m0 m A hv R N W (l ++ e :: r) rd rows) : Cou K m0 (up (up m A.hd (.dT ((l ++ r).map HE.kv))) A.rl (.lst ((rd ++ [e.re]).map RE.sv))) A hv R N W (l ++ r) (rd ++ [e.re]) rows := by
  obtain ⟨τ, T⟩ := C.tag
  have me : e ∈ l ++ e :: r := by simp
  have sub : ∀ f, f ∈ l ++ r → f ∈ l ++ e :: r := fun f hf => by
    rcases List.mem_append.mp hf with hf | hf
    · exact List.mem_append_left _ hf
    · exact List.mem_append_right _ (List.mem_cons_of_mem _ hf)
  have nd := C.nda
  have pm : ((l ++ r).map HE.ad ++ (rd ++ [e.re]).map RE.ad).Perm ((l ++ e :: r).map HE.ad ++ rd.map RE.ad) := by
    simp only [List.map_append, List.map_cons, List.map_nil]
    have a1 : (l.map HE.ad ++ r.map HE.ad ++ (rd.map RE.ad ++ [e.re.ad])).Perm (e.re.ad :: (l.map HE.ad ++ r.map HE.ad ++ rd.map RE.ad)) := by
      rw [← List.append_assoc]
      exact List.perm_append_singleton _ _
    have a2 : (l.map HE.ad ++ e.ad :: r.map HE.ad ++ rd.map RE.ad).Perm (e.ad :: (l.map HE.ad ++ r.map HE.ad ++ rd.map RE.ad)) := by
      rw [List.append_assoc, List.append_assoc, List.cons_append]
      exact List.perm_middle
    exact a1.trans a2.symm
  have nd2 := pm.nodup_iff.mpr nd
  have nd1 : ((l ++ r).map HE.ad ++ rd.map RE.ad).Nodup := by
    rw [List.map_append (l₁ := rd), ← List.append_assoc] at nd2
    exact (List.nodup_append.mp nd2).1
  have C1 := C.reHp (hp' := l ++ r) ⟨T.c, T.pl, T.nl, T.hd, T.rl, T.ro, fun f hf => T.gh f (sub f hf), T.gr, T.per, T.ntc, T.base⟩ (fun f hf => C.grp f (sub f hf)) nd1
  refine C1.reRd (rd' := rd ++ [e.re]) (τ := τ) ⟨T.c, T.pl, T.nl, T.hd, T.rl, T.ro, fun f hf => T.gh f (sub f hf), fun f hf => ?_, T.per, T.ntc, T.base⟩ (fun f hf => ?_) nd2
  · rcases List.mem_append.mp hf with hf | hf
    · exact T.gr f hf
    · rw [List.mem_singleton.mp hf]; exact T.gh e me
  · rcases List.mem_append.mp hf with hf | hf
    · exact C1.grr f hf
    · rw [List.mem_singleton.mp hf]
      refine (up_ne (kt (τ := τ) ?_)).trans (C.grp e me)
      rw [show τ e.re.ad = 6 from T.gh e me, T.hd]
      decide
end
end
end Hn

set_option Elab.async false
set_option linter.all false
set_option maxRecDepth 100000
set_option maxHeartbeats 8000000
namespace Hn
open PySem PySem.Spec PyProof.Rows L2 Sy Lm
section
variable {P : Program} {w : World} {K : PySem.W.Frag} {mg : Str → Option Value} {base : Heap}
local macro_rules | `(tactic| walk_at "r") => `(tactic| (conv => whnf))
local macro_rules | `(tactic| walk_at "sp") => `(tactic| (first | rfl | contradiction | exact (False.elim ‹_›)))
local macro_rules | `(tactic| walk_at "len") => `(tactic| (exact Nat.le_trans (show _ ≤ 100000 by first | (simp; done) | (rw [rngS_length]; decide)) (by decide)))
local macro_rules | `(tactic| walk_at "f") => `(tactic| (refine Br_i (fun hb => Bool.noConfusion (show false = true from hb)) (fun _ => ?_)))
local macro_rules | `(tactic| walk_at "t") => `(tactic| (refine Br_i (fun _ => ?_) (fun hb => Bool.noConfusion (show true = false from hb))))
local macro_rules | `(tactic| walk_at "le") => `(tactic| first | exact Le.refl _ | (refine Le.put ?_; walk_at "le") | (refine Le.new ?_ (by assumption); walk_at "le"))
def Tg (m : Mem) (τ : Addr → Nat) (x : Addr) (o : MO) (k : Nat) : Prop := m x = some o ∧ τ x = k
def tset (τ : Addr → Nat) (p : Addr) (k : Nat) : Addr → Nat := fun x => if x = p then k else τ x
theorem Tg.new {m : Mem} {τ : Addr → Nat} {x p : Addr} {o o' : MO} {k k' : Nat} (h : Tg m τ x o k) (n : m p = none) : Tg (up m p o') (tset τ p k') x o k := ⟨kp h.1 n, (if_neg (mne h.1 n)).trans h.2⟩
theorem Tg.this {m : Mem} {τ : Addr → Nat} {p : Addr} {o : MO} {k : Nat} : Tg (up m p o) (tset τ p k) p o k := ⟨up_same, if_pos rfl⟩
theorem Tg.put {m : Mem} {τ : Addr → Nat} {x p : Addr} {o o' : MO} {k : Nat} (h : Tg m τ x o k) (n : τ p ≠ k) : Tg (up m p o') τ x o k := ⟨(up_ne (fun e => n (by rw [← e]; exact h.2))).trans h.1, h.2⟩
theorem Tg.set {m : Mem} {τ : Addr → Nat} {x : Addr} {o o' : MO} {k : Nat} (h : Tg m τ x o k) : Tg (up m x o') τ x o' k := ⟨up_same, h.2⟩
/-- a course that is being made -/
structure Bld (K : PySem.W.Frag) (m0 m : Mem) (τ : Addr → Nat) (R : List PR) (N : List NR) (A : CAd) (np nn : Nat) : Prop where
  base : ∀ x o, m0 x = some o → Tg m τ x o 8
  per : ∀ i, i < np → Tg m τ (A.pa i) (.ins (He.ga K "Person") (perF (pr R i) (A.ph i) (A.ps i))) 7 ∧ Tg m τ (A.ph i) (.lst ((hoursB (pr R i).hs).map .bl)) 7 ∧ Tg m τ (A.ps i) (.dK (gsD (pr R i).gs)) 7
  ntc : ∀ j, j < nn → Tg m τ (A.na j) (.ins (He.ga K "Notice") (ntcF j (ntc N j) (ini N j) (A.nw j) (A.nt j))) (10 + 3 * j) ∧ Tg m τ (A.nw j) (.lst []) (11 + 3 * j) ∧ Tg m τ (A.nt j) (.lst []) (12 + 3 * j)
section
variable {m0 m : Mem} {τ : Addr → Nat} {R : List PR} {N : List NR} {A : CAd} {np nn : Nat} {p : Addr} {o : MO} {k : Nat}
theorem Bld.new (B : Bld K m0 m τ R N A np nn) (n : m p = none) : Bld K m0 (up m p o) (tset τ p k) R N A np nn :=
  ⟨fun x u h => (B.base x u h).new n, fun i hi => ⟨(B.per i hi).1.new n, (B.per i hi).2.1.new n, (B.per i hi).2.2.new n⟩, fun j hj => ⟨(B.ntc j hj).1.new n, (B.ntc j hj).2.1.new n, (B.ntc j hj).2.2.new n⟩⟩
theorem Bld.put (B : Bld K m0 m τ R N A np nn) (h : τ p < 7 ∨ τ p = 9 ∨ 10 + 3 * nn ≤ τ p) : Bld K m0 (up m p o) τ R N A np nn :=
  ⟨fun x u h => (B.base x u h).put (by omega), fun i hi => ⟨(B.per i hi).1.put (by omega), (B.per i hi).2.1.put (by omega), (B.per i hi).2.2.put (by omega)⟩, fun j hj => ⟨(B.ntc j hj).1.put (by omega), (B.ntc j hj).2.1.put (by omega), (B.ntc j hj).2.2.put (by omega)⟩⟩
def adP (A : CAd) (i : Nat) (a h s : Addr) : CAd := ⟨A.c, A.pl, A.nl, A.hd, A.rl, A.ro, fun x => if x = i then a else A.pa x, fun x => if x = i then h else A.ph x, fun x => if x = i then s else A.ps x, A.na, A.nw, A.nt⟩
def adN (A : CAd) (j : Nat) (a w t : Addr) : CAd := ⟨A.c, A.pl, A.nl, A.hd, A.rl, A.ro, A.pa, A.ph, A.ps, fun x => if x = j then a else A.na x, fun x => if x = j then w else A.nw x, fun x => if x = j then t else A.nt x⟩
theorem Bld.addP (B : Bld K m0 m τ R N A np nn) {a h s : Addr} (h1 : Tg m τ a (.ins (He.ga K "Person") (perF (pr R np) h s)) 7) (h2 : Tg m τ h (.lst ((hoursB (pr R np).hs).map .bl)) 7) (h3 : Tg m τ s (.dK (gsD (pr R np).gs)) 7) : Bld K m0 m τ R N (adP A np a h s) (np + 1) nn :=
  ⟨B.base, fun i hi => by
    by_cases e : i = np
    · subst e
      simp only [adP, if_pos]
      exact ⟨h1, h2, h3⟩
    · simp only [adP, if_neg e]
      exact B.per i (by omega), B.ntc⟩
theorem Bld.addN (B : Bld K m0 m τ R N A np nn) {a w t : Addr} (h1 : Tg m τ a (.ins (He.ga K "Notice") (ntcF nn (Hn.ntc N nn) (ini N nn) w t)) (10 + 3 * nn)) (h2 : Tg m τ w (.lst []) (11 + 3 * nn)) (h3 : Tg m τ t (.lst []) (12 + 3 * nn)) : Bld K m0 m τ R N (adN A nn a w t) np (nn + 1) :=
  ⟨B.base, B.per, fun j hj => by
    by_cases e : j = nn
    · subst e
      simp only [adN, if_pos]
      exact ⟨h1, h2, h3⟩
    · simp only [adN, if_neg e]
      exact B.ntc j (by omega)⟩
/-- a person is made: the memory that its making leaves -/
theorem Bld.person (B : Bld K m0 m τ R N A np nn) {c l a h s : Addr} {oc ol : MO} {kc kl : Nat} (Tc : Tg m τ c oc kc) (Tl : Tg m τ l ol kl) (na : m a = none) (nh : up m a (.ins (He.ga K "Person") []) h = none) (ns : up m a (.ins (He.ga K "Person") []) s = none) (ne : h ≠ s) : ∃ τ', Bld K m0 (up (up (up (up m a (.ins (He.ga K "Person") [])) h (.lst ((hoursB (pr R np).hs).map .bl))) s (.dK (gsD (pr R np).gs))) a (.ins (He.ga K "Person") (perF (pr R np) h s))) τ' R N (adP A np a h s) (np + 1) nn ∧ Tg (up (up (up (up m a (.ins (He.ga K "Person") [])) h (.lst ((hoursB (pr R np).hs).map .bl))) s (.dK (gsD (pr R np).gs))) a (.ins (He.ga K "Person") (perF (pr R np) h s))) τ' c oc kc ∧ Tg (up (up (up (up m a (.ins (He.ga K "Person") [])) h (.lst ((hoursB (pr R np).hs).map .bl))) s (.dK (gsD (pr R np).gs))) a (.ins (He.ga K "Person") (perF (pr R np) h s))) τ' l ol kl := by
  have ha : h ≠ a := fun z => by rw [z, up_same] at nh; cases nh
  have sa : s ≠ a := fun z => by rw [z, up_same] at ns; cases ns
  have em : up (up (up (up m a (.ins (He.ga K "Person") [])) h (.lst ((hoursB (pr R np).hs).map .bl))) s (.dK (gsD (pr R np).gs))) a (.ins (He.ga K "Person") (perF (pr R np) h s)) = up (up (up m a (.ins (He.ga K "Person") (perF (pr R np) h s))) h (.lst ((hoursB (pr R np).hs).map .bl))) s (.dK (gsD (pr R np).gs)) := by
    rw [up_comm (a := s) (b := a) sa, up_comm (a := h) (b := a) ha, up_up]
  rw [em]
  rw [up_ne ha] at nh
  rw [up_ne sa] at ns
  have nh1 : up m a (.ins (He.ga K "Person") (perF (pr R np) h s)) h = none := by rw [up_ne ha]; exact nh
  have ns1 : up (up m a (.ins (He.ga K "Person") (perF (pr R np) h s))) h (.lst ((hoursB (pr R np).hs).map .bl)) s = none := by rw [up_ne (Ne.symm ne), up_ne sa]; exact ns
  refine ⟨tset (tset (tset τ a 7) h 7) s 7, (((B.new na).new nh1).new ns1).addP ((Tg.this.new nh1).new ns1) (Tg.this.new ns1) Tg.this, ((Tc.new na).new nh1).new ns1, ((Tl.new na).new nh1).new ns1⟩
theorem Bld.notice (B : Bld K m0 m τ R N A np nn) {c l q a w t : Addr} {oc ol oq : MO} {kc kl kq : Nat} (Tc : Tg m τ c oc kc) (Tl : Tg m τ l ol kl) (Tq : Tg m τ q oq kq) (na : m a = none) (nw : up m a (.ins (He.ga K "Notice") []) w = none) (nt : up m a (.ins (He.ga K "Notice") []) t = none) (ne : w ≠ t) : ∃ τ', Bld K m0 (up (up (up (up m a (.ins (He.ga K "Notice") [])) w (.lst [])) t (.lst [])) a (.ins (He.ga K "Notice") (ntcF nn (Hn.ntc N nn) (ini N nn) w t))) τ' R N (adN A nn a w t) np (nn + 1) ∧ Tg (up (up (up (up m a (.ins (He.ga K "Notice") [])) w (.lst [])) t (.lst [])) a (.ins (He.ga K "Notice") (ntcF nn (Hn.ntc N nn) (ini N nn) w t))) τ' c oc kc ∧ Tg (up (up (up (up m a (.ins (He.ga K "Notice") [])) w (.lst [])) t (.lst [])) a (.ins (He.ga K "Notice") (ntcF nn (Hn.ntc N nn) (ini N nn) w t))) τ' l ol kl ∧ Tg (up (up (up (up m a (.ins (He.ga K "Notice") [])) w (.lst [])) t (.lst [])) a (.ins (He.ga K "Notice") (ntcF nn (Hn.ntc N nn) (ini N nn) w t))) τ' q oq kq := by
  have wa : w ≠ a := fun z => by rw [z, up_same] at nw; cases nw
  have ta : t ≠ a := fun z => by rw [z, up_same] at nt; cases nt
  have em : up (up (up (up m a (.ins (He.ga K "Notice") [])) w (.lst [])) t (.lst [])) a (.ins (He.ga K "Notice") (ntcF nn (Hn.ntc N nn) (ini N nn) w t)) = up (up (up m a (.ins (He.ga K "Notice") (ntcF nn (Hn.ntc N nn) (ini N nn) w t))) w (.lst [])) t (.lst []) := by
    rw [up_comm (a := t) (b := a) ta, up_comm (a := w) (b := a) wa, up_up]
  rw [em]
  rw [up_ne wa] at nw
  rw [up_ne ta] at nt
  have nw1 : up m a (.ins (He.ga K "Notice") (ntcF nn (Hn.ntc N nn) (ini N nn) w t)) w = none := by rw [up_ne wa]; exact nw
  have nt1 : up (up m a (.ins (He.ga K "Notice") (ntcF nn (Hn.ntc N nn) (ini N nn) w t))) w (.lst []) t = none := by rw [up_ne (Ne.symm ne), up_ne ta]; exact nt
  exact ⟨tset (tset (tset τ a (10 + 3 * nn)) w (11 + 3 * nn)) t (12 + 3 * nn), (((B.new na).new nw1).new nt1).addN ((Tg.this.new nw1).new nt1) (Tg.this.new nt1) Tg.this, ((Tc.new na).new nw1).new nt1, ((Tl.new na).new nw1).new nt1, ((Tq.new na).new nw1).new nt1⟩
end
/-- the course, when all is made -/
theorem Bld.done {m0 m : Mem} {τ : Addr → Nat} {R : List PR} {N : List NR} {A : CAd} {hv : SV} {c pl nl hd rl ro : Addr} (B : Bld K m0 m τ R N A R.length N.length) (t0 : Tg m τ c (.ins (He.ga K "Course") [("persons", .ref pl), ("notices", .ref nl), ("hears", hv), ("heaps", .ref hd), ("ready", .ref rl), ("rows", .ref ro)]) 0)
    (t1 : Tg m τ pl (.lst ((List.range R.length).map fun i => .ref (A.pa i))) 1) (t2 : Tg m τ nl (.lst ((List.range N.length).map fun i => .ref (A.na i))) 2) (t3 : Tg m τ hd (.dT []) 3) (t4 : Tg m τ rl (.lst []) 4) (t5 : Tg m τ ro (.lst []) 5) : Cou K m0 m ⟨c, pl, nl, hd, rl, ro, A.pa, A.ph, A.ps, A.na, A.nw, A.nt⟩ hv R N (ini N) [] [] [] where
  le := fun x o h => (B.base x o h).1
  c := t0.1
  pl := t1.1
  nl := t2.1
  hd := t3.1
  rl := t4.1
  ro := t5.1
  per := fun i hi => ⟨(B.per i hi).1.1, (B.per i hi).2.1.1, (B.per i hi).2.2.1⟩
  ntc := fun j hj => ⟨(B.ntc j hj).1.1, (B.ntc j hj).2.1.1, (B.ntc j hj).2.2.1⟩
  grp := fun e h => nomatch h
  grr := fun e h => nomatch h
  nda := List.nodup_nil
  tag := ⟨τ, t0.2, t1.2, t2.2, t3.2, t4.2, t5.2, fun e h => (nomatch h), fun e h => (nomatch h), fun i hi => ⟨(B.per i hi).1.2, (B.per i hi).2.1.2, (B.per i hi).2.2.2⟩, fun j hj => ⟨(B.ntc j hj).1.2, (B.ntc j hj).2.1.2, (B.ntc j hj).2.2.2⟩, fun x o h => (B.base x o h).2⟩
def spCrsInit (K : PySem.W.Frag) : SpS := fun vs m _ S => ∃ (c a : Addr) (hv : SV) (R : List PR) (N : List NR) (m0 : Mem), vs = [.ref c, PV R, .ref a, hv] ∧ m = up m0 c (.ins (He.ga K "Course") []) ∧ m0 c = none ∧ m0 a = some (.lst (N.map NR.sv)) ∧ RulesOk R ∧ NtOk R N ∧ ∀ m' A, A.c = c → Cou K m0 m' A hv R N (ini N) [] [] [] → S .non m'
theorem map_snoc_range {α : Type} {f g : Nat → α} {n : Nat} (h : ∀ i, i < n → g i = f i) : (List.range (n + 1)).map g = (List.range n).map f ++ [g n] := by
  rw [List.range_succ, List.map_append]
  congr 1
  exact List.map_congr_left fun i hi => h i (List.mem_range.mp hi)
theorem pr_get {R : List PR} {i : Nat} (h : i < R.length) : pr R i = R[i] := by
  unfold pr
  rw [List.getD_eq_getElem?_getD, show ((i : Nat) : Int).toNat = i by omega, List.getElem?_eq_getElem h]
  rfl
local macro_rules | `(tactic| walk_at "fl") => `(tactic| (repeat (refine putS_step ?_)) <;> first | decide | simp)
def dfA : CAd := ⟨0, 0, 0, 0, 0, 0, fun _ => 0, fun _ => 0, fun _ => 0, fun _ => 0, fun _ => 0, fun _ => 0⟩
abbrev cf1 (p : Addr) : List (Str × SV) := [("persons", .ref p)]
abbrev cf2 (p p2 : Addr) (hv : SV) : List (Str × SV) := [("persons", .ref p), ("notices", .ref p2), ("hears", hv)]
abbrev cf3 (p p2 p3 : Addr) (hv : SV) : List (Str × SV) := [("persons", .ref p), ("notices", .ref p2), ("hears", hv), ("heaps", .ref p3)]
abbrev cf4 (p p2 p3 p4 : Addr) (hv : SV) : List (Str × SV) := [("persons", .ref p), ("notices", .ref p2), ("hears", hv), ("heaps", .ref p3), ("ready", .ref p4)]
abbrev cf5 (p p2 p3 p4 p5 : Addr) (hv : SV) : List (Str × SV) := [("persons", .ref p), ("notices", .ref p2), ("hears", hv), ("heaps", .ref p3), ("ready", .ref p4), ("rows", .ref p5)]
theorem ok_Course___init__ (T : Tx K mg) : FnOk P w K mg base CX0 6 (He.ma K (He.ga K "Course") "__init__") T.fd_Course___init__ ["self", "rules", "notices", "hears"] (lift K (spCrsInit K)) := by
  have G_Notice___init__ := ok_Notice___init__ (P := P) (w := w) (base := base) T
  have b_Notice___init__ := b_Notice___init__ T
  have G_Person___init__ := ok_Person___init__ (P := P) (w := w) (base := base) T
  have b_Person___init__ := b_Person___init__ T
  refine fn_syQ T.F_Course___init__ sc_Course___init__ (fun svs m SX Sv h => ?_) (fun cdv A outer s H E hr => ⟨_, _, (gss_cons (gs_fld T.c_Course T.n_Course_persons (gv 0) (ge_lc (own := [("row", 4)]) (by rfl) sc_Course___init__.nd (gi_seq (gv 1)) (blkOk_by (own := [("row", 4)]) (N := ["self", "rules", "notices", "hears", "row", "number"]) (sc := (defScope s_Course___init__)) (by decide +kernel)) (fun _ _ _ _ _ => (gg_name (i := 4) sc_Course___init__.nd rfl (.inl rfl))) (wp_name (by decide)) (fun _ _ _ _ _ => gts_nil) (fun _ _ _ _ _ => (ge_make T.mk_Person G_Person___init__ (hr) (by rfl) T.g_Person b_Person___init__ .nil (fun _ => .nil) pass0 (ga_cons (gv 4) ga_nil)))))
      (gss_cons (gs_fld T.c_Course T.n_Course_notices (gv 0) (ge_lc (own := [("number", 5), ("row", 4)]) (by rfl) sc_Course___init__.nd (gi_enumerate (by rfl) T.z_enumerate (ga_cons (gv 2) ga_nil)) (blkOk_by (own := [("number", 5), ("row", 4)]) (N := ["self", "rules", "notices", "hears", "row", "number"]) (sc := (defScope s_Course___init__)) (by decide +kernel)) (fun _ _ _ _ _ => (gg_tup 2 (by rfl) (ggs_cons (gg_name (i := 5) sc_Course___init__.nd rfl (.inl rfl)) (ggs_cons (gg_name (i := 4) sc_Course___init__.nd rfl (.inl rfl)) ggs_nil)))) (wp_tup (wps_cons (wp_name (by decide)) (wps_cons (wp_name (by decide)) wps_nil))) (fun _ _ _ _ _ => gts_nil) (fun _ _ _ _ _ => (ge_make T.mk_Notice G_Notice___init__ (hr.mono (by decide)) (by rfl) T.g_Notice b_Notice___init__ .nil (fun _ => .nil) pass0 (ga_cons (gv 5) (ga_cons (gv 4) ga_nil))))))
      (gss_cons (gs_fld T.c_Course T.n_Course_hears (gv 0) (gv 3))
      (gss_cons (gs_fld T.c_Course T.n_Course_heaps (gv 0) ge_dnewT)
      (gss_cons (gs_fld T.c_Course T.n_Course_ready (gv 0) (ge_lst ga_nil))
      (gss_one (gs_fld T.c_Course T.n_Course_rows (gv 0) (ge_lst ga_nil)))))))), fun svs m SX Sv h => ?_⟩)
  · obtain ⟨c, a, hv, R, N, m0, rfl, _⟩ := h
    rfl
  · obtain ⟨c, a, hv, R, N, m0, rfl, rfl, hc, ha, ok, no, q⟩ := h
    have h6 := ok.six
    have h30 := no.len
    have ca : a ≠ c := mne ha hc
    have B0 : Bld K m0 (up m0 c (.ins (He.ga K "Course") [])) (tset (fun _ => 8) c 0) R N dfA 0 0 := ⟨fun x o h => ⟨kp h hc, if_neg (mne h hc)⟩, fun i hi => absurd hi (Nat.not_lt_zero _), fun i hi => absurd hi (Nat.not_lt_zero _)⟩
    walk_at "r"
    refine ⟨_, rfl, by rw [List.length_map]; exact line_le (by omega), fun p hp => ?_⟩
    refine lc_inv (fun r acc m' => ∃ (τ : Addr → Nat) (A : CAd) (k : Nat), k ≤ R.length ∧ r = (R.drop k).map PR.pv ∧ acc = (List.range k).map (fun i => SV.ref (A.pa i)) ∧ Bld K m0 m' τ R N A k 0 ∧ Tg m' τ c (.ins (He.ga K "Course") []) 0 ∧ Tg m' τ p (.lst acc) 1) ⟨tset (tset (fun _ => 8) c 0) p 1, dfA, 0, Nat.zero_le _, rfl, rfl, B0.new hp, Tg.this.new hp, Tg.this⟩ (fun x r acc m' h => ?_) (fun acc m' h => ?_)
    · obtain ⟨τ, A, k, hk, hr, ea, B, Tc, Tp⟩ := h
      cases hd : R.drop k with
      | nil => rw [hd] at hr; cases hr
      | cons z zs =>
        obtain ⟨hz, hd2⟩ := drop_cons' hd
        have hk2 := (List.getElem?_eq_some_iff.mp hz).1
        have ez : z = pr R k := by
          rw [pr_get hk2]
          exact ((List.getElem?_eq_some_iff.mp hz).2).symm
        rw [hd, List.map_cons] at hr
        obtain ⟨rfl, rfl⟩ := List.cons.inj hr
        refine ⟨trivial, ?_⟩
        walk_at "r"
        walk_at "t"
        walk_at "r"
        intro p2 hp2
        refine ⟨p2, z, R.length, rfl, up_same, ok.all z (List.mem_of_getElem? hz), fun h s nh ns ne => ⟨rfl, ?_⟩⟩
        rw [ez]
        obtain ⟨τ', B', Tc', Tp'⟩ := B.person (np := k) Tc Tp hp2 nh ns ne
        refine ⟨Tp'.1, .of ⟨τ', adP A k p2 h s, k + 1, hk2, by rw [hd2], ?_, B'.put (by rw [Tp'.2]; omega), Tc'.put (by rw [Tp'.2]; omega), Tp'.set⟩⟩
        rw [map_snoc_range (f := fun i => SV.ref (A.pa i)) (fun i hi => by simp only [adP, if_neg (Nat.ne_of_lt hi)]), ← ea]
        simp only [adP, if_pos]
    · obtain ⟨τ, A, k, hk, hr, ea, B, Tc, Tp⟩ := h
      have hk : k = R.length := by
        have := congrArg List.length hr
        simp at this
        omega
      subst hk
      subst ea
      refine ⟨trivial, ?_⟩
      walk_at "r"
      refine ⟨_, Tc.1, by walk_at "fl", ?_⟩
      have B := B.put (p := c) (o := .ins (He.ga K "Course") (cf1 p)) (by rw [Tc.2]; omega)
      have Tp := Tp.put (p := c) (o' := .ins (He.ga K "Course") (cf1 p)) (by rw [Tc.2]; omega)
      have Tc := Tc.set (o' := .ins (He.ga K "Course") (cf1 p))
      have e1 : putS ("persons" : Str) (SV.ref p) [] = (cf1 p) := rfl
      rw [e1]
      generalize up m' c (.ins (He.ga K "Course") (cf1 p)) = m1 at *
      clear hp B0
      walk_at "r"
      refine ⟨_, (B.base _ _ ha).1, by rw [enS_len, List.length_map]; exact line_le (by omega), fun p2 hp2 => ?_⟩
      refine lc_inv (fun r acc m' => ∃ (τ : Addr → Nat) (A : CAd) (k : Nat), k ≤ N.length ∧ r = enS k ((N.drop k).map NR.sv) ∧ acc = (List.range k).map (fun i => SV.ref (A.na i)) ∧ Bld K m0 m' τ R N A R.length k ∧ Tg m' τ c (.ins (He.ga K "Course") (cf1 p)) 0 ∧ Tg m' τ p (.lst ((List.range R.length).map fun i => SV.ref (A.pa i))) 1 ∧ Tg m' τ p2 (.lst acc) 2) ⟨tset τ p2 2, A, 0, Nat.zero_le _, rfl, rfl, B.new hp2, Tc.new hp2, Tp.new hp2, Tg.this⟩ (fun x r acc m' h => ?_) (fun acc m' h => ?_)
      · obtain ⟨τ, A, k, hk, hr, ea, B, Tc, Tp, Tq⟩ := h
        cases hd : N.drop k with
        | nil => rw [hd] at hr; cases hr
        | cons z zs =>
          obtain ⟨hz, hd2⟩ := drop_cons' hd
          have hk2 := (List.getElem?_eq_some_iff.mp hz).1
          have ez : z = ntc N k := by
            rw [ntc_get hk2]
            exact ((List.getElem?_eq_some_iff.mp hz).2).symm
          rw [hd, List.map_cons, enS_cons] at hr
          obtain ⟨rfl, rfl⟩ := List.cons.inj hr
          refine ⟨(B.base _ _ ha).1, ?_⟩
          walk_at "r"
          refine ⟨rfl, ?_⟩
          walk_at "r"
          walk_at "t"
          walk_at "r"
          intro p3 hp3
          refine ⟨p3, k, N, by rw [ez]; rfl, up_same, fun w t nw nt ne => ⟨rfl, ?_⟩⟩
          obtain ⟨τ', B', Tc', Tp', Tq'⟩ := B.notice (nn := k) Tc Tp Tq hp3 nw nt ne
          refine ⟨Tq'.1, .of ⟨τ', adN A k p3 w t, k + 1, hk2, by rw [hd2]; push_cast; rfl, ?_, B'.put (by rw [Tq'.2]; omega), Tc'.put (by rw [Tq'.2]; omega), Tp'.put (by rw [Tq'.2]; omega), Tq'.set⟩⟩
          rw [map_snoc_range (f := fun i => SV.ref (A.na i)) (fun i hi => by simp only [adN, if_neg (Nat.ne_of_lt hi)]), ← ea]
          simp only [adN, if_pos]
      · obtain ⟨τ, A, k, hk, hr, ea, B, Tc, Tp, Tq⟩ := h
        have hk : k = N.length := by
          have := congrArg List.length hr
          rw [enS_len] at this
          simp at this
          omega
        subst hk
        subst ea
        refine ⟨(B.base _ _ ha).1, ?_⟩
        walk_at "r"
        refine ⟨_, Tc.1, by walk_at "fl", ?_⟩
        walk_at "r"
        refine ⟨_, up_same, by walk_at "fl", ?_⟩
        rw [up_up]
        have e1 : putS ("hears" : Str) hv (putS ("notices" : Str) (SV.ref p2) (cf1 p)) = (cf2 p p2 hv) := rfl
        rw [e1]
        have B := B.put (p := c) (o := .ins (He.ga K "Course") (cf2 p p2 hv)) (by rw [Tc.2]; omega)
        have Tp := Tp.put (p := c) (o' := .ins (He.ga K "Course") (cf2 p p2 hv)) (by rw [Tc.2]; omega)
        have Tq := Tq.put (p := c) (o' := .ins (He.ga K "Course") (cf2 p p2 hv)) (by rw [Tc.2]; omega)
        have Tc := Tc.set (o' := .ins (He.ga K "Course") (cf2 p p2 hv))
        generalize up m' c (.ins (He.ga K "Course") (cf2 p p2 hv)) = m2 at *
        walk_at "r"
        intro p3 h3
        have B := B.new (o := .dT []) (k := 3) h3
        have Tc := Tc.new (o' := .dT []) (k' := 3) h3
        have Tp := Tp.new (o' := .dT []) (k' := 3) h3
        have Tq := Tq.new (o' := .dT []) (k' := 3) h3
        have T3 : Tg (up m2 p3 (.dT [])) (tset τ p3 3) p3 (.dT []) 3 := Tg.this
        generalize up m2 p3 (.dT []) = m3 at *
        generalize tset τ p3 3 = τ3 at *
        walk_at "r"
        refine ⟨_, Tc.1, by walk_at "fl", ?_⟩
        have e2 : putS ("heaps" : Str) (SV.ref p3) (cf2 p p2 hv) = (cf3 p p2 p3 hv) := rfl
        rw [e2]
        have B := B.put (p := c) (o := .ins (He.ga K "Course") (cf3 p p2 p3 hv)) (by rw [Tc.2]; omega)
        have Tp := Tp.put (p := c) (o' := .ins (He.ga K "Course") (cf3 p p2 p3 hv)) (by rw [Tc.2]; omega)
        have Tq := Tq.put (p := c) (o' := .ins (He.ga K "Course") (cf3 p p2 p3 hv)) (by rw [Tc.2]; omega)
        have T3 := T3.put (p := c) (o' := .ins (He.ga K "Course") (cf3 p p2 p3 hv)) (by rw [Tc.2]; omega)
        have Tc := Tc.set (o' := .ins (He.ga K "Course") (cf3 p p2 p3 hv))
        generalize up m3 c (.ins (He.ga K "Course") (cf3 p p2 p3 hv)) = m4 at *
        walk_at "r"
        refine ⟨by walk_at "len", fun p4 h4 => ?_⟩
        have B := B.new (o := .lst []) (k := 4) h4
        have Tc := Tc.new (o' := .lst []) (k' := 4) h4
        have Tp := Tp.new (o' := .lst []) (k' := 4) h4
        have Tq := Tq.new (o' := .lst []) (k' := 4) h4
        have T3 := T3.new (o' := .lst []) (k' := 4) h4
        have T4 : Tg (up m4 p4 (.lst [])) (tset τ3 p4 4) p4 (.lst []) 4 := Tg.this
        generalize up m4 p4 (.lst []) = m5 at *
        generalize tset τ3 p4 4 = τ4 at *
        walk_at "r"
        refine ⟨_, Tc.1, by walk_at "fl", ?_⟩
        have e3 : putS ("ready" : Str) (SV.ref p4) (cf3 p p2 p3 hv) = (cf4 p p2 p3 p4 hv) := rfl
        rw [e3]
        have B := B.put (p := c) (o := .ins (He.ga K "Course") (cf4 p p2 p3 p4 hv)) (by rw [Tc.2]; omega)
        have Tp := Tp.put (p := c) (o' := .ins (He.ga K "Course") (cf4 p p2 p3 p4 hv)) (by rw [Tc.2]; omega)
        have Tq := Tq.put (p := c) (o' := .ins (He.ga K "Course") (cf4 p p2 p3 p4 hv)) (by rw [Tc.2]; omega)
        have T3 := T3.put (p := c) (o' := .ins (He.ga K "Course") (cf4 p p2 p3 p4 hv)) (by rw [Tc.2]; omega)
        have T4 := T4.put (p := c) (o' := .ins (He.ga K "Course") (cf4 p p2 p3 p4 hv)) (by rw [Tc.2]; omega)
        have Tc := Tc.set (o' := .ins (He.ga K "Course") (cf4 p p2 p3 p4 hv))
        generalize up m5 c (.ins (He.ga K "Course") (cf4 p p2 p3 p4 hv)) = m6 at *
        walk_at "r"
        refine ⟨by walk_at "len", fun p5 h5 => ?_⟩
        have B := B.new (o := .lst []) (k := 5) h5
        have Tc := Tc.new (o' := .lst []) (k' := 5) h5
        have Tp := Tp.new (o' := .lst []) (k' := 5) h5
        have Tq := Tq.new (o' := .lst []) (k' := 5) h5
        have T3 := T3.new (o' := .lst []) (k' := 5) h5
        have T4 := T4.new (o' := .lst []) (k' := 5) h5
        have T5 : Tg (up m6 p5 (.lst [])) (tset τ4 p5 5) p5 (.lst []) 5 := Tg.this
        generalize up m6 p5 (.lst []) = m7 at *
        generalize tset τ4 p5 5 = τ5 at *
        walk_at "r"
        refine ⟨_, Tc.1, by walk_at "fl", ?_⟩
        have e4 : putS ("rows" : Str) (SV.ref p5) (cf4 p p2 p3 p4 hv) = (cf5 p p2 p3 p4 p5 hv) := rfl
        rw [e4]
        have B := B.put (p := c) (o := .ins (He.ga K "Course") (cf5 p p2 p3 p4 p5 hv)) (by rw [Tc.2]; omega)
        have Tp := Tp.put (p := c) (o' := .ins (He.ga K "Course") (cf5 p p2 p3 p4 p5 hv)) (by rw [Tc.2]; omega)
        have Tq := Tq.put (p := c) (o' := .ins (He.ga K "Course") (cf5 p p2 p3 p4 p5 hv)) (by rw [Tc.2]; omega)
        have T3 := T3.put (p := c) (o' := .ins (He.ga K "Course") (cf5 p p2 p3 p4 p5 hv)) (by rw [Tc.2]; omega)
        have T4 := T4.put (p := c) (o' := .ins (He.ga K "Course") (cf5 p p2 p3 p4 p5 hv)) (by rw [Tc.2]; omega)
        have T5 := T5.put (p := c) (o' := .ins (He.ga K "Course") (cf5 p p2 p3 p4 p5 hv)) (by rw [Tc.2]; omega)
        have Tc := Tc.set (o' := .ins (He.ga K "Course") (cf5 p p2 p3 p4 p5 hv))
        exact .of (q _ _ rfl (B.done Tc Tp Tq T3 T4 T5))
end
end Hn

set_option Elab.async false
set_option linter.all false
set_option maxRecDepth 100000
set_option maxHeartbeats 8000000
namespace Hn
open PySem PySem.Spec PyProof.Rows L2 Sy Lm
section
variable {P : Program} {w : World} {K : PySem.W.Frag} {mg : Str → Option Value} {base : Heap}
local macro_rules | `(tactic| walk_at "r") => `(tactic| (conv => whnf))
local macro_rules | `(tactic| walk_at "sp") => `(tactic| (first | rfl | contradiction | exact (False.elim ‹_›)))
local macro_rules | `(tactic| walk_at "len") => `(tactic| (exact Nat.le_trans (show _ ≤ 100000 by first | (simp; done) | (rw [rngS_length]; decide)) (by decide)))
local macro_rules | `(tactic| walk_at "f") => `(tactic| (refine Br_i (fun hb => Bool.noConfusion (show false = true from hb)) (fun _ => ?_)))
local macro_rules | `(tactic| walk_at "t") => `(tactic| (refine Br_i (fun _ => ?_) (fun hb => Bool.noConfusion (show true = false from hb))))
local macro_rules | `(tactic| walk_at "le") => `(tactic| first | exact Le.refl _ | (refine Le.put ?_; walk_at "le") | (refine Le.new ?_ (by assumption); walk_at "le"))
section
variable {j : Nat} {x : NR} {y : NW} {w t : Addr}
theorem nf_number : (ntcF j x y w t).lookup ("number" : Str) = some (.int j) := by kernel_rfl
theorem nf_first : (ntcF j x y w t).lookup ("first" : Str) = some (.int x.per) := by kernel_rfl
theorem nf_rank : (ntcF j x y w t).lookup ("rank" : Str) = some (.int y.rank) := by kernel_rfl
theorem nf_kind : (ntcF j x y w t).lookup ("kind" : Str) = some (.int x.kind) := by kernel_rfl
theorem nf_born : (ntcF j x y w t).lookup ("born" : Str) = some (.int x.born) := by kernel_rfl
theorem nf_went : (ntcF j x y w t).lookup ("went" : Str) = some (.ref w) := by kernel_rfl
theorem nf_told : (ntcF j x y w t).lookup ("told" : Str) = some (.ref t) := by kernel_rfl
theorem nf_goes : (ntcF j x y w t).lookup ("goes_on" : Str) = some (optV y.due) := by kernel_rfl
theorem nf_heard : (ntcF j x y w t).lookup ("heard" : Str) = some (hrdV y.heard) := by kernel_rfl
theorem nf_gone : (ntcF j x y w t).lookup ("given_up" : Str) = some (.bl y.gone) := by kernel_rfl
theorem np_goes {d : Option Int} : putS ("goes_on" : Str) (optV d) (ntcF j x y w t) = ntcF j x ⟨y.rank, y.went, y.told, d, y.heard, y.gone, y.place⟩ w t := by kernel_rfl
theorem np_heard {d : Option (Int × Int)} : putS ("heard" : Str) (hrdV d) (ntcF j x y w t) = ntcF j x ⟨y.rank, y.went, y.told, y.due, d, y.gone, y.place⟩ w t := by kernel_rfl
theorem np_gone {d : Bool} : putS ("given_up" : Str) (.bl d) (ntcF j x y w t) = ntcF j x ⟨y.rank, y.went, y.told, y.due, y.heard, d, y.place⟩ w t := by kernel_rfl
theorem np_rank {d : Int} : putS ("rank" : Str) (.int d) (ntcF j x y w t) = ntcF j x ⟨d, y.went, y.told, y.due, y.heard, y.gone, y.place⟩ w t := by kernel_rfl
theorem nf_len : (ntcF j x y w t).length < 1000 := (by decide : 10 < 1000)
end
section
variable {A : CAd} {hv : SV}
theorem cr_persons : (crsF A hv).lookup ("persons" : Str) = some (.ref A.pl) := by kernel_rfl
theorem cr_notices : (crsF A hv).lookup ("notices" : Str) = some (.ref A.nl) := by kernel_rfl
theorem cr_hears : (crsF A hv).lookup ("hears" : Str) = some hv := by kernel_rfl
theorem cr_heaps : (crsF A hv).lookup ("heaps" : Str) = some (.ref A.hd) := by kernel_rfl
theorem cr_ready : (crsF A hv).lookup ("ready" : Str) = some (.ref A.rl) := by kernel_rfl
theorem cr_rows : (crsF A hv).lookup ("rows" : Str) = some (.ref A.ro) := by kernel_rfl
theorem cr_tell : (crsF A hv).lookup ("tell" : Str) = none := by kernel_rfl
theorem cr_bring : (crsF A hv).lookup ("bring" : Str) = none := by kernel_rfl
theorem cr_send : (crsF A hv).lookup ("send_on" : Str) = none := by kernel_rfl
theorem cr_take : (crsF A hv).lookup ("take_hears" : Str) = none := by kernel_rfl
theorem cr_shut : (crsF A hv).lookup ("shut_heaps" : Str) = none := by kernel_rfl
theorem cr_tellr : (crsF A hv).lookup ("tell_ready" : Str) = none := by kernel_rfl
theorem cr_out : (crsF A hv).lookup ("outcome" : Str) = none := by kernel_rfl
end
theorem pl_at {A : CAd} {n : Nat} {p : Int} (h : 0 ≤ p ∧ p < n) : atI ((List.range n).map fun i => SV.ref (A.pa i)) p = some (.ref (A.pa p.toNat)) := by
  obtain ⟨i, rfl⟩ : ∃ i : Nat, p = (i : Int) := ⟨p.toNat, by omega⟩
  refine atI_nat ?_
  rw [List.getElem?_map, List.getElem?_range (by omega)]
  rfl
theorem nl_at {A : CAd} {n : Nat} {p : Int} (h : 0 ≤ p ∧ p < n) : atI ((List.range n).map fun i => SV.ref (A.na i)) p = some (.ref (A.na p.toNat)) := by
  obtain ⟨i, rfl⟩ : ∃ i : Nat, p = (i : Int) := ⟨p.toNat, by omega⟩
  refine atI_nat ?_
  rw [List.getElem?_map, List.getElem?_range (by omega)]
  rfl
theorem cast_toNat {p : Int} (h : 0 ≤ p) : ((p.toNat : Nat) : Int) = p := by omega
/-- the notices of ms are told, by one person -/
def tellMs (R : List PR) (t p : Int) (ms : List Nat) (W : WS) : WS := fun j => if j ∈ ms then tell1 R t p (W j) else W j
theorem tellMs_nil {R : List PR} {t p : Int} {W : WS} : tellMs R t p [] W = W := by funext j; exact if_neg (List.not_mem_nil)
theorem tellMs_snoc {R : List PR} {t p : Int} {ms : List Nat} {j : Nat} {W : WS} (h : j ∉ ms) : tellMs R t p (ms ++ [j]) W = setW (tellMs R t p ms W) j (tell1 R t p (tellMs R t p ms W j)) := by
  funext i
  unfold tellMs setW
  by_cases e : i = j
  · subst e
    rw [if_pos rfl, if_pos (by simp), if_neg h]
  · rw [if_neg e]
    show (if i ∈ ms ++ [j] then tell1 R t p (W i) else W i) = if i ∈ ms then tell1 R t p (W i) else W i
    by_cases q : i ∈ ms
    · rw [if_pos q, if_pos (by simp [q])]
    · rw [if_neg q, if_neg (by simp [q, e])]
def spTell (K : PySem.W.Frag) : SpS := fun vs m _ S => ∃ (m0 : Mem) (A : CAd) (hv : SV) (R : List PR) (N : List NR) (W : WS) (hp : List HE) (rd : List RE) (rows : List RowT) (g : Addr) (ms : List Nat) (p t : Int), vs = [.ref A.c, .ref g, .int p, .int t] ∧ Cou K m0 m A hv R N W hp rd rows ∧ m0 g = some (.lst (memS A ms)) ∧ ms.Nodup ∧ (∀ j ∈ ms, j < N.length) ∧ (0 ≤ p ∧ p < R.length) ∧ N.length ≤ 30 ∧ rows.length ≤ 90000 ∧ (∀ j ∈ ms, (W j).told.length ≤ 1000) ∧
  ∀ m', Cou K m0 m' A hv R N (tellMs R t p ms W) hp rd (rows ++ [(t, p, srtI (natI ms))]) → S .non m'
theorem memS_snoc {A : CAd} {a : List Nat} {j : Nat} : memS A (a ++ [j]) = memS A a ++ [.ref (A.na j)] := by unfold memS; rw [List.map_append]; rfl
theorem memS_len {A : CAd} {a : List Nat} : (memS A a).length = a.length := by unfold memS; rw [List.length_map]
theorem ok_Course_tell (T : Tx K mg) : FnOk P w K mg base CX0 1 (He.ma K (He.ga K "Course") "tell") T.fd_Course_tell ["self", "notices", "person", "moment"] (lift K (spTell K)) := by
  refine fn_syQ T.F_Course_tell sc_Course_tell (fun svs m SX Sv h => ?_) (fun cdv A outer s H E hr => ⟨_, _, (gss_cons (gs_set (i := 4) sc_Course_tell.nd rfl (.inl rfl) (ge_callB (cr_sortInts K) sim_sortInts (by rfl) T.z_sorted (by decide +kernel) (ga_cons (ge_lc (own := [("notice", 5)]) (by rfl) sc_Course_tell.nd (gi_seq (gv 1)) (blkOk_by (own := [("notice", 5)]) (N := ["self", "notices", "person", "moment", "numbers", "notice", "wait"]) (sc := (defScope s_Course_tell)) (by decide +kernel)) (fun _ _ _ _ _ => (gg_name (i := 5) sc_Course_tell.nd rfl (.inl rfl))) (wp_name (by decide)) (fun _ _ _ _ _ => gts_nil) (fun _ _ _ _ _ => (ge_fld T.c_Notice T.n_Notice_number (gv 5)))) ga_nil)))
      (gss_cons (gs_expr (ge_bm PySem.F.plainAttrs_list PySem.F.slot_list_append PySem.F.type_list_append mt_append simk_L sim_append (ge_fld T.c_Course T.n_Course_rows (gv 0)) (ga_cons (ge_tup (ga_cons (gv 3) (ga_cons (gv 2) (ga_cons (ge_callTy (cr_tup K) sim_tupOf (by rfl) T.z_tuple (by decide +kernel) (ga_cons (gv 4) ga_nil)) ga_nil)))) ga_nil)))
      (gss_cons (gs_set (i := 6) sc_Course_tell.nd rfl (.inl rfl) (ge_fld T.c_Person T.n_Person_wait (ge_ix (ix_G K) sim_ix (ge_fld T.c_Course T.n_Course_persons (gv 0)) (gv 2) (fun _ _ => rfl))))
      (gss_one (gs_for PassesOwn.never rfl (gi_seq (gv 1)) (gg_name (i := 5) sc_Course_tell.nd rfl (.inl rfl))
      (gss_cons (gs_expr (ge_bm PySem.F.plainAttrs_list PySem.F.slot_list_append PySem.F.type_list_append mt_append simk_L sim_append (ge_fld T.c_Notice T.n_Notice_told (gv 5)) (ga_cons (gv 2) ga_nil)))
      (gss_one (gs_if (gt_cmp op_notN sim_notN (gv 6) ge_non (nomark _)) (gss_one (gs_fld T.c_Notice T.n_Notice_goes_on (gv 5) (ge_op (op_addG K) sim_add (gv 3) (gv 6)))) gss_nil)))))))), fun svs m SX Sv h => ?_⟩)
  · obtain ⟨m0, A, hv, R, N, W, hp, rd, rows, g, ms, p, t, rfl, _⟩ := h
    rfl
  · obtain ⟨m0, A, hv, R, N, W, hp, rd, rows, g, ms, p, t, rfl, C, hg, nd, lt, hp0, n30, rl, tl, q⟩ := h
    have msl : ms.length ≤ 30 := Nat.le_trans (nod_few' _ ms nd lt) n30
    walk_at "r"
    refine ⟨_, C.le _ _ hg, by rw [memS_len]; exact line_le (by omega), fun l hl => ?_⟩
    refine lc_inv (fun r acc m' => m' = up m l (.lst acc) ∧ ∃ a b, a ++ b = ms ∧ r = memS A b ∧ acc = (natI a).map .int) ⟨rfl, [], ms, rfl, rfl, rfl⟩ (fun x r acc m' h => ?_) (fun acc m' h => ?_)
    · obtain ⟨rfl, a, b, e, hr, ea⟩ := h
      cases b with
      | nil => cases hr
      | cons j b =>
        obtain ⟨rfl, rfl⟩ := List.cons.inj hr
        have hj : j < N.length := lt j (by rw [← e]; simp)
        refine ⟨kp (C.le _ _ hg) hl, ?_⟩
        walk_at "r"
        walk_at "t"
        walk_at "r"
        refine ⟨_, _, kp (C.ntc j hj).1 hl, nf_number, up_same, .of ⟨by rw [up_up], a ++ [j], b, by rw [← e]; simp, rfl, ?_⟩⟩
        rw [ea]
        unfold natI
        rw [List.map_append, List.map_append]
        rfl
    · obtain ⟨rfl, a, b, e, hr, ea⟩ := h
      cases b with
      | cons j b => cases hr
      | nil =>
      rw [List.append_nil] at e
      subst e ea
      refine ⟨kp (C.le _ _ hg) hl, ?_⟩
      have C := C.mono (Le.new (o := .lst ((natI a).map .int)) (.refl m) hl)
      walk_at "r"
      refine ⟨natI a, up_same, fun l2 hl2 => ?_⟩
      have C := C.mono (Le.new (o := .lst ((srtI (natI a)).map .int)) (.refl _) hl2)
      have h2 : up (up m l (.lst ((natI a).map .int))) l2 (.lst ((srtI (natI a)).map .int)) l2 = _ := up_same
      generalize up (up m l (.lst ((natI a).map .int))) l2 (.lst ((srtI (natI a)).map .int)) = m2 at *
      walk_at "r"
      refine ⟨_, _, C.c, cr_rows, ⟨_, C.ro⟩, ?_⟩
      walk_at "r"
      refine ⟨_, h2, ?_⟩
      walk_at "r"
      refine ⟨by walk_at "len", ?_⟩
      walk_at "r"
      refine ⟨_, C.ro, line_le (by rw [List.length_map]; omega), ?_⟩
      have C := C.setRows (rows ++ [(t, p, srtI (natI a))])
      have er : (rows ++ [(t, p, srtI (natI a))]).map rowS = rows.map rowS ++ [.tup [.int t, .int p, .tup ((srtI (natI a)).map .int)]] := by rw [List.map_append]; rfl
      rw [er] at C
      generalize up m2 A.ro (.lst (rows.map rowS ++ [.tup [.int t, .int p, .tup ((srtI (natI a)).map .int)]])) = m3 at *
      walk_at "r"
      refine ⟨_, _, C.c, cr_persons, ?_⟩
      walk_at "r"
      refine ⟨_, _, C.pl, pl_at hp0, ?_⟩
      walk_at "r"
      have ep := (C.per p.toNat (by omega)).1
      rw [cast_toNat hp0.1] at ep
      refine ⟨_, _, ep, per_wait, ?_⟩
      walk_at "r"
      refine ⟨_, C.le _ _ hg, ?_⟩
      refine for_inv (fun r δ m' => ∃ (x : Option SV) (b c : List Nat), b ++ c = a ∧ r = memS A c ∧ δ = [some (.ref A.c), some (.ref g), some (.int p), some (.int t), some (.ref l2), x, some (optV (pr R p).wait)] ∧ Cou K m0 m' A hv R N (tellMs R t p b W) hp rd (rows ++ [(t, p, srtI (natI a))])) ⟨none, [], a, rfl, rfl, rfl, by rw [tellMs_nil]; exact C⟩ (fun x r δ m' h => ?_) (fun δ m' h => ?_)
      · obtain ⟨x0, b, c, e, hr, rfl, C⟩ := h
        refine ⟨C.le _ _ hg, ?_⟩
        cases c with
        | nil => cases hr
        | cons j c =>
          obtain ⟨rfl, rfl⟩ := List.cons.inj hr
          have hj : j < N.length := lt j (by rw [← e]; simp)
          have nj : j ∉ b := by
            rw [← e, List.nodup_append] at nd
            exact fun z => nd.2.2 j z j List.mem_cons_self rfl
          have ew : tellMs R t p b W j = W j := if_neg nj
          have es := tellMs_snoc (R := R) (t := t) (p := p) (W := W) nj
          rw [ew] at es
          obtain ⟨n1, n2, n3⟩ := C.ntc j hj
          rw [ew] at n1 n2 n3
          walk_at "r"
          refine ⟨_, _, n1, nf_told, ⟨_, n3⟩, ?_⟩
          walk_at "r"
          refine ⟨_, n3, line_le (by rw [List.length_map]; have := tl j (by rw [← e]; simp); omega), ?_⟩
          have C1 := C.setTold hj (y := ⟨(W j).rank, (W j).went, (W j).told ++ [p], (W j).due, (W j).heard, (W j).gone, none⟩) ⟨by rw [ew], by rw [ew], by rw [ew], by rw [ew], by rw [ew]⟩
          have et : ((W j).told ++ [p]).map SV.int = (W j).told.map .int ++ [.int p] := by rw [List.map_append]; rfl
          rw [et] at C1
          generalize up m' (A.nt j) (.lst ((W j).told.map .int ++ [.int p])) = m4 at *
          walk_at "r"
          have e1n : (pr R p).wait = none → tell1 R t p (W j) = ⟨(W j).rank, (W j).went, (W j).told ++ [p], (W j).due, (W j).heard, (W j).gone, none⟩ := fun z => by unfold tell1; rw [z]
          have e1s : ∀ w, (pr R p).wait = some w → tell1 R t p (W j) = ⟨(W j).rank, (W j).went, (W j).told ++ [p], some (t + w), (W j).heard, (W j).gone, none⟩ := fun w z => by unfold tell1; rw [z]
          cases hw : (pr R p).wait with
          | none =>
            walk_at "r"
            walk_at "f"
            walk_at "r"
            refine .of ⟨_, b ++ [j], c, by rw [← e]; simp, rfl, rfl, ?_⟩
            rw [es, e1n hw]
            exact C1
          | some w =>
            walk_at "r"
            walk_at "t"
            walk_at "r"
            obtain ⟨k1, k2, k3⟩ := C1.ntc j hj
            refine ⟨_, k1, nf_len, ?_⟩
            have np := np_goes (j := j) (x := ntc N j) (y := setW (tellMs R t p b W) j ⟨(W j).rank, (W j).went, (W j).told ++ [p], (W j).due, (W j).heard, (W j).gone, none⟩ j) (w := A.nw j) (t := A.nt j) (d := some (t + w))
            rw [setW_same] at np
            have np : putS ("goes_on" : Str) (SV.int (t + w)) _ = _ := np
            rw [setW_same, np]
            have C2 := C1.setN hj (y := ⟨(W j).rank, (W j).went, (W j).told ++ [p], some (t + w), (W j).heard, (W j).gone, none⟩) (by rw [setW_same]) (by rw [setW_same])
            rw [setW_set] at C2
            walk_at "r"
            refine .of ⟨_, b ++ [j], c, by rw [← e]; simp, rfl, rfl, ?_⟩
            rw [es, e1s w hw]
            exact C2
      · obtain ⟨x0, b, c, e, hr, rfl, C⟩ := h
        refine ⟨C.le _ _ hg, ?_⟩
        cases c with
        | cons j c => cases hr
        | nil =>
          rw [List.append_nil] at e
          subst e
          walk_at "r"
          exact .of (q _ C)
end
end Hn

set_option Elab.async false
set_option linter.all false
set_option maxRecDepth 100000
set_option maxHeartbeats 8000000
namespace Hn
open PySem PySem.Spec PyProof.Rows L2 Sy Lm
section
variable {P : Program} {w : World} {K : PySem.W.Frag} {mg : Str → Option Value} {base : Heap}
local macro_rules | `(tactic| walk_at "r") => `(tactic| (conv => whnf))
local macro_rules | `(tactic| walk_at "sp") => `(tactic| (first | rfl | contradiction | exact (False.elim ‹_›)))
local macro_rules | `(tactic| walk_at "len") => `(tactic| (exact Nat.le_trans (show _ ≤ 100000 by first | (simp; done) | (rw [rngS_length]; decide)) (by decide)))
local macro_rules | `(tactic| walk_at "f") => `(tactic| (refine Br_i (fun hb => Bool.noConfusion (show false = true from hb)) (fun _ => ?_)))
local macro_rules | `(tactic| walk_at "t") => `(tactic| (refine Br_i (fun _ => ?_) (fun hb => Bool.noConfusion (show true = false from hb))))
local macro_rules | `(tactic| walk_at "le") => `(tactic| first | exact Le.refl _ | (refine Le.put ?_; walk_at "le") | (refine Le.new ?_ (by assumption); walk_at "le"))
theorem atI_last {α : Type} {xs : List α} (h : xs ≠ []) : atI xs (-1) = some (xs.getLast h) := by
  have hl : 0 < xs.length := List.length_pos_iff.mpr h
  have e : ixN xs.length (-1) = some (xs.length - 1) := by
    unfold ixN
    simp
    omega
  unfold atI
  rw [e]
  show xs[xs.length - 1]? = _
  rw [← List.getLast?_eq_getElem?, List.getLast?_eq_some_getLast h]
theorem inS_ints : ∀ (q : Int) (ns : List Int), inS (.int q) (ns.map SV.int) = decide (q ∈ ns)
  | q, [] => rfl
  | q, a :: r => by
    unfold inS
    rw [List.map_cons, List.any_cons]
    have ih := inS_ints q r
    unfold inS at ih
    rw [ih]
    show (decide (a = q) || _) = _
    by_cases e : a = q
    · subst e; simp
    · rw [decide_eq_false e, Bool.false_or]
      exact decide_eq_decide.mpr ⟨fun z => List.mem_cons_of_mem _ z, fun z => by
        rcases List.mem_cons.mp z with z | z
        · exact absurd z.symm e
        · exact z⟩
theorem flat_ints (ns : List Int) : (ns.map SV.int).all flatS = true := by
  rw [List.all_eq_true]
  intro x hx
  obtain ⟨i, _, rfl⟩ := List.mem_map.mp hx
  rfl
/-- what the heaps and what is ready become as a notice comes to a person -/
inductive Brg (R : List PR) (N : List NR) (W : WS) (j : Nat) (p t : Int) (hp : List HE) (rd : List RE) : List HE → List RE → Prop
  | one (ad : Addr) (h : spanOf (pr R p).gs (ntc N j).kind = none ∨ (W j).rank = 3) : Brg R N W j p t hp rd hp (rd ++ [⟨p, none, t, ad, [j]⟩])
  | join (l r : List HE) (e : HE) (s : Int) (h : hp = l ++ e :: r) (h1 : e.per = p) (h2 : e.kind = (ntc N j).kind) (h3 : spanOf (pr R p).gs (ntc N j).kind = some s) (h4 : (W j).rank ≠ 3) : Brg R N W j p t hp rd (l ++ ⟨e.per, e.kind, e.end_, e.ad, e.ms ++ [j]⟩ :: r) rd
  | new (ad : Addr) (s : Int) (h3 : spanOf (pr R p).gs (ntc N j).kind = some s) (h4 : (W j).rank ≠ 3) (h5 : ∀ e ∈ hp, ¬ (e.per = p ∧ e.kind = (ntc N j).kind)) : Brg R N W j p t hp rd (hp ++ [⟨p, (ntc N j).kind, t + s, ad, [j]⟩]) rd
theorem hkv_eq {e : HE} {p k : Int} : e.kv.1 = [.inl p, .inl k] ↔ e.per = p ∧ e.kind = k := by
  unfold HE.kv
  simp
theorem valS_hp {p k : Int} : ∀ (hp : List HE), (valS (hp.map HE.kv) [.inl p, .inl k] = none ∧ ∀ e ∈ hp, ¬ (e.per = p ∧ e.kind = k)) ∨ ∃ l e r, hp = l ++ e :: r ∧ e.per = p ∧ e.kind = k ∧ valS (hp.map HE.kv) [.inl p, .inl k] = some (.tup [.int e.end_, .ref e.ad])
  | [] => .inl ⟨rfl, fun e h => nomatch h⟩
  | e :: r => by
    by_cases c : e.per = p ∧ e.kind = k
    · refine .inr ⟨[], e, r, rfl, c.1, c.2, ?_⟩
      unfold valS
      rw [List.map_cons, List.find?_cons_of_pos (by exact decide_eq_true (hkv_eq.mpr c))]
      rfl
    · have e1 : valS ((e :: r).map HE.kv) [.inl p, .inl k] = valS (r.map HE.kv) [.inl p, .inl k] := by
        unfold valS
        rw [List.map_cons, List.find?_cons_of_neg (by simpa using fun z => c (hkv_eq.mp z))]
      rw [e1]
      rcases valS_hp (p := p) (k := k) r with ⟨h1, h2⟩ | ⟨l, f, r', h1, h2, h3, h4⟩
      · exact .inl ⟨h1, fun f hf => by
          rcases List.mem_cons.mp hf with rfl | hf
          · exact c
          · exact h2 f hf⟩
      · exact .inr ⟨e :: l, f, r', by rw [h1]; rfl, h2, h3, h4⟩
theorem putD_hp {p k : Int} {hp : List HE} {v : SV} (h : ∀ e ∈ hp, ¬ (e.per = p ∧ e.kind = k)) : putD (hp.map HE.kv) [.inl p, .inl k] v = hp.map HE.kv ++ [([.inl p, .inl k], v)] := putD_new fun q hq z => by
  obtain ⟨e, he, rfl⟩ := List.mem_map.mp hq
  exact h e he (hkv_eq.mp z)
theorem valS_snoc {p k : Int} {hp : List HE} {v : SV} (h : ∀ e ∈ hp, ¬ (e.per = p ∧ e.kind = k)) : valS (hp.map HE.kv ++ [([.inl p, .inl k], v)]) [.inl p, .inl k] = some v := by
  unfold valS
  rw [List.find?_append, List.find?_eq_none.mpr (fun q hq => by
    obtain ⟨e, he, rfl⟩ := List.mem_map.mp hq
    simpa using fun z => h e he (hkv_eq.mp z))]
  simp
def spBring (K : PySem.W.Frag) : SpS := fun vs m _ S => ∃ (m0 : Mem) (A : CAd) (hv : SV) (R : List PR) (N : List NR) (W : WS) (hp : List HE) (rd : List RE) (rows : List RowT) (j : Nat) (p t : Int), vs = [.ref A.c, .ref (A.na j), .int p, .int t] ∧ Cou K m0 m A hv R N W hp rd rows ∧ j < N.length ∧ (0 ≤ p ∧ p < R.length) ∧ hp.length ≤ 1000 ∧ rd.length ≤ 1000 ∧ (∀ e ∈ hp, e.ms.length ≤ 1000) ∧ (W j).went.length ≤ 1000 ∧
  ∀ m' hp' rd', Brg R N W j p t hp rd hp' rd' → Cou K m0 m' A hv R N (bringW R N W j p t) hp' rd' rows → S .non m'
theorem ok_Course_bring (T : Tx K mg) : FnOk P w K mg base CX0 1 (He.ma K (He.ga K "Course") "bring") T.fd_Course_bring ["self", "notice", "person", "moment"] (lift K (spBring K)) := by
  refine fn_syQ T.F_Course_bring sc_Course_bring (fun svs m SX Sv h => ?_) (fun cdv A outer s H E hr => ⟨_, _, (gss_cons (gs_expr (ge_bm PySem.F.plainAttrs_list PySem.F.slot_list_append PySem.F.type_list_append mt_append simk_L sim_append (ge_fld T.c_Notice T.n_Notice_went (gv 1)) (ga_cons (gv 2) ga_nil)))
      (gss_cons (gs_set (i := 4) sc_Course_bring.nd rfl (.inl rfl) (ge_dget1 hr.u1 (ge_fld T.c_Person T.n_Person_spans (ge_ix (ix_G K) sim_ix (ge_fld T.c_Course T.n_Course_persons (gv 0)) (gv 2) (fun _ _ => rfl))) (ge_fld T.c_Notice T.n_Notice_kind (gv 1))))
      (gss_cons (gs_if (gw_pt (gw_or (gt_cmp op_isN sim_isN (gv 4) ge_non (nomark _)) (gw_or1 (gt_cmp (op_eqG K hr.units) sim_eq (ge_fld T.c_Notice T.n_Notice_rank (gv 1)) (ge_gi (by rfl) T.i_LAST_RANK) (nomark _))))) (gss_cons (gs_expr (ge_bm PySem.F.plainAttrs_list PySem.F.slot_list_append PySem.F.type_list_append mt_append simk_L sim_append (ge_fld T.c_Course T.n_Course_ready (gv 0)) (ga_cons (ge_tup (ga_cons (gv 2) (ga_cons (ge_lst (ga_cons (gv 1) ga_nil)) ga_nil))) ga_nil)))
      (gss_one gs_retN)) gss_nil)
      (gss_cons (gs_set (i := 5) sc_Course_bring.nd rfl (.inl rfl) (ge_tupK (ga_cons (gv 2) (ga_cons (ge_fld T.c_Notice T.n_Notice_kind (gv 1)) ga_nil))))
      (gss_cons (gs_if (gt_dnotinT hr.u1 (gv 5) (ge_fld T.c_Course T.n_Course_heaps (gv 0)) (by with_unfolding_all rfl)) (gss_one (gs_dputT hr.u1 (ge_fld T.c_Course T.n_Course_heaps (gv 0)) (gv 5) (ge_tup (ga_cons (ge_op (op_addG K) sim_add (gv 3) (gv 4)) (ga_cons (ge_lst ga_nil) ga_nil))))) gss_nil)
      (gss_one (gs_expr (ge_bm PySem.F.plainAttrs_list PySem.F.slot_list_append PySem.F.type_list_append mt_append simk_L sim_append (ge_ix (ix_G K) sim_ix (ge_dgetT hr.u1 (ge_fld T.c_Course T.n_Course_heaps (gv 0)) (gv 5)) ge_int (fun _ _ => rfl)) (ga_cons (gv 1) ga_nil))))))))), fun svs m SX Sv h => ?_⟩)
  · obtain ⟨m0, A, hv, R, N, W, hp, rd, rows, j, p, t, rfl, _⟩ := h
    rfl
  · obtain ⟨m0, A, hv, R, N, W, hp, rd, rows, j, p, t, rfl, C, hj, hp0, lh, lr, lms, lw, q⟩ := h
    obtain ⟨n1, n2, n3⟩ := C.ntc j hj
    walk_at "r"
    refine ⟨_, _, n1, nf_went, ⟨_, n2⟩, ?_⟩
    walk_at "r"
    refine ⟨_, n2, line_le (by rw [List.length_map]; omega), ?_⟩
    have C := C.setWent hj (y := xPut (W j) p (placeOf R N.length W p (ntc N j).kind (W j).rank t)) ⟨rfl, rfl, rfl, rfl, rfl⟩
    have ew : (xPut (W j) p (placeOf R N.length W p (ntc N j).kind (W j).rank t)).went.map SV.int = (W j).went.map .int ++ [.int p] := by show ((W j).went ++ [p]).map SV.int = _; rw [List.map_append]; rfl
    rw [ew] at C
    have C : Cou K m0 _ A hv R N (bringW R N W j p t) hp rd rows := C
    have er : (bringW R N W j p t j).rank = (W j).rank := by unfold bringW; rw [setW_same]; rfl
    generalize up m (A.nw j) (.lst ((W j).went.map .int ++ [.int p])) = m1 at *
    clear n1 n2 n3
    obtain ⟨n1, n2, n3⟩ := C.ntc j hj
    walk_at "r"
    refine ⟨_, _, C.c, cr_persons, ?_⟩
    walk_at "r"
    refine ⟨_, _, C.pl, pl_at hp0, ?_⟩
    walk_at "r"
    obtain ⟨ep, _, es⟩ := C.per p.toNat (by omega)
    rw [cast_toNat hp0.1] at ep es
    refine ⟨_, _, ep, per_spans, ⟨_, es⟩, ?_⟩
    walk_at "r"
    refine ⟨_, _, n1, nf_kind, ?_⟩
    walk_at "r"
    refine ⟨_, _, es, rfl, ?_⟩
    rw [valS_gs, optV_map]
    walk_at "r"
    have one : (spanOf (pr R p).gs (ntc N j).kind = none ∨ (W j).rank = 3) → ∀ l, m1 l = none → Fg (Sv .non) (up (up m1 l (.lst [.ref (A.na j)])) A.rl (.lst (rd.map RE.sv ++ [.tup [.int p, .ref l]]))) := fun h l hl => by
      have C1 := C.addRd (e := ⟨p, none, t, l, [j]⟩) hl
      have e1 : (rd ++ [(⟨p, none, t, l, [j]⟩ : RE)]).map RE.sv = rd.map RE.sv ++ [.tup [.int p, .ref l]] := by rw [List.map_append]; rfl
      rw [e1] at C1
      exact .of (q _ _ _ (.one l h) C1)
    cases hs : spanOf (pr R p).gs (ntc N j).kind with
    | none =>
      walk_at "r"
      walk_at "t"
      walk_at "r"
      walk_at "t"
      walk_at "r"
      refine ⟨_, _, C.c, cr_ready, ⟨_, C.rl⟩, ?_⟩
      walk_at "r"
      refine ⟨by walk_at "len", fun l hl => ?_⟩
      walk_at "r"
      refine ⟨by walk_at "len", ?_⟩
      walk_at "r"
      refine ⟨_, kp C.rl hl, line_le (by rw [List.length_map]; omega), ?_⟩
      exact one (.inl hs) l hl
    | some s =>
      walk_at "r"
      walk_at "f"
      walk_at "r"
      refine ⟨_, _, n1, nf_rank, ?_⟩
      rw [er]
      walk_at "r"
      refine Br_i (fun h1 => ?_) (fun h1 => ?_)
      · have h1 := of_decide_eq_true h1
        walk_at "r"
        refine ⟨_, _, C.c, cr_ready, ⟨_, C.rl⟩, ?_⟩
        walk_at "r"
        refine ⟨by walk_at "len", fun l hl => ?_⟩
        walk_at "r"
        refine ⟨by walk_at "len", ?_⟩
        walk_at "r"
        refine ⟨_, kp C.rl hl, line_le (by rw [List.length_map]; omega), ?_⟩
        exact one (.inr h1) l hl
      · have h1 := of_decide_eq_false h1
        walk_at "r"
        refine ⟨_, _, n1, nf_kind, ?_⟩
        walk_at "r"
        refine ⟨[.inl p, .inl (ntc N j).kind], rfl, by walk_at "len", ?_⟩
        walk_at "r"
        refine ⟨_, _, C.c, cr_heaps, ?_⟩
        walk_at "r"
        refine ⟨_, _, C.hd, rfl, ?_⟩
        rcases valS_hp (p := p) (k := (ntc N j).kind) hp with ⟨v1, v2⟩ | ⟨l, e, r, v1, v2, v3, v4⟩
        · rw [v1]
          walk_at "r"
          walk_at "t"
          walk_at "r"
          refine ⟨by walk_at "len", fun g hg => ?_⟩
          walk_at "r"
          refine ⟨by walk_at "len", ?_⟩
          walk_at "r"
          refine ⟨_, _, kp C.c hg, cr_heaps, ?_⟩
          walk_at "r"
          refine ⟨_, _, kp C.hd hg, rfl, line_le (by rw [List.length_map]; omega), ?_⟩
          rw [putD_hp v2]
          have C1 := C.addHp (e := ⟨p, (ntc N j).kind, t + s, g, []⟩) hg
          have e1 : (hp ++ [(⟨p, (ntc N j).kind, t + s, g, []⟩ : HE)]).map HE.kv = hp.map HE.kv ++ [([.inl p, .inl (ntc N j).kind], .tup [.int (t + s), .ref g])] := by rw [List.map_append]; rfl
          rw [e1] at C1
          have C1 : Cou K m0 (up (up m1 g (.lst [])) A.hd (.dT (hp.map HE.kv ++ [([.inl p, .inl (ntc N j).kind], .tup [.int (t + s), .ref g])]))) A hv R N (bringW R N W j p t) (hp ++ [⟨p, (ntc N j).kind, t + s, g, []⟩]) rd rows := C1
          generalize up (up m1 g (.lst [])) A.hd (.dT (hp.map HE.kv ++ [([.inl p, .inl (ntc N j).kind], .tup [.int (t + s), .ref g])])) = m2 at *
          walk_at "r"
          refine ⟨_, _, C1.c, cr_heaps, ?_⟩
          walk_at "r"
          have hd1 := C1.hd
          rw [e1] at hd1
          refine ⟨_, _, _, hd1, rfl, valS_snoc v2, ?_⟩
          walk_at "r"
          have g1 := C1.grp ⟨p, (ntc N j).kind, t + s, g, []⟩ (by simp)
          refine ⟨_, atI_nat (j := 1) rfl, ⟨_, g1⟩, ?_⟩
          walk_at "r"
          refine ⟨_, g1, line_le (by show (0 : Nat).succ ≤ 100000; decide), ?_⟩
          have C2 := C1.grow (l := hp) (r := []) (e := ⟨p, (ntc N j).kind, t + s, g, []⟩) j
          exact .of (q _ _ _ (.new g s hs h1 v2) C2)
        · rw [v4]
          walk_at "r"
          walk_at "f"
          walk_at "r"
          refine ⟨_, _, C.c, cr_heaps, ?_⟩
          walk_at "r"
          refine ⟨_, _, _, C.hd, rfl, v4, ?_⟩
          walk_at "r"
          have me : e ∈ hp := by rw [v1]; simp
          have g1 := C.grp e me
          refine ⟨_, atI_nat (j := 1) rfl, ⟨_, g1⟩, ?_⟩
          walk_at "r"
          refine ⟨_, g1, line_le (by rw [memS_len]; have := lms e me; omega), ?_⟩
          rw [← memS_snoc]
          subst v1
          exact .of (q _ _ _ (.join l r e s rfl v2 v3 hs h1) (C.grow j))
/-- what a notice that goes on does to heaps and to what is ready -/
inductive Snd (R : List PR) (N : List NR) (W : WS) (j : Nat) (t : Int) (hp : List HE) (rd : List RE) : List HE → List RE → Prop
  | stop (h : (pr R ((W j).went.getLastD 0)).fur = none ∨ ∃ q, (pr R ((W j).went.getLastD 0)).fur = some q ∧ q ∈ (W j).went) : Snd R N W j t hp rd hp rd
  | go {hp' : List HE} {rd' : List RE} (q : Int) (h : (pr R ((W j).went.getLastD 0)).fur = some q) (h2 : q ∉ (W j).went) (b : Brg R N (setW W j (xUp (W j))) j q t hp rd hp' rd') : Snd R N W j t hp rd hp' rd'
def spSend (K : PySem.W.Frag) : SpS := fun vs m _ S => ∃ (m0 : Mem) (A : CAd) (hv : SV) (R : List PR) (N : List NR) (W : WS) (hp : List HE) (rd : List RE) (rows : List RowT) (j : Nat) (t : Int), vs = [.ref A.c, .ref (A.na j), .int t] ∧ Cou K m0 m A hv R N W hp rd rows ∧ RulesOk R ∧ j < N.length ∧ (W j).went ≠ [] ∧ (∀ p ∈ (W j).went, 0 ≤ p ∧ p < (R.length : Int)) ∧ hp.length ≤ 1000 ∧ rd.length ≤ 1000 ∧ (∀ e ∈ hp, e.ms.length ≤ 1000) ∧ (W j).went.length ≤ 1000 ∧
  ∀ m' hp' rd', Snd R N W j t hp rd hp' rd' → Cou K m0 m' A hv R N (sendW R N W j t) hp' rd' rows → S .non m'
theorem ok_Course_send_on (T : Tx K mg) : FnOk P w K mg base CX0 2 (He.ma K (He.ga K "Course") "send_on") T.fd_Course_send_on ["self", "notice", "moment"] (lift K (spSend K)) := by
  have G_Course_bring := ok_Course_bring (P := P) (w := w) (base := base) T
  have b_Course_bring := b_Course_bring T
  refine fn_syQ T.F_Course_send_on sc_Course_send_on (fun svs m SX Sv h => ?_) (fun cdv A outer s H E hr => ⟨_, _, (gss_cons (gs_fld T.c_Notice T.n_Notice_goes_on (gv 1) ge_non)
      (gss_cons (gs_set (i := 3) sc_Course_send_on.nd rfl (.inl rfl) (ge_fld T.c_Person T.n_Person_further (ge_ix (ix_G K) sim_ix (ge_fld T.c_Course T.n_Course_persons (gv 0)) (ge_ix (ix_G K) sim_ix (ge_fld T.c_Notice T.n_Notice_went (gv 1)) (ge_un un_neg sim_neg ge_int) (fun _ _ => rfl)) (fun _ _ => rfl))))
      (gss_cons (gs_if (gw_pt (gw_or (gt_cmp op_isN sim_isN (gv 3) ge_non (nomark _)) (gw_or1 (gt_cmp (op_inG K) (sim_in false) (gv 3) (ge_fld T.c_Notice T.n_Notice_went (gv 1)) (by with_unfolding_all rfl))))) (gss_cons (gs_fld T.c_Notice T.n_Notice_given_up (gv 1) ge_bl)
      (gss_one gs_retN)) gss_nil)
      (gss_cons (gs_fld T.c_Notice T.n_Notice_rank (gv 1) (ge_callB (call_min2 rfl) sim_min2 (by rfl) T.z_min (by decide +kernel) (ga_cons (ge_op (op_addG K) sim_add (ge_fld T.c_Notice T.n_Notice_rank (gv 1)) ge_int) (ga_cons (ge_gi (by rfl) T.i_LAST_RANK) ga_nil))))
      (gss_one (gs_expr (ge_meth T.c_Course T.M_Course_bring G_Course_bring (hr) b_Course_bring .nil (fun _ => .nil) pass0 (gv 0) (ga_cons (gv 1) (ga_cons (gv 3) (ga_cons (gv 2) ga_nil)))))))))), fun svs m SX Sv h => ?_⟩)
  · obtain ⟨m0, A, hv, R, N, W, hp, rd, rows, j, t, rfl, _⟩ := h
    rfl
  · obtain ⟨m0, A, hv, R, N, W, hp, rd, rows, j, t, rfl, C, ok, hj, wn, wr, lh, lr, lms, lw, q⟩ := h
    obtain ⟨n1, n2, n3⟩ := C.ntc j hj
    walk_at "r"
    refine ⟨_, n1, nf_len, ?_⟩
    have np := np_goes (j := j) (x := ntc N j) (y := W j) (w := A.nw j) (t := A.nt j) (d := none)
    have np : putS ("goes_on" : Str) SV.non _ = _ := np
    rw [np]
    have C := C.setN hj (y := ⟨(W j).rank, (W j).went, (W j).told, none, (W j).heard, (W j).gone, (W j).place⟩) rfl rfl
    generalize up m (A.na j) (.ins (He.ga K "Notice") (ntcF j (ntc N j) ⟨(W j).rank, (W j).went, (W j).told, none, (W j).heard, (W j).gone, (W j).place⟩ (A.nw j) (A.nt j))) = m1 at *
    clear n1 n2 n3 np
    obtain ⟨n1, n2, n3⟩ := C.ntc j hj
    rw [setW_same] at n1 n2 n3
    have el : (W j).went.getLast wn = (W j).went.getLastD 0 := by rw [List.getLastD_eq_getLast?, List.getLast?_eq_some_getLast wn]; rfl
    have hw := wr _ (List.getLast_mem wn)
    walk_at "r"
    refine ⟨_, _, C.c, cr_persons, ?_⟩
    walk_at "r"
    refine ⟨_, _, n1, nf_went, ?_⟩
    walk_at "r"
    have la : atI ((W j).went.map SV.int) (-1) = some (.int ((W j).went.getLast wn)) := by
      rw [atI_last (by simpa using wn), List.getLast_map]
    refine ⟨_, _, n2, la, ?_⟩
    walk_at "r"
    refine ⟨_, _, C.pl, pl_at hw, ?_⟩
    walk_at "r"
    obtain ⟨ep, _, _⟩ := C.per ((W j).went.getLast wn).toNat (by omega)
    rw [cast_toNat hw.1] at ep
    refine ⟨_, _, ep, per_fur, ?_⟩
    walk_at "r"
    rw [el] at *
    have stop : ((pr R ((W j).went.getLastD 0)).fur = none ∨ ∃ q, (pr R ((W j).went.getLastD 0)).fur = some q ∧ q ∈ (W j).went) → Fg (Sv .non) (up m1 (A.na j) (.ins (He.ga K "Notice") (putS "given_up" (.bl true) (ntcF j (ntc N j) ⟨(W j).rank, (W j).went, (W j).told, none, (W j).heard, (W j).gone, (W j).place⟩ (A.nw j) (A.nt j))))) := fun z => by
      rw [np_gone]
      have C1 := C.setN hj (y := xGone (W j)) (by rw [setW_same]; rfl) (by rw [setW_same]; rfl)
      rw [setW_set] at C1
      refine .of (q _ _ _ (.stop z) ?_)
      have e : sendW R N W j t = setW W j (xGone (W j)) := by
        unfold sendW
        rcases z with z | ⟨p, z1, z2⟩
        · rw [z]
        · rw [z1]
          exact if_pos z2
      rw [e]
      exact C1
    cases hf : (pr R ((W j).went.getLastD 0)).fur with
    | none =>
      walk_at "r"
      walk_at "t"
      walk_at "r"
      walk_at "t"
      walk_at "r"
      refine ⟨_, n1, nf_len, ?_⟩
      exact stop (.inl hf)
    | some p =>
      walk_at "r"
      walk_at "f"
      walk_at "r"
      refine ⟨_, _, n1, nf_went, ?_⟩
      walk_at "r"
      refine ⟨_, n2, rfl, flat_ints _, ?_⟩
      walk_at "r"
      refine Br_i (fun h1 => ?_) (fun h1 => ?_)
      · have h1 : inS (.int p) ((W j).went.map .int) = true := h1
        rw [inS_ints] at h1
        have h1 := of_decide_eq_true h1
        walk_at "r"
        refine ⟨_, n1, nf_len, ?_⟩
        exact stop (.inr ⟨p, hf, h1⟩)
      · have h1 : inS (.int p) ((W j).went.map .int) = false := h1
        rw [inS_ints] at h1
        have h1 := of_decide_eq_false h1
        have hp0 := (ok.all _ (pr_mem hw)).fu p hf
        walk_at "r"
        refine ⟨_, _, n1, nf_rank, ?_⟩
        walk_at "r"
        refine ⟨_, n1, nf_len, ?_⟩
        have em : (if (3 : Int) < (W j).rank + 1 then 3 else (W j).rank + 1) = min ((W j).rank + 1) 3 := by split <;> omega
        rw [em, np_rank]
        have C1 := C.setN hj (y := xUp (W j)) (by rw [setW_same]; rfl) (by rw [setW_same]; rfl)
        rw [setW_set] at C1
        have C1 : Cou K m0 (up m1 (A.na j) (.ins (He.ga K "Notice") (ntcF j (ntc N j) (xUp (W j)) (A.nw j) (A.nt j)))) A hv R N (setW W j (xUp (W j))) hp rd rows := C1
        have eu : ntcF j (ntc N j) ⟨min ((W j).rank + 1) 3, (W j).went, (W j).told, none, (W j).heard, (W j).gone, (W j).place⟩ (A.nw j) (A.nt j) = ntcF j (ntc N j) (xUp (W j)) (A.nw j) (A.nt j) := rfl
        rw [eu]
        walk_at "r"
        refine ⟨_, C1.c, cr_bring, ?_⟩
        walk_at "r"
        refine ⟨m0, A, hv, R, N, setW W j (xUp (W j)), hp, rd, rows, j, p, t, rfl, C1, hj, hp0, lh, lr, lms, by rw [setW_same]; exact lw, fun m' hp' rd' b C' => .of (q _ _ _ (.go p hf h1 b) ?_)⟩
        have e : sendW R N W j t = bringW R N (setW W j (xUp (W j))) j p t := by
          unfold sendW
          rw [hf]
          exact if_neg h1
        rw [e]
        exact C'
end
end Hn

set_option Elab.async false
set_option linter.all false
set_option maxRecDepth 100000
set_option maxHeartbeats 8000000
namespace Hn
open PySem PySem.Spec PyProof.Rows L2 Sy Lm
section
variable {P : Program} {w : World} {K : PySem.W.Frag} {mg : Str → Option Value} {base : Heap}
local macro_rules | `(tactic| walk_at "r") => `(tactic| (conv => whnf))
local macro_rules | `(tactic| walk_at "sp") => `(tactic| (first | rfl | contradiction | exact (False.elim ‹_›)))
local macro_rules | `(tactic| walk_at "len") => `(tactic| (exact Nat.le_trans (show _ ≤ 100000 by first | (simp; done) | (rw [rngS_length]; decide)) (by decide)))
local macro_rules | `(tactic| walk_at "f") => `(tactic| (refine Br_i (fun hb => Bool.noConfusion (show false = true from hb)) (fun _ => ?_)))
local macro_rules | `(tactic| walk_at "t") => `(tactic| (refine Br_i (fun _ => ?_) (fun hb => Bool.noConfusion (show true = false from hb))))
local macro_rules | `(tactic| walk_at "le") => `(tactic| first | exact Le.refl _ | (refine Le.put ?_; walk_at "le") | (refine Le.new ?_ (by assumption); walk_at "le"))
theorem its_le {a m : Mem} {x : SV} {ys : List SV} (h : Its a x ys) (l : Le a m) : Its m x ys := by
  cases x <;> first
    | exact h
    | exact l _ _ h
theorem its_keep {m : Mem} {x : SV} {ys : List SV} (h : Its m x ys) : keepOf x ys m := by
  cases x <;> first
    | exact trivial
    | exact h
def spTakeH (K : PySem.W.Frag) : SpS := fun vs m _ S => ∃ (m0 : Mem) (A : CAd) (hv : SV) (R : List PR) (N : List NR) (W : WS) (hp : List HE) (rd : List RE) (rows : List RowT) (hs : List Hr) (t : Int), vs = [.ref A.c, .int t] ∧ Cou K m0 m A hv R N W hp rd rows ∧ Its m0 hv (hs.map hrS) ∧ (∀ h ∈ hs, 0 ≤ h.2.2 ∧ h.2.2 < N.length) ∧
  ∀ m', Cou K m0 m' A hv R N (hearW hs W t) hp rd rows → S .non m'
theorem ok_Course_take_hears (T : Tx K mg) : FnOk P w K mg base CX0 1 (He.ma K (He.ga K "Course") "take_hears") T.fd_Course_take_hears ["self", "moment"] (lift K (spTakeH K)) := by
  refine fn_syQ T.F_Course_take_hears sc_Course_take_hears (fun svs m SX Sv h => ?_) (fun cdv A outer s H E hr => ⟨_, _, (gss_one (gs_for PassesOwn.never rfl (gi_seq (ge_fld T.c_Course T.n_Course_hears (gv 0))) (gg_tup 3 (by rfl) (ggs_cons (gg_name (i := 2) sc_Course_take_hears.nd rfl (.inl rfl)) (ggs_cons (gg_name (i := 3) sc_Course_take_hears.nd rfl (.inl rfl)) (ggs_cons (gg_name (i := 4) sc_Course_take_hears.nd rfl (.inl rfl)) ggs_nil))))
      (gss_cons (gs_set (i := 5) sc_Course_take_hears.nd rfl (.inl rfl) (ge_ix (ix_G K) sim_ix (ge_fld T.c_Course T.n_Course_notices (gv 0)) (gv 4) (fun _ _ => rfl)))
      (gss_one (gs_if (gw_pt (gw_and (gt_cmp (op_eqG K hr.units) sim_eq (gv 2) (gv 1) (nomark _)) (gw_and (gt_cmp (op_inG K) (sim_in false) (gv 3) (ge_fld T.c_Notice T.n_Notice_told (gv 5)) (by with_unfolding_all rfl)) (gw_and1 (gt_cmp op_isN sim_isN (ge_fld T.c_Notice T.n_Notice_heard (gv 5)) ge_non (nomark _)))))) (gss_cons (gs_fld T.c_Notice T.n_Notice_heard (gv 5) (ge_tup (ga_cons (gv 3) (ga_cons (gv 1) ga_nil))))
      (gss_one (gs_fld T.c_Notice T.n_Notice_goes_on (gv 5) ge_non))) gss_nil))))), fun svs m SX Sv h => ?_⟩)
  · obtain ⟨m0, A, hv, R, N, W, hp, rd, rows, hs, t, rfl, _⟩ := h
    rfl
  · obtain ⟨m0, A, hv, R, N, W, hp, rd, rows, hs, t, rfl, C, hi, hr, q⟩ := h
    walk_at "r"
    refine ⟨_, _, C.c, cr_hears, _, its_le hi C.le, ?_⟩
    refine for_inv (fun r δ m' => ∃ (a b c d : Option SV) (u v : List Hr), u ++ v = hs ∧ r = v.map hrS ∧ δ = [some (.ref A.c), some (.int t), a, b, c, d] ∧ Cou K m0 m' A hv R N (hearW u W t) hp rd rows) ⟨none, none, none, none, [], hs, rfl, rfl, rfl, C⟩ (fun x r δ m' h => ?_) (fun δ m' h => ?_)
    · obtain ⟨a, b, c, d, u, v, e, er, rfl, C⟩ := h
      refine ⟨its_keep (its_le hi C.le), ?_⟩
      cases v with
      | nil => cases er
      | cons z v =>
        obtain ⟨rfl, rfl⟩ := List.cons.inj er
        have hz := hr z (by rw [← e]; simp)
        have hj : z.2.2.toNat < N.length := by omega
        obtain ⟨n1, n2, n3⟩ := C.ntc z.2.2.toNat hj
        walk_at "r"
        refine ⟨rfl, ?_⟩
        walk_at "r"
        refine ⟨_, _, C.c, cr_notices, ?_⟩
        walk_at "r"
        refine ⟨_, _, C.nl, nl_at hz, ?_⟩
        have ew : hearW (u ++ [z]) W t = hear1 (hearW u W t) t z := by unfold hearW; rw [List.foldl_append]; rfl
        have stay : ¬ (z.1 = t ∧ z.2.1 ∈ (hearW u W t z.2.2.toNat).told ∧ (hearW u W t z.2.2.toNat).heard = none) → Cou K m0 m' A hv R N (hearW (u ++ [z]) W t) hp rd rows := fun h => by
          rw [ew]
          unfold hear1
          rw [if_neg h]
          exact C
        walk_at "r"
        refine Br_i (fun h1 => ?_) (fun h1 => ?_)
        · have h1 := of_decide_eq_true h1
          walk_at "r"
          refine ⟨_, _, n1, nf_told, ?_⟩
          walk_at "r"
          refine ⟨_, n3, rfl, flat_ints _, ?_⟩
          walk_at "r"
          refine Br_i (fun h2 => ?_) (fun h2 => ?_)
          · have h2 : inS (.int z.2.1) ((hearW u W t z.2.2.toNat).told.map .int) = true := h2
            rw [inS_ints] at h2
            have h2 := of_decide_eq_true h2
            walk_at "r"
            refine ⟨_, _, n1, nf_heard, ?_⟩
            cases h3 : (hearW u W t z.2.2.toNat).heard with
            | none =>
              walk_at "r"
              walk_at "t"
              walk_at "r"
              refine ⟨by walk_at "len", _, n1, nf_len, ?_⟩
              have np := np_heard (j := z.2.2.toNat) (x := ntc N z.2.2.toNat) (y := hearW u W t z.2.2.toNat) (w := A.nw z.2.2.toNat) (t := A.nt z.2.2.toNat) (d := some (z.2.1, t))
              have np : putS ("heard" : Str) (SV.tup [.int z.2.1, .int t]) _ = _ := np
              rw [np]
              walk_at "r"
              refine ⟨_, up_same, nf_len, ?_⟩
              have np2 := np_goes (j := z.2.2.toNat) (x := ntc N z.2.2.toNat) (y := ⟨(hearW u W t z.2.2.toNat).rank, (hearW u W t z.2.2.toNat).went, (hearW u W t z.2.2.toNat).told, (hearW u W t z.2.2.toNat).due, some (z.2.1, t), (hearW u W t z.2.2.toNat).gone, (hearW u W t z.2.2.toNat).place⟩) (w := A.nw z.2.2.toNat) (t := A.nt z.2.2.toNat) (d := none)
              have np2 : putS ("goes_on" : Str) SV.non _ = _ := np2
              rw [np2, up_up]
              have C2 := C.setN hj (y := xHear (hearW u W t z.2.2.toNat) z.2.1 t) rfl rfl
              walk_at "r"
              refine .of ⟨_, _, _, _, u ++ [z], v, by rw [← e]; simp, rfl, rfl, ?_⟩
              rw [ew]
              unfold hear1
              rw [if_pos ⟨h1, h2, h3⟩]
              exact C2
            | some y =>
              walk_at "r"
              walk_at "f"
              walk_at "r"
              exact .of ⟨_, _, _, _, u ++ [z], v, by rw [← e]; simp, rfl, rfl, stay fun z => by rw [h3] at z; cases z.2.2⟩
          · have h2 : inS (.int z.2.1) ((hearW u W t z.2.2.toNat).told.map .int) = false := h2
            rw [inS_ints] at h2
            have h2 := of_decide_eq_false h2
            walk_at "r"
            walk_at "f"
            walk_at "r"
            exact .of ⟨_, _, _, _, u ++ [z], v, by rw [← e]; simp, rfl, rfl, stay fun z => h2 z.2.1⟩
        · have h1 := of_decide_eq_false h1
          walk_at "r"
          walk_at "f"
          walk_at "r"
          exact .of ⟨_, _, _, _, u ++ [z], v, by rw [← e]; simp, rfl, rfl, stay fun z => h1 z.1⟩
    · obtain ⟨a, b, c, d, u, v, e, er, rfl, C⟩ := h
      refine ⟨its_keep (its_le hi C.le), ?_⟩
      cases v with
      | cons z v => cases er
      | nil =>
        rw [List.append_nil] at e
        subst e
        walk_at "r"
        exact .of (q _ C)
def keyNe (e f : HE) : Prop := ¬ (e.per = f.per ∧ e.kind = f.kind)
def shutH (t : Int) (hp : List HE) : List HE := hp.filter fun e => !decide (e.end_ = t)
def shutR (t : Int) (hp : List HE) : List RE := (hp.filter fun e => decide (e.end_ = t)).map HE.re
def spShut (K : PySem.W.Frag) : SpS := fun vs m _ S => ∃ (m0 : Mem) (A : CAd) (hv : SV) (R : List PR) (N : List NR) (W : WS) (hp : List HE) (rd : List RE) (rows : List RowT) (t : Int), vs = [.ref A.c, .int t] ∧ Cou K m0 m A hv R N W hp rd rows ∧ hp.Pairwise keyNe ∧ hp.length ≤ 1000 ∧ rd.length ≤ 1000 ∧
  ∀ m', Cou K m0 m' A hv R N W (shutH t hp) (rd ++ shutR t hp) rows → S .non m'
theorem valS_mid {l r : List HE} {e : HE} (h : ∀ f ∈ l, keyNe f e) : valS ((l ++ e :: r).map HE.kv) [.inl e.per, .inl e.kind] = some (.tup [.int e.end_, .ref e.ad]) := by
  unfold valS
  rw [List.map_append, List.find?_append, List.find?_eq_none.mpr (fun q hq => by
    obtain ⟨f, hf, rfl⟩ := List.mem_map.mp hq
    simpa using fun z => h f hf (hkv_eq.mp z)), Option.none_or, List.map_cons, List.find?_cons_of_pos (by exact decide_eq_true (hkv_eq.mpr ⟨rfl, rfl⟩))]
  rfl
theorem dropD_mid {l r : List HE} {e : HE} (h1 : ∀ f ∈ l, keyNe f e) (h2 : ∀ f ∈ r, keyNe f e) : dropD ((l ++ e :: r).map HE.kv) [.inl e.per, .inl e.kind] = (l ++ r).map HE.kv := by
  have key : ∀ l : List HE, (∀ f ∈ l, keyNe f e) → (l.map HE.kv).filter (fun kv => decide (kv.1 ≠ [.inl e.per, .inl e.kind])) = l.map HE.kv := fun l h => List.filter_eq_self.mpr fun q hq => by
    obtain ⟨f, hf, rfl⟩ := List.mem_map.mp hq
    exact decide_eq_true fun z => h f hf (hkv_eq.mp z)
  unfold dropD
  rw [List.map_append, List.map_append, List.filter_append, List.map_cons, key l h1, List.filter_cons_of_neg (by simpa using hkv_eq.mpr ⟨rfl, rfl⟩), key r h2]
theorem shutH_snoc {t : Int} {a : List HE} {e : HE} : shutH t (a ++ [e]) = shutH t a ++ if e.end_ = t then [] else [e] := by
  unfold shutH
  rw [List.filter_append]
  congr 1
  by_cases c : e.end_ = t
  · rw [if_pos c]; simp [c]
  · rw [if_neg c]; simp [c]
theorem shutR_snoc {t : Int} {a : List HE} {e : HE} : shutR t (a ++ [e]) = shutR t a ++ if e.end_ = t then [e.re] else [] := by
  unfold shutR
  rw [List.filter_append, List.map_append]
  congr 1
  by_cases c : e.end_ = t
  · rw [if_pos c]; simp [c]
  · rw [if_neg c]; simp [c]
theorem ok_Course_shut_heaps (T : Tx K mg) : FnOk P w K mg base CX0 1 (He.ma K (He.ga K "Course") "shut_heaps") T.fd_Course_shut_heaps ["self", "moment"] (lift K (spShut K)) := by
  refine fn_syQ T.F_Course_shut_heaps sc_Course_shut_heaps (fun svs m SX Sv h => ?_) (fun cdv A outer s H E hr => ⟨_, _, (gss_one (gs_for PassesOwn.never rfl (gi_seq (ge_callTy cr_listT sim_listT (by rfl) T.z_list (by decide +kernel) (ga_cons (ge_fld T.c_Course T.n_Course_heaps (gv 0)) ga_nil))) (gg_name (i := 2) sc_Course_shut_heaps.nd rfl (.inl rfl))
      (gss_cons (gs_asg (ge_dgetT hr.u1 (ge_fld T.c_Course T.n_Course_heaps (gv 0)) (gv 2)) (gg_tup 2 (by rfl) (ggs_cons (gg_name (i := 3) sc_Course_shut_heaps.nd rfl (.inl rfl)) (ggs_cons (gg_name (i := 4) sc_Course_shut_heaps.nd rfl (.inl rfl)) ggs_nil))))
      (gss_one (gs_if (gt_cmp (op_eqG K hr.units) sim_eq (gv 3) (gv 1) (nomark _)) (gss_cons (gs_ddelT hr.u1 (ge_fld T.c_Course T.n_Course_heaps (gv 0)) (gv 2))
      (gss_one (gs_expr (ge_bm PySem.F.plainAttrs_list PySem.F.slot_list_append PySem.F.type_list_append mt_append simk_L sim_append (ge_fld T.c_Course T.n_Course_ready (gv 0)) (ga_cons (ge_tup (ga_cons (ge_ix (ix_G K) sim_ixK (gv 2) ge_int (fun _ _ => rfl)) (ga_cons (gv 4) ga_nil))) ga_nil))))) gss_nil))))), fun svs m SX Sv h => ?_⟩)
  · obtain ⟨m0, A, hv, R, N, W, hp, rd, rows, t, rfl, _⟩ := h
    rfl
  · obtain ⟨m0, A, hv, R, N, W, hp, rd, rows, t, rfl, C, pw, lh, lr, q⟩ := h
    walk_at "r"
    refine ⟨_, _, C.c, cr_heaps, ?_⟩
    walk_at "r"
    refine ⟨_, C.hd, fun l hl => ?_⟩
    have nl : m0 l = none := C.le.none hl
    have C := C.local_ (o := .lst ((hp.map HE.kv).map fun q => .kt q.1)) hl
    have hl0 : up m0 l (.lst ((hp.map HE.kv).map fun q => .kt q.1)) l = _ := up_same
    have le0 : Le m0 (up m0 l (.lst ((hp.map HE.kv).map fun q => .kt q.1))) := .new (.refl _) nl
    generalize up m0 l (.lst ((hp.map HE.kv).map fun q => .kt q.1)) = m1 at *
    generalize up m l (.lst ((hp.map HE.kv).map fun q => .kt q.1)) = m2 at *
    walk_at "r"
    refine ⟨_, C.le _ _ hl0, ?_⟩
    refine for_inv (fun r δ m' => ∃ (a b c : Option SV) (u v : List HE), u ++ v = hp ∧ r = (v.map HE.kv).map (fun q => .kt q.1) ∧ δ = [some (.ref A.c), some (.int t), a, b, c] ∧ Cou K m1 m' A hv R N W (shutH t u ++ v) (rd ++ shutR t u) rows) ⟨none, none, none, [], hp, rfl, rfl, rfl, by rw [show rd ++ shutR t [] = rd from List.append_nil _]; exact C⟩ (fun x r δ m' h => ?_) (fun δ m' h => ?_)
    · obtain ⟨a, b, c, u, v, e, er, rfl, C⟩ := h
      refine ⟨C.le _ _ hl0, ?_⟩
      cases v with
      | nil => cases er
      | cons z v =>
        obtain ⟨rfl, rfl⟩ := List.cons.inj er
        rw [← e, List.pairwise_append] at pw
        obtain ⟨pw1, pw2, pw3⟩ := pw
        obtain ⟨pw4, pw5⟩ := List.pairwise_cons.mp pw2
        have o1 : ∀ f ∈ shutH t u, keyNe f z := fun f hf => pw3 f (List.mem_filter.mp hf).1 z List.mem_cons_self
        have o2 : ∀ f ∈ v, keyNe f z := fun f hf x => pw4 f hf ⟨x.1.symm, x.2.symm⟩
        have lu : (shutH t u).length ≤ u.length := List.length_filter_le _ _
        have lr2 : (shutR t u).length ≤ u.length := by unfold shutR; rw [List.length_map]; exact List.length_filter_le _ _
        have lhu : u.length ≤ 1000 := by rw [← e, List.length_append] at lh; omega
        walk_at "r"
        refine ⟨_, _, C.c, cr_heaps, ?_⟩
        walk_at "r"
        refine ⟨_, _, _, C.hd, rfl, valS_mid o1, ?_⟩
        walk_at "r"
        refine ⟨rfl, ?_⟩
        walk_at "r"
        refine Br_i (fun h1 => ?_) (fun h1 => ?_)
        · have h1 := of_decide_eq_true h1
          walk_at "r"
          refine ⟨_, _, C.c, cr_heaps, ?_⟩
          walk_at "r"
          refine ⟨_, _, C.hd, rfl, by rw [show z.kv.1 = [.inl z.per, .inl z.kind] from rfl, valS_mid o1]; rfl, ?_⟩
          have C1 := C.shut
          rw [show HE.kv z = ([.inl z.per, .inl z.kind], .tup [.int z.end_, .ref z.ad]) from rfl]
          rw [dropD_mid o1 o2]
          have hc : up m' A.hd (.dT ((shutH t u ++ v).map HE.kv)) A.c = some (.ins (He.ga K "Course") (crsF A hv)) := by
            obtain ⟨τ, T⟩ := C.tag
            rw [up_ne (kt (τ := τ) (by rw [T.c, T.hd]; decide))]
            exact C.c
          have hr : up m' A.hd (.dT ((shutH t u ++ v).map HE.kv)) A.rl = some (.lst ((rd ++ shutR t u).map RE.sv)) := by
            obtain ⟨τ, T⟩ := C.tag
            rw [up_ne (kt (τ := τ) (by rw [T.rl, T.hd]; decide))]
            exact C.rl
          walk_at "r"
          refine ⟨_, _, hc, cr_ready, ⟨_, hr⟩, ?_⟩
          walk_at "r"
          refine ⟨_, atI_nat (j := 0) rfl, ?_⟩
          walk_at "r"
          refine ⟨by walk_at "len", ?_⟩
          walk_at "r"
          refine ⟨_, hr, line_le (by rw [List.length_map, List.length_append]; omega), ?_⟩
          have e1 : (rd ++ shutR t u ++ [z.re]).map RE.sv = (rd ++ shutR t u).map RE.sv ++ [.tup [.int z.per, .ref z.ad]] := by rw [List.map_append]; rfl
          rw [e1] at C1
          refine .of ⟨_, _, _, u ++ [z], v, by rw [← e]; simp, rfl, rfl, ?_⟩
          rw [shutH_snoc, shutR_snoc, if_pos h1, if_pos h1, List.append_nil, ← List.append_assoc]
          exact C1
        · have h1 := of_decide_eq_false h1
          walk_at "r"
          refine .of ⟨_, _, _, u ++ [z], v, by rw [← e]; simp, rfl, rfl, ?_⟩
          rw [shutH_snoc, shutR_snoc, if_neg h1, if_neg h1, List.append_nil, List.append_assoc]
          exact C
    · obtain ⟨a, b, c, u, v, e, er, rfl, C9⟩ := h
      refine ⟨C9.le _ _ hl0, ?_⟩
      cases v with
      | cons z v => cases er
      | nil =>
        rw [List.append_nil] at e C9
        subst e
        walk_at "r"
        exact .of (q _ (C9.shrink le0))
end
end Hn

set_option Elab.async false
set_option linter.all false
set_option maxRecDepth 100000
set_option maxHeartbeats 8000000
namespace Hn
open PySem PySem.Spec PyProof.Rows L2 Sy Lm
section
variable {P : Program} {w : World} {K : PySem.W.Frag} {mg : Str → Option Value} {base : Heap}
local macro_rules | `(tactic| walk_at "r") => `(tactic| (conv => whnf))
local macro_rules | `(tactic| walk_at "sp") => `(tactic| (first | rfl | contradiction | exact (False.elim ‹_›)))
local macro_rules | `(tactic| walk_at "len") => `(tactic| (exact Nat.le_trans (show _ ≤ 100000 by first | (simp; done) | (rw [rngS_length]; decide)) (by decide)))
local macro_rules | `(tactic| walk_at "f") => `(tactic| (refine Br_i (fun hb => Bool.noConfusion (show false = true from hb)) (fun _ => ?_)))
local macro_rules | `(tactic| walk_at "t") => `(tactic| (refine Br_i (fun _ => ?_) (fun hb => Bool.noConfusion (show true = false from hb))))
local macro_rules | `(tactic| walk_at "le") => `(tactic| first | exact Le.refl _ | (refine Le.put ?_; walk_at "le") | (refine Le.new ?_ (by assumption); walk_at "le"))
def wRl (A : CAd) (q : Addr) : CAd := ⟨A.c, A.pl, A.nl, A.hd, q, A.ro, A.pa, A.ph, A.ps, A.na, A.nw, A.nt⟩
theorem crs_ready {A : CAd} {hv : SV} {q : Addr} : putS ("ready" : Str) (.ref q) (crsF A hv) = crsF (wRl A q) hv := by kernel_rfl
/-- what is ready is another list -/
theorem Cou.newRd {m0 m1 m : Mem} {A : CAd} {hv : SV} {R : List PR} {N : List NR} {W : WS} {hp : List HE} {rd : List RE} {rows : List RowT} (C : Cou K m1 m A hv R N W hp rd rows) (l : Le m0 m1) {q : Addr} {st : List RE} (hq : m1 q = some (.lst (st.map RE.sv))) (q0 : m0 q = none) (hs : ∀ e ∈ st, m1 e.ad = some (.lst (memS A e.ms)) ∧ m0 e.ad = none ∧ e.ad ≠ q) (nd : (st.map RE.ad).Nodup) : Cou K m0 (up m A.c (.ins (He.ga K "Course") (crsF (wRl A q) hv))) (wRl A q) hv R N W hp st rows := by
  obtain ⟨τ, T⟩ := C.tag
  have bq := T.base q _ hq
  have be : ∀ e ∈ st, τ e.ad = 8 := fun e he => T.base _ _ (hs e he).1
  have same : ∀ {y : Addr}, τ y ≠ 8 → (if y = q then 4 else if y ∈ st.map RE.ad then 6 else τ y) = τ y := fun {y} h => by
    rw [if_neg (fun z => h (by rw [z]; exact bq)), if_neg]
    intro z
    obtain ⟨e, he, rfl⟩ := List.mem_map.mp z
    exact h (be e he)
  have ne : ∀ {y : Addr}, τ y ≠ 0 → y ≠ A.c := fun h z => h (by rw [z]; exact T.c)
  have t1 := T.pl
  have t2 := T.nl
  have t3 := T.hd
  have t5 := T.ro
  refine ⟨(l.trans C.le).over (by
    cases z : m0 A.c with
    | none => rfl
    | some o => have := T.base _ _ (l _ _ z); rw [T.c] at this; cases this), up_same, (up_ne (ne (y := A.pl) (by omega))).trans C.pl, (up_ne (ne (y := A.nl) (by omega))).trans C.nl, (up_ne (ne (y := A.hd) (by omega))).trans C.hd, (up_ne (ne (y := q) (by omega))).trans (C.le _ _ hq), (up_ne (ne (y := A.ro) (by omega))).trans C.ro, fun i hi => ?_, fun j hj => ?_, fun e he => ?_, fun e he => ?_, ?_, fun y => if y = q then 4 else if y ∈ st.map RE.ad then 6 else τ y, (same (y := A.c) (by rw [T.c]; decide)).trans T.c, (same (y := A.pl) (by rw [T.pl]; decide)).trans T.pl, (same (y := A.nl) (by rw [T.nl]; decide)).trans T.nl, (same (y := A.hd) (by rw [T.hd]; decide)).trans T.hd, if_pos rfl, (same (y := A.ro) (by rw [T.ro]; decide)).trans T.ro, fun e he => (same (y := e.ad) (by rw [T.gh e he]; decide)).trans (T.gh e he), fun e he => ?_, fun i hi => ?_, fun j hj => ?_, fun x o hx => ?_⟩
  · have t := T.per i hi
    exact ⟨(up_ne (ne (y := A.pa i) (by omega))).trans (C.per i hi).1, (up_ne (ne (y := A.ph i) (by omega))).trans (C.per i hi).2.1, (up_ne (ne (y := A.ps i) (by omega))).trans (C.per i hi).2.2⟩
  · have t := T.ntc j hj
    exact ⟨(up_ne (ne (y := A.na j) (by omega))).trans (C.ntc j hj).1, (up_ne (ne (y := A.nw j) (by omega))).trans (C.ntc j hj).2.1, (up_ne (ne (y := A.nt j) (by omega))).trans (C.ntc j hj).2.2⟩
  · have t := T.gh e he
    exact (up_ne (ne (y := e.ad) (by omega))).trans (C.grp e he)
  · have t := be e he
    exact (up_ne (ne (y := e.ad) (by omega))).trans (C.le _ _ (hs e he).1)
  · rw [List.nodup_append]
    refine ⟨(List.nodup_append.mp C.nda).1, nd, fun a ha b hb => ?_⟩
    obtain ⟨e, he, rfl⟩ := List.mem_map.mp ha
    obtain ⟨f, hf, rfl⟩ := List.mem_map.mp hb
    exact kt (τ := τ) (by rw [T.gh e he, be f hf]; decide)
  · show (if e.ad = q then 4 else if e.ad ∈ st.map RE.ad then 6 else τ e.ad) = 6
    rw [if_neg (hs e he).2.2, if_pos (List.mem_map_of_mem he)]
  · have t := T.per i hi
    exact ⟨(same (y := A.pa i) (by omega)).trans t.1, (same (y := A.ph i) (by omega)).trans t.2.1, (same (y := A.ps i) (by omega)).trans t.2.2⟩
  · have t := T.ntc j hj
    exact ⟨(same (y := A.na j) (by omega)).trans t.1, (same (y := A.nw j) (by omega)).trans t.2.1, (same (y := A.nt j) (by omega)).trans t.2.2⟩
  · show (if x = q then 4 else if x ∈ st.map RE.ad then 6 else τ x) = 8
    rw [if_neg (fun z => by rw [z, q0] at hx; cases hx), if_neg]
    · exact T.base x o (l _ _ hx)
    · intro z
      obtain ⟨e, he, rfl⟩ := List.mem_map.mp z
      rw [(hs e he).2.1] at hx
      cases hx
/-- those of T are told -/
def tellS (R : List PR) (t : Int) (W : WS) (T : List Nat) : WS := fun j => if j ∈ T then tell1 R t (perOf (W j)) (W j) else W j
def toldOf (R : List PR) (W : WS) (t : Int) (es : List RE) : List Nat := (es.filter fun e => tells R W t e.ent).flatMap fun e => leftOf W e.ent
def rowsOf (R : List PR) (W : WS) (t : Int) (es : List RE) : List RowT := (es.filter fun e => tells R W t e.ent).map fun e => rowOf W t e.ent
theorem tellS_heard {R : List PR} {t : Int} {W : WS} {T : List Nat} {j : Nat} : (tellS R t W T j).heard = (W j).heard ∧ (tellS R t W T j).rank = (W j).rank := by
  unfold tellS
  split <;> exact ⟨rfl, rfl⟩
theorem tellS_ms {R : List PR} {t p : Int} {W : WS} {T ms : List Nat} (h : ∀ j ∈ ms, j ∉ T ∧ perOf (W j) = p) : tellMs R t p ms (tellS R t W T) = tellS R t W (T ++ ms) := by
  funext j
  unfold tellMs tellS
  by_cases c : j ∈ ms
  · obtain ⟨h1, h2⟩ := h j c
    rw [if_pos c, if_neg h1, if_pos (List.mem_append_right _ c), h2]
  · rw [if_neg c]
    by_cases d : j ∈ T
    · rw [if_pos d, if_pos (List.mem_append_left _ d)]
    · rw [if_neg d, if_neg (by simp [c, d])]
theorem toldOf_snoc {R : List PR} {W : WS} {t : Int} {a : List RE} {e : RE} : toldOf R W t (a ++ [e]) = toldOf R W t a ++ if tells R W t e.ent = true then leftOf W e.ent else [] := by
  unfold toldOf
  rw [List.filter_append, List.flatMap_append]
  congr 1
  by_cases c : tells R W t e.ent = true
  · rw [if_pos c]; simp [c]
  · rw [if_neg c]; simp [c]
theorem rowsOf_snoc {R : List PR} {W : WS} {t : Int} {a : List RE} {e : RE} : rowsOf R W t (a ++ [e]) = rowsOf R W t a ++ if tells R W t e.ent = true then [rowOf W t e.ent] else [] := by
  unfold rowsOf
  rw [List.filter_append, List.map_append]
  congr 1
  by_cases c : tells R W t e.ent = true
  · rw [if_pos c]; simp [c]
  · rw [if_neg c]; simp [c]
def leftE (W : WS) (e : RE) : Ent := ⟨e.ent.pl, leftOf W e.ent⟩
theorem filt_snoc {α β : Type} {p : α → Bool} {f : α → β} {a : List α} {e : α} : ((a ++ [e]).filter p).map f = (a.filter p).map f ++ if p e = true then [f e] else [] := by
  rw [List.filter_append, List.map_append]
  congr 1
  by_cases c : p e = true
  · rw [if_pos c]; simp [c]
  · rw [if_neg c]; simp [c]
theorem unh_snoc {W : WS} {a : List Nat} {j : Nat} : unh W (a ++ [j]) = unh W a ++ if (W j).heard = none then [j] else [] := by
  unfold unh
  rw [List.filter_append]
  congr 1
  by_cases c : (W j).heard = none
  · rw [if_pos c]; simp [c]
  · rw [if_neg c]
    have : (W j).heard.isNone = false := by
      cases h : (W j).heard with
      | none => exact absurd h c
      | some _ => rfl
    simp [this]
theorem tellS_all {R : List PR} {n : Nat} {W : WS} {t : Int} {hp : List HE} {rd : List RE} (B : Bat n W t (hp.map HE.ent ++ rd.map RE.ent)) (hl : ∀ e ∈ hp, t < e.end_) {j : Nat} (hj : j < n) : tellS R t W (toldOf R W t rd) j = tellW R n W t j := by
  have key : j ∈ toldOf R W t rd ↔ toldNow R n W t j = true := by
    rw [B.tellsI hj]
    unfold toldOf
    rw [List.mem_flatMap]
    constructor
    · rintro ⟨e, he, h1⟩
      obtain ⟨he, h2⟩ := List.mem_filter.mp he
      exact ⟨e.ent, List.mem_append_right _ (List.mem_map_of_mem he), h2, h1⟩
    · rintro ⟨e, he, h1, h2⟩
      rcases List.mem_append.mp he with he | he
      · obtain ⟨f, hf, rfl⟩ := List.mem_map.mp he
        have := hl f hf
        unfold tells at h1
        rw [show decide (f.ent.pl.at_ ≤ t) = false from decide_eq_false (by show ¬ f.end_ ≤ t; omega)] at h1
        cases h1
      · obtain ⟨f, hf, rfl⟩ := List.mem_map.mp he
        exact ⟨f, List.mem_filter.mpr ⟨hf, h1⟩, h2⟩
  unfold tellS
  cases h : toldNow R n W t j with
  | true => rw [if_pos (key.mpr h), tellW_told hj h]
  | false => rw [if_neg (fun z => by rw [key.mp z] at h; cases h), tellW_not h]
def spReady (K : PySem.W.Frag) : SpS := fun vs m _ S => ∃ (m0 : Mem) (A : CAd) (hv : SV) (R : List PR) (N : List NR) (W : WS) (hp : List HE) (rd : List RE) (rows : List RowT) (t : Int), vs = [.ref A.c, .int t] ∧ Cou K m0 m A hv R N W hp rd rows ∧ Bat N.length W t (hp.map HE.ent ++ rd.map RE.ent) ∧ (∀ e ∈ hp, t < e.end_) ∧ (∀ e ∈ rd, e.at_ ≤ t) ∧ (∀ e ∈ rd, 0 ≤ e.per ∧ e.per < R.length) ∧ N.length ≤ 30 ∧ rows.length ≤ 80000 ∧ (∀ j, j < N.length → (W j).told.length ≤ 1000 ∧ 0 ≤ (W j).rank) ∧
  ∀ m' A' rd', A'.c = A.c → Cou K m0 m' A' hv R N (tellW R N.length W t) hp rd' (rows ++ rowsOf R W t rd) → rd'.map RE.ent = (rd.filter fun e => stays R W t e.ent).map (leftE W) → S .non m'
theorem stays_of {R : List PR} {W : WS} {t : Int} {e : RE} (h : e.at_ ≤ t) : stays R W t e.ent = (!(leftOf W e.ent).isEmpty && !letsBy (pr R e.per) (topOf W (leftOf W e.ent)) t) := by
  unfold stays
  rw [show decide (t < e.ent.pl.at_) = false from decide_eq_false (by show ¬ t < e.at_; omega), Bool.false_or]
  rfl
theorem tells_of {R : List PR} {W : WS} {t : Int} {e : RE} (h : e.at_ ≤ t) : tells R W t e.ent = (!(leftOf W e.ent).isEmpty && letsBy (pr R e.per) (topOf W (leftOf W e.ent)) t) := by
  unfold tells
  rw [show decide (e.ent.pl.at_ ≤ t) = true from decide_eq_true h, Bool.true_and]
  rfl
theorem top_of {W : WS} {ms : List Nat} {y : Int} (h0 : ∀ j ∈ ms, 0 ≤ (W j).rank) (h1 : y ∈ ms.map fun j => (W j).rank) (h2 : ∀ z, z ∈ (ms.map fun j => (W j).rank) → z ≤ y) : y = topOf W ms := by
  obtain ⟨j, hj, rfl⟩ := List.mem_map.mp h1
  refine Int.le_antisymm ((top_le.mp (Int.le_refl _)).2 j hj) (top_le.mpr ⟨h0 j hj, fun i hi => h2 _ (List.mem_map_of_mem hi)⟩)
theorem ok_Course_tell_ready (T : Tx K mg) : FnOk P w K mg base CX0 2 (He.ma K (He.ga K "Course") "tell_ready") T.fd_Course_tell_ready ["self", "moment"] (lift K (spReady K)) := by
  have G_Course_tell := ok_Course_tell (P := P) (w := w) (base := base) T
  have b_Course_tell := b_Course_tell T
  have G_Person_lets_by := ok_Person_lets_by (P := P) (w := w) (base := base) T
  have b_Person_lets_by := b_Person_lets_by T
  refine fn_syQ T.F_Course_tell_ready sc_Course_tell_ready (fun svs m SX Sv h => ?_) (fun cdv A outer s H E hr => ⟨_, _, (gss_cons (gs_set (i := 2) sc_Course_tell_ready.nd rfl (.inl rfl) (ge_lst ga_nil))
      (gss_cons (gs_for PassesOwn.never rfl (gi_seq (ge_fld T.c_Course T.n_Course_ready (gv 0))) (gg_tup 2 (by rfl) (ggs_cons (gg_name (i := 3) sc_Course_tell_ready.nd rfl (.inl rfl)) (ggs_cons (gg_name (i := 4) sc_Course_tell_ready.nd rfl (.inl rfl)) ggs_nil)))
      (gss_cons (gs_setLc (i := 5) (own := [("notice", 6)]) (by rfl) sc_Course_tell_ready.nd rfl rfl (sw_true rfl rfl rfl (by decide +kernel)) (gi_seq (gv 4)) (blkOk_by (own := [("notice", 6)]) (N := ["self", "moment", "staying", "person", "notices", "left", "notice"]) (sc := (defScope s_Course_tell_ready)) (by decide +kernel)) (fun _ _ _ _ _ => (gg_name (i := 6) sc_Course_tell_ready.nd rfl (.inl rfl))) (wp_name (by decide)) (fun _ _ _ _ _ => (gts_one (gt_cmp op_isN sim_isN (ge_fld T.c_Notice T.n_Notice_heard (gv 6)) ge_non (nomark _)))) (fun _ _ _ _ _ => (gv 6)))
      (gss_cons (gs_if (gt_not (gt_truL (gv 5))) (gss_one gs_cont) gss_nil)
      (gss_one (gs_if (gt_val (ge_meth T.c_Person T.M_Person_lets_by G_Person_lets_by (hr) b_Person_lets_by .nil (fun _ => .nil) pass0 (ge_ix (ix_G K) sim_ix (ge_fld T.c_Course T.n_Course_persons (gv 0)) (gv 3) (fun _ _ => rfl)) (ga_cons (ge_callB (cr_maxL K) sim_maxL (by rfl) T.z_max (by decide +kernel) (ga_cons (ge_lc (own := [("notice", 6)]) (by rfl) sc_Course_tell_ready.nd (gi_seq (gv 5)) (blkOk_by (own := [("notice", 6)]) (N := ["self", "moment", "staying", "person", "notices", "left", "notice"]) (sc := (defScope s_Course_tell_ready)) (by decide +kernel)) (fun _ _ _ _ _ => (gg_name (i := 6) sc_Course_tell_ready.nd rfl (.inl rfl))) (wp_name (by decide)) (fun _ _ _ _ _ => gts_nil) (fun _ _ _ _ _ => (ge_fld T.c_Notice T.n_Notice_rank (gv 6)))) ga_nil)) (ga_cons (gv 1) ga_nil)))) (gss_one (gs_expr (ge_meth T.c_Course T.M_Course_tell G_Course_tell (hr) b_Course_tell .nil (fun _ => .nil) pass0 (gv 0) (ga_cons (gv 5) (ga_cons (gv 3) (ga_cons (gv 1) ga_nil)))))) (gss_one (gs_expr (ge_bm PySem.F.plainAttrs_list PySem.F.slot_list_append PySem.F.type_list_append mt_append simk_L sim_append (gv 2) (ga_cons (ge_tup (ga_cons (gv 3) (ga_cons (gv 5) ga_nil))) ga_nil)))))))))
      (gss_one (gs_fld T.c_Course T.n_Course_ready (gv 0) (gv 2))))), fun svs m SX Sv h => ?_⟩)
  · obtain ⟨m0, A, hv, R, N, W, hp, rd, rows, t, rfl, _⟩ := h
    rfl
  · obtain ⟨m0, A, hv, R, N, W, hp, rd, rows, t, rfl, C, B, hl, rl, rp, n30, rwl, tr, q⟩ := h
    have rdl : rd.length ≤ 30 := by
      have := B.len
      rw [List.length_append, List.length_map, List.length_map] at this
      omega
    walk_at "r"
    refine ⟨by walk_at "len", fun st hst => ?_⟩
    have C0 := C
    have C := C.local_ (o := .lst []) hst
    have st0 : m0 st = none := C0.le.none hst
    have le0 : Le m0 (up m0 st (.lst [])) := .new (.refl _) st0
    have hs0 : up m0 st (.lst []) st = _ := up_same
    clear C0 hst
    generalize up m0 st (.lst []) = m1 at *
    generalize up m st (.lst []) = m2 at *
    walk_at "r"
    refine ⟨_, _, C.c, cr_ready, _, C.rl, ?_⟩
    refine for_inv (fun r δ m' => ∃ (a b c d : Option SV) (u v : List RE) (m1 : Mem) (ss : List RE), u ++ v = rd ∧ r = v.map RE.sv ∧ δ = [some (.ref A.c), some (.int t), some (.ref st), a, b, c, d] ∧ Le m0 m1 ∧ Cou K m1 m' A hv R N (tellS R t W (toldOf R W t u)) hp rd (rows ++ rowsOf R W t u) ∧ m1 st = some (.lst (ss.map RE.sv)) ∧ (∀ e ∈ ss, m1 e.ad = some (.lst (memS A e.ms)) ∧ m0 e.ad = none ∧ e.ad ≠ st) ∧ (ss.map RE.ad).Nodup ∧ ss.map RE.ent = (u.filter fun e => stays R W t e.ent).map (leftE W)) ⟨none, none, none, none, [], rd, m1, [], rfl, rfl, rfl, le0, by
      rw [show rows ++ rowsOf R W t [] = rows from List.append_nil _, show tellS R t W (toldOf R W t []) = W from by funext j; exact if_neg (List.not_mem_nil)]
      exact C, hs0, fun e h => (nomatch h), List.nodup_nil, rfl⟩ (fun x r δ m' h => ?_) (fun δ m' h => ?_)
    · clear C hs0 le0
      obtain ⟨a, b, c, d, u, v, m1, ss, e, er, rfl, le0, C, hss, hse, hnd, hent⟩ := h
      refine ⟨C.rl, ?_⟩
      cases v with
      | nil => cases er
      | cons z v =>
        obtain ⟨rfl, rfl⟩ := List.cons.inj er
        have hz : z ∈ rd := by rw [← e]; simp
        have hze : z.ent ∈ hp.map HE.ent ++ rd.map RE.ent := List.mem_append_right _ (List.mem_map_of_mem hz)
        have hlt : ∀ j ∈ z.ms, j < N.length := fun j hj => (B.at_ _ hze j hj).1
        have hzl : z.ms.length ≤ 30 := Nat.le_trans (B.msl hze) n30
        walk_at "r"
        refine ⟨rfl, ?_⟩
        walk_at "r"
        refine ⟨_, C.grr z hz, by rw [memS_len]; exact line_le (by omega), fun l hlf => ?_⟩
        have hh : ∀ j, (tellS R t W (toldOf R W t u) j).heard = (W j).heard := fun j => tellS_heard.1
        have hk : ∀ j, (tellS R t W (toldOf R W t u) j).rank = (W j).rank := fun j => tellS_heard.2
        have dsj : ∀ j ∈ z.ms, j ∉ toldOf R W t u := fun j hj hm => by
          have dj := B.disj
          rw [← e, List.map_append, List.pairwise_append] at dj
          have dj := dj.2.1
          rw [List.pairwise_append] at dj
          unfold toldOf at hm
          obtain ⟨f, hf, hm⟩ := List.mem_flatMap.mp hm
          exact dj.2.2 f.ent (List.mem_map_of_mem (List.mem_filter.mp hf).1) z.ent List.mem_cons_self j (unh_mem.mp hm).1 hj
        have ul : u.length ≤ 30 := by rw [← e, List.length_append] at rdl; omega
        have zat := rl z hz
        refine lc_inv (fun r acc m'' => m'' = up m' l (.lst acc) ∧ ∃ a b, a ++ b = z.ms ∧ r = memS A b ∧ acc = memS A (unh W a)) ⟨rfl, [], z.ms, rfl, rfl, rfl⟩ (fun x r acc m'' h => ?_) (fun acc m'' h => ?_)
        · obtain ⟨rfl, a1, b1, e1, hr1, ea1⟩ := h
          cases b1 with
          | nil => cases hr1
          | cons j b1 =>
            obtain ⟨rfl, rfl⟩ := List.cons.inj hr1
            have hj : j < N.length := hlt j (by rw [← e1]; simp)
            refine ⟨kp (C.grr z hz) hlf, ?_⟩
            walk_at "r"
            refine ⟨_, _, kp (C.ntc j hj).1 hlf, nf_heard, ?_⟩
            rw [hh]
            cases hd : (W j).heard with
            | none =>
              walk_at "r"
              walk_at "t"
              walk_at "r"
              refine ⟨up_same, .of ⟨by rw [up_up], a1 ++ [j], b1, by rw [← e1]; simp, rfl, ?_⟩⟩
              rw [unh_snoc, if_pos hd, memS_snoc, ea1]
            | some y =>
              walk_at "r"
              walk_at "f"
              walk_at "r"
              refine .of ⟨rfl, a1 ++ [j], b1, by rw [← e1]; simp, rfl, ?_⟩
              rw [unh_snoc, if_neg (by rw [hd]; exact fun z => nomatch z), List.append_nil, ea1]
        · obtain ⟨rfl, a1, b1, e1, hr1, ea1⟩ := h
          cases b1 with
          | cons j b1 => cases hr1
          | nil =>
          rw [List.append_nil] at e1
          subst e1 ea1
          refine ⟨kp (C.grr z hz) hlf, ?_⟩
          have hlf1 : m1 l = none := C.le.none hlf
          have hlf0 : m0 l = none := le0.none hlf1
          have nst : l ≠ st := Ne.symm (mne hss hlf1)
          have C2 := C.local_ (o := .lst (memS A (leftOf W z.ent))) hlf
          have b2 : up m1 l (.lst (memS A (leftOf W z.ent))) l = _ := up_same
          have le2 : Le m1 (up m1 l (.lst (memS A (leftOf W z.ent)))) := .new (.refl _) hlf1
          have lne : ∀ f ∈ ss, f.ad ≠ l := fun f hf => mne (hse f hf).1 hlf1
          have le20 := le0.trans le2
          have hss2 := le2 _ _ hss
          have hse2 : ∀ f ∈ ss, up m1 l (.lst (memS A (leftOf W z.ent))) f.ad = some (.lst (memS A f.ms)) := fun f hf => le2 _ _ (hse f hf).1
          have el : memS A (unh W z.ms) = memS A (leftOf W z.ent) := rfl
          rw [el]
          generalize up m1 l (.lst (memS A (leftOf W z.ent))) = m3 at *
          generalize up m' l (.lst (memS A (leftOf W z.ent))) = m4 at *
          have pass : tells R W t z.ent = false → stays R W t z.ent = false → Fg (fun m' => ∃ (a0 b0 c0 d0 : Option SV) (u0 v0 : List RE) (m1 : Mem) (ss : List RE), u0 ++ v0 = rd ∧ v.map RE.sv = v0.map RE.sv ∧ [some (SV.ref A.c), some (.int t), some (.ref st), some (.int z.per), some (.ref z.ad), some (.ref l), d] = [some (SV.ref A.c), some (.int t), some (.ref st), a0, b0, c0, d0] ∧ Le m0 m1 ∧ Cou K m1 m' A hv R N (tellS R t W (toldOf R W t u0)) hp rd (rows ++ rowsOf R W t u0) ∧ m1 st = some (.lst (ss.map RE.sv)) ∧ (∀ e ∈ ss, m1 e.ad = some (.lst (memS A e.ms)) ∧ m0 e.ad = none ∧ e.ad ≠ st) ∧ (ss.map RE.ad).Nodup ∧ ss.map RE.ent = (u0.filter fun e => stays R W t e.ent).map (leftE W)) m4 := fun h1 h2 => by
            refine .of ⟨_, _, _, _, u ++ [z], v, m3, ss, by rw [← e]; simp, rfl, rfl, le20, ?_, hss2, fun f hf => ⟨hse2 f hf, (hse f hf).2⟩, hnd, ?_⟩
            · rw [toldOf_snoc, rowsOf_snoc, h1, if_neg Bool.false_ne_true, if_neg Bool.false_ne_true, List.append_nil, List.append_nil]
              exact C2
            · rw [filt_snoc, h2, if_neg Bool.false_ne_true, List.append_nil]
              exact hent
          walk_at "r"
          refine ⟨_, C2.le _ _ b2, ?_⟩
          walk_at "r"
          have ie : (memS A (leftOf W z.ent)).isEmpty = (leftOf W z.ent).isEmpty := by unfold memS; cases leftOf W z.ent <;> rfl
          refine Br_i (fun h1 => ?_) (fun h1 => ?_)
          · have h1 : (leftOf W z.ent).isEmpty = true := by rw [ie] at h1; simpa using h1
            walk_at "r"
            refine pass ?_ ?_
            · rw [tells_of zat, h1]; rfl
            · rw [stays_of zat, h1]; rfl
          · have h1 : (leftOf W z.ent).isEmpty = false := by rw [ie] at h1; simpa using h1
            have lne0 : leftOf W z.ent ≠ [] := fun x => by rw [x] at h1; cases h1
            have sub : ∀ j, j ∈ leftOf W z.ent → j ∈ z.ms := fun j hj => (unh_mem.mp hj).1
            have lll : (leftOf W z.ent).length ≤ 30 := Nat.le_trans (List.length_filter_le _ _) hzl
            have zr := rp z hz
            walk_at "r"
            refine ⟨_, _, C2.c, cr_persons, ?_⟩
            walk_at "r"
            refine ⟨_, _, C2.pl, pl_at zr, ?_⟩
            walk_at "r"
            obtain ⟨ep, eh, _⟩ := C2.per z.per.toNat (by omega)
            rw [cast_toNat zr.1] at ep eh
            refine ⟨_, ep, per_no (by decide), ?_⟩
            walk_at "r"
            refine ⟨_, C2.le _ _ b2, by rw [memS_len]; exact line_le (by omega), fun l2 hl2 => ?_⟩
            refine lc_inv (fun r acc m'' => m'' = up m4 l2 (.lst acc) ∧ ∃ a b, a ++ b = leftOf W z.ent ∧ r = memS A b ∧ acc = (a.map fun j => (W j).rank).map .int) ⟨rfl, [], _, rfl, rfl, rfl⟩ (fun x r acc m'' h => ?_) (fun acc m'' h => ?_)
            · obtain ⟨rfl, a1, b1, e1, hr1, ea1⟩ := h
              cases b1 with
              | nil => cases hr1
              | cons j b1 =>
                obtain ⟨rfl, rfl⟩ := List.cons.inj hr1
                have hj : j < N.length := hlt j (sub j (by rw [← e1]; simp))
                refine ⟨kp (C2.le _ _ b2) hl2, ?_⟩
                walk_at "r"
                walk_at "t"
                walk_at "r"
                refine ⟨_, _, kp (C2.ntc j hj).1 hl2, nf_rank, up_same, .of ⟨by rw [up_up], a1 ++ [j], b1, by rw [← e1]; simp, rfl, ?_⟩⟩
                rw [hk, List.map_append, List.map_append, ea1]
                rfl
            · obtain ⟨rfl, a1, b1, e1, hr1, ea1⟩ := h
              cases b1 with
              | cons j b1 => cases hr1
              | nil =>
              rw [List.append_nil] at e1
              subst ea1
              refine ⟨kp (C2.le _ _ b2) hl2, ?_⟩
              have C3 := C2.mono (.new (o := .lst ((a1.map fun j => (W j).rank).map .int)) (.refl _) hl2)
              walk_at "r"
              refine ⟨_, up_same, by rw [List.length_map, e1]; exact List.length_pos_iff.mpr lne0, fun y hy1 hy2 => ?_⟩
              have ey := top_of (W := W) (fun j hj => (tr j (hlt j (sub j (by rw [← e1]; exact hj)))).2) hy1 hy2
              rw [e1] at ey
              have ep3 := kp (o := .ins (He.ga K "Person") (perF (pr R z.per) (A.ph z.per.toNat) (A.ps z.per.toNat))) (u := .lst ((a1.map fun j => (W j).rank).map .int)) ep hl2
              have eh3 := kp (u := .lst ((a1.map fun j => (W j).rank).map .int)) eh hl2
              generalize up m4 l2 (.lst ((a1.map fun j => (W j).rank).map .int)) = m5 at *
              walk_at "r"
              refine ⟨_, _, _, pr R z.per, y, t, rfl, ep3, eh3, ?_⟩
              subst ey
              walk_at "r"
              refine Br_i (fun h2 => ?_) (fun h2 => ?_)
              · have tz : tells R W t z.ent = true := by rw [tells_of zat, h1, h2]; rfl
                have sz : stays R W t z.ent = false := by rw [stays_of zat, h1, h2]; rfl
                walk_at "r"
                refine ⟨_, C3.c, cr_tell, ?_⟩
                walk_at "r"
                refine ⟨m3, A, hv, R, N, tellS R t W (toldOf R W t u), hp, rd, rows ++ rowsOf R W t u, l, leftOf W z.ent, z.per, t, rfl, C3, b2, (B.nd _ hze).filter _, fun j hj => hlt j (sub j hj), zr, n30, ?_, fun j hj => ?_, fun m' C' => .of ⟨_, _, _, _, u ++ [z], v, m3, ss, by rw [← e]; simp, rfl, rfl, le20, ?_, hss2, fun f hf => ⟨hse2 f hf, (hse f hf).2⟩, hnd, ?_⟩⟩
                · rw [List.length_append]
                  have : (rowsOf R W t u).length ≤ u.length := by unfold rowsOf; rw [List.length_map]; exact List.length_filter_le _ _
                  omega
                · have : tellS R t W (toldOf R W t u) j = W j := if_neg (dsj j (sub j hj))
                  rw [this]
                  exact (tr j (hlt j (sub j hj))).1
                · rw [toldOf_snoc, rowsOf_snoc, tz, if_pos rfl, if_pos rfl, ← List.append_assoc]
                  rw [tellS_ms fun j hj => ⟨dsj j (sub j hj), by unfold perOf; rw [(B.at_ _ hze j (sub j hj)).2]; rfl⟩] at C'
                  exact C'
                · rw [filt_snoc, sz, if_neg Bool.false_ne_true, List.append_nil]
                  exact hent
              · have tz : tells R W t z.ent = false := by rw [tells_of zat, h1, h2]; rfl
                have sz : stays R W t z.ent = true := by rw [stays_of zat, h1, h2]; rfl
                walk_at "r"
                refine ⟨⟨_, C3.le _ _ hss2⟩, ?_⟩
                walk_at "r"
                refine ⟨by walk_at "len", ?_⟩
                walk_at "r"
                have ssl : ss.length ≤ 30 := by
                  have := congrArg List.length hent
                  rw [List.length_map, List.length_map] at this
                  have h3 := List.length_filter_le (fun e : RE => stays R W t e.ent) u
                  omega
                refine ⟨_, C3.le _ _ hss2, line_le (by rw [List.length_map]; omega), ?_⟩
                have e3 : (ss ++ [(⟨z.per, z.key, z.at_, l, leftOf W z.ent⟩ : RE)]).map RE.sv = ss.map RE.sv ++ [.tup [.int z.per, .ref l]] := by rw [List.map_append]; rfl
                have C4 := C3.baseSet (o' := .lst (ss.map RE.sv ++ [.tup [.int z.per, .ref l]])) hss2
                refine .of ⟨_, _, _, _, u ++ [z], v, up m3 st (.lst (ss.map RE.sv ++ [.tup [.int z.per, .ref l]])), ss ++ [⟨z.per, z.key, z.at_, l, leftOf W z.ent⟩], by rw [← e]; simp, rfl, rfl, le20.over st0, ?_, by rw [e3]; exact up_same, fun f hf => ?_, ?_, ?_⟩
                · rw [toldOf_snoc, rowsOf_snoc, tz, if_neg Bool.false_ne_true, if_neg Bool.false_ne_true, List.append_nil, List.append_nil]
                  exact C4
                · rcases List.mem_append.mp hf with hf | hf
                  · exact ⟨(up_ne (hse f hf).2.2).trans (hse2 f hf), (hse f hf).2⟩
                  · rw [List.mem_singleton.mp hf]
                    exact ⟨(up_ne nst).trans b2, hlf0, nst⟩
                · rw [List.map_append, List.nodup_append]
                  refine ⟨hnd, List.pairwise_singleton _ _, fun a ha b hb => ?_⟩
                  rw [show b = l from List.mem_singleton.mp hb]
                  obtain ⟨f, hf, rfl⟩ := List.mem_map.mp ha
                  exact lne f hf
                · rw [filt_snoc, sz, if_pos rfl, List.map_append, hent]
                  rfl
    · obtain ⟨a, b, c, d, u, v, m1, ss, e, er, rfl, le0, C9, hss, hse, hnd, hent⟩ := h
      refine ⟨C9.rl, ?_⟩
      cases v with
      | cons z v => cases er
      | nil =>
      rw [List.append_nil] at e
      subst e
      walk_at "r"
      refine ⟨_, C9.c, (by decide : 6 < 1000), ?_⟩
      rw [crs_ready]
      have C8 := C9.newRd le0 hss st0 hse hnd
      refine .of (q _ (wRl A st) ss rfl (C8.congr fun j hj => ?_) hent)
      rw [tellS_all B hl hj]
      exact ⟨rfl, rfl, rfl, rfl, rfl, rfl⟩
end
end Hn

set_option Elab.async false
set_option linter.all false
set_option maxRecDepth 100000
set_option maxHeartbeats 8000000
namespace Hn
open PySem PySem.Spec PyProof.Rows L2 Sy Lm
section
variable {P : Program} {w : World} {K : PySem.W.Frag} {mg : Str → Option Value} {base : Heap}
local macro_rules | `(tactic| walk_at "r") => `(tactic| (conv => whnf))
local macro_rules | `(tactic| walk_at "sp") => `(tactic| (first | rfl | contradiction | exact (False.elim ‹_›)))
local macro_rules | `(tactic| walk_at "len") => `(tactic| (exact Nat.le_trans (show _ ≤ 100000 by first | (simp; done) | (rw [rngS_length]; decide)) (by decide)))
local macro_rules | `(tactic| walk_at "f") => `(tactic| (refine Br_i (fun hb => Bool.noConfusion (show false = true from hb)) (fun _ => ?_)))
local macro_rules | `(tactic| walk_at "t") => `(tactic| (refine Br_i (fun _ => ?_) (fun hb => Bool.noConfusion (show true = false from hb))))
local macro_rules | `(tactic| walk_at "le") => `(tactic| first | exact Le.refl _ | (refine Le.put ?_; walk_at "le") | (refine Le.new ?_ (by assumption); walk_at "le"))
/-! what the walk keeps, entries and all -/
def ents (hp : List HE) (rd : List RE) : List Ent := hp.map HE.ent ++ rd.map RE.ent
structure Ah (N : List NR) (W : WS) (t : Int) (hp : List HE) (rd : List RE) : Prop where
  b : Bat N.length W (t - 1) (ents hp rd)
  hk : hp.Pairwise keyNe
  hl : ∀ e ∈ hp, t ≤ e.end_
  rl : ∀ e ∈ rd, e.at_ < t
structure Ev (N : List NR) (W : WS) (t : Int) (hp : List HE) (rd : List RE) : Prop where
  b : Bat N.length W t (ents hp rd)
  hk : hp.Pairwise keyNe
  hl : ∀ e ∈ hp, t < e.end_
  rl : ∀ e ∈ rd, e.at_ ≤ t
theorem Ah.ini {N : List NR} {t : Int} : Ah N (ini N) t [] [] := ⟨Bat.ini, .nil, fun e h => (nomatch h), fun e h => (nomatch h)⟩
theorem Ah.hear {N : List NR} {t u : Int} {hp : List HE} {rd : List RE} : ∀ (hs : List Hr) {W : WS}, Ah N W t hp rd → Ah N (hearW hs W u) t hp rd
  | [], _, A => A
  | h :: hs, W, A => Ah.hear hs (W := hear1 W u h) ⟨A.b.hear1 h u, A.hk, A.hl, A.rl⟩
theorem ents_len {N : List NR} {W : WS} {t : Int} {hp : List HE} {rd : List RE} (B : Bat N.length W t (ents hp rd)) : hp.length + rd.length ≤ N.length := by
  have := B.len
  unfold ents at this
  rw [List.length_append, List.length_map, List.length_map] at this
  exact this
theorem Ah.shut {N : List NR} {W : WS} {t : Int} {hp : List HE} {rd : List RE} (A : Ah N W t hp rd) : Ev N W t (shutH t hp) (rd ++ shutR t hp) := by
  have pm : (ents (shutH t hp) (rd ++ shutR t hp)).Perm (ents hp rd) := by
    unfold ents shutR
    rw [List.map_append, List.map_map]
    have e : (RE.ent ∘ HE.re) = HE.ent := rfl
    rw [e]
    have h1 : ((hp.filter fun e => decide (e.end_ = t)).map HE.ent ++ (shutH t hp).map HE.ent).Perm (hp.map HE.ent) := by
      rw [← List.map_append]
      exact (List.filter_append_perm _ _).map _
    refine List.Perm.trans ?_ (h1.append_right (rd.map RE.ent))
    rw [← List.append_assoc, List.append_assoc (List.map HE.ent (List.filter (fun e => decide (e.end_ = t)) hp))]
    exact List.perm_append_comm
  refine ⟨(A.b.time (by omega)).perm pm, A.hk.filter _, fun e he => ?_, fun e he => ?_⟩
  · obtain ⟨h1, h2⟩ := List.mem_filter.mp he
    have h3 := A.hl e h1
    have h4 : ¬ e.end_ = t := by simpa using h2
    omega
  · rcases List.mem_append.mp he with he | he
    · exact Int.le_of_lt (A.rl e he)
    · unfold shutR at he
      obtain ⟨f, hf, rfl⟩ := List.mem_map.mp he
      have h2 := of_decide_eq_true (List.mem_filter.mp hf).2
      show f.end_ ≤ t
      omega

theorem place_one {R : List PR} {n : Nat} {W : WS} {p k rank t : Int} (h : spanOf (pr R p).gs k = none ∨ rank = 3) : placeOf R n W p k rank t = ⟨p, none, t⟩ := by
  unfold placeOf
  split
  · rfl
  · next s hs =>
    rcases h with h | h
    · rw [hs] at h; cases h
    · rw [if_pos h]
theorem place_heap {R : List PR} {n : Nat} {W : WS} {p k rank t s : Int} (h : spanOf (pr R p).gs k = some s) (h2 : rank ≠ 3) : placeOf R n W p k rank t = ⟨p, some k, (openAt n W p k t).getD (t + s)⟩ := by
  unfold placeOf
  rw [h]
  simp only
  rw [if_neg h2]
theorem Ev.bring {R : List PR} (ok : RulesOk R) {N : List NR} {W : WS} {t p : Int} {U : Nat → Prop} {hp hp' : List HE} {rd rd' : List RE} {j : Nat} (E : Ev N W t hp rd) (G : Good R N W t U) (hj : j < N.length) (hp0 : 0 ≤ p ∧ p < R.length) (hpl : (W j).place = none) (b : Brg R N W j p t hp rd hp' rd') : Ev N (bringW R N W j p t) t hp' rd' := by
  unfold bringW
  cases b with
  | one ad h =>
    rw [place_one h]
    refine ⟨?_, E.hk, E.hl, fun e he => ?_⟩
    · have z := E.b.new1 hj (x := xPut (W j) p ⟨p, none, t⟩) (pl := ⟨p, none, t⟩) hpl rfl (.inl rfl)
      have e : ents hp (rd ++ [(⟨p, none, t, ad, [j]⟩ : RE)]) = ents hp rd ++ [⟨⟨p, none, t⟩, [j]⟩] := by
        unfold ents
        rw [List.map_append, ← List.append_assoc]
        rfl
      rw [e]
      exact z
    · rcases List.mem_append.mp he with he | he
      · exact E.rl e he
      · rw [List.mem_singleton.mp he]; exact Int.le_refl _
  | join l r e s h h1 h2 h3 h4 =>
    rw [place_heap h3 h4]
    have me : e ∈ hp := by rw [h]; simp
    have ee : e.ent ∈ ents hp rd := List.mem_append_left _ (List.mem_map_of_mem me)
    have pe : e.ent.pl = ⟨p, some (ntc N j).kind, e.end_⟩ := by rw [← h1, ← h2]; rfl
    obtain ⟨i, hi⟩ := List.exists_mem_of_ne_nil _ (E.b.ne _ ee)
    obtain ⟨hi1, hi2⟩ := E.b.at_ _ ee i hi
    rw [pe] at hi2
    have op := openAt_of G hi1 hi2 (E.hl e me)
    rw [op]
    have hl2 : ∀ f ∈ l ++ (⟨e.per, e.kind, e.end_, e.ad, e.ms ++ [j]⟩ : HE) :: r, ∃ g ∈ hp, f.per = g.per ∧ f.kind = g.kind ∧ f.end_ = g.end_ := fun f hf => by
      rcases List.mem_append.mp hf with hf | hf
      · exact ⟨f, by rw [h]; exact List.mem_append_left _ hf, rfl, rfl, rfl⟩
      · rcases List.mem_cons.mp hf with rfl | hf
        · exact ⟨e, me, rfl, rfl, rfl⟩
        · exact ⟨f, by rw [h]; exact List.mem_append_right _ (List.mem_cons_of_mem _ hf), rfl, rfl, rfl⟩
    refine ⟨?_, ?_, fun f hf => ?_, E.rl⟩
    · have e0 : ents hp rd = l.map HE.ent ++ e.ent :: (r.map HE.ent ++ rd.map RE.ent) := by
        unfold ents
        rw [h, List.map_append, List.map_cons, List.append_assoc]
        rfl
      have B := E.b
      rw [e0] at B
      have z := B.join hj (x := xPut (W j) p ⟨p, some (ntc N j).kind, e.end_⟩) hpl (by rw [pe]; rfl) (by rw [pe]; exact fun z => nomatch z)
      have e1 : ents (l ++ (⟨e.per, e.kind, e.end_, e.ad, e.ms ++ [j]⟩ : HE) :: r) rd = l.map HE.ent ++ ⟨e.ent.pl, e.ent.ms ++ [j]⟩ :: (r.map HE.ent ++ rd.map RE.ent) := by
        unfold ents
        rw [List.map_append, List.map_cons, List.append_assoc]
        rfl
      rw [e1]
      exact z
    · have z := E.hk
      rw [h] at z
      rw [List.pairwise_append] at z ⊢
      obtain ⟨a1, a2, a3⟩ := z
      obtain ⟨a4, a5⟩ := List.pairwise_cons.mp a2
      refine ⟨a1, List.pairwise_cons.mpr ⟨fun f hf => a4 f hf, a5⟩, fun f hf g hg => ?_⟩
      rcases List.mem_cons.mp hg with rfl | hg
      · exact a3 f hf e List.mem_cons_self
      · exact a3 f hf g (List.mem_cons_of_mem _ hg)
    · obtain ⟨g, hg, _, _, q⟩ := hl2 f hf
      rw [q]
      exact E.hl g hg
  | new ad s h3 h4 h5 =>
    rw [place_heap h3 h4]
    have sp := span_pos ok hp0 h3
    have op : openAt N.length W p (ntc N j).kind t = none := by
      cases q : openAt N.length W p (ntc N j).kind t with
      | none => rfl
      | some r =>
        obtain ⟨i, hi, h6, h7⟩ := openAt_some q
        obtain ⟨e, he, e1, e2⟩ := E.b.all i hi _ h6 (.inr h7)
        rcases List.mem_append.mp he with he | he
        · obtain ⟨f, hf, rfl⟩ := List.mem_map.mp he
          have e1 : (⟨f.per, some f.kind, f.end_⟩ : Pl) = ⟨p, some (ntc N j).kind, r⟩ := e1
          injection e1 with z1 z2 z3
          injection z2 with z2
          exact absurd ⟨z1, z2⟩ (h5 f hf)
        · obtain ⟨f, hf, rfl⟩ := List.mem_map.mp he
          have e1 : (⟨f.per, f.key, f.at_⟩ : Pl) = ⟨p, some (ntc N j).kind, r⟩ := e1
          injection e1 with z1 z2 z3
          have := E.rl f hf
          omega
    rw [op]
    show Ev N (setW W j (xPut (W j) p ⟨p, some (ntc N j).kind, t + s⟩)) t _ _
    refine ⟨?_, ?_, fun e he => ?_, E.rl⟩
    · have z := E.b.new1 hj (x := xPut (W j) p ⟨p, some (ntc N j).kind, t + s⟩) (pl := ⟨p, some (ntc N j).kind, t + s⟩) hpl rfl (.inr fun e he q => by
        rcases List.mem_append.mp he with he | he
        · obtain ⟨f, hf, rfl⟩ := List.mem_map.mp he
          have q : (⟨f.per, some f.kind, f.end_⟩ : Pl) = ⟨p, some (ntc N j).kind, t + s⟩ := q
          injection q with z1 z2 z3
          injection z2 with z2
          exact h5 f hf ⟨z1, z2⟩
        · obtain ⟨f, hf, rfl⟩ := List.mem_map.mp he
          have q : (⟨f.per, f.key, f.at_⟩ : Pl) = ⟨p, some (ntc N j).kind, t + s⟩ := q
          injection q with z1 z2 z3
          have := E.rl f hf
          omega)
      refine z.perm ?_
      unfold ents
      rw [List.map_append, List.append_assoc, List.append_assoc]
      exact List.Perm.append_left _ List.perm_append_comm
    · rw [List.pairwise_append]
      refine ⟨E.hk, List.pairwise_singleton _ _, fun a ha b hb => ?_⟩
      rw [List.mem_singleton.mp hb]
      exact h5 a ha
    · rcases List.mem_append.mp he with he | he
      · exact E.hl e he
      · rw [List.mem_singleton.mp he]
        show t < t + s
        omega
theorem Good.up {R : List PR} {N : List NR} {W : WS} {t : Int} {U : Nat → Prop} (G : Good R N W t U) {j : Nat} (hj : j < N.length) (hd : (W j).due = some t) : Good R N (setW W j (xUp (W j))) t U := by
  have hU : ¬ U j := fun z => by
    have e := G.un j hj z
    rw [e] at hd
    cases hd
  have rk := G.rk j hj
  exact G.setK hU (fun _ => ⟨G.nd j hj, G.rg j hj, G.tl j hj, G.ti j hj, G.pl j hj, (fun d z => nomatch z), by show 0 ≤ min ((W j).rank + 1) 3 ∧ min ((W j).rank + 1) 3 ≤ 3; omega⟩) fun pl h => .inl h
theorem Ev.send {R : List PR} (ok : RulesOk R) {N : List NR} {W : WS} {t : Int} {U : Nat → Prop} {hp hp' : List HE} {rd rd' : List RE} {j : Nat} (E : Ev N W t hp rd) (G : Good R N W t U) (hj : j < N.length) (hd : (W j).due = some t) (s : Snd R N W j t hp rd hp' rd') : Ev N (sendW R N W j t) t hp' rd' := by
  obtain ⟨h1, h2, h3⟩ := G.du j hj t hd
  cases s with
  | stop h =>
    have e : sendW R N W j t = setW W j (xGone (W j)) := by
      unfold sendW
      rcases h with h | ⟨q, z1, z2⟩
      · rw [h]
      · rw [z1]; exact if_pos z2
    rw [e]
    exact ⟨E.b.setK rfl (fun z => z), E.hk, E.hl, E.rl⟩
  | go q h g b =>
    have e : sendW R N W j t = bringW R N (setW W j (xUp (W j))) j q t := by
      unfold sendW
      rw [h]
      exact if_neg g
    rw [e]
    have hl : (W j).went.getLastD 0 ∈ (W j).went := by
      rw [List.getLastD_eq_getLast?]
      cases z : (W j).went.getLast? with
      | none => exact absurd (List.getLast?_eq_none_iff.mp z) h3
      | some a => exact List.mem_of_getLast? z
    have hr := G.rg j hj _ hl
    refine Ev.bring ok (W := setW W j (xUp (W j))) ⟨E.b.setK rfl (fun z => z), E.hk, E.hl, E.rl⟩ (G.up hj hd) hj ((ok.all _ (pr_mem hr)).fu q h) (by rw [setW_same]; exact h1) b
/-- what is told by the entries, what stays -/
theorem Ev.tell {R : List PR} {N : List NR} {W : WS} {t : Int} {hp : List HE} {rd rd' : List RE} (E : Ev N W t hp rd) (h : rd'.map RE.ent = (rd.filter fun e => stays R W t e.ent).map (leftE W)) : Ah N (tellW R N.length W t) (t + 1) hp rd' := by
  have z := E.b.stay (R := R) (fun e => decide (e.pl.at_ ≤ t)) fun e h => of_decide_eq_true h
  have e1 : (((ents hp rd).filter (stays R W t)).map fun e => if decide (e.pl.at_ ≤ t) = true then (⟨e.pl, leftOf W e⟩ : Ent) else e) = ents hp rd' := by
    unfold ents
    rw [List.filter_append, List.map_append, h]
    congr 1
    · rw [List.filter_eq_self.mpr, List.map_map]
      · refine List.map_congr_left fun e he => ?_
        have := E.hl e he
        show (if decide (e.ent.pl.at_ ≤ t) = true then (⟨e.ent.pl, leftOf W e.ent⟩ : Ent) else e.ent) = e.ent
        rw [decide_eq_false (show ¬ e.ent.pl.at_ ≤ t by show ¬ e.end_ ≤ t; omega), if_neg Bool.false_ne_true]
      · intro e he
        obtain ⟨f, hf, rfl⟩ := List.mem_map.mp he
        have := E.hl f hf
        unfold stays
        rw [decide_eq_true (show t < f.ent.pl.at_ from this), Bool.true_or]
    · rw [List.filter_map, List.map_map]
      refine List.map_congr_left fun e he => ?_
      have := E.rl e (List.mem_filter.mp he).1
      show (if decide (e.ent.pl.at_ ≤ t) = true then (⟨e.ent.pl, leftOf W e.ent⟩ : Ent) else e.ent) = leftE W e
      rw [decide_eq_true (show e.ent.pl.at_ ≤ t from this), if_pos rfl]
      rfl
  rw [e1] at z
  refine ⟨z.time (by omega), E.hk, fun e he => by have := E.hl e he; omega, fun e he => ?_⟩
  have m : e.ent ∈ rd'.map RE.ent := List.mem_map_of_mem he
  rw [h] at m
  obtain ⟨f, hf, q⟩ := List.mem_map.mp m
  have := E.rl f (List.mem_filter.mp hf).1
  have q : f.at_ = e.at_ := congrArg (fun e : Ent => e.pl.at_) q
  omega
theorem Ev.rows {R : List PR} {N : List NR} {W : WS} {t : Int} {hp : List HE} {rd : List RE} (E : Ev N W t hp rd) : (rowsOf R W t rd).Perm (rowsW R N.length W t) := by
  have z := E.b.rows (R := R)
  have e : ((ents hp rd).filter (tells R W t)).map (rowOf W t) = rowsOf R W t rd := by
    unfold ents rowsOf
    rw [List.filter_append, List.map_append, List.filter_eq_nil_iff.mpr, List.map_nil, List.nil_append, List.filter_map, List.map_map]
    · rfl
    · intro e he
      obtain ⟨f, hf, rfl⟩ := List.mem_map.mp he
      have := E.hl f hf
      unfold tells
      rw [decide_eq_false (show ¬ f.ent.pl.at_ ≤ t by show ¬ f.end_ ≤ t; omega), Bool.false_and]
      exact Bool.false_ne_true
  rw [e] at z
  exact z
theorem went_len {R : List PR} {N : List NR} {W : WS} {t : Int} {U : Nat → Prop} (ok : RulesOk R) (G : Good R N W t U) {j : Nat} (hj : j < N.length) : (W j).went.length ≤ 6 := by
  have h6 := ok.six
  have z := nod_few' R.length ((W j).went.map Int.toNat) (by
    refine List.pairwise_map.mpr (List.Pairwise.imp_of_mem (fun {a b} ha hb h z => h ?_) (G.nd j hj))
    have h1 := G.rg j hj a ha
    have h2 := G.rg j hj b hb
    omega) (fun x hx => by
    obtain ⟨p, hp, rfl⟩ := List.mem_map.mp hx
    have := G.rg j hj p hp
    omega)
  rw [List.length_map] at z
  omega
theorem told_len {R : List PR} {N : List NR} {W : WS} {t : Int} {U : Nat → Prop} (ok : RulesOk R) (G : Good R N W t U) {j : Nat} (hj : j < N.length) : (W j).told.length ≤ 6 := by
  have h1 := went_len ok G hj
  have h2 := G.tl j hj
  omega
end
end Hn

set_option Elab.async false
set_option linter.all false
set_option maxRecDepth 100000
set_option maxHeartbeats 8000000
namespace Hn
open PySem PySem.Spec PyProof.Rows L2 Sy Lm
section
variable {P : Program} {w : World} {K : PySem.W.Frag} {mg : Str → Option Value} {base : Heap}
local macro_rules | `(tactic| walk_at "r") => `(tactic| (conv => whnf))
local macro_rules | `(tactic| walk_at "sp") => `(tactic| (first | rfl | contradiction | exact (False.elim ‹_›)))
local macro_rules | `(tactic| walk_at "len") => `(tactic| (exact Nat.le_trans (show _ ≤ 100000 by first | (simp; done) | (rw [rngS_length]; decide)) (by decide)))
local macro_rules | `(tactic| walk_at "f") => `(tactic| (refine Br_i (fun hb => Bool.noConfusion (show false = true from hb)) (fun _ => ?_)))
local macro_rules | `(tactic| walk_at "t") => `(tactic| (refine Br_i (fun _ => ?_) (fun hb => Bool.noConfusion (show true = false from hb))))
local macro_rules | `(tactic| walk_at "le") => `(tactic| first | exact Le.refl _ | (refine Le.put ?_; walk_at "le") | (refine Le.new ?_ (by assumption); walk_at "le"))
def mvTo (R : List PR) (N : List NR) (W : WS) (t : Int) (k : Nat) : WS := (List.range k).foldl (fun W j => if (W j).due = some t then sendW R N W j t else W) W
def bnTo (R : List PR) (N : List NR) (W : WS) (t : Int) (k : Nat) : WS := (List.range k).foldl (fun W j => if (ntc N j).born = t then bringW R N W j (ntc N j).per t else W) W
theorem mvTo_succ {R : List PR} {N : List NR} {W : WS} {t : Int} {k : Nat} : mvTo R N W t (k + 1) = if (mvTo R N W t k k).due = some t then sendW R N (mvTo R N W t k) k t else mvTo R N W t k := by
  unfold mvTo
  rw [List.range_succ, List.foldl_append]
  rfl
theorem bnTo_succ {R : List PR} {N : List NR} {W : WS} {t : Int} {k : Nat} : bnTo R N W t (k + 1) = if (ntc N k).born = t then bringW R N (bnTo R N W t k) k (ntc N k).per t else bnTo R N W t k := by
  unfold bnTo
  rw [List.range_succ, List.foldl_append]
  rfl
theorem Good.bnTo {R : List PR} {N : List NR} (no : NtOk R N) {W : WS} {t : Int} (G : Good R N W t fun j => t ≤ (ntc N j).born) : ∀ k, k ≤ N.length → Good R N (bnTo R N W t k) t (Yet N t ((List.range N.length).drop k))
  | 0, _ => G.weak fun j hj => by
    rcases hj with hj | hj <;> omega
  | k + 1, hk => by
    have z := Good.bnTo no G k (by omega)
    have e : (List.range N.length).drop k = k :: (List.range N.length).drop (k + 1) := by
      rw [List.drop_eq_getElem_cons (by rw [List.length_range]; omega), List.getElem_range]
    rw [e] at z
    have nd : (k :: (List.range N.length).drop (k + 1)).Nodup := by rw [← e]; exact List.nodup_range.sublist (List.drop_sublist _ _)
    have z := Good.born1 no (by omega) (List.nodup_cons.mp nd).1 z
    rw [bnTo_succ]
    exact z
structure HrIn (m0 : Mem) (hv : SV) (N : List NR) (hs : List Hr) : Prop where
  its : Its m0 hv (hs.map hrS)
  inr : ∀ h ∈ hs, 0 ≤ h.2.2 ∧ h.2.2 < N.length
def spPass (K : PySem.W.Frag) : SpS := fun vs m _ S => ∃ (m0 : Mem) (A : CAd) (hv : SV) (R : List PR) (N : List NR) (W : WS) (hp : List HE) (rd : List RE) (rows : List RowT) (hs : List Hr) (t : Int), vs = [.ref A.c, .int t] ∧ Cou K m0 m A hv R N W hp rd rows ∧ Ah N W t hp rd ∧ Good R N W t (fun j => t ≤ (ntc N j).born) ∧ RulesOk R ∧ NtOk R N ∧ HrIn m0 hv N hs ∧ rows.length ≤ 80000 ∧
  ∀ m' A' hp' rd' now, A'.c = A.c → Cou K m0 m' A' hv R N (stepW R N hs W t) hp' rd' (rows ++ now) → now.Perm (rowsW R N.length (beforeTell R N hs W t) t) → Ah N (stepW R N hs W t) (t + 1) hp' rd' → S .non m'
theorem rng_drop {A : CAd} {n k : Nat} (h : k < n) : ((List.range n).drop k).map (fun j => SV.ref (A.na j)) = .ref (A.na k) :: ((List.range n).drop (k + 1)).map fun j => .ref (A.na j) := by
  rw [List.drop_eq_getElem_cons (by rw [List.length_range]; omega), List.getElem_range]
  rfl
theorem rng_done {A : CAd} {n k : Nat} (h : n ≤ k) : ((List.range n).drop k).map (fun j => SV.ref (A.na j)) = [] := by
  rw [List.drop_eq_nil_of_le (by rw [List.length_range]; exact h)]
  rfl
theorem ok_Course_pass_moment (T : Tx K mg) : FnOk P w K mg base CX0 3 (He.ma K (He.ga K "Course") "pass_moment") T.fd_Course_pass_moment ["self", "moment"] (lift K (spPass K)) := by
  have G_Course_bring := ok_Course_bring (P := P) (w := w) (base := base) T
  have b_Course_bring := b_Course_bring T
  have G_Course_send_on := ok_Course_send_on (P := P) (w := w) (base := base) T
  have b_Course_send_on := b_Course_send_on T
  have G_Course_shut_heaps := ok_Course_shut_heaps (P := P) (w := w) (base := base) T
  have b_Course_shut_heaps := b_Course_shut_heaps T
  have G_Course_take_hears := ok_Course_take_hears (P := P) (w := w) (base := base) T
  have b_Course_take_hears := b_Course_take_hears T
  have G_Course_tell_ready := ok_Course_tell_ready (P := P) (w := w) (base := base) T
  have b_Course_tell_ready := b_Course_tell_ready T
  refine fn_syQ T.F_Course_pass_moment sc_Course_pass_moment (fun svs m SX Sv h => ?_) (fun cdv A outer s H E hr => ⟨_, _, (gss_cons (gs_expr (ge_meth T.c_Course T.M_Course_take_hears G_Course_take_hears (hr.mono (by decide)) b_Course_take_hears .nil (fun _ => .nil) pass0 (gv 0) (ga_cons (gv 1) ga_nil)))
      (gss_cons (gs_expr (ge_meth T.c_Course T.M_Course_shut_heaps G_Course_shut_heaps (hr.mono (by decide)) b_Course_shut_heaps .nil (fun _ => .nil) pass0 (gv 0) (ga_cons (gv 1) ga_nil)))
      (gss_cons (gs_for PassesOwn.never rfl (gi_seq (ge_fld T.c_Course T.n_Course_notices (gv 0))) (gg_name (i := 2) sc_Course_pass_moment.nd rfl (.inl rfl))
      (gss_one (gs_if (gt_cmp (op_eqG K hr.units) sim_eq (ge_fld T.c_Notice T.n_Notice_goes_on (gv 2)) (gv 1) (nomark _)) (gss_one (gs_expr (ge_meth T.c_Course T.M_Course_send_on G_Course_send_on (hr) b_Course_send_on .nil (fun _ => .nil) pass0 (gv 0) (ga_cons (gv 2) (ga_cons (gv 1) ga_nil))))) gss_nil)))
      (gss_cons (gs_for PassesOwn.never rfl (gi_seq (ge_fld T.c_Course T.n_Course_notices (gv 0))) (gg_name (i := 2) sc_Course_pass_moment.nd rfl (.inl rfl))
      (gss_one (gs_if (gt_cmp (op_eqG K hr.units) sim_eq (ge_fld T.c_Notice T.n_Notice_born (gv 2)) (gv 1) (nomark _)) (gss_one (gs_expr (ge_meth T.c_Course T.M_Course_bring G_Course_bring (hr.mono (by decide)) b_Course_bring .nil (fun _ => .nil) pass0 (gv 0) (ga_cons (gv 2) (ga_cons (ge_fld T.c_Notice T.n_Notice_first (gv 2)) (ga_cons (gv 1) ga_nil)))))) gss_nil)))
      (gss_one (gs_expr (ge_meth T.c_Course T.M_Course_tell_ready G_Course_tell_ready (hr) b_Course_tell_ready .nil (fun _ => .nil) pass0 (gv 0) (ga_cons (gv 1) ga_nil)))))))), fun svs m SX Sv h => ?_⟩)
  · obtain ⟨m0, A, hv, R, N, W, hp, rd, rows, hs, t, rfl, _⟩ := h
    rfl
  · obtain ⟨m0, A, hv, R, N, W, hp, rd, rows, hs, t, rfl, C, a0, G, ok, no, hi, rl, q⟩ := h
    have n30 := no.len
    walk_at "r"
    refine ⟨_, C.c, cr_take, ?_⟩
    walk_at "r"
    refine ⟨m0, A, hv, R, N, W, hp, rd, rows, hs, t, rfl, C, hi.its, hi.inr, fun m1 C1 => ?_⟩
    have a1 := a0.hear hs (u := t)
    have G1 := G.hears hs
    have E := a1.shut
    have le1 := ents_len a1.b
    walk_at "r"
    refine ⟨_, C1.c, cr_shut, ?_⟩
    walk_at "r"
    refine ⟨m0, A, hv, R, N, hearW hs W t, hp, rd, rows, t, rfl, C1, a1.hk, by omega, by omega, fun m2 C2 => ?_⟩
    generalize ehp : shutH t hp = hp2 at *
    generalize erd : rd ++ shutR t hp = rd2 at *
    clear C C1
    walk_at "r"
    refine ⟨_, _, C2.c, cr_notices, _, C2.nl, ?_⟩
    refine for_inv (fun r δ m' => ∃ (x : Option SV) (k : Nat) (hp : List HE) (rd : List RE), k ≤ N.length ∧ r = ((List.range N.length).drop k).map (fun j => .ref (A.na j)) ∧ δ = [some (.ref A.c), some (.int t), x] ∧ Cou K m0 m' A hv R N (mvTo R N (hearW hs W t) t k) hp rd rows ∧ Ev N (mvTo R N (hearW hs W t) t k) t hp rd) ⟨none, 0, hp2, rd2, Nat.zero_le _, rfl, rfl, C2, E⟩ (fun x r δ m' h => ?_) (fun δ m' h => ?_)
    · obtain ⟨x0, k, hp, rd, hk, hr, rfl, C, E⟩ := h
      refine ⟨C.nl, ?_⟩
      have hk2 : k < N.length := by
        by_cases c : k < N.length
        · exact c
        · rw [rng_done (by omega)] at hr; cases hr
      rw [rng_drop hk2] at hr
      obtain ⟨rfl, rfl⟩ := List.cons.inj hr
      have Gk : Good R N (mvTo R N (hearW hs W t) t k) t (fun j => t ≤ (ntc N j).born) := Good.moves ok (List.range k) (fun j hj => by have := List.mem_range.mp hj; omega) G1
      have le2 := ents_len E.b
      walk_at "r"
      refine ⟨_, _, (C.ntc k hk2).1, nf_goes, ?_⟩
      have next : ∀ m' hp' rd', Cou K m0 m' A hv R N (mvTo R N (hearW hs W t) t (k + 1)) hp' rd' rows → Ev N (mvTo R N (hearW hs W t) t (k + 1)) t hp' rd' → Fg (fun m' => ∃ (x : Option SV) (k' : Nat) (hp : List HE) (rd : List RE), k' ≤ N.length ∧ ((List.range N.length).drop (k + 1)).map (fun j => SV.ref (A.na j)) = ((List.range N.length).drop k').map (fun j => .ref (A.na j)) ∧ [some (SV.ref A.c), some (.int t), some (.ref (A.na k))] = [some (SV.ref A.c), some (.int t), x] ∧ Cou K m0 m' A hv R N (mvTo R N (hearW hs W t) t k') hp rd rows ∧ Ev N (mvTo R N (hearW hs W t) t k') t hp rd) m' := fun m' hp' rd' C' E' => .of ⟨_, k + 1, hp', rd', hk2, rfl, rfl, C', E'⟩
      have stay : (mvTo R N (hearW hs W t) t k k).due ≠ some t → mvTo R N (hearW hs W t) t (k + 1) = mvTo R N (hearW hs W t) t k := fun z => by rw [mvTo_succ, if_neg z]
      cases hd : (mvTo R N (hearW hs W t) t k k).due with
      | none =>
        walk_at "r"
        walk_at "f"
        have e := stay (by rw [hd]; exact fun z => nomatch z)
        exact next m' hp rd (by rw [e]; exact C) (by rw [e]; exact E)
      | some d =>
        walk_at "r"
        refine Br_i (fun h1 => ?_) (fun h1 => ?_)
        · have h1 := of_decide_eq_true h1
          subst h1
          obtain ⟨d1, d2, d3⟩ := Gk.du k hk2 d hd
          walk_at "r"
          refine ⟨_, C.c, cr_send, ?_⟩
          walk_at "r"
          refine ⟨m0, A, hv, R, N, mvTo R N (hearW hs W d) d k, hp, rd, rows, k, d, rfl, C, ok, hk2, d3, Gk.rg k hk2, by omega, by omega, fun e he => ?_, Nat.le_trans (went_len ok Gk hk2) (by decide), fun m' hp' rd' s C' => ?_⟩
          · have := E.b.msl (e := e.ent) (List.mem_append_left _ (List.mem_map_of_mem he))
            show e.ent.ms.length ≤ 1000
            omega
          · have e : mvTo R N (hearW hs W d) d (k + 1) = sendW R N (mvTo R N (hearW hs W d) d k) k d := by rw [mvTo_succ, if_pos hd]
            exact next m' hp' rd' (by rw [e]; exact C') (by rw [e]; exact E.send ok Gk hk2 hd s)
        · have h1 := of_decide_eq_false h1
          have e := stay (by rw [hd]; exact fun z => h1 (Option.some.inj z))
          exact next m' hp rd (by rw [e]; exact C) (by rw [e]; exact E)
    · obtain ⟨x0, k, hp, rd, hk, hr, rfl, C, E⟩ := h
      refine ⟨C.nl, ?_⟩
      have hk2 : k = N.length := by
        by_cases c : k < N.length
        · rw [rng_drop c] at hr; cases hr
        · omega
      subst hk2
      have Gm : Good R N (mvTo R N (hearW hs W t) t N.length) t (fun j => t ≤ (ntc N j).born) := Good.moves ok (List.range N.length) (fun j hj => List.mem_range.mp hj) G1
      have em : mvTo R N (hearW hs W t) t N.length = moveW R N (hearW hs W t) t := rfl
      rw [em] at *
      clear C2
      walk_at "r"
      refine ⟨_, _, C.c, cr_notices, _, C.nl, ?_⟩
      refine for_inv (fun r δ m' => ∃ (x : Option SV) (k : Nat) (hp : List HE) (rd : List RE), k ≤ N.length ∧ r = ((List.range N.length).drop k).map (fun j => .ref (A.na j)) ∧ δ = [some (.ref A.c), some (.int t), x] ∧ Cou K m0 m' A hv R N (bnTo R N (moveW R N (hearW hs W t) t) t k) hp rd rows ∧ Ev N (bnTo R N (moveW R N (hearW hs W t) t) t k) t hp rd) ⟨_, 0, hp, rd, Nat.zero_le _, rfl, rfl, C, E⟩ (fun x r δ m' h => ?_) (fun δ m' h => ?_)
      · clear C E
        obtain ⟨x0, k, hp, rd, hk, hr, rfl, C, E⟩ := h
        refine ⟨C.nl, ?_⟩
        have hk2 : k < N.length := by
          by_cases c : k < N.length
          · exact c
          · rw [rng_done (by omega)] at hr; cases hr
        rw [rng_drop hk2] at hr
        obtain ⟨rfl, rfl⟩ := List.cons.inj hr
        have Gk : Good R N (bnTo R N (moveW R N (hearW hs W t) t) t k) t (Yet N t ((List.range N.length).drop k)) := Good.bnTo no Gm k (by omega)
        have le2 := ents_len E.b
        walk_at "r"
        refine ⟨_, _, (C.ntc k hk2).1, nf_born, ?_⟩
        walk_at "r"
        refine Br_i (fun h1 => ?_) (fun h1 => ?_)
        · have h1 : (ntc N k).born = t := of_decide_eq_true h1
          have un := Gk.un k hk2 (.inr ⟨h1, by
            rw [List.drop_eq_getElem_cons (by rw [List.length_range]; omega), List.getElem_range]
            exact List.mem_cons_self⟩)
          have hper := (no.all _ (ntc_mem hk2)).1
          walk_at "r"
          refine ⟨_, C.c, cr_bring, ?_⟩
          walk_at "r"
          refine ⟨_, _, (C.ntc k hk2).1, nf_first, ?_⟩
          walk_at "r"
          refine ⟨m0, A, hv, R, N, bnTo R N (moveW R N (hearW hs W t) t) t k, hp, rd, rows, k, (ntc N k).per, t, rfl, C, hk2, hper, by omega, by omega, fun e he => ?_, by rw [un]; exact Nat.zero_le _, fun m' hp' rd' b C' => ?_⟩
          · have := E.b.msl (e := e.ent) (List.mem_append_left _ (List.mem_map_of_mem he))
            show e.ent.ms.length ≤ 1000
            omega
          · have e : bnTo R N (moveW R N (hearW hs W t) t) t (k + 1) = bringW R N (bnTo R N (moveW R N (hearW hs W t) t) t k) k (ntc N k).per t := by rw [bnTo_succ, if_pos h1]
            exact .of ⟨_, k + 1, hp', rd', hk2, rfl, rfl, by rw [e]; exact C', by rw [e]; exact E.bring ok Gk hk2 hper (by rw [un]; rfl) b⟩
        · have h1 : ¬ (ntc N k).born = t := of_decide_eq_false h1
          have e : bnTo R N (moveW R N (hearW hs W t) t) t (k + 1) = bnTo R N (moveW R N (hearW hs W t) t) t k := by rw [bnTo_succ, if_neg h1]
          exact .of ⟨_, k + 1, hp, rd, hk2, rfl, rfl, by rw [e]; exact C, by rw [e]; exact E⟩
      · clear C E
        obtain ⟨x0, k, hp, rd, hk, hr, rfl, C, E⟩ := h
        refine ⟨C.nl, ?_⟩
        have hk2 : k = N.length := by
          by_cases c : k < N.length
          · rw [rng_drop c] at hr; cases hr
          · omega
        subst hk2
        have eb : bnTo R N (moveW R N (hearW hs W t) t) t N.length = beforeTell R N hs W t := rfl
        have Gb := Good.before ok no hs G
        rw [eb] at C E
        walk_at "r"
        refine ⟨_, C.c, cr_tellr, ?_⟩
        walk_at "r"
        refine ⟨m0, A, hv, R, N, beforeTell R N hs W t, hp, rd, rows, t, rfl, C, E.b, E.hl, E.rl, fun e he => ?_, n30, rl, fun j hj => ⟨Nat.le_trans (told_len ok Gb hj) (by decide), (Gb.rk j hj).1⟩, fun m' A' rd' hA C' hrd => ?_⟩
        · have me : e.ent ∈ ents hp rd := List.mem_append_right _ (List.mem_map_of_mem he)
          obtain ⟨i, hi2⟩ := List.exists_mem_of_ne_nil _ (E.b.ne _ me)
          obtain ⟨i1, i2⟩ := E.b.at_ _ me i hi2
          have z := (Gb.pl i i1 _ i2).1
          exact Gb.rg i i1 _ (List.mem_of_getLast? z)
        · exact .of (q m' A' hp rd' _ hA C' E.rows (E.tell hrd))
end
end Hn

set_option Elab.async false
set_option linter.all false
set_option maxRecDepth 100000
set_option maxHeartbeats 8000000
namespace Hn
open PySem PySem.Spec PyProof.Rows L2 Sy Lm
section
variable {P : Program} {w : World} {K : PySem.W.Frag} {mg : Str → Option Value} {base : Heap}
local macro_rules | `(tactic| walk_at "r") => `(tactic| (conv => whnf))
local macro_rules | `(tactic| walk_at "sp") => `(tactic| (first | rfl | contradiction | exact (False.elim ‹_›)))
local macro_rules | `(tactic| walk_at "len") => `(tactic| (exact Nat.le_trans (show _ ≤ 100000 by first | (simp; done) | (rw [rngS_length]; decide)) (by decide)))
local macro_rules | `(tactic| walk_at "f") => `(tactic| (refine Br_i (fun hb => Bool.noConfusion (show false = true from hb)) (fun _ => ?_)))
local macro_rules | `(tactic| walk_at "t") => `(tactic| (refine Br_i (fun _ => ?_) (fun hb => Bool.noConfusion (show true = false from hb))))
local macro_rules | `(tactic| walk_at "le") => `(tactic| first | exact Le.refl _ | (refine Le.put ?_; walk_at "le") | (refine Le.new ?_ (by assumption); walk_at "le"))
/-! moments at which nothing comes -/
def Set_ (R : List PR) (n : Nat) (W : WS) (t : Int) : Prop := ∀ j, j < n → ∀ pl, (W j).place = some pl → (W j).heard = none → pl.at_ ≤ t → letsBy (pr R pl.per) (topOf W (mates n W j)) t = false
def candL (R : List PR) (N : List NR) (hs : List Hr) (W : WS) (hp : List HE) (rd : List RE) (t : Int) : List Int :=
  (List.range N.length).map (fun j => (ntc N j).born) ++ hs.map (·.1) ++ hp.map HE.end_ ++ (List.range N.length).filterMap (fun j => (W j).due) ++ rd.filterMap fun e => firstFree (pr R e.per).hs t
end
end Hn

set_option Elab.async false
set_option linter.all false
set_option maxRecDepth 100000
set_option maxHeartbeats 8000000
namespace Hn
open PySem PySem.Spec PyProof.Rows L2 Sy Lm
section
variable {P : Program} {w : World} {K : PySem.W.Frag} {mg : Str → Option Value} {base : Heap}
local macro_rules | `(tactic| walk_at "r") => `(tactic| (conv => whnf))
local macro_rules | `(tactic| walk_at "sp") => `(tactic| (first | rfl | contradiction | exact (False.elim ‹_›)))
local macro_rules | `(tactic| walk_at "len") => `(tactic| (exact Nat.le_trans (show _ ≤ 100000 by first | (simp; done) | (rw [rngS_length]; decide)) (by decide)))
local macro_rules | `(tactic| walk_at "f") => `(tactic| (refine Br_i (fun hb => Bool.noConfusion (show false = true from hb)) (fun _ => ?_)))
local macro_rules | `(tactic| walk_at "t") => `(tactic| (refine Br_i (fun _ => ?_) (fun hb => Bool.noConfusion (show true = false from hb))))
local macro_rules | `(tactic| walk_at "le") => `(tactic| first | exact Le.refl _ | (refine Le.put ?_; walk_at "le") | (refine Le.new ?_ (by assumption); walk_at "le"))
def fateV (x : NW) : SV := match x.heard with
  | some q => .tup [.str "heard", .int q.1, .int q.2]
  | none => if x.gone = true then .tup [.str "given up"] else match x.went.getLast? with
    | none => .tup [.str "unborn"]
    | some p => .tup [.str "open", .int p]
def spFate (K : PySem.W.Frag) : SpS := fun vs m _ S => ∃ (p w t : Addr) (j : Nat) (x : NR) (y : NW), vs = [.ref p] ∧ m p = some (.ins (He.ga K "Notice") (ntcF j x y w t)) ∧ m w = some (.lst (y.went.map .int)) ∧ S (fateV y) m
theorem ntc_fate {j : Nat} {x : NR} {y : NW} {w t : Addr} : (ntcF j x y w t).lookup ("fate" : Str) = none := by kernel_rfl
theorem ok_Notice_fate (T : Tx K mg) : FnOk P w K mg base CX0 1 (He.ma K (He.ga K "Notice") "fate") T.fd_Notice_fate ["self"] (lift K (spFate K)) := by
  refine fn_syQ T.F_Notice_fate sc_Notice_fate (fun svs m SX Sv h => ?_) (fun cdv A outer s H E hr => ⟨_, _, (gss_cons (gs_if (gt_cmp op_notN sim_notN (ge_fld T.c_Notice T.n_Notice_heard (gv 0)) ge_non (nomark _)) (gss_cons (gs_asg (ge_fld T.c_Notice T.n_Notice_heard (gv 0)) (gg_tup 2 (by rfl) (ggs_cons (gg_name (i := 1) sc_Notice_fate.nd rfl (.inl rfl)) (ggs_cons (gg_name (i := 2) sc_Notice_fate.nd rfl (.inl rfl)) ggs_nil))))
      (gss_one (gs_ret (ge_tup (ga_cons ge_str (ga_cons (gv 1) (ga_cons (gv 2) ga_nil))))))) gss_nil)
      (gss_cons (gs_if (gt_val (ge_fld T.c_Notice T.n_Notice_given_up (gv 0))) (gss_one (gs_ret (ge_tup (ga_cons ge_str ga_nil)))) gss_nil)
      (gss_cons (gs_if (gt_not (gt_truL (ge_fld T.c_Notice T.n_Notice_went (gv 0)))) (gss_one (gs_ret (ge_tup (ga_cons ge_str ga_nil)))) gss_nil)
      (gss_one (gs_ret (ge_tup (ga_cons ge_str (ga_cons (ge_ix (ix_G K) sim_ix (ge_fld T.c_Notice T.n_Notice_went (gv 0)) (ge_un un_neg sim_neg ge_int) (fun _ _ => rfl)) ga_nil)))))))), fun svs m SX Sv h => ?_⟩)
  · obtain ⟨p, w, t, j, x, y, rfl, _⟩ := h
    rfl
  · obtain ⟨p, w, t, j, x, y, rfl, hp, hw, q⟩ := h
    walk_at "r"
    refine ⟨_, _, hp, nf_heard, ?_⟩
    unfold fateV at q
    cases hh : y.heard with
    | some z =>
      rw [hh] at q
      walk_at "r"
      walk_at "t"
      walk_at "r"
      refine ⟨_, _, hp, nf_heard, ?_⟩
      rw [hh]
      walk_at "r"
      refine ⟨rfl, ?_⟩
      walk_at "r"
      refine ⟨by walk_at "len", ?_⟩
      exact .of q
    | none =>
      rw [hh] at q
      simp only at q
      walk_at "r"
      walk_at "f"
      walk_at "r"
      refine ⟨_, _, hp, nf_gone, ?_⟩
      walk_at "r"
      refine Br_i (fun h1 => ?_) (fun h1 => ?_)
      · have h1 : y.gone = true := h1
        rw [if_pos h1] at q
        walk_at "r"
        refine ⟨by walk_at "len", ?_⟩
        exact .of q
      · have h1 : y.gone = false := h1
        rw [h1, if_neg Bool.false_ne_true] at q
        walk_at "r"
        refine ⟨_, _, hp, nf_went, ?_⟩
        walk_at "r"
        refine ⟨_, hw, ?_⟩
        walk_at "r"
        refine Br_i (fun h2 => ?_) (fun h2 => ?_)
        · have h2 : y.went = [] := by
            cases z : y.went with
            | nil => rfl
            | cons a r => rw [z] at h2; cases h2
          rw [h2] at q
          walk_at "r"
          refine ⟨by walk_at "len", ?_⟩
          exact .of q
        · have h2 : y.went ≠ [] := fun z => by rw [z] at h2; cases h2
          rw [List.getLast?_eq_some_getLast h2] at q
          walk_at "r"
          refine ⟨_, _, hp, nf_went, ?_⟩
          walk_at "r"
          refine ⟨_, _, hw, (by rw [atI_last (by simpa using h2), List.getLast_map]), ?_⟩
          walk_at "r"
          refine ⟨by walk_at "len", ?_⟩
          exact .of q
def spOut (K : PySem.W.Frag) : SpS := fun vs m _ S => ∃ (m0 : Mem) (A : CAd) (hv : SV) (R : List PR) (N : List NR) (W : WS) (hp : List HE) (rd : List RE) (rows : List RowT), vs = [.ref A.c] ∧ Cou K m0 m A hv R N W hp rd rows ∧ N.length ≤ 30 ∧
  ∀ m' p q, m p = none → m q = none → p ≠ q → m' = up (up m p (.lst ((srtR rows).map rowS))) q (.lst ((List.range N.length).map fun j => fateV (W j))) → S (.tup [.ref p, .ref q]) m'
theorem ok_Course_outcome (T : Tx K mg) : FnOk P w K mg base CX0 2 (He.ma K (He.ga K "Course") "outcome") T.fd_Course_outcome ["self"] (lift K (spOut K)) := by
  have G_Notice_fate := ok_Notice_fate (P := P) (w := w) (base := base) T
  have b_Notice_fate := b_Notice_fate T
  refine fn_syQ T.F_Course_outcome sc_Course_outcome (fun svs m SX Sv h => ?_) (fun cdv A outer s H E hr => ⟨_, _, (gss_one (gs_ret (ge_tup (ga_cons (ge_callB (cr_sortRows K hr.units) sim_sortRows (by rfl) T.z_sorted (by decide +kernel) (ga_cons (ge_fld T.c_Course T.n_Course_rows (gv 0)) ga_nil)) (ga_cons (ge_lc (own := [("notice", 1)]) (by rfl) sc_Course_outcome.nd (gi_seq (ge_fld T.c_Course T.n_Course_notices (gv 0))) (blkOk_by (own := [("notice", 1)]) (N := ["self", "notice"]) (sc := (defScope s_Course_outcome)) (by decide +kernel)) (fun _ _ _ _ _ => (gg_name (i := 1) sc_Course_outcome.nd rfl (.inl rfl))) (wp_name (by decide)) (fun _ _ _ _ _ => gts_nil) (fun _ _ _ _ _ => (ge_meth0 T.c_Notice T.M_Notice_fate G_Notice_fate (hr) b_Notice_fate .nil (fun _ => .nil) pass0 (gv 1)))) ga_nil))))), fun svs m SX Sv h => ?_⟩)
  · obtain ⟨m0, A, hv, R, N, W, hp, rd, rows, rfl, _⟩ := h
    rfl
  · obtain ⟨m0, A, hv, R, N, W, hp, rd, rows, rfl, C, n30, q⟩ := h
    walk_at "r"
    refine ⟨_, _, C.c, cr_rows, ?_⟩
    walk_at "r"
    refine ⟨rows, C.ro, fun ys p hy1 hy2 hp1 => ?_⟩
    have ey : ys = srtR rows := srtR_of hy1 hy2
    subst ey
    have C1 := C.mono (.new (o := .lst ((srtR rows).map rowS)) (.refl _) hp1)
    walk_at "r"
    refine ⟨_, _, C1.c, cr_notices, ?_⟩
    walk_at "r"
    refine ⟨_, C1.nl, by rw [List.length_map, List.length_range]; exact line_le (by omega), fun p2 hp2 => ?_⟩
    have ne : p ≠ p2 := mne up_same hp2
    refine lc_inv (fun r acc m' => m' = up (up m p (.lst ((srtR rows).map rowS))) p2 (.lst acc) ∧ ∃ k, k ≤ N.length ∧ r = ((List.range N.length).drop k).map (fun j => .ref (A.na j)) ∧ acc = (List.range k).map fun j => fateV (W j)) ⟨rfl, 0, Nat.zero_le _, rfl, rfl⟩ (fun x r acc m' h => ?_) (fun acc m' h => ?_)
    · obtain ⟨rfl, k, hk, hr, ea⟩ := h
      refine ⟨kp C1.nl hp2, ?_⟩
      have hk2 : k < N.length := by
        by_cases c : k < N.length
        · exact c
        · rw [rng_done (by omega)] at hr; cases hr
      rw [rng_drop hk2] at hr
      obtain ⟨rfl, rfl⟩ := List.cons.inj hr
      obtain ⟨n1, n2, _⟩ := C1.ntc k hk2
      walk_at "r"
      walk_at "t"
      walk_at "r"
      refine ⟨_, kp n1 hp2, ntc_fate, ?_⟩
      walk_at "r"
      refine ⟨_, _, _, _, _, _, rfl, kp n1 hp2, kp n2 hp2, up_same, .of ⟨by rw [up_up], k + 1, hk2, rfl, ?_⟩⟩
      rw [List.range_succ, List.map_append, ea]
      rfl
    · obtain ⟨rfl, k, hk, hr, ea⟩ := h
      refine ⟨kp C1.nl hp2, ?_⟩
      have hk2 : k = N.length := by
        by_cases c : k < N.length
        · rw [rng_drop c] at hr; cases hr
        · omega
      subst hk2
      subst ea
      walk_at "r"
      refine ⟨by walk_at "len", ?_⟩
      have hp20 : m p2 = none := by
        have := hp2
        rw [up_ne (Ne.symm ne)] at this
        exact this
      exact .of (q _ p p2 hp1 hp20 ne rfl)
end
end Hn

set_option Elab.async false
set_option linter.all false
set_option maxRecDepth 100000
set_option maxHeartbeats 8000000
namespace Hn
open PySem PySem.Spec PyProof.Rows L2 Sy Lm
section
variable {P : Program} {w : World} {K : PySem.W.Frag} {mg : Str → Option Value} {base : Heap}
local macro_rules | `(tactic| walk_at "r") => `(tactic| (conv => whnf))
local macro_rules | `(tactic| walk_at "sp") => `(tactic| (first | rfl | contradiction | exact (False.elim ‹_›)))
local macro_rules | `(tactic| walk_at "len") => `(tactic| (exact Nat.le_trans (show _ ≤ 100000 by first | (simp; done) | (rw [rngS_length]; decide)) (by decide)))
local macro_rules | `(tactic| walk_at "f") => `(tactic| (refine Br_i (fun hb => Bool.noConfusion (show false = true from hb)) (fun _ => ?_)))
local macro_rules | `(tactic| walk_at "t") => `(tactic| (refine Br_i (fun _ => ?_) (fun hb => Bool.noConfusion (show true = false from hb))))
local macro_rules | `(tactic| walk_at "le") => `(tactic| first | exact Le.refl _ | (refine Le.put ?_; walk_at "le") | (refine Le.new ?_ (by assumption); walk_at "le"))
def spNext (K : PySem.W.Frag) : SpS := fun vs m _ S => ∃ (m0 : Mem) (A : CAd) (hv : SV) (R : List PR) (N : List NR) (W : WS) (hp : List HE) (rd : List RE) (rows : List RowT) (hs : List Hr) (t : Int), vs = [.ref A.c, .int t] ∧ Cou K m0 m A hv R N W hp rd rows ∧ Its m0 hv (hs.map hrS) ∧ hs.length ≤ 60 ∧ N.length ≤ 30 ∧ hp.length ≤ 30 ∧ rd.length ≤ 30 ∧ (∀ e ∈ rd, 0 ≤ e.per ∧ e.per < R.length) ∧ -(10 ^ 9) ≤ t ∧ t ≤ 10 ^ 9 ∧
  ((∀ x ∈ candL R N hs W hp rd t, ¬ t < x) → S .non m) ∧ ∀ y, y ∈ candL R N hs W hp rd t → t < y → (∀ x ∈ candL R N hs W hp rd t, t < x → y ≤ x) → S (.int y) m
end
end Hn

set_option Elab.async false
set_option linter.all false
set_option maxRecDepth 100000
set_option maxHeartbeats 8000000
namespace Hn
open PySem PySem.Spec PyProof.Rows L2 Sy Lm
section
variable {P : Program} {w : World} {K : PySem.W.Frag} {mg : Str → Option Value} {base : Heap}
local macro_rules | `(tactic| walk_at "r") => `(tactic| (conv => whnf))
local macro_rules | `(tactic| walk_at "sp") => `(tactic| (first | rfl | contradiction | exact (False.elim ‹_›)))
local macro_rules | `(tactic| walk_at "len") => `(tactic| (exact Nat.le_trans (show _ ≤ 100000 by first | (simp; done) | (rw [rngS_length]; decide)) (by decide)))
local macro_rules | `(tactic| walk_at "f") => `(tactic| (refine Br_i (fun hb => Bool.noConfusion (show false = true from hb)) (fun _ => ?_)))
local macro_rules | `(tactic| walk_at "t") => `(tactic| (refine Br_i (fun _ => ?_) (fun hb => Bool.noConfusion (show true = false from hb))))
local macro_rules | `(tactic| walk_at "le") => `(tactic| first | exact Le.refl _ | (refine Le.put ?_; walk_at "le") | (refine Le.new ?_ (by assumption); walk_at "le"))
structure HvIn (m : Mem) (hv : SV) (R : List PR) (N : List NR) (hs : List Hr) : Prop where
  its : Its m hv (hs.map hrS)
  ok : HrOk R N hs
  ty : ∃ t, tyS m hv t ∧ (isB t "list" || isB t "tuple") = true
def spJudgedC (K : PySem.W.Frag) : SpS := fun vs m _ S => ∃ (R : List PR) (N : List NR) (hs : List Hr) (a : Addr) (hv : SV) (u : Int), vs = [PV R, .ref a, hv, .int u] ∧ m a = some (.lst (N.map NR.sv)) ∧ HvIn m hv R N hs ∧ RulesOk R ∧ NtOk R N ∧ (0 ≤ u ∧ u ≤ 600) ∧ ∀ c m' A, A.c = c → Cou K m m' A hv R N (ini N) [] [] [] → S (.ref c) m'
theorem ok_judged_course (T : Tx K mg) : FnOk P w K mg base CX0 8 (He.ga K "judged_course") T.fd_judged_course ["rules", "notices", "hears", "until"] (lift K (spJudgedC K)) := by
  have G_Course___init__ := ok_Course___init__ (P := P) (w := w) (base := base) T
  have b_Course___init__ := b_Course___init__ T
  have G_refuse_bad_hears := ok_refuse_bad_hears (P := P) (w := w) (base := base) T
  have b_refuse_bad_hears := b_refuse_bad_hears T
  have G_refuse_bad_moment := ok_refuse_bad_moment (P := P) (w := w) (base := base) T
  have G_refuse_bad_notices := ok_refuse_bad_notices (P := P) (w := w) (base := base) T
  have b_refuse_bad_notices := b_refuse_bad_notices T
  have G_refuse_bad_rules := ok_refuse_bad_rulesP (P := P) (w := w) (base := base) T
  have b_refuse_bad_rules := b_refuse_bad_rules T
  obtain ⟨ds_refuse_bad_moment_2, hv_refuse_bad_moment_2, bd_refuse_bad_moment_2⟩ := bd_refuse_bad_moment_2 T
  refine fn_sy T.F_judged_course sc_judged_course (fun svs m SX Sv h => ?_) (fun cdv A outer s H E hr => ⟨_, _, (gss_cons (gs_expr (ge_call G_refuse_bad_rules (hr.mono (by decide)) (by rfl) T.g_refuse_bad_rules T.k_refuse_bad_rules b_refuse_bad_rules .nil (fun _ => .nil) pass0 (ga_cons (gv 0) ga_nil)))
      (gss_cons (gs_expr (ge_call G_refuse_bad_notices (hr.mono (by decide)) (by rfl) T.g_refuse_bad_notices T.k_refuse_bad_notices b_refuse_bad_notices .nil (fun _ => .nil) pass0 (ga_cons (gv 0) (ga_cons (gv 1) ga_nil))))
      (gss_cons (gs_expr (ge_call G_refuse_bad_hears (hr.mono (by decide)) (by rfl) T.g_refuse_bad_hears T.k_refuse_bad_hears b_refuse_bad_hears .nil (fun _ => .nil) pass0 (ga_cons (gv 0) (ga_cons (gv 1) (ga_cons (gv 2) ga_nil)))))
      (gss_cons (gs_expr (ge_call G_refuse_bad_moment (hr.mono (by decide)) (by rfl) T.g_refuse_bad_moment T.k_refuse_bad_moment bd_refuse_bad_moment_2 hv_refuse_bad_moment_2 (fun _ => .nil) pass0 (ga_cons (gv 3) (ga_cons (ge_gi (by rfl) T.i_MOST_UNTIL) ga_nil))))
      (gss_one (gs_ret (ge_make T.mk_Course G_Course___init__ (hr) (by rfl) T.g_Course b_Course___init__ .nil (fun _ => .nil) pass0 (ga_cons (gv 0) (ga_cons (gv 1) (ga_cons (gv 2) ga_nil)))))))))), fun svs m SX Sv h => ?_⟩)
  · obtain ⟨R, N, hs, a, hv, u, rfl, _⟩ := h
    rfl
  · obtain ⟨R, N, hs, a, hv, u, rfl, ha, hi, ok, no, hu, q⟩ := h
    walk_at "r"
    refine ⟨R, rfl, ok, ?_⟩
    walk_at "r"
    refine ⟨R, N, a, rfl, ha, no, ?_⟩
    walk_at "r"
    refine ⟨R, N, hs, a, hv, rfl, ha, hi.its, hi.ok, hi.ty, ?_⟩
    walk_at "r"
    refine ⟨u, 600, rfl, hu.1, hu.2, ?_⟩
    walk_at "r"
    intro c hc
    exact ⟨c, a, hv, R, N, m, rfl, rfl, hc, ha, ok, no, fun m' A e C => ⟨rfl, .of (q c m' A e C)⟩⟩
theorem rowLe_lt {a b : RowT} (h : a.1 < b.1) : rowLe a b = true := by
  unfold rowLe keyR
  rw [HT.lexLt_cons, if_neg (by omega), decide_eq_false (by omega)]
  rfl
theorem rowsW_at {R : List PR} {n : Nat} {W : WS} {t : Int} {r : RowT} (h : r ∈ rowsW R n W t) : r.1 = t := by
  unfold rowsW at h
  obtain ⟨j, _, h⟩ := List.mem_filterMap.mp h
  split at h
  · cases h; rfl
  · cases h
theorem rowsW_len {R : List PR} {n : Nat} {W : WS} {t : Int} : (rowsW R n W t).length ≤ n := by
  unfold rowsW
  refine Nat.le_trans (List.length_filterMap_le _ _) ?_
  rw [List.length_range]
  exact Nat.le_refl _
theorem rowsUp_ok {R : List PR} {N : List NR} {hs : List Hr} : ∀ t : Nat, (rowsUp R N hs t).Pairwise (fun a b => rowLe a b = true) ∧ ∀ r ∈ rowsUp R N hs t, 0 ≤ r.1 ∧ r.1 < (t : Int)
  | 0 => ⟨.nil, fun r h => nomatch h⟩
  | t + 1 => by
    obtain ⟨h1, h2⟩ := rowsUp_ok (R := R) (N := N) (hs := hs) t
    have h3 : ∀ r ∈ rowsAt R N hs t, r.1 = (t : Int) := fun r hr => rowsW_at ((srtR_perm _).mem_iff.mp hr)
    refine ⟨?_, fun r hr => ?_⟩
    · show (rowsUp R N hs t ++ rowsAt R N hs t).Pairwise _
      rw [List.pairwise_append]
      refine ⟨h1, srtR_pw _, fun a ha b hb => rowLe_lt ?_⟩
      rw [h3 b hb]
      exact (h2 a ha).2
    · rcases List.mem_append.mp (show r ∈ rowsUp R N hs t ++ rowsAt R N hs t from hr) with hr | hr
      · have := h2 r hr
        push_cast
        omega
      · rw [h3 r hr]
        push_cast
        omega
theorem srt_rowsUp {R : List PR} {N : List NR} {hs : List Hr} {rows : List RowT} {t : Nat} (h : rows.Perm (rowsUp R N hs t)) : srtR rows = rowsUp R N hs t := (srtR_uniq h.symm (rowsUp_ok t).1).symm
theorem crs_pass {A : CAd} {hv : SV} : (crsF A hv).lookup ("pass_moment" : Str) = none := by kernel_rfl
def fatesW (N : List NR) (W : WS) : List SV := (List.range N.length).map fun j => fateV (W j)
def spWalked (K : PySem.W.Frag) : SpS := fun vs m _ S => ∃ (R : List PR) (N : List NR) (hs : List Hr) (a : Addr) (hv : SV) (u : Nat), vs = [PV R, .ref a, hv, .int u] ∧ m a = some (.lst (N.map NR.sv)) ∧ HvIn m hv R N hs ∧ RulesOk R ∧ NtOk R N ∧ u ≤ 600 ∧ ∀ p q, m p = none → m q = none → p ≠ q → S (.tup [.ref p, .ref q]) (up (up m p (.lst ((rowsUp R N hs (u + 1)).map rowS))) q (.lst (fatesW N (stW R N hs (u + 1)))))
theorem ok_walked (T : Tx K mg) : FnOk P w K mg base CX0 9 (He.ga K "walked") T.fd_walked ["rules", "notices", "hears", "until"] (lift K (spWalked K)) := by
  have G_Course_outcome := ok_Course_outcome (P := P) (w := w) (base := base) T
  have b_Course_outcome := b_Course_outcome T
  have G_Course_pass_moment := ok_Course_pass_moment (P := P) (w := w) (base := base) T
  have b_Course_pass_moment := b_Course_pass_moment T
  have G_judged_course := ok_judged_course (P := P) (w := w) (base := base) T
  have b_judged_course := b_judged_course T
  refine fn_sy T.F_walked sc_walked (fun svs m SX Sv h => ?_) (fun cdv A outer s H E hr => ⟨_, _, (gss_cons (gs_set (i := 4) sc_walked.nd rfl (.inl rfl) (ge_call G_judged_course (hr) (by rfl) T.g_judged_course T.k_judged_course b_judged_course .nil (fun _ => .nil) pass0 (ga_cons (gv 0) (ga_cons (gv 1) (ga_cons (gv 2) (ga_cons (gv 3) ga_nil))))))
      (gss_cons (gs_for PassesOwn.never rfl (gi_range1 (by rfl) T.z_range (ga_cons (ge_op (op_addG K) sim_add (gv 3) ge_int) ga_nil)) (gg_name (i := 5) sc_walked.nd rfl (.inl rfl))
      (gss_one (gs_expr (ge_meth T.c_Course T.M_Course_pass_moment G_Course_pass_moment (hr.mono (by decide)) b_Course_pass_moment .nil (fun _ => .nil) pass0 (gv 4) (ga_cons (gv 5) ga_nil)))))
      (gss_one (gs_ret (ge_meth0 T.c_Course T.M_Course_outcome G_Course_outcome (hr.mono (by decide)) b_Course_outcome .nil (fun _ => .nil) pass0 (gv 4)))))), fun svs m SX Sv h => ?_⟩)
  · obtain ⟨R, N, hs, a, hv, u, rfl, _⟩ := h
    rfl
  · obtain ⟨R, N, hs, a, hv, u, rfl, ha, hi, ok, no, hu, q⟩ := h
    have n30 := no.len
    walk_at "r"
    refine ⟨R, N, hs, a, hv, u, rfl, ha, hi, ok, no, ⟨by omega, by omega⟩, fun c m' A hA C => ?_⟩
    walk_at "r"
    refine ⟨⟨by omega, by omega⟩, ?_⟩
    refine for_inv (fun r δ m' => ∃ (x : Option SV) (t : Nat) (A : CAd) (hp : List HE) (rd : List RE) (rows : List RowT), t ≤ u + 1 ∧ r = rngS (t : Int) (u + 1 - t) ∧ δ = [some (PV R), some (.ref a), some hv, some (.int u), some (.ref c), x] ∧ A.c = c ∧ Cou K m m' A hv R N (stW R N hs t) hp rd rows ∧ Ah N (stW R N hs t) t hp rd ∧ rows.Perm (rowsUp R N hs t) ∧ rows.length ≤ 30 * t) ⟨none, 0, A, [], [], [], Nat.zero_le _, by congr 1, rfl, hA, C, Ah.ini, List.Perm.refl _, Nat.le_refl _⟩ (fun x r δ m' h => ?_) (fun δ m' h => ?_)
    · clear C
      obtain ⟨x0, t, A, hp, rd, rows, ht, hr, rfl, hA, C, a0, pm, rl⟩ := h
      refine ⟨trivial, ?_⟩
      have ht2 : t < u + 1 := by
        by_cases c : t < u + 1
        · exact c
        · rw [show u + 1 - t = 0 by omega] at hr; cases hr
      rw [show u + 1 - t = (u + 1 - (t + 1)) + 1 by omega] at hr
      obtain ⟨rfl, rfl⟩ := List.cons.inj hr
      subst hA
      walk_at "r"
      refine ⟨_, C.c, crs_pass, ?_⟩
      walk_at "r"
      refine ⟨m, A, hv, R, N, stW R N hs t, hp, rd, rows, hs, t, rfl, C, a0, Good.st ok no hs t, ok, no, ⟨hi.its, fun h hh => (hi.ok.all h hh).2.2⟩, by omega, fun m1 A1 hp1 rd1 now e1 C1 p1 a1 => .of ⟨_, t + 1, A1, hp1, rd1, rows ++ now, ht2, by push_cast; rfl, rfl, e1, C1, by push_cast; exact a1, ?_, ?_⟩⟩
      · show (rows ++ now).Perm (rowsUp R N hs t ++ rowsAt R N hs t)
        exact pm.append (p1.trans (srtR_perm _).symm)
      · have l1 : now.length ≤ N.length := by rw [p1.length_eq]; exact rowsW_len
        rw [List.length_append]
        omega
    · clear C
      obtain ⟨x0, t, A, hp, rd, rows, ht, hr, rfl, hA, C, a0, pm, rl⟩ := h
      refine ⟨trivial, ?_⟩
      have ht2 : t = u + 1 := by
        have := congrArg List.length hr
        rw [rngS_length] at this
        simp at this
        omega
      subst ht2
      subst hA
      walk_at "r"
      refine ⟨_, C.c, cr_out, ?_⟩
      walk_at "r"
      refine ⟨m, A, hv, R, N, stW R N hs (u + 1), hp, rd, rows, rfl, C, n30, fun m2 p1 p2 n1 n2 ne e => ?_⟩
      subst e
      refine ⟨_, Le.put (Le.put C.le), ?_⟩
      rw [srt_rowsUp pm]
      exact q p1 p2 (C.le.none n1) (C.le.none n2) ne
end
end Hn

set_option Elab.async false
set_option linter.all false
set_option maxRecDepth 100000
set_option maxHeartbeats 8000000
namespace Hn
open PySem PySem.Spec PyProof.Rows L2 Sy Lm
section
variable {P : Program} {w : World} {K : PySem.W.Frag} {mg : Str → Option Value} {base : Heap}
local macro_rules | `(tactic| walk_at "r") => `(tactic| (conv => whnf))
local macro_rules | `(tactic| walk_at "sp") => `(tactic| (first | rfl | contradiction | exact (False.elim ‹_›)))
local macro_rules | `(tactic| walk_at "len") => `(tactic| (exact Nat.le_trans (show _ ≤ 100000 by first | (simp; done) | (rw [rngS_length]; decide)) (by decide)))
local macro_rules | `(tactic| walk_at "f") => `(tactic| (refine Br_i (fun hb => Bool.noConfusion (show false = true from hb)) (fun _ => ?_)))
local macro_rules | `(tactic| walk_at "t") => `(tactic| (refine Br_i (fun _ => ?_) (fun hb => Bool.noConfusion (show true = false from hb))))
local macro_rules | `(tactic| walk_at "le") => `(tactic| first | exact Le.refl _ | (refine Le.put ?_; walk_at "le") | (refine Le.new ?_ (by assumption); walk_at "le"))
end
end Hn

set_option Elab.async false
set_option linter.all false
set_option maxRecDepth 100000
set_option maxHeartbeats 8000000
namespace Hn
open PySem PySem.Spec PyProof.Rows L2 Sy Lm
section
variable {P : Program} {w : World} {K : PySem.W.Frag} {mg : Str → Option Value} {base : Heap}
local macro_rules | `(tactic| walk_at "r") => `(tactic| (conv => whnf))
local macro_rules | `(tactic| walk_at "sp") => `(tactic| (first | rfl | contradiction | exact (False.elim ‹_›)))
local macro_rules | `(tactic| walk_at "len") => `(tactic| (exact Nat.le_trans (show _ ≤ 100000 by first | (simp; done) | (rw [rngS_length]; decide)) (by decide)))
local macro_rules | `(tactic| walk_at "f") => `(tactic| (refine Br_i (fun hb => Bool.noConfusion (show false = true from hb)) (fun _ => ?_)))
local macro_rules | `(tactic| walk_at "t") => `(tactic| (refine Br_i (fun _ => ?_) (fun hb => Bool.noConfusion (show true = false from hb))))
local macro_rules | `(tactic| walk_at "le") => `(tactic| first | exact Le.refl _ | (refine Le.put ?_; walk_at "le") | (refine Le.new ?_ (by assumption); walk_at "le"))
theorem len_pv (R : List PR) : (R.map PR.pv).length = R.length := List.length_map _
def spNotices : SpS := fun vs m _ S => ∃ (b : Addr) (R : List PR) (most : Int), vs = [.ref b, PV R, .int most] ∧ IsBox m b ∧ RulesOk R ∧ (0 ≤ most ∧ most ≤ 30) ∧ ∀ N p, NtOk R N → (N.length : Int) ≤ most → m p = none → S (.ref p) (up m p (.lst (N.map NR.sv)))
end
end Hn

set_option Elab.async false
set_option linter.all false
set_option maxRecDepth 100000
set_option maxHeartbeats 8000000
namespace Hn
open PySem PySem.Spec PyProof.Rows L2 Sy Lm
section
variable {P : Program} {w : World} {K : PySem.W.Frag} {mg : Str → Option Value} {base : Heap}
local macro_rules | `(tactic| walk_at "r") => `(tactic| (conv => whnf))
local macro_rules | `(tactic| walk_at "sp") => `(tactic| (first | rfl | contradiction | exact (False.elim ‹_›)))
local macro_rules | `(tactic| walk_at "len") => `(tactic| (exact Nat.le_trans (show _ ≤ 100000 by first | (simp; done) | (rw [rngS_length]; decide)) (by decide)))
local macro_rules | `(tactic| walk_at "f") => `(tactic| (refine Br_i (fun hb => Bool.noConfusion (show false = true from hb)) (fun _ => ?_)))
local macro_rules | `(tactic| walk_at "t") => `(tactic| (refine Br_i (fun _ => ?_) (fun hb => Bool.noConfusion (show true = false from hb))))
local macro_rules | `(tactic| walk_at "le") => `(tactic| first | exact Le.refl _ | (refine Le.put ?_; walk_at "le") | (refine Le.new ?_ (by assumption); walk_at "le"))
def NR.dt (x : NR) : PyData := .tuple [.int x.per, .int x.rank, .int x.kind, .int x.born]
def hrDt (h : Hr) : PyData := .tuple [.int h.1, .int h.2.1, .int h.2.2]
def spHears : SpS := fun vs m _ S => ∃ (b a : Addr) (R : List PR) (N : List NR) (most : Int), vs = [.ref b, PV R, .ref a, .int most] ∧ IsBox m b ∧ m a = some (.lst (N.map NR.sv)) ∧ RulesOk R ∧ NtOk R N ∧ (0 ≤ most ∧ most ≤ 60) ∧ ∀ H p, HrOk R N H → (H.length : Int) ≤ most → m p = none → S (.ref p) (up m p (.lst (H.map hrS)))
end
end Hn

set_option Elab.async false
set_option linter.all false
set_option maxRecDepth 100000
set_option maxHeartbeats 8000000
namespace Hn
open PySem PySem.Spec PyProof.Rows L2 Sy Lm
section
variable {P : Program} {w : World} {K : PySem.W.Frag} {mg : Str → Option Value} {base : Heap}
local macro_rules | `(tactic| walk_at "r") => `(tactic| (conv => whnf))
local macro_rules | `(tactic| walk_at "sp") => `(tactic| (first | rfl | contradiction | exact (False.elim ‹_›)))
local macro_rules | `(tactic| walk_at "len") => `(tactic| (exact Nat.le_trans (show _ ≤ 100000 by first | (simp; done) | (rw [rngS_length]; decide)) (by decide)))
local macro_rules | `(tactic| walk_at "f") => `(tactic| (refine Br_i (fun hb => Bool.noConfusion (show false = true from hb)) (fun _ => ?_)))
local macro_rules | `(tactic| walk_at "t") => `(tactic| (refine Br_i (fun _ => ?_) (fun hb => Bool.noConfusion (show true = false from hb))))
local macro_rules | `(tactic| walk_at "le") => `(tactic| first | exact Le.refl _ | (refine Le.put ?_; walk_at "le") | (refine Le.new ?_ (by assumption); walk_at "le"))
/-! what is heard stays; what is told up to a moment begins what is told later -/
/-- the hears that count, in the end -/
def cnt (F : WS) (h : Hr) : Bool := decide ((F h.2.2.toNat).heard = some (h.2.1, h.1))
end
end Hn

set_option Elab.async false
set_option linter.all false
set_option maxRecDepth 100000
set_option maxHeartbeats 8000000
namespace Hn
open PySem PySem.Spec PyProof.Rows L2 Sy Lm
section
variable {P : Program} {w : World} {K : PySem.W.Frag} {mg : Str → Option Value} {base : Heap}
local macro_rules | `(tactic| walk_at "r") => `(tactic| (conv => whnf))
local macro_rules | `(tactic| walk_at "sp") => `(tactic| (first | rfl | contradiction | exact (False.elim ‹_›)))
local macro_rules | `(tactic| walk_at "len") => `(tactic| (exact Nat.le_trans (show _ ≤ 100000 by first | (simp; done) | (rw [rngS_length]; decide)) (by decide)))
local macro_rules | `(tactic| walk_at "f") => `(tactic| (refine Br_i (fun hb => Bool.noConfusion (show false = true from hb)) (fun _ => ?_)))
local macro_rules | `(tactic| walk_at "t") => `(tactic| (refine Br_i (fun _ => ?_) (fun hb => Bool.noConfusion (show true = false from hb))))
local macro_rules | `(tactic| walk_at "le") => `(tactic| first | exact Le.refl _ | (refine Le.put ?_; walk_at "le") | (refine Le.new ?_ (by assumption); walk_at "le"))
def opS (p : Int) : SV := .tup [.str "open", .int p]
/-- the first word of a fate -/
def hdF (x : NW) : Str := match x.heard with
  | some _ => "heard"
  | none => if x.gone = true then "given up" else match x.went with
    | [] => "unborn"
    | _ => "open"
mutual
theorem eqD_refl : ∀ d : PyData, NoD d → eqD d d = true
  | .none, _ => by simp [eqD]
  | .bool b, _ => by simp [eqD]
  | .int _, _ => by simp [eqD]
  | .str _, _ => by simp [eqD]
  | .list a, h => by simp only [eqD]; exact eqDs_refl a h
  | .tuple a, h => by simp only [eqD]; exact eqDs_refl a h
  | .dict _, h => h.elim
theorem eqDs_refl : ∀ d : List PyData, NoDs d → eqDs d d = true
  | [], _ => by simp [eqDs]
  | a :: r, h => by
    simp only [eqDs, Bool.and_eq_true]
    exact ⟨eqD_refl a h.1, eqDs_refl r h.2⟩
end
def rowD (r : RowT) : PyData := .tuple [.int r.1, .int r.2.1, .tuple (r.2.2.map .int)]
def fateD (x : NW) : PyData := match x.heard with
  | some q => .tuple [.str "heard", .int q.1, .int q.2]
  | none => if x.gone = true then .tuple [.str "given up"] else match x.went.getLast? with
    | none => .tuple [.str "unborn"]
    | some p => .tuple [.str "open", .int p]
def resD (N : List NR) (rows : List RowT) (W : WS) : PyData := .tuple [.list (rows.map rowD), .list ((List.range N.length).map fun j => fateD (W j))]
theorem gS_walked_u (T : Tx K mg) : ∀ F vs zs svs szs, VRs K F vs svs → VRs K F zs szs → VRs K F (vs ++ ([V.ref (kwAt "walked" "hears" K)] ++ zs)) (svs ++ ([.tup []] ++ szs)) := fun F vs zs svs szs h1 h2 => vrs_append h1 (vrs_append (.cons (emptyT_vr T.e_walked_hears) .nil) h2)
theorem gS_wheeled_u (T : Tx K mg) : ∀ F vs zs svs szs, VRs K F vs svs → VRs K F zs szs → VRs K F (vs ++ ([V.ref (kwAt "wheeled" "hears" K)] ++ zs)) (svs ++ ([.tup []] ++ szs)) := fun F vs zs svs szs h1 h2 => vrs_append h1 (vrs_append (.cons (emptyT_vr T.e_wheeled_hears) .nil) h2)
end
end Hn

set_option Elab.async false
set_option linter.all false
set_option maxRecDepth 100000
set_option maxHeartbeats 8000000
namespace Hn
open PySem PySem.Spec PyProof.Rows L2 Sy Lm
section
variable {P : Program} {w : World} {K : PySem.W.Frag} {mg : Str → Option Value} {base : Heap}
local macro_rules | `(tactic| walk_at "r") => `(tactic| (conv => whnf))
local macro_rules | `(tactic| walk_at "sp") => `(tactic| (first | rfl | contradiction | exact (False.elim ‹_›)))
local macro_rules | `(tactic| walk_at "len") => `(tactic| (exact Nat.le_trans (show _ ≤ 100000 by first | (simp; done) | (rw [rngS_length]; decide)) (by decide)))
local macro_rules | `(tactic| walk_at "f") => `(tactic| (refine Br_i (fun hb => Bool.noConfusion (show false = true from hb)) (fun _ => ?_)))
local macro_rules | `(tactic| walk_at "t") => `(tactic| (refine Br_i (fun _ => ?_) (fun hb => Bool.noConfusion (show true = false from hb))))
local macro_rules | `(tactic| walk_at "le") => `(tactic| first | exact Le.refl _ | (refine Le.put ?_; walk_at "le") | (refine Le.new ?_ (by assumption); walk_at "le"))
def furOf (R : List PR) (i : Int) : Option Int := match R[i.toNat]? with
  | some r => r.fur
  | none => none
/-- one going on -/
def stp (R : List PR) (acc : List Int) : List Int := match acc.getLast? with
  | none => acc
  | some l => match furOf R l with
    | none => acc
    | some j => if j ∈ acc then acc else acc ++ [j]
def iterF {α : Type} (f : α → α) : Nat → α → α
  | 0, x => x
  | n + 1, x => iterF f n (f x)
theorem iterF_succ {α : Type} (f : α → α) : ∀ (n : Nat) (x : α), iterF f (n + 1) x = f (iterF f n x)
  | 0, _ => rfl
  | n + 1, x => iterF_succ f n (f x)
theorem iterF_fix {α : Type} {f : α → α} {x : α} (h : f x = x) : ∀ n, iterF f n x = x
  | 0 => rfl
  | n + 1 => by show iterF f n (f x) = x; rw [h, iterF_fix h n]
theorem iterF_add {α : Type} (f : α → α) : ∀ (n k : Nat) (x : α), iterF f (n + k) x = iterF f k (iterF f n x)
  | 0, k, x => by rw [Nat.zero_add]; rfl
  | n + 1, k, x => by rw [Nat.succ_add]; exact iterF_add f n k (f x)
def chainOf (R : List PR) (i : Int) : List Int := iterF (stp R) R.length [i]
/-- how many persons aren't there yet -/
def leftN (n : Nat) (acc : List Int) : Nat := (List.range n).countP fun (j : Nat) => !decide ((j : Int) ∈ acc)
theorem countP_lt {α : Type} {p q : α → Bool} : ∀ {xs : List α}, (∀ x ∈ xs, q x = true → p x = true) → (∃ x ∈ xs, p x = true ∧ q x = false) → xs.countP q < xs.countP p
  | [], _, h => by obtain ⟨x, h, _⟩ := h; cases h
  | x :: xs, h1, h2 => by
    have le : xs.countP q ≤ xs.countP p := List.countP_mono_left fun y hy => h1 y (List.mem_cons_of_mem _ hy)
    rw [List.countP_cons, List.countP_cons]
    obtain ⟨y, hy, h3, h4⟩ := h2
    rcases List.mem_cons.mp hy with rfl | hy
    · rw [h3, h4]
      simp
      omega
    · have ih := countP_lt (xs := xs) (fun z hz => h1 z (List.mem_cons_of_mem _ hz)) ⟨y, hy, h3, h4⟩
      have h5 := h1 x List.mem_cons_self
      cases e : q x with
      | true => rw [h5 e]; omega
      | false => simp; omega
theorem leftN_app {n : Nat} {acc : List Int} {j : Int} (h0 : 0 ≤ j) (h1 : j < n) (h2 : j ∉ acc) : leftN n (acc ++ [j]) < leftN n acc := by
  unfold leftN
  refine countP_lt (fun x _ hx => ?_) ⟨j.toNat, by rw [List.mem_range]; omega, ?_, ?_⟩
  · simp at hx ⊢
    exact hx.1
  · rw [Int.toNat_of_nonneg h0]
    simp [h2]
  · rw [Int.toNat_of_nonneg h0]
    simp
theorem leftN_le (n : Nat) (acc : List Int) : leftN n acc ≤ n := by
  unfold leftN
  exact Nat.le_trans List.countP_le_length (by simp)
theorem inS_int (j : Int) (acc : List Int) : inS (.int j) (acc.map SV.int) = decide (j ∈ acc) := by
  unfold inS
  induction acc with
  | nil => rfl
  | cons a r ih =>
    rw [List.map_cons, List.any_cons, ih]
    show (a == j || _) = _
    by_cases e : a = j
    · subst e; simp
    · have e2 : ¬ j = a := fun z => e z.symm
      simp [e, e2]
theorem stp_of {R : List PR} {acc : List Int} {l : Int} (h : acc.getLast? = some l) : stp R acc = match furOf R l with | none => acc | some j => if j ∈ acc then acc else acc ++ [j] := by
  unfold stp
  rw [h]
def cameO (R : List PR) (b : Int) (T : List (Int × Int)) : Option Int := match T.getLast? with
  | none => some b
  | some q => (pr R q.2).wait.map (q.1 + ·)
/-- told in turn -/
inductive Led (R : List PR) (b : Int) : List (Int × Int) → Prop
  | nil : Led R b []
  | snoc {T : List (Int × Int)} {t p c : Int} (h : Led R b T) (h1 : cameO R b T = some c) (h2 : c ≤ t) : Led R b (T ++ [(t, p)])
theorem furOf_pr (R : List PR) (i : Int) : furOf R i = (pr R i).fur := by
  unfold furOf pr
  rw [List.getD_eq_getElem?_getD]
  cases R[i.toNat]? <;> rfl
structure Hi (R : List PR) (r : NR) (x : NW) (T : List (Int × Int)) (t : Int) : Prop where
  wt : x.went = [] ∨ ∃ k, x.went = iterF (stp R) k [r.per] ∧ x.went.length = k + 1
  tt : T.map (·.2) = x.told
  pn : x.place = none → x.told = x.went
  pp : ∀ pl, x.place = some pl → x.told ++ [pl.per] = x.went
  ld : Led R r.born T
  du : ∀ d, x.due = some d → cameO R r.born T = some d
  pc : ∀ pl, x.place = some pl → ∃ c, cameO R r.born T = some c ∧ c ≤ pl.at_
  he : ∀ p u, x.heard = some (p, u) → (∃ s, (s, p) ∈ T ∧ s < u) ∧ ∀ q ∈ T, q.1 < u
  tm : ∀ q ∈ T, q.1 < t
  go : x.gone = true → x.place = none ∧ x.due = none ∧ stp R x.went = x.went ∧ x.went ≠ [] ∧ ∃ c, cameO R r.born T = some c
section
variable {R : List PR} {N : List NR} {r : NR} {x : NW} {T : List (Int × Int)} {t : Int}
/-- all of them -/
def HiAll (R : List PR) (N : List NR) (W : WS) (F : Nat → List (Int × Int)) (t : Int) : Prop := ∀ j, j < N.length → Hi R (ntc N j) (W j) (F j) t
variable {W : WS} {F : Nat → List (Int × Int)}
/-- whom notice j was told to, and when -/
def tto (rs : List RowT) (j : Nat) : List (Int × Int) := rs.filterMap fun r => if (j : Int) ∈ r.2.2 then some (r.1, r.2.1) else none
end
end
end Hn

set_option Elab.async false
set_option linter.all false
set_option maxRecDepth 100000
set_option maxHeartbeats 8000000
namespace Hn
open PySem PySem.Spec PyProof.Rows L2 Sy Lm
section
variable {P : Program} {w : World} {K : PySem.W.Frag} {mg : Str → Option Value} {base : Heap}
local macro_rules | `(tactic| walk_at "r") => `(tactic| (conv => whnf))
local macro_rules | `(tactic| walk_at "sp") => `(tactic| (first | rfl | contradiction | exact (False.elim ‹_›)))
local macro_rules | `(tactic| walk_at "len") => `(tactic| (exact Nat.le_trans (show _ ≤ 100000 by first | (simp; done) | (rw [rngS_length]; decide)) (by decide)))
local macro_rules | `(tactic| walk_at "f") => `(tactic| (refine Br_i (fun hb => Bool.noConfusion (show false = true from hb)) (fun _ => ?_)))
local macro_rules | `(tactic| walk_at "t") => `(tactic| (refine Br_i (fun _ => ?_) (fun hb => Bool.noConfusion (show true = false from hb))))
local macro_rules | `(tactic| walk_at "le") => `(tactic| first | exact Le.refl _ | (refine Le.put ?_; walk_at "le") | (refine Le.new ?_ (by assumption); walk_at "le"))
class Own (P : Program) (K : PySem.W.Frag) (mg : Str → Option Value) : Prop where
  zs : mg "super" = none
  k_BadRules : Kx_BadRules P K
  k_BadNotices : Kx_BadNotices P K
  k_BadHears : Kx_BadHears P K
  k_BadText : Kx_BadText P K

def fbGo (many : Int) : Nat → List SV → Option (Int × Int)
  | _, [] => none
  | i, x :: r => match firstB x many with
    | some p => some ((i : Int), p)
    | none => fbGo many (i + 1) r
/-- the first person and part that can't be -/
def firstBad : SV → Option (Int × Int)
  | .tup xs => if xs.length = 0 then some (0, -1) else match fbGo (min xs.length 6 : Nat) 0 (xs.take 6) with
    | some q => some q
    | none => if 6 < xs.length then some (6, -1) else none
  | _ => some (0, -1)
def badX (K : PySem.W.Frag) (i p : Int) : XO := ⟨He.ga K "BadRules", some [("part", .int p), ("person", .int i)]⟩
theorem firstB_in {x : SV} {many p : Int} (h : firstB x many = some p) : -1 ≤ p ∧ p ≤ 4 := by
  unfold firstB at h
  split at h
  · rw [Option.map_eq_some_iff] at h
    obtain ⟨j, h1, rfl⟩ := h
    have h2 := (firstF_some h1).1
    have h3 := (List.getElem?_eq_some_iff.mp h2).1
    have h3 : j < 5 := h3
    omega
  · cases h
    decide
theorem log_small {i : Int} (h1 : -1 ≤ i) (h2 : i ≤ 100) : i.natAbs.log2 < 1920 := Nat.lt_of_le_of_lt (Nat.log2_le_self _) (by omega)
def spBadR (K : PySem.W.Frag) : SpS := fun vs m SX S => ∃ x i p, vs = [x] ∧ DD m x ∧ firstBad x = some (i, p) ∧ SX (badX K i p) m
theorem okB_refuse_bad_rules (T : Tx K mg) [OW : Own P K mg] : FnOk P w K mg base (L2.CX P w) 6 (He.ga K "refuse_bad_rules") T.fd_refuse_bad_rules ["rules"] (lift K (spBadR K)) := by
  obtain ⟨fd_BadRules, cc_BadRules, cda_BadRules, kx_BadRules⟩ := OW.k_BadRules.k
  obtain ⟨fdI_BadRules, hb_BadRules, F1_BadRules⟩ := ini_BadRules (P := P) (w := w) (mg := mg) (base := base) OW.k_BadRules OW.zs
  have G_first_bad_part := ok_first_bad_part (P := P) (w := w) (base := base) T
  have b_first_bad_part := b_first_bad_part T
  refine fn_syX T.F_refuse_bad_rules sc_refuse_bad_rules (fun svs m SX Sv h => ?_) (fun cdv A outer s H E hr => ⟨_, _, (gss_cons (gs_if (gw_pt (gw_or (gt_not (gt_val (ge_callB (cr_isi K) sim_isi (by rfl) T.z_isinstance (by decide +kernel) (ga_cons (gv 0) (ga_cons (ge_ty (n := "tuple") (by rfl) T.z_tuple (by decide +kernel)) ga_nil))))) (gw_or1 (gt_cmp (op_eqG K hr.units) sim_eq (ge_callB (cr_len K) sim_len (by rfl) T.z_len (by decide +kernel) (ga_cons (gv 0) ga_nil)) ge_int (nomark _))))) (gss_one (gs_raiseI2 rfl (takes_of rfl rfl rfl rfl) kx_BadRules.S.T kx_BadRules.iC kx_BadRules.tI F1_BadRules (hr.mono (by decide)) hb_BadRules pass0 (by rfl) T.g_BadRules (ga_cons ge_int (ga_cons (ge_gi (by rfl) T.i_NO_PART) ga_nil)))) gss_nil)
      (gss_cons (gs_set (i := 1) sc_refuse_bad_rules.nd rfl (.inl rfl) (ge_callB (call_min2 rfl) sim_min2 (by rfl) T.z_min (by decide +kernel) (ga_cons (ge_callB (cr_len K) sim_len (by rfl) T.z_len (by decide +kernel) (ga_cons (gv 0) ga_nil)) (ga_cons (ge_gi (by rfl) T.i_MOST_PERSONS) ga_nil))))
      (gss_cons (gs_for (passes_of rfl) rfl (gi_range1 (by rfl) T.z_range (ga_cons (gv 1) ga_nil)) (gg_name (i := 2) sc_refuse_bad_rules.nd rfl (.inl rfl))
      (gss_cons (gs_set (i := 3) sc_refuse_bad_rules.nd rfl (.inl rfl) (ge_call G_first_bad_part (hr) (by rfl) T.g_first_bad_part T.k_first_bad_part b_first_bad_part .nil (fun _ => .nil) pass0 (ga_cons (ge_ix (ix_G K) sim_ix (gv 0) (gv 2) (fun _ _ => rfl)) (ga_cons (gv 1) ga_nil))))
      (gss_one (gs_if (gt_cmp op_notN sim_notN (gv 3) ge_non (nomark _)) (gss_one (gs_raiseI2 rfl (takes_of rfl rfl rfl rfl) kx_BadRules.S.T kx_BadRules.iC kx_BadRules.tI F1_BadRules (hr.mono (by decide)) hb_BadRules pass0 (by rfl) T.g_BadRules (ga_cons (gv 2) (ga_cons (gv 3) ga_nil)))) gss_nil))))
      (gss_one (gs_if (gt_cmp op_gt sim_gt (ge_callB (cr_len K) sim_len (by rfl) T.z_len (by decide +kernel) (ga_cons (gv 0) ga_nil)) (ge_gi (by rfl) T.i_MOST_PERSONS) (nomark _)) (gss_one (gs_raiseI2 rfl (takes_of rfl rfl rfl rfl) kx_BadRules.S.T kx_BadRules.iC kx_BadRules.tI F1_BadRules (hr.mono (by decide)) hb_BadRules pass0 (by rfl) T.g_BadRules (ga_cons (ge_gi (by rfl) T.i_MOST_PERSONS) (ga_cons (ge_gi (by rfl) T.i_NO_PART) ga_nil)))) gss_nil))))), fun svs m SX Sv h => ?_⟩)
  · obtain ⟨x, i, p, rfl, _⟩ := h
    rfl
  · obtain ⟨x, i, p, rfl, hd, hf, q⟩ := h
    obtain ⟨t, ht⟩ := hd.dat
    walk_at "r"
    refine ⟨by decide, t, ht, ?_⟩
    walk_at "r"
    refine Br_i (fun h1 => ?_) (fun h1 => ?_)
    · walk_at "r"
      walk_at "t"
      walk_at "r"
      have e : firstBad x = some (0, -1) := by
        cases x <;> first | rfl | (cases (show t = _ from ht); cases h1; done)
      rw [e] at hf
      cases hf
      exact ⟨_, _, rfl, log_small (by decide) (by decide), log_small (by decide) (by decide), .of q⟩
    · obtain ⟨xs, rfl⟩ : ∃ xs, x = .tup xs := by
        cases x <;> first | exact ⟨_, rfl⟩ | (exact (show False from ht).elim) | (cases (show t = _ from ht); cases h1; done) | (obtain ⟨rfl, _⟩ := (show t = "list" ∧ _ from ht); cases h1; done)
      walk_at "r"
      refine ⟨_, rfl, ?_⟩
      walk_at "r"
      refine Br_i (fun h2 => ?_) (fun h2 => ?_)
      · walk_at "r"
        have h3 := of_decide_eq_true h2
        have e : firstBad (.tup xs) = some (0, -1) := by
          show (if xs.length = 0 then _ else _) = _
          rw [if_pos (by omega)]
        rw [e] at hf
        cases hf
        exact ⟨_, _, rfl, log_small (by decide) (by decide), log_small (by decide) (by decide), .of q⟩
      · have h3 := of_decide_eq_false h2
        walk_at "r"
        refine ⟨_, rfl, ?_⟩
        walk_at "r"
        rw [show (if (6 : Int) < xs.length then (6 : Int) else xs.length) = ((min xs.length 6 : Nat) : Int) by split <;> omega]
        have hf2 : (match fbGo (min xs.length 6 : Nat) 0 (xs.take 6) with | some q => some q | none => if 6 < xs.length then some (6, -1) else none) = some (i, p) := by
          rw [← hf]
          exact (if_neg (show ¬ xs.length = 0 by omega)).symm
        have hys : (xs.take 6).length = min xs.length 6 := by rw [List.length_take]; omega
        have hM6 : min xs.length 6 ≤ 6 := by omega
        have hMl : min xs.length 6 ≤ xs.length := by omega
        generalize min xs.length 6 = M at hf2 hys hM6 hMl ⊢
        cases hd with
        | tup hds =>
        refine ⟨⟨by omega, by omega⟩, ?_⟩
        refine for_inv (fun r δ m' => m' = m ∧ ∃ (k : Nat) (a b : Option SV), δ = [some (.tup xs), some (.int M), a, b] ∧ k ≤ M ∧ r = rngS k (M - k) ∧ fbGo M k ((xs.take 6).drop k) = fbGo M 0 (xs.take 6)) ⟨rfl, 0, none, none, rfl, Nat.zero_le _, by simp, rfl⟩ (fun x r δ m' h => ?_) (fun δ m' h => ?_)
        · obtain ⟨rfl, k, a, b, rfl, hk, hr, hinv⟩ := h
          have hk1 : k < M := by
            by_cases e : k < M
            · exact e
            · rw [show M - k = 0 by omega] at hr; cases hr
          rw [show M - k = (M - (k + 1)) + 1 by omega] at hr
          obtain ⟨rfl, rfl⟩ := List.cons.inj hr
          have hdr : (xs.take 6).drop k = xs[k]'(by omega) :: (xs.take 6).drop (k + 1) := by
            rw [List.drop_eq_getElem_cons (by omega), List.getElem_take]
          refine ⟨trivial, ?_⟩
          walk_at "r"
          refine ⟨_, atI_nat (List.getElem?_eq_getElem (by omega)), ?_⟩
          walk_at "r"
          refine ⟨hds.mem (List.getElem_mem (by omega)), ?_⟩
          rw [hdr] at hinv
          have hgo : fbGo M k (xs[k]'(by omega) :: (xs.take 6).drop (k + 1)) = match firstB (xs[k]'(by omega)) M with | some p => some ((k : Int), p) | none => fbGo M (k + 1) ((xs.take 6).drop (k + 1)) := rfl
          rw [hgo] at hinv
          cases hfb : firstB (xs[k]'(by omega)) M with
          | none =>
            rw [hfb] at hinv
            walk_at "r"
            walk_at "f"
            walk_at "r"
            exact .of ⟨rfl, k + 1, _, _, rfl, hk1, rfl, hinv⟩
          | some pp =>
            rw [hfb] at hinv
            rw [← hinv] at hf2
            cases hf2
            obtain ⟨p1, p2⟩ := firstB_in hfb
            walk_at "r"
            walk_at "t"
            walk_at "r"
            exact ⟨_, _, rfl, log_small (by omega) (by omega), log_small (by omega) (by omega), .of q⟩
        · obtain ⟨rfl, k, a, b, rfl, hk, hr, hinv⟩ := h
          have hk1 : k = M := by
            by_cases e : k < M
            · rw [show M - k = (M - (k + 1)) + 1 by omega] at hr; cases hr
            · omega
          rw [List.drop_eq_nil_of_le (by omega)] at hinv
          rw [← hinv] at hf2
          have hf2 : (if 6 < xs.length then some ((6 : Int), (-1 : Int)) else none) = some (i, p) := hf2
          refine ⟨trivial, ?_⟩
          walk_at "r"
          refine ⟨_, rfl, ?_⟩
          walk_at "r"
          refine Br_i (fun h4 => ?_) (fun h4 => ?_)
          · have h5 := of_decide_eq_true h4
            rw [if_pos (by omega)] at hf2
            cases hf2
            walk_at "r"
            exact ⟨_, _, rfl, log_small (by decide) (by decide), log_small (by decide) (by decide), .of q⟩
          · have h5 := of_decide_eq_false h4
            rw [if_neg (by omega)] at hf2
            cases hf2
end
end Hn

set_option Elab.async false
set_option linter.all false
set_option maxRecDepth 100000
set_option maxHeartbeats 8000000
namespace Hn
open PySem PySem.Spec PyProof.Rows L2 Sy Lm
section
variable {P : Program} {w : World} {K : PySem.W.Frag} {mg : Str → Option Value} {base : Heap}
local macro_rules | `(tactic| walk_at "r") => `(tactic| (conv => whnf))
local macro_rules | `(tactic| walk_at "sp") => `(tactic| (first | rfl | contradiction | exact (False.elim ‹_›)))
local macro_rules | `(tactic| walk_at "len") => `(tactic| (exact Nat.le_trans (show _ ≤ 100000 by first | (simp; done) | (rw [rngS_length]; decide)) (by decide)))
local macro_rules | `(tactic| walk_at "f") => `(tactic| (refine Br_i (fun hb => Bool.noConfusion (show false = true from hb)) (fun _ => ?_)))
local macro_rules | `(tactic| walk_at "t") => `(tactic| (refine Br_i (fun _ => ?_) (fun hb => Bool.noConfusion (show true = false from hb))))
local macro_rules | `(tactic| walk_at "le") => `(tactic| first | exact Le.refl _ | (refine Le.put ?_; walk_at "le") | (refine Le.new ?_ (by assumption); walk_at "le"))
def spBadN (K : PySem.W.Frag) (n : Nat) : SpS := fun vs m SX S => ∃ x r i p, vs = x :: r ∧ r.length = n ∧ DD m x ∧ firstBad x = some (i, p) ∧ SX (badX K i p) m
theorem okB_judged_hours (T : Tx K mg) [OW : Own P K mg] : FnOk P w K mg base (L2.CX P w) 7 (He.ga K "judged_hours") T.fd_judged_hours ["rules", "person"] (lift K (spBadN K 1)) := by
  have G_refuse_bad_rules := okB_refuse_bad_rules (P := P) (w := w) (base := base) T
  have b_refuse_bad_rules := b_refuse_bad_rules T
  refine fn_syX T.F_judged_hours sc_judged_hours (fun svs m SX Sv h => ?_) (fun cdv A outer s H E hr => ⟨_, _, (gss_cons (gs_expr (ge_call G_refuse_bad_rules (hr) (by rfl) T.g_refuse_bad_rules T.k_refuse_bad_rules b_refuse_bad_rules .nil (fun _ => .nil) passE (ga_cons (gv 0) ga_nil)))
      (gss_cons gs_never
      (gss_one gs_never))), fun svs m SX Sv h => ?_⟩)
  · obtain ⟨x, r, i, p, rfl, hl, _⟩ := h
    show (x :: r).length = 2
    rw [List.length_cons, hl]
  · obtain ⟨x, r, i, p, rfl, hl, hd, hf, q⟩ := h
    match r, hl with
    | [x0], _ =>
    walk_at "r"
    exact ⟨x, i, p, rfl, hd, hf, .of q⟩
theorem okB_is_hushed (T : Tx K mg) [OW : Own P K mg] : FnOk P w K mg base (L2.CX P w) 8 (He.ga K "is_hushed") T.fd_is_hushed ["rules", "person", "moment"] (lift K (spBadN K 2)) := by
  have G_judged_hours := okB_judged_hours (P := P) (w := w) (base := base) T
  have b_judged_hours := b_judged_hours T
  refine fn_syX T.F_is_hushed sc_is_hushed (fun svs m SX Sv h => ?_) (fun cdv A outer s H E hr => ⟨_, _, (gss_cons (gs_set (i := 3) sc_is_hushed.nd rfl (.inl rfl) (ge_call G_judged_hours (hr) (by rfl) T.g_judged_hours T.k_judged_hours b_judged_hours .nil (fun _ => .nil) passE (ga_cons (gv 0) (ga_cons (gv 1) ga_nil))))
      (gss_cons gs_never
      (gss_one gs_never))), fun svs m SX Sv h => ?_⟩)
  · obtain ⟨x, r, i, p, rfl, hl, _⟩ := h
    show (x :: r).length = 3
    rw [List.length_cons, hl]
  · obtain ⟨x, r, i, p, rfl, hl, hd, hf, q⟩ := h
    match r, hl with
    | [x0, x1], _ =>
    walk_at "r"
    exact ⟨x, _, i, p, rfl, rfl, hd, hf, .of q⟩
theorem okB_free_from (T : Tx K mg) [OW : Own P K mg] : FnOk P w K mg base (L2.CX P w) 8 (He.ga K "free_from") T.fd_free_from ["rules", "person", "moment"] (lift K (spBadN K 2)) := by
  have G_judged_hours := okB_judged_hours (P := P) (w := w) (base := base) T
  have b_judged_hours := b_judged_hours T
  refine fn_syX T.F_free_from sc_free_from (fun svs m SX Sv h => ?_) (fun cdv A outer s H E hr => ⟨_, _, (gss_cons (gs_set (i := 3) sc_free_from.nd rfl (.inl rfl) (ge_call G_judged_hours (hr) (by rfl) T.g_judged_hours T.k_judged_hours b_judged_hours .nil (fun _ => .nil) passE (ga_cons (gv 0) (ga_cons (gv 1) ga_nil))))
      (gss_cons gs_never
      (gss_one gs_never))), fun svs m SX Sv h => ?_⟩)
  · obtain ⟨x, r, i, p, rfl, hl, _⟩ := h
    show (x :: r).length = 3
    rw [List.length_cons, hl]
  · obtain ⟨x, r, i, p, rfl, hl, hd, hf, q⟩ := h
    match r, hl with
    | [x0, x1], _ =>
    walk_at "r"
    exact ⟨x, _, i, p, rfl, rfl, hd, hf, .of q⟩
theorem okB_hushed_between (T : Tx K mg) [OW : Own P K mg] : FnOk P w K mg base (L2.CX P w) 8 (He.ga K "hushed_between") T.fd_hushed_between ["rules", "person", "begin", "end"] (lift K (spBadN K 3)) := by
  have G_judged_hours := okB_judged_hours (P := P) (w := w) (base := base) T
  have b_judged_hours := b_judged_hours T
  refine fn_syX T.F_hushed_between sc_hushed_between (fun svs m SX Sv h => ?_) (fun cdv A outer s H E hr => ⟨_, _, (gss_cons (gs_set (i := 4) sc_hushed_between.nd rfl (.inl rfl) (ge_call G_judged_hours (hr) (by rfl) T.g_judged_hours T.k_judged_hours b_judged_hours .nil (fun _ => .nil) passE (ga_cons (gv 0) (ga_cons (gv 1) ga_nil))))
      (gss_cons gs_never
      (gss_cons gs_never
      (gss_cons gs_never
      (gss_one gs_never))))), fun svs m SX Sv h => ?_⟩)
  · obtain ⟨x, r, i, p, rfl, hl, _⟩ := h
    show (x :: r).length = 4
    rw [List.length_cons, hl]
  · obtain ⟨x, r, i, p, rfl, hl, hd, hf, q⟩ := h
    match r, hl with
    | [x0, x1, x2], _ =>
    walk_at "r"
    exact ⟨x, _, i, p, rfl, rfl, hd, hf, .of q⟩
theorem okB_chain (T : Tx K mg) [OW : Own P K mg] : FnOk P w K mg base (L2.CX P w) 7 (He.ga K "chain") T.fd_chain ["rules", "person"] (lift K (spBadN K 1)) := by
  have G_refuse_bad_rules := okB_refuse_bad_rules (P := P) (w := w) (base := base) T
  have b_refuse_bad_rules := b_refuse_bad_rules T
  refine fn_syX T.F_chain sc_chain (fun svs m SX Sv h => ?_) (fun cdv A outer s H E hr => ⟨_, _, (gss_cons (gs_expr (ge_call G_refuse_bad_rules (hr) (by rfl) T.g_refuse_bad_rules T.k_refuse_bad_rules b_refuse_bad_rules .nil (fun _ => .nil) passE (ga_cons (gv 0) ga_nil)))
      (gss_cons gs_never
      (gss_cons gs_never
      (gss_cons gs_never
      (gss_one gs_never))))), fun svs m SX Sv h => ?_⟩)
  · obtain ⟨x, r, i, p, rfl, hl, _⟩ := h
    show (x :: r).length = 2
    rw [List.length_cons, hl]
  · obtain ⟨x, r, i, p, rfl, hl, hd, hf, q⟩ := h
    match r, hl with
    | [x0], _ =>
    walk_at "r"
    exact ⟨x, i, p, rfl, hd, hf, .of q⟩
theorem okB_judged_course (T : Tx K mg) [OW : Own P K mg] : FnOk P w K mg base (L2.CX P w) 7 (He.ga K "judged_course") T.fd_judged_course ["rules", "notices", "hears", "until"] (lift K (spBadN K 3)) := by
  have G_refuse_bad_rules := okB_refuse_bad_rules (P := P) (w := w) (base := base) T
  have b_refuse_bad_rules := b_refuse_bad_rules T
  refine fn_syX T.F_judged_course sc_judged_course (fun svs m SX Sv h => ?_) (fun cdv A outer s H E hr => ⟨_, _, (gss_cons (gs_expr (ge_call G_refuse_bad_rules (hr) (by rfl) T.g_refuse_bad_rules T.k_refuse_bad_rules b_refuse_bad_rules .nil (fun _ => .nil) passE (ga_cons (gv 0) ga_nil)))
      (gss_cons gs_never
      (gss_cons gs_never
      (gss_cons gs_never
      (gss_one gs_never))))), fun svs m SX Sv h => ?_⟩)
  · obtain ⟨x, r, i, p, rfl, hl, _⟩ := h
    show (x :: r).length = 4
    rw [List.length_cons, hl]
  · obtain ⟨x, r, i, p, rfl, hl, hd, hf, q⟩ := h
    match r, hl with
    | [x0, x1, x2], _ =>
    walk_at "r"
    exact ⟨x, i, p, rfl, hd, hf, .of q⟩
theorem okB_walked (T : Tx K mg) [OW : Own P K mg] : FnOk P w K mg base (L2.CX P w) 8 (He.ga K "walked") T.fd_walked ["rules", "notices", "hears", "until"] (lift K (spBadN K 3)) := by
  have G_judged_course := okB_judged_course (P := P) (w := w) (base := base) T
  have b_judged_course := b_judged_course T
  refine fn_syX T.F_walked sc_walked (fun svs m SX Sv h => ?_) (fun cdv A outer s H E hr => ⟨_, _, (gss_cons (gs_set (i := 4) sc_walked.nd rfl (.inl rfl) (ge_call G_judged_course (hr) (by rfl) T.g_judged_course T.k_judged_course b_judged_course .nil (fun _ => .nil) passE (ga_cons (gv 0) (ga_cons (gv 1) (ga_cons (gv 2) (ga_cons (gv 3) ga_nil))))))
      (gss_cons gs_never
      (gss_one gs_never))), fun svs m SX Sv h => ?_⟩)
  · obtain ⟨x, r, i, p, rfl, hl, _⟩ := h
    show (x :: r).length = 4
    rw [List.length_cons, hl]
  · obtain ⟨x, r, i, p, rfl, hl, hd, hf, q⟩ := h
    match r, hl with
    | [x0, x1, x2], _ =>
    walk_at "r"
    exact ⟨x, _, i, p, rfl, rfl, hd, hf, .of q⟩
theorem okB_wheeled (T : Tx K mg) [OW : Own P K mg] : FnOk P w K mg base (L2.CX P w) 8 (He.ga K "wheeled") T.fd_wheeled ["rules", "notices", "hears", "until"] (lift K (spBadN K 3)) := by
  have G_judged_course := okB_judged_course (P := P) (w := w) (base := base) T
  have b_judged_course := b_judged_course T
  refine fn_syX T.F_wheeled sc_wheeled (fun svs m SX Sv h => ?_) (fun cdv A outer s H E hr => ⟨_, _, (gss_cons (gs_set (i := 4) sc_wheeled.nd rfl (.inl rfl) (ge_call G_judged_course (hr) (by rfl) T.g_judged_course T.k_judged_course b_judged_course .nil (fun _ => .nil) passE (ga_cons (gv 0) (ga_cons (gv 1) (ga_cons (gv 2) (ga_cons (gv 3) ga_nil))))))
      (gss_cons gs_never
      (gss_cons gs_never
      (gss_one gs_never)))), fun svs m SX Sv h => ?_⟩)
  · obtain ⟨x, r, i, p, rfl, hl, _⟩ := h
    show (x :: r).length = 4
    rw [List.length_cons, hl]
  · obtain ⟨x, r, i, p, rfl, hl, hd, hf, q⟩ := h
    match r, hl with
    | [x0, x1, x2], _ =>
    walk_at "r"
    exact ⟨x, _, i, p, rfl, rfl, hd, hf, .of q⟩
theorem okB_written (T : Tx K mg) [OW : Own P K mg] : FnOk P w K mg base (L2.CX P w) 7 (He.ga K "written") T.fd_written ["rules", "notices"] (lift K (spBadN K 1)) := by
  have G_refuse_bad_rules := okB_refuse_bad_rules (P := P) (w := w) (base := base) T
  have b_refuse_bad_rules := b_refuse_bad_rules T
  refine fn_syX T.F_written sc_written (fun svs m SX Sv h => ?_) (fun cdv A outer s H E hr => ⟨_, _, (gss_cons (gs_expr (ge_call G_refuse_bad_rules (hr) (by rfl) T.g_refuse_bad_rules T.k_refuse_bad_rules b_refuse_bad_rules .nil (fun _ => .nil) passE (ga_cons (gv 0) ga_nil)))
      (gss_cons gs_never
      (gss_cons gs_never
      (gss_cons gs_never
      (gss_cons gs_never
      (gss_one gs_never)))))), fun svs m SX Sv h => ?_⟩)
  · obtain ⟨x, r, i, p, rfl, hl, _⟩ := h
    show (x :: r).length = 2
    rw [List.length_cons, hl]
  · obtain ⟨x, r, i, p, rfl, hl, hd, hf, q⟩ := h
    match r, hl with
    | [x0], _ =>
    walk_at "r"
    exact ⟨x, i, p, rfl, hd, hf, .of q⟩
end
end Hn

set_option Elab.async false
set_option linter.all false
set_option maxRecDepth 100000
set_option maxHeartbeats 8000000
namespace Hn
open PySem PySem.Spec PyProof.Rows L2 Sy Lm
section
variable {P : Program} {w : World} {K : PySem.W.Frag} {mg : Str → Option Value} {base : Heap}
local macro_rules | `(tactic| walk_at "r") => `(tactic| (conv => whnf))
local macro_rules | `(tactic| walk_at "sp") => `(tactic| (first | rfl | contradiction | exact (False.elim ‹_›)))
local macro_rules | `(tactic| walk_at "len") => `(tactic| (exact Nat.le_trans (show _ ≤ 100000 by first | (simp; done) | (rw [rngS_length]; decide)) (by decide)))
local macro_rules | `(tactic| walk_at "f") => `(tactic| (refine Br_i (fun hb => Bool.noConfusion (show false = true from hb)) (fun _ => ?_)))
local macro_rules | `(tactic| walk_at "t") => `(tactic| (refine Br_i (fun _ => ?_) (fun hb => Bool.noConfusion (show true = false from hb))))
local macro_rules | `(tactic| walk_at "le") => `(tactic| first | exact Le.refl _ | (refine Le.put ?_; walk_at "le") | (refine Le.new ?_ (by assumption); walk_at "le"))

def told_body : List Stmt := match defBody s_law_told with
  | [.Expr _ _, .Try _ [.ExceptHandler _ _ b _] _ _ _] => b
  | [.Try _ [.ExceptHandler _ _ b _] _ _ _] => b
  | _ => []
/-- what K says of a class of errors: it is one of the ten, a NoticeError, a ValueError -/
structure Kd_BadRules (K : PySem.W.Frag) : Prop where
  ec : ExcC K (He.ga K "BadRules")
  exm : PySem.W.exmOne K (.ref (He.ga K "BadRules")) (.ref (He.ga K "NoticeError")) = some true
  ve : PySem.W.kitOne K (.ref (He.ga K "BadRules")) (.type "ValueError") = some true
  k_BadBell : PySem.W.kitOne K (.ref (He.ga K "BadRules")) (.ref (He.ga K "BadBell")) = some false
  k_BadDevice : PySem.W.kitOne K (.ref (He.ga K "BadRules")) (.ref (He.ga K "BadDevice")) = some false
  k_BadHears : PySem.W.kitOne K (.ref (He.ga K "BadRules")) (.ref (He.ga K "BadHears")) = some false
  k_BadMoment : PySem.W.kitOne K (.ref (He.ga K "BadRules")) (.ref (He.ga K "BadMoment")) = some false
  k_BadNotices : PySem.W.kitOne K (.ref (He.ga K "BadRules")) (.ref (He.ga K "BadNotices")) = some false
  k_BadPerson : PySem.W.kitOne K (.ref (He.ga K "BadRules")) (.ref (He.ga K "BadPerson")) = some false
  k_BadRules : PySem.W.kitOne K (.ref (He.ga K "BadRules")) (.ref (He.ga K "BadRules")) = some true
  k_BadText : PySem.W.kitOne K (.ref (He.ga K "BadRules")) (.ref (He.ga K "BadText")) = some false
  k_IsOff : PySem.W.kitOne K (.ref (He.ga K "BadRules")) (.ref (He.ga K "IsOff")) = some false
  k_NotRinging : PySem.W.kitOne K (.ref (He.ga K "BadRules")) (.ref (He.ga K "NotRinging")) = some false
theorem told_suite_BadRules (T : Tx K mg) [OW : Own P K mg] (KD : Kd_BadRules K) {x : Str} {f : Addr} {cdv : Value} {A : Around} {outer : List Env} {s : Shared} {H0 : Hp} {E E2 : XK} {k : Nat} (hr : Room k (cxOf CX0 P w K mg base ["_law_work", "e", "_law_kinds", "_law_words", "_law_word"] x (defScope s_law_told) f cdv A outer s H0 E).nox.A) :
    ∃ (ts : Addr → Addr → TS) (ss : Addr → Addr → SS), (∀ (a dd : Addr) (oe : Obj) (pn : List (Addr × Obj)), Zc (.ref (He.ga K "BadRules")) (some dd) oe → (∃ vs, oe.data = .fields vs) → GSs K E2 ((cxOf CX0 P w K mg base ["_law_work", "e", "_law_kinds", "_law_words", "_law_word"] x (defScope s_law_told) f cdv A outer s H0 E).nox.suite a ((a, oe) :: pn)) told_body (ts a dd) (ss a dd)) ∧
      ∀ (a dd : Addr) (i p : Int) (D : SEnds) (v : Option SV) (SX : SXK) (m : Mem), m dd = some (.xd [("part", .int p), ("person", .int i)]) → (∀ m', Le m m' → D.rt (.tup [.str "BadRules", .int i, .int p]) m') → ss a dd SX D [v, some (.ref a), none, none, none] m := by
  refine ⟨_, _, fun a dd oe pn hz hf => (gss_cons (gs_set (i := 2) sc_law_told.nd rfl (.inl rfl) (ge_lst (ga_cons (ge_callB (call_isED KD.ec hz hf) sim_isED (by rfl) T.z_isinstance (by decide +kernel) (ga_cons (gv 1) (ga_cons (ge_gr (by rfl) T.g_BadBell) ga_nil))) (ga_cons (ge_callB (call_isED KD.ec hz hf) sim_isED (by rfl) T.z_isinstance (by decide +kernel) (ga_cons (gv 1) (ga_cons (ge_gr (by rfl) T.g_BadDevice) ga_nil))) (ga_cons (ge_callB (call_isED KD.ec hz hf) sim_isED (by rfl) T.z_isinstance (by decide +kernel) (ga_cons (gv 1) (ga_cons (ge_gr (by rfl) T.g_BadHears) ga_nil))) (ga_cons (ge_callB (call_isED KD.ec hz hf) sim_isED (by rfl) T.z_isinstance (by decide +kernel) (ga_cons (gv 1) (ga_cons (ge_gr (by rfl) T.g_BadMoment) ga_nil))) ga_nil))))))
      (gss_cons (gs_set (i := 2) sc_law_told.nd rfl (.inl rfl) (ge_op (op_addG K) sim_add (gv 2) (ge_lst (ga_cons (ge_callB (call_isED KD.ec hz hf) sim_isED (by rfl) T.z_isinstance (by decide +kernel) (ga_cons (gv 1) (ga_cons (ge_gr (by rfl) T.g_BadNotices) ga_nil))) (ga_cons (ge_callB (call_isED KD.ec hz hf) sim_isED (by rfl) T.z_isinstance (by decide +kernel) (ga_cons (gv 1) (ga_cons (ge_gr (by rfl) T.g_BadPerson) ga_nil))) (ga_cons (ge_callB (call_isED KD.ec hz hf) sim_isED (by rfl) T.z_isinstance (by decide +kernel) (ga_cons (gv 1) (ga_cons (ge_gr (by rfl) T.g_BadRules) ga_nil))) ga_nil))))))
      (gss_cons (gs_set (i := 2) sc_law_told.nd rfl (.inl rfl) (ge_op (op_addG K) sim_add (gv 2) (ge_lst (ga_cons (ge_callB (call_isED KD.ec hz hf) sim_isED (by rfl) T.z_isinstance (by decide +kernel) (ga_cons (gv 1) (ga_cons (ge_gr (by rfl) T.g_BadText) ga_nil))) (ga_cons (ge_callB (call_isED KD.ec hz hf) sim_isED (by rfl) T.z_isinstance (by decide +kernel) (ga_cons (gv 1) (ga_cons (ge_gr (by rfl) T.g_IsOff) ga_nil))) (ga_cons (ge_callB (call_isED KD.ec hz hf) sim_isED (by rfl) T.z_isinstance (by decide +kernel) (ga_cons (gv 1) (ga_cons (ge_gr (by rfl) T.g_NotRinging) ga_nil))) ga_nil))))))
      (gss_cons (gs_if (gw_pt (gw_or (gt_cmp (op_neG K hr.units) sim_ne (ge_bm PySem.F.plainAttrs_list PySem.F.slot_list_count PySem.F.type_list_count (mt_countG K) simk_L sim_count (gv 2) (ga_cons ge_bl ga_nil)) ge_int (nomark _)) (gw_or1 (gt_not (gt_val (ge_callB (call_isED KD.ec hz hf) sim_isED (by rfl) T.z_isinstance (by decide +kernel) (ga_cons (gv 1) (ga_cons (ge_ty (n := "ValueError") (by rfl) T.z_ValueError (by decide +kernel)) ga_nil)))))))) (gss_one gs_never) gss_nil)
      (gss_cons (gs_set (i := 3) sc_law_told.nd rfl (.inl rfl) (ge_lst (ga_cons ge_str (ga_cons ge_str (ga_cons ge_str (ga_cons ge_str (ga_cons ge_str (ga_cons ge_str (ga_cons ge_str (ga_cons ge_str ga_nil))))))))))
      (gss_cons (gs_set (i := 4) sc_law_told.nd rfl (.inl rfl) (ge_ix (ix_G K) sim_ix (ge_op (op_addG K) sim_add (gv 3) (ge_lst (ga_cons ge_str (ga_cons ge_str ga_nil)))) (ge_bm PySem.F.plainAttrs_list PySem.F.slot_list_index PySem.F.type_list_index (mt_indexG K) simk_L sim_index (gv 2) (ga_cons ge_bl ga_nil)) (fun _ _ => rfl)))
      (gss_cons (gs_if (gt_cmp (op_eqG K hr.units) sim_eq (gv 4) ge_str (nomark _)) (gss_one (gs_ret (ge_tup (ga_cons (gv 4) (ga_cons (ge_xf (xf_of KD.ec) OW.k_BadRules.na_person hz hf (gv 1)) (ga_cons (ge_xf (xf_of KD.ec) OW.k_BadRules.na_part hz hf (gv 1)) ga_nil)))))) gss_nil)
      (gss_cons (gs_if (gt_cmp (op_eqG K hr.units) sim_eq (gv 4) ge_str (nomark _)) (gss_one (gs_ret (ge_tup (ga_cons (gv 4) (ga_cons ge_never ga_nil))))) gss_nil)
      (gss_one (gs_ret (ge_tup (ga_cons (gv 4) (ga_cons (ge_ifE (gt_cmp (op_inG K) (sim_in false) (gv 4) (ge_tup (ga_cons ge_str (ga_cons ge_str ga_nil))) (by with_unfolding_all rfl)) ge_never ge_int) ga_nil))))))))))))), fun a dd i p D v SX m hdd q => ?_⟩
  have q : ∀ m', Le m m' → D.rt (.tup [.str "BadRules", .int i, .int p]) m' := q
  walk_at "r"
  refine ⟨rfl, ⟨_, hdd⟩, _, KD.k_BadBell, ?_⟩
  walk_at "r"
  refine ⟨rfl, ⟨_, hdd⟩, _, KD.k_BadDevice, ?_⟩
  walk_at "r"
  refine ⟨rfl, ⟨_, hdd⟩, _, KD.k_BadHears, ?_⟩
  walk_at "r"
  refine ⟨rfl, ⟨_, hdd⟩, _, KD.k_BadMoment, ?_⟩
  walk_at "r"
  refine ⟨by walk_at "len", fun p1 h1 => ?_⟩
  have d1 := fun o => kp (u := o) hdd h1
  walk_at "r"
  refine ⟨rfl, ⟨_, d1 _⟩, _, KD.k_BadNotices, ?_⟩
  walk_at "r"
  refine ⟨rfl, ⟨_, d1 _⟩, _, KD.k_BadPerson, ?_⟩
  walk_at "r"
  refine ⟨rfl, ⟨_, d1 _⟩, _, KD.k_BadRules, ?_⟩
  walk_at "r"
  refine ⟨by walk_at "len", fun p2 h2 => ?_⟩
  walk_at "r"
  refine ⟨_, _, kp up_same h2, up_same, by walk_at "len", fun p3 h3 => ?_⟩
  have d3 := fun o3 => kp (u := o3) (kp (d1 _) h2) h3
  walk_at "r"
  refine ⟨rfl, ⟨_, d3 _⟩, _, KD.k_BadText, ?_⟩
  walk_at "r"
  refine ⟨rfl, ⟨_, d3 _⟩, _, KD.k_IsOff, ?_⟩
  walk_at "r"
  refine ⟨rfl, ⟨_, d3 _⟩, _, KD.k_NotRinging, ?_⟩
  walk_at "r"
  refine ⟨by walk_at "len", fun p4 h4 => ?_⟩
  walk_at "r"
  refine ⟨_, _, kp up_same h4, up_same, by walk_at "len", fun p5 h5 => ?_⟩
  have l5 : Le m (up (up (up (up (up m p1 _) p2 _) p3 _) p4 _) p5 (.lst [SV.bl false, SV.bl false, SV.bl false, SV.bl false, SV.bl false, SV.bl false, SV.bl true, SV.bl false, SV.bl false, SV.bl false])) := .new (.new (.new (.new (.new (.refl m) h1) h2) h3) h4) h5
  rw [show ([SV.bl _, .bl _, .bl _, .bl _] ++ [.bl _, .bl _, .bl _] ++ [.bl _, .bl _, .bl _] : List SV) = [SV.bl false, SV.bl false, SV.bl false, SV.bl false, SV.bl false, SV.bl false, SV.bl true, SV.bl false, SV.bl false, SV.bl false] from rfl]
  generalize hm5 : up (up (up (up (up m p1 _) p2 _) p3 _) p4 _) p5 (.lst [SV.bl false, SV.bl false, SV.bl false, SV.bl false, SV.bl false, SV.bl false, SV.bl true, SV.bl false, SV.bl false, SV.bl false]) = m5 at l5 ⊢
  have e5 : m5 p5 = some (.lst [SV.bl false, SV.bl false, SV.bl false, SV.bl false, SV.bl false, SV.bl false, SV.bl true, SV.bl false, SV.bl false, SV.bl false]) := by rw [← hm5]; exact up_same
  have d5 := l5 _ _ hdd
  clear hm5 h1 h2 h3 h4 h5 d1 d3
  walk_at "r"
  refine ⟨⟨_, e5⟩, ?_⟩
  walk_at "r"
  refine ⟨_, e5, rfl, rfl, ?_⟩
  walk_at "r"
  walk_at "f"
  walk_at "r"
  refine ⟨rfl, ⟨_, d5⟩, _, KD.ve, ?_⟩
  walk_at "r"
  walk_at "f"
  walk_at "r"
  refine ⟨by walk_at "len", fun p6 h6 => ?_⟩
  walk_at "r"
  refine ⟨by walk_at "len", fun p7 h7 => ?_⟩
  walk_at "r"
  refine ⟨_, _, kp up_same h7, up_same, by walk_at "len", fun p8 h8 => ?_⟩
  have e8 := kp (u := .lst ([SV.str "BadBell", SV.str "BadDevice", SV.str "BadHears", SV.str "BadMoment", SV.str "BadNotices", SV.str "BadPerson", SV.str "BadRules", SV.str "BadText"] ++ [SV.str "IsOff", SV.str "NotRinging"])) (kp (kp e5 h6) h7) h8
  have d8 := fun o8 => kp (u := o8) (kp (kp d5 h6) h7) h8
  walk_at "r"
  refine ⟨⟨_, e8⟩, ?_⟩
  walk_at "r"
  refine ⟨_, 6, _, e8, rfl, rfl, rfl, rfl, fun i z hi hz => ?_, ?_⟩
  · have hm2 : i = 0 ∨ i = 1 ∨ i = 2 ∨ i = 3 ∨ i = 4 ∨ i = 5 := by omega
    rcases hm2 with rfl | rfl | rfl | rfl | rfl | rfl <;> cases hz <;> rfl
  walk_at "r"
  refine ⟨_, _, up_same, atI_nat (j := 6) rfl, ?_⟩
  walk_at "r"
  walk_at "t"
  walk_at "r"
  refine ⟨rfl, _, _, d8 _, rfl, ?_⟩
  walk_at "r"
  refine ⟨rfl, _, _, d8 _, rfl, ?_⟩
  walk_at "r"
  refine ⟨by walk_at "len", ?_⟩
  exact q _ (.new (.new (.new l5 h6) h7) h8)
def spTold_BadRules (P : Program) (w : World) (K : PySem.W.Frag) (mg : Str → Option Value) (base : Heap) : SpS := fun vs m _ S => ∃ f φ, vs = [.ref f] ∧ m f = some (.pred (ActC P w K mg base 9 f φ)) ∧ φ m (fun x m' => ∃ i p : Int, x = ⟨He.ga K "BadRules", some [("part", .int p), ("person", .int i)]⟩ ∧ ∀ m2, Le m' m2 → S (.tup [.str "BadRules", .int i, .int p]) m2) S
theorem ok_law_told_BadRules (T : Tx K mg) [OW : Own P K mg] (KD : Kd_BadRules K) : FnOk P w K mg base CX0 (9 + 1) (He.ga K "_law_told") T.fd__law_told ["_law_work"] (lift K (spTold_BadRules P w K mg base)) := by
  refine FunD.ok T.F__law_told sc_law_told (fun vs H Q E h => ?_) (fun cdv A outer s H vs Q E hr h => ?_)
  · obtain ⟨F, svs, m, SX, Sv, _, h2, ⟨f, φ, rfl, _⟩, _⟩ := h
    rw [vrs_length h2]; rfl
  obtain ⟨F, svs, m, SX, Sv, M, r, ⟨f, φ, rfl, hm, hφ⟩, hx, c⟩ := h
  obtain ⟨ts, ss, h1, h2⟩ := told_suite_BadRules (P := P) (w := w) (base := base) T KD (x := "_law_told") (f := He.ga K "_law_told") (cdv := cdv) (A := A) (outer := outer) (s := s) (H0 := H) (E := E) (E2 := fun _ _ _ => True) hr
  refine ⟨_, PSs.nox (pss_one (ps_try_as (i := 1) (c := .ref (He.ga K "NoticeError")) (tb := fun W => tRet (tWork P w K mg base 9 0 W)) (ts := fun a cls d D σ H => cls = .ref (He.ga K "BadRules") ∧ ∃ dd, d = some dd ∧ ts a dd D σ H) rfl rfl sc_law_told.nd rfl rfl ⟨(by rfl), (by decide), .inl T.g_NoticeError⟩ LamX.takes0
    (fun W pn xe tk _ => pss_one (ps_ret (pe_work tk hr (Nat.le_refl _) rfl (.inl rfl)))) (fun a oe cls d pn hz hf => ⟨fun pins s σ H D I h => ?_⟩))), ?_⟩
  · obtain ⟨rfl, dd, rfl, h⟩ := h
    exact (h1 a dd oe pn hz hf).pe.run pins s σ H D I h
  · obtain ⟨v0, rfl, rv⟩ := vrs_one r
    obtain rfl := vr_ref rv
    refine ⟨F, f, φ, m, _, Sv, rfl, M, hm, hφ, fun x d F' H' m' sF M' hx' ⟨i, p, e, q⟩ => ?_, c⟩
    subst e
    obtain ⟨dd, us, rfl, g2, g3, g4, g5⟩ := hx'
    refine ⟨true, KD.exm, fun _ a ha => ⟨rfl, dd, rfl, ?_⟩, fun z => by cases z⟩
    exact (h1 a dd ⟨.ref (He.ga K "BadRules"), some dd, .fields #[], #[]⟩ [] ⟨rfl, rfl⟩ ⟨_, rfl⟩).sim _ F' H' [none, some (.ref a), none, none, none] (up m' dd (.xd [("part", .int p), ("person", .int i)])) (fun _ _ => True) { nx := fun _ _ => False, rt := Sv } _ ⟨⟨rfl, fun i d e => by
      match i with
      | 0 => cases e
      | 1 => cases e; exact ⟨_, rfl, .ref a⟩
      | n + 2 =>
        have z := List.mem_of_getElem? (show ([none, none, none] : DS)[n]? = some (some d) from e)
        simp at z⟩, M'.adopt g4 g3 (fun x z => by rw [g2] at z; cases z) ⟨us, g2, g5⟩, fun x d F2 H2 m2 _ _ _ _ => trivial⟩ (h2 a dd i p _ _ _ _ up_same fun m2 l2 => q m2 (Le.trans (.new (.refl m') g4) l2)) ⟨fun _ _ _ _ _ _ _ _ z => z.elim, c.go sF, fun _ _ _ _ _ _ _ _ z => z.elim, fun _ _ _ _ _ _ _ _ z => z.elim⟩
end
end Hn

set_option Elab.async false
set_option linter.all false
set_option maxRecDepth 100000
set_option maxHeartbeats 8000000
namespace Hn
open PySem PySem.Spec PyProof.Rows L2 Sy Lm
section
variable {P : Program} {w : World} {K : PySem.W.Frag} {mg : Str → Option Value} {base : Heap}
local macro_rules | `(tactic| walk_at "r") => `(tactic| (conv => whnf))
local macro_rules | `(tactic| walk_at "sp") => `(tactic| (first | rfl | contradiction | exact (False.elim ‹_›)))
local macro_rules | `(tactic| walk_at "len") => `(tactic| (exact Nat.le_trans (show _ ≤ 100000 by first | (simp; done) | (rw [rngS_length]; decide)) (by decide)))
local macro_rules | `(tactic| walk_at "f") => `(tactic| (refine Br_i (fun hb => Bool.noConfusion (show false = true from hb)) (fun _ => ?_)))
local macro_rules | `(tactic| walk_at "t") => `(tactic| (refine Br_i (fun _ => ?_) (fun hb => Bool.noConfusion (show true = false from hb))))
local macro_rules | `(tactic| walk_at "le") => `(tactic| first | exact Le.refl _ | (refine Le.put ?_; walk_at "le") | (refine Le.new ?_ (by assumption); walk_at "le"))
def spAll_BadRules (P : Program) (w : World) (K : PySem.W.Frag) (mg : Str → Option Value) (base : Heap) : SpS := fun vs m _ S => ∃ (l : Addr) (fs : List Addr) (i k : Int), vs = [.ref l, .tup [.str "BadRules", .int i, .int k]] ∧ m l = some (.lst (fs.map .ref)) ∧
  (∀ f ∈ fs, ∃ φ : Phi, m f = some (.pred (ActC P w K mg base 9 f φ)) ∧ ∀ (m' : Mem) (SX : SXK) (S' : SV → Mem → Prop), Le m m' → (∀ m2, Le m' m2 → SX ⟨He.ga K "BadRules", some [("part", .int k), ("person", .int i)]⟩ m2) → φ m' SX S') ∧ fs.length ≤ 100 ∧ S (.bl true) m
theorem ok_law_all_BadRules (T : Tx K mg) [OW : Own P K mg] (KD : Kd_BadRules K) : FnOk P w K mg base CX0 (9 + 2) (He.ga K "_law_all") T.fd__law_all ["_law_works", "_law_due"] (lift K (spAll_BadRules P w K mg base)) := by
  have G_law_alike := ok_law_alike (P := P) (w := w) (base := base) T 3
  have b_law_alike := b_law_alike T
  have G_law_told := ok_law_told_BadRules (P := P) (w := w) (base := base) T KD
  have b_law_told := b_law_told T
  refine fn_sy T.F__law_all sc_law_all (fun svs m SX Sv h => ?_) (fun cdv A outer s H E hr => ⟨_, _, (gss_one (gs_ret (ge_cmp (op_eqG K hr.units) sim_eq (ge_lc (own := [("_law_work", 2)]) (by rfl) sc_law_all.nd (gi_seq (gv 0)) (blkOk_by (own := [("_law_work", 2)]) (N := ["_law_works", "_law_due", "_law_work"]) (sc := (defScope s_law_all)) (by decide +kernel)) (fun _ _ _ _ _ => (gg_name (i := 2) sc_law_all.nd rfl (.inl rfl))) (wp_name (by decide)) (fun _ _ _ _ _ => (gts_one (gt_not (gt_val (ge_call G_law_alike ((hr.mono (by decide))) (by rfl) T.g__law_alike T.k__law_alike b_law_alike .nil (fun _ => .nil) pass0 (ga_cons (ge_call G_law_told (hr) (by rfl) T.g__law_told T.k__law_told b_law_told .nil (fun _ => .nil) pass0 (ga_cons (gv 2) ga_nil)) (ga_cons (gv 1) ga_nil))))))) (fun _ _ _ _ _ => (gv 2))) (ge_lst ga_nil) (nomark _)))), fun svs m SX Sv h => ?_⟩)
  · obtain ⟨l, fs, i, k, rfl, _⟩ := h
    rfl
  · obtain ⟨l, fs, i, k, rfl, hl, hf, hlen, q⟩ := h
    walk_at "r"
    refine ⟨_, hl, ?_⟩
    walk_at "r"
    refine ⟨by rw [List.length_map]; exact line_le (by omega), fun p hp => ?_⟩
    refine lc_filt (fun _ => false) id (fun acc => kp hl hp) (fun x hx acc K1 K0 _ h0 => ?_) ?_
    · obtain ⟨f, hfs, rfl⟩ := List.mem_map.mp hx
      obtain ⟨φ, hm, hφ⟩ := hf f hfs
      walk_at "r"
      refine ⟨f, φ, rfl, kp hm hp, hφ _ _ _ (.new (.refl m) hp) fun m2 l2 => ⟨i, k, rfl, fun m3 l3 => ?_⟩⟩
      walk_at "r"
      refine ⟨_, _, _, _, rfl, .tup (.cons (.str _) (.cons (.int _) (.cons (.int _) .nil))), .tup (.cons (.str _) (.cons (.int _) (.cons (.int _) .nil))), (by show 1 + dpts _ < 3; simp [dpts, dpt]), ⟨by show _ ≤ 100000; simp, trivial, trivial, trivial, trivial⟩, ?_⟩
      walk_at "r"
      refine Br_i (fun hb => ?_) (fun _ => h0 _ (l2.trans l3) rfl)
      exfalso
      simp [eqD, eqDs] at hb
    · walk_at "r"
      refine ⟨by walk_at "len", fun p2 hp2 => ?_⟩
      have hz : ((fs.map SV.ref).filter (fun _ => false)).map id = [] := by simp
      rw [hz] at hp2 ⊢
      walk_at "r"
      refine ⟨.list [], .list [], .ref (kp up_same hp2) .nil, .ref up_same .nil, rfl, rfl, ?_⟩
      exact ⟨m, by walk_at "le", q⟩
end
end Hn

set_option Elab.async false
set_option linter.all false
set_option maxRecDepth 100000
set_option maxHeartbeats 8000000
namespace Hn
open PySem PySem.Spec PyProof.Rows L2 Sy Lm
section
variable {P : Program} {w : World} {K : PySem.W.Frag} {mg : Str → Option Value} {base : Heap}
local macro_rules | `(tactic| walk_at "r") => `(tactic| (conv => whnf))
local macro_rules | `(tactic| walk_at "sp") => `(tactic| (first | rfl | contradiction | exact (False.elim ‹_›)))
local macro_rules | `(tactic| walk_at "len") => `(tactic| (exact Nat.le_trans (show _ ≤ 100000 by first | (simp; done) | (rw [rngS_length]; decide)) (by decide)))
local macro_rules | `(tactic| walk_at "f") => `(tactic| (refine Br_i (fun hb => Bool.noConfusion (show false = true from hb)) (fun _ => ?_)))
local macro_rules | `(tactic| walk_at "t") => `(tactic| (refine Br_i (fun _ => ?_) (fun hb => Bool.noConfusion (show true = false from hb))))
local macro_rules | `(tactic| walk_at "le") => `(tactic| first | exact Le.refl _ | (refine Le.put ?_; walk_at "le") | (refine Le.new ?_ (by assumption); walk_at "le"))
theorem fits_true {many : Nat} {r : PR} (h : r.Ok many) : canHush (.tup (r.hs.map pairV)) = true ∧ isWh (.int r.least) 0 4 = true ∧ canGath (.tup (r.gs.map pairV)) = true ∧ (isNon (optV r.wait) || isWh (optV r.wait) 1 24) = true ∧ (isNon (optV r.fur) || isWh (optV r.fur) 0 ((many : Int) - 1)) = true := by
  have g := h.good
  have g : (firstF (fitsOf (.tup (r.hs.map pairV)) (.int r.least) (.tup (r.gs.map pairV)) (optV r.wait) (optV r.fur) many)).map (fun (j : Nat) => (j : Int)) = none := g
  rw [Option.map_eq_none_iff, firstF_none] at g
  unfold fitsOf at g
  simp only [List.all_cons, List.all_nil, id, Bool.and_true, Bool.and_eq_true] at g
  exact g
theorem fb0 {h l g w f : SV} {many : Int} (e : canHush h = false) : firstB (.tup [h, l, g, w, f]) many = some 0 := by
  show (firstF (fitsOf h l g w f many)).map _ = _
  unfold fitsOf
  rw [e]
  rfl
theorem fb1 {h l g w f : SV} {many : Int} (e0 : canHush h = true) (e : isWh l 0 4 = false) : firstB (.tup [h, l, g, w, f]) many = some 1 := by
  show (firstF (fitsOf h l g w f many)).map _ = _
  unfold fitsOf
  rw [e0, e]
  rfl
theorem fb2 {h l g w f : SV} {many : Int} (e0 : canHush h = true) (e1 : isWh l 0 4 = true) (e : canGath g = false) : firstB (.tup [h, l, g, w, f]) many = some 2 := by
  show (firstF (fitsOf h l g w f many)).map _ = _
  unfold fitsOf
  rw [e0, e1, e]
  rfl
theorem fb3 {h l g w f : SV} {many : Int} (e0 : canHush h = true) (e1 : isWh l 0 4 = true) (e2 : canGath g = true) (e : (isNon w || isWh w 1 24) = false) : firstB (.tup [h, l, g, w, f]) many = some 3 := by
  show (firstF (fitsOf h l g w f many)).map _ = _
  unfold fitsOf
  rw [e0, e1, e2, e]
  rfl
theorem fb4 {h l g w f : SV} {many : Int} (e0 : canHush h = true) (e1 : isWh l 0 4 = true) (e2 : canGath g = true) (e3 : (isNon w || isWh w 1 24) = true) (e : (isNon f || isWh f 0 (many - 1)) = false) : firstB (.tup [h, l, g, w, f]) many = some 4 := by
  show (firstF (fitsOf h l g w f many)).map _ = _
  unfold fitsOf
  rw [e0, e1, e2, e3, e]
  rfl
def spOdd : SpS := fun vs m _ S => ∃ (b : Addr) (r : PR) (many : Nat), vs = [.ref b, r.sv, .int many] ∧ IsBox m b ∧ r.Ok many ∧ (1 ≤ many ∧ many ≤ 6) ∧ ∀ x (p : Int) m', Le m m' → DD m' x → firstB x many = some p → S (.tup [x, .int p]) m'
theorem pair_ok {m : Mem} {p2 : Addr} {far j : Int} (h2 : m p2 = some (.lst [.int 1, .int 2])) (f0 : 0 ≤ far) (j0 : 0 ≤ j) (j1 : j < 8) : ∃ x, atI [SV.tup [.int 3, .int 3], .tup [.int (24 + far), .int 1], .tup [.int 1, .int (24 + far)], .tup [.int (-1 - far), .int 1], .tup [.int 1], .ref p2, .non, .tup [.int 1, .int 2, .int 3]] j = some x ∧ DD m x ∧ isStr x = false := by
  rcases (by omega : j = 0 ∨ j = 1 ∨ j = 2 ∨ j = 3 ∨ j = 4 ∨ j = 5 ∨ j = 6 ∨ j = 7) with rfl | rfl | rfl | rfl | rfl | rfl | rfl | rfl
  · exact ⟨_, atI_nat (j := 0) rfl, .tup (.cons (.int _) (.cons (.int _) .nil)), rfl⟩
  · refine ⟨_, atI_nat (j := 1) rfl, .tup (.cons (.int _) (.cons (.int _) .nil)), ?_⟩
    show ((decide (0 ≤ 24 + far) && decide (24 + far ≤ 23)) && (isWh (.int 1) 0 23 && neI (.int (24 + far)) (.int 1))) = false
    rw [decide_eq_false (p := 24 + far ≤ 23) (by omega), Bool.and_false, Bool.false_and]
  · refine ⟨_, atI_nat (j := 2) rfl, .tup (.cons (.int _) (.cons (.int _) .nil)), ?_⟩
    show (isWh (.int 1) 0 23 && ((decide (0 ≤ 24 + far) && decide (24 + far ≤ 23)) && neI (.int 1) (.int (24 + far)))) = false
    rw [decide_eq_false (p := 24 + far ≤ 23) (by omega), Bool.and_false, Bool.false_and, Bool.and_false]
  · refine ⟨_, atI_nat (j := 3) rfl, .tup (.cons (.int _) (.cons (.int _) .nil)), ?_⟩
    show ((decide (0 ≤ -1 - far) && decide (-1 - far ≤ 23)) && (isWh (.int 1) 0 23 && neI (.int (-1 - far)) (.int 1))) = false
    rw [decide_eq_false (p := (0 : Int) ≤ -1 - far) (by omega), Bool.false_and, Bool.false_and]
  · exact ⟨_, atI_nat (j := 4) rfl, .tup (.cons (.int _) .nil), rfl⟩
  · exact ⟨_, atI_nat (j := 5) rfl, .ref h2, rfl⟩
  · exact ⟨_, atI_nat (j := 6) rfl, .non, rfl⟩
  · exact ⟨_, atI_nat (j := 7) rfl, .tup (.cons (.int _) (.cons (.int _) (.cons (.int _) .nil))), rfl⟩
theorem heap_ok {m : Mem} {p2 : Addr} {far j : Int} (h2 : m p2 = some (.lst [.int 0, .int 1])) (f0 : 0 ≤ far) (j0 : 0 ≤ j) (j1 : j < 8) : ∃ x, atI [SV.tup [.int (8 + far), .int 1], .tup [.int (-1 - far), .int 1], .tup [.int 0, .int 0], .tup [.int 0, .int (13 + far)], .tup [.int 0], .ref p2, .non, .tup [.int 0, .bl true]] j = some x ∧ DD m x ∧ ∀ lo : Int, 0 ≤ lo → gath lo [x] = false := by
  rcases (by omega : j = 0 ∨ j = 1 ∨ j = 2 ∨ j = 3 ∨ j = 4 ∨ j = 5 ∨ j = 6 ∨ j = 7) with rfl | rfl | rfl | rfl | rfl | rfl | rfl | rfl
  · refine ⟨_, atI_nat (j := 0) rfl, .tup (.cons (.int _) (.cons (.int _) .nil)), fun lo l0 => ?_⟩
    show ((decide (lo ≤ 8 + far) && decide (8 + far ≤ 7)) && isWh (.int 1) 1 12 && gath (8 + far + 1) []) = false
    rw [decide_eq_false (p := 8 + far ≤ 7) (by omega), Bool.and_false, Bool.false_and, Bool.false_and]
  · refine ⟨_, atI_nat (j := 1) rfl, .tup (.cons (.int _) (.cons (.int _) .nil)), fun lo l0 => ?_⟩
    show ((decide (lo ≤ -1 - far) && decide (-1 - far ≤ 7)) && isWh (.int 1) 1 12 && gath (-1 - far + 1) []) = false
    rw [decide_eq_false (p := lo ≤ -1 - far) (by omega), Bool.false_and, Bool.false_and, Bool.false_and]
  · refine ⟨_, atI_nat (j := 2) rfl, .tup (.cons (.int _) (.cons (.int _) .nil)), fun lo l0 => ?_⟩
    show (isWh (.int 0) lo 7 && (decide ((1 : Int) ≤ 0) && decide ((0 : Int) ≤ 12)) && gath (0 + 1) []) = false
    rw [decide_eq_false (p := (1 : Int) ≤ 0) (by omega), Bool.false_and, Bool.and_false, Bool.false_and]
  · refine ⟨_, atI_nat (j := 3) rfl, .tup (.cons (.int _) (.cons (.int _) .nil)), fun lo l0 => ?_⟩
    show (isWh (.int 0) lo 7 && (decide (1 ≤ 13 + far) && decide (13 + far ≤ 12)) && gath (0 + 1) []) = false
    rw [decide_eq_false (p := 13 + far ≤ 12) (by omega), Bool.and_false, Bool.and_false, Bool.false_and]
  · exact ⟨_, atI_nat (j := 4) rfl, .tup (.cons (.int _) .nil), fun lo l0 => rfl⟩
  · exact ⟨_, atI_nat (j := 5) rfl, .ref h2, fun lo l0 => rfl⟩
  · exact ⟨_, atI_nat (j := 6) rfl, .non, fun lo l0 => rfl⟩
  · refine ⟨_, atI_nat (j := 7) rfl, .tup (.cons (.int _) (.cons (.bl _) .nil)), fun lo l0 => ?_⟩
    show (isWh (.int 0) lo 7 && false && gath (0 + 1) []) = false
    rw [Bool.and_false, Bool.false_and]
theorem cut_to {α : Type} (xs : List α) (k : Nat) : cutS' xs none (some (k : Int)) = xs.take k := by
  unfold cutS'
  rw [HT.sIx_none, HT.sIx_nat, Nat.sub_zero, List.drop_zero]
  by_cases h : k ≤ xs.length
  · rw [Nat.min_eq_left h]
  · rw [Nat.min_eq_right (by omega), List.take_length, List.take_of_length_le (by omega)]
theorem cut_from {α : Type} (xs : List α) (k : Nat) : cutS' xs (some (k : Int)) none = xs.drop k := by
  unfold cutS'
  rw [HT.sIx_none, HT.sIx_nat]
  by_cases h : k ≤ xs.length
  · rw [Nat.min_eq_left h, List.take_of_length_le (by rw [List.length_drop]; omega)]
  · rw [Nat.min_eq_right (by omega), List.drop_length, List.drop_of_length_le (by omega)]
    simp
theorem cut_len {α : Type} (xs : List α) (k : Nat) {i : Int} (e : (k : Int) = i) : (cutS' xs none (some i)).length ≤ xs.length := by
  subst e
  rw [cut_to, List.length_take]
  omega
theorem hush_ok {m : Mem} {pl : Addr} {hs : List (Int × Int)} {pr : SV} {j : Int} {xs : List SV} (hl : m pl = some (.lst xs)) (dp : DD m pr) (sp : isStr pr = false) (j0 : 0 ≤ j) (j1 : j < 4) : ∃ x, atI [SV.tup (cutS' (hs.map pairV) none (some 2) ++ [pr]), .tup (List.replicate (4 : Int).toNat [SV.tup [.int 1, .int 2]]).flatten, .ref pl, .non] j = some x ∧ DD m x ∧ canHush x = false := by
  rcases (by omega : j = 0 ∨ j = 1 ∨ j = 2 ∨ j = 3) with rfl | rfl | rfl | rfl
  · refine ⟨_, atI_nat (j := 0) rfl, .tup (.of fun x hx => ?_), ?_⟩
    · rcases List.mem_append.mp hx with hx | hx
      · obtain ⟨p, _, rfl⟩ := List.mem_map.mp (List.mem_of_mem_drop (List.mem_of_mem_take hx))
        exact .tup (.cons (.int _) (.cons (.int _) .nil))
      · obtain rfl := List.mem_singleton.mp hx
        exact dp
    · show (decide _ && (cutS' (hs.map pairV) none (some 2) ++ [pr]).all isStr) = false
      rw [List.all_append, List.all_cons, sp, Bool.false_and, Bool.and_false, Bool.and_false]
  · exact ⟨_, atI_nat (j := 1) rfl, .tup (.of fun x hx => by
      have hx : x ∈ [SV.tup [.int 1, .int 2], .tup [.int 1, .int 2], .tup [.int 1, .int 2], .tup [.int 1, .int 2]] := hx
      simp at hx
      subst hx
      exact .tup (.cons (.int _) (.cons (.int _) .nil))), by decide⟩
  · exact ⟨_, atI_nat (j := 2) rfl, .ref hl, rfl⟩
  · exact ⟨_, atI_nat (j := 3) rfl, .non, rfl⟩
theorem least_ok {m : Mem} {far j : Int} (f0 : 0 ≤ far) (j0 : 0 ≤ j) (j1 : j < 4) : ∃ x, atI [SV.int (5 + far), .int (-1 - far), .non, .bl true] j = some x ∧ DD m x ∧ isWh x 0 4 = false := by
  rcases (by omega : j = 0 ∨ j = 1 ∨ j = 2 ∨ j = 3) with rfl | rfl | rfl | rfl
  · refine ⟨_, atI_nat (j := 0) rfl, .int _, ?_⟩
    show (decide (0 ≤ 5 + far) && decide (5 + far ≤ 4)) = false
    rw [decide_eq_false (p := 5 + far ≤ 4) (by omega), Bool.and_false]
  · refine ⟨_, atI_nat (j := 1) rfl, .int _, ?_⟩
    show (decide (0 ≤ -1 - far) && decide (-1 - far ≤ 4)) = false
    rw [decide_eq_false (p := 0 ≤ -1 - far) (by omega), Bool.false_and]
  · exact ⟨_, atI_nat (j := 2) rfl, .non, rfl⟩
  · exact ⟨_, atI_nat (j := 3) rfl, .bl _, rfl⟩
theorem gath_app {x : SV} (hx : ∀ lo : Int, 0 ≤ lo → gath lo [x] = false) : ∀ (gs : List (Int × Int)) (lo : Int), 0 ≤ lo → gath lo (gs.map pairV ++ [x]) = false
  | [], lo, h => hx lo h
  | p :: r, lo, h => by
    show (isWh (.int p.1) lo 7 && isWh (.int p.2) 1 12 && gath (p.1 + 1) (r.map pairV ++ [x])) = false
    by_cases e : lo ≤ p.1
    · rw [gath_app hx r (p.1 + 1) (by omega), Bool.and_false]
    · show ((decide (lo ≤ p.1) && decide (p.1 ≤ 7)) && isWh (.int p.2) 1 12 && _) = false
      rw [decide_eq_false e, Bool.false_and, Bool.false_and, Bool.false_and]
theorem gats_ok {m : Mem} {pl : Addr} {gs : List (Int × Int)} {hx : SV} {j : Int} {xs ts : List SV} (hl : m pl = some (.lst xs)) (dh : DD m hx) (sh : ∀ lo : Int, 0 ≤ lo → gath lo [hx] = false) (ht : ts = [.tup [.int 0, .int 1], .tup [.int 1, .int 1], .tup [.int 2, .int 1], .tup [.int 3, .int 1], .tup [.int 4, .int 1]]) (j0 : 0 ≤ j) (j1 : j < 6) :
    ∃ x, atI [SV.tup (cutS' (gs.map pairV) none (some 3) ++ [hx]), .tup [.tup [.int 1, .int 2], .tup [.int 1, .int 3]], .tup [.tup [.int 2, .int 1], .tup [.int 1, .int 1]], .tup ts, .ref pl, .non] j = some x ∧ DD m x ∧ canGath x = false := by
  have dp : ∀ a b : Int, DD m (.tup [.int a, .int b]) := fun a b => .tup (.cons (.int _) (.cons (.int _) .nil))
  rcases (by omega : j = 0 ∨ j = 1 ∨ j = 2 ∨ j = 3 ∨ j = 4 ∨ j = 5) with rfl | rfl | rfl | rfl | rfl | rfl
  · have e : cutS' (gs.map pairV) none (some 3) = (gs.take 3).map pairV := (cut_to (gs.map pairV) 3).trans List.map_take.symm
    rw [e]
    refine ⟨_, atI_nat (j := 0) rfl, .tup (.of fun x hx => ?_), ?_⟩
    · rcases List.mem_append.mp hx with hx | hx
      · obtain ⟨p, _, rfl⟩ := List.mem_map.mp hx
        exact dp _ _
      · obtain rfl := List.mem_singleton.mp hx
        exact dh
    · show (decide _ && gath 0 ((gs.take 3).map pairV ++ [hx])) = false
      rw [gath_app sh _ 0 (by decide), Bool.and_false]
  · exact ⟨_, atI_nat (j := 1) rfl, .tup (.cons (dp _ _) (.cons (dp _ _) .nil)), by decide⟩
  · exact ⟨_, atI_nat (j := 2) rfl, .tup (.cons (dp _ _) (.cons (dp _ _) .nil)), by decide⟩
  · subst ht
    exact ⟨_, atI_nat (j := 3) rfl, .tup (.cons (dp _ _) (.cons (dp _ _) (.cons (dp _ _) (.cons (dp _ _) (.cons (dp _ _) .nil))))), by decide⟩
  · exact ⟨_, atI_nat (j := 4) rfl, .ref hl, rfl⟩
  · exact ⟨_, atI_nat (j := 5) rfl, .non, rfl⟩
theorem wait_ok {m : Mem} {far j : Int} (f0 : 0 ≤ far) (j0 : 0 ≤ j) (j1 : j < 5) : ∃ x, atI [SV.int 0, .int (25 + far), .int (-1 - far), .bl true, .str "1"] j = some x ∧ DD m x ∧ (isNon x || isWh x 1 24) = false := by
  rcases (by omega : j = 0 ∨ j = 1 ∨ j = 2 ∨ j = 3 ∨ j = 4) with rfl | rfl | rfl | rfl | rfl
  · exact ⟨_, atI_nat (j := 0) rfl, .int _, by decide⟩
  · refine ⟨_, atI_nat (j := 1) rfl, .int _, ?_⟩
    show (false || (decide (1 ≤ 25 + far) && decide (25 + far ≤ 24))) = false
    rw [decide_eq_false (p := 25 + far ≤ 24) (by omega), Bool.and_false, Bool.false_or]
  · refine ⟨_, atI_nat (j := 2) rfl, .int _, ?_⟩
    show (false || (decide (1 ≤ -1 - far) && decide (-1 - far ≤ 24))) = false
    rw [decide_eq_false (p := 1 ≤ -1 - far) (by omega), Bool.false_and, Bool.false_or]
  · exact ⟨_, atI_nat (j := 3) rfl, .bl _, rfl⟩
  · exact ⟨_, atI_nat (j := 4) rfl, .str _, rfl⟩
theorem fur_ok {m : Mem} {far j many : Int} (f0 : 0 ≤ far) (j0 : 0 ≤ j) (j1 : j < 4) : ∃ x, atI [SV.int (many + far), .int (-1 - far), .bl true, .str "0"] j = some x ∧ DD m x ∧ (isNon x || isWh x 0 (many - 1)) = false := by
  rcases (by omega : j = 0 ∨ j = 1 ∨ j = 2 ∨ j = 3) with rfl | rfl | rfl | rfl
  · refine ⟨_, atI_nat (j := 0) rfl, .int _, ?_⟩
    show (false || (decide (0 ≤ many + far) && decide (many + far ≤ many - 1))) = false
    rw [decide_eq_false (p := many + far ≤ many - 1) (by omega), Bool.and_false, Bool.false_or]
  · refine ⟨_, atI_nat (j := 1) rfl, .int _, ?_⟩
    show (false || (decide (0 ≤ -1 - far) && decide (-1 - far ≤ many - 1))) = false
    rw [decide_eq_false (p := 0 ≤ -1 - far) (by omega), Bool.false_and, Bool.false_or]
  · exact ⟨_, atI_nat (j := 2) rfl, .bl _, rfl⟩
  · exact ⟨_, atI_nat (j := 3) rfl, .str _, rfl⟩
theorem rows_ok {m : Mem} {pl : Addr} {a b c d e : SV} {j many : Int} {xs : List SV} (hl : m pl = some (.lst xs)) (ds : DDs m [a, b, c, d, e]) (j0 : 0 ≤ j) (j1 : j < 5) : ∃ x, atI [SV.tup [a, b, c, d], .tup [a, b, c, d, e, .non], .ref pl, .non, .tup []] j = some x ∧ DD m x ∧ firstB x many = some (-1) := by
  have dm : ∀ x ∈ [a, b, c, d, e], DD m x := fun x hx => ds.mem hx
  rcases (by omega : j = 0 ∨ j = 1 ∨ j = 2 ∨ j = 3 ∨ j = 4) with rfl | rfl | rfl | rfl | rfl
  · exact ⟨_, atI_nat (j := 0) rfl, .tup (.of fun x hx => dm x (List.mem_of_mem_take (show x ∈ List.take 4 [a, b, c, d, e] from hx))), rfl⟩
  · exact ⟨_, atI_nat (j := 1) rfl, .tup (.of fun x hx => by
      have hx : x ∈ [a, b, c, d, e] ++ [SV.non] := hx
      rcases List.mem_append.mp hx with hx | hx
      · exact dm x hx
      · obtain rfl := List.mem_singleton.mp hx
        exact .non), rfl⟩
  · exact ⟨_, atI_nat (j := 2) rfl, .ref hl, rfl⟩
  · exact ⟨_, atI_nat (j := 3) rfl, .non, rfl⟩
  · exact ⟨_, atI_nat (j := 4) rfl, .tup .nil, rfl⟩
theorem ok_law_odd_part (T : Tx K mg) : FnOk P w K mg base CX0 3 (He.ga K "_law_odd_part") T.fd__law_odd_part ["_law_box", "_law_rule_here", "_law_many"] (lift K spOdd) := by
  have G_law_take := ok_law_take (P := P) (w := w) (base := base) T
  have b_law_take := b_law_take T
  refine fn_sy T.F__law_odd_part sc_law_odd_part (fun svs m SX Sv h => ?_) (fun cdv A outer s H E hr => ⟨_, _, (gss_cons (gs_asg (gv 1) (gg_tup 5 (by rfl) (ggs_cons (gg_name (i := 3) sc_law_odd_part.nd rfl (.inl rfl)) (ggs_cons (gg_name (i := 4) sc_law_odd_part.nd rfl (.inl rfl)) (ggs_cons (gg_name (i := 5) sc_law_odd_part.nd rfl (.inl rfl)) (ggs_cons (gg_name (i := 6) sc_law_odd_part.nd rfl (.inl rfl)) (ggs_cons (gg_name (i := 7) sc_law_odd_part.nd rfl (.inl rfl)) ggs_nil)))))))
      (gss_cons (gs_par (i := 8) (j := 9) (by rfl) sc_law_odd_part.nd rfl rfl (by decide) rfl rfl (ga_cons (ge_call G_law_take (hr.mono (by decide)) (by rfl) T.g__law_take T.k__law_take b_law_take .nil (fun _ => .nil) pass0 (ga_cons (gv 0) (ga_cons (ge_ix (ix_G K) sim_ix (ge_lst (ga_cons ge_int (ga_cons (ge_op op_pow sim_pow ge_int ge_int) ga_nil))) (ge_call G_law_take (hr.mono (by decide)) (by rfl) T.g__law_take T.k__law_take b_law_take .nil (fun _ => .nil) pass0 (ga_cons (gv 0) (ga_cons ge_int ga_nil))) (fun _ _ => rfl)) ga_nil))) (ga_cons (ge_call G_law_take (hr.mono (by decide)) (by rfl) T.g__law_take T.k__law_take b_law_take .nil (fun _ => .nil) pass0 (ga_cons (gv 0) (ga_cons ge_int ga_nil))) ga_nil)))
      (gss_cons (gs_set (i := 10) sc_law_odd_part.nd rfl (.inl rfl) (ge_ix (ix_G K) sim_ix (ge_lst (ga_cons (ge_tup (ga_cons ge_int (ga_cons ge_int ga_nil))) (ga_cons (ge_tup (ga_cons (ge_op (op_addG K) sim_add ge_int (gv 8)) (ga_cons ge_int ga_nil))) (ga_cons (ge_tup (ga_cons ge_int (ga_cons (ge_op (op_addG K) sim_add ge_int (gv 8)) ga_nil))) (ga_cons (ge_tup (ga_cons (ge_op op_sub sim_sub (ge_un un_neg sim_neg ge_int) (gv 8)) (ga_cons ge_int ga_nil))) (ga_cons (ge_tup (ga_cons ge_int ga_nil)) (ga_cons (ge_lst (ga_cons ge_int (ga_cons ge_int ga_nil))) (ga_cons ge_non (ga_cons (ge_tup (ga_cons ge_int (ga_cons ge_int (ga_cons ge_int ga_nil)))) ga_nil))))))))) (ge_call G_law_take (hr.mono (by decide)) (by rfl) T.g__law_take T.k__law_take b_law_take .nil (fun _ => .nil) pass0 (ga_cons (gv 0) (ga_cons ge_int ga_nil))) (fun _ _ => rfl)))
      (gss_cons (gs_set (i := 11) sc_law_odd_part.nd rfl (.inl rfl) (ge_ix (ix_G K) sim_ix (ge_lst (ga_cons (ge_tup (ga_cons (ge_op (op_addG K) sim_add ge_int (gv 8)) (ga_cons ge_int ga_nil))) (ga_cons (ge_tup (ga_cons (ge_op op_sub sim_sub (ge_un un_neg sim_neg ge_int) (gv 8)) (ga_cons ge_int ga_nil))) (ga_cons (ge_tup (ga_cons ge_int (ga_cons ge_int ga_nil))) (ga_cons (ge_tup (ga_cons ge_int (ga_cons (ge_op (op_addG K) sim_add ge_int (gv 8)) ga_nil))) (ga_cons (ge_tup (ga_cons ge_int ga_nil)) (ga_cons (ge_lst (ga_cons ge_int (ga_cons ge_int ga_nil))) (ga_cons ge_non (ga_cons (ge_tup (ga_cons ge_int (ga_cons ge_bl ga_nil))) ga_nil))))))))) (ge_call G_law_take (hr.mono (by decide)) (by rfl) T.g__law_take T.k__law_take b_law_take .nil (fun _ => .nil) pass0 (ga_cons (gv 0) (ga_cons ge_int ga_nil))) (fun _ _ => rfl)))
      (gss_cons (gs_if (gt_cmp (op_eqG K hr.units) sim_eq (gv 9) ge_int (nomark _)) (gss_cons (gs_set (i := 12) sc_law_odd_part.nd rfl (.inl rfl) (ge_lst (ga_cons (ge_op (op_addG K) sim_add (ge_slice (gv 3) go_none (go_some ge_int)) (ge_tup (ga_cons (gv 10) ga_nil))) (ga_cons (ge_op (op_repTA K) sim_repT (ge_tup (ga_cons (ge_tup (ga_cons ge_int (ga_cons ge_int ga_nil))) ga_nil)) ge_int) (ga_cons (ge_lst (ga_cons (ge_tup (ga_cons ge_int (ga_cons ge_int ga_nil))) ga_nil)) (ga_cons ge_non ga_nil))))))
      (gss_one (gs_ret (ge_tup (ga_cons (ge_tup (ga_cons (ge_ix (ix_G K) sim_ix (gv 12) (ge_call G_law_take (hr.mono (by decide)) (by rfl) T.g__law_take T.k__law_take b_law_take .nil (fun _ => .nil) pass0 (ga_cons (gv 0) (ga_cons ge_int ga_nil))) (fun _ _ => rfl)) (ga_cons (ge_op (op_addG K) sim_add ge_int (gv 8)) (ga_cons (gv 5) (ga_cons (gv 6) (ga_cons (gv 7) ga_nil)))))) (ga_cons ge_int ga_nil)))))) gss_nil)
      (gss_cons (gs_if (gt_cmp (op_eqG K hr.units) sim_eq (gv 9) ge_int (nomark _)) (gss_one (gs_ret (ge_tup (ga_cons (ge_tup (ga_cons (gv 3) (ga_cons (ge_ix (ix_G K) sim_ix (ge_lst (ga_cons (ge_op (op_addG K) sim_add ge_int (gv 8)) (ga_cons (ge_op op_sub sim_sub (ge_un un_neg sim_neg ge_int) (gv 8)) (ga_cons ge_non (ga_cons ge_bl ga_nil))))) (ge_call G_law_take (hr.mono (by decide)) (by rfl) T.g__law_take T.k__law_take b_law_take .nil (fun _ => .nil) pass0 (ga_cons (gv 0) (ga_cons ge_int ga_nil))) (fun _ _ => rfl)) (ga_cons ge_non (ga_cons (gv 6) (ga_cons (gv 7) ga_nil)))))) (ga_cons ge_int ga_nil))))) gss_nil)
      (gss_cons (gs_if (gt_cmp (op_eqG K hr.units) sim_eq (gv 9) ge_int (nomark _)) (gss_cons (gs_set (i := 12) sc_law_odd_part.nd rfl (.inl rfl) (ge_lst (ga_cons (ge_op (op_addG K) sim_add (ge_slice (gv 5) go_none (go_some ge_int)) (ge_tup (ga_cons (gv 11) ga_nil))) (ga_cons (ge_tup (ga_cons (ge_tup (ga_cons ge_int (ga_cons ge_int ga_nil))) (ga_cons (ge_tup (ga_cons ge_int (ga_cons ge_int ga_nil))) ga_nil))) (ga_cons (ge_tup (ga_cons (ge_tup (ga_cons ge_int (ga_cons ge_int ga_nil))) (ga_cons (ge_tup (ga_cons ge_int (ga_cons ge_int ga_nil))) ga_nil))) (ga_cons (ge_callTy (cr_tup K) sim_tupOf (by rfl) T.z_tuple (by decide +kernel) (ga_cons (ge_lc (own := [("_law_k", 13)]) (by rfl) sc_law_odd_part.nd (gi_range1 (by rfl) T.z_range (ga_cons ge_int ga_nil)) (blkOk_by (own := [("_law_k", 13)]) (N := ["_law_box", "_law_rule_here", "_law_many", "_law_hushed", "_law_least", "_law_gather", "_law_wait", "_law_further", "_law_far", "_law_part", "_law_pair", "_law_heap", "_law_some", "_law_k"]) (sc := (defScope s_law_odd_part)) (by decide +kernel)) (fun _ _ _ _ _ => (gg_name (i := 13) sc_law_odd_part.nd rfl (.inl rfl))) (wp_name (by decide)) (fun _ _ _ _ _ => gts_nil) (fun _ _ _ _ _ => (ge_tup (ga_cons (gv 13) (ga_cons ge_int ga_nil))))) ga_nil)) (ga_cons (ge_lst ga_nil) (ga_cons ge_non ga_nil))))))))
      (gss_one (gs_ret (ge_tup (ga_cons (ge_tup (ga_cons (gv 3) (ga_cons (gv 4) (ga_cons (ge_ix (ix_G K) sim_ix (gv 12) (ge_call G_law_take (hr.mono (by decide)) (by rfl) T.g__law_take T.k__law_take b_law_take .nil (fun _ => .nil) pass0 (ga_cons (gv 0) (ga_cons ge_int ga_nil))) (fun _ _ => rfl)) (ga_cons ge_int (ga_cons (gv 7) ga_nil)))))) (ga_cons ge_int ga_nil)))))) gss_nil)
      (gss_cons (gs_if (gt_cmp (op_eqG K hr.units) sim_eq (gv 9) ge_int (nomark _)) (gss_one (gs_ret (ge_tup (ga_cons (ge_tup (ga_cons (gv 3) (ga_cons (gv 4) (ga_cons (gv 5) (ga_cons (ge_ix (ix_G K) sim_ix (ge_lst (ga_cons ge_int (ga_cons (ge_op (op_addG K) sim_add ge_int (gv 8)) (ga_cons (ge_op op_sub sim_sub (ge_un un_neg sim_neg ge_int) (gv 8)) (ga_cons ge_bl (ga_cons ge_str ga_nil)))))) (ge_call G_law_take (hr.mono (by decide)) (by rfl) T.g__law_take T.k__law_take b_law_take .nil (fun _ => .nil) pass0 (ga_cons (gv 0) (ga_cons ge_int ga_nil))) (fun _ _ => rfl)) (ga_cons (gv 2) ga_nil)))))) (ga_cons ge_int ga_nil))))) gss_nil)
      (gss_cons (gs_if (gt_cmp (op_eqG K hr.units) sim_eq (gv 9) ge_int (nomark _)) (gss_one (gs_ret (ge_tup (ga_cons (ge_tup (ga_cons (gv 3) (ga_cons (gv 4) (ga_cons (gv 5) (ga_cons (gv 6) (ga_cons (ge_ix (ix_G K) sim_ix (ge_lst (ga_cons (ge_op (op_addG K) sim_add (gv 2) (gv 8)) (ga_cons (ge_op op_sub sim_sub (ge_un un_neg sim_neg ge_int) (gv 8)) (ga_cons ge_bl (ga_cons ge_str ga_nil))))) (ge_call G_law_take (hr.mono (by decide)) (by rfl) T.g__law_take T.k__law_take b_law_take .nil (fun _ => .nil) pass0 (ga_cons (gv 0) (ga_cons ge_int ga_nil))) (fun _ _ => rfl)) ga_nil)))))) (ga_cons ge_int ga_nil))))) gss_nil)
      (gss_one (gs_ret (ge_tup (ga_cons (ge_ix (ix_G K) sim_ix (ge_lst (ga_cons (ge_slice (gv 1) go_none (go_some ge_int)) (ga_cons (ge_op (op_addG K) sim_add (gv 1) (ge_tup (ga_cons ge_non ga_nil))) (ga_cons (ge_callTy (cr_lst K) sim_lstOf (by rfl) T.z_list (by decide +kernel) (ga_cons (gv 1) ga_nil)) (ga_cons ge_non (ga_cons (ge_tup ga_nil) ga_nil)))))) (ge_call G_law_take (hr.mono (by decide)) (by rfl) T.g__law_take T.k__law_take b_law_take .nil (fun _ => .nil) pass0 (ga_cons (gv 0) (ga_cons ge_int ga_nil))) (fun _ _ => rfl)) (ga_cons (ge_un un_neg sim_neg ge_int) ga_nil)))))))))))))), fun svs m SX Sv h => ?_⟩)
  · obtain ⟨b, r, many, rfl, _⟩ := h
    rfl
  · obtain ⟨b, r, many, rfl, bx, ok, ⟨m1, m6⟩, q⟩ := h
    walk_at "r"
    refine ⟨rfl, ?_⟩
    walk_at "r"
    refine ⟨⟨by decide, by decide, by decide⟩, ?_⟩
    walk_at "r"
    refine ⟨by walk_at "len", fun p hp => ?_⟩
    walk_at "r"
    refine ⟨bx.new hp, small (by decide) (by decide), fun n n0 n1 => ?_⟩
    walk_at "r"
    refine ⟨_, _, up_same, pick2 n0 n1, ?_⟩
    rw [ite_int]
    walk_at "r"
    refine ⟨bx.new hp, small (by split <;> decide) (by split <;> decide), fun far f0 f1 => ?_⟩
    walk_at "r"
    refine ⟨bx.new hp, small (by decide) (by decide), fun part p0 p1 => ?_⟩
    generalize hma : up m p _ = ma
    have l1 : Le m ma := by rw [← hma]; exact .new (.refl m) hp
    have bx1 : IsBox ma b := bx.le l1
    walk_at "r"
    repeat (refine ⟨by walk_at "len", ?_⟩; walk_at "r")
    intro p2 h2
    walk_at "r"
    repeat (refine ⟨by walk_at "len", ?_⟩; walk_at "r")
    intro p3 h3
    walk_at "r"
    refine ⟨(bx1.new h2).new h3, small (by decide) (by decide), fun j j0 j1 => ?_⟩
    obtain ⟨pr, hpr, dpr, spr⟩ := pair_ok (m := up ma p2 (.lst [.int 1, .int 2])) up_same f0 j0 j1
    walk_at "r"
    refine ⟨_, pr, up_same, hpr, ?_⟩
    generalize hmb : up (up ma p2 _) p3 _ = mb
    have l12 : Le ma mb := by rw [← hmb]; exact .new (.new (.refl _) h2) h3
    have l2 := l1.trans l12
    have bx2 := bx1.le l12
    have dpr : DD mb pr := dpr.le (by rw [← hmb]; exact .new (.refl _) h3)
    dsimp only [List.set]
    walk_at "r"
    repeat (refine ⟨by walk_at "len", ?_⟩; walk_at "r")
    intro q2 h4
    walk_at "r"
    repeat (refine ⟨by walk_at "len", ?_⟩; walk_at "r")
    intro q3 h5
    walk_at "r"
    refine ⟨(bx2.new h4).new h5, small (by decide) (by decide), fun j' j0' j1' => ?_⟩
    obtain ⟨hx, hhx, dhx, shx⟩ := heap_ok (m := up mb q2 (.lst [.int 0, .int 1])) up_same f0 j0' j1'
    walk_at "r"
    refine ⟨_, hx, up_same, hhx, ?_⟩
    generalize hmc : up (up mb q2 _) q3 _ = mc
    have l23 : Le mb mc := by rw [← hmc]; exact .new (.new (.refl _) h4) h5
    have lc := l2.trans l23
    have bxc := bx2.le l23
    have dpr := dpr.le l23
    have dhx : DD mc hx := dhx.le (by rw [← hmc]; exact .new (.refl _) h5)
    clear hma hmb hmc
    dsimp only [List.set]
    obtain ⟨k1, k2, k3, k4, k5⟩ := fits_true ok
    have ohl := ok.hl
    have ogl := ok.gl
    walk_at "r"
    refine Br_i (fun e0 => ?_) (fun e0 => ?_)
    · walk_at "r"
      repeat (refine ⟨by walk_at "len", ?_⟩; walk_at "r")
      refine ⟨line_le (by rw [show ([pr] : List SV).length = 1 from rfl]; have := cut_len (r.hs.map pairV) 2 (i := 2) rfl; rw [List.length_map] at this; omega), ?_⟩
      walk_at "r"
      repeat (refine ⟨by walk_at "len", ?_⟩; walk_at "r")
      refine ⟨by simp, ⟨by decide, by decide⟩, show 1 ≤ 1000 by decide, ?_⟩
      walk_at "r"
      repeat (refine ⟨by walk_at "len", ?_⟩; walk_at "r")
      intro pl hl
      walk_at "r"
      repeat (refine ⟨by walk_at "len", ?_⟩; walk_at "r")
      intro ps hs
      walk_at "r"
      refine ⟨(bxc.new hl).new hs, small (by decide) (by decide), fun jj jj0 jj1 => ?_⟩
      obtain ⟨x, hix, dx, sx⟩ := hush_ok (m := up mc pl (.lst [.tup [.int 1, .int 2]])) (hs := r.hs) up_same (dpr.le (.new (.refl mc) hl)) spr jj0 jj1
      walk_at "r"
      refine ⟨_, x, up_same, hix, ?_⟩
      walk_at "r"
      repeat (refine ⟨by walk_at "len", ?_⟩; walk_at "r")
      exact .of (q _ _ _ ((lc.new hl).new hs) (.tup (.cons (dx.le (.new (.refl _) hs)) (.cons (.int _) (.cons (dd_pairs _) (.cons (dd_opt _) (.cons (dd_opt _) .nil)))))) (fb0 sx))
    walk_at "r"
    refine Br_i (fun e1 => ?_) (fun e1 => ?_)
    · walk_at "r"
      repeat (refine ⟨by walk_at "len", ?_⟩; walk_at "r")
      intro ps hs
      walk_at "r"
      refine ⟨bxc.new hs, small (by decide) (by decide), fun jj jj0 jj1 => ?_⟩
      obtain ⟨x, hix, dx, sx⟩ := least_ok (m := mc) f0 jj0 jj1
      walk_at "r"
      refine ⟨_, x, up_same, hix, ?_⟩
      walk_at "r"
      repeat (refine ⟨by walk_at "len", ?_⟩; walk_at "r")
      exact .of (q _ _ _ (lc.new hs) (.tup (.cons (dd_pairs _) (.cons (dx.le (.new (.refl _) hs)) (.cons .non (.cons (dd_opt _) (.cons (dd_opt _) .nil)))))) (fb1 k1 sx))
    walk_at "r"
    refine Br_i (fun e2 => ?_) (fun e2 => ?_)
    · walk_at "r"
      repeat (refine ⟨by walk_at "len", ?_⟩; walk_at "r")
      refine ⟨line_le (by rw [show ([hx] : List SV).length = 1 from rfl]; have := cut_len (r.gs.map pairV) 3 (i := 3) rfl; rw [List.length_map] at this; omega), ?_⟩
      walk_at "r"
      repeat (refine ⟨by walk_at "len", ?_⟩; walk_at "r")
      refine ⟨⟨by decide, by decide⟩, ?_⟩
      refine ⟨by walk_at "len", fun pc hpc => ?_⟩
      refine lc_map (fun x => .tup [x, .int 1]) (fun _ => trivial) (fun x hx acc K1 k => ?_) ?_
      · walk_at "r"
        refine ⟨by walk_at "len", ?_⟩
        exact k _ (.refl _)
      · walk_at "r"
        refine ⟨_, up_same, ?_⟩
        walk_at "r"
        repeat (refine ⟨by walk_at "len", ?_⟩; walk_at "r")
        intro pl hl
        walk_at "r"
        repeat (refine ⟨by walk_at "len", ?_⟩; walk_at "r")
        intro ps hs
        walk_at "r"
        refine ⟨((bxc.new hpc).new hl).new hs, small (by decide) (by decide), fun jj jj0 jj1 => ?_⟩
        obtain ⟨x, hix, dx, sx⟩ := gats_ok (m := up (up mc pc _) pl (.lst [])) (gs := r.gs) up_same (dhx.le (.new (.new (.refl mc) hpc) hl)) shx rfl jj0 jj1
        walk_at "r"
        refine ⟨_, x, up_same, hix, ?_⟩
        walk_at "r"
        repeat (refine ⟨by walk_at "len", ?_⟩; walk_at "r")
        exact .of (q _ _ _ (((lc.new hpc).new hl).new hs) (.tup (.cons (dd_pairs _) (.cons (.int _) (.cons (dx.le (.new (.refl _) hs)) (.cons (.int _) (.cons (dd_opt _) .nil)))))) (fb2 k1 k2 sx))
    walk_at "r"
    refine Br_i (fun e3 => ?_) (fun e3 => ?_)
    · walk_at "r"
      repeat (refine ⟨by walk_at "len", ?_⟩; walk_at "r")
      intro ps hs
      walk_at "r"
      refine ⟨bxc.new hs, small (by decide) (by decide), fun jj jj0 jj1 => ?_⟩
      obtain ⟨x, hix, dx, sx⟩ := wait_ok (m := mc) f0 jj0 jj1
      walk_at "r"
      refine ⟨_, x, up_same, hix, ?_⟩
      walk_at "r"
      repeat (refine ⟨by walk_at "len", ?_⟩; walk_at "r")
      exact .of (q _ _ _ (lc.new hs) (.tup (.cons (dd_pairs _) (.cons (.int _) (.cons (dd_pairs _) (.cons (dx.le (.new (.refl _) hs)) (.cons (.int _) .nil)))))) (fb3 k1 k2 k3 sx))
    walk_at "r"
    refine Br_i (fun e4 => ?_) (fun e4 => ?_)
    · walk_at "r"
      repeat (refine ⟨by walk_at "len", ?_⟩; walk_at "r")
      intro ps hs
      walk_at "r"
      refine ⟨bxc.new hs, small (by decide) (by decide), fun jj jj0 jj1 => ?_⟩
      obtain ⟨x, hix, dx, sx⟩ := fur_ok (m := mc) (many := many) f0 jj0 jj1
      walk_at "r"
      refine ⟨_, x, up_same, hix, ?_⟩
      walk_at "r"
      repeat (refine ⟨by walk_at "len", ?_⟩; walk_at "r")
      exact .of (q _ _ _ (lc.new hs) (.tup (.cons (dd_pairs _) (.cons (.int _) (.cons (dd_pairs _) (.cons (dd_opt _) (.cons (dx.le (.new (.refl _) hs)) .nil)))))) (fb4 k1 k2 k3 k4 sx))
    walk_at "r"
    repeat (refine ⟨by walk_at "len", ?_⟩; walk_at "r")
    refine ⟨_, rfl, fun pl hl => ?_⟩
    walk_at "r"
    repeat (refine ⟨by walk_at "len", ?_⟩; walk_at "r")
    intro ps hs
    walk_at "r"
    refine ⟨(bxc.new hl).new hs, small (by decide) (by decide), fun jj jj0 jj1 => ?_⟩
    have ds : DDs (up mc pl (.lst [.tup (r.hs.map pairV), .int r.least, .tup (r.gs.map pairV), optV r.wait, optV r.fur])) [.tup (r.hs.map pairV), .int r.least, .tup (r.gs.map pairV), optV r.wait, optV r.fur] := .cons (dd_pairs _) (.cons (.int _) (.cons (dd_pairs _) (.cons (dd_opt _) (.cons (dd_opt _) .nil))))
    obtain ⟨x, hix, dx, sx⟩ := rows_ok (many := many) up_same ds jj0 jj1
    walk_at "r"
    refine ⟨_, x, up_same, hix, ?_⟩
    walk_at "r"
    repeat (refine ⟨by walk_at "len", ?_⟩; walk_at "r")
    exact .of (q _ _ _ ((lc.new hl).new hs) (dx.le (.new (.refl _) hs)) sx)
end
end Hn

set_option Elab.async false
set_option linter.all false
set_option maxRecDepth 100000
set_option maxHeartbeats 8000000
namespace Hn
open PySem PySem.Spec PyProof.Rows L2 Sy Lm
section
variable {P : Program} {w : World} {K : PySem.W.Frag} {mg : Str → Option Value} {base : Heap}
local macro_rules | `(tactic| walk_at "r") => `(tactic| (conv => whnf))
local macro_rules | `(tactic| walk_at "sp") => `(tactic| (first | rfl | contradiction | exact (False.elim ‹_›)))
local macro_rules | `(tactic| walk_at "len") => `(tactic| (exact Nat.le_trans (show _ ≤ 100000 by first | (simp; done) | (rw [rngS_length]; decide)) (by decide)))
local macro_rules | `(tactic| walk_at "f") => `(tactic| (refine Br_i (fun hb => Bool.noConfusion (show false = true from hb)) (fun _ => ?_)))
local macro_rules | `(tactic| walk_at "t") => `(tactic| (refine Br_i (fun _ => ?_) (fun hb => Bool.noConfusion (show true = false from hb))))
local macro_rules | `(tactic| walk_at "le") => `(tactic| first | exact Le.refl _ | (refine Le.put ?_; walk_at "le") | (refine Le.new ?_ (by assumption); walk_at "le"))
theorem fbGo_app {M p : Int} {odd : SV} {rest : List SV} (ho : firstB odd M = some p) : ∀ (pre : List SV) (i : Nat), (∀ x ∈ pre, firstB x M = none) → fbGo M i (pre ++ odd :: rest) = some (((i + pre.length : Nat) : Int), p)
  | [], i, _ => by
    show (match firstB odd M with | some p => some ((i : Int), p) | none => _) = _
    rw [ho]
    rfl
  | y :: pre, i, h => by
    show (match firstB y M with | some p => some ((i : Int), p) | none => fbGo M (i + 1) (pre ++ odd :: rest)) = _
    rw [h y List.mem_cons_self]
    show fbGo M (i + 1) (pre ++ odd :: rest) = _
    rw [fbGo_app ho pre (i + 1) fun x hx => h x (List.mem_cons_of_mem _ hx), List.length_cons]
    congr 3
    omega
theorem bad_at {R : List PR} {k : Nat} {odd : SV} {behind : List SV} {p : Int} (ok : RulesOk R) (hk : k < R.length) (hb : behind.length + k + 1 = R.length) (ho : firstB odd R.length = some p) : firstBad (.tup ((R.map PR.sv).take k ++ [odd] ++ behind)) = some ((k : Int), p) := by
  have h6 := ok.six
  have hl : ((R.map PR.sv).take k ++ [odd] ++ behind).length = R.length := by
    rw [List.length_append, List.length_append, List.length_take, List.length_map, List.length_singleton]
    omega
  have e : (R.map PR.sv).take k ++ [odd] ++ behind = (R.map PR.sv).take k ++ odd :: behind := by simp
  have hgo := fbGo_app (M := R.length) (rest := behind) ho ((R.map PR.sv).take k) 0 (fun x hx => by
    obtain ⟨r, hr, rfl⟩ := List.mem_map.mp (List.mem_of_mem_take hx)
    exact (ok.all r hr).good)
  rw [← e, List.length_take, List.length_map, Nat.min_eq_left (by omega), Nat.zero_add] at hgo
  generalize (R.map PR.sv).take k ++ [odd] ++ behind = xs at hl hgo ⊢
  show (if xs.length = 0 then some ((0 : Int), (-1 : Int)) else match fbGo (min xs.length 6 : Nat) 0 (xs.take 6) with | some q => some q | none => if 6 < xs.length then some (6, -1) else none) = _
  rw [if_neg (by omega), List.take_of_length_le (by omega), hl, Nat.min_eq_left h6, hgo]
def plainV : SV := .tup [.tup [], .int 0, .tup [], .non, .non]
theorem dd_plain {m : Mem} : DD m plainV := .tup (.cons (.tup .nil) (.cons (.int _) (.cons (.tup .nil) (.cons .non (.cons .non .nil)))))
theorem many_ok {y : SV} {n : Nat} (h : 1 ≤ n) : firstBad (.tup ([plainV, plainV, plainV, plainV, plainV, plainV] ++ (List.replicate n [y]).flatten)) = some (6, -1) := by
  have hl : (List.replicate n [y]).flatten.length = n := by simp
  generalize (List.replicate n [y]).flatten = ys at hl
  have hl2 : ([plainV, plainV, plainV, plainV, plainV, plainV] ++ ys).length = 6 + n := by rw [List.length_append, hl]; rfl
  show (if ([plainV, plainV, plainV, plainV, plainV, plainV] ++ ys).length = 0 then some ((0 : Int), (-1 : Int)) else match fbGo (min ([plainV, plainV, plainV, plainV, plainV, plainV] ++ ys).length 6 : Nat) 0 (([plainV, plainV, plainV, plainV, plainV, plainV] ++ ys).take 6) with | some q => some q | none => if 6 < ([plainV, plainV, plainV, plainV, plainV, plainV] ++ ys).length then some (6, -1) else none) = _
  rw [if_neg (by omega), hl2, Nat.min_eq_right (by omega), if_pos (by omega), show ([plainV, plainV, plainV, plainV, plainV, plainV] ++ ys).take 6 = [plainV, plainV, plainV, plainV, plainV, plainV] from rfl]
  rfl
theorem way0_ok {m : Mem} {pl : Addr} {j : Int} {xs : List SV} (hl : m pl = some (.lst xs)) (j0 : 0 ≤ j) (j1 : j < 4) : ∃ x, atI [SV.tup [.non, .int 0, .int (-1)], .tup [.tup [], .int 0, .int (-1)], .tup [.ref pl, .int 0, .int (-1)], .tup [.str "rules", .int 0, .int (-1)]] j = some (.tup [x, .int 0, .int (-1)]) ∧ DD m x ∧ firstBad x = some (0, -1) := by
  rcases (by omega : j = 0 ∨ j = 1 ∨ j = 2 ∨ j = 3) with rfl | rfl | rfl | rfl
  · exact ⟨_, atI_nat (j := 0) rfl, .non, rfl⟩
  · exact ⟨_, atI_nat (j := 1) rfl, .tup .nil, rfl⟩
  · exact ⟨_, atI_nat (j := 2) rfl, .ref hl, rfl⟩
  · exact ⟨_, atI_nat (j := 3) rfl, .str _, rfl⟩
def spBadO : SpS := fun vs m _ S => ∃ (b : Addr) (R : List PR), vs = [.ref b, RV R] ∧ IsBox m b ∧ RulesOk R ∧ ∀ x (i p : Int) m', Le m m' → DD m' x → firstBad x = some (i, p) → S (.tup [x, .int i, .int p]) m'
def spBadD : SpS := fun vs m _ S => ∃ (b : Addr) (R : List PR), vs = [.ref b, PV R] ∧ IsBox m b ∧ RulesOk R ∧ ∀ x (i p : Int) m', Le m m' → DD m' x → firstBad x = some (i, p) → S (.tup [x, .int i, .int p]) m'
theorem ok_law_bad (T : Tx K mg) : FnOk P w K mg base CX0 4 (He.ga K "_law_bad") T.fd__law_bad ["_law_box", "_law_rules_here"] (lift K spBadO) := by
  have G_law_odd_part := ok_law_odd_part (P := P) (w := w) (base := base) T
  have b_law_odd_part := b_law_odd_part T
  have G_law_take := ok_law_take (P := P) (w := w) (base := base) T
  have b_law_take := b_law_take T
  refine fn_sy T.F__law_bad sc_law_bad (fun svs m SX Sv h => ?_) (fun cdv A outer s H E hr => ⟨_, _, (gss_cons (gs_par (i := 2) (j := 3) (by rfl) sc_law_bad.nd rfl rfl (by decide) rfl rfl (ga_cons (ge_op (op_addG K) sim_add ge_int (ge_call G_law_take (hr.mono (by decide)) (by rfl) T.g__law_take T.k__law_take b_law_take .nil (fun _ => .nil) pass0 (ga_cons (gv 0) (ga_cons (ge_ix (ix_G K) sim_ix (ge_lst (ga_cons ge_int (ga_cons ge_int ga_nil))) (ge_call G_law_take (hr.mono (by decide)) (by rfl) T.g__law_take T.k__law_take b_law_take .nil (fun _ => .nil) pass0 (ga_cons (gv 0) (ga_cons ge_int ga_nil))) (fun _ _ => rfl)) ga_nil)))) (ga_cons (ge_call G_law_take (hr.mono (by decide)) (by rfl) T.g__law_take T.k__law_take b_law_take .nil (fun _ => .nil) pass0 (ga_cons (gv 0) (ga_cons ge_int ga_nil))) ga_nil)))
      (gss_cons (gs_if (gt_cmp (op_eqG K hr.units) sim_eq (gv 3) ge_int (nomark _)) (gss_one (gs_ret (ge_ix (ix_G K) sim_ix (ge_lst (ga_cons (ge_tup (ga_cons ge_non (ga_cons ge_int (ga_cons (ge_un un_neg sim_neg ge_int) ga_nil)))) (ga_cons (ge_tup (ga_cons (ge_tup ga_nil) (ga_cons ge_int (ga_cons (ge_un un_neg sim_neg ge_int) ga_nil)))) (ga_cons (ge_tup (ga_cons (ge_callTy (cr_lst K) sim_lstOf (by rfl) T.z_list (by decide +kernel) (ga_cons (gv 1) ga_nil)) (ga_cons ge_int (ga_cons (ge_un un_neg sim_neg ge_int) ga_nil)))) (ga_cons (ge_tup (ga_cons ge_str (ga_cons ge_int (ga_cons (ge_un un_neg sim_neg ge_int) ga_nil)))) ga_nil))))) (ge_call G_law_take (hr.mono (by decide)) (by rfl) T.g__law_take T.k__law_take b_law_take .nil (fun _ => .nil) pass0 (ga_cons (gv 0) (ga_cons ge_int ga_nil))) (fun _ _ => rfl)))) gss_nil)
      (gss_cons (gs_if (gt_cmp (op_eqG K hr.units) sim_eq (gv 3) ge_int (nomark _)) (gss_cons (gs_set (i := 4) sc_law_bad.nd rfl (.inl rfl) (ge_tup (ga_cons (ge_tup ga_nil) (ga_cons ge_int (ga_cons (ge_tup ga_nil) (ga_cons ge_non (ga_cons ge_non ga_nil)))))))
      (gss_one (gs_ret (ge_tup (ga_cons (ge_op (op_addG K) sim_add (ge_op (op_repTA K) sim_repT (ge_tup (ga_cons (gv 4) ga_nil)) ge_int) (ge_op (op_repTA K) sim_repT (ge_tup (ga_cons (ge_ix (ix_G K) sim_ix (ge_lst (ga_cons (gv 4) (ga_cons ge_non ga_nil))) (ge_call G_law_take (hr.mono (by decide)) (by rfl) T.g__law_take T.k__law_take b_law_take .nil (fun _ => .nil) pass0 (ga_cons (gv 0) (ga_cons ge_int ga_nil))) (fun _ _ => rfl)) ga_nil)) (gv 2))) (ga_cons ge_int (ga_cons (ge_un un_neg sim_neg ge_int) ga_nil))))))) gss_nil)
      (gss_cons (gs_set (i := 5) sc_law_bad.nd rfl (.inl rfl) (ge_call G_law_take (hr.mono (by decide)) (by rfl) T.g__law_take T.k__law_take b_law_take .nil (fun _ => .nil) pass0 (ga_cons (gv 0) (ga_cons (ge_callB (cr_len K) sim_len (by rfl) T.z_len (by decide +kernel) (ga_cons (gv 1) ga_nil)) ga_nil))))
      (gss_cons (gs_asg (ge_call G_law_odd_part (hr) (by rfl) T.g__law_odd_part T.k__law_odd_part b_law_odd_part .nil (fun _ => .nil) pass0 (ga_cons (gv 0) (ga_cons (ge_ix (ix_G K) sim_ix (gv 1) (gv 5) (fun _ _ => rfl)) (ga_cons (ge_callB (cr_len K) sim_len (by rfl) T.z_len (by decide +kernel) (ga_cons (gv 1) ga_nil)) ga_nil)))) (gg_tup 2 (by rfl) (ggs_cons (gg_name (i := 6) sc_law_bad.nd rfl (.inl rfl)) (ggs_cons (gg_name (i := 7) sc_law_bad.nd rfl (.inl rfl)) ggs_nil))))
      (gss_cons (gs_set (i := 8) sc_law_bad.nd rfl (.inl rfl) (ge_ifE (gw_pt (gw_and (gt_cmp op_lt sim_lt (ge_op (op_addG K) sim_add (gv 5) ge_int) (ge_callB (cr_len K) sim_len (by rfl) T.z_len (by decide +kernel) (ga_cons (gv 1) ga_nil)) (nomark _)) (gw_and1 (gt_cmp (op_eqG K hr.units) sim_eq (gv 3) ge_int (nomark _))))) (ge_op (op_addG K) sim_add (ge_tup (ga_cons ge_non ga_nil)) (ge_slice (gv 1) (go_some (ge_op (op_addG K) sim_add (gv 5) ge_int)) go_none)) (ge_slice (gv 1) (go_some (ge_op (op_addG K) sim_add (gv 5) ge_int)) go_none)))
      (gss_one (gs_ret (ge_tup (ga_cons (ge_op (op_addG K) sim_add (ge_op (op_addG K) sim_add (ge_slice (gv 1) go_none (go_some (gv 5))) (ge_tup (ga_cons (gv 6) ga_nil))) (gv 8)) (ga_cons (gv 5) (ga_cons (gv 7) ga_nil)))))))))))), fun svs m SX Sv h => ?_⟩)
  · obtain ⟨b, R, rfl, _⟩ := h
    rfl
  · obtain ⟨b, R, rfl, bx, ok, q⟩ := h
    have h1 := ok.one
    have h6 := ok.six
    walk_at "r"
    repeat (refine ⟨by walk_at "len", ?_⟩; walk_at "r")
    intro p hp
    walk_at "r"
    refine ⟨bx.new hp, small (by decide) (by decide), fun n n0 n1 => ?_⟩
    walk_at "r"
    refine ⟨_, _, up_same, pick2 n0 n1, ?_⟩
    rw [ite_int]
    walk_at "r"
    refine ⟨bx.new hp, small (by split <;> decide) (by split <;> decide), fun fa f0 f1 => ?_⟩
    have f9 : fa < 9 := by split at f1 <;> omega
    walk_at "r"
    refine ⟨bx.new hp, small (by decide) (by decide), fun way w0 w1 => ?_⟩
    generalize hma : up m p _ = ma
    have l1 : Le m ma := by rw [← hma]; exact .new (.refl m) hp
    have bx1 : IsBox ma b := bx.le l1
    clear hma
    walk_at "r"
    refine Br_i (fun e0 => ?_) (fun e0 => ?_)
    · walk_at "r"
      repeat (refine ⟨by walk_at "len", ?_⟩; walk_at "r")
      refine ⟨_, rfl, fun pl hl => ?_⟩
      walk_at "r"
      repeat (refine ⟨by walk_at "len", ?_⟩; walk_at "r")
      intro ps hs
      walk_at "r"
      refine ⟨(bx1.new hl).new hs, small (by decide) (by decide), fun jj jj0 jj1 => ?_⟩
      obtain ⟨x, hix, dx, sx⟩ := way0_ok (m := up ma pl (.lst (R.map PR.sv))) up_same jj0 jj1
      walk_at "r"
      refine ⟨_, _, up_same, hix, ?_⟩
      walk_at "r"
      exact .of (q _ _ _ _ ((l1.new hl).new hs) (dx.le (.new (.refl _) hs)) sx)
    walk_at "r"
    refine Br_i (fun e1 => ?_) (fun e1 => ?_)
    · walk_at "r"
      repeat (refine ⟨by walk_at "len", ?_⟩; walk_at "r")
      refine ⟨by simp, ⟨by decide, by decide⟩, show 1 ≤ 1000 by decide, ?_⟩
      walk_at "r"
      repeat (refine ⟨by walk_at "len", ?_⟩; walk_at "r")
      intro ps hs
      walk_at "r"
      refine ⟨bx1.new hs, small (by decide) (by decide), fun jj jj0 jj1 => ?_⟩
      walk_at "r"
      obtain ⟨y, hy, dy⟩ : ∃ y, atI [plainV, .non] jj = some y ∧ DD ma y := by
        rcases (by omega : jj = 0 ∨ jj = 1) with rfl | rfl
        · exact ⟨_, atI_nat (j := 0) rfl, dd_plain⟩
        · exact ⟨_, atI_nat (j := 1) rfl, .non⟩
      refine ⟨_, y, up_same, hy, ?_⟩
      walk_at "r"
      repeat (refine ⟨by walk_at "len", ?_⟩; walk_at "r")
      refine ⟨by simp, ⟨by omega, by omega⟩, show 1 ≤ 1000 by decide, ?_⟩
      walk_at "r"
      have hfl : (List.replicate (1 + fa).toNat [y]).flatten.length = (1 + fa).toNat := by simp
      refine ⟨line_le (by rw [hfl]; show 6 + _ ≤ _; omega), ?_⟩
      walk_at "r"
      repeat (refine ⟨by walk_at "len", ?_⟩; walk_at "r")
      refine .of (q _ _ _ _ (l1.new hs) (.tup (.of fun x hx => ?_)) (many_ok (y := y) (n := (1 + fa).toNat) (by omega)))
      rcases List.mem_append.mp hx with hx | hx
      · have hx : x ∈ [plainV, plainV, plainV, plainV, plainV, plainV] := hx
        simp at hx
        subst hx
        exact dd_plain
      · have hx : x = y := by
          obtain ⟨l, hl, hx⟩ := List.mem_flatten.mp hx
          rw [(List.mem_replicate.mp hl).2] at hx
          exact List.mem_singleton.mp hx
        subst hx
        exact dy.le (.new (.refl _) hs)
    walk_at "r"
    refine ⟨_, rfl, ?_⟩
    walk_at "r"
    rw [List.length_map]
    refine ⟨bx1, small (by omega) (by omega), fun at_ a0 a1 => ?_⟩
    obtain ⟨k, rfl⟩ : ∃ k : Nat, at_ = (k : Int) := ⟨at_.toNat, by omega⟩
    have hk : k < R.length := by omega
    walk_at "r"
    refine ⟨_, rv_get hk, ?_⟩
    walk_at "r"
    refine ⟨_, rfl, ?_⟩
    walk_at "r"
    rw [List.length_map]
    refine ⟨b, R[k], R.length, rfl, bx1, ok.all _ (List.getElem_mem hk), ⟨h1, h6⟩, fun odd p mb lb dodd hodd => ?_⟩
    walk_at "r"
    refine ⟨rfl, ?_⟩
    dsimp only [List.set]
    walk_at "r"
    refine ⟨_, rfl, ?_⟩
    walk_at "r"
    rw [List.length_map]
    refine Br_i (fun c1 => ?_) (fun c1 => ?_)
    · have c1 := of_decide_eq_true c1
      walk_at "r"
      refine Br_i (fun c2 => ?_) (fun c2 => ?_)
      · walk_at "r"
        repeat (refine ⟨by walk_at "len", ?_⟩; walk_at "r")
        rw [show ((k : Int) + 2) = ((k + 2 : Nat) : Int) by omega, cut_from]
        have hbl : ([SV.non] ++ (R.map PR.sv).drop (k + 2)).length + k + 1 = R.length := by
          rw [List.length_append, List.length_drop, List.length_map]; show 1 + _ + _ + _ = _; omega
        have hbd : ∀ x ∈ ([SV.non] ++ (R.map PR.sv).drop (k + 2) : List SV), DD mb x := fun x hx => by
          rcases List.mem_append.mp hx with hx | hx
          · obtain rfl := List.mem_singleton.mp hx
            exact .non
          · obtain ⟨r, _, rfl⟩ := List.mem_map.mp (List.mem_of_mem_drop hx)
            exact PR.dd r

        refine ⟨line_le (by show 1 + ((R.map PR.sv).drop (k + 2)).length ≤ _; rw [List.length_drop, List.length_map]; omega), ?_⟩
        walk_at "r"
        repeat (refine ⟨by walk_at "len", ?_⟩; walk_at "r")
        rw [cut_to]
        have hlt : ((R.map PR.sv).take k).length = k := by rw [List.length_take, List.length_map]; omega
        refine ⟨line_le (by rw [hlt]; show k + 1 ≤ _; omega), ?_⟩
        walk_at "r"
        refine ⟨line_le (by rw [List.length_append, hlt]; show k + 1 + _ ≤ _; rw [show ([SV.non] ++ (R.map PR.sv).drop (k + 2)).length = R.length - k - 1 from by have := hbl; omega]; omega), ?_⟩
        walk_at "r"
        repeat (refine ⟨by walk_at "len", ?_⟩; walk_at "r")
        refine .of (q _ _ _ _ (l1.trans lb) (.tup (.of fun x hx => ?_)) (bad_at ok hk hbl hodd))
        rcases List.mem_append.mp hx with hx | hx
        · rcases List.mem_append.mp hx with hx | hx
          · obtain ⟨r, _, rfl⟩ := List.mem_map.mp (List.mem_of_mem_take hx)
            exact PR.dd r
          · obtain rfl := List.mem_singleton.mp hx
            exact dodd
        · exact hbd x hx

      · walk_at "r"
        rw [show ((k : Int) + 1) = ((k + 1 : Nat) : Int) by omega, cut_from]
        have hbl : ((R.map PR.sv).drop (k + 1)).length + k + 1 = R.length := by
          rw [List.length_drop, List.length_map]; omega
        have hbd : ∀ x ∈ ((R.map PR.sv).drop (k + 1) : List SV), DD mb x := fun x hx => by
          obtain ⟨r, _, rfl⟩ := List.mem_map.mp (List.mem_of_mem_drop hx)
          exact PR.dd r
        walk_at "r"
        repeat (refine ⟨by walk_at "len", ?_⟩; walk_at "r")
        rw [cut_to]
        have hlt : ((R.map PR.sv).take k).length = k := by rw [List.length_take, List.length_map]; omega
        refine ⟨line_le (by rw [hlt]; show k + 1 ≤ _; omega), ?_⟩
        walk_at "r"
        refine ⟨line_le (by rw [List.length_append, hlt]; show k + 1 + _ ≤ _; rw [show ((R.map PR.sv).drop (k + 1)).length = R.length - k - 1 from by have := hbl; omega]; omega), ?_⟩
        walk_at "r"
        repeat (refine ⟨by walk_at "len", ?_⟩; walk_at "r")
        refine .of (q _ _ _ _ (l1.trans lb) (.tup (.of fun x hx => ?_)) (bad_at ok hk hbl hodd))
        rcases List.mem_append.mp hx with hx | hx
        · rcases List.mem_append.mp hx with hx | hx
          · obtain ⟨r, _, rfl⟩ := List.mem_map.mp (List.mem_of_mem_take hx)
            exact PR.dd r
          · obtain rfl := List.mem_singleton.mp hx
            exact dodd
        · exact hbd x hx

    · have c1 := of_decide_eq_false c1
      walk_at "r"
      walk_at "f"
      walk_at "r"
      rw [show ((k : Int) + 1) = ((k + 1 : Nat) : Int) by omega, cut_from]
      have hbl : ((R.map PR.sv).drop (k + 1)).length + k + 1 = R.length := by
        rw [List.length_drop, List.length_map]; omega
      have hbd : ∀ x ∈ ((R.map PR.sv).drop (k + 1) : List SV), DD mb x := fun x hx => by
        obtain ⟨r, _, rfl⟩ := List.mem_map.mp (List.mem_of_mem_drop hx)
        exact PR.dd r
      walk_at "r"
      repeat (refine ⟨by walk_at "len", ?_⟩; walk_at "r")
      rw [cut_to]
      have hlt : ((R.map PR.sv).take k).length = k := by rw [List.length_take, List.length_map]; omega
      refine ⟨line_le (by rw [hlt]; show k + 1 ≤ _; omega), ?_⟩
      walk_at "r"
      refine ⟨line_le (by rw [List.length_append, hlt]; show k + 1 + _ ≤ _; rw [show ((R.map PR.sv).drop (k + 1)).length = R.length - k - 1 from by have := hbl; omega]; omega), ?_⟩
      walk_at "r"
      repeat (refine ⟨by walk_at "len", ?_⟩; walk_at "r")
      refine .of (q _ _ _ _ (l1.trans lb) (.tup (.of fun x hx => ?_)) (bad_at ok hk hbl hodd))
      rcases List.mem_append.mp hx with hx | hx
      · rcases List.mem_append.mp hx with hx | hx
        · obtain ⟨r, _, rfl⟩ := List.mem_map.mp (List.mem_of_mem_take hx)
          exact PR.dd r
        · obtain rfl := List.mem_singleton.mp hx
          exact dodd
      · exact hbd x hx
theorem ok_law_badP (T : Tx K mg) : FnOk P w K mg base CX0 4 (He.ga K "_law_bad") T.fd__law_bad ["_law_box", "_law_rules_here"] (lift K spBadD) := fn_wk (ok_law_bad T) fun vs m SX S ⟨b, R, e, bx, ok, q⟩ => ⟨[.ref b, RV R], by rw [e]; exact .cons (.refl _) (.cons (PV_wk R) .nil), b, R, rfl, bx, ok, q⟩
end
end Hn

set_option Elab.async false
set_option linter.all false
set_option maxRecDepth 100000
set_option maxHeartbeats 8000000
namespace Hn
open PySem PySem.Spec PyProof.Rows L2 Sy Lm
section
variable {P : Program} {w : World} {K : PySem.W.Frag} {mg : Str → Option Value} {base : Heap}
local macro_rules | `(tactic| walk_at "r") => `(tactic| (conv => whnf))
local macro_rules | `(tactic| walk_at "sp") => `(tactic| (first | rfl | contradiction | exact (False.elim ‹_›)))
local macro_rules | `(tactic| walk_at "len") => `(tactic| (exact Nat.le_trans (show _ ≤ 100000 by first | (simp; done) | (rw [rngS_length]; decide)) (by decide)))
local macro_rules | `(tactic| walk_at "f") => `(tactic| (refine Br_i (fun hb => Bool.noConfusion (show false = true from hb)) (fun _ => ?_)))
local macro_rules | `(tactic| walk_at "t") => `(tactic| (refine Br_i (fun _ => ?_) (fun hb => Bool.noConfusion (show true = false from hb))))
local macro_rules | `(tactic| walk_at "le") => `(tactic| first | exact Le.refl _ | (refine Le.put ?_; walk_at "le") | (refine Le.new ?_ (by assumption); walk_at "le"))
theorem okC_refuse_bad_person (T : Tx K mg) : FnOk P w K mg base CX0 3 (He.ga K "refuse_bad_person") T.fd_refuse_bad_person ["rules", "person"] (lift K (calm (spPerson (He.ga K "BadPerson")))) := fn_calm (ok_refuse_bad_person T)
theorem pv_at {R : List PR} {p : Int} (h : 0 ≤ p ∧ p < R.length) : atI (R.map PR.pv) p = some (pr R p).pv := by
  obtain ⟨i, rfl⟩ : ∃ i : Nat, p = (i : Int) := ⟨p.toNat, by omega⟩
  refine atI_nat ?_
  rw [List.getElem?_map, List.getElem?_eq_getElem (by omega), pr_get (by omega)]
  rfl
def spChn : SpS := fun vs m _ S => ∃ (R : List PR) (i : Int), vs = [PV R, .int i] ∧ RulesOk R ∧ (0 ≤ i ∧ i < R.length) ∧ ∀ p, m p = none → S (.ref p) (up m p (.lst ((chainOf R i).map .int)))
theorem ok_chain (T : Tx K mg) : FnOk P w K mg base CX0 7 (He.ga K "chain") T.fd_chain ["rules", "person"] (lift K spChn) := by
  have G_refuse_bad_person := okC_refuse_bad_person (P := P) (w := w) (base := base) T
  have b_refuse_bad_person := b_refuse_bad_person T
  have G_refuse_bad_rules := ok_refuse_bad_rulesP (P := P) (w := w) (base := base) T
  have b_refuse_bad_rules := b_refuse_bad_rules T
  refine fn_sy T.F_chain sc_chain (fun svs m SX Sv h => ?_) (fun cdv A outer s H E hr => ⟨_, _, (gss_cons (gs_expr (ge_call G_refuse_bad_rules (hr) (by rfl) T.g_refuse_bad_rules T.k_refuse_bad_rules b_refuse_bad_rules .nil (fun _ => .nil) pass0 (ga_cons (gv 0) ga_nil)))
      (gss_cons (gs_expr (ge_call G_refuse_bad_person (hr.mono (by decide)) (by rfl) T.g_refuse_bad_person T.k_refuse_bad_person b_refuse_bad_person .nil (fun _ => .nil) pass0 (ga_cons (gv 0) (ga_cons (gv 1) ga_nil))))
      (gss_cons (gs_set (i := 2) sc_chain.nd rfl (.inl rfl) (ge_lst ga_nil))
      (gss_cons (gs_while PassesOwn.never (gw_pt (gw_and (gt_cmp op_notN sim_notN (gv 1) ge_non (nomark _)) (gw_and1 (gt_cmp (op_notInG K) (sim_in true) (gv 1) (gv 2) (by with_unfolding_all rfl)))))
      (gss_cons (gs_expr (ge_bm PySem.F.plainAttrs_list PySem.F.slot_list_append PySem.F.type_list_append mt_append simk_L sim_append (gv 2) (ga_cons (gv 1) ga_nil)))
      (gss_one (gs_set (i := 1) sc_chain.nd rfl (.inl rfl) (ge_ix (ix_G K) sim_ix (ge_ix (ix_G K) sim_ix (gv 0) (gv 1) (fun _ _ => rfl)) ge_int (fun _ _ => rfl))))))
      (gss_one (gs_ret (gv 2))))))), fun svs m SX Sv h => ?_⟩)
  · obtain ⟨R, i, rfl, _⟩ := h
    rfl
  · obtain ⟨R, i, rfl, ok, hi, q⟩ := h
    have h1 := ok.one
    have h6 := ok.six
    walk_at "r"
    refine ⟨R, rfl, ok, ?_⟩
    walk_at "r"
    refine ⟨⟨_, rfl⟩, fun _ => ?_, fun h => ?_⟩
    case refine_2 =>
      rw [wh_of hi.1 (by rw [len_pv]; omega)] at h
      cases h
    obtain ⟨hi0, hi1⟩ := hi
    walk_at "r"
    refine ⟨by walk_at "len", fun p hp => ?_⟩
    walk_at "r"
    have q := q p hp
    refine while_inv (fun n δ m' => ∃ (cur : Option Int) (acc : List Int), δ = [some (PV R), some (optV cur), some (.ref p)] ∧ m' = up m p (.lst (acc.map SV.int)) ∧ n = leftN R.length acc ∧ acc.length + leftN R.length acc ≤ R.length ∧ (∀ j, cur = some j → 0 ≤ j ∧ j < R.length) ∧
      ((acc = [] ∧ cur = some i) ∨ ∃ k l, acc = iterF (stp R) k [i] ∧ acc.getLast? = some l ∧ cur = furOf R l ∧ leftN R.length acc + k < R.length)) _ ⟨some i, [], rfl, rfl, rfl, (by have := leftN_le R.length []; simp; omega), fun j e => by cases e; exact ⟨hi0, by omega⟩, .inl ⟨rfl, rfl⟩⟩ (fun n δ m' h => ?_)
    obtain ⟨cur, acc, rfl, rfl, rfl, hlen, hc, hk⟩ := h
    walk_at "r"
    have fin : (∃ k l, acc = iterF (stp R) k [i] ∧ acc.getLast? = some l ∧ cur = furOf R l ∧ leftN R.length acc + k < R.length) → (∀ j, cur = some j → j ∈ acc) → Fg (Sv (.ref p)) (up m p (.lst (acc.map SV.int))) := fun ⟨k, l, e1, e2, e3, e4⟩ hst => by
      have hfix : stp R acc = acc := by
        rw [stp_of e2, ← e3]
        cases cur with
        | none => rfl
        | some j => simp [hst j rfl]
      have e5 : chainOf R i = acc := by
        unfold chainOf
        rw [show R.length = k + (R.length - k) by omega, iterF_add, ← e1, iterF_fix hfix]
      rw [e5] at q
      exact .of q
    cases cur with
    | none =>
      walk_at "f"
      walk_at "r"
      walk_at "f"
      walk_at "r"
      rcases hk with ⟨_, h⟩ | hk
      · cases h
      · exact fin hk fun j e => by cases e
    | some j =>
      obtain ⟨j0, j1⟩ := hc j rfl
      walk_at "t"
      walk_at "r"
      refine ⟨acc.map SV.int, up_same, rfl, flat_ints acc, ?_⟩
      walk_at "r"
      change Br (!inS (.int j) (acc.map SV.int)) _ _
      rw [inS_int]
      refine Br_i (fun h2 => ?_) (fun h2 => ?_)
      · have hj : j ∉ acc := by simpa using h2
        walk_at "r"
        refine ⟨⟨_, up_same⟩, ?_⟩
        walk_at "r"
        refine ⟨_, up_same, ?_, ?_⟩
        · rw [List.length_map]
          exact line_le (by omega)
        walk_at "r"
        refine ⟨_, pv_at ⟨j0, j1⟩, ?_⟩
        walk_at "r"
        refine ⟨_, rfl, ?_⟩
        walk_at "r"
        have lt := leftN_app (n := R.length) (acc := acc) j0 j1 hj
        refine ⟨_, lt, .of ⟨_, acc ++ [j], rfl, by rw [up_up, List.map_append]; rfl, rfl, (by rw [List.length_append]; simp; omega), (ok.all _ (pr_mem ⟨j0, j1⟩)).fu, .inr ?_⟩⟩
        rcases hk with ⟨rfl, h⟩ | ⟨k, l, e1, e2, e3, e4⟩
        · cases h
          refine ⟨0, _, rfl, rfl, (furOf_pr _ _).symm, ?_⟩
          have := leftN_le R.length []
          have lt : leftN R.length [i] < _ := lt
          show leftN R.length [i] + 0 < _
          omega
        · refine ⟨k + 1, _, ?_, by rw [List.getLast?_append]; rfl, (furOf_pr _ _).symm, by omega⟩
          rw [iterF_succ, ← e1, stp_of e2, ← e3]
          simp [hj]
      · walk_at "r"
        have hj : j ∈ acc := by simpa using h2
        rcases hk with ⟨rfl, h⟩ | hk
        · cases hj
        · exact fin hk fun j' e => by cases e; exact hj
end
end Hn

set_option Elab.async false
set_option linter.all false
set_option maxRecDepth 100000
set_option maxHeartbeats 8000000
namespace Hn
open PySem PySem.Spec PyProof.Rows L2 Sy Lm
section
variable {P : Program} {w : World} {K : PySem.W.Frag} {mg : Str → Option Value} {base : Heap}
local macro_rules | `(tactic| walk_at "r") => `(tactic| (conv => whnf))
local macro_rules | `(tactic| walk_at "sp") => `(tactic| (first | rfl | contradiction | exact (False.elim ‹_›)))
local macro_rules | `(tactic| walk_at "len") => `(tactic| (exact Nat.le_trans (show _ ≤ 100000 by first | (simp; done) | (rw [rngS_length]; decide)) (by decide)))
local macro_rules | `(tactic| walk_at "f") => `(tactic| (refine Br_i (fun hb => Bool.noConfusion (show false = true from hb)) (fun _ => ?_)))
local macro_rules | `(tactic| walk_at "t") => `(tactic| (refine Br_i (fun _ => ?_) (fun hb => Bool.noConfusion (show true = false from hb))))
local macro_rules | `(tactic| walk_at "le") => `(tactic| first | exact Le.refl _ | (refine Le.put ?_; walk_at "le") | (refine Le.new ?_ (by assumption); walk_at "le"))
abbrev nm0 : Nat → Nat → Str := fun _ _ => "law.<locals>.<lambda>"
abbrev p0 : He.Defn := ("law", none)
theorem passN {N : List Str} {F : NdefX.NF} {f : Addr} {A : Around} {outer : List Env} {s : Shared} {H : Hp} {E : XK} : Passes (L2.CX P w) (NdefX.ncx (L2.CX P w) P w K mg base N F f A outer s H E) E :=
  passes_call (X := NdefX.ncx (L2.CX P w) P w K mg base N F f A outer s H E) (takes_of rfl rfl rfl rfl) fun _ _ _ _ z => z
def spLaw (t : Addr) (nm : Nat → Nat → Str) : SpS := fun vs m _ S => ∃ ns : List Int, vs = [.lst (ns.map .int)] ∧ ns.length ≤ 63 ∧ m t = some (.tab nm) ∧ ∀ m', S (.bl true) m'
abbrev exB (K : PySem.W.Frag) (bad : SV) (i p : Int) : Phi := fun m' SX _ => DD m' bad ∧ ∀ m2, Le m' m2 → SX (badX K i p) m2
theorem nw {m m' : Mem} {f : Addr} {o : MO} (h : m f = none) (e : up m f o = m') : m' f = some o ∧ Le m m' := by
  subst e
  exact ⟨up_same, .new (.refl _) h⟩
theorem stp_head (R : List PR) {acc : List Int} {i : Int} (h : acc[0]? = some i) : (stp R acc)[0]? = some i := by
  unfold stp
  split
  · exact h
  · split
    · exact h
    · split
      · exact h
      · rw [List.getElem?_append_left (List.getElem?_eq_some_iff.mp h).1]
        exact h
theorem iter_head (R : List PR) : ∀ (n : Nat) {acc : List Int} {i : Int}, acc[0]? = some i → (iterF (stp R) n acc)[0]? = some i
  | 0, _, _, h => h
  | n + 1, _, _, h => iter_head R n (stp_head R h)
theorem chain_head (R : List PR) (i : Int) : atI ((chainOf R i).map SV.int) 0 = some (.int i) := atI_nat (j := 0) (by rw [List.getElem?_map, show (chainOf R i)[0]? = some i from iter_head R _ rfl]; rfl)
theorem ok_law (T : Tx K mg) [OW : Own P K mg] (KR : Kd_BadRules K) (TB : LamX.TabB base mg (He.cT K p0).1 (He.cT K p0).2) : FnOk P w K mg base (L2.CX P w) 20 (He.ga K "law") T.fd_law ["_law_script"] (lift K (spLaw (He.cT K p0).2 nm0)) := by
  have G_law_bad := ok_law_badP (P := P) (w := w) (base := base) T
  have b_law_bad := b_law_bad T
  have G_law_begun := ok_law_begun (P := P) (w := w) (base := base) T
  have b_law_begun := b_law_begun T
  have G_law_rules := ok_law_rules (P := P) (w := w) (base := base) T
  have b_law_rules := b_law_rules T
  have G_chain := ok_chain (P := P) (w := w) (base := base) T
  have b_chain := b_chain T
  have G_walked := ok_walked (P := P) (w := w) (base := base) T
  have b_law_all := b_law_all T
  obtain ⟨mv_walked_u, kb_walked_u⟩ := kb_walked_u T
  obtain ⟨mv_wheeled_u, kb_wheeled_u⟩ := kb_wheeled_u T
  obtain ⟨oc, od, dV, kV, doc, pm, an, cdv, ct, osl, efd, lk, hcd, _, _⟩ := T.F_law.ex
  obtain ⟨c, rfl⟩ := He.codeIn_ref hcd
  rw [efd] at lk ⊢
  have ec : He.codeOf K p0 = c := He.codeOf_eq lk rfl
  have TB : LamX.TabB base mg c (He.cT K p0).2 := by
    have z := TB
    rw [show (He.cT K p0).1 = c from ec] at z
    exact z
  refine fn_syT lk hcd sc_law (fun svs m SX Sv h => ?_) (fun A outer s H E hr => ?_)
  · obtain ⟨ns, rfl, _⟩ := h
    rfl
  have hnm : ∀ {l k : Nat}, nm0 l k = (cxOf (L2.CX P w) P w K mg base ["_law_script", "_law_box", "_law_turn", "_law_rules_here", "_law_bad_here", "_law_person", "_law_part", "_law_works"] "law" (defScope s_law) (He.ga K "law") (.ref c) A outer s H E).env.qual ++ "<lambda>" := fun {l k} => by kernel_rfl
  refine ⟨_, _, (gss_cons (gs_set (i := 1) sc_law.nd rfl (.inl rfl) (ge_call G_law_begun ((hr.mono (by decide))) (by rfl) T.g__law_begun T.k__law_begun b_law_begun .nil (fun _ => .nil) pass0 (ga_cons (gv 0) ga_nil)))
      (gss_cons (gs_for (passes_of rfl) rfl (gi_range1 (by rfl) T.z_range (ga_cons ge_int ga_nil)) (gg_name (i := 2) sc_law.nd rfl (.inl rfl))
      (gss_cons (gs_set (i := 3) sc_law.nd rfl (.inl rfl) (ge_call G_law_rules ((hr.mono (by decide))) (by rfl) T.g__law_rules T.k__law_rules b_law_rules .nil (fun _ => .nil) pass0 (ga_cons (gv 1) ga_nil)))
      (gss_cons (gs_if (gw_pt (gw_or (gt_not (gt_val (ge_callB (cr_isi K) sim_isi (by rfl) T.z_isinstance (by decide +kernel) (ga_cons (ge_callN G_walked ((hr.mono (by decide))) (by rfl) T.g_walked T.k_walked kb_walked_u pass0 (gS_walked_u T) (ga_cons (gv 3) (ga_cons (ge_lst ga_nil) ga_nil)) (gk_cons ge_int gk_nil)) (ga_cons (ge_ty (n := "tuple") (by rfl) T.z_tuple (by decide +kernel)) ga_nil))))) (gw_or1 (gt_cmp (op_neG K hr.units) sim_ne (ge_ix (ix_G K) sim_ix (ge_call G_chain ((hr.mono (by decide))) (by rfl) T.g_chain T.k_chain b_chain .nil (fun _ => .nil) pass0 (ga_cons (gv 3) (ga_cons ge_int ga_nil))) ge_int (fun _ _ => rfl)) ge_int (nomark _))))) (gss_one (gs_ret ge_bl)) gss_nil)
      (gss_cons (gs_asg (ge_call G_law_bad ((hr.mono (by decide))) (by rfl) T.g__law_bad T.k__law_bad b_law_bad .nil (fun _ => .nil) pass0 (ga_cons (gv 1) (ga_cons (gv 3) ga_nil))) (gg_tup 3 (by rfl) (ggs_cons (gg_name (i := 4) sc_law.nd rfl (.inr rfl)) (ggs_cons (gg_name (i := 5) sc_law.nd rfl (.inl rfl)) (ggs_cons (gg_name (i := 6) sc_law.nd rfl (.inl rfl)) ggs_nil)))))
      (gss_cons (gs_set (i := 7) sc_law.nd rfl (.inl rfl) (ge_lst (ga_cons (ge_lam0 TB rfl hnm (NdefX.ndef_free (sc := defScope s_law) (fr := []) (by decide +kernel)) rfl) (ga_cons (ge_lam1 TB rfl hnm (NdefX.ndef_free (sc := defScope s_law) (fr := []) (by decide +kernel)) rfl rfl) (ga_cons (ge_lam1 TB rfl hnm (NdefX.ndef_free (sc := defScope s_law) (fr := []) (by decide +kernel)) rfl rfl) ga_nil)))))
      (gss_cons (gs_set (i := 7) sc_law.nd rfl (.inl rfl) (ge_op (op_addG K) sim_add (gv 7) (ge_lst (ga_cons (ge_lam1 TB rfl hnm (NdefX.ndef_free (sc := defScope s_law) (fr := []) (by decide +kernel)) rfl rfl) (ga_cons (ge_lam1 TB rfl hnm (NdefX.ndef_free (sc := defScope s_law) (fr := []) (by decide +kernel)) rfl rfl) ga_nil)))))
      (gss_cons (gs_set (i := 7) sc_law.nd rfl (.inl rfl) (ge_op (op_addG K) sim_add (gv 7) (ge_lst (ga_cons (ge_lam1 TB rfl hnm (NdefX.ndef_free (sc := defScope s_law) (fr := []) (by decide +kernel)) rfl rfl) (ga_cons (ge_lam1 TB rfl hnm (NdefX.ndef_free (sc := defScope s_law) (fr := []) (by decide +kernel)) rfl rfl) ga_nil)))))
      (gss_one (gs_if (gt_not (gt_val (ge_callBase (k2 := 9) (sp := fun b => spAll_BadRules P w K mg b) (fun b => ok_law_all_BadRules (P := P) (w := w) (base := b) T KR) (hr.mono (by decide)) (by rfl) T.g__law_all T.k__law_all b_law_all (ga_cons (gv 7) (ga_cons (ge_tup (ga_cons ge_str (ga_cons (gv 5) (ga_cons (gv 6) ga_nil)))) ga_nil)) (fun _ => rfl) rfl rfl))) (gss_one (gs_ret ge_bl)) gss_nil)))))))))
      (gss_one (gs_ret ge_bl)))), fun svs m SX Sv h => ?_⟩
  obtain ⟨ns, rfl, hl, hT, q⟩ := h
  walk_at "r"
  refine ⟨ns, rfl, hl, fun b cx hcx hb ne => ?_⟩
  have hT0 : up (up m cx .bxi) b (.box cx) (He.cT K p0).2 = some (.tab nm0) := by rw [up_ne (mne hT hb), up_ne (mne hT hcx)]; exact hT
  have bx : IsBox (up (up m cx .bxi) b (.box cx)) b := ⟨cx, up_same, by rw [up_ne (Ne.symm ne)]; exact up_same⟩
  generalize up (up m cx .bxi) b (.box cx) = m0 at hT0 bx
  clear hT hcx hb ne
  walk_at "r"
  refine ⟨⟨by decide, by decide⟩, ?_⟩
  refine for_inv (fun r δ m' => m' = m0 ∧ ∃ (a0 a1 a2 a3 a4 a5 : Option SV), δ = [some (.lst (ns.map .int)), some (.ref b), a0, a1, a2, a3, a4, a5]) ⟨rfl, none, none, none, none, none, none, rfl⟩ (fun x r δ m' h => ?_) (fun δ m' h => ?_)
  · obtain ⟨rfl, a0, a1, a2, a3, a4, a5, rfl⟩ := h
    refine ⟨trivial, ?_⟩
    walk_at "r"
    refine ⟨bx, fun R ok => ?_⟩
    walk_at "r"
    refine ⟨by walk_at "len", fun pn hpn => ?_⟩
    walk_at "r"
    refine ⟨rfl, rfl, R, [], [], pn, .tup [], 0, rfl, up_same, ⟨rfl, ⟨by simp, by simp, .nil⟩, "tuple", rfl, rfl⟩, ok, ⟨by simp, by simp, .nil⟩, by decide, fun q1 q2 hq1 hq2 nq => ?_⟩
    generalize hma : up (up (up m' pn _) q1 _) q2 _ = ma
    have la : Le m' ma := by rw [← hma]; exact .new (.new (.new (.refl _) hpn) hq1) (by rw [up_ne (Ne.symm nq)]; exact hq2)
    clear hma hpn hq1 hq2
    have bxa := bx.le la
    have hTa := la _ _ hT0
    walk_at "r"
    refine ⟨by decide, _, rfl, ?_⟩
    walk_at "r"
    walk_at "f"
    walk_at "r"
    refine ⟨R, 0, rfl, ok, ⟨by decide, by have := ok.one; omega⟩, fun pc hpc => ?_⟩
    walk_at "r"
    refine ⟨_, _, up_same, chain_head R 0, ?_⟩
    have lb := la.new (o := .lst ((chainOf R 0).map .int)) hpc
    generalize up ma pc _ = mb at lb ⊢
    have bxb := bx.le lb
    have hTb := lb _ _ hT0
    clear bxa hTa hpc
    walk_at "r"
    walk_at "f"
    walk_at "r"
    refine ⟨b, R, rfl, bxb, ok, fun bad i p m1 l1 dbad hfb => ?_⟩
    have lc := lb.trans l1
    have hTc := lc _ _ hT0
    have dbad0 := dbad
    have lc0 := lc
    have lq : Le m1 m1 := .refl _
    clear bxb hTb l1 lb la
    walk_at "r"
    refine ⟨rfl, ?_⟩
    dsimp only [List.set]
    walk_at "r"
    refine ⟨hTc, fun f1 hf1 => ?_⟩
    generalize hmL1 : up m1 f1 _ = mL1
    obtain ⟨ef1, lmL1⟩ := nw hf1 hmL1
    have zf1 : m1 f1 = none := lq.none hf1
    have lq := lq.trans lmL1
    have hTc := lmL1 _ _ hTc
    have lc := lc.trans lmL1
    have dbad := dbad.le lmL1
    walk_at "r"
    refine ⟨hTc, fun f2 hf2 => ?_⟩
    generalize hmL2 : up mL1 f2 _ = mL2
    obtain ⟨ef2, lmL2⟩ := nw hf2 hmL2
    have zf2 : m1 f2 = none := lq.none hf2
    have lq := lq.trans lmL2
    have hTc := lmL2 _ _ hTc
    have lc := lc.trans lmL2
    have dbad := dbad.le lmL2
    have nf1f2 : f1 ≠ f2 := mne ef1 hf2
    have ef1 := lmL2 _ _ ef1
    walk_at "r"
    refine ⟨hTc, fun f3 hf3 => ?_⟩
    generalize hmL3 : up mL2 f3 _ = mL3
    obtain ⟨ef3, lmL3⟩ := nw hf3 hmL3
    have zf3 : m1 f3 = none := lq.none hf3
    have lq := lq.trans lmL3
    have hTc := lmL3 _ _ hTc
    have lc := lc.trans lmL3
    have dbad := dbad.le lmL3
    have nf1f3 : f1 ≠ f3 := mne ef1 hf3
    have ef1 := lmL3 _ _ ef1
    have nf2f3 : f2 ≠ f3 := mne ef2 hf3
    have ef2 := lmL3 _ _ ef2
    walk_at "r"
    refine ⟨by walk_at "len", fun la0 hla0 => ?_⟩
    generalize hmA0 : up mL3 la0 _ = mA0
    obtain ⟨ela0, lmA0⟩ := nw hla0 hmA0
    have zla0 : m1 la0 = none := lq.none hla0
    have lq := lq.trans lmA0
    have hTc := lmA0 _ _ hTc
    have lc := lc.trans lmA0
    have dbad := dbad.le lmA0
    have nf1la0 : f1 ≠ la0 := mne ef1 hla0
    have ef1 := lmA0 _ _ ef1
    have nf2la0 : f2 ≠ la0 := mne ef2 hla0
    have ef2 := lmA0 _ _ ef2
    have nf3la0 : f3 ≠ la0 := mne ef3 hla0
    have ef3 := lmA0 _ _ ef3
    walk_at "r"
    refine ⟨hTc, fun f4 hf4 => ?_⟩
    generalize hmL4 : up mA0 f4 _ = mL4
    obtain ⟨ef4, lmL4⟩ := nw hf4 hmL4
    have zf4 : m1 f4 = none := lq.none hf4
    have lq := lq.trans lmL4
    have hTc := lmL4 _ _ hTc
    have lc := lc.trans lmL4
    have dbad := dbad.le lmL4
    have nf1f4 : f1 ≠ f4 := mne ef1 hf4
    have ef1 := lmL4 _ _ ef1
    have nf2f4 : f2 ≠ f4 := mne ef2 hf4
    have ef2 := lmL4 _ _ ef2
    have nf3f4 : f3 ≠ f4 := mne ef3 hf4
    have ef3 := lmL4 _ _ ef3
    have nla0f4 : la0 ≠ f4 := mne ela0 hf4
    have ela0 := lmL4 _ _ ela0
    walk_at "r"
    refine ⟨hTc, fun f5 hf5 => ?_⟩
    generalize hmL5 : up mL4 f5 _ = mL5
    obtain ⟨ef5, lmL5⟩ := nw hf5 hmL5
    have zf5 : m1 f5 = none := lq.none hf5
    have lq := lq.trans lmL5
    have hTc := lmL5 _ _ hTc
    have lc := lc.trans lmL5
    have dbad := dbad.le lmL5
    have nf1f5 : f1 ≠ f5 := mne ef1 hf5
    have ef1 := lmL5 _ _ ef1
    have nf2f5 : f2 ≠ f5 := mne ef2 hf5
    have ef2 := lmL5 _ _ ef2
    have nf3f5 : f3 ≠ f5 := mne ef3 hf5
    have ef3 := lmL5 _ _ ef3
    have nf4f5 : f4 ≠ f5 := mne ef4 hf5
    have ef4 := lmL5 _ _ ef4
    have nla0f5 : la0 ≠ f5 := mne ela0 hf5
    have ela0 := lmL5 _ _ ela0
    walk_at "r"
    refine ⟨by walk_at "len", fun la1 hla1 => ?_⟩
    generalize hmA1 : up mL5 la1 _ = mA1
    obtain ⟨ela1, lmA1⟩ := nw hla1 hmA1
    have zla1 : m1 la1 = none := lq.none hla1
    have lq := lq.trans lmA1
    have hTc := lmA1 _ _ hTc
    have lc := lc.trans lmA1
    have dbad := dbad.le lmA1
    have nf1la1 : f1 ≠ la1 := mne ef1 hla1
    have ef1 := lmA1 _ _ ef1
    have nf2la1 : f2 ≠ la1 := mne ef2 hla1
    have ef2 := lmA1 _ _ ef2
    have nf3la1 : f3 ≠ la1 := mne ef3 hla1
    have ef3 := lmA1 _ _ ef3
    have nf4la1 : f4 ≠ la1 := mne ef4 hla1
    have ef4 := lmA1 _ _ ef4
    have nf5la1 : f5 ≠ la1 := mne ef5 hla1
    have ef5 := lmA1 _ _ ef5
    have nla0la1 : la0 ≠ la1 := mne ela0 hla1
    have ela0 := lmA1 _ _ ela0
    walk_at "r"
    refine ⟨_, _, ela0, ela1, by walk_at "len", fun lb1 hlb1 => ?_⟩
    generalize hmB1 : up mA1 lb1 _ = mB1
    obtain ⟨elb1, lmB1⟩ := nw hlb1 hmB1
    have zlb1 : m1 lb1 = none := lq.none hlb1
    have lq := lq.trans lmB1
    have hTc := lmB1 _ _ hTc
    have lc := lc.trans lmB1
    have dbad := dbad.le lmB1
    have nf1lb1 : f1 ≠ lb1 := mne ef1 hlb1
    have ef1 := lmB1 _ _ ef1
    have nf2lb1 : f2 ≠ lb1 := mne ef2 hlb1
    have ef2 := lmB1 _ _ ef2
    have nf3lb1 : f3 ≠ lb1 := mne ef3 hlb1
    have ef3 := lmB1 _ _ ef3
    have nf4lb1 : f4 ≠ lb1 := mne ef4 hlb1
    have ef4 := lmB1 _ _ ef4
    have nf5lb1 : f5 ≠ lb1 := mne ef5 hlb1
    have ef5 := lmB1 _ _ ef5
    walk_at "r"
    refine ⟨hTc, fun f6 hf6 => ?_⟩
    generalize hmL6 : up mB1 f6 _ = mL6
    obtain ⟨ef6, lmL6⟩ := nw hf6 hmL6
    have zf6 : m1 f6 = none := lq.none hf6
    have lq := lq.trans lmL6
    have hTc := lmL6 _ _ hTc
    have lc := lc.trans lmL6
    have dbad := dbad.le lmL6
    have nf1f6 : f1 ≠ f6 := mne ef1 hf6
    have ef1 := lmL6 _ _ ef1
    have nf2f6 : f2 ≠ f6 := mne ef2 hf6
    have ef2 := lmL6 _ _ ef2
    have nf3f6 : f3 ≠ f6 := mne ef3 hf6
    have ef3 := lmL6 _ _ ef3
    have nf4f6 : f4 ≠ f6 := mne ef4 hf6
    have ef4 := lmL6 _ _ ef4
    have nf5f6 : f5 ≠ f6 := mne ef5 hf6
    have ef5 := lmL6 _ _ ef5
    have nlb1f6 : lb1 ≠ f6 := mne elb1 hf6
    have elb1 := lmL6 _ _ elb1
    walk_at "r"
    refine ⟨hTc, fun f7 hf7 => ?_⟩
    generalize hmL7 : up mL6 f7 _ = mL7
    obtain ⟨ef7, lmL7⟩ := nw hf7 hmL7
    have zf7 : m1 f7 = none := lq.none hf7
    have lq := lq.trans lmL7
    have hTc := lmL7 _ _ hTc
    have lc := lc.trans lmL7
    have dbad := dbad.le lmL7
    have nf1f7 : f1 ≠ f7 := mne ef1 hf7
    have ef1 := lmL7 _ _ ef1
    have nf2f7 : f2 ≠ f7 := mne ef2 hf7
    have ef2 := lmL7 _ _ ef2
    have nf3f7 : f3 ≠ f7 := mne ef3 hf7
    have ef3 := lmL7 _ _ ef3
    have nf4f7 : f4 ≠ f7 := mne ef4 hf7
    have ef4 := lmL7 _ _ ef4
    have nf5f7 : f5 ≠ f7 := mne ef5 hf7
    have ef5 := lmL7 _ _ ef5
    have nf6f7 : f6 ≠ f7 := mne ef6 hf7
    have ef6 := lmL7 _ _ ef6
    have nlb1f7 : lb1 ≠ f7 := mne elb1 hf7
    have elb1 := lmL7 _ _ elb1
    walk_at "r"
    refine ⟨by walk_at "len", fun la2 hla2 => ?_⟩
    generalize hmA2 : up mL7 la2 _ = mA2
    obtain ⟨ela2, lmA2⟩ := nw hla2 hmA2
    have zla2 : m1 la2 = none := lq.none hla2
    have lq := lq.trans lmA2
    have hTc := lmA2 _ _ hTc
    have lc := lc.trans lmA2
    have dbad := dbad.le lmA2
    have nf1la2 : f1 ≠ la2 := mne ef1 hla2
    have ef1 := lmA2 _ _ ef1
    have nf2la2 : f2 ≠ la2 := mne ef2 hla2
    have ef2 := lmA2 _ _ ef2
    have nf3la2 : f3 ≠ la2 := mne ef3 hla2
    have ef3 := lmA2 _ _ ef3
    have nf4la2 : f4 ≠ la2 := mne ef4 hla2
    have ef4 := lmA2 _ _ ef4
    have nf5la2 : f5 ≠ la2 := mne ef5 hla2
    have ef5 := lmA2 _ _ ef5
    have nf6la2 : f6 ≠ la2 := mne ef6 hla2
    have ef6 := lmA2 _ _ ef6
    have nf7la2 : f7 ≠ la2 := mne ef7 hla2
    have ef7 := lmA2 _ _ ef7
    have nlb1la2 : lb1 ≠ la2 := mne elb1 hla2
    have elb1 := lmA2 _ _ elb1
    walk_at "r"
    refine ⟨_, _, elb1, ela2, by walk_at "len", fun lb2 hlb2 => ?_⟩
    generalize hmB2 : up mA2 lb2 _ = mB2
    obtain ⟨elb2, lmB2⟩ := nw hlb2 hmB2
    have zlb2 : m1 lb2 = none := lq.none hlb2
    have lq := lq.trans lmB2
    have hTc := lmB2 _ _ hTc
    have lc := lc.trans lmB2
    have dbad := dbad.le lmB2
    have nf1lb2 : f1 ≠ lb2 := mne ef1 hlb2
    have ef1 := lmB2 _ _ ef1
    have nf2lb2 : f2 ≠ lb2 := mne ef2 hlb2
    have ef2 := lmB2 _ _ ef2
    have nf3lb2 : f3 ≠ lb2 := mne ef3 hlb2
    have ef3 := lmB2 _ _ ef3
    have nf4lb2 : f4 ≠ lb2 := mne ef4 hlb2
    have ef4 := lmB2 _ _ ef4
    have nf5lb2 : f5 ≠ lb2 := mne ef5 hlb2
    have ef5 := lmB2 _ _ ef5
    have nf6lb2 : f6 ≠ lb2 := mne ef6 hlb2
    have ef6 := lmB2 _ _ ef6
    have nf7lb2 : f7 ≠ lb2 := mne ef7 hlb2
    have ef7 := lmB2 _ _ ef7
    walk_at "r"
    repeat (refine ⟨by walk_at "len", ?_⟩; walk_at "r")
    intro base'
    refine ⟨_, (.step (f := f1) (exB K bad i p) ef1 ?_ (.step (f := f2) (exB K bad i p) ((up_ne (Ne.symm nf1f2)).trans ef2) ?_ (.step (f := f3) (exB K bad i p) ((up_ne (Ne.symm nf2f3)).trans ((up_ne (Ne.symm nf1f3)).trans ef3)) ?_ (.step (f := f4) (exB K bad i p) ((up_ne (Ne.symm nf3f4)).trans ((up_ne (Ne.symm nf2f4)).trans ((up_ne (Ne.symm nf1f4)).trans ef4))) ?_ (.step (f := f5) (exB K bad i p) ((up_ne (Ne.symm nf4f5)).trans ((up_ne (Ne.symm nf3f5)).trans ((up_ne (Ne.symm nf2f5)).trans ((up_ne (Ne.symm nf1f5)).trans ef5)))) ?_ (.step (f := f6) (exB K bad i p) ((up_ne (Ne.symm nf5f6)).trans ((up_ne (Ne.symm nf4f6)).trans ((up_ne (Ne.symm nf3f6)).trans ((up_ne (Ne.symm nf2f6)).trans ((up_ne (Ne.symm nf1f6)).trans ef6))))) ?_ (.step (f := f7) (exB K bad i p) ((up_ne (Ne.symm nf6f7)).trans ((up_ne (Ne.symm nf5f7)).trans ((up_ne (Ne.symm nf4f7)).trans ((up_ne (Ne.symm nf3f7)).trans ((up_ne (Ne.symm nf2f7)).trans ((up_ne (Ne.symm nf1f7)).trans ef7)))))) ?_ (.refl _)))))))), ?_⟩
    · intro σ F H1 f c0 dV sr grd hf1 hc1 _ hd
      obtain rfl := hd
      refine act_core (k := 8) (fr := ["_law_bad_here"]) (N := ["_law_bad_here"]) (ps := []) (vs := []) (svs := []) (ws := [4].map (NdefX.slotAt σ)) (ds := [some (bad)]) (Z := fun _ => True) (NdefX.nscope_by ?nm) rfl (fun _ => .nil) (fun doc pm ctv s H hok hZ => ?bd)
        (grd.2 _ _ [4] (NdefX.Caps.made grd.1 (NdefX.ndef_free (sc := defScope s_law) (fr := ["_law_bad_here"]) (by decide +kernel)) (NdefX.ndef_fr (sc := defScope s_law) (fr := ["_law_bad_here"]) (by decide +kernel)) rfl)) (wr_of sr [4]) hf1 hc1 trivial (fun A2 outer2 sh2 H2 E2 hr => ⟨_, _, ge_call (okB_is_hushed (P := P) (w := w) (base := base') T) (hr.mono (by decide)) (by rfl) T.g_is_hushed T.k_is_hushed (Hn.b_is_hushed T) .nil (fun _ => .nil) passN (ga_cons (gv 0) (ga_cons ge_int (ga_cons (ge_un un_neg sim_neg ge_int) ga_nil))), fun m SX Sv h => ?_⟩)
      case nm => kernel_rfl
      case bd => exact ⟨[], .nil, .of_eq rfl⟩
      walk_at "r"
      exact ⟨_, _, _, _, rfl, rfl, h.1, hfb, .of (h.2 m (.refl m))⟩
    · intro σ F H1 f c0 dV sr grd hf1 hc1 _ hd
      obtain ⟨T0, rfl, hT0⟩ := hd
      refine act_core (k := 8) (fr := ["_law_bad_here"]) (N := ["_law_a", "_law_bad_here"]) (ps := ["_law_a"]) (vs := [.int 0]) (svs := [.int 0]) (ws := [4].map (NdefX.slotAt σ)) (ds := [some (bad)]) (Z := fun H => H T0 = some (.tup [.int 0])) (NdefX.nscope_by ?nm) rfl (fun _ => .cons (.int 0) .nil) (fun doc pm ctv s H hok hZ => ?bd)
        (grd.2 _ _ [4] (NdefX.Caps.made grd.1 (NdefX.ndef_free (sc := defScope s_law) (fr := ["_law_bad_here"]) (by decide +kernel)) (NdefX.ndef_fr (sc := defScope s_law) (fr := ["_law_bad_here"]) (by decide +kernel)) rfl)) (wr_of sr [4]) hf1 hc1 hT0 (fun A2 outer2 sh2 H2 E2 hr => ⟨_, _, ge_call (okB_free_from (P := P) (w := w) (base := base') T) (hr.mono (by decide)) (by rfl) T.g_free_from T.k_free_from (Hn.b_free_from T) .nil (fun _ => .nil) passN (ga_cons (gv 1) (ga_cons ge_int (ga_cons (ge_un un_neg sim_neg ge_int) ga_nil))), fun m SX Sv h => ?_⟩)
      case nm => kernel_rfl
      case bd => 
        obtain ⟨_, its, r, o, ho, hcl, n, hdt⟩ := hok T0 _ hZ
        obtain ⟨u, rfl, ru⟩ := r.one
        exact ⟨[u], r, .of_defaults (T := T0) rfl ho hdt rfl rfl⟩
      walk_at "r"
      exact ⟨_, _, _, _, rfl, rfl, h.1, hfb, .of (h.2 m (.refl m))⟩
    · intro σ F H1 f c0 dV sr grd hf1 hc1 _ hd
      obtain ⟨T0, rfl, hT0⟩ := hd
      refine act_core (k := 8) (fr := ["_law_bad_here"]) (N := ["_law_b", "_law_bad_here"]) (ps := ["_law_b"]) (vs := [.int 0]) (svs := [.int 0]) (ws := [4].map (NdefX.slotAt σ)) (ds := [some (bad)]) (Z := fun H => H T0 = some (.tup [.int 0])) (NdefX.nscope_by ?nm) rfl (fun _ => .cons (.int 0) .nil) (fun doc pm ctv s H hok hZ => ?bd)
        (grd.2 _ _ [4] (NdefX.Caps.made grd.1 (NdefX.ndef_free (sc := defScope s_law) (fr := ["_law_bad_here"]) (by decide +kernel)) (NdefX.ndef_fr (sc := defScope s_law) (fr := ["_law_bad_here"]) (by decide +kernel)) rfl)) (wr_of sr [4]) hf1 hc1 hT0 (fun A2 outer2 sh2 H2 E2 hr => ⟨_, _, ge_call (okB_chain (P := P) (w := w) (base := base') T) (hr.mono (by decide)) (by rfl) T.g_chain T.k_chain (Hn.b_chain T) .nil (fun _ => .nil) passN (ga_cons (gv 1) (ga_cons ge_int ga_nil)), fun m SX Sv h => ?_⟩)
      case nm => kernel_rfl
      case bd => 
        obtain ⟨_, its, r, o, ho, hcl, n, hdt⟩ := hok T0 _ hZ
        obtain ⟨u, rfl, ru⟩ := r.one
        exact ⟨[u], r, .of_defaults (T := T0) rfl ho hdt rfl rfl⟩
      walk_at "r"
      exact ⟨_, _, _, _, rfl, rfl, h.1, hfb, .of (h.2 m (.refl m))⟩
    · intro σ F H1 f c0 dV sr grd hf1 hc1 _ hd
      obtain ⟨T0, rfl, hT0⟩ := hd
      refine act_core (k := 8) (fr := ["_law_bad_here"]) (N := ["_law_c", "_law_bad_here"]) (ps := ["_law_c"]) (vs := [.int 0]) (svs := [.int 0]) (ws := [4].map (NdefX.slotAt σ)) (ds := [some (bad)]) (Z := fun H => H T0 = some (.tup [.int 0])) (NdefX.nscope_by ?nm) rfl (fun _ => .cons (.int 0) .nil) (fun doc pm ctv s H hok hZ => ?bd)
        (grd.2 _ _ [4] (NdefX.Caps.made grd.1 (NdefX.ndef_free (sc := defScope s_law) (fr := ["_law_bad_here"]) (by decide +kernel)) (NdefX.ndef_fr (sc := defScope s_law) (fr := ["_law_bad_here"]) (by decide +kernel)) rfl)) (wr_of sr [4]) hf1 hc1 hT0 (fun A2 outer2 sh2 H2 E2 hr => ⟨_, _, ge_call (okB_hushed_between (P := P) (w := w) (base := base') T) (hr.mono (by decide)) (by rfl) T.g_hushed_between T.k_hushed_between (Hn.b_hushed_between T) .nil (fun _ => .nil) passN (ga_cons (gv 1) (ga_cons ge_int (ga_cons (ge_un un_neg sim_neg ge_int) (ga_cons (ge_un un_neg sim_neg ge_int) ga_nil)))), fun m SX Sv h => ?_⟩)
      case nm => kernel_rfl
      case bd => 
        obtain ⟨_, its, r, o, ho, hcl, n, hdt⟩ := hok T0 _ hZ
        obtain ⟨u, rfl, ru⟩ := r.one
        exact ⟨[u], r, .of_defaults (T := T0) rfl ho hdt rfl rfl⟩
      walk_at "r"
      exact ⟨_, _, _, _, rfl, rfl, h.1, hfb, .of (h.2 m (.refl m))⟩
    · intro σ F H1 f c0 dV sr grd hf1 hc1 _ hd
      obtain ⟨T0, rfl, hT0⟩ := hd
      refine act_core (k := 8) (fr := ["_law_bad_here"]) (N := ["_law_d", "_law_bad_here"]) (ps := ["_law_d"]) (vs := [.int 0]) (svs := [.int 0]) (ws := [4].map (NdefX.slotAt σ)) (ds := [some (bad)]) (Z := fun H => H T0 = some (.tup [.int 0])) (NdefX.nscope_by ?nm) rfl (fun _ => .cons (.int 0) .nil) (fun doc pm ctv s H hok hZ => ?bd)
        (grd.2 _ _ [4] (NdefX.Caps.made grd.1 (NdefX.ndef_free (sc := defScope s_law) (fr := ["_law_bad_here"]) (by decide +kernel)) (NdefX.ndef_fr (sc := defScope s_law) (fr := ["_law_bad_here"]) (by decide +kernel)) rfl)) (wr_of sr [4]) hf1 hc1 hT0 (fun A2 outer2 sh2 H2 E2 hr => ⟨_, _, ge_callN (okB_walked (P := P) (w := w) (base := base') T) (hr.mono (by decide)) (by rfl) T.g_walked T.k_walked kb_walked_u passN (gS_walked_u T) (ga_cons (gv 1) (ga_cons (ge_lst (ga_cons ge_non ga_nil)) ga_nil)) (gk_cons (ge_un un_neg sim_neg ge_int) gk_nil), fun m SX Sv h => ?_⟩)
      case nm => kernel_rfl
      case bd => 
        obtain ⟨_, its, r, o, ho, hcl, n, hdt⟩ := hok T0 _ hZ
        obtain ⟨u, rfl, ru⟩ := r.one
        exact ⟨[u], r, .of_defaults (T := T0) rfl ho hdt rfl rfl⟩
      walk_at "r"
      refine ⟨by walk_at "len", fun p0 hp0 => ?_⟩
      walk_at "r"
      exact ⟨rfl, rfl, _, _, _, _, rfl, rfl, h.1.le (.new (.refl _) hp0), hfb, .of (h.2 _ (.new (.refl _) hp0))⟩
    · intro σ F H1 f c0 dV sr grd hf1 hc1 _ hd
      obtain ⟨T0, rfl, hT0⟩ := hd
      refine act_core (k := 8) (fr := ["_law_bad_here"]) (N := ["_law_f", "_law_bad_here"]) (ps := ["_law_f"]) (vs := [.int 0]) (svs := [.int 0]) (ws := [4].map (NdefX.slotAt σ)) (ds := [some (bad)]) (Z := fun H => H T0 = some (.tup [.int 0])) (NdefX.nscope_by ?nm) rfl (fun _ => .cons (.int 0) .nil) (fun doc pm ctv s H hok hZ => ?bd)
        (grd.2 _ _ [4] (NdefX.Caps.made grd.1 (NdefX.ndef_free (sc := defScope s_law) (fr := ["_law_bad_here"]) (by decide +kernel)) (NdefX.ndef_fr (sc := defScope s_law) (fr := ["_law_bad_here"]) (by decide +kernel)) rfl)) (wr_of sr [4]) hf1 hc1 hT0 (fun A2 outer2 sh2 H2 E2 hr => ⟨_, _, ge_callN (okB_wheeled (P := P) (w := w) (base := base') T) (hr.mono (by decide)) (by rfl) T.g_wheeled T.k_wheeled kb_wheeled_u passN (gS_wheeled_u T) (ga_cons (gv 1) (ga_cons (ge_lst (ga_cons ge_non ga_nil)) ga_nil)) (gk_cons (ge_un un_neg sim_neg ge_int) gk_nil), fun m SX Sv h => ?_⟩)
      case nm => kernel_rfl
      case bd => 
        obtain ⟨_, its, r, o, ho, hcl, n, hdt⟩ := hok T0 _ hZ
        obtain ⟨u, rfl, ru⟩ := r.one
        exact ⟨[u], r, .of_defaults (T := T0) rfl ho hdt rfl rfl⟩
      walk_at "r"
      refine ⟨by walk_at "len", fun p0 hp0 => ?_⟩
      walk_at "r"
      exact ⟨rfl, rfl, _, _, _, _, rfl, rfl, h.1.le (.new (.refl _) hp0), hfb, .of (h.2 _ (.new (.refl _) hp0))⟩
    · intro σ F H1 f c0 dV sr grd hf1 hc1 _ hd
      obtain ⟨T0, rfl, hT0⟩ := hd
      refine act_core (k := 8) (fr := ["_law_bad_here"]) (N := ["_law_g", "_law_bad_here"]) (ps := ["_law_g"]) (vs := [.int 0]) (svs := [.int 0]) (ws := [4].map (NdefX.slotAt σ)) (ds := [some (bad)]) (Z := fun H => H T0 = some (.tup [.int 0])) (NdefX.nscope_by ?nm) rfl (fun _ => .cons (.int 0) .nil) (fun doc pm ctv s H hok hZ => ?bd)
        (grd.2 _ _ [4] (NdefX.Caps.made grd.1 (NdefX.ndef_free (sc := defScope s_law) (fr := ["_law_bad_here"]) (by decide +kernel)) (NdefX.ndef_fr (sc := defScope s_law) (fr := ["_law_bad_here"]) (by decide +kernel)) rfl)) (wr_of sr [4]) hf1 hc1 hT0 (fun A2 outer2 sh2 H2 E2 hr => ⟨_, _, ge_call (okB_written (P := P) (w := w) (base := base') T) (hr.mono (by decide)) (by rfl) T.g_written T.k_written (Hn.b_written T) .nil (fun _ => .nil) passN (ga_cons (gv 1) (ga_cons (ge_lst (ga_cons ge_non ga_nil)) ga_nil)), fun m SX Sv h => ?_⟩)
      case nm => kernel_rfl
      case bd => 
        obtain ⟨_, its, r, o, ho, hcl, n, hdt⟩ := hok T0 _ hZ
        obtain ⟨u, rfl, ru⟩ := r.one
        exact ⟨[u], r, .of_defaults (T := T0) rfl ho hdt rfl rfl⟩
      walk_at "r"
      refine ⟨by walk_at "len", fun p0 hp0 => ?_⟩
      walk_at "r"
      exact ⟨_, _, _, _, rfl, rfl, h.1.le (.new (.refl _) hp0), hfb, .of (h.2 _ (.new (.refl _) hp0))⟩
    refine ⟨lb2, [f1, f2, f3, f4, f5, f6, f7], i, p, rfl, by rw [up_ne (Ne.symm nf7lb2), up_ne (Ne.symm nf6lb2), up_ne (Ne.symm nf5lb2), up_ne (Ne.symm nf4lb2), up_ne (Ne.symm nf3lb2), up_ne (Ne.symm nf2lb2), up_ne (Ne.symm nf1lb2)]; exact elb2, fun f' hf' => ?_, by simp, ?_⟩
    · simp only [List.mem_cons, List.not_mem_nil, or_false] at hf'
      rcases hf' with rfl | rfl | rfl | rfl | rfl | rfl | rfl
      · exact ⟨exB K bad i p, by rw [up_ne nf1f7, up_ne nf1f6, up_ne nf1f5, up_ne nf1f4, up_ne nf1f3, up_ne nf1f2]; exact up_same, fun m2 SX S2 l h => ⟨dbad0.le (Le.trans ((((((((lq).over zf1).over zf2).over zf3).over zf4).over zf5).over zf6).over zf7) l), h⟩⟩
      · exact ⟨exB K bad i p, by rw [up_ne nf2f7, up_ne nf2f6, up_ne nf2f5, up_ne nf2f4, up_ne nf2f3]; exact up_same, fun m2 SX S2 l h => ⟨dbad0.le (Le.trans ((((((((lq).over zf1).over zf2).over zf3).over zf4).over zf5).over zf6).over zf7) l), h⟩⟩
      · exact ⟨exB K bad i p, by rw [up_ne nf3f7, up_ne nf3f6, up_ne nf3f5, up_ne nf3f4]; exact up_same, fun m2 SX S2 l h => ⟨dbad0.le (Le.trans ((((((((lq).over zf1).over zf2).over zf3).over zf4).over zf5).over zf6).over zf7) l), h⟩⟩
      · exact ⟨exB K bad i p, by rw [up_ne nf4f7, up_ne nf4f6, up_ne nf4f5]; exact up_same, fun m2 SX S2 l h => ⟨dbad0.le (Le.trans ((((((((lq).over zf1).over zf2).over zf3).over zf4).over zf5).over zf6).over zf7) l), h⟩⟩
      · exact ⟨exB K bad i p, by rw [up_ne nf5f7, up_ne nf5f6]; exact up_same, fun m2 SX S2 l h => ⟨dbad0.le (Le.trans ((((((((lq).over zf1).over zf2).over zf3).over zf4).over zf5).over zf6).over zf7) l), h⟩⟩
      · exact ⟨exB K bad i p, by rw [up_ne nf6f7]; exact up_same, fun m2 SX S2 l h => ⟨dbad0.le (Le.trans ((((((((lq).over zf1).over zf2).over zf3).over zf4).over zf5).over zf6).over zf7) l), h⟩⟩
      · exact ⟨exB K bad i p, by  exact up_same, fun m2 SX S2 l h => ⟨dbad0.le (Le.trans ((((((((lq).over zf1).over zf2).over zf3).over zf4).over zf5).over zf6).over zf7) l), h⟩⟩
    generalize hmZ : up (up (up (up (up (up (up mB2 f1 _) f2 _) f3 _) f4 _) f5 _) f6 _) f7 _ = mf
    have lz : Le m' mf := by rw [← hmZ]; exact lc0.trans ((((((((lq).over zf1).over zf2).over zf3).over zf4).over zf5).over zf6).over zf7)
    walk_at "r"
    walk_at "f"
    walk_at "r"
    exact ⟨m', lz, rfl, _, _, _, _, _, _, rfl⟩
  · obtain ⟨rfl, a0, a1, a2, a3, a4, a5, rfl⟩ := h
    refine ⟨trivial, ?_⟩
    walk_at "r"
    exact .of (q _)
end
end Hn

set_option Elab.async false
set_option linter.all false
set_option maxRecDepth 100000
set_option maxHeartbeats 0
namespace Hn
open PySem PySem.Spec PyProof.Rows L2 Sy
theorem tx_of {w : World} {h : Heap} {K : PySem.W.Frag} {mg : Str → Option Value} (X : K.In h) (G : h.Ns mainGlobals mg) (c : He.SaysX fa fn [] tf exb w h K) : Nonempty (Tx K mg) := by
  obtain ⟨f0, F0⟩ := c.t.d.def_ 0 (d := d_is_number) rfl
  obtain ⟨f1, F1⟩ := c.t.d.def_ 1 (d := d_is_whole) rfl
  obtain ⟨f2, F2⟩ := c.t.d.def_ 2 (d := d_is_tuple_of) rfl
  obtain ⟨f3, F3⟩ := c.t.d.def_ 3 (d := d_is_tuple_up_to) rfl
  obtain ⟨f4, F4⟩ := c.t.d.def_ 4 (d := d_is_stretch) rfl
  obtain ⟨f5, F5⟩ := c.t.d.def_ 5 (d := d_can_be_hushed) rfl
  obtain ⟨f6, F6⟩ := c.t.d.def_ 6 (d := d_can_be_gather) rfl
  obtain ⟨f7, F7⟩ := c.t.d.def_ 7 (d := d_first_bad_part) rfl
  obtain ⟨f8, F8⟩ := c.t.d.def_ 8 (d := d_refuse_bad_rules) rfl
  obtain ⟨f9, F9⟩ := c.t.d.def_ 9 (d := d_refuse_bad_person) rfl
  obtain ⟨f10, F10⟩ := c.t.d.def_ 10 (d := d_refuse_bad_moment) rfl
  obtain ⟨f11, F11⟩ := c.t.d.def_ 11 (d := d_can_be_notice) rfl
  obtain ⟨f12, F12⟩ := c.t.d.def_ 12 (d := d_refuse_bad_notices) rfl
  obtain ⟨f13, F13⟩ := c.t.d.def_ 13 (d := d_can_be_hear) rfl
  obtain ⟨f14, F14⟩ := c.t.d.def_ 14 (d := d_refuse_bad_hears) rfl
  obtain ⟨f15, F15⟩ := c.t.d.def_ 15 (d := d_is_in_stretch) rfl
  obtain ⟨f16, F16⟩ := c.t.d.def_ 16 (d := d_hushed_hours) rfl
  obtain ⟨f17, F17⟩ := c.t.d.def_ 17 (d := d_judged_hours) rfl
  obtain ⟨f18, F18⟩ := c.t.d.def_ 18 (d := d_first_free) rfl
  obtain ⟨f19, F19⟩ := c.t.d.def_ 19 (d := d_hushed_ahead_of) rfl
  obtain ⟨f20, F20⟩ := c.t.d.def_ 20 (d := d_is_hushed) rfl
  obtain ⟨f21, F21⟩ := c.t.d.def_ 21 (d := d_free_from) rfl
  obtain ⟨f22, F22⟩ := c.t.d.def_ 22 (d := d_hushed_between) rfl
  obtain ⟨f23, F23⟩ := c.t.d.def_ 23 (d := d_row_of) rfl
  obtain ⟨f24, F24⟩ := c.t.d.def_ 24 (d := d_written) rfl
  obtain ⟨f25, F25⟩ := c.t.d.def_ 25 (d := d_judged_course) rfl
  obtain ⟨f26, F26⟩ := c.t.d.def_ 26 (d := d_walked) rfl
  obtain ⟨f27, F27⟩ := c.t.d.def_ 27 (d := d_wheeled) rfl
  obtain ⟨f28, F28⟩ := c.t.d.def_ 28 (d := d_chain) rfl
  obtain ⟨f29, F29⟩ := c.t.d.def_ 29 (d := d_law_begun) rfl
  obtain ⟨f30, F30⟩ := c.t.d.def_ 30 (d := d_law_take) rfl
  obtain ⟨f31, F31⟩ := c.t.d.def_ 31 (d := d_law_alike) rfl
  obtain ⟨f32, F32⟩ := c.t.d.def_ 32 (d := d_law_told) rfl
  obtain ⟨f33, F33⟩ := c.t.d.def_ 33 (d := d_law_all) rfl
  obtain ⟨f34, F34⟩ := c.t.d.def_ 34 (d := d_law_stretches) rfl
  obtain ⟨f35, F35⟩ := c.t.d.def_ 35 (d := d_law_rule) rfl
  obtain ⟨f36, F36⟩ := c.t.d.def_ 36 (d := d_law_rules) rfl
  obtain ⟨f37, F37⟩ := c.t.d.def_ 37 (d := d_law_odd_part) rfl
  obtain ⟨f38, F38⟩ := c.t.d.def_ 38 (d := d_law_bad) rfl
  obtain ⟨f39, F39⟩ := c.t.d.def_ 39 (d := d_law) rfl
  obtain ⟨f40, F40⟩ := c.t.d.def_ 40 (d := d_Person___init__) rfl
  obtain ⟨f41, F41⟩ := c.t.d.def_ 41 (d := d_Person_lets_by) rfl
  obtain ⟨f42, F42⟩ := c.t.d.def_ 42 (d := d_Notice___init__) rfl
  obtain ⟨f43, F43⟩ := c.t.d.def_ 43 (d := d_Notice_fate) rfl
  obtain ⟨f44, F44⟩ := c.t.d.def_ 44 (d := d_Course___init__) rfl
  obtain ⟨f45, F45⟩ := c.t.d.def_ 45 (d := d_Course_pass_moment) rfl
  obtain ⟨f46, F46⟩ := c.t.d.def_ 46 (d := d_Course_take_hears) rfl
  obtain ⟨f47, F47⟩ := c.t.d.def_ 47 (d := d_Course_shut_heaps) rfl
  obtain ⟨f48, F48⟩ := c.t.d.def_ 48 (d := d_Course_send_on) rfl
  obtain ⟨f49, F49⟩ := c.t.d.def_ 49 (d := d_Course_bring) rfl
  obtain ⟨f50, F50⟩ := c.t.d.def_ 50 (d := d_Course_tell_ready) rfl
  obtain ⟨f51, F51⟩ := c.t.d.def_ 51 (d := d_Course_tell) rfl
  obtain ⟨f52, F52⟩ := c.t.d.def_ 52 (d := d_Course_next_moment) rfl
  obtain ⟨f53, F53⟩ := c.t.d.def_ 53 (d := d_Course_outcome) rfl
  exact ⟨{
    fd_Person___init__ := f40
    F_Person___init__ := F40
    fd_Person_lets_by := f41
    F_Person_lets_by := F41
    fd_Notice___init__ := f42
    F_Notice___init__ := F42
    fd_Notice_fate := f43
    F_Notice_fate := F43
    fd_Course___init__ := f44
    F_Course___init__ := F44
    fd_Course_pass_moment := f45
    F_Course_pass_moment := F45
    fd_Course_take_hears := f46
    F_Course_take_hears := F46
    fd_Course_shut_heaps := f47
    F_Course_shut_heaps := F47
    fd_Course_send_on := f48
    F_Course_send_on := F48
    fd_Course_bring := f49
    F_Course_bring := F49
    fd_Course_tell_ready := f50
    F_Course_tell_ready := F50
    fd_Course_tell := f51
    F_Course_tell := F51
    fd_Course_next_moment := f52
    F_Course_next_moment := F52
    fd_Course_outcome := f53
    F_Course_outcome := F53
    c_Person := He.cls_ok (c.t.d.fact 134 (f := .cls "Person") rfl)
    mk_Person := He.mkr_ok (c.t.d.fact 135 (f := .mkr "Person") rfl)
    n_Person_hours := He.noat_ok (c.t.d.fact 136 (f := .noat "Person" "hours") rfl)
    n_Person_spans := He.noat_ok (c.t.d.fact 137 (f := .noat "Person" "spans") rfl)
    n_Person_least := He.noat_ok (c.t.d.fact 138 (f := .noat "Person" "least") rfl)
    n_Person_wait := He.noat_ok (c.t.d.fact 139 (f := .noat "Person" "wait") rfl)
    n_Person_further := He.noat_ok (c.t.d.fact 140 (f := .noat "Person" "further") rfl)
    M_Person___init__ := He.meth_ok (c.t.d.fact 141 (f := .meth "Person" "__init__") rfl)
    M_Person_lets_by := He.meth_ok (c.t.d.fact 142 (f := .meth "Person" "lets_by") rfl)
    c_Notice := He.cls_ok (c.t.d.fact 143 (f := .cls "Notice") rfl)
    mk_Notice := He.mkr_ok (c.t.d.fact 144 (f := .mkr "Notice") rfl)
    n_Notice_number := He.noat_ok (c.t.d.fact 145 (f := .noat "Notice" "number") rfl)
    n_Notice_went := He.noat_ok (c.t.d.fact 146 (f := .noat "Notice" "went") rfl)
    n_Notice_told := He.noat_ok (c.t.d.fact 147 (f := .noat "Notice" "told") rfl)
    n_Notice_goes_on := He.noat_ok (c.t.d.fact 148 (f := .noat "Notice" "goes_on") rfl)
    n_Notice_heard := He.noat_ok (c.t.d.fact 149 (f := .noat "Notice" "heard") rfl)
    n_Notice_given_up := He.noat_ok (c.t.d.fact 150 (f := .noat "Notice" "given_up") rfl)
    n_Notice_first := He.noat_ok (c.t.d.fact 151 (f := .noat "Notice" "first") rfl)
    n_Notice_rank := He.noat_ok (c.t.d.fact 152 (f := .noat "Notice" "rank") rfl)
    n_Notice_kind := He.noat_ok (c.t.d.fact 153 (f := .noat "Notice" "kind") rfl)
    n_Notice_born := He.noat_ok (c.t.d.fact 154 (f := .noat "Notice" "born") rfl)
    M_Notice___init__ := He.meth_ok (c.t.d.fact 155 (f := .meth "Notice" "__init__") rfl)
    M_Notice_fate := He.meth_ok (c.t.d.fact 156 (f := .meth "Notice" "fate") rfl)
    c_Course := He.cls_ok (c.t.d.fact 157 (f := .cls "Course") rfl)
    mk_Course := He.mkr_ok (c.t.d.fact 158 (f := .mkr "Course") rfl)
    n_Course_persons := He.noat_ok (c.t.d.fact 159 (f := .noat "Course" "persons") rfl)
    n_Course_notices := He.noat_ok (c.t.d.fact 160 (f := .noat "Course" "notices") rfl)
    n_Course_hears := He.noat_ok (c.t.d.fact 161 (f := .noat "Course" "hears") rfl)
    n_Course_heaps := He.noat_ok (c.t.d.fact 162 (f := .noat "Course" "heaps") rfl)
    n_Course_ready := He.noat_ok (c.t.d.fact 163 (f := .noat "Course" "ready") rfl)
    n_Course_rows := He.noat_ok (c.t.d.fact 164 (f := .noat "Course" "rows") rfl)
    M_Course___init__ := He.meth_ok (c.t.d.fact 165 (f := .meth "Course" "__init__") rfl)
    M_Course_pass_moment := He.meth_ok (c.t.d.fact 166 (f := .meth "Course" "pass_moment") rfl)
    M_Course_take_hears := He.meth_ok (c.t.d.fact 167 (f := .meth "Course" "take_hears") rfl)
    M_Course_shut_heaps := He.meth_ok (c.t.d.fact 168 (f := .meth "Course" "shut_heaps") rfl)
    M_Course_send_on := He.meth_ok (c.t.d.fact 169 (f := .meth "Course" "send_on") rfl)
    M_Course_bring := He.meth_ok (c.t.d.fact 170 (f := .meth "Course" "bring") rfl)
    M_Course_tell_ready := He.meth_ok (c.t.d.fact 171 (f := .meth "Course" "tell_ready") rfl)
    M_Course_tell := He.meth_ok (c.t.d.fact 172 (f := .meth "Course" "tell") rfl)
    M_Course_next_moment := He.meth_ok (c.t.d.fact 173 (f := .meth "Course" "next_moment") rfl)
    M_Course_outcome := He.meth_ok (c.t.d.fact 174 (f := .meth "Course" "outcome") rfl)
    fd_is_number := f0
    F_is_number := F0
    fd_is_whole := f1
    F_is_whole := F1
    fd_is_tuple_of := f2
    F_is_tuple_of := F2
    fd_is_tuple_up_to := f3
    F_is_tuple_up_to := F3
    fd_is_stretch := f4
    F_is_stretch := F4
    fd_can_be_hushed := f5
    F_can_be_hushed := F5
    fd_can_be_gather := f6
    F_can_be_gather := F6
    fd_first_bad_part := f7
    F_first_bad_part := F7
    fd_refuse_bad_rules := f8
    F_refuse_bad_rules := F8
    fd_refuse_bad_person := f9
    F_refuse_bad_person := F9
    fd_refuse_bad_moment := f10
    F_refuse_bad_moment := F10
    fd_can_be_notice := f11
    F_can_be_notice := F11
    fd_refuse_bad_notices := f12
    F_refuse_bad_notices := F12
    fd_can_be_hear := f13
    F_can_be_hear := F13
    fd_refuse_bad_hears := f14
    F_refuse_bad_hears := F14
    fd_is_in_stretch := f15
    F_is_in_stretch := F15
    fd_hushed_hours := f16
    F_hushed_hours := F16
    fd_judged_hours := f17
    F_judged_hours := F17
    fd_first_free := f18
    F_first_free := F18
    fd_hushed_ahead_of := f19
    F_hushed_ahead_of := F19
    fd_is_hushed := f20
    F_is_hushed := F20
    fd_free_from := f21
    F_free_from := F21
    fd_hushed_between := f22
    F_hushed_between := F22
    fd_row_of := f23
    F_row_of := F23
    fd_written := f24
    F_written := F24
    fd_judged_course := f25
    F_judged_course := F25
    fd_walked := f26
    F_walked := F26
    fd_wheeled := f27
    F_wheeled := F27
    fd_chain := f28
    F_chain := F28
    fd__law_begun := f29
    F__law_begun := F29
    fd__law_take := f30
    F__law_take := F30
    fd__law_alike := f31
    F__law_alike := F31
    fd__law_told := f32
    F__law_told := F32
    fd__law_all := f33
    F__law_all := F33
    fd__law_stretches := f34
    F__law_stretches := F34
    fd__law_rule := f35
    F__law_rule := F35
    fd__law_rules := f36
    F__law_rules := F36
    fd__law_odd_part := f37
    F__law_odd_part := F37
    fd__law_bad := f38
    F__law_bad := F38
    fd_law := f39
    F_law := F39
    g_is_number := He.glo_ok X G (c.t.d.fact 0 (f := .glo "is_number") rfl)
    k_is_number := F0.kp
    g_is_whole := He.glo_ok X G (c.t.d.fact 1 (f := .glo "is_whole") rfl)
    k_is_whole := F1.kp
    g_is_tuple_of := He.glo_ok X G (c.t.d.fact 2 (f := .glo "is_tuple_of") rfl)
    k_is_tuple_of := F2.kp
    g_is_tuple_up_to := He.glo_ok X G (c.t.d.fact 3 (f := .glo "is_tuple_up_to") rfl)
    k_is_tuple_up_to := F3.kp
    g_is_stretch := He.glo_ok X G (c.t.d.fact 4 (f := .glo "is_stretch") rfl)
    k_is_stretch := F4.kp
    g_can_be_hushed := He.glo_ok X G (c.t.d.fact 5 (f := .glo "can_be_hushed") rfl)
    k_can_be_hushed := F5.kp
    g_can_be_gather := He.glo_ok X G (c.t.d.fact 6 (f := .glo "can_be_gather") rfl)
    k_can_be_gather := F6.kp
    g_first_bad_part := He.glo_ok X G (c.t.d.fact 7 (f := .glo "first_bad_part") rfl)
    k_first_bad_part := F7.kp
    g_refuse_bad_rules := He.glo_ok X G (c.t.d.fact 8 (f := .glo "refuse_bad_rules") rfl)
    k_refuse_bad_rules := F8.kp
    g_refuse_bad_person := He.glo_ok X G (c.t.d.fact 9 (f := .glo "refuse_bad_person") rfl)
    k_refuse_bad_person := F9.kp
    g_refuse_bad_moment := He.glo_ok X G (c.t.d.fact 10 (f := .glo "refuse_bad_moment") rfl)
    k_refuse_bad_moment := F10.kp
    g_can_be_notice := He.glo_ok X G (c.t.d.fact 11 (f := .glo "can_be_notice") rfl)
    k_can_be_notice := F11.kp
    g_refuse_bad_notices := He.glo_ok X G (c.t.d.fact 12 (f := .glo "refuse_bad_notices") rfl)
    k_refuse_bad_notices := F12.kp
    g_can_be_hear := He.glo_ok X G (c.t.d.fact 13 (f := .glo "can_be_hear") rfl)
    k_can_be_hear := F13.kp
    g_refuse_bad_hears := He.glo_ok X G (c.t.d.fact 14 (f := .glo "refuse_bad_hears") rfl)
    k_refuse_bad_hears := F14.kp
    g_is_in_stretch := He.glo_ok X G (c.t.d.fact 15 (f := .glo "is_in_stretch") rfl)
    k_is_in_stretch := F15.kp
    g_hushed_hours := He.glo_ok X G (c.t.d.fact 16 (f := .glo "hushed_hours") rfl)
    k_hushed_hours := F16.kp
    g_judged_hours := He.glo_ok X G (c.t.d.fact 17 (f := .glo "judged_hours") rfl)
    k_judged_hours := F17.kp
    g_first_free := He.glo_ok X G (c.t.d.fact 18 (f := .glo "first_free") rfl)
    k_first_free := F18.kp
    g_hushed_ahead_of := He.glo_ok X G (c.t.d.fact 19 (f := .glo "hushed_ahead_of") rfl)
    k_hushed_ahead_of := F19.kp
    g_is_hushed := He.glo_ok X G (c.t.d.fact 20 (f := .glo "is_hushed") rfl)
    k_is_hushed := F20.kp
    g_free_from := He.glo_ok X G (c.t.d.fact 21 (f := .glo "free_from") rfl)
    k_free_from := F21.kp
    g_hushed_between := He.glo_ok X G (c.t.d.fact 22 (f := .glo "hushed_between") rfl)
    k_hushed_between := F22.kp
    g_row_of := He.glo_ok X G (c.t.d.fact 23 (f := .glo "row_of") rfl)
    k_row_of := F23.kp
    g_written := He.glo_ok X G (c.t.d.fact 24 (f := .glo "written") rfl)
    k_written := F24.kp
    g_judged_course := He.glo_ok X G (c.t.d.fact 25 (f := .glo "judged_course") rfl)
    k_judged_course := F25.kp
    g_walked := He.glo_ok X G (c.t.d.fact 26 (f := .glo "walked") rfl)
    k_walked := F26.kp
    g_wheeled := He.glo_ok X G (c.t.d.fact 27 (f := .glo "wheeled") rfl)
    k_wheeled := F27.kp
    g_chain := He.glo_ok X G (c.t.d.fact 28 (f := .glo "chain") rfl)
    k_chain := F28.kp
    g__law_begun := He.glo_ok X G (c.t.d.fact 29 (f := .glo "_law_begun") rfl)
    k__law_begun := F29.kp
    g__law_take := He.glo_ok X G (c.t.d.fact 30 (f := .glo "_law_take") rfl)
    k__law_take := F30.kp
    g__law_alike := He.glo_ok X G (c.t.d.fact 31 (f := .glo "_law_alike") rfl)
    k__law_alike := F31.kp
    g__law_told := He.glo_ok X G (c.t.d.fact 32 (f := .glo "_law_told") rfl)
    k__law_told := F32.kp
    g__law_all := He.glo_ok X G (c.t.d.fact 33 (f := .glo "_law_all") rfl)
    k__law_all := F33.kp
    g__law_stretches := He.glo_ok X G (c.t.d.fact 34 (f := .glo "_law_stretches") rfl)
    k__law_stretches := F34.kp
    g__law_rule := He.glo_ok X G (c.t.d.fact 35 (f := .glo "_law_rule") rfl)
    k__law_rule := F35.kp
    g__law_rules := He.glo_ok X G (c.t.d.fact 36 (f := .glo "_law_rules") rfl)
    k__law_rules := F36.kp
    g__law_odd_part := He.glo_ok X G (c.t.d.fact 37 (f := .glo "_law_odd_part") rfl)
    k__law_odd_part := F37.kp
    g__law_bad := He.glo_ok X G (c.t.d.fact 38 (f := .glo "_law_bad") rfl)
    k__law_bad := F38.kp
    g_law := He.glo_ok X G (c.t.d.fact 39 (f := .glo "law") rfl)
    k_law := F39.kp
    g_NoticeError := He.glo_ok X G (c.t.d.fact 40 (f := .glo "NoticeError") rfl)
    k_NoticeError := He.keep_ok (c.t.d.fact 103 (f := .keep "NoticeError") rfl)
    g_BadRules := He.glo_ok X G (c.t.d.fact 41 (f := .glo "BadRules") rfl)
    k_BadRules := He.keep_ok (c.t.d.fact 104 (f := .keep "BadRules") rfl)
    g_BadPerson := He.glo_ok X G (c.t.d.fact 42 (f := .glo "BadPerson") rfl)
    k_BadPerson := He.keep_ok (c.t.d.fact 105 (f := .keep "BadPerson") rfl)
    g_BadMoment := He.glo_ok X G (c.t.d.fact 43 (f := .glo "BadMoment") rfl)
    k_BadMoment := He.keep_ok (c.t.d.fact 106 (f := .keep "BadMoment") rfl)
    g_BadNotices := He.glo_ok X G (c.t.d.fact 44 (f := .glo "BadNotices") rfl)
    k_BadNotices := He.keep_ok (c.t.d.fact 107 (f := .keep "BadNotices") rfl)
    g_BadHears := He.glo_ok X G (c.t.d.fact 45 (f := .glo "BadHears") rfl)
    k_BadHears := He.keep_ok (c.t.d.fact 108 (f := .keep "BadHears") rfl)
    g_BadDevice := He.glo_ok X G (c.t.d.fact 46 (f := .glo "BadDevice") rfl)
    k_BadDevice := He.keep_ok (c.t.d.fact 109 (f := .keep "BadDevice") rfl)
    g_BadBell := He.glo_ok X G (c.t.d.fact 47 (f := .glo "BadBell") rfl)
    k_BadBell := He.keep_ok (c.t.d.fact 110 (f := .keep "BadBell") rfl)
    g_NotRinging := He.glo_ok X G (c.t.d.fact 48 (f := .glo "NotRinging") rfl)
    k_NotRinging := He.keep_ok (c.t.d.fact 111 (f := .keep "NotRinging") rfl)
    g_IsOff := He.glo_ok X G (c.t.d.fact 49 (f := .glo "IsOff") rfl)
    k_IsOff := He.keep_ok (c.t.d.fact 112 (f := .keep "IsOff") rfl)
    g_BadText := He.glo_ok X G (c.t.d.fact 50 (f := .glo "BadText") rfl)
    k_BadText := He.keep_ok (c.t.d.fact 113 (f := .keep "BadText") rfl)
    g_Person := He.glo_ok X G (c.t.d.fact 51 (f := .glo "Person") rfl)
    k_Person := He.keep_ok (c.t.d.fact 114 (f := .keep "Person") rfl)
    g_Notice := He.glo_ok X G (c.t.d.fact 52 (f := .glo "Notice") rfl)
    k_Notice := He.keep_ok (c.t.d.fact 115 (f := .keep "Notice") rfl)
    g_Course := He.glo_ok X G (c.t.d.fact 53 (f := .glo "Course") rfl)
    k_Course := He.keep_ok (c.t.d.fact 116 (f := .keep "Course") rfl)
    x_NoticeError := (He.exc_ok (c.t.d.fact 73 (f := .exc "NoticeError") rfl)).1
    e_NoticeError := (He.exc_ok (c.t.d.fact 73 (f := .exc "NoticeError") rfl)).2.2.1
    t_NoticeError := (He.exc_ok (c.t.d.fact 73 (f := .exc "NoticeError") rfl)).2.2.2
    x_BadPerson := (He.exc_ok (c.t.d.fact 74 (f := .exc "BadPerson") rfl)).1
    e_BadPerson := (He.exc_ok (c.t.d.fact 74 (f := .exc "BadPerson") rfl)).2.2.1
    t_BadPerson := (He.exc_ok (c.t.d.fact 74 (f := .exc "BadPerson") rfl)).2.2.2
    x_BadMoment := (He.exc_ok (c.t.d.fact 75 (f := .exc "BadMoment") rfl)).1
    e_BadMoment := (He.exc_ok (c.t.d.fact 75 (f := .exc "BadMoment") rfl)).2.2.1
    t_BadMoment := (He.exc_ok (c.t.d.fact 75 (f := .exc "BadMoment") rfl)).2.2.2
    x_BadDevice := (He.exc_ok (c.t.d.fact 76 (f := .exc "BadDevice") rfl)).1
    e_BadDevice := (He.exc_ok (c.t.d.fact 76 (f := .exc "BadDevice") rfl)).2.2.1
    t_BadDevice := (He.exc_ok (c.t.d.fact 76 (f := .exc "BadDevice") rfl)).2.2.2
    x_BadBell := (He.exc_ok (c.t.d.fact 77 (f := .exc "BadBell") rfl)).1
    e_BadBell := (He.exc_ok (c.t.d.fact 77 (f := .exc "BadBell") rfl)).2.2.1
    t_BadBell := (He.exc_ok (c.t.d.fact 77 (f := .exc "BadBell") rfl)).2.2.2
    x_NotRinging := (He.exc_ok (c.t.d.fact 78 (f := .exc "NotRinging") rfl)).1
    e_NotRinging := (He.exc_ok (c.t.d.fact 78 (f := .exc "NotRinging") rfl)).2.2.1
    t_NotRinging := (He.exc_ok (c.t.d.fact 78 (f := .exc "NotRinging") rfl)).2.2.2
    x_IsOff := (He.exc_ok (c.t.d.fact 79 (f := .exc "IsOff") rfl)).1
    e_IsOff := (He.exc_ok (c.t.d.fact 79 (f := .exc "IsOff") rfl)).2.2.1
    t_IsOff := (He.exc_ok (c.t.d.fact 79 (f := .exc "IsOff") rfl)).2.2.2
    i_MOST_PERSONS := He.int_ok X G (c.t.d.fact 80 (f := .int "MOST_PERSONS" (6)) rfl)
    i_MANY_PARTS := He.int_ok X G (c.t.d.fact 81 (f := .int "MANY_PARTS" (5)) rfl)
    i_MOST_STRETCHES := He.int_ok X G (c.t.d.fact 82 (f := .int "MOST_STRETCHES" (3)) rfl)
    i_LAST_HOUR := He.int_ok X G (c.t.d.fact 83 (f := .int "LAST_HOUR" (23)) rfl)
    i_MOST_LEAST := He.int_ok X G (c.t.d.fact 84 (f := .int "MOST_LEAST" (4)) rfl)
    i_MOST_GATHERED := He.int_ok X G (c.t.d.fact 85 (f := .int "MOST_GATHERED" (4)) rfl)
    i_LAST_KIND := He.int_ok X G (c.t.d.fact 86 (f := .int "LAST_KIND" (7)) rfl)
    i_MOST_SPAN := He.int_ok X G (c.t.d.fact 87 (f := .int "MOST_SPAN" (12)) rfl)
    i_MOST_WAIT := He.int_ok X G (c.t.d.fact 88 (f := .int "MOST_WAIT" (24)) rfl)
    i_LAST_MOMENT := He.int_ok X G (c.t.d.fact 89 (f := .int "LAST_MOMENT" (1000000)) rfl)
    i_MOST_NOTICES := He.int_ok X G (c.t.d.fact 90 (f := .int "MOST_NOTICES" (30)) rfl)
    i_LAST_RANK := He.int_ok X G (c.t.d.fact 91 (f := .int "LAST_RANK" (3)) rfl)
    i_LAST_BORN := He.int_ok X G (c.t.d.fact 92 (f := .int "LAST_BORN" (300)) rfl)
    i_MOST_HEARS := He.int_ok X G (c.t.d.fact 93 (f := .int "MOST_HEARS" (60)) rfl)
    i_LAST_HEAR := He.int_ok X G (c.t.d.fact 94 (f := .int "LAST_HEAR" (600)) rfl)
    i_NO_PART := He.int_ok X G (c.t.d.fact 95 (f := .int "NO_PART" (-1)) rfl)
    i_DAY := He.int_ok X G (c.t.d.fact 96 (f := .int "DAY" (24)) rfl)
    i_MOST_UNTIL := He.int_ok X G (c.t.d.fact 97 (f := .int "MOST_UNTIL" (600)) rfl)
    i_PERSON := He.str_ok X G (c.t.d.fact 98 (f := .str "PERSON" "person") rfl)
    i_HUSH := He.str_ok X G (c.t.d.fact 99 (f := .str "HUSH" "hush") rfl)
    i_GATHER := He.str_ok X G (c.t.d.fact 100 (f := .str "GATHER" "gather") rfl)
    i_NOTICE := He.str_ok X G (c.t.d.fact 101 (f := .str "NOTICE" "notice") rfl)
    i_NONE := He.str_ok X G (c.t.d.fact 102 (f := .str "NONE" "-") rfl)
    z_isinstance := He.free_ok X G (c.t.d.fact 54 (f := .free "isinstance") rfl)
    z_bool := He.free_ok X G (c.t.d.fact 55 (f := .free "bool") rfl)
    z_int := He.free_ok X G (c.t.d.fact 56 (f := .free "int") rfl)
    z_tuple := He.free_ok X G (c.t.d.fact 57 (f := .free "tuple") rfl)
    z_list := He.free_ok X G (c.t.d.fact 58 (f := .free "list") rfl)
    z_len := He.free_ok X G (c.t.d.fact 59 (f := .free "len") rfl)
    z_all := He.free_ok X G (c.t.d.fact 60 (f := .free "all") rfl)
    z_any := He.free_ok X G (c.t.d.fact 61 (f := .free "any") rfl)
    z_range := He.free_ok X G (c.t.d.fact 62 (f := .free "range") rfl)
    z_min := He.free_ok X G (c.t.d.fact 63 (f := .free "min") rfl)
    z_max := He.free_ok X G (c.t.d.fact 64 (f := .free "max") rfl)
    z_sum := He.free_ok X G (c.t.d.fact 65 (f := .free "sum") rfl)
    z_str := He.free_ok X G (c.t.d.fact 66 (f := .free "str") rfl)
    z_sorted := He.free_ok X G (c.t.d.fact 67 (f := .free "sorted") rfl)
    z_enumerate := He.free_ok X G (c.t.d.fact 68 (f := .free "enumerate") rfl)
    z_zip := He.free_ok X G (c.t.d.fact 69 (f := .free "zip") rfl)
    z_dict := He.free_ok X G (c.t.d.fact 70 (f := .free "dict") rfl)
    z_set := He.free_ok X G (c.t.d.fact 71 (f := .free "set") rfl)
    z_ValueError := He.free_ok X G (c.t.d.fact 72 (f := .free "ValueError") rfl)
    e_walked_hears := emB_ok ((He.ba (He.ba (He.ba (He.ba (He.ba (He.ba c.more).1).1).1).1).1).2)
    e_wheeled_hears := emB_ok ((He.ba (He.ba (He.ba (He.ba (He.ba c.more).1).1).1).1).2) }⟩
theorem kd_BadRules {w : World} {h : Heap} {K : PySem.W.Frag} (c : He.SaysX fa fn [] tf exb w h K) : Kd_BadRules K := by
  obtain ⟨h1, h2, h3⟩ := exOne_ok ((He.ba (He.ba (He.ba (He.ba (He.ba (He.ba c.more).1).1).1).1).1).1)
  exact ⟨h1, He.exm_ok (c.t.d.fact 118 (f := .exm "BadRules" "NoticeError" true) rfl), h2, h3 ("BadBell", false) (List.mem_of_getElem? (i := 0) rfl), h3 ("BadDevice", false) (List.mem_of_getElem? (i := 1) rfl), h3 ("BadHears", false) (List.mem_of_getElem? (i := 2) rfl), h3 ("BadMoment", false) (List.mem_of_getElem? (i := 3) rfl), h3 ("BadNotices", false) (List.mem_of_getElem? (i := 4) rfl), h3 ("BadPerson", false) (List.mem_of_getElem? (i := 5) rfl), h3 ("BadRules", true) (List.mem_of_getElem? (i := 6) rfl), h3 ("BadText", false) (List.mem_of_getElem? (i := 7) rfl), h3 ("IsOff", false) (List.mem_of_getElem? (i := 8) rfl), h3 ("NotRinging", false) (List.mem_of_getElem? (i := 9) rfl)⟩
theorem own_of {w : World} {h : Heap} {K : PySem.W.Frag} {mg : Str → Option Value} (X : K.In h) (G : h.Ns mainGlobals mg) (c : Sy.SaysC fa fn [] tf cs exb w h K) : Own PySem.Challenge.rw_hushnotice_k01_rules_refused.prog K mg where
  zs := He.free_ok X G (c.x.t.d.fact 128 (f := .free "super") rfl)
  k_BadRules := { k := Sy.supB_ok (c.at 0) ((He.ba (He.ba (He.ba (He.ba c.x.more).1).1).1).2) (by decide +kernel), na_person := He.noat_ok (c.x.t.d.fact 129 (f := .noat "BadRules" "person") rfl), na_part := He.noat_ok (c.x.t.d.fact 130 (f := .noat "BadRules" "part") rfl) }
  k_BadNotices := { k := Sy.supB_ok (c.at 1) ((He.ba (He.ba (He.ba c.x.more).1).1).2) (by decide +kernel), na_number := He.noat_ok (c.x.t.d.fact 131 (f := .noat "BadNotices" "number") rfl) }
  k_BadHears := { k := Sy.supB_ok (c.at 2) ((He.ba (He.ba c.x.more).1).2) (by decide +kernel), na_number := He.noat_ok (c.x.t.d.fact 132 (f := .noat "BadHears" "number") rfl) }
  k_BadText := { k := Sy.supB_ok (c.at 3) ((He.ba c.x.more).2) (by decide +kernel), na_row := He.noat_ok (c.x.t.d.fact 133 (f := .noat "BadText" "row") rfl) }
end Hn
open PySem PySem.W PySem.Calls PyProof.Rows
theorem PySem.Challenge.cw_hushnotice_k01_rules_refused_holds : PySem.Challenge.rw_hushnotice_k01_rules_refused.Holds := by
  w_on; o_law
  refine HandSHeadRun.head_any (r := OpenLaw.row PySem.Challenge.rw_hushnotice_k01_rules_refused) (q := view (OpenLaw.row PySem.Challenge.rw_hushnotice_k01_rules_refused).prog [83]) (H := Hn.hk) (ob := Hn.ob) (M := 8000) (loose := Hn.names) (d := HandSHeadRun.topDef (OpenLaw.row PySem.Challenge.rw_hushnotice_k01_rules_refused).prog 83) (kwd := []) Hn.ob_eq
    (by kernel_rfl) (fun s => by kernel_rfl) Hn.run (by kernel_rfl) (by kernel_rfl) (by kernel_rfl) (by rfl) (by first | assumption | decide +kernel) (by decide +kernel) ⟨rfl, rfl, rfl, rfl, rfl, by decide +kernel⟩ ?hw ?hc
  case hw => w_witness2
  case hc =>
    refine LamX.walk_ofTsE (l := PySem.Challenge.rw_hushnotice_k01_rules_refused) (n := 63) (k := 20) (CX := fun w => L2.CX PySem.Challenge.rw_hushnotice_k01_rules_refused.prog w) (x := "_law_script") rfl (by decide) rfl ⟨rfl, by decide, by decide⟩ (fun w mg fa h hY hns hmg => ?_) (fun w H s e s' hx => ?_)
    · obtain ⟨K, X, c⟩ := hY
      obtain ⟨T⟩ := Hn.tx_of X hns c.x
      have ef : fa = He.ga K "law" := by
        have z : mg "law" = some (.ref fa) := hmg
        rw [T.g_law] at z
        cases z
        rfl
      subst ef
      refine ⟨K, X, T.fd_law, Hn.tf.map fun p => He.cT K p, Sy.lift K (Hn.spLaw (He.cT K ("law", none)).2 Hn.nm0), fun p hp => ?_, fun p hp => ?_, fun p hp => ?_, fun s u => ?_, fun H a ns hl hb ht hq => ?_, fun base XB GB TB => ?_⟩
      · obtain ⟨q, hq, rfl⟩ := List.mem_map.mp hp
        exact c.x.empty q hq
      · obtain ⟨q, hq, rfl⟩ := List.mem_map.mp hp
        exact c.x.out q hq
      · obtain ⟨q, hq, rfl⟩ := List.mem_map.mp hp
        exact PySem.W.codeHd_of_K X (c.x.hd q hq)
      · obtain ⟨oc, od, dV, kV, doc, pm, an, cdv, ct, osl, e, lk, hcd, hD, hK⟩ := T.F_law.ex
        rw [e]
        rcases hD with ⟨_, rfl⟩ | ⟨n, _⟩
        · exact .of_eq rfl
        · exact absurd rfl n
      · have hmem : He.cT K ("law", none) ∈ Hn.tf.map fun p => He.cT K p := List.mem_map.mpr ⟨_, List.mem_singleton.mpr rfl, rfl⟩
        have h0 := ht _ hmem
        refine ⟨fun y => match H y with | some (.lst xs) => some (.lst xs) | some (.frz o u) => some (.frz o u) | _ => none, [.lst (ns.map .int)], fun b => if b = (He.cT K ("law", none)).2 then some (.tab Hn.nm0) else none, fun _ _ => False, fun v _ => v = .bl true, ⟨fun y o e => ?_, fun b u hu => ?_⟩, .cons (.lst (vs := ns.map L2.V.int) ?_ (Sy.vrs_of_ints ns)) .nil, ⟨ns, rfl, hl, by simp, fun _ => rfl⟩, fun x d F' H' m' _ _ _ z => z.elim, fun v F' H' sv m' _ _ rv e => ?_⟩
        · show H y = some o
          have e : (match H y with | some (.lst xs) => some (.lst xs) | some (.frz o u) => some (.frz o u) | _ => none : Option L2.HO) = some o := e
          split at e
          · rename_i q
            rw [q, e]
          · rename_i q
            rw [q, e]
          · cases e
        · have hu : (if b = (He.cT K ("law", none)).2 then some (Sy.MO.tab Hn.nm0) else none) = some u := hu
          split at hu
          · rename_i e
            cases hu
            refine ⟨?_, ?_⟩
            · show (match H b with | some (.lst xs) => some (.lst xs) | some (.frz o u) => some (.frz o u) | _ => none : Option L2.HO) = none
              rw [e, h0]
            · rw [e]
              exact .nil h0
          · cases hu
        · rcases hq with (hq | ⟨o, hq⟩) | hq
          · refine .inl (.inl ?_)
            show (match H a with | some (.lst xs) => some (.lst xs) | some (.frz o u) => some (.frz o u) | _ => none : Option L2.HO) = _
            rw [hq]
          · refine .inl (.inr ⟨o, ?_⟩)
            show (match H a with | some (.lst xs) => some (.lst xs) | some (.frz o u) => some (.frz o u) | _ => none : Option L2.HO) = _
            rw [hq]
          · exact .inr hq
        · subst e
          cases rv
          rfl
      · exact (haveI := Hn.own_of X hns c; Hn.ok_law T (Hn.kd_BadRules c.x) (TB _ (List.mem_map.mpr ⟨_, List.mem_singleton.mpr rfl, rfl⟩)))
    · obtain ⟨_, _, _, _, _, _, _, _, _, _, _, _, z⟩ := hx
      exact z

